import PyProof.Rows.All
import Wide.All
import OpenK.AllK
import Wide.FinOn
import HandS.ForMost
import HandS.ForExc
import HandS.TupAny
import HandS.Wide
import HandS.Codes
import HandS.StrMore
import HandS.RaiseMore
import HandS.FStr
import HandS.More
import HandS.IsInst
import HandS.Style
import HandS.Deep
import HandS.Text
import HandS.TupLen
import HandS.Flow
import HandS.Iter
import HandS.Comp
import HandS.Exc
import HandS.CallSlots
import HandS.Words
import HandS.WordsExc
import HandS.Zip
import KE.GoesMore
import KE.GoesEnum
import KE.GoesZip
import HandS.Rev
import HandS.EndBits
import HandS.HeadHook3
import HandS.DictComp
import HandS.SetKeys
import HandS.Conv
import HandS.SortInts
import HandS.CallLocal
import PyProof.StrLawsIn
import HandS.WideBits
import HandS.TupMul
import KE.KDictZip
import HandS.SetFor
import HandS.Strs
import HandS.SortKw
import KE.DataMinMax
import HandS.List
import HandS.Head0
import HandS.Head1
import HandS.Head2
import HandS.HeadHook1
import Wide.Once
import KE.BitLaws
import KE.OsArith
import PySem.Challenge.RW_sameclock_k61_programs_run_row_by_row
set_option Elab.async false
set_option linter.all false
set_option maxRecDepth 100000
namespace Ly
open PySem PySem.Spec L2
open PyProof.Rows hiding St
inductive D where
  | non | bl (b : Bool) | int (i : Int) | str (x : Str) | tup (xs : List D) | wt (xs : List D) | wl (xs : List D) | ref (i : Nat) | cst (a : Addr)
inductive O where
  | lst (xs : List D) | rol (xs : List D) | dic (kvs : List (Key × D)) | dit (kvs : List (List Key × D)) | ins (C : Addr) (fs : List (Str × D))
abbrev Hs := List O
abbrev Ls := List (Option D)
def Wt (K : PySem.W.Frag) (a : Addr) (xs : List V) : Prop :=
  ∃ (o : Obj) (its : Array Value) (n : Nat), K.lookup a = some o ∧ o.cls = .type "tuple" ∧ o.data = .seq its n ∧ its.size ≤ sizeLine ∧ Vals xs its.toList
def Wl (K : PySem.W.Frag) (a : Addr) (xs : List V) : Prop :=
  ∃ (o : Obj) (its : Array Value) (n : Nat), K.lookup a = some o ∧ o.cls = .type "list" ∧ o.dict = none ∧ o.data = .seq its n ∧ its.size ≤ sizeLine ∧ Vals xs its.toList
theorem Wl.sq {K : PySem.W.Frag} {H : Hp} {a : Addr} {xs : List V} (h : Wl K a xs) : SqL K H a xs := .inr h
theorem Wt.sq {K : PySem.W.Frag} {H : Hp} {a : Addr} {xs : List V} (h : Wt K a xs) : SqT K H a xs := .inr h
section
variable (K : PySem.W.Frag) (pi : Nat → Addr) (n : Nat) (H : Hp)
mutual
inductive Rep : D → V → Prop
  | non : Rep .non .non
  | bl (b : Bool) : Rep (.bl b) (.bl b)
  | int (i : Int) : Rep (.int i) (.int i)
  | str (x : Str) : Rep (.str x) (.str x)
  | tup {a : Addr} {ds : List D} {xs : List V} : H a = some (.tup xs) → Reps ds xs → Rep (.tup ds) (.ref a)
  | wt {a : Addr} {ds : List D} {xs : List V} : Wt K a xs → Reps ds xs → Rep (.wt ds) (.ref a)
  | wl {a : Addr} {ds : List D} {xs : List V} : Wl K a xs → Reps ds xs → Rep (.wl ds) (.ref a)
  | ref {i : Nat} : i < n → Rep (.ref i) (.ref (pi i))
  | cst (a : Addr) : Rep (.cst a) (.ref a)
inductive Reps : List D → List V → Prop
  | nil : Reps [] []
  | cons {d : D} {ds : List D} {v : V} {vs : List V} : Rep d v → Reps ds vs → Reps (d :: ds) (v :: vs)
end
inductive Sl : Ls → St → Prop
  | nil : Sl [] []
  | no {l : Ls} {s : St} (o : Option V) : Sl l s → Sl (none :: l) (o :: s)
  | yes {l : Ls} {s : St} {d : D} {v : V} : Rep K pi n H d v → Sl l s → Sl (some d :: l) (some v :: s)
def RO (a : Addr) : O → Prop
  | .lst ds => ∃ xs, H a = some (.lst xs) ∧ Reps K pi n H ds xs
  | .rol ds => ∃ o xs, H a = some (.frz o (.lst xs)) ∧ Reps K pi n H ds xs
  | .dic kvs => ∃ ks, H a = some (.dK ks) ∧ ks.map (·.1) = kvs.map (·.1) ∧ Reps K pi n H (kvs.map (·.2)) (ks.map (·.2))
  | .dit kvs => ∃ ks, H a = some (.dT ks) ∧ ks.map (·.1) = kvs.map (·.1) ∧ Reps K pi n H (kvs.map (·.2)) (ks.map (·.2))
  | .ins C fs => ∃ dx ks, H a = some (.ins C dx ks) ∧ ks.map (·.1) = fs.map (·.1) ∧ Reps K pi n H (fs.map (·.2)) (ks.map (·.2))
end
structure Real (K : PySem.W.Frag) (pi : Nat → Addr) (S : Hs) (H : Hp) : Prop where
  ob : ∀ i o, S[i]? = some o → RO K pi S.length H (pi i) o
  inj : ∀ i j, i < S.length → j < S.length → pi i = pi j → i = j
structure Ext (n m : Nat) (pi pi' : Nat → Addr) (H H' : Hp) : Prop where
  le : n ≤ m
  ag : ∀ i, i < n → pi' i = pi i
  tp : ∀ a xs, H a = some (.tup xs) → H' a = some (.tup xs)
theorem Ext.refl {n : Nat} {pi : Nat → Addr} {H : Hp} : Ext n n pi pi H H := ⟨Nat.le_refl _, fun _ _ => rfl, fun _ _ h => h⟩
theorem Ext.trans {n m k : Nat} {p q r : Nat → Addr} {H H1 H2 : Hp} (a : Ext n m p q H H1) (b : Ext m k q r H1 H2) : Ext n k p r H H2 :=
  ⟨Nat.le_trans a.le b.le, fun i h => (b.ag i (Nat.lt_of_lt_of_le h a.le)).trans (a.ag i h), fun x xs h => b.tp x xs (a.tp x xs h)⟩
section
variable {K : PySem.W.Frag} {pi pi' : Nat → Addr} {n m : Nat} {H H' : Hp}
mutual
theorem Rep.ext (x : Ext n m pi pi' H H') : ∀ (d : D) (v : V), Rep K pi n H d v → Rep K pi' m H' d v
  | .non, _, .non => .non
  | .bl _, _, .bl _ => .bl _
  | .int _, _, .int _ => .int _
  | .str _, _, .str _ => .str _
  | .tup ds, _, .tup t r => .tup (x.tp _ _ t) (Reps.ext x ds _ r)
  | .wt ds, _, .wt t r => .wt t (Reps.ext x ds _ r)
  | .wl ds, _, .wl t r => .wl t (Reps.ext x ds _ r)
  | .ref i, _, .ref h => by rw [← x.ag i h]; exact .ref (Nat.lt_of_lt_of_le h x.le)
  | .cst _, _, .cst _ => .cst _
theorem Reps.ext (x : Ext n m pi pi' H H') : ∀ (d : List D) (v : List V), Reps K pi n H d v → Reps K pi' m H' d v
  | [], _, .nil => .nil
  | d :: ds, _, .cons r s => .cons (Rep.ext x d _ r) (Reps.ext x ds _ s)
end
theorem Sl.ext (x : Ext n m pi pi' H H') {l : Ls} {s : St} (h : Sl K pi n H l s) : Sl K pi' m H' l s := by
  induction h with
  | nil => exact .nil
  | no o _ ih => exact .no o ih
  | yes r _ ih => exact .yes (r.ext x _ _) ih
theorem RO.ext (x : Ext n m pi pi' H H') {a : Addr} {o : O} (h : RO K pi n H a o) (e : H' a = H a) : RO K pi' m H' a o := by
  cases o with
  | lst ds => obtain ⟨xs, h1, h2⟩ := h; exact ⟨xs, e.trans h1, h2.ext x _ _⟩
  | rol ds => obtain ⟨o, xs, h1, h2⟩ := h; exact ⟨o, xs, e.trans h1, h2.ext x _ _⟩
  | dic kvs => obtain ⟨ks, h1, h2, h3⟩ := h; exact ⟨ks, e.trans h1, h2, h3.ext x _ _⟩
  | dit kvs => obtain ⟨ks, h1, h2, h3⟩ := h; exact ⟨ks, e.trans h1, h2, h3.ext x _ _⟩
  | ins C fs => obtain ⟨dx, ks, h1, h2, h3⟩ := h; exact ⟨dx, ks, e.trans h1, h2, h3.ext x _ _⟩
theorem RO.some {a : Addr} {o : O} (h : RO K pi n H a o) : ∃ u, H a = some u ∧ ∀ xs, u ≠ .tup xs := by
  cases o with
  | lst ds => obtain ⟨xs, h1, h2⟩ := h; exact ⟨_, h1, fun _ => nofun⟩
  | rol ds => obtain ⟨o, xs, h1, h2⟩ := h; exact ⟨_, h1, fun _ => nofun⟩
  | dic kvs => obtain ⟨ks, h1, h2, h3⟩ := h; exact ⟨_, h1, fun _ => nofun⟩
  | dit kvs => obtain ⟨ks, h1, h2, h3⟩ := h; exact ⟨_, h1, fun _ => nofun⟩
  | ins C fs => obtain ⟨dx, ks, h1, h2, h3⟩ := h; exact ⟨_, h1, fun _ => nofun⟩
theorem Reps.len {ds : List D} {vs : List V} (h : Reps K pi n H ds vs) : ds.length = vs.length := by
  induction ds generalizing vs with
  | nil => cases h; rfl
  | cons d ds ih => cases h with | cons r s => rw [List.length_cons, List.length_cons, ih s]
theorem Reps.append {ds es : List D} {vs us : List V} (h : Reps K pi n H ds vs) (g : Reps K pi n H es us) : Reps K pi n H (ds ++ es) (vs ++ us) := by
  induction ds generalizing vs with
  | nil => cases h; exact g
  | cons d ds ih => cases h with | cons r s => exact .cons r (ih s)
theorem Reps.get {ds : List D} {vs : List V} (h : Reps K pi n H ds vs) {i : Nat} {d : D} (e : ds[i]? = some d) : ∃ v, vs[i]? = some v ∧ Rep K pi n H d v := by
  induction ds generalizing vs i with
  | nil => simp at e
  | cons d ds ih =>
    cases h with
    | cons r s =>
      cases i with
      | zero => simp at e; subst e; exact ⟨_, rfl, r⟩
      | succ i => simpa using ih s (by simpa using e)
theorem Reps.take {ds : List D} {vs : List V} (h : Reps K pi n H ds vs) (i : Nat) : Reps K pi n H (ds.take i) (vs.take i) := by
  induction ds generalizing vs i with
  | nil => cases h; simp; exact .nil
  | cons d ds ih => cases h with | cons r s => cases i with | zero => exact .nil | succ i => exact .cons r (ih s i)
theorem Reps.drop {ds : List D} {vs : List V} (h : Reps K pi n H ds vs) (i : Nat) : Reps K pi n H (ds.drop i) (vs.drop i) := by
  induction ds generalizing vs i with
  | nil => cases h; simp; exact .nil
  | cons d ds ih => cases h with | cons r s => cases i with | zero => exact .cons r s | succ i => exact ih s i
theorem Reps.set {ds : List D} {vs : List V} (h : Reps K pi n H ds vs) (i : Nat) {d : D} {v : V} (r : Rep K pi n H d v) : Reps K pi n H (ds.set i d) (vs.set i v) := by
  induction ds generalizing vs i with
  | nil => cases h; exact .nil
  | cons d ds ih => cases h with | cons r s => cases i with | zero => exact .cons (by assumption) s | succ i => exact .cons r (ih s i)
theorem Sl.len {l : Ls} {s : St} (h : Sl K pi n H l s) : l.length = s.length := by
  induction h with
  | nil => rfl
  | no _ _ ih => simp [ih]
  | yes _ _ ih => simp [ih]
theorem Sl.get {l : Ls} {s : St} (h : Sl K pi n H l s) {i : Nat} {d : D} (e : l[i]? = some (some d)) : ∃ v, s[i]? = some (some v) ∧ Rep K pi n H d v := by
  induction h generalizing i with
  | nil => simp at e
  | no o _ ih =>
    cases i with
    | zero => simp at e
    | succ i => simpa using ih (by simpa using e)
  | yes r _ ih =>
    cases i with
    | zero => simp at e; subst e; exact ⟨_, rfl, r⟩
    | succ i => simpa using ih (by simpa using e)
theorem Sl.set {l : Ls} {s : St} (h : Sl K pi n H l s) (i : Nat) {d : D} {v : V} (r : Rep K pi n H d v) : Sl K pi n H (l.set i (some d)) (s.set i (some v)) := by
  induction h generalizing i with
  | nil => exact .nil
  | no o t ih => cases i with | zero => exact .yes r t | succ i => exact .no o (ih i)
  | yes q t ih => cases i with | zero => exact .yes r t | succ i => exact .yes q (ih i)
theorem Sl.skip {l : Ls} {s : St} (h : Sl K pi n H l s) (i : Nat) (o : Option V) : Sl K pi n H (l.set i none) (s.set i o) := by
  induction h generalizing i with
  | nil => exact .nil
  | no o t ih => cases i with | zero => exact .no _ t | succ i => exact .no _ (ih i)
  | yes q t ih => cases i with | zero => exact .no _ t | succ i => exact .yes q (ih i)
def piN (pi : Nat → Addr) (n : Nat) (p : Addr) : Nat → Addr := fun i => if i = n then p else pi i
theorem piN_same {p : Addr} : piN pi n p n = p := if_pos rfl
theorem piN_ne {p : Addr} {i : Nat} (h : i ≠ n) : piN pi n p i = pi i := if_neg h
theorem Real.at {S : Hs} (R : Real K pi S H) {i : Nat} (h : i < S.length) : ∃ u, H (pi i) = some u ∧ ∀ xs, u ≠ .tup xs := (R.ob i _ (List.getElem?_eq_getElem h)).some
theorem ext_new {S : Hs} {p : Addr} {u : HO} (hp : H p = none) : Ext S.length (S.length + 1) pi (piN pi S.length p) H (upd H p u) :=
  ⟨Nat.le_succ _, fun i h => piN_ne (Nat.ne_of_lt h), fun a xs h => by rw [upd_ne (ne_of_none h hp)]; exact h⟩
theorem Real.new {S : Hs} {p : Addr} {u : HO} {o : O} (R : Real K pi S H) (hp : H p = none) (h : RO K (piN pi S.length p) (S.length + 1) (upd H p u) p o) : Real K (piN pi S.length p) (S ++ [o]) (upd H p u) := by
  have hn : ∀ i, i < S.length → pi i ≠ p := fun i hi => by obtain ⟨u, e, _⟩ := R.at hi; exact ne_of_none e hp
  refine ⟨fun i o' e => ?_, fun i j hi hj e => ?_⟩
  · rw [List.length_append, List.length_singleton]
    by_cases hi : i < S.length
    · rw [List.getElem?_append_left hi] at e
      rw [piN_ne (Nat.ne_of_lt hi)]
      exact (R.ob i o' e).ext (ext_new hp) (upd_ne (hn i hi))
    · rw [List.getElem?_append_right (Nat.le_of_not_lt hi)] at e
      have : i = S.length := by
        have := (List.getElem?_eq_some_iff.mp e).1
        simp at this; omega
      subst this
      simp at e; subst e
      rw [piN_same]; exact h
  · simp at hi hj
    by_cases h1 : i = S.length <;> by_cases h2 : j = S.length
    · omega
    · subst h1; rw [piN_same, piN_ne h2] at e; exact absurd e.symm (hn j (by omega))
    · subst h2; rw [piN_same, piN_ne h1] at e; exact absurd e (hn i (by omega))
    · rw [piN_ne h1, piN_ne h2] at e; exact R.inj i j (by omega) (by omega) e
theorem ext_upd {a : Addr} {u : HO} (h : ∀ xs, H a ≠ some (.tup xs)) : Ext n n pi pi H (upd H a u) :=
  ⟨Nat.le_refl _, fun _ _ => rfl, fun b xs e => by
    by_cases hb : b = a
    · subst hb; exact absurd e (h xs)
    · rw [upd_ne hb]; exact e⟩
theorem Real.notup {S : Hs} (R : Real K pi S H) {i : Nat} (h : i < S.length) : ∀ xs, H (pi i) ≠ some (.tup xs) := fun xs e => by
  obtain ⟨u, e1, e2⟩ := R.at h
  rw [e] at e1; exact e2 xs (Option.some.inj e1).symm
theorem Real.put {S : Hs} {i : Nat} {u : HO} {o : O} (R : Real K pi S H) (hi : i < S.length) (h : RO K pi S.length (upd H (pi i) u) (pi i) o) : Real K pi (S.set i o) (upd H (pi i) u) := by
  refine ⟨fun j o' e => ?_, fun j k hj hk e => R.inj j k (by simpa using hj) (by simpa using hk) e⟩
  rw [List.length_set]
  by_cases hj : j = i
  · subst hj
    rw [List.getElem?_set_self hi] at e
    cases e; exact h
  · rw [List.getElem?_set_ne (Ne.symm hj)] at e
    have hl := (List.getElem?_eq_some_iff.mp e).1
    exact (R.ob j o' e).ext (ext_upd (R.notup hi)) (upd_ne fun z => hj (R.inj j i hl hi z))
end
inductive R (α : Type) where
  | ok (a : α) (S : Hs)
  | exc (c : V) (fs : Option (List (Str × D))) (l : Ls) (S : Hs)
  | bad
def R.bind {α β : Type} (r : R α) (k : α → Hs → R β) : R β :=
  match r with
  | .ok a S => k a S
  | .exc c fs l S => .exc c fs l S
  | .bad => .bad
@[simp] theorem R.bind_ok {α β : Type} (a : α) (S : Hs) (k : α → Hs → R β) : (R.ok a S).bind k = k a S := (show (R.ok a S).bind k = k a S from rfl).trans (Eq.refl _)
@[simp] theorem R.bind_exc {α β : Type} (c fs l S) (k : α → Hs → R β) : (R.exc c fs l S : R α).bind k = .exc c fs l S := (show (R.exc c fs l S : R α).bind k = .exc c fs l S from rfl).trans (Eq.refl _)
@[simp] theorem R.bind_bad {α β : Type} (k : α → Hs → R β) : (R.bad : R α).bind k = .bad := (show (R.bad : R α).bind k = .bad from rfl).trans (Eq.refl _)
def XFs (K : PySem.W.Frag) (pi : Nat → Addr) (n : Nat) (H : Hp) : Option Addr → Option (List (Str × D)) → Prop
  | none, none => True
  | some d, some fs => ∃ ks, H d = some (.xd ks) ∧ ks.map (·.1) = fs.map (·.1) ∧ Reps K pi n H (fs.map (·.2)) (ks.map (·.2))
  | _, _ => False
def Post {α : Type} (K : PySem.W.Frag) (E : St → XK) (n : Nat) (pi : Nat → Addr) (H : Hp) (r : R α) (Q : α → Hs → (Nat → Addr) → Hp → Prop) : Prop :=
  match r with
  | .ok a S => ∀ pi' H', Ext n S.length pi pi' H H' → Real K pi' S H' → Q a S pi' H'
  | .exc c fs l S => ∀ pi' H' u d s, Ext n S.length pi pi' H H' → Real K pi' S H' → RelV c u → XFs K pi' S.length H' d fs → Sl K pi' S.length H' l s → E s u d H'
  | .bad => False
section
variable {α β : Type} {K : PySem.W.Frag} {E : St → XK} {n m : Nat} {pi pi' : Nat → Addr} {H H' : Hp}
theorem Post.ext {r : R α} {Q : α → Hs → (Nat → Addr) → Hp → Prop} (h : Post K E n pi H r Q) (x : Ext n m pi pi' H H') : Post K E m pi' H' r Q := by
  cases r with
  | ok a S => exact fun p2 H2 y R => h p2 H2 (x.trans y) R
  | exc c fs l S => exact fun p2 H2 u d s y R r f => h p2 H2 u d s (x.trans y) R r f
  | bad => exact h
theorem Post.mono {r : R α} {Q Q' : α → Hs → (Nat → Addr) → Hp → Prop} (h : Post K E n pi H r Q)
    (w : ∀ a S p2 H2, r = .ok a S → Ext n S.length pi p2 H H2 → Real K p2 S H2 → Q a S p2 H2 → Q' a S p2 H2) : Post K E n pi H r Q' := by
  cases r with
  | ok a S => exact fun p2 H2 y R => w a S p2 H2 rfl y R (h p2 H2 y R)
  | exc c fs l S => exact h
  | bad => exact h
theorem Post.bind {r : R α} {k : α → Hs → R β} {Q : β → Hs → (Nat → Addr) → Hp → Prop} (h : Post K E n pi H (r.bind k) Q) :
    Post K E n pi H r (fun a S1 p1 H1 => Post K E S1.length p1 H1 (k a S1) Q) := by
  cases r with
  | ok a S => exact fun p2 H2 y R => Post.ext (show Post K E n pi H (k a S) Q from h) y
  | exc c fs l S => exact h
  | bad => exact h
theorem Post.ok {a : α} {S : Hs} {Q : α → Hs → (Nat → Addr) → Hp → Prop} (h : Post K E n pi H (.ok a S) Q) (x : Ext n S.length pi pi' H H') (R : Real K pi' S H') : Q a S pi' H' := h pi' H' x R
end
abbrev M := Ls → Hs → R D
abbrev MB := Ls → Hs → R Bool
abbrev ML := Ls → Hs → R (List D)
inductive F where
  | nx (l : Ls) | rt (d : D) | bk (l : Ls) | ct (l : Ls)
abbrev MS := Ls → Hs → R F
abbrev QD (K : PySem.W.Frag) (Q : VK) : D → Hs → (Nat → Addr) → Hp → Prop := fun d S p H => ∀ v, Rep K p S.length H d v → Q v H
abbrev QL (K : PySem.W.Frag) (Q : List V → Hp → Prop) : List D → Hs → (Nat → Addr) → Hp → Prop := fun d S p H => ∀ v, Reps K p S.length H d v → Q v H
abbrev QB (Q : Bool → Hp → Prop) : Bool → Hs → (Nat → Addr) → Hp → Prop := fun d _ _ H => Q d H
def QF (K : PySem.W.Frag) (D0 : Ends) : F → Hs → (Nat → Addr) → Hp → Prop := fun f S p H =>
  match f with
  | .nx l => ∀ s, Sl K p S.length H l s → D0.nx s H
  | .rt d => ∀ v, Rep K p S.length H d v → D0.rt v H
  | .bk l => ∀ s, Sl K p S.length H l s → D0.bk s H
  | .ct l => ∀ s, Sl K p S.length H l s → D0.ct s H
def T (K : PySem.W.Frag) (E : St → XK) (f : M) : TE := fun s H Q => ∃ p l S, Real K p S H ∧ Sl K p S.length H l s ∧ Post K E S.length p H (f l S) (QD K Q)
def TB (K : PySem.W.Frag) (E : St → XK) (f : MB) : TT := fun s H Q => ∃ p l S, Real K p S H ∧ Sl K p S.length H l s ∧ Post K E S.length p H (f l S) (QB Q)
def TL (K : PySem.W.Frag) (E : St → XK) (f : ML) : TA := fun s H Q => ∃ p l S, Real K p S H ∧ Sl K p S.length H l s ∧ Post K E S.length p H (f l S) (QL K Q)
def TSt (K : PySem.W.Frag) (E : St → XK) (f : MS) : TS := fun D0 s H => ∃ p l S, Real K p S H ∧ Sl K p S.length H l s ∧ Post K E S.length p H (f l S) (QF K D0)
structure EM (X : Cx) (E : St → XK) (e : Expr) (f : M) : Prop where pe : PE X e (T X.K E f)
structure BM (X : Cx) (E : St → XK) (e : Expr) (f : MB) : Prop where pt : PT X e (TB X.K E f)
structure BW (X : Cx) (E : St → XK) (e : Expr) (f : MB) : Prop where pw : PW X e (TB X.K E f)
structure LM (X : Cx) (E : St → XK) (es : List Expr) (f : ML) : Prop where pa : PA X es (TL X.K E f)
structure SM (X : Cx) (E : St → XK) (st : Stmt) (f : MS) : Prop where ps : PS X st (TSt X.K E f)
structure SMs (X : Cx) (E : St → XK) (st : List Stmt) (f : MS) : Prop where ps : PSs X st (TSt X.K E f)
section
variable {X : Cx} {t t' : TE}
theorem _root_.L2.PE.weak {e : Expr} (h : PE X e t) (w : ∀ s H Q, t' s H Q → t s H Q) : PE X e t' := ⟨fun pins s σ H Q I q => h.run pins s σ H Q I (w σ H Q q)⟩
theorem _root_.L2.PT.weak {e : Expr} {t t' : TT} (h : PT X e t) (w : ∀ s H Q, t' s H Q → t s H Q) : PT X e t' := ⟨fun pins s σ H Q I q => h.run pins s σ H Q I (w σ H Q q)⟩
theorem _root_.L2.PW.weak {e : Expr} {t t' : TT} (h : PW X e t) (w : ∀ s H Q, t' s H Q → t s H Q) : PW X e t' := ⟨fun wh pins s σ H Q I q => h.run wh pins s σ H Q I (w σ H Q q)⟩
theorem _root_.L2.PA.weak {e : List Expr} {t t' : TA} (h : PA X e t) (w : ∀ s H Q, t' s H Q → t s H Q) : PA X e t' := ⟨fun pos pins s σ H Q I q => h.run pos pins s σ H Q I (w σ H Q q)⟩
theorem _root_.L2.PS.weak {e : Stmt} {t t' : TS} (h : PS X e t) (w : ∀ s H Q, t' Q s H → t Q s H) : PS X e t' := ⟨fun pins s σ H Q I q => h.run pins s σ H Q I (w σ H Q q)⟩
theorem _root_.L2.PSs.weak {e : List Stmt} {t t' : TS} (h : PSs X e t) (w : ∀ s H Q, t' Q s H → t Q s H) : PSs X e t' := ⟨fun pins s σ H Q I q => h.run pins s σ H Q I (w σ H Q q)⟩
end
section
variable {K : PySem.W.Frag} {E : St → XK} {s : St} {H : Hp} {β : Type} {QQ : β → Hs → (Nat → Addr) → Hp → Prop}
theorem T.of {f : M} {k : D → Hs → R β} {p : Nat → Addr} {l : Ls} {S : Hs} {Q' : VK} (R : Real K p S H) (L : Sl K p S.length H l s) (h : Post K E S.length p H ((f l S).bind k) QQ)
    (st : ∀ p1 S1 H1 d v, Real K p1 S1 H1 → Ext S.length S1.length p p1 H H1 → Sl K p1 S1.length H1 l s → Rep K p1 S1.length H1 d v → Post K E S1.length p1 H1 (k d S1) QQ → Q' v H1) : T K E f s H Q' :=
  ⟨p, l, S, R, L, h.bind.mono fun a S1 p1 H1 _ x R1 q v r => st p1 S1 H1 a v R1 x (L.ext x) r q⟩
theorem TB.of {f : MB} {k : Bool → Hs → R β} {p : Nat → Addr} {l : Ls} {S : Hs} {Q' : Bool → Hp → Prop} (R : Real K p S H) (L : Sl K p S.length H l s) (h : Post K E S.length p H ((f l S).bind k) QQ)
    (st : ∀ p1 S1 H1 b, Real K p1 S1 H1 → Ext S.length S1.length p p1 H H1 → Sl K p1 S1.length H1 l s → Post K E S1.length p1 H1 (k b S1) QQ → Q' b H1) : TB K E f s H Q' :=
  ⟨p, l, S, R, L, h.bind.mono fun a S1 p1 H1 _ x R1 q => st p1 S1 H1 a R1 x (L.ext x) q⟩
theorem TL.of {f : ML} {k : List D → Hs → R β} {p : Nat → Addr} {l : Ls} {S : Hs} {Q' : List V → Hp → Prop} (R : Real K p S H) (L : Sl K p S.length H l s) (h : Post K E S.length p H ((f l S).bind k) QQ)
    (st : ∀ p1 S1 H1 d v, Real K p1 S1 H1 → Ext S.length S1.length p p1 H H1 → Sl K p1 S1.length H1 l s → Reps K p1 S1.length H1 d v → Post K E S1.length p1 H1 (k d S1) QQ → Q' v H1) : TL K E f s H Q' :=
  ⟨p, l, S, R, L, h.bind.mono fun a S1 p1 H1 _ x R1 q v r => st p1 S1 H1 a v R1 x (L.ext x) r q⟩
theorem T.last {f : M} {p : Nat → Addr} {l : Ls} {S : Hs} {Q : VK} (R : Real K p S H) (L : Sl K p S.length H l s) (h : Post K E S.length p H (f l S) (QD K Q)) : T K E f s H Q := ⟨p, l, S, R, L, h⟩
end
end Ly
set_option Elab.async false
set_option linter.all false
set_option maxRecDepth 100000
namespace Ly
open PySem PySem.Spec L2
open PyProof.Rows hiding St
section
variable {K : PySem.W.Frag} {E : St → XK} {p : Nat → Addr} {S : Hs} {H : Hp} {Q : VK}
theorem ext_junk {n : Nat} {q : Addr} {u : HO} (hq : H q = none) : Ext n n p p H (upd H q u) :=
  ⟨Nat.le_refl _, fun _ _ => rfl, fun a xs h => by rw [upd_ne (ne_of_none h hq)]; exact h⟩
theorem Real.junk {q : Addr} {u : HO} (R : Real K p S H) (hq : H q = none) : Real K p S (upd H q u) :=
  ⟨fun i o e => (R.ob i o e).ext (ext_junk hq) (by
    obtain ⟨z, e1, _⟩ := (R.ob i o e).some
    exact upd_ne (ne_of_none e1 hq)), R.inj⟩
theorem Post.val {d : D} (h : Post K E S.length p H (.ok d S) (QD K Q)) (R : Real K p S H) {v : V} (r : Rep K p S.length H d v) : Q v H := Post.ok h Ext.refl R v r
theorem Post.valT {ds : List D} {xs : List V} (h : Post K E S.length p H (.ok (.tup ds) S) (QD K Q)) (R : Real K p S H) (r : Reps K p S.length H ds xs) {q : Addr} (hq : H q = none) : Q (.ref q) (upd H q (.tup xs)) :=
  Post.ok h (ext_junk hq) (R.junk hq) _ (.tup upd_same (r.ext (ext_junk hq) _ _))
theorem Post.new {o : O} {u : HO} (h : Post K E S.length p H (.ok (.ref S.length) (S ++ [o])) (QD K Q)) (R : Real K p S H) {q : Addr} (hq : H q = none)
    (ro : RO K (piN p S.length q) (S.length + 1) (upd H q u) q o) : Q (.ref q) (upd H q u) := by
  have e : (S ++ [o]).length = S.length + 1 := by simp
  have := Post.ok h (by rw [e]; exact ext_new hq) (R.new hq ro) (.ref (piN p S.length q S.length)) (.ref (by rw [e]; exact Nat.lt_succ_self _))
  rwa [piN_same] at this
theorem Post.newL {ds : List D} {xs : List V} (h : Post K E S.length p H (.ok (.ref S.length) (S ++ [.lst ds])) (QD K Q)) (R : Real K p S H) (r : Reps K p S.length H ds xs) {q : Addr} (hq : H q = none) : Q (.ref q) (upd H q (.lst xs)) :=
  h.new R hq ⟨xs, upd_same, r.ext (ext_new hq) _ _⟩
theorem Post.put {d : D} {i : Nat} {o : O} {u : HO} (h : Post K E S.length p H (.ok d (S.set i o)) (QD K Q)) (R : Real K p S H) (hi : i < S.length) (ro : RO K p S.length (upd H (p i) u) (p i) o) {v : V} (r : Rep K p S.length (upd H (p i) u) d v) : Q v (upd H (p i) u) := by
  have e : (S.set i o).length = S.length := by simp
  exact Post.ok h (by rw [e]; exact ext_upd (R.notup hi)) (R.put hi ro) v (by rw [e]; exact r)
theorem Real.lst {i : Nat} {ds : List D} (R : Real K p S H) (e : S[i]? = some (.lst ds)) : ∃ xs, H (p i) = some (.lst xs) ∧ Reps K p S.length H ds xs := R.ob i _ e
theorem Real.lt {i : Nat} {o : O} (e : S[i]? = some o) : i < S.length := (List.getElem?_eq_some_iff.mp e).1
end
def OpOk (K : PySem.W.Frag) (E : St → XK) (r : R2) (op : D → D → Hs → R D) : Prop :=
  ∀ p S H x y v u Q, Real K p S H → Rep K p S.length H x v → Rep K p S.length H y u → Post K E S.length p H (op x y S) (QD K Q) → r v u H Q
def mBin (op : D → D → Hs → R D) (f g : M) : M := fun l S => (f l S).bind fun x S1 => (g l S1).bind fun y S2 => op x y S2
instance (i j : Int) : Decidable (IntMulOk i j) := inferInstanceAs (Decidable (¬ _))
def oAdd : D → D → Hs → R D
  | .int i, .int j, S => .ok (.int (i + j)) S
  | .str x, .str y, S => if x.length + y.length ≤ sizeLine then .ok (.str (x ++ y)) S else .bad
  | .tup xs, .tup ys, S => if xs.length + ys.length ≤ sizeLine then .ok (.tup (xs ++ ys)) S else .bad
  | .ref i, .ref j, S => match S[i]?, S[j]? with
    | some (.lst xs), some (.lst ys) => if xs.length + ys.length ≤ sizeLine then .ok (.ref S.length) (S ++ [.lst (xs ++ ys)]) else .bad
    | _, _ => .bad
  | _, _, _ => .bad
def oSub : D → D → Hs → R D
  | .int i, .int j, S => .ok (.int (i - j)) S
  | _, _, _ => .bad
def oMul : D → D → Hs → R D
  | .int i, .int j, S => if IntMulOk i j then .ok (.int (i * j)) S else .bad
  | .ref i, .int k, S => match S[i]? with
    | some (.lst xs) => if -(2 ^ 63) ≤ k ∧ k < 2 ^ 63 ∧ xs.length * k.toNat ≤ sizeLine then .ok (.ref S.length) (S ++ [.lst (List.replicate k.toNat xs).flatten]) else .bad
    | _ => .bad
  | _, _, _ => .bad
def oFdiv : D → D → Hs → R D
  | .int i, .int j, S => if 0 < j ∧ j.natAbs.log2 < 9000 then .ok (.int (i / j)) S else .bad
  | _, _, _ => .bad
def oMod : D → D → Hs → R D
  | .int i, .int j, S => if 0 < j then .ok (.int (i % j)) S else .bad
  | _, _, _ => .bad
def oPow : D → D → Hs → R D
  | .int i, .int j, S => if 0 ≤ j ∧ j ≤ 1000000 ∧ i.natAbs < 2 ^ 64 then .ok (.int (i ^ j.toNat)) S else .bad
  | _, _, _ => .bad
def oShl : D → D → Hs → R D
  | .int i, .int j, S => if 0 ≤ j ∧ j ≤ 1000000 ∧ i.natAbs < 2 ^ 64 then .ok (.int (i * 2 ^ j.toNat)) S else .bad
  | _, _, _ => .bad
def oShr : D → D → Hs → R D
  | .int i, .int j, S => if 0 ≤ j then .ok (.int (i / 2 ^ j.toNat)) S else .bad
  | _, _, _ => .bad
def oAnd : D → D → Hs → R D
  | .int i, .int j, S => .ok (.int (Builtin.bitAnd i j)) S
  | _, _, _ => .bad
def oOr : D → D → Hs → R D
  | .int i, .int j, S => .ok (.int (Builtin.bitOr i j)) S
  | _, _, _ => .bad
def oXor : D → D → Hs → R D
  | .int i, .int j, S => .ok (.int (Builtin.bitXor i j)) S
  | _, _, _ => .bad
abbrev orR (r r' : R2) : R2 := fun x y H Q => r x y H Q ∨ r' x y H Q
section
variable {X : Cx} {E : St → XK} {a b : Expr} {f g : M} {pos : Pos}
theorem e_bin {o : Operator} {r : R2} {op : D → D → Hs → R D} (ho : OpR X (binaryOp o) r) (hk : OpOk X.K E r op) (ha : EM X E a f) (hb : EM X E b g) : EM X E (.BinOp a o b pos) (mBin op f g) :=
  ⟨(pe_op ho ha.pe hb.pe).weak fun s H Q ⟨p, l, S, R, L, h⟩ => T.of R L h fun p1 S1 H1 d v R1 x1 L1 r1 h1 => T.of R1 L1 h1 fun p2 S2 H2 d2 v2 R2 x2 L2 r2 h2 => hk p2 S2 H2 _ _ _ _ Q R2 (r1.ext x2 _ _) r2 h2⟩
abbrev rAddAll (K : PySem.W.Frag) : R2 := orR (rI0 fun i j => .int (i + j)) (orR (fun x y H Q => ∃ i j, x = V.str i ∧ y = V.str j ∧ i.length + j.length ≤ sizeLine ∧ Q (V.str (i ++ j)) H) (orR (rCatA K) rCat))
theorem or_add : OpR X (binaryOp .Add) (rAddAll X.K) := .or op_add (.or op_add_str (.or op_catA op_cat))
theorem ok_add {K : PySem.W.Frag} {E : St → XK} : OpOk K E (rAddAll K) oAdd := by
  intro p S H x y v u Q R rx ry h
  unfold oAdd at h
  split at h
  · cases rx; cases ry; exact .inl ⟨_, _, rfl, rfl, h.val R (.int _)⟩
  · split at h
    · rename_i hl; cases rx; cases ry; exact .inr (.inl ⟨_, _, rfl, rfl, hl, h.val R (.str _)⟩)
    · exact h.elim
  · split at h
    · rename_i xs ys _ hl
      cases rx with
      | @tup a ds vs t r =>
      cases ry with
      | @tup b es us t' r' =>
      refine .inr (.inr (.inl ⟨a, b, vs, us, rfl, rfl, SqT.of t, SqT.of t', by rw [← r.len, ← r'.len]; exact hl, fun e => ?_, fun e e' => ?_, fun e e' q hq => ?_⟩))
      · subst e; cases r; exact h.val R (.tup t' r')
      · subst e'; cases r'; rw [List.append_nil] at h; exact h.val R (.tup t r)
      · exact h.valT R (r.append r') hq
    · exact h.elim
  · split at h
    · rename_i i j _ _ _ xs ys e1 e2
      split at h
      · rename_i hl
        obtain ⟨vs, h1, r1⟩ := R.lst e1
        obtain ⟨us, h2, r2⟩ := R.lst e2
        cases rx; cases ry
        exact .inr (.inr (.inr ⟨_, _, vs, us, rfl, rfl, h1, h2, by rw [← r1.len, ← r2.len]; exact hl, fun q hq => h.newL R (r1.append r2) hq⟩))
      · exact h.elim
    · exact h.elim
  · exact h.elim
theorem e_add (ha : EM X E a f) (hb : EM X E b g) : EM X E (.BinOp a .Add b pos) (mBin oAdd f g) := e_bin or_add ok_add ha hb
theorem ok_I {K : PySem.W.Frag} {E : St → XK} {op : D → D → Hs → R D} {C : Int → Int → Prop} [∀ i j, Decidable (C i j)] {gg : Int → Int → Int}
    (h1 : ∀ i j S, op (.int i) (.int j) S = if C i j then .ok (.int (gg i j)) S else .bad) (h2 : ∀ x y S, (∀ i j, x = .int i → y = .int j → False) → op x y S = .bad) : OpOk K E (rI C fun i j => .int (gg i j)) op := by
  intro p S H x y v u Q R rx ry h
  by_cases e : ∃ i j, x = .int i ∧ y = .int j
  · obtain ⟨i, j, rfl, rfl⟩ := e
    rw [h1] at h
    cases rx; cases ry
    split at h
    · rename_i c; exact ⟨i, j, rfl, rfl, c, h.val R (.int _)⟩
    · exact h.elim
  · rw [h2 x y S fun i j a b => e ⟨i, j, a, b⟩] at h; exact h.elim
theorem ok_I0 {K : PySem.W.Frag} {E : St → XK} {op : D → D → Hs → R D} {gg : Int → Int → Int}
    (h1 : ∀ i j S, op (.int i) (.int j) S = .ok (.int (gg i j)) S) (h2 : ∀ x y S, (∀ i j, x = .int i → y = .int j → False) → op x y S = .bad) : OpOk K E (rI0 fun i j => .int (gg i j)) op := by
  intro p S H x y v u Q R rx ry h
  by_cases e : ∃ i j, x = .int i ∧ y = .int j
  · obtain ⟨i, j, rfl, rfl⟩ := e
    rw [h1] at h
    cases rx; cases ry
    exact ⟨i, j, rfl, rfl, h.val R (.int _)⟩
  · rw [h2 x y S fun i j a b => e ⟨i, j, a, b⟩] at h; exact h.elim
theorem e_sub (ha : EM X E a f) (hb : EM X E b g) : EM X E (.BinOp a .Sub b pos) (mBin oSub f g) :=
  e_bin op_sub (ok_I0 (fun _ _ _ => rfl) fun x y S h => by unfold oSub; split <;> first | rfl | exact (h _ _ rfl rfl).elim) ha hb
theorem op_mulA : OpR X (binaryOp .Mult) (rI IntMulOk fun i j => .int (i * j)) := opI fun _ _ _ _ _ _ _ hc q => mul_int q hc
theorem ok_mul {K : PySem.W.Frag} {E : St → XK} : OpOk K E (orR (rI IntMulOk fun i j => .int (i * j)) rRep) oMul := by
  intro p S H x y v u Q R rx ry h
  unfold oMul at h
  split at h
  · split at h
    · rename_i c; cases rx; cases ry; exact .inl ⟨_, _, rfl, rfl, c, h.val R (.int _)⟩
    · exact h.elim
  · split at h
    · rename_i e1
      split at h
      · rename_i hl
        obtain ⟨vs, h1, r1⟩ := R.lst e1
        cases rx; cases ry
        refine .inr ⟨_, _, vs, rfl, rfl, h1, hl.1, hl.2.1, by rw [← r1.len]; exact hl.2.2, fun q hq => h.newL R ?_ hq⟩
        generalize Int.toNat _ = n
        clear h hl
        induction n with
        | zero => exact .nil
        | succ n ih => rw [List.replicate_succ, List.replicate_succ, List.flatten_cons, List.flatten_cons]; exact r1.append ih
      · exact h.elim
    · exact h.elim
  · exact h.elim
theorem e_mul (ha : EM X E a f) (hb : EM X E b g) : EM X E (.BinOp a .Mult b pos) (mBin oMul f g) := e_bin (OpR.or op_mulA op_rep) ok_mul ha hb
theorem e_fdiv (ha : EM X E a f) (hb : EM X E b g) : EM X E (.BinOp a .FloorDiv b pos) (mBin oFdiv f g) :=
  e_bin op_fdivW (ok_I (C := fun _ j => 0 < j ∧ j.natAbs.log2 < 9000) (fun _ _ _ => rfl) fun x y S h => by unfold oFdiv; split <;> first | rfl | exact (h _ _ rfl rfl).elim) ha hb
theorem e_mod (ha : EM X E a f) (hb : EM X E b g) : EM X E (.BinOp a .Mod b pos) (mBin oMod f g) :=
  e_bin op_mod (ok_I (fun _ _ _ => rfl) fun x y S h => by unfold oMod; split <;> first | rfl | exact (h _ _ rfl rfl).elim) ha hb
theorem e_pow (ha : EM X E a f) (hb : EM X E b g) : EM X E (.BinOp a .Pow b pos) (mBin oPow f g) :=
  e_bin op_pow (ok_I (C := fun i j => 0 ≤ j ∧ j ≤ 1000000 ∧ i.natAbs < 2 ^ 64) (fun _ _ _ => rfl) fun x y S h => by unfold oPow; split <;> first | rfl | exact (h _ _ rfl rfl).elim) ha hb
theorem e_shl (ha : EM X E a f) (hb : EM X E b g) : EM X E (.BinOp a .LShift b pos) (mBin oShl f g) :=
  e_bin op_shl (ok_I (C := fun i j => 0 ≤ j ∧ j ≤ 1000000 ∧ i.natAbs < 2 ^ 64) (fun _ _ _ => rfl) fun x y S h => by unfold oShl; split <;> first | rfl | exact (h _ _ rfl rfl).elim) ha hb
theorem e_shr (ha : EM X E a f) (hb : EM X E b g) : EM X E (.BinOp a .RShift b pos) (mBin oShr f g) :=
  e_bin op_shr (ok_I (fun _ _ _ => rfl) fun x y S h => by unfold oShr; split <;> first | rfl | exact (h _ _ rfl rfl).elim) ha hb
theorem e_band (ha : EM X E a f) (hb : EM X E b g) : EM X E (.BinOp a .BitAnd b pos) (mBin oAnd f g) :=
  e_bin op_and (ok_I0 (fun _ _ _ => rfl) fun x y S h => by unfold oAnd; split <;> first | rfl | exact (h _ _ rfl rfl).elim) ha hb
theorem e_bor (ha : EM X E a f) (hb : EM X E b g) : EM X E (.BinOp a .BitOr b pos) (mBin oOr f g) :=
  e_bin op_or (ok_I0 (fun _ _ _ => rfl) fun x y S h => by unfold oOr; split <;> first | rfl | exact (h _ _ rfl rfl).elim) ha hb
theorem e_bxor (ha : EM X E a f) (hb : EM X E b g) : EM X E (.BinOp a .BitXor b pos) (mBin oXor f g) :=
  e_bin op_xor (ok_I0 (fun _ _ _ => rfl) fun x y S h => by unfold oXor; split <;> first | rfl | exact (h _ _ rfl rfl).elim) ha hb
def mVar (i : Nat) : M := fun l S => match l[i]? with
  | some (some d) => .ok d S
  | _ => .bad
def mC (d : D) : M := fun _ S => .ok d S
theorem e_of_var {e : Expr} {i : Nat} (h : PE X e (tVar i)) : EM X E e (mVar i) := ⟨h.weak fun s H Q ⟨p, l, S, R, L, h⟩ => by
  unfold mVar at h
  split at h
  · rename_i d e
    obtain ⟨v, h1, r⟩ := L.get e
    exact ⟨v, h1, h.val R r⟩
  · exact h.elim⟩
theorem e_of_c {e : Expr} {d : D} {v : V} (h : PE X e (tC v)) (hr : ∀ p n H, Rep X.K p n H d v) : EM X E e (mC d) := ⟨h.weak fun s H Q ⟨p, l, S, R, L, h⟩ => h.val R (hr _ _ _)⟩
theorem e_v (i : Nat) {x : Str} {pos : Pos} (hN : X.N[i]? = some x := by rfl) (hv : Vis X.env.scope x := by first | exact Or.inl rfl | exact Or.inr (Or.inl rfl) | exact Or.inr (Or.inr rfl)) (hd : (x == ("__debug__" : Str)) = false := by decide)
    (hcd : (x == ("__classdict__" : Str)) = false := by decide) : EM X E (.Name x pos) (mVar i) := e_of_var (pe_var hN hv hd hcd)
theorem e_int {i j pos} : EM X E (.Constant (.int i) j pos) (mC (.int i)) := e_of_c pe_int fun _ _ _ => .int _
theorem e_str {i j pos} : EM X E (.Constant (.str i) j pos) (mC (.str i)) := e_of_c pe_str fun _ _ _ => .str _
theorem e_bl {i j pos} : EM X E (.Constant (.bool i) j pos) (mC (.bl i)) := e_of_c pe_bl fun _ _ _ => .bl _
theorem e_non {j pos} : EM X E (.Constant .none j pos) (mC .non) := e_of_c pe_non fun _ _ _ => .non
def oNeg : D → Hs → R D
  | .int i, S => .ok (.int (-i)) S
  | _, _ => .bad
def mUn (op : D → Hs → R D) (f : M) : M := fun l S => (f l S).bind op
theorem e_neg (ha : EM X E a f) : EM X E (.UnaryOp .USub a pos) (mUn oNeg f) := ⟨(pe_un un_neg ha.pe).weak fun s H Q ⟨p, l, S, R, L, h⟩ => T.of R L h fun p1 S1 H1 d v R1 x1 L1 r1 h1 => by
  unfold oNeg at h1
  split at h1
  · cases r1; exact ⟨_, rfl, h1.val R1 (.int _)⟩
  · exact h1.elim⟩
end
end Ly
set_option Elab.async false
set_option linter.all false
set_option maxRecDepth 100000
namespace Ly
open PySem PySem.Spec L2
open PyProof.Rows hiding St
mutual
def D.pd (S : Hs) : Nat → D → Option PyData
  | 0, _ => none
  | _ + 1, .non => some .none
  | _ + 1, .bl b => some (.bool b)
  | _ + 1, .int i => some (.int i)
  | _ + 1, .str x => some (.str x)
  | k + 1, .tup ds => (D.pds S k ds).map .tuple
  | k + 1, .wt ds => (D.pds S k ds).map .tuple
  | k + 1, .ref i => match S[i]? with
    | some (.lst ds) => (D.pds S k ds).map .list
    | some (.rol ds) => (D.pds S k ds).map .list
    | _ => none
  | _ + 1, .cst _ => none
  | _ + 1, .wl _ => none
def D.pds (S : Hs) : Nat → List D → Option (List PyData)
  | _, [] => some []
  | 0, _ :: _ => none
  | k + 1, d :: ds => match D.pd S k d, D.pds S (k + 1) ds with
    | some a, some b => some (a :: b)
    | _, _ => none
end
section
variable {K : PySem.W.Frag} {p : Nat → Addr} {S : Hs} {H : Hp}
mutual
theorem D.pd_dp (R : Real K p S H) : ∀ (k : Nat) (d : D) (v : V) (x : PyData), Rep K p S.length H d v → D.pd S k d = some x → Dp K H v x
  | 0, d, _, _, _, e => by simp [D.pd] at e
  | k + 1, .non, _, _, .non, e => by simp [D.pd] at e; subst e; exact .non
  | k + 1, .bl b, _, _, .bl _, e => by simp [D.pd] at e; subst e; exact .bl _
  | k + 1, .int b, _, _, .int _, e => by simp [D.pd] at e; subst e; exact .int _
  | k + 1, .str b, _, _, .str _, e => by simp [D.pd] at e; subst e; exact .str _
  | k + 1, .tup ds, _, _, .tup t r, e => by
    simp only [D.pd, Option.map_eq_some_iff] at e
    obtain ⟨xs, e, rfl⟩ := e
    exact .tup (SqT.of t) (D.pds_dp R k ds _ _ r e)
  | k + 1, .wt ds, _, _, .wt t r, e => by
    simp only [D.pd, Option.map_eq_some_iff] at e
    obtain ⟨xs, e, rfl⟩ := e
    exact .tup t.sq (D.pds_dp R k ds _ _ r e)
  | k + 1, .ref i, _, _, .ref h, e => by
    simp only [D.pd] at e
    split at e
    · rename_i ds q
      simp only [Option.map_eq_some_iff] at e
      obtain ⟨xs, e, rfl⟩ := e
      obtain ⟨vs, h1, r⟩ := R.lst q
      exact .lst (SqL.of h1) (D.pds_dp R k ds _ _ r e)
    · rename_i ds q
      simp only [Option.map_eq_some_iff] at e
      obtain ⟨xs, e, rfl⟩ := e
      obtain ⟨o, vs, h1, r⟩ := R.ob i _ q
      exact .lst (.inl (.inr ⟨o, h1⟩)) (D.pds_dp R k ds _ _ r e)
    · cases e
  | k + 1, .cst a, _, _, _, e => by simp [D.pd] at e
  | k + 1, .wl a, _, _, _, e => by simp [D.pd] at e
theorem D.pds_dp (R : Real K p S H) : ∀ (k : Nat) (d : List D) (v : List V) (x : List PyData), Reps K p S.length H d v → D.pds S k d = some x → DpAll K H v x
  | k, [], _, _, .nil, e => by cases k <;> (simp [D.pds] at e; subst e; exact .nil)
  | 0, d :: ds, _, _, _, e => by simp [D.pds] at e
  | k + 1, d :: ds, _, _, .cons r s, e => by
    simp only [D.pds] at e
    split at e
    · rename_i a b e1 e2
      cases e
      exact .cons (D.pd_dp R k d _ _ r e1) (D.pds_dp R (k + 1) ds _ _ s e2)
    · cases e
end
end
def cEqS : D → D → Option Bool
  | .int i, .int j => some (decide (i = j))
  | .str i, .str j => some (decide (i = j))
  | .bl i, .bl j => some (decide (i = j))
  | .non, .non => some true
  | .non, .int _ => some false
  | .int _, .non => some false
  | .non, .bl _ => some false
  | .bl _, .non => some false
  | .non, .str _ => some false
  | .str _, .non => some false
  | .int _, .str _ => some false
  | .str _, .int _ => some false
  | .bl _, .str _ => some false
  | .str _, .bl _ => some false
  | _, _ => none
def cEqD (x y : D) (S : Hs) : Option Bool :=
  match cEqS x y with
  | some b => some b
  | none => match D.pd S 70 x, D.pd S 70 y with
    | some a, some b => if SeqAt.shaped a = true ∧ SeqAt.shaped b = true then some (PyData.eqv a b) else none
    | _, _ => none
def oEq (x y : D) (S : Hs) : R D := match cEqD x y S with
  | some b => .ok (.bl b) S
  | none => .bad
def oNe (x y : D) (S : Hs) : R D := match cEqD x y S with
  | some b => .ok (.bl (!b)) S
  | none => .bad
def oLt : D → D → Hs → R D
  | .int i, .int j, S => .ok (.bl (decide (i < j))) S
  | _, _, _ => .bad
def oLe : D → D → Hs → R D
  | .int i, .int j, S => .ok (.bl (decide (i ≤ j))) S
  | _, _, _ => .bad
def oGt : D → D → Hs → R D
  | .int i, .int j, S => .ok (.bl (decide (j < i))) S
  | _, _, _ => .bad
def oGe : D → D → Hs → R D
  | .int i, .int j, S => .ok (.bl (decide (j ≤ i))) S
  | _, _, _ => .bad
def D.isNon : D → Bool
  | .non => true
  | _ => false
def oIs : D → D → Hs → R D
  | x, .non, S => .ok (.bl x.isNon) S
  | .bl a, .bl b, S => .ok (.bl (decide (a = b))) S
  | _, _, _ => .bad
def eqF : D → D → Bool
  | .non, .non => true
  | .bl a, .bl b => a == b
  | .bl a, .int b => (if a then 1 else 0) == b
  | .int a, .bl b => a == (if b then 1 else 0)
  | .int a, .int b => a == b
  | .str a, .str b => a == b
  | _, _ => false
def flatD : D → Bool
  | .non => true
  | .bl _ => true
  | .int _ => true
  | .str _ => true
  | _ => false
def inS (i j : Str) : Bool := match i with
  | ⟨⟨[c]⟩⟩ => decide (c ∈ j.cps.toList)
  | _ => !(Builtin.Str.occurrences j i 0 j.length 1).isEmpty
def D.key : D → Option Key
  | .int i => some (.inl i)
  | .str x => some (.inr x)
  | _ => none
def D.keys : List D → Option (List Key)
  | [] => some []
  | d :: ds => match d.key, D.keys ds with
    | some k, some l => some (k :: l)
    | _, _ => none
def D.tkey : D → Option (List Key)
  | .tup ds => D.keys ds
  | _ => none
def getK {κ : Type} [DecidableEq κ] (kvs : List (κ × D)) (k : κ) : Option D := (kvs.find? fun kv => decide (kv.1 = k)).map (·.2)
def setK {κ : Type} [DecidableEq κ] (kvs : List (κ × D)) (k : κ) (v : D) : List (κ × D) :=
  if (kvs.any fun kv => decide (kv.1 = k)) = true then kvs.map fun kv => if kv.1 = k then (kv.1, v) else kv else kvs ++ [(k, v)]
def dGet (x y : D) (S : Hs) : Option (Option D) := match x with
  | .ref i => match S[i]? with
    | some (.dic kvs) => match y.key with
      | some k => some (getK kvs k)
      | none => none
    | some (.dit kvs) => match y.tkey with
      | some k => some (getK kvs k)
      | none => none
    | _ => none
  | _ => none
def cIn (x y : D) (S : Hs) : Option Bool := match x, y with
  | .str i, .str j => some (inS i j)
  | x, .tup ds => if flatD x && ds.all flatD then some (ds.any fun z => eqF z x) else
    match D.pd S 70 x, D.pd S 70 (.tup ds) with
    | some a, some (.tuple b) => if SeqAt.shaped a = true ∧ SeqAt.shaped (.tuple b) = true then some (b.any fun z => z.eqv a) else none
    | _, _ => none
  | x, .wt ds => if flatD x && ds.all flatD then some (ds.any fun z => eqF z x) else
    match D.pd S 70 x, D.pd S 70 (.wt ds) with
    | some a, some (.tuple b) => if SeqAt.shaped a = true ∧ SeqAt.shaped (.tuple b) = true then some (b.any fun z => z.eqv a) else none
    | _, _ => none
  | x, .ref i => match S[i]? with
    | some (.lst ds) => if flatD x && ds.all flatD then some (ds.any fun z => eqF z x) else
      match D.pd S 70 x, D.pd S 70 (.ref i) with
      | some a, some (.list b) => if SeqAt.shaped a = true ∧ SeqAt.shaped (.list b) = true then some (b.any fun z => z.eqv a) else none
      | _, _ => none
    | some (.dic kvs) => (dGet (.ref i) x S).map (·.isSome)
    | some (.dit kvs) => (dGet (.ref i) x S).map (·.isSome)
    | _ => none
  | _, _ => none
def oIn (x y : D) (S : Hs) : R D := match cIn x y S with
  | some b => .ok (.bl b) S
  | none => .bad
def oNotIn (x y : D) (S : Hs) : R D := match cIn x y S with
  | some b => .ok (.bl (!b)) S
  | none => .bad
section
variable {K : PySem.W.Frag} {E : St → XK} {p : Nat → Addr} {S : Hs} {H : Hp} {n : Nat} {pi : Nat → Addr}
theorem cEqS_V {x y : D} {v u : V} {b : Bool} (rx : Rep K pi n H x v) (ry : Rep K pi n H y u) (h : cEqS x y = some b) : scal v u = true ∧ decide (v = u) = b := by
  unfold cEqS at h
  split at h <;> first | (cases h; done) | (cases rx; cases ry; cases h; exact ⟨rfl, by simp⟩)
theorem ok_eq : OpOk K E (orR rEq (rEqD K)) oEq := by
  intro p S H x y v u Q R rx ry h
  unfold oEq at h
  split at h
  · rename_i b e
    unfold cEqD at e
    split at e
    · rename_i c e1
      cases e
      obtain ⟨h1, h2⟩ := cEqS_V rx ry e1
      exact .inl ⟨h1, by rw [h2]; exact h.val R (.bl _)⟩
    · split at e
      · rename_i a c e1 e2
        split at e
        · rename_i hs
          cases e
          exact .inr ⟨a, c, D.pd_dp R _ _ _ _ rx e1, D.pd_dp R _ _ _ _ ry e2, hs.1, hs.2, h.val R (.bl _)⟩
        · cases e
      · cases e
  · exact h.elim
theorem ok_ne : OpOk K E (orR rNe (rNeD K)) oNe := by
  intro p S H x y v u Q R rx ry h
  unfold oNe at h
  split at h
  · rename_i b e
    unfold cEqD at e
    split at e
    · rename_i c e1
      cases e
      obtain ⟨h1, h2⟩ := cEqS_V rx ry e1
      exact .inl ⟨h1, by rw [h2]; exact h.val R (.bl _)⟩
    · split at e
      · rename_i a c e1 e2
        split at e
        · rename_i hs
          cases e
          exact .inr ⟨a, c, D.pd_dp R _ _ _ _ rx e1, D.pd_dp R _ _ _ _ ry e2, hs.1, hs.2, h.val R (.bl _)⟩
        · cases e
      · cases e
  · exact h.elim
theorem ok_B0 {op : D → D → Hs → R D} {gg : Int → Int → Bool} (h1 : ∀ i j S, op (.int i) (.int j) S = .ok (.bl (gg i j)) S) (h2 : ∀ x y S, (∀ i j, x = .int i → y = .int j → False) → op x y S = .bad) : OpOk K E (rI0 fun i j => .bl (gg i j)) op := by
  intro p S H x y v u Q R rx ry h
  by_cases e : ∃ i j, x = .int i ∧ y = .int j
  · obtain ⟨i, j, rfl, rfl⟩ := e
    rw [h1] at h
    cases rx; cases ry
    exact ⟨i, j, rfl, rfl, h.val R (.bl _)⟩
  · rw [h2 x y S fun i j a b => e ⟨i, j, a, b⟩] at h; exact h.elim
theorem ok_lt : OpOk K E (rI0 fun i j => .bl (decide (i < j))) oLt := ok_B0 (fun _ _ _ => rfl) fun x y S h => by unfold oLt; split <;> first | rfl | exact (h _ _ rfl rfl).elim
theorem ok_le : OpOk K E (rI0 fun i j => .bl (decide (i ≤ j))) oLe := ok_B0 (fun _ _ _ => rfl) fun x y S h => by unfold oLe; split <;> first | rfl | exact (h _ _ rfl rfl).elim
theorem ok_gt : OpOk K E (rI0 fun i j => .bl (decide (j < i))) oGt := ok_B0 (fun _ _ _ => rfl) fun x y S h => by unfold oGt; split <;> first | rfl | exact (h _ _ rfl rfl).elim
theorem ok_ge : OpOk K E (rI0 fun i j => .bl (decide (j ≤ i))) oGe := ok_B0 (fun _ _ _ => rfl) fun x y S h => by unfold oGe; split <;> first | rfl | exact (h _ _ rfl rfl).elim
theorem isNon_V {x : D} {v : V} (rx : Rep K pi n H x v) : x.isNon = decide (v = .non) := by cases rx <;> rfl
abbrev rIsNA : R2 := fun x y H Q => y = .non ∧ Q (.bl (decide (x = .non))) H
theorem ok_is : OpOk K E (orR rIsNA rIsB) oIs := by
  intro p S H x y v u Q R rx ry h
  unfold oIs at h
  split at h
  · cases ry; exact .inl ⟨rfl, by rw [← isNon_V rx]; exact h.val R (.bl _)⟩
  · cases rx; cases ry; exact .inr ⟨_, _, rfl, rfl, h.val R (.bl _)⟩
  · exact h.elim
theorem key_V {y : D} {u : V} {k : Key} (ry : Rep K pi n H y u) (h : y.key = some k) : u = kV k := by
  unfold D.key at h
  split at h <;> first | (cases ry; cases h; rfl) | cases h
theorem keys_V {ds : List D} {vs : List V} {k : List Key} (r : Reps K pi n H ds vs) (h : D.keys ds = some k) : vs = k.map kV := by
  induction ds generalizing vs k with
  | nil => cases r; cases h; rfl
  | cons d ds ih =>
    cases r with
    | cons r s =>
      simp only [D.keys] at h
      split at h
      · rename_i a b e1 e2
        cases h
        rw [key_V r e1, ih s e2]; rfl
      · cases h
def GetRel (K : PySem.W.Frag) (p : Nat → Addr) (n : Nat) (H : Hp) (o : Option D) (w : Option V) : Prop := match o with
  | some d => ∃ z, w = some z ∧ Rep K p n H d z
  | none => w = none
theorem getK_V {κ : Type} [DecidableEq κ] {kvs : List (κ × D)} {ks : List (κ × V)} (h : ks.map (·.1) = kvs.map (·.1)) (r : Reps K pi n H (kvs.map (·.2)) (ks.map (·.2))) (k : κ) : GetRel K pi n H (getK kvs k) (valV ks k) := by
  induction kvs generalizing ks with
  | nil => cases ks with | nil => exact rfl | cons a b => cases h
  | cons a kvs ih =>
    cases ks with
    | nil => cases h
    | cons b ks =>
      simp only [List.map_cons, List.cons.injEq] at h
      cases r with
      | cons r s =>
        have := ih h.2 s
        unfold getK valV at this ⊢
        by_cases e : a.1 = k
        · rw [List.find?_cons_of_pos (by simpa using e)]
          refine ⟨b.2, ?_, r⟩
          rw [List.find?_cons_of_pos (by simpa [h.1] using e)]; rfl
        · rw [List.find?_cons_of_neg (by simpa using e), List.find?_cons_of_neg (by simpa [h.1] using e)]
          exact this
theorem dGet_V {x y : D} {v u : V} {o : Option D} (R : Real K p S H) (rx : Rep K p S.length H x v) (ry : Rep K p S.length H y u) (h : dGet x y S = some o) :
    ∃ a w, v = .ref a ∧ DGet H a u w ∧ GetRel K p S.length H o w := by
  cases x with
  | ref i =>
    cases rx
    simp only [dGet] at h
    split at h
    · rename_i kvs q
      obtain ⟨ks, h1, h2, h3⟩ := R.ob i _ q
      split at h
      · rename_i k ek
        cases h
        exact ⟨_, _, rfl, .inl ⟨ks, k, .inl h1, key_V ry ek, rfl⟩, getK_V h2 h3 k⟩
      · cases h
    · rename_i kvs q
      obtain ⟨ks, h1, h2, h3⟩ := R.ob i _ q
      split at h
      · rename_i k ek
        cases h
        unfold D.tkey at ek
        split at ek
        · cases ry with
          | @tup b _ vs t r =>
          exact ⟨_, _, rfl, .inr ⟨ks, k, b, .inl h1, rfl, by rw [← keys_V r ek]; exact t, rfl⟩, getK_V h2 h3 k⟩
        · cases ek
      · cases h
    · cases h
  | _ => cases h
end
def mCmp (op : D → D → Hs → R D) (f g : M) : MB := fun l S => (f l S).bind fun x S1 => (g l S1).bind fun y S2 => (op x y S2).bind fun d S3 => match d with
  | .bl b => .ok b S3
  | _ => .bad
section
variable {X : Cx} {E : St → XK} {a b : Expr} {f g : M} {pos : Pos} {r : R2} {op : D → D → Hs → R D} {o : CmpOp}
theorem e_cmp (ho : OpR X (compareOp o) r) (hk : OpOk X.K E r op) (ha : EM X E a f) (hb : EM X E b g) (h1 : behindInMarks o b = false) : EM X E (.Compare a [o] [b] pos) (mBin op f g) :=
  ⟨(pe_cmpR ho ha.pe hb.pe h1).weak fun s H Q ⟨p, l, S, R, L, h⟩ => T.of R L h fun p1 S1 H1 d v R1 x1 L1 r1 h1 => T.of R1 L1 h1 fun p2 S2 H2 d2 v2 R2 x2 L2 r2 h2 => hk p2 S2 H2 _ _ _ _ Q R2 (r1.ext x2 _ _) r2 h2⟩
theorem OpOk.test (hk : OpOk X.K E r op) {p : Nat → Addr} {S : Hs} {H : Hp} {x y : D} {v u : V} {Q : Bool → Hp → Prop} (R : Real X.K p S H) (rx : Rep X.K p S.length H x v) (ry : Rep X.K p S.length H y u)
    (h : Post X.K E S.length p H ((op x y S).bind fun d S3 => match d with | .bl b => Ly.R.ok b S3 | _ => Ly.R.bad) (QB Q)) : r v u H fun x H' => ∃ k, x = .bl k ∧ Q k H' := by
  refine hk p S H x y v u _ R rx ry (h.bind.mono fun d S3 p3 H3 _ x3 R3 q w rw' => ?_)
  cases rw' with
  | bl b => exact ⟨b, rfl, Post.ok (Q := QB Q) q Ext.refl R3⟩
  | _ => exact q.elim
theorem b_cmp (ho : OpR X (compareOp o) r) (hk : OpOk X.K E r op) (ha : EM X E a f) (hb : EM X E b g) (h1 : behindInMarks o b = false) : BM X E (.Compare a [o] [b] pos) (mCmp op f g) :=
  ⟨(pt_cmpR ho ha.pe hb.pe h1).weak fun s H Q ⟨p, l, S, R, L, h⟩ => T.of R L h fun p1 S1 H1 d v R1 x1 L1 r1 h1 => T.of R1 L1 h1 fun p2 S2 H2 d2 v2 R2 x2 L2 r2 h2 => hk.test R2 (r1.ext x2 _ _) r2 h2⟩
end
end Ly
set_option Elab.async false
set_option linter.all false
set_option maxRecDepth 100000
namespace Ly
open PySem PySem.Spec L2
open PyProof.Rows hiding St
def lNil : ML := fun _ S => .ok [] S
def lCons (f : M) (g : ML) : ML := fun l S => (f l S).bind fun x S1 => (g l S1).bind fun xs S2 => .ok (x :: xs) S2
section
variable {X : Cx} {E : St → XK} {e : Expr} {es : List Expr} {f : M} {g : ML} {pos : Pos}
theorem l_nil : LM X E [] lNil := ⟨pa_nil.weak fun s H Q ⟨p, l, S, R, L, h⟩ => Post.ok h Ext.refl R _ .nil⟩
theorem l_cons (ha : EM X E e f) (hb : LM X E es g) (hs : starEach (e :: es) X.env = (false, eval e X.env) :: starEach es X.env := by rfl) : LM X E (e :: es) (lCons f g) :=
  ⟨(pa_cons ha.pe hb.pa hs).weak fun s H Q ⟨p, l, S, R, L, h⟩ => T.of R L h fun p1 S1 H1 d v R1 x1 L1 r1 h1 => TL.of R1 L1 h1 fun p2 S2 H2 d2 v2 R2 x2 L2 r2 h2 => Post.ok h2 Ext.refl R2 _ (.cons (r1.ext x2 _ _) r2)⟩
def tru (x : D) (S : Hs) : Option Bool := match x with
  | .non => some false
  | .bl b => some b
  | .int i => some (i != 0)
  | .str x => if x.length ≤ sizeLine then some ((x.length : Int) != 0) else none
  | .tup xs => some (!xs.isEmpty)
  | .wt xs => some (!xs.isEmpty)
  | .ref i => match S[i]? with
    | some (.lst xs) => some (!xs.isEmpty)
    | some (.rol xs) => some (!xs.isEmpty)
    | some (.dic xs) => some (!xs.isEmpty)
    | _ => none
  | .wl xs => some (!xs.isEmpty)
  | .cst _ => none
def oTru (x : D) (S : Hs) : R Bool := match tru x S with
  | some b => .ok b S
  | none => .bad
theorem empty_len {α β : Type} {xs : List α} {ys : List β} (h : xs.length = ys.length) : xs.isEmpty = ys.isEmpty := by cases xs <;> cases ys <;> first | rfl | simp at h
theorem tru_V {K : PySem.W.Frag} {p : Nat → Addr} {S : Hs} {H : Hp} {x : D} {v : V} {b : Bool} (R : Real K p S H) (rx : Rep K p S.length H x v) (h : tru x S = some b) : TruV K v H b := by
  unfold tru at h
  cases rx with
  | non => cases h; rfl
  | bl b => cases h; rfl
  | int i => cases h; rfl
  | str x => simp only at h; split at h <;> cases h; exact ⟨by assumption, rfl⟩
  | tup t r => cases h; exact .inr (.inl ⟨_, SqT.of t, by rw [empty_len r.len]⟩)
  | wt t r => cases h; exact .inr (.inl ⟨_, t.sq, by rw [empty_len r.len]⟩)
  | wl t r => cases h; exact .inl ⟨_, t.sq, by rw [empty_len r.len]⟩
  | ref hi =>
    simp only at h
    split at h
    · rename_i q
      obtain ⟨vs, h1, r⟩ := R.lst q
      cases h; exact .inl ⟨_, SqL.of h1, by rw [empty_len r.len]⟩
    · rename_i q
      obtain ⟨o, vs, h1, r⟩ := R.ob _ _ q
      cases h; exact .inl ⟨_, .inl (.inr ⟨o, h1⟩), by rw [empty_len r.len]⟩
    · rename_i q
      obtain ⟨ks, h1, h2, h3⟩ := R.ob _ _ q
      cases h; exact .inr (.inr ⟨_, h1, by rw [empty_len (show ks.length = _ from by simpa using congrArg List.length h2)]⟩)
    · cases h
  | cst a => cases h
def mTru (f : M) : MB := fun l S => (f l S).bind oTru
theorem oTru_of {K : PySem.W.Frag} {p : Nat → Addr} {S : Hs} {H : Hp} {x : D} {v : V} {Q : Bool → Hp → Prop} (R : Real K p S H) (rx : Rep K p S.length H x v) (h : Post K E S.length p H (oTru x S) (QB Q)) : ∃ k, TruV K v H k ∧ Q k H := by
  unfold oTru at h
  split at h
  · rename_i b e; exact ⟨b, tru_V R rx e, Post.ok (Q := QB Q) h Ext.refl R⟩
  · exact h.elim
theorem b_tru {a : Expr} (ha : EM X E a f) (he : ∀ whole, isTrue a X.env whole = (do let v ← whole; standAt a.pos; holding [v] (truthy v)) := by intro _; rfl) : BM X E a (mTru f) :=
  ⟨(pt_truth ha.pe he).weak fun s H Q ⟨p, l, S, R, L, h⟩ => T.of R L h fun p1 S1 H1 d v R1 x1 L1 r1 h1 => oTru_of R1 r1 h1⟩
def mNotB (f : MB) : MB := fun l S => (f l S).bind fun b S1 => .ok (!b) S1
def mAndB (f g : MB) : MB := fun l S => (f l S).bind fun b S1 => if b = true then g l S1 else .ok false S1
def mOrB (f g : MB) : MB := fun l S => (f l S).bind fun b S1 => if b = true then .ok true S1 else g l S1
theorem TB.last {K : PySem.W.Frag} {s : St} {H : Hp} {f : MB} {p : Nat → Addr} {l : Ls} {S : Hs} {Q : Bool → Hp → Prop} (R : Real K p S H) (L : Sl K p S.length H l s) (h : Post K E S.length p H (f l S) (QB Q)) : TB K E f s H Q := ⟨p, l, S, R, L, h⟩
variable {a b : Expr} {rest : List Expr} {fb gb : MB}
theorem w_and1 (ha : BM X E a fb) : BW X E (.BoolOp .And [a] pos) fb := ⟨pw_and1 ha.pt⟩
theorem w_and (ha : BM X E a fb) (hb : BW X E (.BoolOp .And (b :: rest) pos) gb) : BW X E (.BoolOp .And (a :: b :: rest) pos) (mAndB fb gb) :=
  ⟨(pw_and ha.pt hb.pw).weak fun s H Q ⟨p, l, S, R, L, h⟩ => TB.of R L h fun p1 S1 H1 b R1 x1 L1 h1 => by
    cases b with
    | true => exact TB.last R1 L1 h1
    | false => exact Post.ok (Q := QB Q) h1 Ext.refl R1⟩
theorem b_of {e : Expr} (h : BW X E e fb) : BM X E e fb := ⟨h.pw.pt⟩
def mAnd (f g : M) : M := fun l S => (f l S).bind fun x S1 => (oTru x S1).bind fun b S2 => if b = true then g l S2 else .ok x S2
def mOr (f g : M) : M := fun l S => (f l S).bind fun x S1 => (oTru x S1).bind fun b S2 => if b = true then .ok x S2 else g l S2
def mIf (c : MB) (f g : M) : M := fun l S => (c l S).bind fun b S1 => if b = true then f l S1 else g l S1
variable {h' : M} {t : List Expr}
theorem oTru_bind {β : Type} {K : PySem.W.Frag} {p : Nat → Addr} {S : Hs} {H : Hp} {x : D} {v : V} {k : Bool → Hs → R β} {QQ : β → Hs → (Nat → Addr) → Hp → Prop} (R : Real K p S H) (rx : Rep K p S.length H x v)
    (h : Post K E S.length p H ((oTru x S).bind k) QQ) : ∃ b, TruV K v H b ∧ Post K E S.length p H (k b S) QQ := by
  unfold oTru at h
  split at h
  · rename_i b e; exact ⟨b, tru_V R rx e, h⟩
  · exact h.elim
theorem e_one {op : BoolOp} (ha : EM X E a f) : EM X E (.BoolOp op [a] pos) f := ⟨pe_one ha.pe⟩
theorem e_and {g : M} (ha : EM X E a f) (hb : EM X E (.BoolOp .And (b :: rest) pos) g) : EM X E (.BoolOp .And (a :: b :: rest) pos) (mAnd f g) :=
  ⟨(pe_andT ha.pe hb.pe).weak fun s H Q ⟨p, l, S, R, L, h⟩ => T.of R L h fun p1 S1 H1 d v R1 x1 L1 r1 h1 => by
    obtain ⟨k, hk, h2⟩ := oTru_bind R1 r1 h1
    refine ⟨k, hk, ?_⟩
    cases k with
    | true => exact T.last R1 L1 h2
    | false => exact Post.val h2 R1 r1⟩
theorem e_if {c : Expr} {g : M} (hc : BM X E c fb) (ha : EM X E a f) (hb : EM X E b g) : EM X E (.IfExp c a b pos) (mIf fb f g) :=
  ⟨(pe_ifExp hc.pt ha.pe hb.pe).weak fun s H Q ⟨p, l, S, R, L, h⟩ => TB.of R L h fun p1 S1 H1 b R1 x1 L1 h1 => by
    cases b with
    | true => exact T.last R1 L1 h1
    | false => exact T.last R1 L1 h1⟩
end
def oIx (x y : D) (S : Hs) : R D := match x, y with
  | .str z, .int i => if z.length ≤ sizeLine then (match atI z.cps.toList i with
    | some c => .ok (.str ⟨#[c]⟩) S
    | none => .bad) else .bad
  | .tup xs, .int i => match atI xs i with
    | some d => .ok d S
    | none => .bad
  | .wt xs, .int i => match atI xs i with
    | some d => .ok d S
    | none => .bad
  | .wl xs, .int i => match atI xs i with
    | some d => .ok d S
    | none => .bad
  | .ref j, y => match S[j]? with
    | some (.lst xs) => (match y with
      | .int i => (match atI xs i with
        | some d => .ok d S
        | none => .bad)
      | _ => .bad)
    | some (.rol xs) => (match y with
      | .int i => (match atI xs i with
        | some d => .ok d S
        | none => .bad)
      | _ => .bad)
    | some (.dic _) => (match dGet x y S with
      | some (some d) => .ok d S
      | _ => .bad)
    | some (.dit _) => (match dGet x y S with
      | some (some d) => .ok d S
      | _ => .bad)
    | _ => .bad
  | _, _ => .bad
abbrev rIxDic : R2 := fun x y H Q => ∃ a v, x = .ref a ∧ DGet H a y (some v) ∧ Q v H
theorem ix_dic {X : Cx} (hu : X.A.units + 1 < cLine) : IxR X rIxDic := by
  intro value slice pins s σ H x y v u Q I rx ry h hs
  obtain ⟨a, w, rfl, g, q⟩ := h
  obtain rfl : v = Value.ref a := rx
  exact tail_any (dict_typeIs I g) PySem.F.slot_dict_getitem.lookup (d_getItem hu I g ry fun w' s3 I3 rw' => ⟨w, H, I3, rw', q⟩) hs
abbrev rIxAll (K : PySem.W.Frag) : R2 := orR rIxS (orR (rIxL K) (orR (rIxT K) rIxDic))
theorem ix_all {X : Cx} (hu : X.A.units + 1 < cLine) : IxR X (rIxAll X.K) := IxR.or ix_str (IxR.or ix_list (IxR.or ix_tup (ix_dic hu)))
section
variable {K : PySem.W.Frag} {E : St → XK} {p : Nat → Addr} {S : Hs} {H : Hp} {n : Nat} {pi : Nat → Addr}
theorem Reps.atI {ds : List D} {vs : List V} (h : Reps K pi n H ds vs) {i : Int} {d : D} (e : atI ds i = some d) : ∃ v, L2.atI vs i = some v ∧ Rep K pi n H d v := by
  unfold L2.atI at e ⊢
  rw [← h.len]
  cases q : ixN ds.length i with
  | none => rw [q] at e; cases e
  | some j =>
    rw [q] at e
    exact h.get e
theorem ok_ix : OpOk K E (rIxAll K) oIx := by
  intro p S H x y v u Q R rx ry h
  unfold oIx at h
  split at h
  · split at h
    · rename_i hl
      split at h
      · rename_i c e; cases rx; cases ry; exact .inl ⟨_, _, c, rfl, rfl, hl, e, h.val R (.str _)⟩
      · exact h.elim
    · exact h.elim
  · split at h
    · rename_i d e
      cases ry
      cases rx with
      | tup t r =>
      obtain ⟨w, e2, r2⟩ := r.atI e
      exact .inr (.inr (.inl ⟨_, _, _, w, rfl, rfl, SqT.of t, e2, h.val R r2⟩))
    · exact h.elim
  · split at h
    · rename_i d e
      cases ry
      cases rx with
      | wt t r =>
      obtain ⟨w, e2, r2⟩ := r.atI e
      exact .inr (.inr (.inl ⟨_, _, _, w, rfl, rfl, t.sq, e2, h.val R r2⟩))
    · exact h.elim
  · split at h
    · rename_i d e
      cases ry
      cases rx with
      | wl t r =>
      obtain ⟨w, e2, r2⟩ := r.atI e
      exact .inr (.inl ⟨_, _, _, w, rfl, rfl, t.sq, e2, h.val R r2⟩)
    · exact h.elim
  · split at h
    · rename_i q
      split at h
      · split at h
        · rename_i d e
          obtain ⟨vs, h1, r⟩ := R.lst q
          obtain ⟨w, e2, r2⟩ := r.atI e
          cases rx; cases ry
          exact .inr (.inl ⟨_, _, _, w, rfl, rfl, SqL.of h1, e2, h.val R r2⟩)
        · exact h.elim
      · exact h.elim
    · rename_i q
      split at h
      · split at h
        · rename_i d e
          obtain ⟨o, vs, h1, r⟩ := R.ob _ _ q
          obtain ⟨w, e2, r2⟩ := r.atI e
          cases rx; cases ry
          exact .inr (.inl ⟨_, _, _, w, rfl, rfl, .inl (.inr ⟨o, h1⟩), e2, h.val R r2⟩)
        · exact h.elim
      · exact h.elim
    · split at h
      · rename_i d e
        obtain ⟨a, w, e1, g, m⟩ := dGet_V R rx ry e
        obtain ⟨z, e3, r3⟩ := m
        subst e3
        exact .inr (.inr (.inr ⟨a, z, e1, g, h.val R r3⟩))
      · exact h.elim
    · split at h
      · rename_i d e
        obtain ⟨a, w, e1, g, m⟩ := dGet_V R rx ry e
        obtain ⟨z, e3, r3⟩ := m
        subst e3
        exact .inr (.inr (.inr ⟨a, z, e1, g, h.val R r3⟩))
      · exact h.elim
    · exact h.elim
  · exact h.elim
end
abbrev MO := Ls → Hs → R (Option Int)
def oNo : MO := fun _ S => .ok none S
def oSome (f : M) : MO := fun l S => (f l S).bind fun d S1 => match d with
  | .int i => .ok (some i) S1
  | _ => .bad
def cutD (xs : List D) (lo hi : Option Int) : List D := (xs.drop (HT.sIx xs.length 0 lo)).take (HT.sIx xs.length xs.length hi - HT.sIx xs.length 0 lo)
def oSl (x : D) (lo hi : Option Int) (S : Hs) : R D := match x with
  | .str z => if z.length ≤ sizeLine then .ok (.str (cutS z lo hi)) S else .bad
  | .tup xs => .ok (.tup (cutD xs lo hi)) S
  | .ref i => match S[i]? with
    | some (.lst xs) => .ok (.ref S.length) (S ++ [.lst (cutD xs lo hi)])
    | some (.rol xs) => .ok (.ref S.length) (S ++ [.lst (cutD xs lo hi)])
    | _ => .bad
  | _ => .bad
def mSl (f : M) (lo hi : MO) : M := fun l S => (f l S).bind fun x S1 => (lo l S1).bind fun a S2 => (hi l S2).bind fun b S3 => oSl x a b S3
def TO' (K : PySem.W.Frag) (E : St → XK) (f : MO) : TO := fun s H Q => ∃ p l S, Real K p S H ∧ Sl K p S.length H l s ∧ Post K E S.length p H (f l S) (fun d _ _ H => Q d H)
structure OM (X : Cx) (E : St → XK) (e : Option Expr) (f : MO) : Prop where po : PO X e (TO' X.K E f)
section
variable {X : Cx} {E : St → XK} {e a b : Expr} {f g : M} {pos p2 : Pos} {lo hi : Option Expr} {fl fh : MO}
theorem _root_.L2.PO.weak {X : Cx} {e : Option Expr} {t t' : TO} (h : PO X e t) (w : ∀ s H Q, t' s H Q → t s H Q) : PO X e t' := ⟨fun pins s σ H Q I q => h.run pins s σ H Q I (w σ H Q q)⟩
theorem o_no : OM X E none oNo := ⟨po_none.weak fun s H Q ⟨p, l, S, R, L, h⟩ => Post.ok (Q := fun d _ _ H => Q d H) h Ext.refl R⟩
theorem o_some (ha : EM X E a f) : OM X E (some a) (oSome f) := ⟨(po_some ha.pe).weak fun s H Q ⟨p, l, S, R, L, h⟩ => T.of R L h fun p1 S1 H1 d v R1 x1 L1 r1 h1 => by
  split at h1
  · cases r1; exact ⟨_, rfl, Post.ok (Q := fun d _ _ H => Q d H) h1 Ext.refl R1⟩
  · exact h1.elim⟩
theorem OM.of {K : PySem.W.Frag} {s : St} {H : Hp} {β : Type} {QQ : β → Hs → (Nat → Addr) → Hp → Prop} {f : MO} {k : Option Int → Hs → R β} {p : Nat → Addr} {l : Ls} {S : Hs} {Q' : Option Int → Hp → Prop} (R : Real K p S H) (L : Sl K p S.length H l s) (h : Post K E S.length p H ((f l S).bind k) QQ)
    (st : ∀ p1 S1 H1 b, Real K p1 S1 H1 → Ext S.length S1.length p p1 H H1 → Sl K p1 S1.length H1 l s → Post K E S1.length p1 H1 (k b S1) QQ → Q' b H1) : TO' K E f s H Q' :=
  ⟨p, l, S, R, L, h.bind.mono fun a S1 p1 H1 _ x R1 q => st p1 S1 H1 a R1 x (L.ext x) q⟩
theorem Reps.cut {K : PySem.W.Frag} {pi : Nat → Addr} {n : Nat} {H : Hp} {ds : List D} {vs : List V} (h : Reps K pi n H ds vs) (a b : Option Int) : Reps K pi n H (cutD ds a b) (cutV vs a b) := by
  unfold cutD cutV
  rw [← h.len]
  exact (h.drop _).take _
theorem cut_whole {vs : List V} {a b : Option Int} (h : HT.sIx vs.length 0 a = 0 ∧ HT.sIx vs.length vs.length b = vs.length) : cutV vs a b = vs := by
  unfold cutV
  rw [h.1, h.2, List.drop_zero, Nat.sub_zero, List.take_length]
theorem e_slice (ha : EM X E a f) (hl : OM X E lo fl) (hu : OM X E hi fh) : EM X E (.Subscript a (.Slice lo hi none p2) pos) (mSl f fl fh) :=
  ⟨(pe_slice (SlR.or sl_str (SlR.or sl_list sl_tupA)) ha.pe hl.po hu.po).weak fun s H Q ⟨p, l, S, R, L, h⟩ => T.of R L h fun p1 S1 H1 d v R1 x1 L1 r1 h1 => OM.of R1 L1 h1 fun p2 S2 H2 ba R2 x2 L2 h2 => OM.of R2 L2 h2 fun p3 S3 H3 bb R3 x3 L3 h3 => by
    have r3 := r1.ext (x2.trans x3) _ _
    unfold oSl at h3
    split at h3
    · split at h3
      · rename_i hl; cases r3; exact .inl ⟨_, rfl, hl, h3.val R3 (.str _)⟩
      · exact h3.elim
    · cases r3 with
      | @tup q _ vs t r =>
      refine .inr (.inr ⟨q, vs, rfl, SqT.of t, fun w => ?_, fun _ z hz => h3.valT R3 (r.cut ba bb) hz⟩)
      have := r.cut ba bb
      rw [cut_whole w] at this
      exact h3.val R3 (.tup t this)
    · split at h3
      · rename_i q
        obtain ⟨vs, e1, r⟩ := R3.lst q
        cases r3
        exact .inr (.inl ⟨_, vs, rfl, SqL.of e1, fun z hz => h3.newL R3 (r.cut ba bb) hz⟩)
      · rename_i q
        obtain ⟨o, vs, e1, r⟩ := R3.ob _ _ q
        cases r3
        exact .inr (.inl ⟨_, vs, rfl, .inl (.inr ⟨o, e1⟩), fun z hz => h3.newL R3 (r.cut ba bb) hz⟩)
      · exact h3.elim
    · exact h3.elim⟩
theorem e_ix (hu : X.A.units + 1 < cLine) (ha : EM X E a f) (hb : EM X E b g) (hs : PlainIx b := by intro _ _; rfl) : EM X E (.Subscript a b pos) (mBin oIx f g) :=
  ⟨(pe_ix (ix_all hu) ha.pe hb.pe hs).weak fun s H Q ⟨p, l, S, R, L, h⟩ => T.of R L h fun p1 S1 H1 d v R1 x1 L1 r1 h1 => T.of R1 L1 h1 fun p2 S2 H2 d2 v2 R2 x2 L2 r2 h2 => ok_ix p2 S2 H2 _ _ _ _ Q R2 (r1.ext x2 _ _) r2 h2⟩
def mTup (f : ML) : M := fun l S => (f l S).bind fun ds S1 => if ds.length ≤ sizeLine then .ok (.tup ds) S1 else .bad
def mLst (f : ML) : M := fun l S => (f l S).bind fun ds S1 => if ds.length ≤ sizeLine then .ok (.ref S1.length) (S1 ++ [.lst ds]) else .bad
theorem e_tup {es : List Expr} {fl : ML} {x1 : Nat} (h : LM X E es fl) : EM X E (.Tuple es x1 pos) (mTup fl) :=
  ⟨(pe_tup h.pa).weak fun s H Q ⟨p, l, S, R, L, h⟩ => TL.of R L h fun p1 S1 H1 d v R1 x1 L1 r1 h1 => by
    split at h1
    · rename_i hl; exact ⟨by rw [← r1.len]; exact hl, fun q hq => h1.valT R1 r1 hq⟩
    · exact h1.elim⟩
theorem e_lst {es : List Expr} {fl : ML} (h : LM X E es fl) : EM X E (.List es pos) (mLst fl) :=
  ⟨(pe_lst h.pa).weak fun s H Q ⟨p, l, S, R, L, h⟩ => TL.of R L h fun p1 S1 H1 d v R1 x1 L1 r1 h1 => by
    split at h1
    · rename_i hl; exact ⟨by rw [← r1.len]; exact hl, fun q hq => h1.newL R1 r1 hq⟩
    · exact h1.elim⟩
def mDicK : M := fun _ S => .ok (.ref S.length) (S ++ [.dic []])
def mDicT : M := fun _ S => .ok (.ref S.length) (S ++ [.dit []])
theorem e_dicK : EM X E (.Dict [] [] pos) mDicK := ⟨pe_dnewK.weak fun s H Q ⟨p, l, S, R, L, h⟩ q hq => Post.new h R hq ⟨[], upd_same, rfl, .nil⟩⟩
end
end Ly
set_option Elab.async false
set_option linter.all false
set_option maxRecDepth 100000
namespace Ly
open PySem PySem.Spec L2
open PyProof.Rows hiding St
def mCall (op : List D → Hs → R D) (f : ML) : M := fun l S => (f l S).bind op
def CallOk (K : PySem.W.Frag) (E : St → XK) (r : List V → Hp → VK → Prop) (op : List D → Hs → R D) : Prop :=
  ∀ p S H ds vs Q, Real K p S H → Reps K p S.length H ds vs → Post K E S.length p H (op ds S) (QD K Q) → r vs H Q
abbrev orC (r r' : List V → Hp → VK → Prop) : List V → Hp → VK → Prop := fun xs H Q => r xs H Q ∨ r' xs H Q
section
variable {X : Cx} {E : St → XK} {e : Expr} {es : List Expr} {f : ML} {x : Str} {p pos : Pos} {id T : String} {r : List V → Hp → VK → Prop} {op : List D → Hs → R D}
theorem e_callB (hc : CallR X (.builtin id) r) (hk : CallOk X.K E r op) (hg : Gl X x) (hm : X.mg x = none) (hv : bootBuiltins x = some (.builtin id)) (ha : LM X E (e :: es) f) (hn : x ≠ "__name__" := by decide) (hdb : (x == ("__debug__" : Str)) = false := by decide)
    (he : starEach (e :: es) X.env = (false, eval e X.env) :: starEach es X.env := by rfl) (hpl : (backTo pos (starEach es X.env)).any (·.1) = false := by rfl) : EM X E (.Call (.Name x p) (e :: es) [] pos) (mCall op f) :=
  ⟨(pe_callB hc hg hm hv ha.pa hn hdb he hpl).weak fun s H Q ⟨p, l, S, R, L, h⟩ => TL.of R L h fun p1 S1 H1 d v R1 x1 L1 r1 h1 => hk p1 S1 H1 _ _ Q R1 r1 h1⟩
theorem e_callT (hc : CallR X (.type T) r) (hk : CallOk X.K E r op) (hg : Gl X x) (hm : X.mg x = none) (hv : bootBuiltins x = some (.type T)) (ha : LM X E (e :: es) f) (hn : x ≠ "__name__" := by decide) (hdb : (x == ("__debug__" : Str)) = false := by decide)
    (he : starEach (e :: es) X.env = (false, eval e X.env) :: starEach es X.env := by rfl) (hpl : (backTo pos (starEach es X.env)).any (·.1) = false := by rfl) : EM X E (.Call (.Name x p) (e :: es) [] pos) (mCall op f) :=
  ⟨(pe_callTy hc hg hm hv ha.pa hn hdb he hpl).weak fun s H Q ⟨p, l, S, R, L, h⟩ => TL.of R L h fun p1 S1 H1 d v R1 x1 L1 r1 h1 => hk p1 S1 H1 _ _ Q R1 r1 h1⟩
end
def lenD (x : D) (S : Hs) : Option Nat := match x with
  | .str y => if y.length ≤ sizeLine then some y.length else none
  | .tup xs => some xs.length
  | .wt xs => some xs.length
  | .wl xs => some xs.length
  | .ref i => match S[i]? with
    | some (.lst xs) => some xs.length
    | some (.rol xs) => some xs.length
    | some (.dic xs) => some xs.length
    | _ => none
  | _ => none
def bLen : List D → Hs → R D
  | [x], S => match lenD x S with
    | some n => .ok (.int (n : Int)) S
    | none => .bad
  | _, _ => .bad
def bInt : List D → Hs → R D
  | [.int i], S => .ok (.int i) S
  | [.bl b], S => .ok (.int (b2i b)) S
  | [.str x], S => match intText? x with
    | some n => if x.length ≤ 640 then .ok (.int n) S else .bad
    | none => .bad
  | _, _ => .bad
def bStr : List D → Hs → R D
  | [.int i], S => if i.natAbs.log2 < 1920 then .ok (.str (Str.ofString (toString i))) S else .bad
  | [.str x], S => .ok (.str x) S
  | _, _ => .bad
def bAbs : List D → Hs → R D
  | [.int i], S => .ok (.int (if i < 0 then -i else i)) S
  | _, _ => .bad
def intsD : List D → Option (List Int)
  | [] => some []
  | .int i :: r => (intsD r).map (i :: ·)
  | _ => none
def seqD (x : D) (S : Hs) : Option (List D) := match x with
  | .ref i => match S[i]? with
    | some (.lst xs) => some xs
    | some (.rol xs) => some xs
    | _ => none
  | .wl xs => some xs
  | _ => none
def bTuple : List D → Hs → R D
  | [.tup xs], S => .ok (.tup xs) S
  | [.wt xs], S => .ok (.wt xs) S
  | [.ref i], S => match seqD (.ref i) S with
    | some xs => .ok (.tup xs) S
    | none => .bad
  | _, _ => .bad
def keyD : Key → D
  | .inl i => .int i
  | .inr x => .str x
def bList : List D → Hs → R D
  | [.tup xs], S => .ok (.ref S.length) (S ++ [.lst xs])
  | [.wt xs], S => .ok (.ref S.length) (S ++ [.lst xs])
  | [.ref i], S => match S[i]? with
    | some (.lst xs) => .ok (.ref S.length) (S ++ [.lst xs])
    | some (.rol xs) => .ok (.ref S.length) (S ++ [.lst xs])
    | some (.dic kvs) => .ok (.ref S.length) (S ++ [.lst (kvs.map fun kv => keyD kv.1)])
    | _ => .bad
  | _, _ => .bad
section
variable {K : PySem.W.Frag} {E : St → XK} {X : Cx}
abbrev rLenAll (K : PySem.W.Frag) : List V → Hp → VK → Prop := orC (fun xs H Q => ∃ x n, xs = [x] ∧ LenV K x H n ∧ Q (V.int ((n : Nat) : Int)) H) (fun xs H Q => ∃ a kvs, xs = [V.ref a] ∧ H a = some (.dK kvs) ∧ Q (V.int ((kvs.length : Nat) : Int)) H)
theorem cr_lenA : CallR X (.builtin "len") (rLenAll X.K) := CallR.or call_len call_lenD
theorem ok_len : CallOk K E (rLenAll K) bLen := by
  intro p S H ds vs Q R r h
  unfold bLen at h
  split at h
  · cases r with
    | cons r0 rs =>
    cases rs
    split at h
    · rename_i n e
      have hq : Q (V.int ((n : Nat) : Int)) H := h.val R (.int _)
      unfold lenD at e
      split at e
      · split at e
        · cases e; cases r0; exact .inl ⟨_, _, rfl, ⟨by assumption, rfl⟩, hq⟩
        · cases e
      · cases e
        cases r0 with
        | tup t r => exact .inl ⟨_, _, rfl, .inr ⟨_, SqT.of t, r.len⟩, hq⟩
      · cases e
        cases r0 with
        | wt t r => exact .inl ⟨_, _, rfl, .inr ⟨_, t.sq, r.len⟩, hq⟩
      · cases e
        cases r0 with
        | wl t r => exact .inl ⟨_, _, rfl, .inl ⟨_, t.sq, r.len⟩, hq⟩
      · split at e
        · rename_i q
          obtain ⟨vs, h1, r⟩ := R.lst q
          cases e; cases r0; exact .inl ⟨_, _, rfl, .inl ⟨_, SqL.of h1, r.len⟩, hq⟩
        · rename_i q
          obtain ⟨o, vs, h1, r⟩ := R.ob _ _ q
          cases e; cases r0; exact .inl ⟨_, _, rfl, .inl ⟨_, .inl (.inr ⟨o, h1⟩), r.len⟩, hq⟩
        · rename_i zs q
          obtain ⟨ks, h1, h2, h3⟩ := R.ob _ _ q
          cases e; cases r0
          have hl : ks.length = zs.length := by simpa using congrArg List.length h2
          exact .inr ⟨_, _, rfl, h1, by rw [hl]; exact hq⟩
        · cases e
      · cases e
    · exact h.elim
  · exact h.elim
abbrev rIntAll : List V → Hp → VK → Prop := orC (fun xs H Q => (∃ i, xs = [.int i] ∧ Q (.int i) H) ∨ ∃ k, xs = [.bl k] ∧ Q (.int (b2i k)) H) (fun xs H Q => ∃ a n, xs = [V.str a] ∧ intText? a = some n ∧ a.length ≤ 640 ∧ Q (V.int n) H)
theorem cr_intA : CallR X (.type "int") rIntAll := CallR.or call_int1 call_int_str
theorem ok_int : CallOk K E rIntAll bInt := by
  intro p S H ds vs Q R r h
  unfold bInt at h
  split at h
  · cases r with
    | cons r0 rs => cases rs; cases r0; exact .inl (.inl ⟨_, rfl, h.val R (.int _)⟩)
  · cases r with
    | cons r0 rs => cases rs; cases r0; exact .inl (.inr ⟨_, rfl, h.val R (.int _)⟩)
  · cases r with
    | cons r0 rs =>
    cases rs; cases r0
    split at h
    · rename_i n e
      split at h
      · rename_i hl; exact .inr ⟨_, _, rfl, e, hl, h.val R (.int _)⟩
      · exact h.elim
    · exact h.elim
  · exact h.elim
abbrev rStrAll : List V → Hp → VK → Prop := orC (fun xs H Q => ∃ i, xs = [V.int i] ∧ i.natAbs.log2 < 1920 ∧ Q (V.str (Str.ofString (toString i))) H) (fun xs H Q => ∃ a, xs = [.str a] ∧ Q (.str a) H)
theorem cr_strA : CallR X (.type "str") rStrAll := CallR.or call_str_int SkE.call_str_str
theorem ok_str : CallOk K E rStrAll bStr := by
  intro p S H ds vs Q R r h
  unfold bStr at h
  split at h
  · split at h
    · rename_i hl
      cases r with
      | cons r0 rs => cases rs; cases r0; exact .inl ⟨_, rfl, hl, h.val R (.str _)⟩
    · exact h.elim
  · cases r with
    | cons r0 rs => cases rs; cases r0; exact .inr ⟨_, rfl, h.val R (.str _)⟩
  · exact h.elim
theorem ok_abs : CallOk K E (fun xs H Q => ∃ i, xs = [.int i] ∧ Q (.int (if i < 0 then -i else i)) H) bAbs := by
  intro p S H ds vs Q R r h
  unfold bAbs at h
  split at h
  · cases r with
    | cons r0 rs => cases rs; cases r0; exact ⟨_, rfl, h.val R (.int _)⟩
  · exact h.elim
theorem ints_V {pi : Nat → Addr} {n : Nat} {H : Hp} {ds : List D} {vs : List V} {ns : List Int} (r : Reps K pi n H ds vs) (h : intsD ds = some ns) : vs = ns.map V.int := by
  induction ds generalizing vs ns with
  | nil => cases r; simp [intsD] at h; subst h; rfl
  | cons d ds ih =>
    cases r with
    | cons r s =>
      cases r <;> simp [intsD] at h
      obtain ⟨ms, h1, rfl⟩ := h
      rw [ih s h1]; rfl
theorem seq_V {p : Nat → Addr} {S : Hs} {H : Hp} {x : D} {v : V} {ds : List D} (R : Real K p S H) (r : Rep K p S.length H x v) (h : seqD x S = some ds) : ∃ a vs, v = .ref a ∧ SqL K H a vs ∧ Reps K p S.length H ds vs := by
  unfold seqD at h
  split at h
  · split at h
    · rename_i q
      cases h; cases r
      obtain ⟨vs, h1, r⟩ := R.lst q
      exact ⟨_, vs, rfl, SqL.of h1, r⟩
    · rename_i q
      cases h; cases r
      obtain ⟨o, vs, h1, r⟩ := R.ob _ _ q
      exact ⟨_, vs, rfl, .inl (.inr ⟨o, h1⟩), r⟩
    · cases h
  · cases h
    cases r with
    | wl t r => exact ⟨_, _, rfl, t.sq, r⟩
  · cases h
abbrev rTupleOf (K : PySem.W.Frag) : List V → Hp → VK → Prop := fun xs H Q => ∃ p ys, xs = [V.ref p] ∧ ((SqL K H p ys ∧ ∀ l, H l = none → Q (V.ref l) (upd H l (.tup ys))) ∨ SqT K H p ys ∧ Q (V.ref p) H)
theorem ok_tuple : CallOk K E (rTupleOf K) bTuple := by
  intro p S H ds vs Q R r h
  unfold bTuple at h
  split at h
  · cases r with
    | cons r0 rs =>
    cases rs
    cases r0 with
    | tup t r => exact ⟨_, _, rfl, .inr ⟨SqT.of t, h.val R (.tup t r)⟩⟩
  · cases r with
    | cons r0 rs =>
    cases rs
    cases r0 with
    | wt t r => exact ⟨_, _, rfl, .inr ⟨t.sq, h.val R (.wt t r)⟩⟩
  · split at h
    · rename_i e
      cases r with
      | cons r0 rs =>
      cases rs
      obtain ⟨a, vs, rfl, hs, r⟩ := seq_V R r0 e
      exact ⟨a, vs, rfl, .inl ⟨hs, fun q hq => h.valT R r hq⟩⟩
    · exact h.elim
  · exact h.elim
abbrev rListOf (K : PySem.W.Frag) : List V → Hp → VK → Prop := fun xs H Q => ∃ p ys, xs = [V.ref p] ∧ (SqL K H p ys ∨ SqT K H p ys) ∧ ∀ l, H l = none → Q (V.ref l) (upd H l (.lst ys))
abbrev rListD : List V → Hp → VK → Prop := fun xs H Q => ∃ (a : Addr) (kvs : List (Key × V)), xs = [.ref a] ∧ Rd H a (.dK kvs) ∧ ∀ p, H p = none → Q (.ref p) (upd H p (.lst (kvs.map fun kv => kV kv.1)))
theorem cr_listA (hc : X.calm = true) : CallR X (.type "list") (orC (rListOf X.K) rListD) := CallR.or call_list_of (call_listD hc)
theorem keyD_V {pi : Nat → Addr} {n : Nat} {H : Hp} (k : Key) : Rep K pi n H (keyD k) (kV k) := by cases k <;> constructor
theorem keysD_V {pi : Nat → Addr} {n : Nat} {H : Hp} {kvs : List (Key × D)} {ks : List (Key × V)} (h : ks.map (·.1) = kvs.map (·.1)) : Reps K pi n H (kvs.map fun kv => keyD kv.1) (ks.map fun kv => kV kv.1) := by
  induction kvs generalizing ks with
  | nil => cases ks with | nil => exact .nil | cons a b => cases h
  | cons a kvs ih =>
    cases ks with
    | nil => cases h
    | cons b ks =>
      simp only [List.map_cons, List.cons.injEq] at h
      simp only [List.map_cons]
      exact .cons (by rw [h.1]; exact keyD_V _) (ih h.2)
theorem ok_list : CallOk K E (orC (rListOf K) rListD) bList := by
  intro p S H ds vs Q R r h
  unfold bList at h
  split at h
  · cases r with
    | cons r0 rs =>
    cases rs
    cases r0 with
    | tup t r => exact .inl ⟨_, _, rfl, .inr (SqT.of t), fun q hq => h.newL R r hq⟩
  · cases r with
    | cons r0 rs =>
    cases rs
    cases r0 with
    | wt t r => exact .inl ⟨_, _, rfl, .inr t.sq, fun q hq => h.newL R r hq⟩
  · cases r with
    | cons r0 rs =>
    cases rs
    split at h
    · rename_i q
      obtain ⟨vs, h1, r⟩ := R.lst q
      cases r0
      exact .inl ⟨_, _, rfl, .inl (SqL.of h1), fun q hq => h.newL R r hq⟩
    · rename_i q
      obtain ⟨o, vs, h1, r⟩ := R.ob _ _ q
      cases r0
      exact .inl ⟨_, _, rfl, .inl (.inl (.inr ⟨o, h1⟩)), fun q hq => h.newL R r hq⟩
    · rename_i q
      obtain ⟨ks, h1, h2, h3⟩ := R.ob _ _ q
      cases r0
      exact .inr ⟨_, _, rfl, .inl h1, fun q hq => h.newL R (keysD_V h2) hq⟩
    · exact h.elim
  · exact h.elim
end
section
variable {X : Cx} {E : St → XK} {e : Expr} {f : ML} {p pos : Pos} {es : List Expr}
theorem c_len (hm : X.mg "len" = none) (ha : LM X E [e] f) (hg : Gl X "len" := by rfl) (he : starEach [e] X.env = (false, eval e X.env) :: starEach [] X.env := by rfl) : EM X E (.Call (.Name "len" p) [e] [] pos) (mCall bLen f) := e_callB cr_lenA ok_len hg hm (by decide +kernel) ha (by decide) (by decide) he (by rfl)
theorem c_int (hm : X.mg "int" = none) (ha : LM X E [e] f) (hg : Gl X "int" := by rfl) (he : starEach [e] X.env = (false, eval e X.env) :: starEach [] X.env := by rfl) : EM X E (.Call (.Name "int" p) [e] [] pos) (mCall bInt f) := e_callT cr_intA ok_int hg hm (by decide +kernel) ha (by decide) (by decide) he (by rfl)
theorem c_str (hm : X.mg "str" = none) (ha : LM X E [e] f) (hg : Gl X "str" := by rfl) (he : starEach [e] X.env = (false, eval e X.env) :: starEach [] X.env := by rfl) : EM X E (.Call (.Name "str" p) [e] [] pos) (mCall bStr f) := e_callT cr_strA ok_str hg hm (by decide +kernel) ha (by decide) (by decide) he (by rfl)
theorem c_abs (hm : X.mg "abs" = none) (ha : LM X E [e] f) (hg : Gl X "abs" := by rfl) (he : starEach [e] X.env = (false, eval e X.env) :: starEach [] X.env := by rfl) : EM X E (.Call (.Name "abs" p) [e] [] pos) (mCall bAbs f) := e_callB call_abs ok_abs hg hm (by decide +kernel) ha (by decide) (by decide) he (by rfl)
theorem c_tuple (hm : X.mg "tuple" = none) (ha : LM X E [e] f) (hg : Gl X "tuple" := by rfl) (he : starEach [e] X.env = (false, eval e X.env) :: starEach [] X.env := by rfl) : EM X E (.Call (.Name "tuple" p) [e] [] pos) (mCall bTuple f) := e_callT call_tuple_of ok_tuple hg hm (by decide +kernel) ha (by decide) (by decide) he (by rfl)
theorem c_list (hc : X.calm = true) (hm : X.mg "list" = none) (ha : LM X E [e] f) (hg : Gl X "list" := by rfl) (he : starEach [e] X.env = (false, eval e X.env) :: starEach [] X.env := by rfl) : EM X E (.Call (.Name "list" p) [e] [] pos) (mCall bList f) := e_callT (cr_listA hc) ok_list hg hm (by decide +kernel) ha (by decide) (by decide) he (by rfl)
end
end Ly
set_option Elab.async false
set_option linter.all false
set_option maxRecDepth 100000
namespace Ly
open PySem PySem.Spec L2
open PyProof.Rows hiding St
def hasTy (T : String) (x : D) (S : Hs) : Bool := match x with
  | .str _ => decide (T = "str")
  | .int _ => decide (T = "int")
  | .ref i => match S[i]? with
    | some (.lst _) => decide (T = "list")
    | some (.rol _) => decide (T = "list")
    | some (.dic _) => decide (T = "dict")
    | some (.dit _) => decide (T = "dict")
    | _ => false
  | _ => false
theorem hasTy_V {K : PySem.W.Frag} {T : String} {p : Nat → Addr} {S : Hs} {H : Hp} {x : D} {v : V} (R : Real K p S H) (r : Rep K p S.length H x v) (h : hasTy T x S = true) : tyV K T v H := by
  unfold hasTy at h
  cases r with
  | str x => exact of_decide_eq_true (p := T = "str") h
  | int x => exact of_decide_eq_true (p := T = "int") h
  | ref hi =>
    simp only at h
    split at h
    · rename_i q
      obtain ⟨vs, h1, r⟩ := R.lst q
      exact .inl ⟨of_decide_eq_true h, _, SqL.of h1⟩
    · rename_i q
      obtain ⟨o, vs, h1, r⟩ := R.ob _ _ q
      exact .inl ⟨of_decide_eq_true h, _, .inl (.inr ⟨o, h1⟩)⟩
    · rename_i q
      obtain ⟨ks, h1, _⟩ := R.ob _ _ q
      exact .inr (.inr (.inl ⟨of_decide_eq_true h, .inl ⟨_, h1⟩⟩))
    · rename_i q
      obtain ⟨ks, h1, _⟩ := R.ob _ _ q
      exact .inr (.inr (.inl ⟨of_decide_eq_true h, .inr ⟨_, h1⟩⟩))
    · cases h
  | _ => cases h
def mBM (Tn : String) (op : D → List D → Hs → R D) (f : M) (g : ML) : M := fun l S => (f l S).bind fun x S1 => if hasTy Tn x S1 = true then (g l S1).bind fun ds S2 => op x ds S2 else .bad
def MtOk (K : PySem.W.Frag) (E : St → XK) (r : V → List V → Hp → VK → Prop) (op : D → List D → Hs → R D) : Prop :=
  ∀ p S H x v ds vs Q, Real K p S H → Rep K p S.length H x v → Reps K p S.length H ds vs → Post K E S.length p H (op x ds S) (QD K Q) → r v vs H Q
section
variable {X : Cx} {E : St → XK} {o e : Expr} {es : List Expr} {f : M} {g : ML} {name : Str} {apos cpos : Pos} {Tn id : String} {r : V → List V → Hp → VK → Prop} {op : D → List D → Hs → R D}
theorem e_bm (pa : PlainAttrs Tn) (slot : Slot Tn name id) (hty : typeOf (.builtin id) = pure (.type "method_descriptor")) (hm : MtR X id r) (hk : MtOk X.K E r op) (ho : EM X E o f) (ha : LM X E (e :: es) g)
    (hbase : attributeBase o name X.env (eval o X.env) = eval o X.env := by rfl)
    (hfew : ((backTo cpos (starEach (e :: es) X.env)).all (fun x => !x.1) && (backToKw cpos (keywordEach [] X.env)).all (fun x => x.1.isSome)
      && decide ((e :: es).length + ([] : List Keyword).length + (if ([] : List Keyword).isEmpty then 0 else 1) < 30)) = true := by rfl)
    (hline : (apos.endLine == cpos.line) = true := by rfl) (hs : starEach (e :: es) X.env = (false, eval e X.env) :: starEach es X.env := by rfl) (hplain : (backTo cpos (starEach es X.env)).any (·.1) = false := by rfl) :
    EM X E (.Call (.Attribute o name apos) (e :: es) [] cpos) (mBM Tn op f g) :=
  ⟨(pe_bm pa slot hty hm ho.pe ha.pa hbase hfew hline hs hplain).weak fun s H Q ⟨p, l, S, R, L, h⟩ => T.of R L h fun p1 S1 H1 d v R1 x1 L1 r1 h1 => by
    split at h1
    · rename_i ht
      exact ⟨hasTy_V R1 r1 ht, TL.of R1 L1 h1 fun p2 S2 H2 d2 v2 R2 x2 L2 r2 h2 => hk p2 S2 H2 _ _ _ _ Q R2 (r1.ext x2 _ _) r2 h2⟩
    · exact h1.elim⟩
end
def oAppend (x : D) (ds : List D) (S : Hs) : R D := match x, ds with
  | .ref i, [y] => match S[i]? with
    | some (.lst xs) => if xs.length < sizeLine then .ok .non (S.set i (.lst (xs ++ [y]))) else .bad
    | _ => .bad
  | _, _ => .bad
def oExtend (x : D) (ds : List D) (S : Hs) : R D := match x, ds with
  | .ref i, [.ref j] => match S[i]?, S[j]? with
    | some (.lst xs), some (.lst ys) => if xs.length + ys.length ≤ sizeLine then .ok .non (S.set i (.lst (xs ++ ys))) else .bad
    | _, _ => .bad
  | _, _ => .bad
def oPop (x : D) (ds : List D) (S : Hs) : R D := match x, ds with
  | .ref i, [] => match S[i]? with
    | some (.lst xs) => (match xs[xs.length - 1]? with
      | some y => .ok y (S.set i (.lst xs.dropLast))
      | none => .bad)
    | _ => .bad
  | _, _ => .bad
section
variable {K : PySem.W.Frag} {E : St → XK} {X : Cx}
theorem ok_append : MtOk K E rAppend oAppend := by
  intro p S H x v ds vs Q R rx r h
  unfold oAppend at h
  split at h
  · split at h
    · rename_i y _ xs q
      split at h
      · rename_i hl
        obtain ⟨us, h1, r1⟩ := R.lst q
        cases rx
        cases r with
        | cons r0 rs =>
        cases rs
        have hi := Real.lt q
        refine ⟨_, us, _, rfl, rfl, h1, by rw [← r1.len]; exact hl, h.put R hi ⟨_, upd_same, ?_⟩ .non⟩
        exact (r1.ext (ext_upd (R.notup hi)) _ _).append (.cons (r0.ext (ext_upd (R.notup hi)) _ _) .nil)
      · exact h.elim
    · exact h.elim
  · exact h.elim
theorem Reps.dropLast {pi : Nat → Addr} {n : Nat} {H : Hp} {ds : List D} {vs : List V} (r : Reps K pi n H ds vs) : Reps K pi n H ds.dropLast vs.dropLast := by
  rw [List.dropLast_eq_take, List.dropLast_eq_take, ← r.len]; exact r.take _
end
def mSet (i : Nat) (f : M) : MS := fun l S => (f l S).bind fun d S1 => .ok (.nx (l.set i (some d))) S1
def mExpr (f : M) : MS := fun l S => (f l S).bind fun _ S1 => .ok (.nx l) S1
def mRet (f : M) : MS := fun l S => (f l S).bind fun d S1 => .ok (.rt d) S1
def mRetN : MS := fun _ S => .ok (.rt .non) S
def mPass : MS := fun l S => .ok (.nx l) S
def mBrk : MS := fun l S => .ok (.bk l) S
def mCnt : MS := fun l S => .ok (.ct l) S
def mSeq (f g : MS) : MS := fun l S => (f l S).bind fun r S1 => match r with
  | .nx l1 => g l1 S1
  | r => .ok r S1
def mIfS (c : MB) (f g : MS) : MS := fun l S => (c l S).bind fun b S1 => if b = true then f l S1 else g l S1
section
variable {X : Cx} {E : St → XK} {st : Stmt} {sts : List Stmt} {f g : MS} {e : Expr} {m : M} {pos : Pos}
theorem Post.nx {K : PySem.W.Frag} {D0 : Ends} {p : Nat → Addr} {S : Hs} {H : Hp} {l : Ls} {s : St} (h : Post K E S.length p H (.ok (.nx l) S) (QF K D0)) (R : Real K p S H) (L : Sl K p S.length H l s) : D0.nx s H := Post.ok (Q := QF K D0) h Ext.refl R s L
theorem SMs.nil : SMs X E [] mPass := ⟨pss_nil.weak fun s H D0 ⟨p, l, S, R, L, h⟩ => Post.nx h R L⟩
theorem SMs.cons (h1 : SM X E st f) (h2 : SMs X E sts g) : SMs X E (st :: sts) (mSeq f g) := ⟨(pss_cons h1.ps h2.ps).weak fun s H D0 ⟨p, l, S, R, L, h⟩ => by
  refine ⟨p, l, S, R, L, (Post.bind (r := f l S) h).mono fun a S1 p1 H1 _ x R1 q => ?_⟩
  cases a with
  | nx l1 => exact fun s1 L1 => ⟨p1, l1, S1, R1, L1, q⟩
  | rt d => exact fun v r => Post.ok (Q := QF _ D0) q Ext.refl R1 v r
  | bk l1 => exact fun v r => Post.ok (Q := QF _ D0) q Ext.refl R1 v r
  | ct l1 => exact fun v r => Post.ok (Q := QF _ D0) q Ext.refl R1 v r⟩
theorem SMs.one (h1 : SM X E st f) : SMs X E [st] f := ⟨pss_one h1.ps⟩
theorem s_set {i : Nat} {x : Str} {pos' : Pos} (hN : X.N.Nodup) (he : EM X E e m) (hi : X.N[i]? = some x := by rfl) (hx : L2.Loc X.env.scope x := by first | exact Or.inl rfl | exact Or.inr rfl)
    (hs : swapsWith e (some (.Name x pos')) pos.line X.env = pure false := by rfl) (hf : X.fn x = true ∨ X.env.scope.names.lookup x = some .local := by first | exact .inl rfl | exact .inr rfl | assumption) :
    SM X E (.Assign [.Name x pos'] e pos) (mSet i m) :=
  ⟨(ps_set hN hi hx he.pe hs hf).weak fun s H D0 ⟨p, l, S, R, L, h⟩ => T.of R L h fun p1 S1 H1 d v R1 x1 L1 r1 h1 => Post.nx h1 R1 (L1.set i r1)⟩
theorem s_expr (he : EM X E e m) (hs : swapsWith e none pos.line X.env = pure false := by rfl) : SM X E (.Expr e pos) (mExpr m) :=
  ⟨(ps_expr he.pe hs).weak fun s H D0 ⟨p, l, S, R, L, h⟩ => T.of R L h fun p1 S1 H1 d v R1 x1 L1 r1 h1 => Post.nx h1 R1 L1⟩
theorem s_ret (he : EM X E e m) : SM X E (.Return (some e) pos) (mRet m) :=
  ⟨(ps_ret he.pe).weak fun s H D0 ⟨p, l, S, R, L, h⟩ => T.of R L h fun p1 S1 H1 d v R1 x1 L1 r1 h1 => Post.ok (Q := QF _ D0) h1 Ext.refl R1 v r1⟩
theorem TSt.last {K : PySem.W.Frag} {s : St} {H : Hp} {D0 : Ends} {p : Nat → Addr} {l : Ls} {S : Hs} (R : Real K p S H) (L : Sl K p S.length H l s) (h : Post K E S.length p H (f l S) (QF K D0)) : TSt K E f D0 s H := ⟨p, l, S, R, L, h⟩
theorem s_if {c : Expr} {a b : List Stmt} {cm : MB} (hc : BM X E c cm) (ha : SMs X E a f) (hb : SMs X E b g) : SM X E (.If c a b pos) (mIfS cm f g) :=
  ⟨(ps_if hc.pt ha.ps hb.ps).weak fun s H D0 ⟨p, l, S, R, L, h⟩ => TB.of R L h fun p1 S1 H1 b R1 x1 L1 h1 => by
    cases b with
    | true => exact TSt.last R1 L1 h1
    | false => exact TSt.last R1 L1 h1⟩
end
def iter {A β : Type} (step : A → Sum A (R β)) : Nat → A → R β
  | 0, _ => .bad
  | n + 1, a => Sum.elim (iter step n) id (step a)
theorem iter_succ {A β : Type} (step : A → Sum A (R β)) : ∀ n a, iter step n a ≠ .bad → iter step (n + 1) a = iter step n a
  | 0, a, h => absurd rfl h
  | n + 1, a, h => by
    simp only [iter] at h ⊢
    cases e : step a with
    | inl a' => rw [e] at h; exact iter_succ step n a' h
    | inr r => rfl
theorem iter_le {A β : Type} (step : A → Sum A (R β)) {n m : Nat} (hnm : n ≤ m) {a : A} (h : iter step n a ≠ .bad) : iter step m a = iter step n a := by
  induction hnm with
  | refl => rfl
  | step _ ih => rw [iter_succ step _ a (by rw [ih]; exact h), ih]
open Classical in
noncomputable def runI {A β : Type} (step : A → Sum A (R β)) (a : A) : R β := if h : ∃ n, iter step n a ≠ .bad then iter step h.choose a else .bad
theorem runI_of {A β : Type} {step : A → Sum A (R β)} {n : Nat} {a : A} (h : iter step n a ≠ .bad) : runI step a = iter step n a := by
  have hx : ∃ n, iter step n a ≠ .bad := ⟨n, h⟩
  unfold runI
  rw [dif_pos hx]
  rcases Nat.le_total n hx.choose with q | q
  · exact iter_le step q h
  · exact (iter_le step q hx.choose_spec).symm
theorem runI_ex {A β : Type} {step : A → Sum A (R β)} {a : A} (h : runI step a ≠ .bad) : ∃ n, iter step n a = runI step a ∧ iter step n a ≠ .bad := by
  apply Classical.byContradiction
  intro hx
  refine h ?_
  have : ¬ ∃ n, iter step n a ≠ .bad := fun ⟨n, hn⟩ => hx ⟨n, (runI_of hn).symm, hn⟩
  unfold runI; rw [dif_neg this]
theorem runI_eq {A β : Type} (step : A → Sum A (R β)) (a : A) : runI step a = match step a with
    | .inl a' => runI step a'
    | .inr r => r := by
  cases e : step a with
  | inr r =>
    show runI step a = r
    by_cases hr : r = .bad
    · subst hr
      apply Classical.byContradiction
      intro h
      obtain ⟨n, _, hn⟩ := runI_ex h
      cases n with
      | zero => exact hn rfl
      | succ n => simp only [iter, e] at hn; exact hn rfl
    · have : iter step 1 a = r := by simp only [iter, e]; rfl
      rw [runI_of (n := 1) (by rw [this]; exact hr), this]
  | inl a' =>
    show runI step a = runI step a'
    by_cases h : runI step a' = .bad
    · rw [h]
      apply Classical.byContradiction
      intro h2
      obtain ⟨n, _, hn⟩ := runI_ex h2
      cases n with
      | zero => exact hn rfl
      | succ n =>
        simp only [iter, e] at hn
        exact hn (by rw [Sum.elim_inl, ← runI_of hn]; exact h)
    · obtain ⟨n, e1, hn⟩ := runI_ex h
      have : iter step (n + 1) a = iter step n a' := by simp only [iter, e]; rfl
      rw [runI_of (n := n + 1) (by rw [this]; exact hn), this, e1]
def turnOf {A : Type} (r : R F) (next : Ls → Hs → A) : Sum A (R F) := match r with
  | .ok (.nx l) S => .inl (next l S)
  | .ok (.ct l) S => .inl (next l S)
  | .ok (.bk l) S => .inr (.ok (.nx l) S)
  | .ok (.rt d) S => .inr (.ok (.rt d) S)
  | .exc c fs l S => .inr (.exc c fs l S)
  | .bad => .inr .bad
def wStep (c : MB) (b : MS) (a : Ls × Hs) : Sum (Ls × Hs) (R F) := match c a.1 a.2 with
  | .ok t S1 => if t = true then turnOf (b a.1 S1) Prod.mk else .inr (.ok (.nx a.1) S1)
  | .exc c fs l S => .inr (.exc c fs l S)
  | .bad => .inr .bad
noncomputable def mWhile (c : MB) (b : MS) : MS := fun l S => runI (wStep c b) (l, S)
theorem mWhile_eq (c : MB) (b : MS) (l : Ls) (S : Hs) : mWhile c b l S = (c l S).bind fun t S1 => if t = true then (b l S1).bind fun r S2 => match r with
    | .nx l2 => mWhile c b l2 S2
    | .ct l2 => mWhile c b l2 S2
    | .bk l2 => .ok (.nx l2) S2
    | .rt d => .ok (.rt d) S2
    else .ok (.nx l) S1 := by
  unfold mWhile
  rw [runI_eq]
  unfold wStep turnOf
  simp only []
  cases c l S with
  | ok t S1 =>
    cases t with
    | false => rfl
    | true =>
      simp only [if_true, R.bind_ok]
      cases b l S1 with
      | ok r S2 => cases r <;> rfl
      | exc _ _ _ _ => rfl
      | bad => rfl
  | exc _ _ _ _ => rfl
  | bad => rfl
theorem Post.ne {α : Type} {K : PySem.W.Frag} {E : St → XK} {n : Nat} {p : Nat → Addr} {H : Hp} {r : R α} {Q : α → Hs → (Nat → Addr) → Hp → Prop} (h : Post K E n p H r Q) : r ≠ .bad := fun e => by subst e; exact h
section
variable {X : Cx} {E : St → XK} {g : MS} {pos : Pos}
theorem turn_post {K : PySem.W.Frag} {A : Type} {step : A → Sum A (R F)} {m : Nat} {p : Nat → Addr} {S : Hs} {H : Hp} {D0 : Ends} {r : R F} {next : Ls → Hs → A} {N : St → Hp → Prop}
    (h : Post K E S.length p H (Sum.elim (iter step m) id (turnOf r next)) (QF K D0))
    (hN : ∀ l S2 p2 H2 s, Ext S.length S2.length p p2 H H2 → Real K p2 S2 H2 → Sl K p2 S2.length H2 l s → Post K E S2.length p2 H2 (iter step m (next l S2)) (QF K D0) → N s H2) :
    Post K E S.length p H r (QF K { D0 with nx := N, ct := N, bk := D0.nx }) := by
  unfold turnOf at h
  cases r with
  | ok f S2 =>
    intro p2 H2 x R2
    cases f with
    | nx l => exact fun s L => hN l S2 p2 H2 s x R2 L (Post.ext h x)
    | ct l => exact fun s L => hN l S2 p2 H2 s x R2 L (Post.ext h x)
    | bk l => exact fun s L => Post.nx (Post.ext h x) R2 L
    | rt d => exact fun v r => Post.ok (Q := QF _ D0) (Post.ext h x) Ext.refl R2 v r
  | exc c fs l S2 => exact h
  | bad => exact h
theorem s_while {c : Expr} {body : List Stmt} {cm : MB} (hp : PassesOwn (model X.prog X.w) X.A X.env X.xe) (hc : BM X E c cm) (hb : SMs X E body g) : SM X E (.While c body [] pos) (mWhile cm g) :=
  ⟨(ps_while hp hc.pt hb.ps).weak fun s H D0 ⟨p, l, S, R, L, h⟩ => by
    obtain ⟨n, hn, _⟩ := runI_ex (Post.ne h)
    rw [show mWhile cm g l S = _ from hn.symm] at h
    refine ⟨fun m s H => ∃ p l S, Real X.K p S H ∧ Sl X.K p S.length H l s ∧ Post X.K E S.length p H (iter (wStep cm g) m (l, S)) (QF X.K D0), ⟨n, p, l, S, R, L, h⟩, ?_⟩
    rintro m s H ⟨p, l, S, R, L, h⟩
    cases m with
    | zero => exact h.elim
    | succ m =>
      simp only [iter, wStep] at h
      refine ⟨p, l, S, R, L, ?_⟩
      cases e : cm l S with
      | bad => rw [e] at h; exact h
      | exc c fs l2 S2 => rw [e] at h; exact h
      | ok t S1 =>
        rw [e] at h
        simp only [] at h
        intro p1 H1 x R1
        cases t with
        | false => exact Post.nx (Post.ext h x) R1 (L.ext x)
        | true =>
          simp only [if_true] at h ⊢
          exact ⟨fun s H => ∃ p l S, Real X.K p S H ∧ Sl X.K p S.length H l s ∧ Post X.K E S.length p H (iter (wStep cm g) m (l, S)) (QF X.K D0), fun s' H' w => ⟨m, Nat.lt_succ_self m, w⟩, p1, l, S1, R1, L.ext x,
            turn_post (Post.ext h x) fun l2 S2 p2 H2 s2 _ R2 L2 h2 => ⟨p2, l2, S2, R2, L2, h2⟩⟩⟩
end
end Ly
set_option Elab.async false
set_option linter.all false
set_option maxRecDepth 100000
namespace Ly
open PySem PySem.Spec L2
open PyProof.Rows hiding St
def R.at {α : Type} (r : R α) (l : Ls) : R α := match r with
  | .exc c fs _ S => .exc c fs l S
  | r => r
@[simp] theorem R.at_ok {α : Type} (a : α) (S : Hs) (l : Ls) : (R.ok a S).at l = .ok a S := (show (R.ok a S).at l = .ok a S from rfl).trans (Eq.refl _)
@[simp] theorem R.at_exc {α : Type} (c fs l2) (S : Hs) (l : Ls) : (R.exc c fs l2 S : R α).at l = .exc c fs l S := (show (R.exc c fs l2 S : R α).at l = .exc c fs l S from rfl).trans (Eq.refl _)
@[simp] theorem R.at_bad {α : Type} (l : Ls) : (R.bad : R α).at l = .bad := rfl
abbrev MD := List D → Hs → R D
def endOf (r : R F) : R D := match r with
  | .ok (.nx _) S => .ok .non S
  | .ok (.rt d) S => .ok d S
  | .ok _ _ => .bad
  | .exc c fs _ S => .exc c fs [] S
  | .bad => .bad
def mDef (np nl : Nat) (body : MS) : MD := fun ds S => if ds.length = np then endOf (body (ds.map some ++ List.replicate nl none) S) else .bad
def spM (K : PySem.W.Frag) (np : Nat) (m : MD) : Sp := fun vs H Q E => ∃ p S ds, Real K p S H ∧ Reps K p S.length H ds vs ∧ ds.length = np ∧ Post K (fun _ => E) S.length p H (m ds S) (QD K Q)
theorem spM_len {K : PySem.W.Frag} {np : Nat} {m : MD} {vs : List V} {H : Hp} {Q : VK} {E : XK} (h : spM K np m vs H Q E) : vs.length = np := by
  obtain ⟨p, S, ds, R, r, hl, _⟩ := h
  rw [← r.len]; exact hl
theorem Reps.sl {K : PySem.W.Frag} {p : Nat → Addr} {n : Nat} {H : Hp} {ds : List D} {vs : List V} (r : Reps K p n H ds vs) (m : Nat) : Sl K p n H (ds.map some ++ List.replicate m none) (vs.map some ++ List.replicate m none) := by
  induction ds generalizing vs with
  | nil =>
    cases r
    simp only [List.map_nil, List.nil_append]
    induction m with
    | zero => exact .nil
    | succ m ih => exact .no _ ih
  | cons d ds ih => cases r with | cons r s => exact .yes r (ih s)
section
variable {P : Program} {w : World} {K : PySem.W.Frag} {mg : Str → Option Value} {base : Heap}
theorem fn_def {x qual : Str} {st : Stmt} {f : Addr} {fd : FuncData} {N ps : List Str} {k : Nat} {np nl : Nat} {m : MS} (F : Fun K x qual st f fd) (S : FnScope N ps (defScope st)) (hp : ps.length = np) (hn : N.length = np + nl)
    (hb : ∀ (cdv : Value) (A : Around) (outer : List Env) (s : Shared) (H : Hp) (E : XK), Room k (A.deeper (PyProof.Rows.envOfC qual (defScope st) s.heap.objs.size f cdv)) →
      SMs (cxOf (L2.CX P w) P w K mg base N qual (defScope st) f cdv A outer s H E) (fun _ => E) (defBody st) m) : FnOk P w K mg base (L2.CX P w) (k + 1) f fd ps (spM K np (mDef np nl m)) := by
  refine F.okX S (fun vs H Q E h => (spM_len h).trans hp.symm) fun cdv A outer s H vs Q E hr h => ⟨_, (hb cdv A outer s H E hr).ps, ?_⟩
  obtain ⟨p, S0, ds, R, r, hl, h⟩ := h
  have e : L2.start N vs = vs.map some ++ List.replicate nl none := by
    unfold L2.start
    rw [hn, ← r.len, hl, Nat.add_sub_cancel_left]
  refine ⟨p, ds.map some ++ List.replicate nl none, S0, R, by rw [e]; exact r.sl nl, ?_⟩
  unfold mDef at h
  rw [if_pos hl] at h
  revert h
  generalize m _ S0 = res
  intro h
  cases res with
  | ok a S1 =>
    intro p1 H1 x1 R1
    cases a with
    | nx l1 => exact fun s1 L1 => Post.ok (Q := QD K Q) h x1 R1 _ .non
    | rt d => exact fun v r => Post.ok (Q := QD K Q) h x1 R1 v r
    | bk l1 => exact h.elim
    | ct l1 => exact h.elim
  | exc c fs l S1 => exact fun p1 H1 u d s1 x1 R1 rc rf L1 => h p1 H1 u d [] x1 R1 rc rf .nil
  | bad => exact h
theorem pass_def {N : List Str} {qual : Str} {scope : Scope} {f : Addr} {cdv : Value} {A : Around} {outer : List Env} {s : Shared} {H : Hp} {E : XK} :
    Passes (L2.CX P w) (cxOf (L2.CX P w) P w K mg base N qual scope f cdv A outer s H E) E :=
  passes_call (takes_of rfl rfl rfl rfl) fun _ _ _ _ h => h
end
section
variable {X : Cx} {E : St → XK} {CX : CXT} {k : Nat} {f C : Addr} {fd : FuncData} {ps : List Str} {np : Nat} {md : MD} {x m : Str} {p pos apos : Pos} {e o : Expr} {es : List Expr} {g : ML} {E0 : XK}
def mFn (md : MD) (g : ML) : M := fun l S => (g l S).bind fun ds S1 => (md ds S1).at l
theorem fn_post {α : Type} {K : PySem.W.Frag} {n : Nat} {q : Nat → Addr} {H : Hp} {r : R α} {l : Ls} {s : St} {Q : α → Hs → (Nat → Addr) → Hp → Prop} (L : Sl K q n H l s) (h : Post K E n q H (r.at l) Q) : Post K (fun _ => E s) n q H r Q := by
  cases r with
  | ok a S => exact h
  | exc c fs l2 S => exact fun p1 H1 u d s1 x1 R1 rc rf L1 => h p1 H1 u d s x1 R1 rc rf (L.ext x1)
  | bad => exact h
theorem e_fn (F : FnOk X.prog X.w X.K X.mg X.base CX k f fd ps (spM X.K np md)) (hp : ∀ ds S, ds.length ≠ np → md ds S = .bad) (hr : Room k X.A) (hg : Gl X x) (hm : X.mg x = some (.ref f)) (hk : PySem.W.keepIn X.K (.ref f) = true) (hb : Binds X.K fd ps [])
    (hx : ∀ σ, PassesAt CX X σ (E σ)) (ha : LM X E (e :: es) g) (hdb : (x == ("__debug__" : Str)) = false := by decide) (he : starEach (e :: es) X.env = (false, eval e X.env) :: starEach es X.env := by rfl)
    (hpl : (backTo pos (starEach es X.env)).any (·.1) = false := by rfl) : EM X E (.Call (.Name x p) (e :: es) [] pos) (mFn md g) :=
  ⟨(pe_callSD F hr hg hm hk hb .nil hx ha.pa hdb he hpl).weak fun s H Q ⟨q, l, S, R, L, h⟩ => TL.of R L h fun p1 S1 H1 d v R1 x1 L1 r1 h1 => by
    refine ⟨p1, S1, d, R1, by rw [List.append_nil]; exact r1, ?_, fn_post L1 h1⟩
    apply Classical.byContradiction
    intro hne
    rw [hp d S1 hne] at h1
    exact h1⟩
theorem Passes.at (h : Passes CX X E0) (σ : St) : PassesAt CX X σ E0 := fun pins H s e s' => h pins σ H s e s'
end
theorem mDef_len {np nl : Nat} {b : MS} (ds : List D) (S : Hs) (h : ds.length ≠ np) : mDef np nl b ds S = .bad := if_neg h
mutual
def D.low (n : Nat) : D → Prop
  | .ref i => i < n
  | .tup ds => D.lows n ds
  | .wt ds => D.lows n ds
  | .wl ds => D.lows n ds
  | _ => True
def D.lows (n : Nat) : List D → Prop
  | [] => True
  | d :: ds => D.low n d ∧ D.lows n ds
end
def O.low (n : Nat) : O → Prop
  | .lst ds => D.lows n ds
  | .rol ds => D.lows n ds
  | .dic kvs => D.lows n (kvs.map (·.2))
  | .dit kvs => D.lows n (kvs.map (·.2))
  | .ins _ fs => D.lows n (fs.map (·.2))
def Wf (S : Hs) : Prop := ∀ (i : Nat) (o : O), S[i]? = some o → o.low S.length
section
variable {K : PySem.W.Frag} {pi : Nat → Addr} {n m : Nat} {H : Hp}
mutual
theorem Rep.low : ∀ (d : D) (v : V), Rep K pi n H d v → d.low n
  | .non, _, _ => by simp [D.low]
  | .bl _, _, _ => by simp [D.low]
  | .int _, _, _ => by simp [D.low]
  | .str _, _, _ => by simp [D.low]
  | .tup ds, _, .tup t r => by simp only [D.low]; exact Reps.low ds _ r
  | .wt ds, _, .wt t r => by simp only [D.low]; exact Reps.low ds _ r
  | .wl ds, _, .wl t r => by simp only [D.low]; exact Reps.low ds _ r
  | .ref i, _, .ref h => by simpa [D.low] using h
  | .cst _, _, _ => by simp [D.low]
theorem Reps.low : ∀ (d : List D) (v : List V), Reps K pi n H d v → D.lows n d
  | [], _, _ => by simp [D.lows]
  | d :: ds, _, .cons r s => by simp only [D.lows]; exact ⟨Rep.low d _ r, Reps.low ds _ s⟩
end
mutual
theorem Rep.cut : ∀ (d : D) (v : V), Rep K pi n H d v → d.low m → Rep K pi m H d v
  | .non, _, .non, _ => .non
  | .bl _, _, .bl _, _ => .bl _
  | .int _, _, .int _, _ => .int _
  | .str _, _, .str _, _ => .str _
  | .tup ds, _, .tup t r, h => .tup t (Reps.cutN ds _ r (by simpa only [D.low] using h))
  | .wt ds, _, .wt t r, h => .wt t (Reps.cutN ds _ r (by simpa only [D.low] using h))
  | .wl ds, _, .wl t r, h => .wl t (Reps.cutN ds _ r (by simpa only [D.low] using h))
  | .ref i, _, .ref _, h => .ref (by simpa only [D.low] using h)
  | .cst _, _, .cst _, _ => .cst _
theorem Reps.cutN : ∀ (d : List D) (v : List V), Reps K pi n H d v → D.lows m d → Reps K pi m H d v
  | [], _, .nil, _ => .nil
  | d :: ds, _, .cons r s, h => by
    simp only [D.lows] at h
    exact .cons (Rep.cut d _ r h.1) (Reps.cutN ds _ s h.2)
end
theorem RO.low {a : Addr} {o : O} (h : RO K pi n H a o) : o.low n := by
  cases o with
  | lst ds => obtain ⟨xs, _, h2⟩ := h; exact h2.low
  | rol ds => obtain ⟨o, xs, _, h2⟩ := h; exact h2.low
  | dic kvs => obtain ⟨ks, _, _, h3⟩ := h; exact h3.low
  | dit kvs => obtain ⟨ks, _, _, h3⟩ := h; exact h3.low
  | ins C fs => obtain ⟨dx, ks, _, _, h3⟩ := h; exact h3.low
theorem RO.cut {a : Addr} {o : O} (h : RO K pi n H a o) (l : o.low m) : RO K pi m H a o := by
  cases o with
  | lst ds => obtain ⟨xs, h1, h2⟩ := h; exact ⟨xs, h1, h2.cutN _ _ l⟩
  | rol ds => obtain ⟨o, xs, h1, h2⟩ := h; exact ⟨o, xs, h1, h2.cutN _ _ l⟩
  | dic kvs => obtain ⟨ks, h1, h2, h3⟩ := h; exact ⟨ks, h1, h2, h3.cutN _ _ l⟩
  | dit kvs => obtain ⟨ks, h1, h2, h3⟩ := h; exact ⟨ks, h1, h2, h3.cutN _ _ l⟩
  | ins C fs => obtain ⟨dx, ks, h1, h2, h3⟩ := h; exact ⟨dx, ks, h1, h2, h3.cutN _ _ l⟩
theorem Real.wf {S : Hs} (R : Real K pi S H) : Wf S := fun i o e => (R.ob i o e).low
theorem Real.drop {S g : Hs} (R : Real K pi (S ++ g) H) (w : Wf S) : Real K pi S H := by
  refine ⟨fun i o e => ?_, fun i j hi hj => R.inj i j (by simp; omega) (by simp; omega)⟩
  have hi := (List.getElem?_eq_some_iff.mp e).1
  exact (R.ob i o (by rw [List.getElem?_append_left hi]; exact e)).cut (w i o e)
end
end Ly
set_option Elab.async false
set_option linter.all false
set_option maxRecDepth 100000
namespace Ly
open PySem PySem.Spec L2
open PyProof.Rows hiding St
abbrev MG := D → Ls → Hs → R Ls
def TG' (K : PySem.W.Frag) (E : St → XK) (f : MG) : TG := fun v s H Q => ∃ p l S d, Real K p S H ∧ Sl K p S.length H l s ∧ Rep K p S.length H d v ∧ Post K E S.length p H (f d l S) (fun l1 S1 p1 H1 => ∀ s1, Sl K p1 S1.length H1 l1 s1 → Q s1 H1)
structure GM (X : Cx) (E : St → XK) (t : Expr) (f : MG) : Prop where pg : PG X t (TG' X.K E f)
theorem _root_.L2.PG.weak {X : Cx} {e : Expr} {t t' : TG} (h : PG X e t) (w : ∀ v s H Q, t' v s H Q → t v s H Q) : PG X e t' := ⟨fun pins s σ H v u Q I r q => h.run pins s σ H v u Q I r (w v σ H Q q)⟩
def gN (i : Nat) : MG := fun d l S => .ok (l.set i (some d)) S
abbrev MGs := List D → Ls → Hs → R Ls
def gsN : MGs := fun ds l S => match ds with
  | [] => .ok l S
  | _ => .bad
def gsC (f : MG) (g : MGs) : MGs := fun ds l S => match ds with
  | d :: r => (f d l S).bind fun l1 S1 => g r l1 S1
  | [] => .bad
def gT (n : Nat) (f : MGs) : MG := fun d l S => match d with
  | .tup ds => if ds.length = n then f ds l S else .bad
  | .wt ds => if ds.length = n then f ds l S else .bad
  | _ => .bad
def TGs' (K : PySem.W.Frag) (E : St → XK) (f : MGs) : TGs := fun v s H Q => ∃ p l S d, Real K p S H ∧ Sl K p S.length H l s ∧ Reps K p S.length H d v ∧ Post K E S.length p H (f d l S) (fun l1 S1 p1 H1 => ∀ s1, Sl K p1 S1.length H1 l1 s1 → Q s1 H1)
structure GMs (X : Cx) (E : St → XK) (t : List Expr) (f : MGs) : Prop where pgs : PGs X t (TGs' X.K E f)
section
variable {X : Cx} {E : St → XK} {pos : Pos}
theorem g_n {i : Nat} {x : Str} (hN : X.N.Nodup) (hi : X.N[i]? = some x := by rfl) (hx : L2.Loc X.env.scope x := by first | exact Or.inl rfl | exact Or.inr rfl) (hf : X.fn x = true ∨ X.env.scope.names.lookup x = some .local := by first | exact .inl rfl | exact .inr rfl | assumption) : GM X E (.Name x pos) (gN i) :=
  ⟨(pg_name hN hi hx hf).weak fun v s H Q ⟨p, l, S, d, R, L, r, h⟩ => Post.ok h Ext.refl R _ (L.set i r)⟩
theorem gs_nil : GMs X E [] gsN := ⟨⟨fun pins s σ H vs us Q I rv ⟨p, l, S, d, R, L, r, h⟩ => by
  refine pgs_nil.run pins s σ H vs us Q I rv ?_
  unfold gsN at h
  split at h
  · cases r; exact ⟨rfl, Post.ok h Ext.refl R _ L⟩
  · exact h.elim⟩⟩
theorem gs_cons {e : Expr} {es : List Expr} {f : MG} {g : MGs} (h1 : GM X E e f) (h2 : GMs X E es g) (hs : (assignEach (e :: es) X.env).map (·.2) = assign e X.env :: (assignEach es X.env).map (·.2) := by rfl) : GMs X E (e :: es) (gsC f g) :=
  ⟨⟨fun pins s σ H vs us Q I rv ⟨p, l, S, d, R, L, r, h⟩ => by
    refine (pgs_cons h1.pg h2.pgs hs).run pins s σ H vs us Q I rv ?_
    unfold gsC at h
    split at h
    · cases r with
      | cons r0 rs =>
      exact ⟨_, _, rfl, p, l, S, _, R, L, r0, h.bind.mono fun l1 S1 p1 H1 _ x1 R1 q s1 L1 => ⟨p1, l1, S1, _, R1, L1, rs.ext x1 _ _, q⟩⟩
    · exact h.elim⟩⟩
theorem g_tup {es : List Expr} {k n : Nat} {f : MGs} (hc : X.calm = true) (h : GMs X E es f) (hn : (assignEach es X.env).length = n := by rfl) (hst : (assignEach es X.env).findIdx? (·.1) = none := by rfl) : GM X E (.Tuple es k pos) (gT n f) :=
  ⟨(pg_tup hc h.pgs hn hst).weak fun v s H Q ⟨p, l, S, d, R, L, r, h⟩ => by
    unfold gT at h
    split at h
    · split at h
      · rename_i hl
        cases r with
        | tup t r => exact ⟨_, _, rfl, SqT.of t, by rw [← r.len]; exact hl, p, l, S, _, R, L, r, h⟩
      · exact h.elim
    · split at h
      · rename_i hl
        cases r with
        | wt t r => exact ⟨_, _, rfl, t.sq, by rw [← r.len]; exact hl, p, l, S, _, R, L, r, h⟩
      · exact h.elim
    · exact h.elim⟩
def mAsg (f : M) (g : MG) : MS := fun l S => (f l S).bind fun d S1 => (g d l S1).bind fun l1 S2 => .ok (.nx l1) S2
theorem s_asg {tg e : Expr} {f : M} {g : MG} (he : EM X E e f) (hg : GM X E tg g) (hs : swapsWithSole [tg] e pos.line X.env = pure false := by rfl) (hw : swappedStores [tg] e X.env = pure none := by rfl)
    (h1 : (assignEach [tg] X.env).map (·.2) = [assign tg X.env] := by rfl) : SM X E (.Assign [tg] e pos) (mAsg f g) :=
  ⟨(ps_asg he.pe hg.pg hs hw h1).weak fun s H D0 ⟨p, l, S, R, L, h⟩ => T.of R L h fun p1 S1 H1 d v R1 x1 L1 r1 h1 => ⟨p1, l, S1, d, R1, L1, r1, h1.bind.mono fun l1 S2 p2 H2 _ x2 R2 q s2 L2 => Post.nx q R2 L2⟩⟩
def oSet (x y d : D) (S : Hs) : R Unit := match x with
  | .ref i => match S[i]? with
    | some (.lst xs) => (match y with
      | .int k => (match ixN xs.length k with
        | some j => .ok () (S.set i (.lst (xs.set j d)))
        | none => .bad)
      | _ => .bad)
    | some (.dic kvs) => (match y.key with
      | some k => if kvs.length < sizeLine then .ok () (S.set i (.dic (setK kvs k d))) else .bad
      | none => .bad)
    | some (.dit kvs) => (match y.tkey with
      | some k => if kvs.length < sizeLine then .ok () (S.set i (.dit (setK kvs k d))) else .bad
      | none => .bad)
    | _ => .bad
  | _ => .bad
abbrev rSetD : V → V → V → Hp → (Hp → Prop) → Prop := fun o i v H Q => ∃ a H', o = .ref a ∧ DPut H a i v H' ∧ Q H'
theorem set_dic (hu : X.A.units + 1 < cLine) : PSet X rSetD := by
  intro pins s σ H o i v ov iv u Q I ro ri rv h
  obtain ⟨a, H', rfl, g, q⟩ := h
  obtain rfl : ov = Value.ref a := ro
  exact d_setItem hu I g ri rv fun s4 I4 => ⟨H', I4, q⟩
abbrev rSetA : V → V → V → Hp → (Hp → Prop) → Prop := fun o i v H Q => rSetL o i v H Q ∨ rSetD o i v H Q
theorem set_all (hu : X.A.units + 1 < cLine) : PSet X rSetA := fun pins s σ H o i v ov iv u Q I ro ri rv h => h.elim (set_list pins s σ H o i v ov iv u Q I ro ri rv) (set_dic hu pins s σ H o i v ov iv u Q I ro ri rv)
theorem setK_V {κ : Type} [DecidableEq κ] {K : PySem.W.Frag} {pi : Nat → Addr} {n : Nat} {H : Hp} {kvs : List (κ × D)} {ks : List (κ × V)} (h : ks.map (·.1) = kvs.map (·.1)) (r : Reps K pi n H (kvs.map (·.2)) (ks.map (·.2))) (k : κ) {d : D} {v : V} (rv : Rep K pi n H d v) :
    (putK ks k v).map (·.1) = (setK kvs k d).map (·.1) ∧ Reps K pi n H ((setK kvs k d).map (·.2)) ((putK ks k v).map (·.2)) := by
  have hany : (ks.any fun kv => decide (kv.1 = k)) = kvs.any fun kv => decide (kv.1 = k) := by
    have e1 : (ks.any fun kv => decide (kv.1 = k)) = (ks.map (·.1)).any fun z => decide (z = k) := by rw [List.any_map]; rfl
    have e2 : (kvs.any fun kv => decide (kv.1 = k)) = (kvs.map (·.1)).any fun z => decide (z = k) := by rw [List.any_map]; rfl
    rw [e1, e2, h]
  unfold putK setK
  rw [hany]
  split
  · rename_i hx
    clear hx hany
    induction kvs generalizing ks with
    | nil => cases ks with | nil => exact ⟨rfl, .nil⟩ | cons a b => cases h
    | cons a kvs ih =>
      cases ks with
      | nil => cases h
      | cons b ks =>
        simp only [List.map_cons, List.cons.injEq] at h
        cases r with
        | cons r s =>
          obtain ⟨i1, i2⟩ := ih h.2 s
          simp only [List.map_cons, List.cons.injEq]
          rw [h.1]
          by_cases e : a.1 = k
          · simp only [e, if_true]; exact ⟨⟨trivial, i1⟩, .cons rv i2⟩
          · simp only [e, if_false]; exact ⟨⟨h.1, i1⟩, .cons r i2⟩
  · rw [List.map_append, List.map_append, List.map_append, List.map_append, h]
    exact ⟨rfl, r.append (.cons rv .nil)⟩
theorem Post.put1 {K : PySem.W.Frag} {p : Nat → Addr} {S : Hs} {H : Hp} {i : Nat} {o : O} {u : HO} {Q : Unit → Hs → (Nat → Addr) → Hp → Prop} (h : Post K E S.length p H (.ok () (S.set i o)) Q) (R : Real K p S H) (hi : i < S.length)
    (ro : RO K p S.length (upd H (p i) u) (p i) o) : Q () (S.set i o) p (upd H (p i) u) := by
  have e : (S.set i o).length = S.length := by simp
  exact Post.ok h (by rw [e]; exact ext_upd (R.notup hi)) (R.put hi ro)
theorem ok_set {K : PySem.W.Frag} {p : Nat → Addr} {S : Hs} {H : Hp} {x y d : D} {v u w : V} {Q : Hp → Prop} {QQ : Unit → Hs → (Nat → Addr) → Hp → Prop} (R : Real K p S H) (rx : Rep K p S.length H x v) (ry : Rep K p S.length H y u) (rd : Rep K p S.length H d w)
    (h : Post K E S.length p H (oSet x y d S) QQ) (hq : ∀ S1 H1, Ext S.length S1.length p p H H1 → Real K p S1 H1 → QQ () S1 p H1 → Q H1) : rSetA v u w H Q := by
  have fin : ∀ {i : Nat} {o : O} {z : HO}, i < S.length → Post K E S.length p H (.ok () (S.set i o)) QQ → RO K p S.length (upd H (p i) z) (p i) o → Q (upd H (p i) z) := fun {i o z} hi h ro =>
    hq _ _ (by rw [List.length_set]; exact ext_upd (R.notup hi)) (R.put hi ro) (h.put1 R hi ro)
  unfold oSet at h
  split at h
  · split at h
    · rename_i q
      split at h
      · split at h
        · rename_i j e
          obtain ⟨vs, h1, r⟩ := R.lst q
          cases rx; cases ry
          refine .inl ⟨_, vs, _, j, rfl, rfl, h1, by rw [← r.len]; exact e, fin (Real.lt q) h ⟨_, upd_same, ?_⟩⟩
          exact (r.ext (ext_upd (R.notup (Real.lt q))) _ _).set j (rd.ext (ext_upd (R.notup (Real.lt q))) _ _)
        · exact h.elim
      · exact h.elim
    · rename_i kvs q
      split at h
      · rename_i k ek
        split at h
        · rename_i hl
          obtain ⟨ks, h1, h2, h3⟩ := R.ob _ _ q
          have hlen : ks.length = kvs.length := by simpa using congrArg List.length h2
          cases rx
          have sv := setK_V (H := upd H (p _) (.dK (putK ks k w))) h2 (h3.ext (ext_upd (R.notup (Real.lt q))) _ _) k (rd.ext (ext_upd (R.notup (Real.lt q))) _ _)
          exact .inr ⟨_, _, rfl, .inl ⟨ks, k, h1, key_V ry ek, by rw [hlen]; exact hl, rfl⟩, fin (Real.lt q) h ⟨_, upd_same, sv.1, sv.2⟩⟩
        · exact h.elim
      · exact h.elim
    · rename_i kvs q
      split at h
      · rename_i k ek
        split at h
        · rename_i hl
          obtain ⟨ks, h1, h2, h3⟩ := R.ob _ _ q
          have hlen : ks.length = kvs.length := by simpa using congrArg List.length h2
          cases rx
          have sv := setK_V (H := upd H (p _) (.dT (putK ks k w))) h2 (h3.ext (ext_upd (R.notup (Real.lt q))) _ _) k (rd.ext (ext_upd (R.notup (Real.lt q))) _ _)
          unfold D.tkey at ek
          split at ek
          · cases ry with
            | @tup b _ us t r =>
            exact .inr ⟨_, _, rfl, .inr ⟨ks, k, b, h1, rfl, by rw [← keys_V r ek]; exact t, by rw [hlen]; exact hl, rfl⟩, fin (Real.lt q) h ⟨_, upd_same, sv.1, sv.2⟩⟩
          · cases ek
        · exact h.elim
      · exact h.elim
    · exact h.elim
  · exact h.elim
def gSb (f g : M) : MG := fun d l S => (f l S).bind fun x S1 => (g l S1).bind fun y S2 => (oSet x y d S2).bind fun _ S3 => .ok l S3
theorem g_sub {o i : Expr} {f g : M} (hu : X.A.units + 1 < cLine) (ho : EM X E o f) (hi : EM X E i g)
    (ha : ∀ v, assign (.Subscript o i pos) X.env v = (do
      let ov ← holding [v] (eval o X.env)
      let iv ← holding [v, ov] (eval i X.env)
      standAt pos
      holding [v, ov, iv] (setItem ov iv v)
      release [v, ov, iv] []) := by intro _; rfl) : GM X E (.Subscript o i pos) (gSb f g) :=
  ⟨(pg_sub ho.pe hi.pe (set_all hu) ha).weak fun v s H Q ⟨p, l, S, d, R, L, r, h⟩ => T.of R L h fun p1 S1 H1 x vx R1 x1 L1 r1 h1 => T.of R1 L1 h1 fun p2 S2 H2 y vy R2 x2 L2 r2 h2 =>
    ok_set R2 (r1.ext x2 _ _) r2 ((r.ext x1 _ _).ext x2 _ _) h2.bind fun S3 H3 x3 R3 q => Post.ok q Ext.refl R3 _ (L2.ext x3)⟩
theorem s_sub {o i e : Expr} {f g m : M} {pos' : Pos} (hu : X.A.units + 1 < cLine) (he : EM X E e m) (ho : EM X E o f) (hi : EM X E i g)
    (hs : swapsWithSole [Expr.Subscript o i pos'] e pos.line X.env = pure false := by rfl) (hw : swappedStores [Expr.Subscript o i pos'] e X.env = pure none := by rfl) (h1 : (assignEach [Expr.Subscript o i pos'] X.env).map (·.2) = [assign (Expr.Subscript o i pos') X.env] := by rfl)
    (ha : ∀ v, assign (.Subscript o i pos') X.env v = (do
      let ov ← holding [v] (eval o X.env)
      let iv ← holding [v, ov] (eval i X.env)
      standAt pos'
      holding [v, ov, iv] (setItem ov iv v)
      release [v, ov, iv] []) := by intro _; rfl) : SM X E (.Assign [.Subscript o i pos'] e pos) (mAsg m (gSb f g)) := s_asg he (g_sub hu ho hi ha) hs hw h1
def mAug (i : Nat) (op : D → D → Hs → R D) (f : M) : MS := fun l S => match l[i]? with
  | some (some x) => (f l S).bind fun y S1 => (op x y S1).bind fun d S2 => .ok (.nx (l.set i (some d))) S2
  | _ => .bad
theorem s_aug {i : Nat} {x : Str} {e : Expr} {op : Operator} {r : R2} {o : D → D → Hs → R D} {f : M} {pos' : Pos} (ho : OpR X (inplaceOp op) r) (hk : OpOk X.K E r o) (hN : X.N.Nodup) (he : EM X E e f) (hi : X.N[i]? = some x := by rfl) (hx : L2.Loc X.env.scope x := by first | exact Or.inl rfl | exact Or.inr rfl)
    (hf : X.fn x = true ∨ X.env.scope.names.lookup x = some .local := by first | exact .inl rfl | exact .inr rfl | assumption) : SM X E (.AugAssign (.Name x pos') op e pos) (mAug i o f) :=
  ⟨(ps_aug (ti := r) hN hi hx he.pe ho hf).weak fun s H D0 ⟨p, l, S, R, L, h⟩ => by
    unfold mAug at h
    split at h
    · rename_i d e
      obtain ⟨v, h1, r1⟩ := L.get e
      refine ⟨v, h1, T.of R L h fun p1 S1 H1 d1 v1 R1 x1 L1 r2 h2 => hk p1 S1 H1 _ _ _ _ _ R1 (r1.ext x1 _ _) r2 (h2.bind.mono fun d3 S3 p3 H3 _ x3 R3 q v3 r3 => Post.nx q R3 ((L1.ext x3).set i r3))⟩
    · exact h.elim⟩
def oIAdd : D → D → Hs → R D
  | .int i, .int j, S => .ok (.int (i + j)) S
  | .str x, .str y, S => if x.length + y.length ≤ sizeLine then .ok (.str (x ++ y)) S else .bad
  | _, _, _ => .bad
abbrev rIAdd2 : R2 := orR (rI0 fun i j => .int (i + j)) (fun x y H Q => ∃ i j, x = V.str i ∧ y = V.str j ∧ i.length + j.length ≤ sizeLine ∧ Q (V.str (i ++ j)) H)
theorem ok_iadd {K : PySem.W.Frag} : OpOk K E rIAdd2 oIAdd := by
  intro p S H x y v u Q R rx ry h
  unfold oIAdd at h
  split at h
  · cases rx; cases ry; exact .inl ⟨_, _, rfl, rfl, h.val R (.int _)⟩
  · split at h
    · rename_i hl; cases rx; cases ry; exact .inr ⟨_, _, rfl, rfl, hl, h.val R (.str _)⟩
    · exact h.elim
  · exact h.elim
theorem ok_sub2 {K : PySem.W.Frag} : OpOk K E (rI0 fun i j => .int (i - j)) oSub := ok_I0 (fun _ _ _ => rfl) fun x y S h => by unfold oSub; split <;> first | rfl | exact (h _ _ rfl rfl).elim
theorem s_iadd {i : Nat} {x : Str} {e : Expr} {f : M} {pos' : Pos} (hN : X.N.Nodup) (he : EM X E e f) (hi : X.N[i]? = some x := by rfl) (hx : L2.Loc X.env.scope x := by first | exact Or.inl rfl | exact Or.inr rfl)
    (hf : X.fn x = true ∨ X.env.scope.names.lookup x = some .local := by first | exact .inl rfl | exact .inr rfl | assumption) : SM X E (.AugAssign (.Name x pos') .Add e pos) (mAug i oIAdd f) := s_aug (OpR.or iop_add iop_add_str) ok_iadd hN he hi hx hf
theorem s_isub {i : Nat} {x : Str} {e : Expr} {f : M} {pos' : Pos} (hN : X.N.Nodup) (he : EM X E e f) (hi : X.N[i]? = some x := by rfl) (hx : L2.Loc X.env.scope x := by first | exact Or.inl rfl | exact Or.inr rfl)
    (hf : X.fn x = true ∨ X.env.scope.names.lookup x = some .local := by first | exact .inl rfl | exact .inr rfl | assumption) : SM X E (.AugAssign (.Name x pos') .Sub e pos) (mAug i oSub f) := s_aug iop_sub ok_sub2 hN he hi hx hf
end
end Ly
set_option Elab.async false
set_option linter.all false
set_option maxRecDepth 100000
namespace LyI
open PySem PySem.Spec L2
open PyProof.Rows hiding St
def SqB (k : Bool) (K : PySem.W.Frag) (H : Hp) (a : Addr) (xs : List V) : Prop := match k with
  | true => SqL K H a xs
  | false => SqT K H a xs
def ItB (k : Bool) (h : Heap) (it a : Addr) (i : Nat) : Prop := match k with
  | true => h.IsListIter it a i
  | false => h.IsTupleIter it a i
def IsB (k : Bool) (h : Heap) (a : Addr) (items : Array Value) : Prop := match k with
  | true => h.IsList a items
  | false => h.IsTuple a items
def itO (k : Bool) (a : Addr) : Obj := match k with
  | true => { cls := .type "list_iterator", data := .fields #[.ref a, .int 0 0] }
  | false => { cls := .type "tuple_iterator", data := .fields #[.ref a, .int 0 0] }
theorem drawsB {prog : Program} {w : World} {A : Around} (k : Bool) (hh : A.handled = none) (it a : Addr) (hne : a ≠ it) (items : Array Value) :
    Draws prog w A it [it, a] items.size (fun i v => items[i]? = some v) (fun i h => ItB k h it a i ∧ IsB k h a items) := by
  cases k
  · exact .tuple hh it a hne items
  · exact .list hh it a hne items
theorem beginsB (k : Bool) (a : Addr) (items : Array Value) : Begins (.ref a) (itO k a) fun h => IsB k h a items := by
  cases k
  · exact begins_tuple a items
  · exact begins_list a items
theorem itB_new (k : Bool) {h : Heap} {it a : Addr} (e : h.get? it = some (itO k a)) : ItB k h it a 0 := by
  cases k
  · exact ⟨_, e, rfl, rfl⟩
  · exact ⟨_, e, rfl, rfl⟩
theorem ItB.at {k : Bool} {h h' : Heap} {it a : Addr} {i : Nat} (x : ItB k h it a i) (e : ∀ o, h.get? it = some o → h'.get? it = some o) : ItB k h' it a i := by
  cases k
  · exact Heap.IsTupleIter.at x e
  · exact Heap.IsListIter.at x e
theorem ItB.obj {k : Bool} {h : Heap} {it a : Addr} {i : Nat} (x : ItB k h it a i) : ∃ o, h.get? it = some o ∧ ∀ v, o.data ≠ .cell v := by
  cases k
  · obtain ⟨o, e, _, d⟩ := x; exact ⟨o, e, fun v q => by rw [d] at q; cases q⟩
  · obtain ⟨o, e, _, d⟩ := x; exact ⟨o, e, fun v q => by rw [d] at q; cases q⟩
section
variable {X : Cx} {pins : List (Addr × Obj)} {σ : St} {H : Hp} {s : Shared} {a : Addr} {xs ys : List V} {k : Bool}
theorem seqB (I : Inv X pins σ H s) (h : SqB k X.K H a xs) : ∃ its : List Value, Vals xs its ∧ IsB k s.heap a its.toArray ∧ a < s.heap.objs.size := by
  cases k
  · obtain ⟨its, r, p, _⟩ := I.tuple h
    obtain ⟨o, e, _⟩ := id p
    exact ⟨its, r, p, Heap.lt_size e⟩
  · obtain ⟨its, r, p, _⟩ := I.list h
    exact ⟨its, r, p.isList, p.lt⟩
theorem seqB_inj (I : Inv X pins σ H s) (h : SqB k X.K H a xs) (h' : SqB k X.K H a ys) : xs = ys := by
  cases k
  · exact I.tuple_inj h h'
  · exact I.list_inj h h'
end
def IteB (k : Bool) (K : PySem.W.Frag) (a : Addr) : It :=
  ⟨fun i H => ∃ (xs : List V) (x : V), SqB k K H a xs ∧ xs[i]? = some x, fun i H v H' => ∃ T x, v = .ref T ∧ H T = none ∧ H' = upd H T (.tup [.int (i : Nat), x]) ∧ ∀ xs, SqB k K H a xs → xs[i]? = some x, fun i H => ∃ xs : List V, SqB k K H a xs ∧ xs.length = i⟩
def ItzB (k1 k2 : Bool) (K : PySem.W.Frag) (a b : Addr) : It :=
  ⟨fun i H => ∃ (xs ys : List V) (x y : V), SqB k1 K H a xs ∧ SqB k2 K H b ys ∧ xs[i]? = some x ∧ ys[i]? = some y,
    fun i H v H' => ∃ T x y, v = .ref T ∧ H T = none ∧ H' = upd H T (.tup [x, y]) ∧ (∀ xs, SqB k1 K H a xs → xs[i]? = some x) ∧ ∀ ys, SqB k2 K H b ys → ys[i]? = some y,
    fun i H => ∃ xs ys : List V, SqB k1 K H a xs ∧ SqB k2 K H b ys ∧ i ≤ xs.length ∧ i ≤ ys.length ∧ (xs.length = i ∨ ys.length = i)⟩
theorem turn_zipB {P : Program} {w : World} {K : PySem.W.Frag} {elts : List Expr} {kk : Nat} {tpos : Pos} (k1 k2 : Bool) {a b z TI TO i1 i2 : Addr} (D : ZipApart z TI TO i1 i2 a b) (D2 : ZipApart z TI TO i2 i1 b a) :
    Turn P w K (.Tuple elts kk tpos) (ItzB k1 k2 K a b) [z, TI, TO, i1, i2] z (fun i h => IsZip h z TI TO .none ∧ IsTupOf2 h TI (.ref i1) (.ref i2) ∧ (∃ x y, IsTupOf2 h TO x y) ∧ ItB k1 h i1 a i ∧ ItB k2 h i2 b i) where
  mem := by simp
  obj := fun i h st c hc => by
    obtain ⟨hz, hTI, ⟨x, y, hTO⟩, h1, h2⟩ := st
    have e' : c = z ∨ c = TI ∨ c = TO ∨ c = i1 ∨ c = i2 := by simpa using hc
    rcases e' with q | q | q | q | q
    · rw [q]; exact ⟨_, hz, fun v q => nomatch q⟩
    · rw [q]; exact ⟨_, hTI, fun v q => nomatch q⟩
    · rw [q]; exact ⟨_, hTO, fun v q => nomatch q⟩
    · rw [q]; exact h1.obj
    · rw [q]; exact h2.obj
  keep := fun i h h' st k => by
    obtain ⟨hz, hTI, ⟨x, y, hTO⟩, h1, h2⟩ := st
    exact ⟨k z (by simp) _ hz, k TI (by simp) _ hTI, ⟨x, y, k TO (by simp) _ hTO⟩, h1.at fun o q => k i1 (by simp) o q, h2.at fun o q => k i2 (by simp) o q⟩
  item := by
    intro X hP hw hK hc i pins s σ H E I hf st hg
    subst hP hw hK
    obtain ⟨hz, hTI, ⟨x0, y0, hTO⟩, h1, h2⟩ := st
    obtain ⟨xs, ys, x, y, hqx, hqy, hx, hy⟩ := hg
    obtain ⟨its, rv, p, _⟩ := seqB I hqx
    obtain ⟨its2, rv2, p2, _⟩ := seqB I hqy
    obtain ⟨u, hu, ru⟩ := rv.get hx
    obtain ⟨u2, hu2, ru2⟩ := rv2.get hy
    have hzl : z < s.heap.objs.size := Heap.lt_size hz
    have S : ZipSep2 z TI TO i1 i2 [i1, a] [i2, b] := ⟨D.TIz, D.TOz, D.TITO, D.TIi1, by simp, by simp [Ne.symm D.i1z, Ne.symm D.l1z], by simp [D.TOi1, Ne.symm D.l1TO], D.TIi2, by simp, by simp [Ne.symm D.i2z, Ne.symm D2.l1z], by simp [D.TOi2, Ne.symm D2.l1TO], by simp [D.i12, Ne.symm D2.l1i2], by simp [Ne.symm D.i12, Ne.symm D.l1i2]⟩
    refine wpAny_pyNext_zipD2_item S (drawsB k1 (by exact I.ok.hd hc) i1 a D.l1i1 its.toArray) (drawsB k2 (by exact I.ok.hd hc) i2 b D2.l1i1 its2.toArray) hz hTI hTO ⟨h1, p⟩ ⟨h2, p2⟩
      (by obtain ⟨q, _⟩ := List.getElem?_eq_some_iff.mp hu; simpa using q) (by obtain ⟨q, _⟩ := List.getElem?_eq_some_iff.mp hu2; simpa using q) fun x' y' h' tk hx' hy' z' TO' h1' h2' hT hsz hk => ?_
    have hxu : x' = u := by
      have : its[i]? = some x' := by simpa using hx'
      rw [hu] at this; cases this; rfl
    have hyu : y' = u2 := by
      have : its2[i]? = some y' := by simpa using hy'
      rw [hu2] at this; cases this; rfl
    subst hxu hyu
    refine ⟨_, rfl, wpAny_letOwnedTupleGo_zip (s := { s with heap := h', toks := tk }) z' fun h'' z'' sb => ?_⟩
    have hT2 : h''.get? s.heap.objs.size = some { cls := .type "tuple", data := .seq #[x', y'] } := (sb.2 _ (Nat.ne_of_gt hzl)).trans hT
    have new : ObjOk X.prog X.w (upd H s.heap.objs.size (.tup [x, y])) h'' s.heap.objs.size (.tup [x, y]) :=
      ⟨by show 2 ≤ sizeLine; decide, [x', y'], .cons ru (.cons ru2 .nil), ⟨_, hT2, rfl, _, rfl⟩⟩
    have I1 : Inv X pins σ (upd H s.heap.objs.size (.tup [x, y])) { s with heap := h'', toks := tk } :=
      I.turnedNew (ch := [z, TI, TO, i1, i2]) (fun c o hb q => (sb.2 c (fun q' => hb (by simp [q']))).trans (hk c o (fun q' => hb (by simp [q'])) (fun q' => hb (by simp [q'])) (fun q' => hb (by simp [q'])) (fun q' => hb (by simp [q'])) q)) hf (Nat.le_refl _) new
    refine ⟨.ref s.heap.objs.size, _, I1, rfl, ⟨_, x, y, rfl, I.hok.fresh (Nat.le_refl _), rfl, fun l hl => by rw [seqB_inj I hl hqx]; exact hx, fun l hl => by rw [seqB_inj I hl hqy]; exact hy⟩, ⟨z'', ?_, ⟨x', y', ?_⟩, ?_, ?_⟩, fun c hcm => ?_⟩
    · exact (sb.2 _ D.TIz).trans (hk _ _ D.TIz D.TITO D.TIi1 D.TIi2 hTI)
    · exact (sb.2 _ D.TOz).trans TO'
    · exact h1'.1.at fun o q => (sb.2 _ D.i1z).trans q
    · exact h2'.1.at fun o q => (sb.2 _ D.i2z).trans q
    · have hlt : c < s.heap.objs.size := by
        have e' : c = z ∨ c = TI ∨ c = TO ∨ c = i1 ∨ c = i2 := by simpa using hcm
        rcases e' with q | q | q | q | q
        · rw [q]; exact hzl
        · rw [q]; exact Heap.lt_size hTI
        · rw [q]; exact Heap.lt_size hTO
        · rw [q]; obtain ⟨_, e1, _⟩ := h1.obj; exact Heap.lt_size e1
        · rw [q]; obtain ⟨_, e2, _⟩ := h2.obj; exact Heap.lt_size e2
      rw [upd_ne (Nat.ne_of_lt hlt)]
      exact (hf c hcm).1
  done := by
    intro X hP hw hK hc i pins s σ H E I hf st hg
    subst hP hw hK
    obtain ⟨hz, hTI, ⟨x0, y0, hTO⟩, h1, h2⟩ := st
    obtain ⟨xs, ys, hqx, hqy, hl1, hl2, hend⟩ := hg
    obtain ⟨its, rv, p, _⟩ := seqB I hqx
    obtain ⟨its2, rv2, p2, _⟩ := seqB I hqy
    have l1 := rv.length
    have l2 := rv2.length
    have S : ZipSep2 z TI TO i1 i2 [i1, a] [i2, b] := ⟨D.TIz, D.TOz, D.TITO, D.TIi1, by simp, by simp [Ne.symm D.i1z, Ne.symm D.l1z], by simp [D.TOi1, Ne.symm D.l1TO], D.TIi2, by simp, by simp [Ne.symm D.i2z, Ne.symm D2.l1z], by simp [D.TOi2, Ne.symm D2.l1TO], by simp [D.i12, Ne.symm D2.l1i2], by simp [Ne.symm D.i12, Ne.symm D.l1i2]⟩
    refine wpAny_pyNext_zipD2_end S (drawsB k1 (by exact I.ok.hd hc) i1 a D.l1i1 its.toArray) (drawsB k2 (by exact I.ok.hd hc) i2 b D2.l1i1 its2.toArray) hz hTI hTO ⟨h1, p⟩ ⟨h2, p2⟩
      (by simp; omega) (by simp; omega) (by rcases hend with q | q <;> simp <;> omega) fun h' tk hk => ⟨rfl, I.turnedL (t' := tk) (ch := [z, TI, TO, i1, i2]) (fun c o hb q =>
      hk c o (fun q' => hb (by simp [q'])) (fun q' => hb (by simp [q'])) (fun q' => hb (by simp [q'])) (fun q' => hb (by simp [q'])) q) hf⟩
  self := fun A i s Q E st h => wpAny_pyIter_zip st.1 h
def iZipB (K : PySem.W.Frag) (ta : TA) : TI := fun σ H R => ta σ H fun vs H1 => ∃ k1 k2 a b xs ys, vs = [.ref a, .ref b] ∧ SqB k1 K H1 a xs ∧ SqB k2 K H1 b ys ∧ R (ItzB k1 k2 K a b) H1
theorem pi_zipB {X : Cx} {e e2 : Expr} {ta : TA} {p pos tpos : Pos} {elts : List Expr} {kk : Nat} (hg : Gl X "zip") (hm : X.mg "zip" = none) (ha : PA X [e, e2] ta)
    (hs : starEach [e, e2] X.env = (false, eval e X.env) :: starEach [e2] X.env := by rfl) (hpl : (backTo pos (starEach [e2] X.env)).any (·.1) = false := by rfl) :
    PI X (.Tuple elts kk tpos) (.Call (.Name "zip" p) [e, e2] [] pos) (iZipB X.K ta) := by
  refine ⟨fun pins s σ H R I h => ?_⟩
  refine Call_ (ld_blt I hg hm PyProof.Rows.boot_zip (PyProof.Rows.callWith_type1 (thn (ha.run pos pins s σ H _ I h) fun us s1 ⟨vs, H1, I1, r1, q1⟩ => ?_) hs hpl))
  obtain ⟨k1, k2, a, b, xs, ys, ex, hqx, hqy, q⟩ := q1
  subst ex
  cases r1 with
  | cons r rr =>
    cases rr with
    | cons r' rr =>
      cases rr
      cases r
      cases r'
      have fresh5 : ∀ c, c ∈ [s1.heap.objs.size + 4, s1.heap.objs.size + 2, s1.heap.objs.size + 3, s1.heap.objs.size, s1.heap.objs.size + 1] → FpOk X pins H1 c := fun c hcm => by
        have hle : s1.heap.objs.size ≤ c := by
          simp only [List.mem_cons, List.not_mem_nil, or_false] at hcm
          omega
        exact I1.fpOk hle (I1.hok.fresh hle)
      obtain ⟨its, rv, p1, l1⟩ := seqB I1 hqx
      obtain ⟨its2, rv2, p2, l2⟩ := seqB I1 hqy
      refine zip_begins2 (beginsB k1 a its.toArray) (beginsB k2 b its2.toArray) p1 p2 fun h' hz hTI hTO h1 h2 hsz hk => wpAny_pyIter_zip hz ?_
      have I2 : Inv X pins σ H1 { s1 with heap := h' } := I1.kept (t' := s1.toks) hk
      have D : ZipApart (s1.heap.objs.size + 4) (s1.heap.objs.size + 2) (s1.heap.objs.size + 3) s1.heap.objs.size (s1.heap.objs.size + 1) a b := PySem.W.ktu_apart s1.heap.objs.size a b l1 l2
      have D2 : ZipApart (s1.heap.objs.size + 4) (s1.heap.objs.size + 2) (s1.heap.objs.size + 3) (s1.heap.objs.size + 1) s1.heap.objs.size b a := ⟨D.TIz, D.TOz, D.i2z, D.i1z, D.TITO, D.TIi2, D.TIi1, D.TOi2, D.TOi1, D.i12.symm, D.l2z, D.l2TO, D.l2i2, D.l2i1, D.l1z, D.l1TO, D.l1i2, D.l1i1⟩
      exact ⟨s1.heap.objs.size + 4, [s1.heap.objs.size + 4, s1.heap.objs.size + 2, s1.heap.objs.size + 3, s1.heap.objs.size, s1.heap.objs.size + 1], _, _, H1, rfl, I2, turn_zipB k1 k2 D D2, ⟨hz, hTI, ⟨_, _, hTO⟩, itB_new k1 h1, itB_new k2 h2⟩, fresh5, q⟩
end LyI
set_option Elab.async false
set_option linter.all false
set_option maxRecDepth 100000
namespace LyI
open PySem PySem.Spec L2
open PyProof.Rows hiding St
section
variable {prog : Program} {w : World} {A : Around} {E : Value → Shared → Prop} {s : Shared} {z TI TO i1 i2 : Addr} {fp1 fp2 : List Addr} {n1 n2 i : Nat} {P1 P2 : Nat → Value → Prop} {St1 St2 : Nat → Heap → Prop}
end
def ItezB (k1 k2 : Bool) (K : PySem.W.Frag) (a b : Addr) : It :=
  ⟨fun i H => ∃ (xs ys : List V) (x y : V), SqB k1 K H a xs ∧ SqB k2 K H b ys ∧ xs[i]? = some x ∧ ys[i]? = some y,
    fun i H v H' => ∃ T T' x y, v = .ref T' ∧ H T = none ∧ T' ≠ T ∧ H T' = none ∧ H' = upd (upd H T (.tup [x, y])) T' (.tup [.int (i : Nat), .ref T]) ∧ (∀ xs, SqB k1 K H a xs → xs[i]? = some x) ∧ ∀ ys, SqB k2 K H b ys → ys[i]? = some y,
    fun i H => ∃ xs ys : List V, SqB k1 K H a xs ∧ SqB k2 K H b ys ∧ i ≤ xs.length ∧ i ≤ ys.length ∧ (xs.length = i ∨ ys.length = i)⟩
theorem FpOk.upd {X : Cx} {pins : List (Addr × Obj)} {H : Hp} {b T : Addr} {o : HO} (h : FpOk X pins H b) (hb : b ≠ T) : FpOk X pins (upd H T o) b := ⟨by rw [upd_ne hb]; exact h.1, h.2⟩
end LyI
set_option Elab.async false
set_option linter.all false
set_option maxRecDepth 100000
namespace Ly
open PySem PySem.Spec L2
open PyProof.Rows hiding St
inductive Sq where
  | l (i : Nat) | t (ds : List D)
inductive J where
  | tup (ds : List D) | lst (i : Nat) | rng (lo : Int) (n : Nat) | str (x : Str) | enum (s : Sq) | zip (s t : Sq) | cnt (lo c : Int) (n : Nat) | rev (s : Sq) (n : Nat) | ez (s t : Sq)
def seqAt (S : Hs) (i : Nat) : Option (List D) := seqD (.ref i) S
def Sq.at (S : Hs) : Sq → Option (List D)
  | .l i => seqAt S i
  | .t ds => some ds
def sqOf (x : D) (S : Hs) : Option Sq := match x with
  | .ref i => (seqAt S i).map fun _ => .l i
  | .tup ds => some (.t ds)
  | .wt ds => some (.t ds)
  | _ => none
def SqR (K : PySem.W.Frag) (p : Nat → Addr) (n : Nat) (H : Hp) : Sq → Bool → Addr → Prop
  | .l i, k, a => i < n ∧ k = true ∧ a = p i
  | .t ds, k, a => k = false ∧ ∃ vs, (H a = some (.tup vs) ∨ Wt K a vs) ∧ Reps K p n H ds vs
def itGo (j : J) (k : Nat) (S : Hs) : Option (Option D) := match j with
  | .tup ds => some ds[k]?
  | .lst i => (seqAt S i).map (·[k]?)
  | .rng lo n => some (if k < n then some (.int (lo + k)) else none)
  | .str x => some (x.cps[k]?.map fun c => .str ⟨#[c]⟩)
  | .cnt lo c n => some (if k < n then some (.int (lo + k * c)) else none)
  | .enum s => (s.at S).bind fun ds => if k ≤ ds.length then some (ds[k]?.map fun d => .tup [.int k, d]) else none
  | .zip a b => match a.at S, b.at S with
    | some xs, some ys => if k ≤ xs.length ∧ k ≤ ys.length then some (match xs[k]?, ys[k]? with
      | some x, some y => some (.tup [x, y])
      | _, _ => none) else none
    | _, _ => none
  | .rev s n => (s.at S).bind fun ds => if ds.length = n then some (if k < n then ds[n - 1 - k]? else none) else none
  | .ez a b => match a.at S, b.at S with
    | some xs, some ys => if k ≤ xs.length ∧ k ≤ ys.length then some (match xs[k]?, ys[k]? with
      | some x, some y => some (.tup [.int k, .tup [x, y]])
      | _, _ => none) else none
    | _, _ => none
def JRel (K : PySem.W.Frag) (p : Nat → Addr) (n : Nat) (H : Hp) : J → It → Prop
  | .tup ds, I => ∃ a vs, Rep K p n H (.tup ds) (.ref a) ∧ (H a = some (.tup vs) ∧ Reps K p n H ds vs) ∧ I = Itt K a ∨ Rep K p n H (.wt ds) (.ref a) ∧ (Wt K a vs ∧ Reps K p n H ds vs) ∧ I = Itt K a
  | .lst i, I => i < n ∧ I = Itl K (p i)
  | .rng lo m, I => I = Itr lo m
  | .str x, I => I = Its x
  | .cnt lo c m, I => I = Itc lo c m
  | .enum s, I => ∃ k a, SqR K p n H s k a ∧ I = LyI.IteB k K a
  | .zip s t, I => ∃ k1 a k2 b, SqR K p n H s k1 a ∧ SqR K p n H t k2 b ∧ I = LyI.ItzB k1 k2 K a b
  | .rev s m, I => ∃ b a, SqR K p n H s b a ∧ I = (if b = true then Itv K a m else RT.ItvT K a m)
  | .ez s t, I => ∃ k1 a k2 b, SqR K p n H s k1 a ∧ SqR K p n H t k2 b ∧ I = LyI.ItezB k1 k2 K a b
section
variable {K : PySem.W.Frag} {E : St → XK} {p q : Nat → Addr} {n m : Nat} {H H' : Hp} {S : Hs} {j : J} {I : It} {k : Nat}
theorem SqR.ext {s : Sq} {k : Bool} {a : Addr} (h : SqR K p n H s k a) (x : Ext n m p q H H') : SqR K q m H' s k a := by
  cases s with
  | l i => obtain ⟨h1, h2, h3⟩ := h; exact ⟨Nat.lt_of_lt_of_le h1 x.le, h2, by rw [x.ag i h1]; exact h3⟩
  | t ds =>
    obtain ⟨h1, vs, h2, h3⟩ := h
    refine ⟨h1, vs, ?_, h3.ext x _ _⟩
    rcases h2 with h2 | h2
    · exact .inl (x.tp _ _ h2)
    · exact .inr h2
theorem JRel.ext (h : JRel K p n H j I) (x : Ext n m p q H H') : JRel K q m H' j I := by
  cases j with
  | tup ds =>
    obtain ⟨a, vs, h⟩ := h
    rcases h with ⟨h1, ⟨h2, h3⟩, h4⟩ | ⟨h1, ⟨h2, h3⟩, h4⟩
    · exact ⟨a, vs, .inl ⟨h1.ext x _ _, ⟨x.tp _ _ h2, h3.ext x _ _⟩, h4⟩⟩
    · exact ⟨a, vs, .inr ⟨h1.ext x _ _, ⟨h2, h3.ext x _ _⟩, h4⟩⟩
  | lst i => obtain ⟨h1, h2⟩ := h; exact ⟨Nat.lt_of_lt_of_le h1 x.le, by rw [x.ag i h1]; exact h2⟩
  | rng lo m => exact h
  | str z => exact h
  | cnt lo c m => exact h
  | enum s => obtain ⟨k, a, h1, h2⟩ := h; exact ⟨k, a, h1.ext x, h2⟩
  | zip s t => obtain ⟨k1, a, k2, b, h1, h2, h3⟩ := h; exact ⟨k1, a, k2, b, h1.ext x, h2.ext x, h3⟩
  | rev s n => obtain ⟨b, a, h1, h2⟩ := h; exact ⟨b, a, h1.ext x, h2⟩
  | ez s t => obtain ⟨k1, a, k2, b, h1, h2, h3⟩ := h; exact ⟨k1, a, k2, b, h1.ext x, h2.ext x, h3⟩
theorem seqAt_V {i : Nat} {ds : List D} (R : Real K p S H) (h : seqAt S i = some ds) : ∃ vs, SqL K H (p i) vs ∧ Reps K p S.length H ds vs := by
  have hi : i < S.length := by
    unfold seqAt seqD at h
    simp only at h
    split at h
    · rename_i q; exact Real.lt q
    · rename_i q; exact Real.lt q
    · cases h
  obtain ⟨a, vs, e, h1, r⟩ := seq_V R (.ref hi) h
  cases e
  exact ⟨vs, h1, r⟩
theorem SqR.seq {s : Sq} {b : Bool} {a : Addr} {ds : List D} (R : Real K p S H) (h : SqR K p S.length H s b a) (e : s.at S = some ds) : ∃ vs, LyI.SqB b K H a vs ∧ Reps K p S.length H ds vs := by
  cases s with
  | l i =>
    obtain ⟨h1, rfl, rfl⟩ := h
    obtain ⟨vs, hs, r⟩ := seqAt_V R e
    exact ⟨vs, hs, r⟩
  | t es =>
    obtain ⟨rfl, vs, h2, h3⟩ := h
    cases e
    refine ⟨vs, ?_, h3⟩
    rcases h2 with h2 | h2
    · exact SqT.of h2
    · exact h2.sq
theorem sqOf_R {x : D} {v : V} {s : Sq} (R : Real K p S H) (r : Rep K p S.length H x v) (h : sqOf x S = some s) : ∃ b a ds, v = .ref a ∧ SqR K p S.length H s b a ∧ s.at S = some ds := by
  cases x with
  | ref i =>
    simp only [sqOf, Option.map_eq_some_iff] at h
    obtain ⟨ds, e, rfl⟩ := h
    cases r with
    | ref hi => exact ⟨true, _, ds, rfl, ⟨hi, rfl, rfl⟩, e⟩
  | tup ds =>
    cases h
    cases r with
    | tup t r => exact ⟨false, _, ds, rfl, ⟨rfl, _, .inl t, r⟩, rfl⟩
  | wt ds =>
    cases h
    cases r with
    | wt t r => exact ⟨false, _, ds, rfl, ⟨rfl, _, .inr t, r⟩, rfl⟩
  | _ => cases h
theorem Reps.none {ds : List D} {vs : List V} (r : Reps K p n H ds vs) (e : ds[k]? = none) : vs.length ≤ k := by
  rw [← r.len]; exact List.getElem?_eq_none_iff.mp e
theorem it_stop (R : Real K p S H) (h : JRel K p S.length H j I) (e : itGo j k S = some none) : I.stop k H := by
  cases j with
  | tup ds =>
    obtain ⟨a, vs, h⟩ := h
    simp only [itGo, Option.some.injEq] at e
    rcases h with ⟨h1, ⟨h2, h3⟩, rfl⟩ | ⟨h1, ⟨h2, h3⟩, rfl⟩
    · exact ⟨vs, SqT.of h2, h3.none e⟩
    · exact ⟨vs, h2.sq, h3.none e⟩
  | lst i =>
    obtain ⟨h1, rfl⟩ := h
    simp only [itGo, Option.map_eq_some_iff] at e
    obtain ⟨ds, e, e2⟩ := e
    obtain ⟨vs, hs, r⟩ := seqAt_V R e
    exact ⟨vs, hs, r.none e2⟩
  | rng lo m =>
    cases h
    simp only [itGo, Option.some.injEq] at e
    split at e
    · cases e
    · rename_i hk; exact Nat.le_of_not_lt hk
  | str x =>
    cases h
    simp only [itGo, Option.some.injEq, Option.map_eq_none_iff] at e
    exact Array.getElem?_eq_none_iff.mp e
  | cnt lo c m =>
    cases h
    simp only [itGo, Option.some.injEq] at e
    split at e
    · cases e
    · rename_i hk; exact Nat.le_of_not_lt hk
  | enum s =>
    obtain ⟨b, a, h1, rfl⟩ := h
    simp only [itGo, Option.bind_eq_some_iff] at e
    obtain ⟨ds, e, e2⟩ := e
    obtain ⟨vs, hs, r⟩ := h1.seq R e
    split at e2
    · rename_i hk
      simp only [Option.some.injEq, Option.map_eq_none_iff, List.getElem?_eq_none_iff] at e2
      exact ⟨vs, hs, by rw [← r.len]; omega⟩
    · cases e2
  | zip s t =>
    obtain ⟨b1, a, b2, b, h1, h2, rfl⟩ := h
    simp only [itGo] at e
    split at e
    · rename_i xs ys e1 e2
      obtain ⟨vs, hs, r⟩ := h1.seq R e1
      obtain ⟨us, hs', r'⟩ := h2.seq R e2
      split at e
      · rename_i hk
        simp only [Option.some.injEq] at e
        have l1 := r.len
        have l2 := r'.len
        refine ⟨vs, us, hs, hs', by omega, by omega, ?_⟩
        split at e
        · cases e
        · rename_i hno
          cases q1 : xs[k]? with
          | none => have := List.getElem?_eq_none_iff.mp q1; exact .inl (by omega)
          | some x =>
            cases q2 : ys[k]? with
            | none => have := List.getElem?_eq_none_iff.mp q2; exact .inr (by omega)
            | some y => exact (hno x y q1 q2).elim
      · cases e
    · cases e
  | rev s n =>
    obtain ⟨b, a, h1, rfl⟩ := h
    simp only [itGo, Option.bind_eq_some_iff] at e
    obtain ⟨ds, e, e2⟩ := e
    have hn : n ≤ k := by
      split at e2
      · rename_i hl
        simp only [Option.some.injEq] at e2
        split at e2
        · rename_i hk
          have := List.getElem?_eq_none_iff.mp e2
          omega
        · omega
      · cases e2
    cases b
    · exact hn
    · exact hn
  | ez s t =>
    obtain ⟨b1, a, b2, b, h1, h2, rfl⟩ := h
    simp only [itGo] at e
    split at e
    · rename_i xs ys e1 e2
      obtain ⟨vs, hs, r⟩ := h1.seq R e1
      obtain ⟨us, hs', r'⟩ := h2.seq R e2
      split at e
      · rename_i hk
        simp only [Option.some.injEq] at e
        have l1 := r.len
        have l2 := r'.len
        refine ⟨vs, us, hs, hs', by omega, by omega, ?_⟩
        split at e
        · cases e
        · rename_i hno
          cases q1 : xs[k]? with
          | none => have := List.getElem?_eq_none_iff.mp q1; exact .inl (by omega)
          | some x =>
            cases q2 : ys[k]? with
            | none => have := List.getElem?_eq_none_iff.mp q2; exact .inr (by omega)
            | some y => exact (hno x y q1 q2).elim
      · cases e
    · cases e
theorem it_go (R : Real K p S H) (h : JRel K p S.length H j I) {d : D} (e : itGo j k S = some (some d)) :
    I.go k H ∧ ∀ x H', I.yld k H x H' → Ext S.length S.length p p H H' ∧ Real K p S H' ∧ Rep K p S.length H' d x := by
  cases j with
  | tup ds =>
    obtain ⟨a, vs, h⟩ := h
    simp only [itGo, Option.some.injEq] at e
    rcases h with ⟨h1, ⟨h2, h3⟩, rfl⟩ | ⟨h1, ⟨h2, h3⟩, rfl⟩
    · obtain ⟨v, e2, r⟩ := h3.get e
      refine ⟨⟨vs, v, SqT.of h2, e2⟩, fun x H' y => ?_⟩
      obtain ⟨rfl, y⟩ := y
      have := (y vs (SqT.of h2)).symm.trans e2
      cases this
      exact ⟨Ext.refl, R, r⟩
    · obtain ⟨v, e2, r⟩ := h3.get e
      refine ⟨⟨vs, v, h2.sq, e2⟩, fun x H' y => ?_⟩
      obtain ⟨rfl, y⟩ := y
      have := (y vs h2.sq).symm.trans e2
      cases this
      exact ⟨Ext.refl, R, r⟩
  | lst i =>
    obtain ⟨h1, rfl⟩ := h
    simp only [itGo, Option.map_eq_some_iff] at e
    obtain ⟨ds, e, e2⟩ := e
    obtain ⟨vs, hs, r⟩ := seqAt_V R e
    obtain ⟨v, e3, r3⟩ := r.get e2
    refine ⟨⟨vs, v, hs, e3⟩, fun x H' y => ?_⟩
    obtain ⟨rfl, y⟩ := y
    have := (y vs hs).symm.trans e3
    cases this
    exact ⟨Ext.refl, R, r3⟩
  | rng lo m =>
    cases h
    simp only [itGo, Option.some.injEq] at e
    split at e
    · rename_i hk
      cases e
      refine ⟨hk, fun x H' y => ?_⟩
      obtain ⟨rfl, rfl⟩ := y
      exact ⟨Ext.refl, R, .int _⟩
    · cases e
  | str z =>
    cases h
    simp only [itGo, Option.some.injEq, Option.map_eq_some_iff] at e
    obtain ⟨c, e, rfl⟩ := e
    refine ⟨(Array.getElem?_eq_some_iff.mp e).1, fun x H' y => ?_⟩
    obtain ⟨rfl, c', e', rfl⟩ := y
    rw [e] at e'; cases e'
    exact ⟨Ext.refl, R, .str _⟩
  | cnt lo c m =>
    cases h
    simp only [itGo, Option.some.injEq] at e
    split at e
    · rename_i hk
      cases e
      refine ⟨hk, fun x H' y => ?_⟩
      obtain ⟨rfl, rfl⟩ := y
      exact ⟨Ext.refl, R, .int _⟩
    · cases e
  | enum s =>
    obtain ⟨b, a, h1, rfl⟩ := h
    simp only [itGo, Option.bind_eq_some_iff] at e
    obtain ⟨ds, e, e2⟩ := e
    obtain ⟨vs, hs, r⟩ := h1.seq R e
    split at e2
    · rename_i hk
      simp only [Option.some.injEq, Option.map_eq_some_iff] at e2
      obtain ⟨c, e2, rfl⟩ := e2
      obtain ⟨v, e3, r3⟩ := r.get e2
      refine ⟨⟨vs, v, hs, e3⟩, fun x H' y => ?_⟩
      obtain ⟨T, z, rfl, hT, rfl, y⟩ := y
      have := (y vs hs).symm.trans e3
      cases this
      exact ⟨ext_junk hT, R.junk hT, .tup upd_same (.cons (.int _) (.cons (r3.ext (ext_junk hT) _ _) .nil))⟩
    · cases e2
  | zip s t =>
    obtain ⟨b1, a, b2, b, h1, h2, rfl⟩ := h
    simp only [itGo] at e
    split at e
    · rename_i xs ys e1 e2
      obtain ⟨vs, hs, r⟩ := h1.seq R e1
      obtain ⟨us, hs', r'⟩ := h2.seq R e2
      split at e
      · simp only [Option.some.injEq] at e
        split at e
        · rename_i x y q1 q2
          cases e
          obtain ⟨v, e3, r3⟩ := r.get q1
          obtain ⟨u, e4, r4⟩ := r'.get q2
          refine ⟨⟨vs, us, v, u, hs, hs', e3, e4⟩, fun z H' w => ?_⟩
          obtain ⟨T, z1, z2, rfl, hT, rfl, y1, y2⟩ := w
          have := (y1 vs hs).symm.trans e3
          cases this
          have := (y2 us hs').symm.trans e4
          cases this
          exact ⟨ext_junk hT, R.junk hT, .tup upd_same (.cons (r3.ext (ext_junk hT) _ _) (.cons (r4.ext (ext_junk hT) _ _) .nil))⟩
        · cases e
      · cases e
    · cases e
  | rev s n =>
    obtain ⟨b, a, h1, rfl⟩ := h
    simp only [itGo, Option.bind_eq_some_iff] at e
    obtain ⟨ds, e, e2⟩ := e
    obtain ⟨vs, hs, r⟩ := h1.seq R e
    split at e2
    · simp only [Option.some.injEq] at e2
      split at e2
      · rename_i hk
        obtain ⟨v, e3, r3⟩ := r.get e2
        cases b with
        | true =>
          refine ⟨⟨hk, vs, v, hs, e3⟩, fun x H' y => ?_⟩
          obtain ⟨rfl, y⟩ := y
          have := (y vs hs).symm.trans e3
          cases this
          exact ⟨Ext.refl, R, r3⟩
        | false =>
          refine ⟨⟨hk, vs, v, hs, e3⟩, fun x H' y => ?_⟩
          obtain ⟨rfl, y⟩ := y
          have := (y vs hs).symm.trans e3
          cases this
          exact ⟨Ext.refl, R, r3⟩
      · cases e2
    · cases e2
  | ez s t =>
    obtain ⟨b1, a, b2, b, h1, h2, rfl⟩ := h
    simp only [itGo] at e
    split at e
    · rename_i xs ys e1 e2
      obtain ⟨vs, hs, r⟩ := h1.seq R e1
      obtain ⟨us, hs', r'⟩ := h2.seq R e2
      split at e
      · simp only [Option.some.injEq] at e
        split at e
        · rename_i x y q1 q2
          cases e
          obtain ⟨v, e3, r3⟩ := r.get q1
          obtain ⟨u, e4, r4⟩ := r'.get q2
          refine ⟨⟨vs, us, v, u, hs, hs', e3, e4⟩, fun z H' w => ?_⟩
          obtain ⟨T, T', z1, z2, rfl, hT, hne, hT', rfl, y1, y2⟩ := w
          have := (y1 vs hs).symm.trans e3
          cases this
          have := (y2 us hs').symm.trans e4
          cases this
          have hn : upd H T (.tup [v, u]) T' = none := (upd_ne hne).trans hT'
          have x1 : Ext S.length S.length p p H (upd H T (.tup [v, u])) := ext_junk hT
          have x2 : Ext S.length S.length p p (upd H T (.tup [v, u])) (upd (upd H T (.tup [v, u])) T' (.tup [.int (k : Nat), .ref T])) := ext_junk hn
          have rp : Rep K p S.length (upd H T (.tup [v, u])) (.tup [x, y]) (.ref T) := .tup upd_same (.cons (r3.ext x1 _ _) (.cons (r4.ext x1 _ _) .nil))
          exact ⟨x1.trans x2, (R.junk hT).junk hn, .tup upd_same (.cons (.int _) (.cons (rp.ext x2 _ _) .nil))⟩
        · cases e
      · cases e
    · cases e
end
abbrev MI := Ls → Hs → R J
def TI' (K : PySem.W.Frag) (E : St → XK) (f : MI) : TI := fun s H Q => ∃ p l S, Real K p S H ∧ Sl K p S.length H l s ∧ Post K E S.length p H (f l S) (fun j S1 p1 H1 => ∀ I, JRel K p1 S1.length H1 j I → Q I H1)
structure IM (X : Cx) (E : St → XK) (tg e : Expr) (f : MI) : Prop where pi : PI X tg e (TI' X.K E f)
theorem _root_.L2.PI.weak {X : Cx} {tg e : Expr} {t t' : TI} (h : PI X tg e t) (w : ∀ s H Q, t' s H Q → t s H Q) : PI X tg e t' := ⟨fun pins s σ H Q I q => h.run pins s σ H Q I (w σ H Q q)⟩
theorem _root_.L2.PI.or {X : Cx} {tg e : Expr} {t t' : TI} (h : PI X tg e t) (h' : PI X tg e t') : PI X tg e (fun s H Q => t s H Q ∨ t' s H Q) := ⟨fun pins s σ H Q I q => q.elim (h.run pins s σ H Q I) (h'.run pins s σ H Q I)⟩
def oIt (x : D) (S : Hs) : R J := match x with
  | .tup ds => .ok (.tup ds) S
  | .wt ds => .ok (.tup ds) S
  | .str x => .ok (.str x) S
  | .ref i => match seqAt S i with
    | some _ => .ok (.lst i) S
    | none => .bad
  | _ => .bad
def mIt (f : M) : MI := fun l S => (f l S).bind oIt
def oRng1 (ds : List D) (S : Hs) : R J := match ds with
  | [.int n] => if -(2 ^ 62) ≤ n ∧ n < 2 ^ 62 then .ok (.rng 0 n.toNat) S else .bad
  | _ => .bad
def oRng2 (ds : List D) (S : Hs) : R J := match ds with
  | [.int a, .int b] => if -(2 ^ 62) ≤ a ∧ a < 2 ^ 62 ∧ -(2 ^ 62) ≤ b ∧ b < 2 ^ 62 then .ok (.rng a (b - a).toNat) S else .bad
  | _ => .bad
def mRng1 (f : ML) : MI := fun l S => (f l S).bind oRng1
def mRng2 (f : ML) : MI := fun l S => (f l S).bind oRng2
def oEnum (ds : List D) (S : Hs) : R J := match ds with
  | [x] => match sqOf x S with
    | some s => .ok (.enum s) S
    | none => .bad
  | _ => .bad
def mEnum (f : ML) : MI := fun l S => (f l S).bind oEnum
def oZip (ds : List D) (S : Hs) : R J := match ds with
  | [x, y] => match sqOf x S, sqOf y S with
    | some s, some t => .ok (.zip s t) S
    | _, _ => .bad
  | _ => .bad
def mZip (f : ML) : MI := fun l S => (f l S).bind oZip
def oEz (ds : List D) (S : Hs) : R J := match ds with
  | [x, y] => match sqOf x S, sqOf y S with
    | some s, some t => .ok (.ez s t) S
    | _, _ => .bad
  | _ => .bad
def mEz (f : ML) : MI := fun l S => (f l S).bind oEz
section
variable {X : Cx} {E : St → XK} {tg e e2 : Expr} {f : M} {g : ML} {p0 pos : Pos}
abbrev QJ (K : PySem.W.Frag) (Q : It → Hp → Prop) : J → Hs → (Nat → Addr) → Hp → Prop := fun j S1 p1 H1 => ∀ I, JRel K p1 S1.length H1 j I → Q I H1
theorem seqAt_lt {S : Hs} {i : Nat} {ds : List D} (h : seqAt S i = some ds) : i < S.length := by
  unfold seqAt seqD at h
  simp only at h
  split at h
  · rename_i q; exact Real.lt q
  · rename_i q; exact Real.lt q
  · cases h
theorem i_it (he : EM X E e f) : IM X E tg e (mIt f) :=
  ⟨(PI.or (pi_list he.pe) (PI.or (pi_tup he.pe) (pi_str he.pe))).weak fun s H Q ⟨p, l, S, R, L, h⟩ => by
    unfold mIt at h
    have hc : ∃ d S1, f l S = .ok d S1 ∨ ∃ c fs l1, f l S = .exc c fs l1 S1 := by
      cases q : f l S with
      | ok d S1 => exact ⟨d, S1, .inl rfl⟩
      | exc c fs l1 S1 => exact ⟨.non, S1, .inr ⟨c, fs, l1, rfl⟩⟩
      | bad => rw [q] at h; exact h.elim
    obtain ⟨d, S1, hc | ⟨c, fs, l1, hc⟩⟩ := hc
    · rw [hc] at h
      simp only [Ly.R.bind_ok] at h
      unfold oIt at h
      split at h
      · refine .inr (.inl ⟨p, l, S, R, L, ?_⟩)
        rw [hc]
        intro p1 H1 x1 R1 v r
        cases r with
        | tup t r => exact ⟨_, rfl, ⟨_, SqT.of t⟩, Post.ok (Q := QJ _ Q) h x1 R1 _ ⟨_, _, .inl ⟨.tup t r, ⟨t, r⟩, rfl⟩⟩⟩
      · refine .inr (.inl ⟨p, l, S, R, L, ?_⟩)
        rw [hc]
        intro p1 H1 x1 R1 v r
        cases r with
        | wt t r => exact ⟨_, rfl, ⟨_, t.sq⟩, Post.ok (Q := QJ _ Q) h x1 R1 _ ⟨_, _, .inr ⟨.wt t r, ⟨t, r⟩, rfl⟩⟩⟩
      · refine .inr (.inr ⟨p, l, S, R, L, ?_⟩)
        rw [hc]
        intro p1 H1 x1 R1 v r
        cases r
        exact ⟨_, rfl, Post.ok (Q := QJ _ Q) h x1 R1 _ rfl⟩
      · refine .inl ⟨p, l, S, R, L, ?_⟩
        rw [hc]
        split at h
        · rename_i ds q
          intro p1 H1 x1 R1 v r
          obtain ⟨vs, hs, _⟩ := seqAt_V R1 q
          cases r
          exact ⟨_, rfl, ⟨_, hs⟩, Post.ok (Q := QJ _ Q) h x1 R1 _ ⟨seqAt_lt q, rfl⟩⟩
        · exact h.elim
      · exact h.elim
    · rw [hc] at h
      refine .inl ⟨p, l, S, R, L, ?_⟩
      rw [hc]
      exact h⟩
theorem i_rng1 {a : Expr} (hm : X.mg "range" = none) (ha : LM X E [a] g) (hg : Gl X "range" := by rfl) (hs : starEach [a] X.env = [(false, eval a X.env)] := by rfl) : IM X E tg (.Call (.Name "range" p0) [a] [] pos) (mRng1 g) :=
  ⟨(pi_range1 hg hm ha.pa hs).weak fun s H Q ⟨p, l, S, R, L, h⟩ => TL.of R L h fun p1 S1 H1 d v R1 x1 L1 r1 h1 => by
    unfold oRng1 at h1
    split at h1
    · split at h1
      · rename_i hb
        cases r1 with
        | cons r0 rs => cases rs; cases r0; exact ⟨_, rfl, hb.1, hb.2, Post.ok (Q := QJ _ Q) h1 Ext.refl R1 _ rfl⟩
      · exact h1.elim
    · exact h1.elim⟩
theorem i_zip {elts : List Expr} {kk : Nat} {tpos : Pos} (hm : X.mg "zip" = none) (ha : LM X E [e, e2] g) (hg : Gl X "zip" := by rfl) (hs : starEach [e, e2] X.env = (false, eval e X.env) :: starEach [e2] X.env := by rfl) (hpl : (backTo pos (starEach [e2] X.env)).any (·.1) = false := by rfl) :
    IM X E (.Tuple elts kk tpos) (.Call (.Name "zip" p0) [e, e2] [] pos) (mZip g) :=
  ⟨(LyI.pi_zipB hg hm ha.pa hs hpl).weak fun s H Q ⟨p, l, S, R, L, h⟩ => TL.of R L h fun p1 S1 H1 d v R1 x1 L1 r1 h1 => by
    unfold oZip at h1
    split at h1
    · split at h1
      · rename_i q q'
        cases r1 with
        | cons r0 rs =>
          cases rs with
          | cons r2 rs =>
            cases rs
            obtain ⟨b, a, ds, rfl, h2, e⟩ := sqOf_R R1 r0 q
            obtain ⟨b', a', ds', rfl, h2', e'⟩ := sqOf_R R1 r2 q'
            obtain ⟨vs, hs, _⟩ := h2.seq R1 e
            obtain ⟨us, hs', _⟩ := h2'.seq R1 e'
            exact ⟨b, b', a, a', vs, us, rfl, hs, hs', Post.ok (Q := QJ _ Q) h1 Ext.refl R1 _ ⟨b, a, b', a', h2, h2', rfl⟩⟩
      · exact h1.elim
    · exact h1.elim⟩
end
def fStep (j : J) (g : MG) (b : MS) (a : Nat × Ls × Hs) : Sum (Nat × Ls × Hs) (R F) := match itGo j a.1 a.2.2 with
  | none => .inr .bad
  | some none => .inr (.ok (.nx a.2.1) a.2.2)
  | some (some d) => match g d a.2.1 a.2.2 with
    | .ok l1 S1 => turnOf (b l1 S1) fun l2 S2 => (a.1 + 1, l2, S2)
    | .exc c fs l1 S1 => .inr (.exc c fs l1 S1)
    | .bad => .inr .bad
noncomputable def fLoop (j : J) (g : MG) (b : MS) (k : Nat) : MS := fun l S => runI (fStep j g b) (k, l, S)
noncomputable def mFor (it : MI) (g : MG) (b : MS) : MS := fun l S => (it l S).bind fun j S1 => fLoop j g b 0 l S1
theorem fLoop_eq (j : J) (g : MG) (b : MS) (k : Nat) (l : Ls) (S : Hs) : fLoop j g b k l S = match itGo j k S with
    | none => .bad
    | some none => .ok (.nx l) S
    | some (some d) => (g d l S).bind fun l1 S1 => (b l1 S1).bind fun r S2 => match r with
      | .nx l2 => fLoop j g b (k + 1) l2 S2
      | .ct l2 => fLoop j g b (k + 1) l2 S2
      | .bk l2 => .ok (.nx l2) S2
      | .rt d => .ok (.rt d) S2 := by
  unfold fLoop
  rw [runI_eq]
  unfold fStep turnOf
  simp only []
  cases itGo j k S with
  | none => rfl
  | some o =>
    cases o with
    | none => rfl
    | some d =>
      simp only []
      cases g d l S with
      | ok l1 S1 =>
        simp only [R.bind_ok]
        cases b l1 S1 with
        | ok r S2 => cases r <;> rfl
        | exc _ _ _ _ => rfl
        | bad => rfl
      | exc _ _ _ _ => rfl
      | bad => rfl
section
variable {X : Cx} {E : St → XK} {tg e : Expr} {it : MI} {g : MG} {b : MS} {pos : Pos} {body : List Stmt}
theorem s_for (hp : PassesOwn (model X.prog X.w) X.A X.env X.xe) (hc : X.calm = true) (hi : IM X E tg e it) (hg : GM X E tg g) (hb : SMs X E body b) (hs : ∀ x, foldedSetIterable e X.env x = pure x := by intro _; rfl) : SM X E (.For tg e body [] pos) (mFor it g b) :=
  ⟨(ps_for hp hc hi.pi hg.pg hb.ps hs).weak fun s H D0 ⟨p, l, S, R, L, h⟩ => by
    refine ⟨p, l, S, R, L, (Post.bind (r := it l S) h).mono fun j S1 p1 H1 _ x1 R1 q I hI => ?_⟩
    obtain ⟨n, hn, _⟩ := runI_ex (Post.ne q)
    rw [show fLoop j g b 0 l S1 = _ from hn.symm] at q
    refine ⟨fun k m s H => ∃ p l S, Real X.K p S H ∧ Sl X.K p S.length H l s ∧ JRel X.K p S.length H j I ∧ Post X.K E S.length p H (iter (fStep j g b) m (k, l, S)) (QF X.K D0), ⟨n, p1, l, S1, R1, L.ext x1, hI, q⟩, ?_⟩
    rintro k m s H ⟨p, l, S, R, L, hI, h⟩
    cases m with
    | zero => exact h.elim
    | succ m =>
      simp only [iter, fStep] at h
      cases e1 : itGo j k S with
      | none => rw [e1] at h; exact h.elim
      | some o =>
        cases o with
        | none => rw [e1] at h; exact .inl ⟨it_stop R hI e1, Post.nx h R L⟩
        | some d =>
          obtain ⟨g1, g2⟩ := it_go R hI e1
          rw [e1] at h
          simp only [] at h
          refine .inr ⟨g1, fun s H => ∃ p l S, Real X.K p S H ∧ Sl X.K p S.length H l s ∧ JRel X.K p S.length H j I ∧ Post X.K E S.length p H (iter (fStep j g b) m (k + 1, l, S)) (QF X.K D0), fun s' H' w => ⟨m, Nat.lt_succ_self m, w⟩, fun x H' y => ?_⟩
          obtain ⟨x2, R2, r2⟩ := g2 x H' y
          refine ⟨p, l, S, d, R2, L.ext x2, r2, ?_⟩
          have h2 := Post.ext h x2
          cases e2 : g d l S with
          | bad => rw [e2] at h2; exact h2
          | exc c fs l1 S1 => rw [e2] at h2; exact h2
          | ok l1 S3 =>
            rw [e2] at h2
            simp only [] at h2
            intro p3 H3 x3 R3 s3 L3
            refine ⟨p3, l1, S3, R3, L3, turn_post (Post.ext h2 x3) fun l2 S4 p4 H4 s4 x4 R4 L4 h4 => ⟨p4, l2, S4, R4, L4, hI.ext (x2.trans (x3.trans x4)), h4⟩⟩⟩
end
end Ly
set_option Elab.async false
set_option linter.all false
set_option maxRecDepth 100000
namespace Ly
open PySem PySem.Spec L2
open PyProof.Rows hiding St
def wipeL (l : Ls) : List Nat → Ls
  | [] => l
  | v :: vs => (wipeL l vs).set v none
theorem Sl.wipe {K : PySem.W.Frag} {p : Nat → Addr} {n : Nat} {H : Hp} {l : Ls} {s : St} (h : Sl K p n H l s) : ∀ vs, Sl K p n H (wipeL l vs) (L2.wipe s vs)
  | [] => h
  | v :: vs => (Sl.wipe h vs).skip v none
abbrev CG := D → Ls → Option Ls
def GOk (K : PySem.W.Frag) (vs : List Nat) (g : TG) (gl : CG) : Prop := ∀ (p : Nat → Addr) (n : Nat) (H : Hp) (d : D) (x : V) (l l1 : Ls) (s : St) (Q : St → Hp → Prop), Sl K p n H l (L2.wipe s vs) → Rep K p n H d x → gl d l = some l1 →
  (∀ s2, L2.wipe s2 vs = L2.wipe s vs → Sl K p n H l1 s2 → Q s2 H) → g x (L2.wipe s vs) H Q
def cN (i : Nat) : CG := fun d l => some (l.set i (some d))
def cT : List Nat → CG := fun is d l => match d with
  | .tup ds => if ds.length = is.length then some ((is.zip ds).foldl (fun l x => l.set x.1 (some x.2)) l) else none
  | .wt ds => if ds.length = is.length then some ((is.zip ds).foldl (fun l x => l.set x.1 (some x.2)) l) else none
  | _ => none
theorem gok_n {K : PySem.W.Frag} {i : Nat} {vs : List Nat} (hv : vs = [i]) : GOk K vs (gName i) (cN i) := by
  subst hv
  intro p n H d x l l1 s Q L r e hq
  cases e
  refine hq _ ?_ (L.set i r)
  simp only [L2.wipe, List.set_set]
def gNames : List Nat → TGs
  | [] => gNil
  | i :: is => gCons (gName i) (gNames is)
theorem wipe_set {s : St} {vs : List Nat} {i : Nat} {o : Option V} (h : i ∈ vs) : L2.wipe (s.set i o) vs = L2.wipe s vs := by
  induction vs with
  | nil => cases h
  | cons v vs ih =>
    simp only [L2.wipe]
    by_cases e : i ∈ vs
    · rw [ih e]
    · have : i = v := by
        rcases List.mem_cons.mp h with h | h
        · exact h
        · exact absurd h e
      subst this
      clear ih h
      have key : ∀ ws : List Nat, i ∉ ws → L2.wipe (s.set i o) ws = (L2.wipe s ws).set i o := by
        intro ws
        induction ws with
        | nil => intro _; rfl
        | cons w ws ih =>
          intro hw
          simp only [L2.wipe]
          rw [ih fun z => hw (List.mem_cons_of_mem _ z), List.set_comm _ _ (fun z => hw (by rw [← z]; exact List.mem_cons_self ..))]
      rw [key vs e, List.set_set]
theorem wipe_wipe {s : St} (vs : List Nat) : L2.wipe (L2.wipe s vs) vs = L2.wipe s vs := by
  have key : ∀ ws : List Nat, (∀ i ∈ ws, i ∈ vs) → L2.wipe (L2.wipe s ws) vs = L2.wipe s vs := by
    intro ws
    induction ws with
    | nil => intro _; rfl
    | cons w ws ih =>
      intro h
      simp only [L2.wipe]
      rw [wipe_set (h w (List.mem_cons_self ..)), ih fun i hi => h i (List.mem_cons_of_mem _ hi)]
  exact key vs fun _ h => h
theorem gnames_ok {K : PySem.W.Frag} {p : Nat → Addr} {n : Nat} {H : Hp} : ∀ (is : List Nat) (ds : List D) (xs : List V) (l : Ls) (s : St) (Q : St → Hp → Prop), Sl K p n H l s → Reps K p n H ds xs → ds.length = is.length →
    (∀ s2, (∀ vs, (∀ i ∈ is, i ∈ vs) → L2.wipe s2 vs = L2.wipe s vs) → Sl K p n H ((is.zip ds).foldl (fun l x => l.set x.1 (some x.2)) l) s2 → Q s2 H) → gNames is xs s H Q
  | [], ds, xs, l, s, Q, L, r, e, hq => by
    cases ds with
    | nil => cases r; exact ⟨rfl, hq s (fun _ _ => rfl) L⟩
    | cons a b => simp at e
  | i :: is, ds, xs, l, s, Q, L, r, e, hq => by
    cases ds with
    | nil => simp at e
    | cons d ds =>
      cases r with
      | cons r0 rs =>
        refine ⟨_, _, rfl, gnames_ok is ds _ (l.set i (some d)) _ Q (L.set i r0) rs (by simpa using e) fun s2 h2 L2' => hq s2 (fun vs hv => ?_) L2'⟩
        rw [h2 vs fun j hj => hv j (List.mem_cons_of_mem _ hj), wipe_set (hv i (List.mem_cons_self ..))]
theorem gok_t {K : PySem.W.Frag} {is vs : List Nat} (hv : ∀ i ∈ is, i ∈ vs) : GOk K vs (gTup K is.length (gNames is)) (cT is) := by
  intro p n H d x l l1 s Q L r e hq
  unfold cT at e
  split at e
  · split at e
    · rename_i hl
      cases e
      cases r with
      | tup t r => exact ⟨_, _, rfl, SqT.of t, by rw [← r.len]; exact hl, gnames_ok is _ _ l _ Q L r hl fun s2 h2 L2' => hq s2 (by rw [h2 vs hv, wipe_wipe]) L2'⟩
    · cases e
  · split at e
    · rename_i hl
      cases e
      cases r with
      | wt t r => exact ⟨_, _, rfl, t.sq, by rw [← r.len]; exact hl, gnames_ok is _ _ l _ Q L r hl fun s2 h2 L2' => hq s2 (by rw [h2 vs hv, wipe_wipe]) L2'⟩
    · cases e
  · cases e
def mYes : MB := fun _ S => .ok true S
def cStep (j : J) (gl : CG) (tt : MB) (te : M) (l : Ls) (n : Nat) (a : Nat × Hs) : Sum (Nat × Hs) (R D) := match itGo j a.1 a.2 with
  | none => .inr .bad
  | some none => .inr (.ok (.ref n) a.2)
  | some (some d) => match gl d l with
    | none => .inr .bad
    | some l1 => match tt l1 a.2 with
      | .ok false S2 => .inl (a.1 + 1, S2)
      | .ok true S2 => (match te l1 S2 with
        | .ok y S3 => (match S3[n]? with
          | some (.lst acc) => if acc.length < sizeLine then .inl (a.1 + 1, S3.set n (.lst (acc ++ [y]))) else .inr .bad
          | _ => .inr .bad)
        | _ => .inr .bad)
      | _ => .inr .bad
noncomputable def cLoop (j : J) (gl : CG) (tt : MB) (te : M) (l : Ls) (n k : Nat) (S : Hs) : R D := runI (cStep j gl tt te l n) (k, S)
noncomputable def mLc (it : MI) (gl : CG) (tt : MB) (te : M) (vs : List Nat) : M := fun l S => (it l S).bind fun j S1 => cLoop j gl tt te (wipeL l vs) S1.length 0 (S1 ++ [.lst []])
theorem cLoop_eq (j : J) (gl : CG) (tt : MB) (te : M) (l : Ls) (n k : Nat) (S : Hs) : cLoop j gl tt te l n k S = match cStep j gl tt te l n (k, S) with
    | .inl a => cLoop j gl tt te l n a.1 a.2
    | .inr r => r := by
  unfold cLoop
  rw [runI_eq]
  cases cStep j gl tt te l n (k, S) <;> rfl
abbrev E00 : St → XK := fun _ => L2.E0
section
variable {X : Cx} {E : St → XK} {elt tg iter : Expr} {ifs : List Expr} {scope : Scope} {own : List (Str × Nat)} {pos : Pos} {it : MI} {g : TG} {gl : CG} {tm : MB} {te : M} {tt : TT}
structure CT (X : Cx) (ifs : List Expr) (tm : MB) : Prop where pts : PTs X ifs (TB X.K E00 tm)
theorem ct_nil : CT X [] mYes := ⟨⟨fun pins s σ H Q I ⟨p, l, S, R, L, h⟩ => pts_nil.run pins s σ H Q I (Post.ok (Q := QB Q) h Ext.refl R)⟩⟩
theorem ct_one {c : Expr} (h : BM X E00 c tm) : CT X [c] tm := ⟨pts_one h.pt⟩
theorem lc_reading {K : PySem.W.Frag} {vs : List Nat} (hgk : GOk K vs g gl) {s : St} {H : Hp} {Q : VK} {p : Nat → Addr} {l : Ls} {S : Hs} {j : J} {I : It} (R : Real K p S H) (L : Sl K p S.length H l s) (hI : JRel K p S.length H j I)
    (h : Post K E S.length p H (cLoop j gl tm te (wipeL l vs) S.length 0 (S ++ [.lst []])) (QD K Q)) : ∀ D0, H D0 = none → ∃ W : Nat → Nat → Hp → Prop, (∃ m, W 0 m (upd H D0 (.lst []))) ∧ ∀ i m H, W i m H →
      (I.stop i H ∧ Q (.ref D0) H) ∨ (I.go i H ∧ ∃ Nx : Hp → Prop, (∀ H', Nx H' → ∃ m', m' < m ∧ W (i + 1) m' H') ∧ ∀ x H', I.yld i H x H' → g x (L2.wipe s vs) H' fun s2 H2 => L2.wipe s2 vs = L2.wipe s vs ∧
        TB K E00 tm s2 H2 fun b H3 => if b = true then T K E00 te s2 H3 fun y H4 => ∃ acc, H4 D0 = some (.lst acc) ∧ acc.length < sizeLine ∧ Nx (upd H4 D0 (.lst (acc ++ [y]))) else Nx H3) := by
  intro D0 hD
  obtain ⟨m0, hm, _⟩ := runI_ex (Post.ne h)
  rw [show cLoop j gl tm te (wipeL l vs) S.length 0 (S ++ [.lst []]) = _ from hm.symm] at h
  have x0 := ext_new (S := S) (pi := p) (u := .lst []) hD
  have R0 := R.new (u := .lst []) (o := .lst []) hD ⟨[], upd_same, .nil⟩
  have e0 : (S ++ [O.lst []]).length = S.length + 1 := by simp
  refine ⟨fun k m H => ∃ q S1, S.length < S1.length ∧ q S.length = D0 ∧ Real K q S1 H ∧ Sl K q S1.length H (wipeL l vs) (L2.wipe s vs) ∧ JRel K q S1.length H j I ∧ Post K E S1.length q H (iter (cStep j gl tm te (wipeL l vs) S.length) m (k, S1)) (QD K Q),
    ⟨m0, piN p S.length D0, S ++ [.lst []], by omega, piN_same, R0, by rw [e0]; exact (L.wipe vs).ext x0, by rw [e0]; exact hI.ext x0, Post.ext h (by rw [e0]; exact x0)⟩, ?_⟩
  rintro k m H1 ⟨q, S1, hn, hq, R1, L1, hI1, h1⟩
  cases m with
  | zero => exact h1.elim
  | succ m =>
    simp only [iter, cStep] at h1
    cases e1 : itGo j k S1 with
    | none => rw [e1] at h1; exact h1.elim
    | some o =>
      cases o with
      | none =>
        rw [e1] at h1
        refine .inl ⟨it_stop R1 hI1 e1, ?_⟩
        have := Post.ok (Q := QD K Q) h1 Ext.refl R1 (.ref (q S.length)) (.ref hn)
        rwa [hq] at this
      | some d =>
        obtain ⟨g1, g2⟩ := it_go R1 hI1 e1
        rw [e1] at h1
        simp only [] at h1
        refine .inr ⟨g1, fun H => ∃ q S1, S.length < S1.length ∧ q S.length = D0 ∧ Real K q S1 H ∧ Sl K q S1.length H (wipeL l vs) (L2.wipe s vs) ∧ JRel K q S1.length H j I ∧ Post K E S1.length q H (iter (cStep j gl tm te (wipeL l vs) S.length) m (k + 1, S1)) (QD K Q),
          fun H' w => ⟨m, Nat.lt_succ_self m, w⟩, fun x H' y => ?_⟩
        obtain ⟨x2, R2, r2⟩ := g2 x H' y
        have h2 := Post.ext h1 x2
        cases e2 : gl d (wipeL l vs) with
        | none => rw [e2] at h2; exact h2.elim
        | some l1 =>
          rw [e2] at h2
          simp only [] at h2
          refine hgk q S1.length H' d x _ l1 s _ (L1.ext x2) r2 e2 fun s2 w2 L2' => ⟨w2, ?_⟩
          refine ⟨q, l1, S1, R2, L2', ?_⟩
          cases e3 : tm l1 S1 with
          | bad => rw [e3] at h2; exact h2.elim
          | exc _ _ _ _ => rw [e3] at h2; exact h2.elim
          | ok b S2 =>
            rw [e3] at h2
            intro q3 H3 x3 R3
            have h3 := Post.ext h2 x3
            cases b with
            | false => exact ⟨q3, S2, Nat.lt_of_lt_of_le hn x3.le, (x3.ag _ hn).trans hq, R3, (L1.ext x2).ext x3, (hI1.ext x2).ext x3, h3⟩
            | true =>
              show T K E00 te s2 H3 _
              refine ⟨q3, l1, S2, R3, L2'.ext x3, ?_⟩
              simp only [] at h3
              cases e4 : te l1 S2 with
              | bad => rw [e4] at h3; exact h3.elim
              | exc _ _ _ _ => rw [e4] at h3; exact h3.elim
              | ok y S3 =>
                rw [e4] at h3
                simp only [] at h3
                intro q4 H4 x4 R4 v r4
                have h4 := Post.ext h3 x4
                have hn4 : S.length < S3.length := Nat.lt_of_lt_of_le hn (Nat.le_trans x3.le x4.le)
                have hq4 : q4 S.length = D0 := (x4.ag _ (Nat.lt_of_lt_of_le hn x3.le)).trans ((x3.ag _ hn).trans hq)
                cases e5 : S3[S.length]? with
                | none => rw [e5] at h4; exact h4.elim
                | some ob =>
                  cases ob with
                  | lst acc =>
                    rw [e5] at h4
                    simp only [] at h4
                    split at h4
                    · rename_i hl
                      obtain ⟨us, h5, r5⟩ := R4.lst e5
                      have xu : ∀ u, Ext S3.length S3.length q4 q4 H4 (upd H4 (q4 S.length) u) := fun u => ext_upd (R4.notup hn4)
                      rw [hq4] at h5
                      refine ⟨us, h5, by rw [← r5.len]; exact hl, q4, S3.set S.length (.lst (acc ++ [y])), by rw [List.length_set]; exact hn4, hq4, ?_, ?_, ?_, ?_⟩
                      · rw [← hq4]
                        exact R4.put hn4 ⟨_, upd_same, (r5.ext (xu _) _ _).append (.cons (r4.ext (xu _) _ _) .nil)⟩
                      · rw [← hq4, List.length_set]; exact (((L1.ext x2).ext x3).ext x4).ext (xu _)
                      · rw [← hq4, List.length_set]; exact (((hI1.ext x2).ext x3).ext x4).ext (xu _)
                      · rw [← hq4, List.length_set]; exact Post.ext h4 (xu _)
                    · exact h4.elim
                  | _ => rw [e5] at h4; exact h4.elim
theorem e_lc (hc : X.calm = true) (hN : X.N.Nodup) (hi : IM X E tg iter it) (ok : BlkOk X.N X.env.scope scope own) (hgk : GOk X.K (own.map (·.2)) g gl)
    (hg : ∀ (s : Shared) (H : Hp) (C : Addr) (cl : List (Str × Addr)) (fp : List Addr), PG (X.blk s H scope (compEnvC scope cl C X.env) fp) tg g)
    (ht : ∀ (s : Shared) (H : Hp) (C : Addr) (cl : List (Str × Addr)) (fp : List Addr), CT (X.blk s H scope (compEnvC scope cl C X.env) fp) ifs tm)
    (he : ∀ (s : Shared) (H : Hp) (C : Addr) (cl : List (Str × Addr)) (fp : List Addr), EM (X.blk s H scope (compEnvC scope cl C X.env) fp) E00 elt te) (hs : ∀ x, foldedSetIterable iter X.env x = pure x := by intro _; rfl) :
    EM X E (.ListComp elt [⟨tg, iter, ifs, 0⟩] scope pos) (mLc it gl tm te (own.map (·.2))) :=
  ⟨(pe_lc hc hN hi.pi ok hg (fun s H C cl fp => (ht s H C cl fp).pts) (fun s H C cl fp => (he s H C cl fp).pe) hs).weak fun s H Q ⟨p, l, S, R, L, h⟩ =>
    ⟨p, l, S, R, L, (Post.bind (r := it l S) h).mono fun j S1 p1 H1 _ x1 R1 q I hI => lc_reading hgk R1 (L.ext x1) hI q⟩⟩
theorem s_setLc {i : Nat} {y : Str} {py spos : Pos} (hc : X.calm = true) (hN : X.N.Nodup) (hsw : swapsWith (.ListComp elt [⟨tg, iter, ifs, 0⟩] scope pos) (some (.Name y py)) spos.line X.env = pure true) (hi : IM X E tg iter it) (ok : BlkOk X.N X.env.scope scope own) (hgk : GOk X.K (own.map (·.2)) g gl)
    (hg : ∀ (s : Shared) (H : Hp) (C : Addr) (cl : List (Str × Addr)) (fp : List Addr), PG (X.blk s H scope (compEnvC scope cl C X.env) fp) tg g)
    (ht : ∀ (s : Shared) (H : Hp) (C : Addr) (cl : List (Str × Addr)) (fp : List Addr), CT (X.blk s H scope (compEnvC scope cl C X.env) fp) ifs tm)
    (he : ∀ (s : Shared) (H : Hp) (C : Addr) (cl : List (Str × Addr)) (fp : List Addr), EM (X.blk s H scope (compEnvC scope cl C X.env) fp) E00 elt te) (hy : X.N[i]? = some y := by rfl) (hl : X.env.scope.names.lookup y = some .local := by rfl) (hs : ∀ x, foldedSetIterable iter X.env x = pure x := by intro _; rfl) :
    SM X E (.Assign [.Name y py] (.ListComp elt [⟨tg, iter, ifs, 0⟩] scope pos) spos) (mSet i (mLc it gl tm te (own.map (·.2)))) :=
  ⟨(ps_setLc hc hN hy hl hsw hi.pi ok hg (fun s H C cl fp => (ht s H C cl fp).pts) (fun s H C cl fp => (he s H C cl fp).pe) hs).weak fun s H D0 ⟨p, l, S, R, L, h⟩ => by
    have h' : Post X.K E S.length p H ((mLc it gl tm te (own.map (·.2)) l S).bind fun d S1 => .ok (.nx (l.set i (some d))) S1) (QF X.K D0) := h
    have h2 : Post X.K E S.length p H (mLc it gl tm te (own.map (·.2)) l S) (QD X.K fun v H' => D0.nx (s.set i (some v)) H') := h'.bind.mono fun d S1 p1 H1 _ x1 R1 q v r => Post.nx q R1 ((L.ext x1).set i r)
    exact ⟨p, l, S, R, L, (Post.bind (r := it l S) h2).mono fun j S1 p1 H1 _ x1 R1 q I hI => lc_reading hgk R1 (L.ext x1) hI q⟩⟩
end
end Ly
set_option Elab.async false
set_option linter.all false
set_option maxRecDepth 100000
namespace Ly
open PySem PySem.Spec L2
open PyProof.Rows hiding St
def tyName (x : D) (S : Hs) : Option String := match x with
  | .non => some "NoneType"
  | .bl _ => some "bool"
  | .int _ => some "int"
  | .str _ => some "str"
  | .tup _ => some "tuple"
  | .wt _ => some "tuple"
  | .wl _ => some "list"
  | .ref i => match S[i]? with
    | some (.lst _) => some "list"
    | some (.rol _) => some "list"
    | some (.dic _) => some "dict"
    | some (.dit _) => some "dict"
    | _ => none
  | .cst _ => none
def oIsi (c : String) (x : D) (S : Hs) : R D := match (tyName x S).bind fun t => kitB t c with
  | some b => .ok (.bl b) S
  | none => .bad
section
variable {K : PySem.W.Frag} {E : St → XK} {X : Cx} {p : Nat → Addr} {S : Hs} {H : Hp}
end
abbrev MP := Ls → Hs → R (List (D × D))
def dpNil : MP := fun _ S => .ok [] S
def dpCons (f g : M) (h : MP) : MP := fun l S => (f l S).bind fun x S1 => (g l S1).bind fun y S2 => (h l S2).bind fun r S3 => .ok ((x, y) :: r) S3
def keysP : List (D × D) → Option (List (Key × D))
  | [] => some []
  | (x, y) :: r => match x.key, keysP r with
    | some k, some l => some ((k, y) :: l)
    | _, _ => none
def mergeD (kvs : List (Key × D)) (more : List (Key × D)) : List (Key × D) := more.foldl (fun acc kv => setK acc kv.1 kv.2) kvs
def mDisp (h : MP) : M := fun l S => (h l (S ++ [.dic []])).bind fun ps S1 => match keysP ps, S1[S.length]? with
  | some kvs, some (.dic []) => if kvs.length ≤ 15 then .ok (.ref S.length) (S1.set S.length (.dic (mergeD [] kvs))) else .bad
  | _, _ => .bad
structure DP (X : Cx) (E : St → XK) (pos : Pos) (keys : List (Option Expr)) (values : List Expr) (trs : List (TE × TE)) (f : MP) : Prop where
  pps : PPs X pos keys values trs
  rd : ∀ (s : St) (H : Hp) (p : Nat → Addr) (l : Ls) (S : Hs) (Q : List (V × V) → Hp → Prop), Real X.K p S H → Sl X.K p S.length H l s →
    Post X.K E S.length p H (f l S) (fun ps S1 p1 H1 => ∀ ks vs, Reps X.K p1 S1.length H1 (ps.map (·.1)) ks → Reps X.K p1 S1.length H1 (ps.map (·.2)) vs → Q (ks.zip vs) H1) → tPairs trs s H Q
section
variable {X : Cx} {E : St → XK} {pos : Pos} {keys : List (Option Expr)} {values : List Expr} {trs : List (TE × TE)} {f g : M} {h : MP} {k v : Expr}
theorem dp_nil : DP X E pos [] [] [] dpNil := ⟨pps_nil, fun s H p l S Q R L h => Post.ok h Ext.refl R [] [] .nil .nil⟩
theorem dp_cons (hk : EM X E k f) (hv : EM X E v g) (hr : DP X E pos keys values trs h) : DP X E pos (some k :: keys) (v :: values) ((T X.K E f, T X.K E g) :: trs) (dpCons f g h) :=
  ⟨pps_cons hk.pe hv.pe hr.pps, fun s H p l S Q R L q => T.of R L q fun p1 S1 H1 d1 v1 R1 x1 L1 r1 q1 => T.of R1 L1 q1 fun p2 S2 H2 d2 v2 R2 x2 L2 r2 q2 => hr.rd s H2 p2 l S2 _ R2 L2 (q2.bind.mono fun ps S3 p3 H3 _ x3 R3 q3 ks vs rk rv => by
    have := Post.ok q3 Ext.refl R3 (v1 :: ks) (v2 :: vs) (.cons ((r1.ext x2 _ _).ext x3 _ _) rk) (.cons (r2.ext x3 _ _) rv)
    exact this)⟩
theorem keysP_V {K : PySem.W.Frag} {p : Nat → Addr} {n : Nat} {H : Hp} {ps : List (D × D)} {kvs : List (Key × D)} {ks vs : List V} (h : keysP ps = some kvs) (rk : Reps K p n H (ps.map (·.1)) ks) (rv : Reps K p n H (ps.map (·.2)) vs) :
    ∃ ls : List (Key × V), ks.zip vs = ls.map (fun kv => (kV kv.1, kv.2)) ∧ ls.map (·.1) = kvs.map (·.1) ∧ Reps K p n H (kvs.map (·.2)) (ls.map (·.2)) := by
  induction ps generalizing kvs ks vs with
  | nil =>
    cases h; cases rk; cases rv
    exact ⟨[], rfl, rfl, .nil⟩
  | cons a ps ih =>
    obtain ⟨x, y⟩ := a
    simp only [List.map_cons] at rk rv
    cases rk with
    | cons r0 rs =>
    cases rv with
    | @cons _ _ v0 us s0 ss =>
    simp only [keysP] at h
    split at h
    · rename_i k l e1 e2
      cases h
      obtain ⟨ls, h1, h2, h3⟩ := ih e2 rs ss
      exact ⟨(k, v0) :: ls, by simp only [List.zip_cons_cons, List.map_cons, h1, key_V r0 e1], by simp only [List.map_cons, h2], .cons s0 h3⟩
    · cases h
theorem merge_V {K : PySem.W.Frag} {p : Nat → Addr} {n : Nat} {H : Hp} : ∀ (more : List (Key × D)) (ms : List (Key × V)) (kvs : List (Key × D)) (ks : List (Key × V)), ms.map (·.1) = more.map (·.1) → Reps K p n H (more.map (·.2)) (ms.map (·.2)) →
    ks.map (·.1) = kvs.map (·.1) → Reps K p n H (kvs.map (·.2)) (ks.map (·.2)) → (mergeK ks ms).map (·.1) = (mergeD kvs more).map (·.1) ∧ Reps K p n H ((mergeD kvs more).map (·.2)) ((mergeK ks ms).map (·.2))
  | [], ms, kvs, ks, e, _, e2, r2 => by
    cases ms with
    | nil => exact ⟨e2, r2⟩
    | cons a b => cases e
  | a :: more, ms, kvs, ks, e, r, e2, r2 => by
    cases ms with
    | nil => cases e
    | cons b ms =>
      simp only [List.map_cons, List.cons.injEq] at e
      cases r with
      | cons r0 rs =>
        have s := setK_V e2 r2 a.1 r0
        have := merge_V more ms (setK kvs a.1 a.2) (putK ks a.1 b.2) e.2 rs s.1 s.2
        show (mergeK (putK ks b.1 b.2) ms).map _ = _ ∧ Reps K p n H _ ((mergeK (putK ks b.1 b.2) ms).map _)
        rw [e.1]
        exact this
theorem e_disp (hd : DP X E pos keys values trs h) (hall : keys.all (·.isSome) = true := by rfl) (hl : keys.length = values.length := by rfl) (h0 : keys ≠ [] := by simp) (h15 : keys.length ≤ 15 := by decide) : EM X E (.Dict keys values pos) (mDisp h) :=
  ⟨(pe_disp hd.pps hall hl h0 h15).weak fun s H Q ⟨p, l, S, R, L, q⟩ => by
    intro a ha
    have x0 := ext_new (S := S) (pi := p) (u := .dK []) ha
    have R0 := R.new (u := .dK []) (o := .dic []) ha ⟨[], upd_same, rfl, .nil⟩
    have e0 : (S ++ [O.dic []]).length = S.length + 1 := by simp
    refine hd.rd s _ (piN p S.length a) l (S ++ [.dic []]) _ R0 (by rw [e0]; exact L.ext x0) ?_
    have q' := Post.ext q (show Ext S.length (S ++ [O.dic []]).length _ _ _ _ by rw [e0]; exact x0)
    refine Post.mono (Q' := fun (ps : List (D × D)) S1 p1 H1 => ∀ ks vs, Reps X.K p1 S1.length H1 (ps.map (·.1)) ks → Reps X.K p1 S1.length H1 (ps.map (·.2)) vs → _) (Post.bind (r := h l (S ++ [.dic []])) q') fun ps S1 p1 H1 _ x1 R1 q1 ks vs rk rv => ?_
    have hn : S.length < S1.length := Nat.lt_of_lt_of_le (by rw [e0]; exact Nat.lt_succ_self _) x1.le
    have hp : p1 S.length = a := (x1.ag _ (by rw [e0]; exact Nat.lt_succ_self _)).trans piN_same
    split at q1
    · rename_i kvs e1 e2
      split at q1
      · rename_i hlen
        obtain ⟨ls, h1, h2, h3⟩ := keysP_V e1 rk rv
        obtain ⟨zs, z1, z2, z3⟩ := R1.ob _ _ e2
        have : zs = [] := by cases zs with | nil => rfl | cons _ _ => cases z2
        subst this
        rw [hp] at z1
        have hll : ls.length = kvs.length := by simpa using congrArg List.length h2
        refine ⟨z1, ls, h1, by rw [hll]; exact hlen, ?_⟩
        have xu : Ext S1.length S1.length p1 p1 H1 (upd H1 (p1 S.length) (.dK (mergeK [] ls))) := ext_upd (R1.notup hn)
        have m := merge_V (K := X.K) (p := p1) (n := S1.length) (H := upd H1 (p1 S.length) (.dK (mergeK [] ls))) kvs ls [] [] h2 (h3.ext xu _ _) rfl .nil
        have := Post.put q1 R1 hn ⟨_, upd_same, m.1, m.2⟩ (.ref hn)
        rw [hp] at this
        exact this
      · exact q1.elim
    · exact q1.elim⟩
def mGet2 (f g h : M) : M := fun l S => (f l S).bind fun x S1 => if hasTy "dict" x S1 = true then (g l S1).bind fun y S2 => (h l S2).bind fun z S3 => match dGet x y S3 with
  | some (some d) => .ok d S3
  | some none => .ok z S3
  | none => .bad else .bad
theorem isD_V {K : PySem.W.Frag} {p : Nat → Addr} {S : Hs} {H : Hp} {x : D} {v : V} (R : Real K p S H) (r : Rep K p S.length H x v) (h : hasTy "dict" x S = true) : ∃ a, v = .ref a ∧ IsD H a := by
  unfold hasTy at h
  cases r with
  | str x => exact absurd (of_decide_eq_true h) (by decide)
  | int x => exact absurd (of_decide_eq_true h) (by decide)
  | ref hi =>
    simp only at h
    split at h
    · exact absurd (of_decide_eq_true h) (by decide)
    · exact absurd (of_decide_eq_true h) (by decide)
    · rename_i q
      obtain ⟨ks, h1, _⟩ := R.ob _ _ q
      exact ⟨_, rfl, .inl ⟨_, .inl h1⟩⟩
    · rename_i q
      obtain ⟨ks, h1, _⟩ := R.ob _ _ q
      exact ⟨_, rfl, .inr ⟨_, .inl h1⟩⟩
    · cases h
  | _ => cases h
theorem e_get2 {o e e2 : Expr} {apos cpos : Pos} {hh : M} (hu : X.A.units + 1 < cLine) (ho : EM X E o f) (he : EM X E e g) (hf : EM X E e2 hh) (m : M2 X o "get" apos e e2 cpos := by exact ⟨rfl, rfl, rfl, rfl⟩) : EM X E (.Call (.Attribute o "get" apos) [e, e2] [] cpos) (mGet2 f g hh) :=
  ⟨(pe_dget2 hu ho.pe he.pe hf.pe m).weak fun s H Q ⟨p, l, S, R, L, h⟩ => T.of R L h fun p1 S1 H1 d v R1 x1 L1 r1 h1 => by
    split at h1
    · rename_i ht
      obtain ⟨a, rfl, ia⟩ := isD_V R1 r1 ht
      refine ⟨a, rfl, ia, T.of R1 L1 h1 fun p2 S2 H2 d2 v2 R2 x2 L2 r2 h2 => T.of R2 L2 h2 fun p3 S3 H3 d3 v3 R3 x3 L3 r3 h3 => ?_⟩
      split at h3
      · rename_i dd e
        obtain ⟨a', w, e1, gg, m⟩ := dGet_V R3 ((r1.ext x2 _ _).ext x3 _ _) (r2.ext x3 _ _) e
        cases e1
        obtain ⟨z, rfl, rz⟩ := m
        exact ⟨_, gg, h3.val R3 rz⟩
      · rename_i e
        obtain ⟨a', w, e1, gg, m⟩ := dGet_V R3 ((r1.ext x2 _ _).ext x3 _ _) (r2.ext x3 _ _) e
        cases e1
        cases (show w = none from m)
        exact ⟨_, gg, h3.val R3 r3⟩
      · exact h3.elim
    · exact h1.elim⟩
def isDic (x : D) (S : Hs) : Bool := match x with
  | .ref i => match S[i]? with
    | some (.dic _) => true
    | some (.dit _) => true
    | _ => false
  | _ => false
def mAugI (op : D → D → Hs → R D) (f g h : M) : MS := fun l S => (f l S).bind fun x S1 => (g l S1).bind fun y S2 => match dGet x y S2 with
  | some (some z) => (h l S2).bind fun w S3 => (op z w S3).bind fun d S4 => if isDic x S4 = true then (oSet x y d S4).bind fun _ S5 => .ok (.nx l) S5 else .bad
  | _ => .bad
theorem s_augI {o i value : Expr} {tpos : Pos} {hh : M} {opr : Operator} {rd : V → V → Hp → VK → Prop} {op : D → D → Hs → R D} (hu : X.A.units + 1 < cLine) (ho : EM X E o f) (hi : EM X E i g) (hv : EM X E value hh) (hop : InOp X opr rd) (hk : OpOk X.K E rd op)
    (ha : ∀ ov iv new, augStore i ov iv new = (do holding [new, ov, iv] (setItem ov iv new); release [new, ov, iv] []; pure .next) := by intro _ _ _; rfl) : SM X E (.AugAssign (.Subscript o i tpos) opr value pos) (mAugI op f g hh) :=
  ⟨(ps_daug hu ho.pe hi.pe hv.pe hop ha).weak fun s H D0 ⟨p, l, S, R, L, h⟩ => T.of R L h fun p1 S1 H1 d v R1 x1 L1 r1 h1 => T.of R1 L1 h1 fun p2 S2 H2 d2 v2 R2 x2 L2 r2 h2 => by
    split at h2
    · rename_i z e
      obtain ⟨a, w, e1, gg, m⟩ := dGet_V R2 (r1.ext x2 _ _) r2 e
      obtain ⟨w0, rfl, rw0⟩ := m
      refine ⟨a, w0, e1, gg, T.of R2 L2 h2 fun p3 S3 H3 d3 v3 R3 x3 L3 r3 h3 => hk p3 S3 H3 _ _ _ _ _ R3 (rw0.ext x3 _ _) r3 (h3.bind.mono fun d4 S4 p4 H4 _ x4 R4 q4 v4 r4 => ?_)⟩
      split at q4
      · rename_i hd
        have rx := ((r1.ext x2 _ _).ext x3 _ _).ext x4 _ _
        have ry := (r2.ext x3 _ _).ext x4 _ _
        have key := ok_set (Q := fun H => D0.nx s H) R4 rx ry r4 q4.bind fun S5 H5 x5 R5 q5 => Post.nx q5 R5 (((L2.ext x3).ext x4).ext x5)
        rcases key with ⟨b, xs, kk, jj, eb, ek, hb, _⟩ | ⟨b, H', eb, put, q⟩
        · exfalso
          subst e1
          cases eb
          unfold isDic at hd
          cases rx with
          | ref hlt =>
            simp only at hd
            split at hd
            · rename_i q
              obtain ⟨ks, k1, _⟩ := R4.ob _ _ q
              rw [hb] at k1; cases k1
            · rename_i q
              obtain ⟨ks, k1, _⟩ := R4.ob _ _ q
              rw [hb] at k1; cases k1
            · cases hd
          | _ => cases hd
        · subst e1
          cases eb
          exact ⟨H', put, q⟩
      · exact q4.elim
    · exact h2.elim⟩
def oAddI : D → D → Hs → R D := fun x y S => match x, y with | .int i, .int j => .ok (.int (i + j)) S | _, _ => .bad
theorem ok_rAdd {K : PySem.W.Frag} {E : St → XK} : OpOk K E rAdd oAddI := by
  intro p S H x y v u Q R rx ry h
  unfold oAddI at h
  split at h
  · cases rx; cases ry; exact ⟨_, _, rfl, rfl, h.val R (.int _)⟩
  · exact h.elim
theorem s_addI {o i value : Expr} {tpos : Pos} {hh : M} (hu : X.A.units + 1 < cLine) (ho : EM X E o f) (hi : EM X E i g) (hv : EM X E value hh) (ha : ∀ ov iv new, augStore i ov iv new = (do holding [new, ov, iv] (setItem ov iv new); release [new, ov, iv] []; pure .next) := by intro _ _ _; rfl) :
    SM X E (.AugAssign (.Subscript o i tpos) .Add value pos) (mAugI oAddI f g hh) := s_augI hu ho hi hv in_add ok_rAdd ha
end
end Ly
set_option Elab.async false
set_option linter.all false
set_option maxRecDepth 100000
namespace Ly
open PySem PySem.Spec L2
open PyProof.Rows hiding St
def GV (K : PySem.W.Frag) (mg : Str → Option Value) (x : Str) (d : D) : Prop := ∃ u v, mg x = some u ∧ RelV v u ∧ ∀ p n H, Rep K p n H d v
structure DefAt (K : PySem.W.Frag) (mg : Str → Option Value) (x : Str) (st : Stmt) (ps : List Str) (f : Addr) (fd : FuncData) : Prop where
  F : Fun K x x st f fd
  g : mg x = some (.ref f)
  b : Binds K fd ps []
section
variable {X : Cx} {E : St → XK}
theorem e_g {x : Str} {d : D} {pos : Pos} (g : GV X.K X.mg x d) (hg : Gl X x := by rfl) (hd : (x == ("__debug__" : Str)) = false := by decide) : EM X E (.Name x pos) (mC d) := by
  obtain ⟨u, v, h1, h2, h3⟩ := g
  exact e_of_c (pe_glob hg h1 h2 hd) h3
variable {k : Nat}
end
theorem or_eqA {X : Cx} {k : Nat} (hr : Room k X.A) : OpR X (compareOp .Eq) (orR rEq (rEqD X.K)) := OpR.or op_eq (op_eqD hr.units)
theorem or_neA {X : Cx} {k : Nat} (hr : Room k X.A) : OpR X (compareOp .NotEq) (orR rNe (rNeD X.K)) := OpR.or op_ne (op_neD hr.units)
theorem or_isA {X : Cx} : OpR X (compareOp .Is) (orR rIsNA rIsB) := OpR.or op_isN op_isBl
theorem gv_int {K : PySem.W.Frag} {mg : Str → Option Value} {x : Str} {u : Value} {i : Int} (h : mg x = some u) (e : absV u = some (.int i)) : GV K mg x (.int i) := by
  refine ⟨u, .int i, h, ?_, fun _ _ _ => .int _⟩
  cases u <;> first | (simp only [absV] at e; cases e; exact ⟨_, rfl⟩) | cases e
theorem reps_ints {K : PySem.W.Frag} {p : Nat → Addr} {n : Nat} {H : Hp} : ∀ xs : List Int, Reps K p n H (xs.map D.int) (xs.map V.int)
  | [] => .nil
  | x :: xs => .cons (.int x) (reps_ints xs)
def LawTrue (m : MD) : Prop := ∀ (ns : List Int) (x : D) (S : Hs), ns.length ≤ 63 → (∀ z ∈ ns, Builtin.Int.intBits z ≤ 1048576) → S.length ≤ 1 → Wf S → x.low S.length → seqD x S = some (ns.map D.int) → (∀ o ∈ S, o = .rol (ns.map D.int)) → ∃ S', m [x] S = .ok (.bl true) S'
theorem law_end {K : PySem.W.Frag} {m : MD} (hm : LawTrue m) {H : Hp} {a : Addr} {ns : List Int} (hl : ns.length ≤ 63) (hb : ∀ z ∈ ns, Builtin.Int.intBits z ≤ 1048576) (hO : Only H) (hS : SqL K H a (ns.map V.int)) : spM K 1 m [.ref a] H (fun v _ => v = .bl true) fun _ _ _ => False := by
  have fin : ∀ {p : Nat → Addr} {S : Hs} {S' : Hs} {H : Hp} {r : R D}, r = .ok (.bl true) S' → Post K (fun _ _ _ _ => False) S.length p H r (QD K fun v _ => v = .bl true) := fun {p S S' H r} e => by
    subst e
    intro p' H' x R v r
    cases r; rfl
  have h0 : (∃ o, H a = some (.frz o (.lst (ns.map V.int)))) ∨ Wl K a (ns.map V.int) := by
    rcases hS with hS | hS
    · rcases hS with hS | ⟨o, hS⟩
      · rcases hO a with q | ⟨o, xs, q⟩
        · rw [q] at hS; cases hS
        · rw [q] at hS; cases hS
      · exact .inl ⟨o, hS⟩
    · exact .inr hS
  rcases h0 with ⟨o, h0⟩ | h0
  · have R0 : Real K (fun _ => a) [.rol (ns.map D.int)] H := by
      refine ⟨fun i o' e => ?_, fun i j hi hj _ => by simp at hi hj; omega⟩
      cases i with
      | zero => simp at e; subst e; exact ⟨o, _, h0, reps_ints ns⟩
      | succ i => simp at e
    obtain ⟨S', e⟩ := hm ns (.ref 0) [.rol (ns.map D.int)] hl hb (by simp) R0.wf (by simp [D.low]) rfl (by simp)
    exact ⟨fun _ => a, [.rol (ns.map D.int)], [.ref 0], R0, .cons (.ref (by simp)) .nil, rfl, fin e⟩
  · have R0 : Real K (fun _ => a) [] H := ⟨fun i o' e => by simp at e, fun i j hi hj _ => by simp at hi⟩
    have r0 : Rep K (fun _ => a) 0 H (.wl (ns.map D.int)) (.ref a) := .wl h0 (reps_ints ns)
    obtain ⟨S', e⟩ := hm ns (.wl (ns.map D.int)) [] hl hb (by simp) R0.wf (r0.low) rfl (by simp)
    exact ⟨fun _ => a, [], [.wl (ns.map D.int)], R0, .cons r0 .nil, rfl, fin e⟩
theorem law_noexc {P : Program} {w : World} {l : List Env} {H : Hp} {s : Shared} {e : Value} {s' : Shared} (h : L2.CX P w l H s (fun _ _ _ => False) e s') : False := by
  obtain ⟨_, _, _, _, _, _, _, _, _, _, _, _, z⟩ := h
  exact z
end Ly
set_option Elab.async false
set_option linter.all false
set_option maxRecDepth 100000
namespace Ly
open PySem PySem.Spec L2
open PyProof.Rows hiding St
section
variable {X : Cx} {E : St → XK} {a b c : Expr} {f g h : M} {pos : Pos} {r r' : R2} {op op' : D → D → Hs → R D} {o o' : CmpOp}
end
section
variable {X : Cx} {E : St → XK} {e v1 v2 : Expr} {es rest : List Expr} {f f1 f2 : M} {fs : List M} {pos : Pos}
inductive JM (X : Cx) (E : St → XK) : List Expr → List M → Prop
  | nil : JM X E [] []
  | cons {e : Expr} {f : M} {es : List Expr} {fs : List M} (h : EM X E e f) (r : JM X E es fs) : JM X E (e :: es) (f :: fs)
end
def KV (K : PySem.W.Frag) (u : Value) (d : D) : Prop := ∃ v, RelV v u ∧ ∀ p n H, Rep K p n H d v
def KD (K : PySem.W.Frag) (w : World) (mg : Str → Option Value) (x : Str) (tbl : List (Str × D)) : Prop :=
  ∃ a es n, mg x = some (.ref a) ∧ KDict K w a es n ∧ ∀ z, match tbl.lookup z with
    | some d => ∃ u, PySem.W.nsIn K a z = some (some u) ∧ KV K u d
    | none => PySem.W.nsIn K a z = some none
inductive KVs (K : PySem.W.Frag) : List Value → List (Str × D) → Prop
  | nil : KVs K [] []
  | cons {u : Value} {x : Str} {d : D} {us : List Value} {r : List (Str × D)} (h : KV K u d) (t : KVs K us r) : KVs K (u :: us) ((x, d) :: r)
theorem kd_find {K : PySem.W.Frag} {P : Params} (z : Str) : ∀ {es : List DictEntry} {tbl : List (Str × D)}, es.map He.keyOf = He.keysIn P (tbl.map (·.1)) → KVs K (es.map (·.val)) tbl →
    (es.any (·.refKey)) = false ∧ match tbl.lookup z with
      | some d => ∃ e, es.find? (·.key.isStr z) = some e ∧ KV K e.val d
      | none => es.find? (·.key.isStr z) = none
  | [], [], _, _ => ⟨rfl, rfl⟩
  | [], _ :: _, h, _ => by cases h
  | _ :: _, [], h, _ => by cases h
  | e :: es, (x, d) :: tbl, h, k => by
    cases k with
    | cons hv ks =>
      have h1 : He.keyOf e :: es.map He.keyOf = some (x, PyData.keyHash P x) :: He.keysIn P (tbl.map (·.1)) := h
      injection h1 with h2 h3
      obtain ⟨q1, q2⟩ := kd_find (P := P) z h3 ks
      unfold He.keyOf at h2
      split at h2
      · rename_i y t hy
        have h4 := Option.some.inj h2
        obtain ⟨rfl, h6⟩ := Prod.mk.inj h4
        refine ⟨by rw [List.any_cons, q1, show e.refKey = false by simp [DictEntry.refKey, hy]]; rfl, ?_⟩
        · by_cases hz : z = y
          · subst hz
            have e1 : (e.key.isStr z) = true := by rw [hy]; simp [Value.isStr]
            simp only [List.lookup, beq_self_eq_true, List.find?_cons, e1]
            exact ⟨e, rfl, hv⟩
          · have e1 : (e.key.isStr z) = false := by rw [hy]; simp [Value.isStr]; exact fun hh => hz hh.symm
            have e2 : (z == y) = false := by simpa using hz
            simp only [List.lookup, e2, List.find?_cons, e1]
            exact q2
      · cases h2
theorem kd_mk {K : PySem.W.Frag} {w : World} {mg : Str → Option Value} {x : Str} {a : Addr} {es : Array DictEntry} {n : Nat} {tbl : List (Str × D)} (g : mg x = some (.ref a)) (l : K.lookup a = some ⟨.type "dict", none, .dict es n, #[]⟩) (low : (a == sysModules) = false)
    (t : es.toList.map He.keyOf = He.keysIn w.params (tbl.map (·.1))) (vs : KVs K (es.toList.map (·.val)) tbl) : KD K w mg x tbl := by
  refine ⟨a, es, n, g, ⟨l, He.keysLit_of t, low⟩, fun z => ?_⟩
  obtain ⟨q1, q2⟩ := kd_find (P := w.params) z t vs
  cases e : tbl.lookup z with
  | some d =>
    rw [e] at q2
    obtain ⟨en, h1, h2⟩ := q2
    refine ⟨en.val, ?_, h2⟩
    unfold PySem.W.nsIn
    rw [l]
    simp only [h1]
  | none =>
    rw [e] at q2
    show PySem.W.nsIn K a z = some none
    unfold PySem.W.nsIn
    rw [l]
    simp only [show es.toList.find? (·.key.isStr z) = none from q2, q1]
    rfl
def flatC : D → Option V
  | .int i => some (.int i)
  | .str x => some (.str x)
  | _ => none
def mIxK (tbl : List (Str × D)) (f : M) : M := fun l S => (f l S).bind fun x S1 => match x with
  | .str z => match tbl.lookup z with
    | some d => .ok d S1
    | none => .bad
  | _ => .bad
def mInK (tbl : List (Str × D)) (f : M) : M := fun l S => (f l S).bind fun x S1 => match x with
  | .str z => .ok (.bl (tbl.lookup z).isSome) S1
  | _ => .bad
def mNotInK (tbl : List (Str × D)) (f : M) : M := fun l S => (f l S).bind fun x S1 => match x with
  | .str z => .ok (.bl (!(tbl.lookup z).isSome)) S1
  | _ => .bad
def mInKB (tbl : List (Str × D)) (f : M) : MB := fun l S => (f l S).bind fun x S1 => match x with
  | .str z => .ok (tbl.lookup z).isSome S1
  | _ => .bad
def mNotInKB (tbl : List (Str × D)) (f : M) : MB := fun l S => (f l S).bind fun x S1 => match x with
  | .str z => .ok (!(tbl.lookup z).isSome) S1
  | _ => .bad
section
variable {X : Cx} {E : St → XK} {a : Expr} {f : M} {pos p2 : Pos} {x : Str} {tbl : List (Str × D)}
theorem e_ixK (g : KD X.K X.w X.mg x tbl) (ha : EM X E a f) (hg : Gl X x := by rfl) (hd : (x == ("__debug__" : Str)) = false := by decide) (hs : PlainIx a := by intro _ _; rfl) : EM X E (.Subscript (.Name x p2) a pos) (mIxK tbl f) := by
  obtain ⟨d, es, n, hm, k, h⟩ := g
  exact ⟨(pe_ix (ix_kdict) (pe_glob hg hm (v := .ref d) rfl hd) ha.pe hs).weak fun s H Q ⟨p, l, S, R, L, h0⟩ => T.of R L h0 fun p1 S1 H1 d1 v R1 x1 L1 r1 h1 => by
    cases r1 with
    | str z =>
      dsimp only at h1
      have hz := h z
      cases e : tbl.lookup z with
      | none => rw [e] at h1; exact h1.elim
      | some dv =>
        rw [e] at h1 hz
        obtain ⟨u, hu, v, ru, rp⟩ := hz
        exact ⟨d, z, v, rfl, rfl, ⟨es, n, u, k.at_, k.lit, hu, ru⟩, h1.val R1 (rp _ _ _)⟩
    | _ => exact h1.elim⟩
def mGetK2 (tbl : List (Str × D)) (f g : M) : M := fun l S => (f l S).bind fun x S1 => match x with
  | .str z => (g l S1).bind fun y S2 => (match tbl.lookup z with
    | some d => .ok d S2
    | none => .ok y S2)
  | _ => .bad
end
end Ly
set_option Elab.async false
set_option linter.all false
set_option maxRecDepth 100000
namespace Ly
open PySem PySem.Spec L2
open PyProof.Rows hiding St
def putD (f : Str) (d : D) : List (Str × D) → List (Str × D)
  | [] => [(f, d)]
  | (g, x) :: r => if g = f then (g, d) :: r else (g, x) :: putD f d r
section
variable {K : PySem.W.Frag} {p : Nat → Addr} {n : Nat} {H : Hp}
theorem fs_some {f : Str} : ∀ {fs : List (Str × D)} {ks : List (Str × V)} {d : D}, ks.map (·.1) = fs.map (·.1) → Reps K p n H (fs.map (·.2)) (ks.map (·.2)) → fs.lookup f = some d → ∃ v, ks.lookup f = some v ∧ Rep K p n H d v
  | [], _, _, _, _, e => by cases e
  | (g, x) :: fs, [], _, h, _, _ => by cases h
  | (g, x) :: fs, (g', y) :: ks, d, h, r, e => by
    simp only [List.map_cons, List.cons.injEq] at h
    cases r with
    | cons r0 rs =>
      have hg : g' = g := h.1
      subst hg
      simp only [List.lookup] at e ⊢
      split at e
      · cases e; exact ⟨y, rfl, r0⟩
      · exact fs_some h.2 rs e
theorem fs_none {f : Str} : ∀ {fs : List (Str × D)} {ks : List (Str × V)}, ks.map (·.1) = fs.map (·.1) → fs.lookup f = none → ks.lookup f = none
  | [], [], _, _ => rfl
  | [], _ :: _, h, _ => by cases h
  | _ :: _, [], h, _ => by cases h
  | (g, x) :: fs, (g', y) :: ks, h, e => by
    simp only [List.map_cons, List.cons.injEq] at h
    have hg : g' = g := h.1
    subst hg
    simp only [List.lookup] at e ⊢
    split at e
    · cases e
    · exact fs_none h.2 e
theorem fs_put {f : Str} {d : D} {v : V} (rv : Rep K p n H d v) : ∀ {fs : List (Str × D)} {ks : List (Str × V)}, ks.map (·.1) = fs.map (·.1) → Reps K p n H (fs.map (·.2)) (ks.map (·.2)) →
    (putF f v ks).map (·.1) = (putD f d fs).map (·.1) ∧ Reps K p n H ((putD f d fs).map (·.2)) ((putF f v ks).map (·.2))
  | [], [], _, _ => ⟨rfl, .cons rv .nil⟩
  | [], _ :: _, h, _ => by cases h
  | _ :: _, [], h, _ => by cases h
  | (g, x) :: fs, (g', y) :: ks, h, r => by
    simp only [List.map_cons, List.cons.injEq] at h
    have hg : g' = g := h.1
    subst hg
    cases r with
    | cons r0 rs =>
      obtain ⟨h1, h2⟩ := fs_put rv h.2 rs
      simp only [putF, putD]
      split
      · exact ⟨by simp [h.2], .cons rv rs⟩
      · exact ⟨by simp [h1], .cons r0 h2⟩
end
def mFld (cs : List Addr) (f : Str) (o : M) : M := fun l S => (o l S).bind fun x S1 => match x with
  | .ref i => match S1[i]? with
    | some (.ins C fs) => if C ∈ cs then (match fs.lookup f with
      | some d => .ok d S1
      | none => .bad) else .bad
    | _ => .bad
  | _ => .bad
def mFldSet (cs : List Addr) (f : Str) (e o : M) : MS := fun l S => (e l S).bind fun d S1 => (o l S1).bind fun x S2 => match x with
  | .ref i => match S2[i]? with
    | some (.ins C fs) => if C ∈ cs ∧ fs.length < 1000 then .ok (.nx l) (S2.set i (.ins C (putD f d fs))) else .bad
    | _ => .bad
  | _ => .bad
def FOk (K : PySem.W.Frag) (cs : List Addr) (f : Str) : Prop := ∀ C ∈ cs, Cls K C ∧ NoAttr K C f
section
variable {X : Cx} {E : St → XK} {e o : Expr} {eo ee : M} {cs : List Addr} {f : Str} {pos pos' : Pos}
theorem e_fld (k : FOk X.K cs f) (ho : EM X E o eo) (hb : attributeBase o f X.env (eval o X.env) = eval o X.env := by rfl) : EM X E (.Attribute o f pos) (mFld cs f eo) :=
  ⟨(pe_fld ho.pe hb).weak fun s H Q ⟨p, l, S, R, L, h⟩ => T.of R L h fun p1 S1 H1 d v R1 x1 L1 r1 h1 => by
    cases r1 with
    | ref hi =>
      dsimp only at h1
      split at h1
      · rename_i C fs q
        split at h1
        · rename_i hC
          split at h1
          · rename_i d e1
            obtain ⟨dx, ks, g1, g2, g3⟩ := R1.ob _ _ q
            obtain ⟨v, g4, g5⟩ := fs_some g2 g3 e1
            exact ⟨_, C, dx, ks, v, rfl, g1, (k C hC).1, (k C hC).2, g4, h1.val R1 g5⟩
          · exact h1.elim
        · exact h1.elim
      · exact h1.elim
    | _ => exact h1.elim⟩
theorem s_fldset (k : FOk X.K cs f) (he : EM X E e ee) (ho : EM X E o eo) (hs : swapsWith e (some (.Attribute o f pos')) pos.line X.env = pure false := by rfl) : SM X E (.Assign [.Attribute o f pos'] e pos) (mFldSet cs f ee eo) :=
  ⟨(ps_fld ho.pe he.pe hs).weak fun s H D0 ⟨p, l, S, R, L, h⟩ => T.of R L h fun p1 S1 H1 d v R1 x1 L1 r1 h1 => T.of R1 L1 h1 fun p2 S2 H2 d2 v2 R2 x2 L2 r2 h2 => by
    cases r2 with
    | ref hi =>
      dsimp only at h2
      split at h2
      · rename_i C fs q
        split at h2
        · rename_i hC
          obtain ⟨dx, ks, g1, g2, g3⟩ := R2.ob _ _ q
          have hlt := Real.lt q
          obtain ⟨k1, k2⟩ := fs_put (f := f) (r1.ext x2 _ _) g2 g3
          have hks : ks.length = fs.length := by have := congrArg List.length g2; simpa using this
          refine ⟨_, C, dx, ks, rfl, g1, (k C hC.1).1, (k C hC.1).2, by rw [hks]; exact hC.2, ?_⟩
          have xu : Ext S2.length S2.length p2 p2 H2 (upd H2 (p2 _) (.ins C dx (putF f v ks))) := ext_upd (R2.notup hlt)
          have R3 := R2.put hlt (o := .ins C (putD f d fs)) (u := .ins C dx (putF f v ks)) ⟨dx, _, upd_same, k1, k2.ext xu _ _⟩
          have L3 := L2.ext xu
          exact Post.ok (Q := QF _ D0) h2 (by rw [List.length_set]; exact xu) R3 s (by rw [List.length_set]; exact L3)
        · exact h2.elim
      · exact h2.elim
    | _ => exact h2.elim⟩
end
def mMake (C : Addr) (md : MD) (g : ML) : M := fun l S => (g l S).bind fun ds S1 => ((md (.ref S1.length :: ds) (S1 ++ [.ins C []])).at l).bind fun d S2 => match d with
  | .non => .ok (.ref S1.length) S2
  | _ => .bad
section
variable {X : Cx} {E0 : XK} {CX : CXT} {e o : Expr} {es : List Expr} {eo : M} {g : ML} {m x : Str} {k np : Nat} {f C : Addr} {fd : FuncData} {ps : List Str} {md : MD} {pos apos p0 : Pos}
theorem make_post {K : PySem.W.Frag} {q : Nat → Addr} {S : Hs} {H : Hp} {s : St} {l : Ls} {ds : List D} {vs : List V} {Q : VK} {C : Addr} (hl : ∀ ds S, ds.length ≠ np → md ds S = .bad) (R : Real K q S H) (L : Sl K q S.length H l s) (r : Reps K q S.length H ds vs)
    (h : Post K (fun _ => E0) S.length q H (((md (.ref S.length :: ds) (S ++ [.ins C []])).at l).bind fun d S2 => match d with
      | .non => .ok (.ref S.length) S2
      | _ => .bad) (QD K Q)) : ∀ a dx, H a = none → H dx = none → dx ≠ a → spM K np md (.ref a :: (vs ++ [])) (upd (upd H dx (.own a)) a (.ins C dx [])) (fun v H2 => v = .non ∧ Q (.ref a) H2) E0 := by
  intro a dx ha hd hne
  have hjunk := R.junk (u := .own a) hd
  have ha2 : upd H dx (.own a) a = none := by rw [upd_ne (Ne.symm hne)]; exact ha
  have R2 : Real K (piN q S.length a) (S ++ [.ins C []]) (upd (upd H dx (.own a)) a (.ins C dx [])) := hjunk.new ha2 ⟨dx, [], upd_same, rfl, .nil⟩
  have x2 : Ext S.length (S.length + 1) q (piN q S.length a) H (upd (upd H dx (.own a)) a (.ins C dx [])) := (ext_junk hd).trans (ext_new ha2)
  have e1 : (S ++ [O.ins C []]).length = S.length + 1 := by simp
  refine ⟨piN q S.length a, S ++ [.ins C []], .ref S.length :: ds, R2, ?_, ?_, ?_⟩
  · rw [List.append_nil, e1]
    refine .cons ?_ (r.ext x2 _ _)
    have h0 : Rep K (piN q S.length a) (S.length + 1) (upd (upd H dx (.own a)) a (.ins C dx [])) (.ref S.length) (.ref (piN q S.length a S.length)) := .ref (Nat.lt_succ_self _)
    rwa [piN_same] at h0
  · apply Classical.byContradiction
    intro hne
    rw [hl _ _ hne] at h
    exact h
  · have L2 := L.ext x2
    rw [e1]
    have h4 := fn_post (E := fun _ => E0) L2 (Post.ext h x2).bind
    refine h4.mono fun d S2 p2 H2 _ x3 R3 q v rv => ?_
    have hle := x3.le
    have hp : p2 S.length = a := (x3.ag _ (Nat.lt_succ_self _)).trans piN_same
    cases rv with
    | non =>
      refine ⟨rfl, Post.ok (Q := QD K Q) q Ext.refl R3 _ ?_⟩
      have h0 : Rep K p2 S2.length H2 (.ref S.length) (.ref (p2 S.length)) := .ref (by omega)
      rwa [hp] at h0
    | _ => exact q.elim
theorem e_make (M : Mk X.K C f) (F : FnOk X.prog X.w X.K X.mg X.base CX k f fd ps (spM X.K np md)) (hl : ∀ ds S, ds.length ≠ np → md ds S = .bad) (hr : Room (k + 1) X.A) (hg : Gl X x) (hm : X.mg x = some (.ref C)) (hb : Binds X.K fd ps []) (hx : Passes CX X E0)
    (ha : LM X (fun _ => E0) (e :: es) g) (hdb : (x == ("__debug__" : Str)) = false := by decide) (he : starEach (e :: es) X.env = (false, eval e X.env) :: starEach es X.env := by rfl) (hpl : (backTo pos (starEach es X.env)).any (·.1) = false := by rfl) :
    EM X (fun _ => E0) (.Call (.Name x p0) (e :: es) [] pos) (mMake C md g) :=
  ⟨(pe_make M F hr hg hm hb .nil hx ha.pa hdb he hpl).weak fun s H Q ⟨q, l, S, R, L, h⟩ => TL.of R L h fun p1 S1 H1 d v R1 x1 L1 r1 h1 => make_post hl R1 L1 r1 h1⟩
end
def mFldAug (cs : List Addr) (f : Str) (op : D → D → Hs → R D) (o e : M) : MS := fun l S => (o l S).bind fun x S1 => match x with
  | .ref i => match S1[i]? with
    | some (.ins C fs) => if C ∈ cs then (match fs.lookup f with
      | some d0 => (e l S1).bind fun d S2 => (op d0 d S2).bind fun z S3 => match S3[i]? with
        | some (.ins C' fs') => if C' = C ∧ fs'.length < 1000 then .ok (.nx l) (S3.set i (.ins C (putD f z fs'))) else .bad
        | _ => .bad
      | none => .bad) else .bad
    | _ => .bad
  | _ => .bad
section
variable {X : Cx} {E : St → XK} {e o : Expr} {eo ee : M} {cs : List Addr} {f : Str} {pos tpos : Pos} {r : R2} {op : D → D → Hs → R D} {ao : Operator}
end
def mMeth (tbl : List (Addr × MD)) (m : Str) (o : M) (g : ML) : M := fun l S => (o l S).bind fun x S1 => match x with
  | .ref i => match S1[i]? with
    | some (.ins C fs) => (match tbl.lookup C with
      | some md => if (fs.lookup m).isNone then (g l S1).bind fun ds S2 => (md (.ref i :: ds) S2).at l else .bad
      | none => .bad)
    | _ => .bad
  | _ => .bad
def MOk (P : Program) (w : World) (K : PySem.W.Frag) (mg : Str → Option Value) (base : Heap) (CX : CXT) (k : Nat) (m : Str) (C : Addr) (md : MD) : Prop := ∃ (np : Nat) (f : Addr) (fd : FuncData) (ps : List Str), Cls K C ∧ Meth K C m f ∧ FnOk P w K mg base CX k f fd ps (spM K np md) ∧ Binds K fd ps [] ∧ ∀ ds S, ds.length ≠ np → md ds S = .bad
section
variable {P : Program} {w : World} {K : PySem.W.Frag} {mg : Str → Option Value} {base : Heap} {CX : CXT} {k : Nat} {m : Str}
inductive MOks (P : Program) (w : World) (K : PySem.W.Frag) (mg : Str → Option Value) (base : Heap) (CX : CXT) (k : Nat) (m : Str) : List (Addr × MD) → Prop
  | one {C : Addr} {md : MD} (h : MOk P w K mg base CX k m C md) : MOks P w K mg base CX k m [(C, md)]
  | cons {C : Addr} {md : MD} {r : List (Addr × MD)} (h : MOk P w K mg base CX k m C md) (t : MOks P w K mg base CX k m r) : MOks P w K mg base CX k m ((C, md) :: r)
theorem MOks.get {tbl : List (Addr × MD)} (h : MOks P w K mg base CX k m tbl) {C : Addr} {md : MD} (e : tbl.lookup C = some md) : MOk P w K mg base CX k m C md := by
  induction h with
  | one h =>
    simp only [List.lookup] at e
    split at e
    · cases e; rename_i q; rw [show C = _ from by simpa using q]; exact h
    · cases e
  | cons h t ih =>
    simp only [List.lookup] at e
    split at e
    · cases e; rename_i q; rw [show C = _ from by simpa using q]; exact h
    · exact ih e
theorem MOks.some {tbl : List (Addr × MD)} (h : MOks P w K mg base CX k m tbl) : ∃ C md, MOk P w K mg base CX k m C md := by
  cases h with
  | one h => exact ⟨_, _, h⟩
  | cons h _ => exact ⟨_, _, h⟩
theorem mok {C f : Addr} {fd : FuncData} {ps : List Str} {np j : Nat} {md : MD} (c : Cls K C) (hm : Meth K C m f) (F : FnOk P w K mg base CX j f fd ps (spM K np md)) (hj : j ≤ k) (hb : Binds K fd ps []) (hl : ∀ ds S, ds.length ≠ np → md ds S = .bad) : MOk P w K mg base CX k m C md :=
  ⟨np, f, fd, ps, c, hm, F.mono hj, hb, hl⟩
structure MetAt (K : PySem.W.Frag) (m qual : Str) (st : Stmt) (ps : List Str) (f : Addr) (fd : FuncData) : Prop where
  F : Fun K m qual st f fd
  b : Binds K fd ps []
end
section
variable {X : Cx} {E0 : XK} {CX : CXT} {e o : Expr} {es : List Expr} {eo : M} {g : ML} {m : Str} {k : Nat} {tbl : List (Addr × MD)} {pos apos : Pos} {pl : Sem Bool}
theorem meth_post {K : PySem.W.Frag} {q : Nat → Addr} {S : Hs} {H : Hp} {s : St} {l : Ls} {Q : VK} (R : Real K q S H) (L : Sl K q S.length H l s) (h : Post K (fun _ => E0) S.length q H (mMeth tbl m eo g l S) (QD K Q)) :
    (∃ C md, tbl.lookup C = some md ∧ T K (fun _ => E0) eo s H fun x H1 => ∃ a dx fs, x = .ref a ∧ H1 a = some (.ins C dx fs) ∧ fs.lookup m = none ∧ TL K (fun _ => E0) g s H1 fun vs H2 => ∃ p S2 ds, Real K p S2 H2 ∧ Reps K p S2.length H2 ds (x :: vs) ∧ Post K (fun _ => E0) S2.length p H2 (md ds S2) (QD K Q)) ∨
      ∀ Q', T K (fun _ => E0) eo s H Q' := by
  cases er : eo l S with
  | exc c fs l2 S2 => exact .inr fun Q' => ⟨q, l, S, R, L, by rw [er]; unfold mMeth at h; rw [er] at h; exact h⟩
  | bad => unfold mMeth at h; rw [er] at h; exact h.elim
  | ok x S1 =>
    have h0 := h
    unfold mMeth at h
    rw [er] at h
    simp only [Ly.R.bind_ok] at h
    split at h
    · rename_i i
      split at h
      · rename_i C fs q1
        split at h
        · rename_i md e1
          split at h
          · rename_i hn
            refine .inl ⟨C, md, e1, q, l, S, R, L, ?_⟩
            rw [er]
            intro p1 H1 x1 R1 v rv
            have h' := Post.ext h x1
            cases rv
            obtain ⟨dx, ks, g1, g2, g3⟩ := R1.ob _ _ q1
            have L1 := L.ext x1
            refine ⟨_, dx, ks, rfl, g1, fs_none g2 (Option.isNone_iff_eq_none.mp hn), TL.of R1 L1 h' fun p2 S2 H2 ds vs R2 x2 L2 r2 h2 => ?_⟩
            have hi := Real.lt q1
            refine ⟨p2, S2, .ref i :: ds, R2, .cons ?_ r2, fn_post (E := fun _ => E0) L2 h2⟩
            have h3 : Rep K p1 S1.length H1 (.ref i) (.ref (p1 i)) := .ref hi
            exact h3.ext x2 _ _
          · exact h.elim
        · exact h.elim
      · exact h.elim
    · exact h.elim
theorem e_meth (hM : MOks X.prog X.w X.K X.mg X.base CX k m tbl) (hr : Room k X.A) (hx : Passes CX X E0) (ho : EM X (fun _ => E0) o eo) (ha : LM X (fun _ => E0) (e :: es) g)
    (hpl : (backTo pos (starEach es X.env)).any (·.1) = false := by rfl) (hst : starEach (e :: es) X.env = (false, eval e X.env) :: starEach es X.env := by rfl)
    (ht : eval (.Call (.Attribute o m apos) (e :: es) [] pos) X.env = (do let ov ← eval o X.env; standAt apos.atName; let (f, first) ← holding [ov] (getMethod ov m pl); callWith pos f first (backTo pos (starEach (e :: es) X.env)) (backToKw pos (keywordEach [] X.env))) := by rfl) :
    EM X (fun _ => E0) (.Call (.Attribute o m apos) (e :: es) [] pos) (mMeth tbl m eo g) := by
  refine ⟨⟨fun pins s σ H Q I ⟨p, l, S, R, L, h⟩ => ?_⟩⟩
  rcases meth_post R L h with ⟨C, md, e1, hT⟩ | hT
  · obtain ⟨np, f, fd, ps, c, hm, F, hb, hl⟩ := hM.get e1
    refine (pe_meth (pl := pl) ho.pe c hm F hr hb .nil hx ha.pa hst hpl ht).run pins s σ H Q I ?_
    obtain ⟨q0, l0, S0, R0, L0, h0⟩ := hT
    refine ⟨q0, l0, S0, R0, L0, h0.mono fun x S1 p1 H1 _ x1 R1 hq v rv => ?_⟩
    obtain ⟨a, dx, fs, rfl, g1, g2, q2, l2, S2, R2, L2, h2⟩ := hq v rv
    refine ⟨a, dx, fs, rfl, g1, g2, q2, l2, S2, R2, L2, h2.mono fun ds S3 p3 H3 _ x3 R3 hq3 vs rvs => ?_⟩
    obtain ⟨p4, S4, ds4, R4, r4, h4⟩ := hq3 vs rvs
    rw [List.append_nil]
    refine ⟨p4, S4, ds4, R4, r4, ?_, h4⟩
    apply Classical.byContradiction
    intro hne
    rw [hl _ _ hne] at h4
    exact h4
  · obtain ⟨C, md, np, f, fd, ps, c, hm, F, hb, hl⟩ := hM.some
    exact (pe_meth (pl := pl) ho.pe c hm F hr hb .nil hx ha.pa hst hpl ht).run pins s σ H Q I (hT _)
theorem e_meth0 (hM : MOks X.prog X.w X.K X.mg X.base CX k m tbl) (hr : Room k X.A) (hx : Passes CX X E0) (ho : EM X (fun _ => E0) o eo)
    (ht : eval (.Call (.Attribute o m apos) [] [] pos) X.env = (do let ov ← eval o X.env; standAt apos.atName; let (f, first) ← holding [ov] (getMethod ov m pl); callWith pos f first (backTo pos (starEach [] X.env)) (backToKw pos (keywordEach [] X.env))) := by rfl) :
    EM X (fun _ => E0) (.Call (.Attribute o m apos) [] [] pos) (mMeth tbl m eo lNil) := by
  refine ⟨⟨fun pins s σ H Q I ⟨p, l, S, R, L, h⟩ => ?_⟩⟩
  rcases meth_post R L h with ⟨C, md, e1, hT⟩ | hT
  · obtain ⟨np, f, fd, ps, c, hm, F, hb, hl⟩ := hM.get e1
    refine (pe_meth0 (pl := pl) ho.pe c hm F hr hb .nil hx ht).run pins s σ H Q I ?_
    obtain ⟨q0, l0, S0, R0, L0, h0⟩ := hT
    refine ⟨q0, l0, S0, R0, L0, h0.mono fun x S1 p1 H1 _ x1 R1 hq v rv => ?_⟩
    obtain ⟨a, dx, fs, rfl, g1, g2, q2, l2, S2, R2, L2, h2⟩ := hq v rv
    refine ⟨a, dx, fs, rfl, g1, g2, ?_⟩
    obtain ⟨p4, S4, ds4, R4, r4, h4⟩ := Post.ok (Q := QL X.K _) h2 Ext.refl R2 [] .nil
    refine ⟨p4, S4, ds4, R4, r4, ?_, h4⟩
    apply Classical.byContradiction
    intro hne
    rw [hl _ _ hne] at h4
    exact h4
  · obtain ⟨C, md, np, f, fd, ps, c, hm, F, hb, hl⟩ := hM.some
    exact (pe_meth0 (pl := pl) ho.pe c hm F hr hb .nil hx ht).run pins s σ H Q I (hT _)
end
end Ly
set_option Elab.async false
set_option linter.all false
set_option maxRecDepth 100000
namespace Ly
open PySem PySem.Spec L2
open PyProof.Rows hiding St
def dcStep (j : J) (gl : CG) (tt : MB) (tk tv : M) (l : Ls) (n : Nat) (a : Nat × Hs) : Sum (Nat × Hs) (R D) := match itGo j a.1 a.2 with
  | none => .inr .bad
  | some none => .inr (.ok (.ref n) a.2)
  | some (some d) => match gl d l with
    | none => .inr .bad
    | some l1 => match tt l1 a.2 with
      | .ok false S2 => .inl (a.1 + 1, S2)
      | .ok true S2 => (match tk l1 S2 with
        | .ok y S3 => (match tv l1 S3 with
          | .ok z S4 => (match S4[n]?, y.key with
            | some (.dic acc), some k => if acc.length < sizeLine then .inl (a.1 + 1, S4.set n (.dic (setK acc k z))) else .inr .bad
            | _, _ => .inr .bad)
          | _ => .inr .bad)
        | _ => .inr .bad)
      | _ => .inr .bad
noncomputable def dcLoop (j : J) (gl : CG) (tt : MB) (tk tv : M) (l : Ls) (n k : Nat) (S : Hs) : R D := runI (dcStep j gl tt tk tv l n) (k, S)
noncomputable def mDc (it : MI) (gl : CG) (tt : MB) (tk tv : M) (vs : List Nat) : M := fun l S => (it l S).bind fun j S1 => dcLoop j gl tt tk tv (wipeL l vs) S1.length 0 (S1 ++ [.dic []])
theorem dcLoop_eq (j : J) (gl : CG) (tt : MB) (tk tv : M) (l : Ls) (n k : Nat) (S : Hs) : dcLoop j gl tt tk tv l n k S = match dcStep j gl tt tk tv l n (k, S) with
    | .inl a => dcLoop j gl tt tk tv l n a.1 a.2
    | .inr r => r := by
  unfold dcLoop
  rw [runI_eq]
  cases dcStep j gl tt tk tv l n (k, S) <;> rfl
section
variable {X : Cx} {E : St → XK} {kx vx tg iter : Expr} {ifs : List Expr} {scope : Scope} {own : List (Str × Nat)} {pos : Pos} {it : MI} {g : TG} {gl : CG} {tm : MB} {tk tv : M} {tt : TT}
theorem dc_reading {K : PySem.W.Frag} {vs : List Nat} (hgk : GOk K vs g gl) {s : St} {H : Hp} {Q : VK} {p : Nat → Addr} {l : Ls} {S : Hs} {j : J} {I : It} (R : Real K p S H) (L : Sl K p S.length H l s) (hI : JRel K p S.length H j I)
    (h : Post K E S.length p H (dcLoop j gl tm tk tv (wipeL l vs) S.length 0 (S ++ [.dic []])) (QD K Q)) : ∀ D0, H D0 = none → ∃ W : Nat → Nat → Hp → Prop, (∃ m, W 0 m (upd H D0 (.dK []))) ∧ ∀ i m H, W i m H →
      (I.stop i H ∧ Q (.ref D0) H) ∨ (I.go i H ∧ ∃ Nx : Hp → Prop, (∀ H', Nx H' → ∃ m', m' < m ∧ W (i + 1) m' H') ∧ ∀ x H', I.yld i H x H' → g x (L2.wipe s vs) H' fun s2 H2 => L2.wipe s2 vs = L2.wipe s vs ∧
        TB K E00 tm s2 H2 fun b H3 => if b = true then T K E00 tk s2 H3 fun y H4 => T K E00 tv s2 H4 fun z H5 => ∃ kvs k, y = kV k ∧ H5 D0 = some (.dK kvs) ∧ kvs.length < sizeLine ∧ Nx (upd H5 D0 (.dK (putK kvs k z))) else Nx H3) := by
  intro D0 hD
  obtain ⟨m0, hm, _⟩ := runI_ex (Post.ne h)
  rw [show dcLoop j gl tm tk tv (wipeL l vs) S.length 0 (S ++ [.dic []]) = _ from hm.symm] at h
  have x0 := ext_new (S := S) (pi := p) (u := .dK []) hD
  have R0 := R.new (u := .dK []) (o := .dic []) hD ⟨[], upd_same, rfl, .nil⟩
  have e0 : (S ++ [O.dic []]).length = S.length + 1 := by simp
  refine ⟨fun k m H => ∃ q S1, S.length < S1.length ∧ q S.length = D0 ∧ Real K q S1 H ∧ Sl K q S1.length H (wipeL l vs) (L2.wipe s vs) ∧ JRel K q S1.length H j I ∧ Post K E S1.length q H (iter (dcStep j gl tm tk tv (wipeL l vs) S.length) m (k, S1)) (QD K Q),
    ⟨m0, piN p S.length D0, S ++ [.dic []], by omega, piN_same, R0, by rw [e0]; exact (L.wipe vs).ext x0, by rw [e0]; exact hI.ext x0, Post.ext h (by rw [e0]; exact x0)⟩, ?_⟩
  rintro k m H1 ⟨q, S1, hn, hq, R1, L1, hI1, h1⟩
  cases m with
  | zero => exact h1.elim
  | succ m =>
    simp only [iter, dcStep] at h1
    cases e1 : itGo j k S1 with
    | none => rw [e1] at h1; exact h1.elim
    | some o =>
      cases o with
      | none =>
        rw [e1] at h1
        refine .inl ⟨it_stop R1 hI1 e1, ?_⟩
        have := Post.ok (Q := QD K Q) h1 Ext.refl R1 (.ref (q S.length)) (.ref hn)
        rwa [hq] at this
      | some d =>
        obtain ⟨g1, g2⟩ := it_go R1 hI1 e1
        rw [e1] at h1
        simp only [] at h1
        refine .inr ⟨g1, fun H => ∃ q S1, S.length < S1.length ∧ q S.length = D0 ∧ Real K q S1 H ∧ Sl K q S1.length H (wipeL l vs) (L2.wipe s vs) ∧ JRel K q S1.length H j I ∧ Post K E S1.length q H (iter (dcStep j gl tm tk tv (wipeL l vs) S.length) m (k + 1, S1)) (QD K Q),
          fun H' w => ⟨m, Nat.lt_succ_self m, w⟩, fun x H' y => ?_⟩
        obtain ⟨x2, R2, r2⟩ := g2 x H' y
        have h2 := Post.ext h1 x2
        cases e2 : gl d (wipeL l vs) with
        | none => rw [e2] at h2; exact h2.elim
        | some l1 =>
          rw [e2] at h2
          simp only [] at h2
          refine hgk q S1.length H' d x _ l1 s _ (L1.ext x2) r2 e2 fun s2 w2 L2' => ⟨w2, ?_⟩
          refine ⟨q, l1, S1, R2, L2', ?_⟩
          cases e3 : tm l1 S1 with
          | bad => rw [e3] at h2; exact h2.elim
          | exc _ _ _ _ => rw [e3] at h2; exact h2.elim
          | ok b S2 =>
            rw [e3] at h2
            intro q3 H3 x3 R3
            have h3 := Post.ext h2 x3
            cases b with
            | false => exact ⟨q3, S2, Nat.lt_of_lt_of_le hn x3.le, (x3.ag _ hn).trans hq, R3, (L1.ext x2).ext x3, (hI1.ext x2).ext x3, h3⟩
            | true =>
              show T K E00 tk s2 H3 _
              refine ⟨q3, l1, S2, R3, L2'.ext x3, ?_⟩
              simp only [] at h3
              cases e4 : tk l1 S2 with
              | bad => rw [e4] at h3; exact h3.elim
              | exc _ _ _ _ => rw [e4] at h3; exact h3.elim
              | ok y S3 =>
                rw [e4] at h3
                simp only [] at h3
                intro q4 H4 x4 R4 v r4
                have h4 := Post.ext h3 x4
                show T K E00 tv s2 H4 _
                refine ⟨q4, l1, S3, R4, (L2'.ext x3).ext x4, ?_⟩
                cases e4' : tv l1 S3 with
                | bad => rw [e4'] at h4; exact h4.elim
                | exc _ _ _ _ => rw [e4'] at h4; exact h4.elim
                | ok z S4 =>
                  rw [e4'] at h4
                  simp only [] at h4
                  intro q5 H5 x5 R5 v5 r5
                  have h5 := Post.ext h4 x5
                  have hn4 : S.length < S3.length := Nat.lt_of_lt_of_le hn (Nat.le_trans x3.le x4.le)
                  have hn5 : S.length < S4.length := Nat.lt_of_lt_of_le hn4 x5.le
                  have hq4 : q4 S.length = D0 := (x4.ag _ (Nat.lt_of_lt_of_le hn x3.le)).trans ((x3.ag _ hn).trans hq)
                  have hq5 : q5 S.length = D0 := (x5.ag _ hn4).trans hq4
                  split at h5
                  · rename_i acc k0 e5 ek
                    split at h5
                    · rename_i hl
                      obtain ⟨us, hu1, hu2, hu3⟩ := R5.ob _ _ e5
                      have xu : ∀ u, Ext S4.length S4.length q5 q5 H5 (upd H5 (q5 S.length) u) := fun u => ext_upd (R5.notup hn5)
                      have hlen : us.length = acc.length := by
                        have := congrArg List.length hu2
                        simpa using this
                      rw [hq5] at hu1
                      obtain ⟨g1, g2⟩ := setK_V hu2 hu3 k0 r5
                      refine ⟨us, k0, key_V r4 ek, hu1, by rw [hlen]; exact hl, q5, S4.set S.length (.dic (setK acc k0 z)), by rw [List.length_set]; exact hn5, hq5, ?_, ?_, ?_, ?_⟩
                      · rw [← hq5]
                        exact R5.put hn5 ⟨_, upd_same, g1, g2.ext (xu _) _ _⟩
                      · rw [← hq5, List.length_set]; exact ((((L1.ext x2).ext x3).ext x4).ext x5).ext (xu _)
                      · rw [← hq5, List.length_set]; exact ((((hI1.ext x2).ext x3).ext x4).ext x5).ext (xu _)
                      · rw [← hq5, List.length_set]; exact Post.ext h5 (xu _)
                    · exact h5.elim
                  · exact h5.elim
theorem ps_setDc {i : Nat} {y : Str} {py : Pos} {spos : Pos} {wi : TI} {tk' tv' : TE} (hc : X.calm = true) (hN : X.N.Nodup) (hy : X.N[i]? = some y) (hyl : X.env.scope.names.lookup y = some .local)
    (hsw : swapsWith (.DictComp kx vx [⟨tg, iter, ifs, 0⟩] scope pos) (some (.Name y py)) spos.line X.env = pure true) (hi : PI X tg iter wi) (ok : BlkOk X.N X.env.scope scope own)
    (hg : ∀ (s : Shared) (H : Hp) (C : Addr) (cl : List (Str × Addr)) (fp : List Addr), PG (X.blk s H scope (compEnvC scope cl C X.env) fp) tg g) (ht : ∀ (s : Shared) (H : Hp) (C : Addr) (cl : List (Str × Addr)) (fp : List Addr), PTs (X.blk s H scope (compEnvC scope cl C X.env) fp) ifs tt)
    (hk : ∀ (s : Shared) (H : Hp) (C : Addr) (cl : List (Str × Addr)) (fp : List Addr), PE (X.blk s H scope (compEnvC scope cl C X.env) fp) kx tk')
    (he : ∀ (s : Shared) (H : Hp) (C : Addr) (cl : List (Str × Addr)) (fp : List Addr), PE (X.blk s H scope (compEnvC scope cl C X.env) fp) vx tv') (hs : ∀ x, foldedSetIterable iter X.env x = pure x := by intro _; rfl) :
    PS X (.Assign [.Name y py] (.DictComp kx vx [⟨tg, iter, ifs, 0⟩] scope pos) spos) (tAsg (tDc wi g tt tk' tv' (own.map (·.2))) (gName i)) := by
  refine ⟨fun pins s σ H D I h => ?_⟩
  rw [exec_Assign_Name_used _ _ _ _ hsw]
  refine wpAny_bind (wpAny_standAt (wpAny_bind ?_))
  show wpAny _ X.A (do let _ ← comprehension (.DictComp kx vx [⟨tg, iter, ifs, 0⟩] scope pos) scope X.env (firstIterPos [⟨tg, iter, ifs, 0⟩] pos) newDict false (eval iter X.env) (some (assign (.Name y py) X.env))) _ _ s
  have h : tDc wi g tt tk' tv' (own.map (·.2)) σ H (fun x H1 => gName i x σ H1 D.nx) := h
  refine wpAny_bind (thn (dc_core (Qf := fun _ s' => SP X pins D .next s') hc hN I hi ok hg ht hk he hs h fun L C s' m H' I' q hn f => ?_) fun _ s' hq => wpAny_pure (wpAny_pure hq))
  show wpAny _ _ (assign (.Name y py) X.env (.ref L)) _ _ _
  refine wpAny_assign_Name (store_ok2 (v := V.ref L) I' hN hy (.inl hyl) rfl (fun s2 I2 ⟨a, sb, ha⟩ => ?_) (.inr hyl))
  obtain ⟨f0, f1, f2, f3, f4, f5⟩ := f
  have haC : C ≠ a := by
    rcases ha with z | z
    · rw [z]; exact f1
    · exact fun e => f4 y a z e.symm
  refine ⟨m, hn.sameBut sb haC, fun h3 sb3 => ?_⟩
  exact ⟨_, H', I2.turned (t' := s2.toks) (fun b o hb e => (sb3.2 b hb).trans e) f0 f1 f3 f4 f5, q⟩
theorem swD_true {kx vx : Expr} {gs : List Comprehension} {scope : Scope} {pos py : Pos} {y : Str} {l : Nat} {env : Env} (hk : env.scope.kind = .function) (hy : env.scope.names.lookup y = some .local) (hl : (py.line == pos.line) = true)
    (ha : (scope.names.any fun (n, k) => n == y && (k == .local || k == .cell)) = false) : swapsWith (.DictComp kx vx gs scope pos) (some (.Name y py)) l env = pure true := by
  have ky : env.kindOf y = some .local := hy
  have hb : env.blockKind = .function := by unfold Env.blockKind; rw [hk]; rfl
  unfold swapsWith
  simp only [hb, ky, ha, Expr.pos, hl]
  rfl
theorem s_setDc {i : Nat} {y : Str} {py spos : Pos} (hc : X.calm = true) (hN : X.N.Nodup) (hsw : swapsWith (.DictComp kx vx [⟨tg, iter, ifs, 0⟩] scope pos) (some (.Name y py)) spos.line X.env = pure true) (hi : IM X E tg iter it) (ok : BlkOk X.N X.env.scope scope own) (hgk : GOk X.K (own.map (·.2)) g gl)
    (hg : ∀ (s : Shared) (H : Hp) (C : Addr) (cl : List (Str × Addr)) (fp : List Addr), PG (X.blk s H scope (compEnvC scope cl C X.env) fp) tg g)
    (ht : ∀ (s : Shared) (H : Hp) (C : Addr) (cl : List (Str × Addr)) (fp : List Addr), CT (X.blk s H scope (compEnvC scope cl C X.env) fp) ifs tm)
    (hk : ∀ (s : Shared) (H : Hp) (C : Addr) (cl : List (Str × Addr)) (fp : List Addr), EM (X.blk s H scope (compEnvC scope cl C X.env) fp) E00 kx tk)
    (he : ∀ (s : Shared) (H : Hp) (C : Addr) (cl : List (Str × Addr)) (fp : List Addr), EM (X.blk s H scope (compEnvC scope cl C X.env) fp) E00 vx tv) (hy : X.N[i]? = some y := by rfl) (hl : X.env.scope.names.lookup y = some .local := by rfl) (hs : ∀ x, foldedSetIterable iter X.env x = pure x := by intro _; rfl) :
    SM X E (.Assign [.Name y py] (.DictComp kx vx [⟨tg, iter, ifs, 0⟩] scope pos) spos) (mSet i (mDc it gl tm tk tv (own.map (·.2)))) :=
  ⟨(ps_setDc hc hN hy hl hsw hi.pi ok hg (fun s H C cl fp => (ht s H C cl fp).pts) (fun s H C cl fp => (hk s H C cl fp).pe) (fun s H C cl fp => (he s H C cl fp).pe) hs).weak fun s H D0 ⟨p, l, S, R, L, h⟩ => by
    have h' : Post X.K E S.length p H ((mDc it gl tm tk tv (own.map (·.2)) l S).bind fun d S1 => .ok (.nx (l.set i (some d))) S1) (QF X.K D0) := h
    have h2 : Post X.K E S.length p H (mDc it gl tm tk tv (own.map (·.2)) l S) (QD X.K fun v H' => D0.nx (s.set i (some v)) H') := h'.bind.mono fun d S1 p1 H1 _ x1 R1 q v r => Post.nx q R1 ((L.ext x1).set i r)
    exact ⟨p, l, S, R, L, (Post.bind (r := it l S) h2).mono fun j S1 p1 H1 _ x1 R1 q I hI => dc_reading hgk R1 (L.ext x1) hI q⟩⟩
end
def oSetd (x y z : D) (S : Hs) : R D := match x with
  | .ref i => match S[i]?, y.key with
    | some (.dic kvs), some k => if kvs.length < sizeLine then (match getK kvs k with
      | some d => .ok d S
      | none => .ok z (S.set i (.dic (setK kvs k z)))) else .bad
    | _, _ => .bad
  | _ => .bad
def mSetd (f g h : M) : M := fun l S => (f l S).bind fun x S1 => if hasTy "dict" x S1 = true then (g l S1).bind fun y S2 => (h l S2).bind fun z S3 => oSetd x y z S3 else .bad
def mGet1 (f g : M) : M := fun l S => (f l S).bind fun x S1 => if hasTy "dict" x S1 = true then (g l S1).bind fun y S2 => match dGet x y S2 with
  | some (some d) => .ok d S2
  | some none => .ok .non S2
  | none => .bad else .bad
def dropD (kvs : List (Key × D)) (k : Key) : List (Key × D) := kvs.filter fun kv => decide (kv.1 ≠ k)
def oPop2 (x y z : D) (S : Hs) : R D := match x with
  | .ref i => match S[i]?, y.key with
    | some (.dic kvs), some k => (match getK kvs k with
      | some d => .ok d (S.set i (.dic (dropD kvs k)))
      | none => .ok z S)
    | _, _ => .bad
  | _ => .bad
def mPop2 (f g h : M) : M := fun l S => (f l S).bind fun x S1 => if hasTy "dict" x S1 = true then (g l S1).bind fun y S2 => (h l S2).bind fun z S3 => oPop2 x y z S3 else .bad
def oDel (x y : D) (S : Hs) : R Unit := match x with
  | .ref i => match S[i]?, y.key with
    | some (.dic kvs), some k => (match getK kvs k with
      | some _ => .ok () (S.set i (.dic (dropD kvs k)))
      | none => .bad)
    | _, _ => .bad
  | _ => .bad
def mDel (f g : M) : MS := fun l S => (f l S).bind fun x S1 => (g l S1).bind fun y S2 => (oDel x y S2).bind fun _ S3 => .ok (.nx l) S3
section
variable {K : PySem.W.Frag} {p : Nat → Addr} {n : Nat} {H : Hp}
end
section
variable {X : Cx} {E : St → XK} {f g hh : M} {o e e2 : Expr} {apos cpos : Pos}
end
def rg1 (op : Int → Int → Hs → R D) : List D → Hs → R D := fun ds S => match ds with
  | [.int b] => op 0 b S
  | [.int a, .int b] => op a b S
  | _ => .bad
def mRg1 (op : Int → Int → Hs → R D) (f : M) : M := fun l S => (f l S).bind fun x S1 => rg1 op [x] S1
def mRg2 (op : Int → Int → Hs → R D) (f g : M) : M := fun l S => (f l S).bind fun x S1 => (g l S1).bind fun y S2 => rg1 op [x, y] S2
section
variable {X : Cx} {E : St → XK} {f g : M} {a b : Expr} {p p2 pos pos2 : Pos}
end
section
variable {X : Cx} {E : St → XK} {e : Expr} {f : ML} {p pos : Pos}
end
end Ly
set_option Elab.async false
set_option linter.all false
set_option maxRecDepth 100000
namespace Ly
open PySem PySem.Spec L2
open PyProof.Rows hiding St
def mCalA (tbl : List (Addr × MD)) (i : Nat) (g : ML) : M := fun l S => match l[i]? with
  | some (some (.cst f)) => (match tbl.lookup f with
    | some md => (g l S).bind fun ds S1 => (md ds S1).at l
    | none => .bad)
  | _ => .bad
def HOk (P : Program) (w : World) (K : PySem.W.Frag) (mg : Str → Option Value) (base : Heap) (CX : CXT) (k : Nat) (f : Addr) (md : MD) : Prop := ∃ (np : Nat) (fd : FuncData) (ps : List Str), FnOk P w K mg base CX k f fd ps (spM K np md) ∧ PySem.W.keepIn K (.ref f) = true ∧ Binds K fd ps [] ∧ ∀ ds S, ds.length ≠ np → md ds S = .bad
section
variable {P : Program} {w : World} {K : PySem.W.Frag} {mg : Str → Option Value} {base : Heap} {CX : CXT} {k : Nat}
inductive HOks (P : Program) (w : World) (K : PySem.W.Frag) (mg : Str → Option Value) (base : Heap) (CX : CXT) (k : Nat) : List (Addr × MD) → Prop
  | nil : HOks P w K mg base CX k []
  | cons {f : Addr} {md : MD} {r : List (Addr × MD)} (h : HOk P w K mg base CX k f md) (t : HOks P w K mg base CX k r) : HOks P w K mg base CX k ((f, md) :: r)
theorem HOks.get {tbl : List (Addr × MD)} (h : HOks P w K mg base CX k tbl) {f : Addr} {md : MD} (e : tbl.lookup f = some md) : HOk P w K mg base CX k f md := by
  induction h with
  | nil => cases e
  | cons h t ih =>
    simp only [List.lookup] at e
    split at e
    · cases e; rename_i q; rw [show f = _ from by simpa using q]; exact h
    · exact ih e
theorem hok {f c : Addr} {fd : FuncData} {ps : List Str} {np j : Nat} {md : MD} (e : c = f) (F : FnOk P w K mg base CX j f fd ps (spM K np md)) (hj : j ≤ k) (hk : PySem.W.keepIn K (.ref f) = true) (hb : Binds K fd ps []) (hl : ∀ ds S, ds.length ≠ np → md ds S = .bad) : HOk P w K mg base CX k c md := by
  subst e
  exact ⟨np, fd, ps, F.mono hj, hk, hb, hl⟩
end
section
variable {X : Cx} {E0 : XK} {CX : CXT} {e : Expr} {es : List Expr} {g : ML} {x : Str} {i k : Nat} {tbl : List (Addr × MD)} {p pos : Pos}
theorem e_calA (hM : HOks X.prog X.w X.K X.mg X.base CX k tbl) (hr : Room k X.A) (hx : Passes CX X E0) (ha : LM X (fun _ => E0) (e :: es) g) (hN : X.N[i]? = some x := by rfl) (hv : Vis X.env.scope x := by exact .inl rfl)
    (hdb : (x == ("__debug__" : Str)) = false := by decide) (hcd : (x == ("__classdict__" : Str)) = false := by decide)
    (he : starEach (e :: es) X.env = (false, eval e X.env) :: starEach es X.env := by rfl) (hpl : (backTo pos (starEach es X.env)).any (·.1) = false := by rfl) :
    EM X (fun _ => E0) (.Call (.Name x p) (e :: es) [] pos) (mCalA tbl i g) := by
  refine ⟨⟨fun pins s σ H Q I ⟨q, l, S, R, L, h⟩ => ?_⟩⟩
  unfold mCalA at h
  split at h
  · rename_i f ef
    split at h
    · rename_i md em
      obtain ⟨np, fd, ps, F, hk, hb, hl⟩ := hM.get em
      refine (pe_callL F hr hN hv hk hb .nil hx ha.pa hdb hcd he hpl).run pins s σ H Q I ⟨?_, ?_⟩
      · obtain ⟨v, e1, r1⟩ := L.get ef
        cases r1
        exact e1
      · exact TL.of R L h fun p1 S1 H1 d v R1 x1 L1 r1 h1 => by
          refine ⟨p1, S1, d, R1, by rw [List.append_nil]; exact r1, ?_, fn_post (E := fun _ => E0) L1 h1⟩
          apply Classical.byContradiction
          intro hne
          rw [hl d S1 hne] at h1
          exact h1
    · exact h.elim
  · exact h.elim
end
theorem kv_cst {K : PySem.W.Frag} {f c : Addr} (e : c = f) : KV K (.ref f) (.cst c) := by subst e; exact ⟨.ref c, rfl, fun _ _ _ => .cst _⟩
def Dst (a b : Nat) (cA : Nat → Addr) : Prop := ∀ i j, a ≤ i → i < b → a ≤ j → j < b → cA i = cA j → i = j
def spY (K : PySem.W.Frag) (a b : Nat) (np : Nat) (m : (Nat → Addr) → MD) : Sp := fun vs H Q E => ∀ cA, Dst a b cA → spM K np (m cA) vs H Q E
theorem law_endY {K : PySem.W.Frag} {a b : Nat} {m : (Nat → Addr) → MD} (hm : ∀ cA, Dst a b cA → LawTrue (m cA)) {H : Hp} {x : Addr} {ns : List Int} (hl : ns.length ≤ 63) (hb : ∀ z ∈ ns, Builtin.Int.intBits z ≤ 1048576) (hO : Only H) (hS : SqL K H x (ns.map V.int)) : spY K a b 1 m [.ref x] H (fun v _ => v = .bl true) fun _ _ _ => False :=
  fun cA h => law_end (hm cA h) hl hb hO hS
theorem dst_of {a b : Nat} {xs : List Addr} (h : ((xs.drop a).take (b - a)).Nodup) (hb : b ≤ xs.length) : Dst a b (fun i => xs.getD i 0) := by
  intro i j hi hi2 hj hj2 e
  have g : ∀ k, a ≤ k → k < b → ((xs.drop a).take (b - a))[k - a]? = some (xs.getD k 0) := by
    intro k h1 h2
    rw [List.getElem?_take_of_lt (by omega), List.getElem?_drop, show a + (k - a) = k by omega]
    have : k < xs.length := by omega
    simp [List.getD, List.getElem?_eq_getElem this]
  have e : xs.getD i 0 = xs.getD j 0 := e
  have e1 := g i hi hi2
  have e2 := g j hj hj2
  rw [e] at e1
  have := (List.getElem?_inj (by have := (List.getElem?_eq_some_iff.mp e1).1; omega) h).mp (e1.trans e2.symm)
  omega
end Ly
set_option Elab.async false
set_option linter.all false
set_option maxRecDepth 100000
namespace Ly
open PySem PySem.Spec L2
open PyProof.Rows hiding St
section
variable {X : Cx} {E : St → XK} {e : Expr} {f : M}
end
end Ly
set_option Elab.async false
set_option linter.all false
set_option maxRecDepth 100000
namespace Ly
open PySem PySem.Spec L2
open PyProof.Rows hiding St
structure FnR (P : Program) (w : World) (K : PySem.W.Frag) (mg : Str → Option Value) (base : Heap) (CX : CXT) (Rm : Around → Prop) (f : Addr) (fd : FuncData) (ps : List Str) (sp : Sp) : Prop where
  len : ∀ vs H Q E, sp vs H Q E → vs.length = ps.length
  run : ∀ (A : Around) (outer : List Env) (s : Shared) (H : Hp) (args : Args) (us : List Value) (vs : List V) (Q : VK) (E : XK), Rm A → Env0 P w K mg base A outer s H → BindsTo s fd args (ps.zip us) → Vals vs us → sp vs H Q E →
    codeAny (model P w) A (.call (.ref f) args) (CR CX outer P w H s Q E) s
structure Rn (j n : Nat) (A : Around) : Prop where
  hd : A.handled = none
  dp : A.depth + 3 * j + n + 5 < recursionLimit
  un : A.units + 16 * j + 5 * n + 200 < cLine
theorem Rn.of {j n k : Nat} {A : Around} (r : Room k A) (h : 3 * j + n ≤ 3 * k) : Rn j n A := ⟨r.hd, by have := r.dp; omega, by have := r.un; omega⟩
theorem Rn.deeper {j n : Nat} {A : Around} (r : Rn j (n + 1) A) (env : Env) : Rn j n (A.deeper env) :=
  ⟨r.hd, by have := r.dp; show A.depth + 1 + 3 * j + n + 5 < _; omega, by have := r.un; show A.units + 3 + 16 * j + 5 * n + 200 < _; omega⟩
section
variable {P : Program} {w : World} {K : PySem.W.Frag} {mg : Str → Option Value} {base : Heap} {CX : CXT} {f : Addr} {fd : FuncData} {ps : List Str} {sp : Sp}
theorem FnR.ok {j n k : Nat} (F : FnR P w K mg base CX (Rn j n) f fd ps sp) (h : 3 * j + n ≤ 3 * k) : FnOk P w K mg base CX k f fd ps sp :=
  ⟨F.len, fun A outer s H args us vs Q E hr => F.run A outer s H args us vs Q E (.of hr h)⟩
end
section
variable {X : Cx} {CX : CXT} {Rm : Around → Prop} {f C : Addr} {fd : FuncData} {ps : List Str} {sp : Sp} {E0 : XK} {E : St → XK} {x m : Str} {p pos apos : Pos} {e o : Expr} {es : List Expr} {t : TA} {ta : TE}
variable {eo : M} {g : ML} {C1 : Addr} {md1 : MD} {pl : Sem Bool}
end
section
variable {P : Program} {w : World} {K : PySem.W.Frag} {mg : Str → Option Value} {base : Heap} {Rm : Around → Prop}
end
section
variable {P : Program} {w : World} {K : PySem.W.Frag} {mg : Str → Option Value} {base : Heap} {Rm : Around → Prop} {CX : CXT} {m : Str}
end
end Ly
set_option Elab.async false
set_option linter.all false
set_option maxRecDepth 100000
namespace Ly
open PySem PySem.Spec L2
open PyProof.Rows hiding St
theorem mulok_r {i j : Int} (h : j.natAbs < 2 ^ 64) : IntMulOk i j := .of_right (intBits_le_64 (by omega) (by omega))
theorem mulok_l {i j : Int} (h : i.natAbs < 2 ^ 64) : IntMulOk i j := .of_left (intBits_le_64 (by omega) (by omega))
theorem kRA : ¬ (("row" : Str) = "at") := by decide +kernel
theorem kRS : ¬ (("row" : Str) = "seed") := by decide +kernel
theorem kAS : ¬ (("at" : Str) = "seed") := by decide +kernel
theorem kSA : ¬ (("seed" : Str) = "at") := by decide +kernel
theorem get_put {S : Hs} {i : Nat} {o u : O} (h : S[i]? = some o) : (S.set i u)[i]? = some u := List.getElem?_set_self (Real.lt h)
def drawsK (r a s : D) : List (Key × D) := [(.inr "row", r), (.inr "at", a), (.inr "seed", s)]
@[simp] theorem drawsK_row (r a s : D) : getK (drawsK r a s) (.inr "row") = some r := by simp [getK, drawsK]
@[simp] theorem drawsK_at (r a s : D) : getK (drawsK r a s) (.inr "at") = some a := by simp [getK, drawsK, kRA]
@[simp] theorem drawsK_seed (r a s : D) : getK (drawsK r a s) (.inr "seed") = some s := by simp [getK, drawsK, kRS, kAS]
@[simp] theorem drawsK_len (r a s : D) : (drawsK r a s).length = 3 := rfl
@[simp] theorem drawsK_set (r a s b : D) : setK (drawsK r a s) (.inr "at") b = drawsK r b s := by simp [setK, drawsK, kRA, kSA]
def drawsO (j : Nat) (a sd : Int) : O := .dic (drawsK (.ref j) (.int a) (.int sd))
structure Drw (S : Hs) (i j : Nat) (row : List Int) (a sd : Int) : Prop where
  d : S[i]? = some (drawsO j a sd)
  r : S[j]? = some (.lst (row.map D.int))
  ne : i ≠ j
  nn : 0 ≤ a
theorem atI_nat {α : Type} {xs : List α} {i : Int} (h0 : 0 ≤ i) (h1 : i < (xs.length : Int)) : L2.atI xs i = xs[i.toNat]? := by
  unfold L2.atI L2.ixN
  rw [if_pos h0, if_pos h1]; rfl
theorem get_end {S : Hs} {o : O} : (S ++ [o])[S.length]? = some o := by simp
theorem lenD_seq {x : D} {S : Hs} {ds : List D} (h : seqD x S = some ds) : lenD x S = some ds.length := by
  unfold seqD at h
  split at h
  · unfold lenD
    split at h <;> first | (rename_i q; cases h; simp [q]) | cases h
  · cases h; rfl
  · cases h
theorem seqD_more {x : D} {S g : Hs} {ds : List D} (h : seqD x S = some ds) : seqD x (S ++ g) = some ds := by
  unfold seqD at h ⊢
  split at h
  · rename_i i
    split at h
    · rename_i q; rw [List.getElem?_append_left (Real.lt q), q]; exact h
    · rename_i q; rw [List.getElem?_append_left (Real.lt q), q]; exact h
    · cases h
  · exact h
  · cases h
theorem oIx_seq {x : D} {S : Hs} {ds : List D} {i : Int} {d : D} (h : seqD x S = some ds) (h0 : 0 ≤ i) (h1 : i < (ds.length : Int)) (hd : ds[i.toNat]? = some d) : oIx x (.int i) S = .ok d S := by
  have ha : L2.atI ds i = some d := by rw [atI_nat h0 h1]; exact hd
  unfold seqD at h
  split at h
  · split at h <;> first | (rename_i q; cases h; simp [oIx, q, ha]) | cases h
  · cases h; simp [oIx, ha]
  · cases h
theorem line_big {n : Nat} (h : n ≤ 1000000) : n < sizeLine := Nat.lt_of_le_of_lt h (by decide)
theorem pow18 (S : Hs) : oPow (.int 10) (.int 18) S = .ok (.int 1000000000000000000) S := by
  have e : (10 : Int) ^ (18 : Int).toNat = 1000000000000000000 := by decide +kernel
  have h : 0 ≤ (18 : Int) ∧ (18 : Int) ≤ 1000000 ∧ (10 : Int).natAbs < 2 ^ 64 := by decide +kernel
  simp only [oPow]
  rw [if_pos h, e]
theorem rng1 {n : Int} (S : Hs) (h0 : -1000000000 ≤ n) (h1 : n ≤ 1000000000) : oRng1 [.int n] S = .ok (.rng 0 n.toNat) S := by
  have h : -(2 ^ 62) ≤ n ∧ n < 2 ^ 62 := ⟨Int.le_trans (by decide +kernel) h0, Int.lt_of_le_of_lt h1 (by decide +kernel)⟩
  simp only [oRng1]
  rw [if_pos h]
end Ly
set_option Elab.async false
set_option linter.all false
set_option maxRecDepth 100000
namespace Ly
open PySem PySem.Spec L2
open PyProof.Rows hiding St
def tx (cs : List Nat) : Str := ⟨⟨cs⟩⟩
@[simp] theorem tx_len (cs : List Nat) : (tx cs).length = cs.length := rfl
@[simp] theorem tx_list (cs : List Nat) : (tx cs).cps.toList = cs := rfl
theorem tx_inj {a b : List Nat} (h : tx a = tx b) : a = b := congrArg (fun z => z.cps.toList) h
@[simp] theorem tx_eq {a b : List Nat} : (tx a = tx b) = (a = b) := propext ⟨tx_inj, fun h => by rw [h]⟩
mutual
def D.plain : D → Bool
  | .non => true
  | .bl _ => true
  | .int _ => true
  | .str x => PyData.strOk x
  | .tup ds => D.plains ds
  | .wt ds => D.plains ds
  | _ => false
def D.plains : List D → Bool
  | [] => true
  | d :: ds => D.plain d && D.plains ds
end
mutual
def D.toP : D → PyData
  | .non => .none
  | .bl b => .bool b
  | .int i => .int i
  | .str x => .str x
  | .tup ds => .tuple (D.toPs ds)
  | .wt ds => .tuple (D.toPs ds)
  | _ => .none
def D.toPs : List D → List PyData
  | [] => []
  | d :: ds => D.toP d :: D.toPs ds
end
mutual
theorem D.pd_plain (S : Hs) : ∀ (d : D) (k : Nat), d.plain = true → 2 * d.toP.depth < k → D.pd S k d = some d.toP
  | d, 0, _, h => absurd h (Nat.not_lt_zero _)
  | .non, k + 1, _, _ => by rw [D.pd, D.toP]
  | .bl _, k + 1, _, _ => by rw [D.pd, D.toP]
  | .int _, k + 1, _, _ => by rw [D.pd, D.toP]
  | .str _, k + 1, _, _ => by rw [D.pd, D.toP]
  | .tup ds, k + 1, h, hk => by
    rw [D.pd, D.toP, D.pds_plain S ds k (by simpa [D.plain] using h) (by simp [D.toP, PyData.depth] at hk; omega)]; rfl
  | .wt ds, k + 1, h, hk => by
    rw [D.pd, D.toP, D.pds_plain S ds k (by simpa [D.plain] using h) (by simp [D.toP, PyData.depth] at hk; omega)]; rfl
  | .wl _, _ + 1, h, _ => by simp [D.plain] at h
  | .ref _, _ + 1, h, _ => by simp [D.plain] at h
  | .cst _, _ + 1, h, _ => by simp [D.plain] at h
theorem D.pds_plain (S : Hs) : ∀ (ds : List D) (k : Nat), D.plains ds = true → 2 * PyData.depthAll (D.toPs ds) + 1 < k → D.pds S k ds = some (D.toPs ds)
  | [], k, _, _ => by cases k <;> simp [D.pds, D.toPs]
  | d :: ds, 0, _, h => absurd h (Nat.not_lt_zero _)
  | d :: ds, k + 1, h, hk => by
    simp only [D.plains, Bool.and_eq_true] at h
    simp only [D.toPs, PyData.depthAll] at hk
    rw [D.pds, D.pd_plain S d k h.1 (by omega), D.pds_plain S ds (k + 1) h.2 (by omega), D.toPs]
end
mutual
theorem D.lay_plain : ∀ (d : D), d.plain = true → d.toP.canLay0 = true
  | .non, _ => by simp [D.toP, PyData.canLay0]
  | .bl _, _ => by simp [D.toP, PyData.canLay0]
  | .int _, _ => by simp [D.toP, PyData.canLay0]
  | .str x, h => by simpa [D.toP, PyData.canLay0, D.plain] using h
  | .tup ds, h => by
    rw [D.toP, PyData.canLay0]; exact D.lays_plain ds (by simpa [D.plain] using h)
  | .wt ds, h => by
    rw [D.toP, PyData.canLay0]; exact D.lays_plain ds (by simpa [D.plain] using h)
  | .wl _, h => by simp [D.plain] at h
  | .ref _, h => by simp [D.plain] at h
  | .cst _, h => by simp [D.plain] at h
theorem D.lays_plain : ∀ (ds : List D), D.plains ds = true → PyData.canLayAll0 (D.toPs ds) = true
  | [], _ => by simp [D.toPs, PyData.canLayAll0]
  | d :: ds, h => by
    simp only [D.plains, Bool.and_eq_true] at h
    simp [D.toPs, PyData.canLayAll0, D.lay_plain d h.1, D.lays_plain ds h.2]
end
theorem plains_mem : ∀ (xs : List D), D.plains xs = true ↔ ∀ x ∈ xs, D.plain x = true
  | [] => by simp [D.plains]
  | x :: xs => by simp [D.plains, plains_mem xs]
theorem depthAll_mem {n : Nat} : ∀ (xs : List D), (∀ x ∈ xs, x.toP.depth ≤ n) → PyData.depthAll (D.toPs xs) ≤ n
  | [], _ => by simp [D.toPs, PyData.depthAll]
  | x :: xs, h => by
    simp only [D.toPs, PyData.depthAll]
    have h1 := h x (List.mem_cons_self ..)
    have h2 := depthAll_mem xs (fun y m => h y (List.mem_cons_of_mem _ m))
    omega
theorem cEqD_same {x y : D} {S : Hs} {a : PyData} (e : cEqS x y = none) (hx : D.pd S 70 x = some a) (hy : D.pd S 70 y = some a) (hs : SeqAt.shaped a = true) : cEqD x y S = some true := by
  unfold cEqD
  rw [e, hx, hy]
  simp only []
  have h : a.canLay0 = true := by
    simp only [SeqAt.shaped, Bool.and_eq_true] at hs; exact hs.1
  rw [if_pos ⟨hs, hs⟩, PySem.SeqAt.eqv_refl a h]
theorem pd_tup {S : Hs} {xs : List D} (hp : D.plains xs = true) (hd : PyData.depthAll (D.toPs xs) ≤ 30) : D.pd S 70 (.tup xs) = some (.tuple (D.toPs xs)) ∧ SeqAt.shaped (.tuple (D.toPs xs)) = true := by
  refine ⟨?_, ?_⟩
  · rw [D.pd, D.pds_plain S xs 69 hp (by omega)]; rfl
  · show (_ && _) = true
    rw [Bool.and_eq_true]
    refine ⟨by rw [PyData.canLay0]; exact D.lays_plain xs hp, decide_eq_true ?_⟩
    rw [PyData.depth]
    omega
end Ly
set_option Elab.async false
set_option linter.all false
set_option maxRecDepth 100000
namespace Ly
open PySem PySem.Spec L2
open PyProof.Rows hiding St
theorem nr {α : Type} {a b : α} (h : a = b) : a = b := h.trans (Eq.refl _)
section
variable {f g h : M} {fl : ML} {fm : MO} {c c2 : MB} {b b2 : MS} {gg : MG} {gs : MGs} {l : Ls} {S : Hs} {i n : Nat} {d : D} {ds : List D} {md : MD} {op2 : D → D → Hs → R D} {op1 : D → Hs → R D} {opn : List D → Hs → R D} {opm : D → List D → Hs → R D} {T : String} {it : MI} {mp : MP} {lo hi : MO}
end
theorem set_same {S : Hs} {i : Nat} {o : O} (h : S[i]? = some o) : S.set i o = S := by
  obtain ⟨hlt, rfl⟩ := List.getElem?_eq_some_iff.mp h
  exact List.set_getElem_self hlt
def DrwA (S : Hs) (i j : Nat) (row : List Int) (sd : Int) : Prop := ∃ a, Drw S i j row a sd
def Upd (i j : Nat) (sd : Int) (S S' : Hs) : Prop := ∃ a g, 0 ≤ a ∧ S' = S.set i (drawsO j a sd) ++ g
section
variable {i j : Nat} {row : List Int} {sd : Int} {S S1 S2 g : Hs}
theorem Upd.refl (h : DrwA S i j row sd) : Upd i j sd S S := by
  obtain ⟨a, h⟩ := h
  exact ⟨a, [], h.nn, by rw [set_same h.d]; simp⟩
theorem Upd.trans (h : DrwA S i j row sd) (u : Upd i j sd S S1) (v : Upd i j sd S1 S2) : Upd i j sd S S2 := by
  obtain ⟨_, h⟩ := h
  obtain ⟨a, g, ha, rfl⟩ := u
  obtain ⟨b, g', hb, rfl⟩ := v
  have hi : i < S.length := Real.lt h.d
  refine ⟨b, g ++ g', hb, ?_⟩
  rw [List.set_append_left _ _ (by simpa using hi), List.set_set, List.append_assoc]
theorem Upd.app (u : Upd i j sd S S1) : Upd i j sd S (S1 ++ g) := by
  obtain ⟨a, g', ha, rfl⟩ := u
  exact ⟨a, g' ++ g, ha, by rw [List.append_assoc]⟩
theorem Upd.new (h : DrwA S i j row sd) : Upd i j sd S (S ++ g) := (Upd.refl h).app
theorem Upd.get (u : Upd i j sd S S1) {k : Nat} {o : O} (h : S[k]? = some o) (hk : k ≠ i) : S1[k]? = some o := by
  obtain ⟨a, g', ha, rfl⟩ := u
  have hl : k < S.length := Real.lt h
  rw [List.getElem?_append_left (by simpa using hl), List.getElem?_set_ne (Ne.symm hk), h]
theorem Upd.drw (h : DrwA S i j row sd) (u : Upd i j sd S S1) : DrwA S1 i j row sd := by
  obtain ⟨_, h⟩ := h
  have hr := u.get h.r (Ne.symm h.ne)
  obtain ⟨a, g', ha, rfl⟩ := u
  have hi : i < S.length := Real.lt h.d
  exact ⟨a, by rw [List.getElem?_append_left (by simpa using hi)]; exact get_put h.d, hr, h.ne, ha⟩
theorem Upd.le (u : Upd i j sd S S1) : S.length ≤ S1.length := by
  obtain ⟨a, g', ha, rfl⟩ := u
  simp
theorem line_le {n : Nat} (h : n ≤ 1000000) : n ≤ sizeLine := Nat.le_trans h (by decide)
end
theorem oAdd_int {a b : Int} {S : Hs} : oAdd (.int a) (.int b) S = .ok (.int (a + b)) S := nr rfl
theorem oSub_int {a b : Int} {S : Hs} : oSub (.int a) (.int b) S = .ok (.int (a - b)) S := nr rfl
theorem oLt_int {a b : Int} {S : Hs} : oLt (.int a) (.int b) S = .ok (.bl (decide (a < b))) S := nr rfl
theorem oTru_bl {b : Bool} {S : Hs} : oTru (.bl b) S = .ok b S := nr rfl
theorem oEq_int {a b : Int} {S : Hs} : oEq (.int a) (.int b) S = .ok (.bl (decide (a = b))) S := nr rfl
theorem oNe_int {a b : Int} {S : Hs} : oNe (.int a) (.int b) S = .ok (.bl (!decide (a = b))) S := nr rfl
theorem oEq_str {a b : Str} {S : Hs} : oEq (.str a) (.str b) S = .ok (.bl (decide (a = b))) S := nr rfl
theorem of_strs {xs : List Str} {d : D} (h : d ∈ xs.map D.str) : ∃ x ∈ xs, d = .str x := by
  rw [List.mem_map] at h
  obtain ⟨x, h1, h2⟩ := h
  exact ⟨x, h1, h2.symm⟩
end Ly
set_option Elab.async false
set_option linter.all false
set_option maxRecDepth 100000
namespace Ly
open PySem PySem.Spec L2
open PyProof.Rows hiding St
abbrev XP := V → Option (List (Str × D)) → Ls → Hs → Prop
def WpD {α : Type} (X : XP) (r : R α) (Q : α → Hs → Prop) : Prop := match r with
  | .ok a S => Q a S
  | .exc c fs l S => X c fs l S
  | .bad => False
structure Wp {α : Type} (X : XP) (r : R α) (Q : α → Hs → Prop) : Prop where
  un : WpD X r Q
def NoX : XP := fun _ _ _ _ => False
theorem Wp.mono {α : Type} {X X' : XP} {r : R α} {P Q : α → Hs → Prop} (h : Wp X r P) (hx : ∀ c fs l S, X c fs l S → X' c fs l S) (k : ∀ v S, P v S → Q v S) : Wp X' r Q := by
  cases r with
  | ok a S => exact ⟨k a S h.un⟩
  | exc c fs l S => exact ⟨hx c fs l S h.un⟩
  | bad => exact h.un.elim
theorem Wp.call {α : Type} {X : XP} {r : R α} {P Q : α → Hs → Prop} (h : Wp NoX r P) (k : ∀ v S, P v S → Q v S) : Wp X r Q := h.mono (fun _ _ _ _ h => h.elim) k
theorem Wp.ex {α : Type} {r : R α} {P : α → Hs → Prop} (h : Wp NoX r P) : ∃ v S, r = .ok v S ∧ P v S := by
  cases r with
  | ok a S => exact ⟨a, S, rfl, h.un⟩
  | exc c fs l S => exact h.un.elim
  | bad => exact h.un.elim
theorem Wp.of {α : Type} {X : XP} {r : R α} {P : α → Hs → Prop} {v : α} {S : Hs} (e : r = .ok v S) (h : P v S) : Wp X r P := by rw [e]; exact ⟨h⟩
def atX (X : XP) (l : Ls) : XP := fun c fs _ S => X c fs l S
section
variable {α β : Type} {X : XP}
theorem v_ok {a : α} {S : Hs} {Q : α → Hs → Prop} : Wp X (.ok a S) Q = Q a S := propext ⟨fun h => h.un, fun h => ⟨h⟩⟩
theorem v_bad {Q : α → Hs → Prop} : Wp X (.bad) Q = False := propext ⟨fun h => h.un, fun h => h.elim⟩
theorem v_exc {c : V} {fs : Option (List (Str × D))} {l : Ls} {S : Hs} {Q : α → Hs → Prop} : Wp X (.exc c fs l S) Q = X c fs l S := propext ⟨fun h => h.un, fun h => ⟨h⟩⟩
def bdK (X : XP) (k : α → Hs → R β) (Q : β → Hs → Prop) : α → Hs → Prop := fun a S => Wp X (k a S) Q
theorem v_bind {r : R α} {k : α → Hs → R β} {Q : β → Hs → Prop} : Wp X (r.bind k) Q = Wp X r (bdK X k Q) := by cases r <;> simp only [R.bind, v_ok, v_bad, v_exc] <;> rfl
theorem k_bd {k : α → Hs → R β} {Q : β → Hs → Prop} {a : α} {S : Hs} : bdK X k Q a S = Wp X (k a S) Q := nr rfl
theorem v_at {r : R α} {l : Ls} {Q : α → Hs → Prop} : Wp X (r.at l) Q = Wp (atX X l) r Q := by cases r <;> simp only [R.at, v_ok, v_bad, v_exc] <;> rfl
end
section
variable {X : XP} {f g h : M} {fl : ML} {c c2 : MB} {b b2 : MS} {gg : MG} {gs : MGs} {l : Ls} {S : Hs} {i n : Nat} {d x y : D} {ds : List D} {md : MD} {op2 : D → D → Hs → R D} {op1 : D → Hs → R D} {opn : List D → Hs → R D} {opm : D → List D → Hs → R D} {T : String} {it : MI} {lo hi : MO} {t : Bool}
section
variable {Q : D → Hs → Prop}
def biK (X : XP) (op : D → D → Hs → R D) (g : M) (l : Ls) (Q : D → Hs → Prop) : D → Hs → Prop := fun x S => Wp X (g l S) fun y S2 => Wp X (op x y S2) Q
def biK2 (X : XP) (op : D → D → Hs → R D) (x : D) (Q : D → Hs → Prop) : D → Hs → Prop := fun y S => Wp X (op x y S) Q
theorem v_bin : Wp X (mBin op2 f g l S) Q = Wp X (f l S) (biK X op2 g l Q) := by
  unfold mBin; rw [v_bind]; congr 1; funext x S1; unfold bdK biK; simp only [v_bind]; first | rfl | (congr 1; funext _ _; exact v_ok)
theorem k_bi : biK X op2 g l Q x S = Wp X (g l S) (biK2 X op2 x Q) := nr rfl
theorem k_bi2 : biK2 X op2 x Q y S = Wp X (op2 x y S) Q := nr rfl
theorem v_var : Wp X (mVar i l S) Q = match l[i]? with | some (some d) => Q d S | _ => False := by
  unfold mVar; cases l[i]? with
  | none => exact v_bad
  | some o =>
    cases o with
    | none => exact v_bad
    | some d => exact v_ok
theorem v_c : Wp X (mC d l S) Q = Q d S := v_ok
def unK (X : XP) (op : D → Hs → R D) (Q : D → Hs → Prop) : D → Hs → Prop := fun x S => Wp X (op x S) Q
theorem v_un : Wp X (mUn op1 f l S) Q = Wp X (f l S) (unK X op1 Q) := by unfold mUn; rw [v_bind]; first | rfl | (congr 1; funext _ _; exact v_ok)
theorem k_un : unK X op1 Q x S = Wp X (op1 x S) Q := nr rfl
def ifeK (X : XP) (f g : M) (l : Ls) (Q : D → Hs → Prop) : Bool → Hs → Prop := fun t S => if t = true then Wp X (f l S) Q else Wp X (g l S) Q
theorem v_if : Wp X (mIf c f g l S) Q = Wp X (c l S) (ifeK X f g l Q) := by
  unfold mIf; rw [v_bind]; congr 1; funext t S1; unfold bdK ifeK; cases t <;> first | rfl | exact v_bad | exact v_ok
theorem k_ife : ifeK X f g l Q t S = if t = true then Wp X (f l S) Q else Wp X (g l S) Q := nr rfl
def andK (X : XP) (g : M) (l : Ls) (Q : D → Hs → Prop) : D → Hs → Prop := fun x S => Wp X (oTru x S) fun t S1 => if t = true then Wp X (g l S1) Q else Q x S1
def andK2 (X : XP) (x : D) (g : M) (l : Ls) (Q : D → Hs → Prop) : Bool → Hs → Prop := fun t S1 => if t = true then Wp X (g l S1) Q else Q x S1
theorem v_and : Wp X (mAnd f g l S) Q = Wp X (f l S) (andK X g l Q) := by
  unfold mAnd; rw [v_bind]; congr 1; funext x S1; unfold bdK andK; simp only [v_bind]; congr 1; funext t S2; unfold bdK; cases t <;> first | rfl | exact v_bad | exact v_ok
theorem k_and : andK X g l Q x S = Wp X (oTru x S) (andK2 X x g l Q) := nr rfl
theorem k_and2 : andK2 X x g l Q t S = if t = true then Wp X (g l S) Q else Q x S := nr rfl
def orK (X : XP) (g : M) (l : Ls) (Q : D → Hs → Prop) : D → Hs → Prop := fun x S => Wp X (oTru x S) fun t S1 => if t = true then Q x S1 else Wp X (g l S1) Q
def orK2 (X : XP) (x : D) (g : M) (l : Ls) (Q : D → Hs → Prop) : Bool → Hs → Prop := fun t S1 => if t = true then Q x S1 else Wp X (g l S1) Q
theorem v_or : Wp X (mOr f g l S) Q = Wp X (f l S) (orK X g l Q) := by
  unfold mOr; rw [v_bind]; congr 1; funext x S1; unfold bdK orK; simp only [v_bind]; congr 1; funext t S2; unfold bdK; cases t <;> first | rfl | exact v_bad | exact v_ok
theorem k_or : orK X g l Q x S = Wp X (oTru x S) (orK2 X x g l Q) := nr rfl
theorem k_or2 : orK2 X x g l Q t S = if t = true then Q x S else Wp X (g l S) Q := nr rfl
def tupK (Q : D → Hs → Prop) : List D → Hs → Prop := fun ds S => ds.length ≤ sizeLine ∧ Q (.tup ds) S
theorem v_tup : Wp X (mTup fl l S) Q = Wp X (fl l S) (tupK Q) := by
  unfold mTup; rw [v_bind]; congr 1; funext ds S1; unfold bdK tupK; by_cases h : ds.length ≤ sizeLine
  · simp [h, v_ok]
  · simp [h, v_bad]
theorem k_tup : tupK Q ds S = (ds.length ≤ sizeLine ∧ Q (.tup ds) S) := nr rfl
def lstK (Q : D → Hs → Prop) : List D → Hs → Prop := fun ds S => ds.length ≤ sizeLine ∧ Q (.ref S.length) (S ++ [.lst ds])
theorem v_lst : Wp X (mLst fl l S) Q = Wp X (fl l S) (lstK Q) := by
  unfold mLst; rw [v_bind]; congr 1; funext ds S1; unfold bdK lstK; by_cases h : ds.length ≤ sizeLine
  · simp [h, v_ok]
  · simp [h, v_bad]
theorem k_lst : lstK Q ds S = (ds.length ≤ sizeLine ∧ Q (.ref S.length) (S ++ [.lst ds])) := nr rfl
def caK (X : XP) (op : List D → Hs → R D) (Q : D → Hs → Prop) : List D → Hs → Prop := fun ds S => Wp X (op ds S) Q
theorem v_call : Wp X (mCall opn fl l S) Q = Wp X (fl l S) (caK X opn Q) := by unfold mCall; rw [v_bind]; first | rfl | (congr 1; funext _ _; exact v_ok)
theorem k_ca : caK X opn Q ds S = Wp X (opn ds S) Q := nr rfl
def fnK (X : XP) (md : MD) (l : Ls) (Q : D → Hs → Prop) : List D → Hs → Prop := fun ds S => Wp (atX X l) (md ds S) Q
theorem v_fn : Wp X (mFn md fl l S) Q = Wp X (fl l S) (fnK X md l Q) := by
  unfold mFn; rw [v_bind]; congr 1; funext ds S1; unfold bdK fnK; rw [v_at]
theorem k_fn : fnK X md l Q ds S = Wp (atX X l) (md ds S) Q := nr rfl
def bmK (X : XP) (T : String) (op : D → List D → Hs → R D) (fl : ML) (l : Ls) (Q : D → Hs → Prop) : D → Hs → Prop := fun x S => hasTy T x S = true ∧ Wp X (fl l S) fun ds S1 => Wp X (op x ds S1) Q
def bmK2 (X : XP) (op : D → List D → Hs → R D) (x : D) (Q : D → Hs → Prop) : List D → Hs → Prop := fun ds S1 => Wp X (op x ds S1) Q
theorem v_bm : Wp X (mBM T opm f fl l S) Q = Wp X (f l S) (bmK X T opm fl l Q) := by
  unfold mBM; rw [v_bind]; congr 1; funext x S1; unfold bdK bmK
  by_cases h : hasTy T x S1 = true
  · simp only [h, true_and, if_true, v_bind]; rfl
  · simp [h, v_bad]
theorem k_bm : bmK X T opm fl l Q x S = (hasTy T x S = true ∧ Wp X (fl l S) (bmK2 X opm x Q)) := nr rfl
theorem k_bm2 : bmK2 X opm x Q ds S = Wp X (opm x ds S) Q := nr rfl
def slK (X : XP) (lo hi : MO) (l : Ls) (Q : D → Hs → Prop) : D → Hs → Prop := fun x S => Wp X (lo l S) fun a S1 => Wp X (hi l S1) fun b S2 => Wp X (oSl x a b S2) Q
def slK2 (X : XP) (x : D) (hi : MO) (l : Ls) (Q : D → Hs → Prop) : Option Int → Hs → Prop := fun a S1 => Wp X (hi l S1) fun b S2 => Wp X (oSl x a b S2) Q
def slK3 (X : XP) (x : D) (a : Option Int) (Q : D → Hs → Prop) : Option Int → Hs → Prop := fun b S2 => Wp X (oSl x a b S2) Q
theorem v_sl : Wp X (mSl f lo hi l S) Q = Wp X (f l S) (slK X lo hi l Q) := by
  unfold mSl; rw [v_bind]; congr 1; funext x S1; unfold bdK slK; rw [v_bind]; congr 1; funext a S2; unfold bdK; rw [v_bind]; first | rfl | (congr 1; funext _ _; exact v_ok)
theorem k_sl : slK X lo hi l Q x S = Wp X (lo l S) (slK2 X x hi l Q) := nr rfl
variable {oa ob : Option Int}
theorem k_sl2 : slK2 X x hi l Q oa S = Wp X (hi l S) (slK3 X x oa Q) := nr rfl
theorem k_sl3 : slK3 X x oa Q ob S = Wp X (oSl x oa ob S) Q := nr rfl
variable {tbl : List (Str × D)}
def ixkK (tbl : List (Str × D)) (Q : D → Hs → Prop) : D → Hs → Prop := fun x S => match x with
  | .str z => match tbl.lookup z with
    | some d => Q d S
    | none => False
  | _ => False
theorem v_ixK : Wp X (mIxK tbl f l S) Q = Wp X (f l S) (ixkK tbl Q) := by
  unfold mIxK; rw [v_bind]; congr 1; funext x S1; unfold bdK ixkK
  cases x <;> try (first | rfl | exact v_bad | exact v_ok)
  rename_i z
  simp only []
  cases tbl.lookup z <;> first | rfl | exact v_bad | exact v_ok
theorem k_ixk {z : Str} : ixkK tbl Q (.str z) S = match tbl.lookup z with | some d => Q d S | none => False := nr rfl
def inkK (tbl : List (Str × D)) (Q : D → Hs → Prop) : D → Hs → Prop := fun x S => match x with
  | .str z => Q (.bl (tbl.lookup z).isSome) S
  | _ => False
theorem v_inK : Wp X (mInK tbl f l S) Q = Wp X (f l S) (inkK tbl Q) := by
  unfold mInK; rw [v_bind]; congr 1; funext x S1; unfold bdK inkK; cases x <;> first | rfl | exact v_bad | exact v_ok
theorem k_ink {z : Str} : inkK tbl Q (.str z) S = Q (.bl (tbl.lookup z).isSome) S := nr rfl
def ninkK (tbl : List (Str × D)) (Q : D → Hs → Prop) : D → Hs → Prop := fun x S => match x with
  | .str z => Q (.bl (!(tbl.lookup z).isSome)) S
  | _ => False
theorem v_notinK : Wp X (mNotInK tbl f l S) Q = Wp X (f l S) (ninkK tbl Q) := by
  unfold mNotInK; rw [v_bind]; congr 1; funext x S1; unfold bdK ninkK; cases x <;> first | rfl | exact v_bad | exact v_ok
theorem k_nink {z : Str} : ninkK tbl Q (.str z) S = Q (.bl (!(tbl.lookup z).isSome)) S := nr rfl
def gk2K (X : XP) (tbl : List (Str × D)) (g : M) (l : Ls) (Q : D → Hs → Prop) : D → Hs → Prop := fun x S => match x with
  | .str z => Wp X (g l S) fun y S2 => (match tbl.lookup z with | some d => Q d S2 | none => Q y S2)
  | _ => False
theorem v_getK2 : Wp X (mGetK2 tbl f g l S) Q = Wp X (f l S) (gk2K X tbl g l Q) := by
  unfold mGetK2; rw [v_bind]; congr 1; funext x S1; unfold bdK gk2K; cases x <;> try (first | rfl | exact v_bad | exact v_ok)
  rename_i z
  simp only [v_bind]; congr 1; funext y S2; unfold bdK; cases tbl.lookup z <;> first | rfl | exact v_bad | exact v_ok
def gkK (tbl : List (Str × D)) (z : Str) (Q : D → Hs → Prop) : D → Hs → Prop := fun y S2 => match tbl.lookup z with | some d => Q d S2 | none => Q y S2
theorem k_gk2 {z : Str} : gk2K X tbl g l Q (.str z) S = Wp X (g l S) (gkK tbl z Q) := nr rfl
theorem k_gk {z : Str} : gkK tbl z Q y S = match tbl.lookup z with | some d => Q d S | none => Q y S := nr rfl
def g2K (X : XP) (g h : M) (l : Ls) (Q : D → Hs → Prop) : D → Hs → Prop := fun x S => hasTy "dict" x S = true ∧ Wp X (g l S) fun y S2 => Wp X (h l S2) fun z S3 => match dGet x y S3 with
  | some (some d) => Q d S3
  | some none => Q z S3
  | none => False
def g2K2 (X : XP) (x : D) (h : M) (l : Ls) (Q : D → Hs → Prop) : D → Hs → Prop := fun y S2 => Wp X (h l S2) fun z S3 => match dGet x y S3 with
  | some (some d) => Q d S3
  | some none => Q z S3
  | none => False
def g2K3 (x y : D) (Q : D → Hs → Prop) : D → Hs → Prop := fun z S3 => match dGet x y S3 with
  | some (some d) => Q d S3
  | some none => Q z S3
  | none => False
theorem v_get2 : Wp X (mGet2 f g h l S) Q = Wp X (f l S) (g2K X g h l Q) := by
  unfold mGet2; rw [v_bind]; congr 1; funext x S1; unfold bdK g2K
  by_cases hh : hasTy "dict" x S1 = true
  · simp only [hh, true_and, if_true, v_bind]; congr 1; funext y S2; unfold bdK; rw [v_bind]; congr 1; funext z S3; unfold bdK; simp only []
    cases dGet x y S3 with
    | none => first | rfl | exact v_bad | exact v_ok
    | some o => cases o <;> first | rfl | exact v_bad | exact v_ok
  · simp [hh, v_bad]
theorem k_g2 : g2K X g h l Q x S = (hasTy "dict" x S = true ∧ Wp X (g l S) (g2K2 X x h l Q)) := nr rfl
theorem k_g22 : g2K2 X x h l Q y S = Wp X (h l S) (g2K3 x y Q) := nr rfl
theorem k_g23 {z : D} : g2K3 x y Q z S = match dGet x y S with | some (some d) => Q d S | some none => Q z S | none => False := nr rfl
end
section
variable {Q : List D → Hs → Prop}
theorem v_nil : Wp X (lNil l S) Q = Q [] S := v_ok
def coK (X : XP) (fl : ML) (l : Ls) (Q : List D → Hs → Prop) : D → Hs → Prop := fun x S => Wp X (fl l S) fun xs S2 => Q (x :: xs) S2
def coK2 (x : D) (Q : List D → Hs → Prop) : List D → Hs → Prop := fun xs S2 => Q (x :: xs) S2
theorem v_cons : Wp X (lCons f fl l S) Q = Wp X (f l S) (coK X fl l Q) := by
  unfold lCons; rw [v_bind]; congr 1; funext x S1; unfold bdK coK; rw [v_bind]; first | rfl | (congr 1; funext _ _; exact v_ok)
theorem k_co : coK X fl l Q x S = Wp X (fl l S) (coK2 x Q) := nr rfl
theorem k_co2 : coK2 x Q ds S = Q (x :: ds) S := nr rfl
end
section
variable {Q : Option Int → Hs → Prop}
theorem v_no : Wp X (oNo l S) Q = Q none S := v_ok
def soK (Q : Option Int → Hs → Prop) : D → Hs → Prop := fun d S => match d with
  | .int i => Q (some i) S
  | _ => False
theorem v_some : Wp X (oSome f l S) Q = Wp X (f l S) (soK Q) := by
  unfold oSome; rw [v_bind]; congr 1; funext d S1; unfold bdK soK; cases d <;> first | rfl | exact v_bad | exact v_ok
theorem k_so {j : Int} : soK Q (.int j) S = Q (some j) S := nr rfl
end
section
variable {Q : Bool → Hs → Prop}
def cmK (Q : Bool → Hs → Prop) : D → Hs → Prop := fun d S => match d with
  | .bl b => Q b S
  | _ => False
theorem k_cm {b : Bool} : cmK Q (.bl b) S = Q b S := nr rfl
theorem v_cmp : Wp X (mCmp op2 f g l S) Q = Wp X (f l S) (biK X op2 g l (cmK Q)) := by
  unfold mCmp; rw [v_bind]; congr 1; funext x S1; unfold bdK biK; rw [v_bind]; congr 1; funext y S2; unfold bdK; rw [v_bind]; congr 1; funext d S3; unfold bdK cmK; cases d <;> first | rfl | exact v_bad | exact v_ok
def trK (X : XP) (Q : Bool → Hs → Prop) : D → Hs → Prop := fun d S => Wp X (oTru d S) Q
theorem v_tru : Wp X (mTru f l S) Q = Wp X (f l S) (trK X Q) := by unfold mTru; rw [v_bind]; first | rfl | (congr 1; funext _ _; exact v_ok)
theorem k_tr : trK X Q d S = Wp X (oTru d S) Q := nr rfl
def noK (Q : Bool → Hs → Prop) : Bool → Hs → Prop := fun b S => Q (!b) S
theorem v_notB : Wp X (mNotB c l S) Q = Wp X (c l S) (noK Q) := by unfold mNotB; rw [v_bind]; first | rfl | (congr 1; funext _ _; exact v_ok)
theorem k_no : noK Q t S = Q (!t) S := nr rfl
def anK (X : XP) (c2 : MB) (l : Ls) (Q : Bool → Hs → Prop) : Bool → Hs → Prop := fun b S => if b = true then Wp X (c2 l S) Q else Q false S
theorem v_andB : Wp X (mAndB c c2 l S) Q = Wp X (c l S) (anK X c2 l Q) := by
  unfold mAndB; rw [v_bind]; congr 1; funext b S1; unfold bdK anK; cases b <;> first | rfl | exact v_bad | exact v_ok
theorem k_an : anK X c2 l Q t S = if t = true then Wp X (c2 l S) Q else Q false S := nr rfl
def orbK (X : XP) (c2 : MB) (l : Ls) (Q : Bool → Hs → Prop) : Bool → Hs → Prop := fun b S => if b = true then Q true S else Wp X (c2 l S) Q
theorem v_orB : Wp X (mOrB c c2 l S) Q = Wp X (c l S) (orbK X c2 l Q) := by
  unfold mOrB; rw [v_bind]; congr 1; funext b S1; unfold bdK orbK; cases b <;> first | rfl | exact v_bad | exact v_ok
theorem k_orb : orbK X c2 l Q t S = if t = true then Q true S else Wp X (c2 l S) Q := nr rfl
theorem v_yes : Wp X (mYes l S) Q = Q true S := v_ok
variable {tbl : List (Str × D)}
def inkBK (tbl : List (Str × D)) (Q : Bool → Hs → Prop) : D → Hs → Prop := fun x S => match x with
  | .str z => Q (tbl.lookup z).isSome S
  | _ => False
theorem v_inKB : Wp X (mInKB tbl f l S) Q = Wp X (f l S) (inkBK tbl Q) := by
  unfold mInKB; rw [v_bind]; congr 1; funext x S1; unfold bdK inkBK; cases x <;> first | rfl | exact v_bad | exact v_ok
theorem k_inkB {z : Str} : inkBK tbl Q (.str z) S = Q (tbl.lookup z).isSome S := nr rfl
def ninkBK (tbl : List (Str × D)) (Q : Bool → Hs → Prop) : D → Hs → Prop := fun x S => match x with
  | .str z => Q (!(tbl.lookup z).isSome) S
  | _ => False
theorem v_notinKB : Wp X (mNotInKB tbl f l S) Q = Wp X (f l S) (ninkBK tbl Q) := by
  unfold mNotInKB; rw [v_bind]; congr 1; funext x S1; unfold bdK ninkBK; cases x <;> first | rfl | exact v_bad | exact v_ok
theorem k_ninkB {z : Str} : ninkBK tbl Q (.str z) S = Q (!(tbl.lookup z).isSome) S := nr rfl
end
section
variable {Q : F → Hs → Prop} {l1 : Ls}
def stK (i : Nat) (l : Ls) (Q : F → Hs → Prop) : D → Hs → Prop := fun d S => Q (.nx (l.set i (some d))) S
theorem v_set : Wp X (mSet i f l S) Q = Wp X (f l S) (stK i l Q) := by unfold mSet; rw [v_bind]; first | rfl | (congr 1; funext _ _; exact v_ok)
theorem k_st : stK i l Q d S = Q (.nx (l.set i (some d))) S := nr rfl
def exK (l : Ls) (Q : F → Hs → Prop) : D → Hs → Prop := fun _ S => Q (.nx l) S
theorem v_expr : Wp X (mExpr f l S) Q = Wp X (f l S) (exK l Q) := by unfold mExpr; rw [v_bind]; first | rfl | (congr 1; funext _ _; exact v_ok)
theorem k_ex : exK l Q d S = Q (.nx l) S := nr rfl
def reK (Q : F → Hs → Prop) : D → Hs → Prop := fun d S => Q (.rt d) S
theorem v_ret : Wp X (mRet f l S) Q = Wp X (f l S) (reK Q) := by unfold mRet; rw [v_bind]; first | rfl | (congr 1; funext _ _; exact v_ok)
theorem k_re : reK Q d S = Q (.rt d) S := nr rfl
theorem v_retN : Wp X (mRetN l S) Q = Q (.rt .non) S := v_ok
theorem v_pass : Wp X (mPass l S) Q = Q (.nx l) S := v_ok
theorem v_brk : Wp X (mBrk l S) Q = Q (.bk l) S := v_ok
theorem v_cnt : Wp X (mCnt l S) Q = Q (.ct l) S := v_ok
def sqK (X : XP) (b2 : MS) (Q : F → Hs → Prop) : F → Hs → Prop := fun r S => match r with
  | .nx l1 => Wp X (b2 l1 S) Q
  | r => Q r S
theorem v_seq : Wp X (mSeq b b2 l S) Q = Wp X (b l S) (sqK X b2 Q) := by
  unfold mSeq; rw [v_bind]; congr 1; funext r S1; unfold bdK sqK; cases r <;> first | rfl | exact v_bad | exact v_ok
theorem k_sq_nx : sqK X b2 Q (.nx l1) S = Wp X (b2 l1 S) Q := nr rfl
theorem k_sq_rt : sqK X b2 Q (.rt d) S = Q (.rt d) S := nr rfl
theorem k_sq_bk : sqK X b2 Q (.bk l1) S = Q (.bk l1) S := nr rfl
theorem k_sq_ct : sqK X b2 Q (.ct l1) S = Q (.ct l1) S := nr rfl
def ifsK (X : XP) (b b2 : MS) (l : Ls) (Q : F → Hs → Prop) : Bool → Hs → Prop := fun t S => if t = true then Wp X (b l S) Q else Wp X (b2 l S) Q
theorem v_ifS : Wp X (mIfS c b b2 l S) Q = Wp X (c l S) (ifsK X b b2 l Q) := by
  unfold mIfS; rw [v_bind]; congr 1; funext t S1; unfold bdK ifsK; cases t <;> first | rfl | exact v_bad | exact v_ok
theorem k_ifs : ifsK X b b2 l Q t S = if t = true then Wp X (b l S) Q else Wp X (b2 l S) Q := nr rfl
def asK (X : XP) (gg : MG) (l : Ls) (Q : F → Hs → Prop) : D → Hs → Prop := fun d S => Wp X (gg d l S) fun l1 S2 => Q (.nx l1) S2
def asK2 (Q : F → Hs → Prop) : Ls → Hs → Prop := fun l1 S2 => Q (.nx l1) S2
theorem v_asg : Wp X (mAsg f gg l S) Q = Wp X (f l S) (asK X gg l Q) := by
  unfold mAsg; rw [v_bind]; congr 1; funext d S1; unfold bdK asK; rw [v_bind]; first | rfl | (congr 1; funext _ _; exact v_ok)
theorem k_as : asK X gg l Q d S = Wp X (gg d l S) (asK2 Q) := nr rfl
theorem k_as2 : asK2 Q l1 S = Q (.nx l1) S := nr rfl
def auK (X : XP) (i : Nat) (l : Ls) (op : D → D → Hs → R D) (x : D) (Q : F → Hs → Prop) : D → Hs → Prop := fun y S => Wp X (op x y S) (stK i l Q)
theorem v_aug : Wp X (mAug i op2 f l S) Q = match l[i]? with | some (some x) => Wp X (f l S) (auK X i l op2 x Q) | _ => False := by
  unfold mAug; cases l[i]? with
  | none => first | rfl | exact v_bad | exact v_ok
  | some o =>
    cases o with
    | none => first | rfl | exact v_bad | exact v_ok
    | some x => simp only [v_bind]; congr 1; funext y S1; unfold bdK auK; simp only [v_bind]; first | rfl | (congr 1; funext _ _; exact v_ok)
theorem k_au : auK X i l op2 x Q y S = Wp X (op2 x y S) (stK i l Q) := nr rfl
def foK (X : XP) (gg : MG) (b : MS) (l : Ls) (Q : F → Hs → Prop) : J → Hs → Prop := fun j S => Wp X (fLoop j gg b 0 l S) Q
theorem v_for : Wp X (mFor it gg b l S) Q = Wp X (it l S) (foK X gg b l Q) := by unfold mFor; rw [v_bind]; first | rfl | (congr 1; funext _ _; exact v_ok)
theorem k_fo {j : J} : foK X gg b l Q j S = Wp X (fLoop j gg b 0 l S) Q := nr rfl
end
section
variable {Q : J → Hs → Prop}
def itK (X : XP) (Q : J → Hs → Prop) : D → Hs → Prop := fun d S => Wp X (oIt d S) Q
theorem v_it : Wp X (mIt f l S) Q = Wp X (f l S) (itK X Q) := by unfold mIt; rw [v_bind]; first | rfl | (congr 1; funext _ _; exact v_ok)
theorem k_it : itK X Q d S = Wp X (oIt d S) Q := nr rfl
variable {op : List D → Hs → R J}
def ijK (X : XP) (op : List D → Hs → R J) (Q : J → Hs → Prop) : List D → Hs → Prop := fun ds S => Wp X (op ds S) Q
theorem k_ij : ijK X op Q ds S = Wp X (op ds S) Q := nr rfl
theorem v_rng1 : Wp X (mRng1 fl l S) Q = Wp X (fl l S) (ijK X oRng1 Q) := by unfold mRng1; rw [v_bind]; first | rfl | (congr 1; funext _ _; exact v_ok)
theorem v_rng2 : Wp X (mRng2 fl l S) Q = Wp X (fl l S) (ijK X oRng2 Q) := by unfold mRng2; rw [v_bind]; first | rfl | (congr 1; funext _ _; exact v_ok)
theorem v_enum : Wp X (mEnum fl l S) Q = Wp X (fl l S) (ijK X oEnum Q) := by unfold mEnum; rw [v_bind]; first | rfl | (congr 1; funext _ _; exact v_ok)
theorem v_ez : Wp X (mEz fl l S) Q = Wp X (fl l S) (ijK X oEz Q) := by unfold mEz; rw [v_bind]; first | rfl | (congr 1; funext _ _; exact v_ok)
theorem v_zip : Wp X (mZip fl l S) Q = Wp X (fl l S) (ijK X oZip Q) := by unfold mZip; rw [v_bind]; first | rfl | (congr 1; funext _ _; exact v_ok)
end
section
variable {Q : Ls → Hs → Prop}
theorem v_gN : Wp X (gN i d l S) Q = Q (l.set i (some d)) S := v_ok
theorem v_gsN : Wp X (gsN [] l S) Q = Q l S := v_ok
def gcK (X : XP) (gs : MGs) (ds : List D) (Q : Ls → Hs → Prop) : Ls → Hs → Prop := fun l1 S => Wp X (gs ds l1 S) Q
theorem v_gsC : Wp X (gsC gg gs (d :: ds) l S) Q = Wp X (gg d l S) (gcK X gs ds Q) := by show Wp X (R.bind _ _) Q = _; rw [v_bind]; first | rfl | (congr 1; funext _ _; exact v_ok)
theorem k_gc : gcK X gs ds Q l S = Wp X (gs ds l S) Q := nr rfl
theorem v_gT : Wp X (gT n gs (.tup ds) l S) Q = (ds.length = n ∧ Wp X (gs ds l S) Q) := by
  unfold gT; by_cases h : ds.length = n
  · simp [h]
  · simp [h, v_bad]
theorem v_gTw : Wp X (gT n gs (.wt ds) l S) Q = (ds.length = n ∧ Wp X (gs ds l S) Q) := by
  unfold gT; by_cases h : ds.length = n
  · simp [h]
  · simp [h, v_bad]
def gsbK (X : XP) (g : M) (d : D) (l : Ls) (Q : Ls → Hs → Prop) : D → Hs → Prop := fun x S => Wp X (g l S) fun y S2 => Wp X (oSet x y d S2) fun _ S3 => Q l S3
def gsbK2 (X : XP) (x d : D) (l : Ls) (Q : Ls → Hs → Prop) : D → Hs → Prop := fun y S2 => Wp X (oSet x y d S2) fun _ S3 => Q l S3
def gsbK3 (l : Ls) (Q : Ls → Hs → Prop) : Unit → Hs → Prop := fun _ S3 => Q l S3
theorem v_gSb : Wp X (gSb f g d l S) Q = Wp X (f l S) (gsbK X g d l Q) := by
  unfold gSb; rw [v_bind]; congr 1; funext x S1; unfold bdK gsbK; rw [v_bind]; congr 1; funext y S2; unfold bdK; rw [v_bind]; first | rfl | (congr 1; funext _ _; exact v_ok)
theorem k_gsb : gsbK X g d l Q x S = Wp X (g l S) (gsbK2 X x d l Q) := nr rfl
theorem k_gsb2 : gsbK2 X x d l Q y S = Wp X (oSet x y d S) (gsbK3 l Q) := nr rfl
theorem k_gsb3 {u : Unit} : gsbK3 l Q u S = Q l S := nr rfl
end
end
section
variable {X : XP} {f g h : M} {l : Ls} {S : Hs} {op2 : D → D → Hs → R D} {x y z : D} {it : MI} {gl : CG} {tt : MB} {tk tv : M} {vs : List Nat}
section
variable {Q : F → Hs → Prop}
def agK (X : XP) (op : D → D → Hs → R D) (g h : M) (l : Ls) (Q : F → Hs → Prop) : D → Hs → Prop := fun x S1 => Wp X (g l S1) fun y S2 => match dGet x y S2 with
  | some (some z) => Wp X (h l S2) fun w S3 => Wp X (op z w S3) fun d S4 => isDic x S4 = true ∧ Wp X (oSet x y d S4) fun _ S5 => Q (.nx l) S5
  | _ => False
def agK2 (X : XP) (op : D → D → Hs → R D) (h : M) (x : D) (l : Ls) (Q : F → Hs → Prop) : D → Hs → Prop := fun y S2 => match dGet x y S2 with
  | some (some z) => Wp X (h l S2) fun w S3 => Wp X (op z w S3) fun d S4 => isDic x S4 = true ∧ Wp X (oSet x y d S4) fun _ S5 => Q (.nx l) S5
  | _ => False
def agK3 (X : XP) (op : D → D → Hs → R D) (x y z : D) (l : Ls) (Q : F → Hs → Prop) : D → Hs → Prop := fun w S3 => Wp X (op z w S3) fun d S4 => isDic x S4 = true ∧ Wp X (oSet x y d S4) fun _ S5 => Q (.nx l) S5
def agK4 (X : XP) (x y : D) (l : Ls) (Q : F → Hs → Prop) : D → Hs → Prop := fun d S4 => isDic x S4 = true ∧ Wp X (oSet x y d S4) fun _ S5 => Q (.nx l) S5
def agK5 (l : Ls) (Q : F → Hs → Prop) : Unit → Hs → Prop := fun _ S5 => Q (.nx l) S5
theorem v_augI : Wp X (mAugI op2 f g h l S) Q = Wp X (f l S) (agK X op2 g h l Q) := by
  unfold mAugI; rw [v_bind]; congr 1; funext x S1; unfold bdK agK; simp only [v_bind]; congr 1; funext y S2; unfold bdK; simp only []
  cases dGet x y S2 with
  | none => first | rfl | exact v_bad | exact v_ok
  | some o =>
    cases o with
    | none => first | rfl | exact v_bad | exact v_ok
    | some z =>
      simp only [v_bind]; congr 1; funext w S3; unfold bdK; simp only [v_bind]; congr 1; funext d S4; unfold bdK; simp only []
      by_cases hh : isDic x S4 = true
      · simp only [hh, if_true, true_and, v_bind]; first | rfl | (congr 1; funext _ _; exact v_ok)
      · simp [hh, v_bad]
theorem k_ag : agK X op2 g h l Q x S = Wp X (g l S) (agK2 X op2 h x l Q) := nr rfl
theorem k_ag2 : agK2 X op2 h x l Q y S = match dGet x y S with | some (some z) => Wp X (h l S) (agK3 X op2 x y z l Q) | _ => False := nr rfl
theorem k_ag3 {w : D} : agK3 X op2 x y z l Q w S = Wp X (op2 z w S) (agK4 X x y l Q) := nr rfl
theorem k_ag4 {w : D} : agK4 X x y l Q w S = (isDic x S = true ∧ Wp X (oSet x y w S) (agK5 l Q)) := nr rfl
theorem k_ag5 {u : Unit} : agK5 l Q u S = Q (.nx l) S := nr rfl
def dlK (X : XP) (g : M) (l : Ls) (Q : F → Hs → Prop) : D → Hs → Prop := fun x S1 => Wp X (g l S1) fun y S2 => Wp X (oDel x y S2) fun _ S3 => Q (.nx l) S3
def dlK2 (X : XP) (x : D) (l : Ls) (Q : F → Hs → Prop) : D → Hs → Prop := fun y S2 => Wp X (oDel x y S2) fun _ S3 => Q (.nx l) S3
theorem v_del : Wp X (mDel f g l S) Q = Wp X (f l S) (dlK X g l Q) := by
  unfold mDel; rw [v_bind]; congr 1; funext x S1; unfold bdK dlK; rw [v_bind]; congr 1; funext y S2; unfold bdK; rw [v_bind]; first | rfl | (congr 1; funext _ _; exact v_ok)
theorem k_dl : dlK X g l Q x S = Wp X (g l S) (dlK2 X x l Q) := nr rfl
theorem k_dl2 : dlK2 X x l Q y S = Wp X (oDel x y S) (agK5 l Q) := nr rfl
end
variable {Q : D → Hs → Prop}
def d3K (X : XP) (op : D → D → D → Hs → R D) (g h : M) (l : Ls) (Q : D → Hs → Prop) : D → Hs → Prop := fun x S1 => hasTy "dict" x S1 = true ∧ Wp X (g l S1) fun y S2 => Wp X (h l S2) fun z S3 => Wp X (op x y z S3) Q
def d3K2 (X : XP) (op : D → D → D → Hs → R D) (h : M) (x : D) (l : Ls) (Q : D → Hs → Prop) : D → Hs → Prop := fun y S2 => Wp X (h l S2) fun z S3 => Wp X (op x y z S3) Q
def d3K3 (X : XP) (op : D → D → D → Hs → R D) (x y : D) (Q : D → Hs → Prop) : D → Hs → Prop := fun z S3 => Wp X (op x y z S3) Q
theorem v_setd : Wp X (mSetd f g h l S) Q = Wp X (f l S) (d3K X oSetd g h l Q) := by
  unfold mSetd; rw [v_bind]; congr 1; funext x S1; unfold bdK d3K
  by_cases hh : hasTy "dict" x S1 = true
  · simp only [hh, true_and, if_true, v_bind]; congr 1; funext y S2; unfold bdK; rw [v_bind]; first | rfl | (congr 1; funext _ _; exact v_ok)
  · simp [hh, v_bad]
theorem v_pop2 : Wp X (mPop2 f g h l S) Q = Wp X (f l S) (d3K X oPop2 g h l Q) := by
  unfold mPop2; rw [v_bind]; congr 1; funext x S1; unfold bdK d3K
  by_cases hh : hasTy "dict" x S1 = true
  · simp only [hh, true_and, if_true, v_bind]; congr 1; funext y S2; unfold bdK; rw [v_bind]; first | rfl | (congr 1; funext _ _; exact v_ok)
  · simp [hh, v_bad]
variable {op3 : D → D → D → Hs → R D}
theorem k_d3 : d3K X op3 g h l Q x S = (hasTy "dict" x S = true ∧ Wp X (g l S) (d3K2 X op3 h x l Q)) := nr rfl
theorem k_d32 : d3K2 X op3 h x l Q y S = Wp X (h l S) (d3K3 X op3 x y Q) := nr rfl
theorem k_d33 : d3K3 X op3 x y Q z S = Wp X (op3 x y z S) Q := nr rfl
def g1K (X : XP) (g : M) (l : Ls) (Q : D → Hs → Prop) : D → Hs → Prop := fun x S => hasTy "dict" x S = true ∧ Wp X (g l S) fun y S2 => match dGet x y S2 with
  | some (some d) => Q d S2
  | some none => Q .non S2
  | none => False
def g1K2 (x : D) (Q : D → Hs → Prop) : D → Hs → Prop := fun y S2 => match dGet x y S2 with
  | some (some d) => Q d S2
  | some none => Q .non S2
  | none => False
theorem v_get1 : Wp X (mGet1 f g l S) Q = Wp X (f l S) (g1K X g l Q) := by
  unfold mGet1; rw [v_bind]; congr 1; funext x S1; unfold bdK g1K
  by_cases hh : hasTy "dict" x S1 = true
  · simp only [hh, true_and, if_true, v_bind]; congr 1; funext y S2; unfold bdK; simp only []
    cases dGet x y S2 with
    | none => first | rfl | exact v_bad | exact v_ok
    | some o => cases o <;> first | rfl | exact v_bad | exact v_ok
  · simp [hh, v_bad]
theorem k_g1 : g1K X g l Q x S = (hasTy "dict" x S = true ∧ Wp X (g l S) (g1K2 x Q)) := nr rfl
theorem k_g12 : g1K2 x Q y S = match dGet x y S with | some (some d) => Q d S | some none => Q .non S | none => False := nr rfl
variable {opr : Int → Int → Hs → R D}
def rgK (X : XP) (op : Int → Int → Hs → R D) (Q : D → Hs → Prop) : D → Hs → Prop := fun x S => Wp X (rg1 op [x] S) Q
theorem v_rg1 : Wp X (mRg1 opr f l S) Q = Wp X (f l S) (rgK X opr Q) := by unfold mRg1; rw [v_bind]; first | rfl | (congr 1; funext _ _; exact v_ok)
theorem k_rg {n : Int} : rgK X opr Q (.int n) S = Wp X (opr 0 n S) Q := nr rfl
def rg2K (X : XP) (op : Int → Int → Hs → R D) (g : M) (l : Ls) (Q : D → Hs → Prop) : D → Hs → Prop := fun x S => Wp X (g l S) fun y S2 => Wp X (rg1 op [x, y] S2) Q
def rg2K2 (X : XP) (op : Int → Int → Hs → R D) (x : D) (Q : D → Hs → Prop) : D → Hs → Prop := fun y S2 => Wp X (rg1 op [x, y] S2) Q
theorem v_rg2 : Wp X (mRg2 opr f g l S) Q = Wp X (f l S) (rg2K X opr g l Q) := by
  unfold mRg2; rw [v_bind]; congr 1; funext x S1; unfold bdK rg2K; rw [v_bind]; first | rfl | (congr 1; funext _ _; exact v_ok)
theorem k_rg2 : rg2K X opr g l Q x S = Wp X (g l S) (rg2K2 X opr x Q) := nr rfl
theorem k_rg22 {m n : Int} : rg2K2 X opr (.int m) Q (.int n) S = Wp X (opr m n S) Q := nr rfl
theorem v_dicK : Wp X (mDicK l S) Q = Q (.ref S.length) (S ++ [.dic []]) := v_ok
theorem v_dicT : Wp X (mDicT l S) Q = Q (.ref S.length) (S ++ [.dit []]) := v_ok
def dcK (X : XP) (gl : CG) (tt : MB) (tk tv : M) (l : Ls) (Q : D → Hs → Prop) : J → Hs → Prop := fun j S1 => Wp X (dcLoop j gl tt tk tv l S1.length 0 (S1 ++ [.dic []])) Q
theorem v_dc : Wp X (mDc it gl tt tk tv vs l S) Q = Wp X (it l S) (dcK X gl tt tk tv (wipeL l vs) Q) := by unfold mDc; rw [v_bind]; first | rfl | (congr 1; funext _ _; exact v_ok)
theorem k_dc {j : J} : dcK X gl tt tk tv l Q j S = Wp X (dcLoop j gl tt tk tv l S.length 0 (S ++ [.dic []])) Q := nr rfl
end
theorem ofString_inj {a b : String} : (Str.ofString a = Str.ofString b) = (a = b) := by
  rw [Str.ofString_eq_toList, Str.ofString_eq_toList, Str.mk.injEq]
  apply propext
  constructor
  · intro h
    have h := List.toArray_inj h
    have h2 : ∀ {xs ys : List Char}, xs.map Char.toNat = ys.map Char.toNat → xs = ys := by
      intro xs
      induction xs with
      | nil => intro ys e; cases ys with | nil => rfl | cons _ _ => cases e
      | cons x xs ih =>
        intro ys e
        cases ys with
        | nil => cases e
        | cons y ys =>
          simp only [List.map_cons, List.cons.injEq] at e
          rw [Char.toNat_inj.mp e.1, ih e.2]
    exact String.toList_inj.mp (h2 h)
  · rintro rfl; rfl
theorem beq_lit {a b : String} : (Str.ofString a == Str.ofString b) = (a == b) := by
  rw [Bool.eq_iff_iff]; simp [ofString_inj]
def enK (Q : D → Hs → Prop) : F → Hs → Prop := fun r S => match r with
  | .nx _ => Q .non S
  | .rt d => Q d S
  | _ => False
theorem k_en_rt {Q : D → Hs → Prop} {d : D} {S : Hs} : enK Q (.rt d) S = Q d S := nr rfl
theorem k_en_nx {Q : D → Hs → Prop} {l : Ls} {S : Hs} : enK Q (.nx l) S = Q .non S := nr rfl
theorem wp_def {np nl : Nat} {b : MS} {ds : List D} {S : Hs} {X : XP} {Q : D → Hs → Prop} (hl : ds.length = np) (h : Wp (fun c fs _ S => X c fs [] S) (b (ds.map some ++ List.replicate nl none) S) (enK Q)) : Wp X (mDef np nl b ds S) Q := by
  unfold mDef
  rw [if_pos hl]
  generalize b (ds.map some ++ List.replicate nl none) S = r at h
  cases r with
  | ok f S1 => cases f <;> exact ⟨h.un⟩
  | exc c fs l S1 => exact ⟨h.un⟩
  | bad => exact ⟨h.un⟩
theorem wp_def0 {np nl : Nat} {b : MS} {ds : List D} {S : Hs} {Q : D → Hs → Prop} (hl : ds.length = np) (h : Wp NoX (b (ds.map some ++ List.replicate nl none) S) (enK Q)) : Wp NoX (mDef np nl b ds S) Q := wp_def hl h
theorem atX_no {l : Ls} : atX NoX l = NoX := nr rfl
def tuK (I : Ls → Hs → Prop) (Q : F → Hs → Prop) : F → Hs → Prop := fun r S => match r with
  | .nx l => I l S
  | .ct l => I l S
  | .bk l => Q (.nx l) S
  | .rt d => Q (.rt d) S
section
variable {X : XP} {I : Ls → Hs → Prop} {Q : F → Hs → Prop} {l : Ls} {S : Hs} {d : D}
theorem k_tu_nx : tuK I Q (.nx l) S = I l S := nr rfl
theorem k_tu_ct : tuK I Q (.ct l) S = I l S := nr rfl
theorem k_tu_bk : tuK I Q (.bk l) S = Q (.nx l) S := nr rfl
theorem k_tu_rt : tuK I Q (.rt d) S = Q (.rt d) S := nr rfl
theorem wp_fLoop {j : J} {gg : MG} {b : MS} (N : Nat) (Inv : Nat → Ls → Hs → Prop) (hend : ∀ l S, Inv N l S → itGo j N S = some none)
    (hs : ∀ k l S, k < N → Inv k l S → ∃ d, itGo j k S = some (some d) ∧ Wp X (gg d l S) fun l1 S1 => Wp X (b l1 S1) (tuK (Inv (k + 1)) Q))
    (hd : ∀ l S, Inv N l S → Q (.nx l) S) : ∀ m k l S, k + m = N → Inv k l S → Wp X (fLoop j gg b k l S) Q
  | 0, k, l, S, e, h => by
    have hk : k = N := by omega
    subst hk
    rw [fLoop_eq, hend l S h]
    exact ⟨hd l S h⟩
  | m + 1, k, l, S, e, h => by
    obtain ⟨d, e1, h1⟩ := hs k l S (by omega) h
    rw [fLoop_eq, e1]
    simp only [v_bind]
    refine h1.mono (fun _ _ _ _ h => h) fun l1 S1 h2 => ?_
    unfold bdK
    rw [v_bind]
    refine h2.mono (fun _ _ _ _ h => h) fun r S2 h3 => ?_
    cases r with
    | nx l2 => exact wp_fLoop N Inv hend hs hd m (k + 1) l2 S2 (by omega) h3
    | ct l2 => exact wp_fLoop N Inv hend hs hd m (k + 1) l2 S2 (by omega) h3
    | bk l2 => exact ⟨h3⟩
    | rt d => exact ⟨h3⟩
theorem wp_rng {lo : Int} {n : Nat} {gg : MG} {b : MS} (Inv : Nat → Ls → Hs → Prop) (h0 : Inv 0 l S)
    (hs : ∀ k l S, k < n → Inv k l S → Wp X (gg (.int (lo + k)) l S) fun l1 S1 => Wp X (b l1 S1) (tuK (Inv (k + 1)) Q)) (hd : ∀ l S, Inv n l S → Q (.nx l) S) : Wp X (fLoop (.rng lo n) gg b 0 l S) Q :=
  wp_fLoop n Inv (fun l S h => by simp [itGo]) (fun k l S hk h => ⟨_, by simp [itGo, hk], hs k l S hk h⟩) hd n 0 l S (by omega) h0
theorem split_at {α : Type} {ds : List α} {k : Nat} {d : α} (h : ds[k]? = some d) : ds = ds.take k ++ d :: ds.drop (k + 1) := by
  obtain ⟨hk, rfl⟩ := List.getElem?_eq_some_iff.mp h
  simp
theorem take_at {α : Type} {ds : List α} {k : Nat} {d : α} (h : ds[k]? = some d) : ds.take (k + 1) = ds.take k ++ [d] := by
  rw [List.take_add_one, h]; rfl
theorem wp_tup {ds : List D} {gg : MG} {b : MS} (Inv : List D → Ls → Hs → Prop) (h0 : Inv [] l S)
    (hs : ∀ pre d post l S, ds = pre ++ d :: post → Inv pre l S → Wp X (gg d l S) fun l1 S1 => Wp X (b l1 S1) (tuK (Inv (pre ++ [d])) Q)) (hd : ∀ l S, Inv ds l S → Q (.nx l) S) : Wp X (fLoop (.tup ds) gg b 0 l S) Q := by
  refine wp_fLoop ds.length (fun k l S => Inv (ds.take k) l S) (fun l S h => by simp [itGo]) (fun k l S hk h => ?_) (fun l S h => hd l S (by simpa using h)) ds.length 0 l S (by omega) h0
  have e : ds[k]? = some ds[k] := List.getElem?_eq_getElem hk
  refine ⟨ds[k], by simp [itGo, e], ?_⟩
  have := hs _ _ _ l S (split_at e) h
  rwa [← take_at e] at this
theorem wp_while {c : MB} {b : MS} (Inv : Nat → Ls → Hs → Prop)
    (hs : ∀ m l S, Inv m l S → Wp X (c l S) fun t S1 => if t = true then Wp X (b l S1) (tuK (fun l2 S2 => ∃ m', m' < m ∧ Inv m' l2 S2) Q) else Q (.nx l) S1) : ∀ m l S, Inv m l S → Wp X (mWhile c b l S) Q := by
  intro m
  induction m using Nat.strongRecOn with
  | _ m ih =>
    intro l S h
    rw [mWhile_eq, v_bind]
    refine (hs m l S h).mono (fun _ _ _ _ h => h) fun t S1 h1 => ?_
    unfold bdK
    cases t with
    | false => exact ⟨h1⟩
    | true =>
      simp only [if_true] at h1 ⊢
      rw [v_bind]
      refine h1.mono (fun _ _ _ _ h => h) fun r S2 h2 => ?_
      unfold bdK
      cases r with
      | nx l2 => obtain ⟨m', hm, h3⟩ := h2; exact ih m' hm l2 S2 h3
      | ct l2 => obtain ⟨m', hm, h3⟩ := h2; exact ih m' hm l2 S2 h3
      | bk l2 => exact ⟨h2⟩
      | rt d => exact ⟨h2⟩
end
section
variable {X : XP} {Q : D → Hs → Prop} {l : Ls} {S : Hs} {j : J} {gl : CG} {tt : MB} {te : M} {it : MI} {vs : List Nat}
def lcK (X : XP) (gl : CG) (tt : MB) (te : M) (l : Ls) (Q : D → Hs → Prop) : J → Hs → Prop := fun j S1 => Wp X (cLoop j gl tt te l S1.length 0 (S1 ++ [.lst []])) Q
theorem v_lc : Wp X (mLc it gl tt te vs l S) Q = Wp X (it l S) (lcK X gl tt te (wipeL l vs) Q) := by unfold mLc; rw [v_bind]; rfl
theorem k_lc : lcK X gl tt te l Q j S = Wp X (cLoop j gl tt te l S.length 0 (S ++ [.lst []])) Q := nr rfl
def CTurn (gl : CG) (tt : MB) (te : M) (l : Ls) (n : Nat) (d : D) (S : Hs) (acc : List D) (I : List D → Hs → Prop) : Prop :=
  ∃ l1, gl d l = some l1 ∧ Wp NoX (tt l1 S) fun t S2 => if t = true then Wp NoX (te l1 S2) fun y S3 => S3[n]? = some (.lst acc) ∧ acc.length < sizeLine ∧ I (acc ++ [y]) (S3.set n (.lst (acc ++ [y]))) else I acc S2
theorem wp_cLoop {n : Nat} (N : Nat) (Inv : Nat → List D → Hs → Prop) (hend : ∀ acc S, Inv N acc S → itGo j N S = some none)
    (hs : ∀ k acc S, k < N → Inv k acc S → ∃ d, itGo j k S = some (some d) ∧ CTurn gl tt te l n d S acc (Inv (k + 1)))
    (hd : ∀ acc S, Inv N acc S → Q (.ref n) S) : ∀ m k acc S, k + m = N → Inv k acc S → Wp X (cLoop j gl tt te l n k S) Q
  | 0, k, acc, S, e, h => by
    have hk : k = N := by omega
    subst hk
    rw [cLoop_eq]
    simp only [cStep, hend acc S h]
    exact ⟨hd acc S h⟩
  | m + 1, k, acc, S, e, h => by
    obtain ⟨d, e1, l1, e2, h1⟩ := hs k acc S (by omega) h
    obtain ⟨t, S2, e3, h2⟩ := h1.ex
    rw [cLoop_eq]
    cases t with
    | false =>
      simp only [cStep, e1, e2, e3]
      exact wp_cLoop N Inv hend hs hd m (k + 1) acc S2 (by omega) h2
    | true =>
      obtain ⟨y, S3, e4, e5, e6, h3⟩ := Wp.ex h2
      simp only [cStep, e1, e2, e3, e4, e5, e6, if_true]
      exact wp_cLoop N Inv hend hs hd m (k + 1) _ _ (by omega) h3
theorem wp_lcRng {n : Nat} {lo : Int} {m : Nat} (Inv : Nat → List D → Hs → Prop) (h0 : Inv 0 [] S) (hs : ∀ k acc S, k < m → Inv k acc S → CTurn gl tt te l n (.int (lo + k)) S acc (Inv (k + 1)))
    (hd : ∀ acc S, Inv m acc S → Q (.ref n) S) : Wp X (cLoop (.rng lo m) gl tt te l n 0 S) Q :=
  wp_cLoop m Inv (fun acc S h => by simp [itGo]) (fun k acc S hk h => ⟨_, by simp [itGo, hk], hs k acc S hk h⟩) hd m 0 [] S (by omega) h0
def DTurn (gl : CG) (tt : MB) (tk tv : M) (l : Ls) (n : Nat) (d : D) (S : Hs) (acc : List (Key × D)) (I : List (Key × D) → Hs → Prop) : Prop :=
  ∃ l1, gl d l = some l1 ∧ Wp NoX (tt l1 S) fun t S2 => if t = true then Wp NoX (tk l1 S2) fun y S3 => Wp NoX (tv l1 S3) fun z S4 => S4[n]? = some (.dic acc) ∧ acc.length < sizeLine ∧ ∃ k, y.key = some k ∧ I (setK acc k z) (S4.set n (.dic (setK acc k z))) else I acc S2
theorem wp_dcLoop {n : Nat} {tk tv : M} (N : Nat) (Inv : Nat → List (Key × D) → Hs → Prop) (hend : ∀ acc S, Inv N acc S → itGo j N S = some none)
    (hs : ∀ k acc S, k < N → Inv k acc S → ∃ d, itGo j k S = some (some d) ∧ DTurn gl tt tk tv l n d S acc (Inv (k + 1)))
    (hd : ∀ acc S, Inv N acc S → Q (.ref n) S) : ∀ m k acc S, k + m = N → Inv k acc S → Wp X (dcLoop j gl tt tk tv l n k S) Q
  | 0, k, acc, S, e, h => by
    have hk : k = N := by omega
    subst hk
    rw [dcLoop_eq]
    simp only [dcStep, hend acc S h]
    exact ⟨hd acc S h⟩
  | m + 1, k, acc, S, e, h => by
    obtain ⟨d, e1, l1, e2, h1⟩ := hs k acc S (by omega) h
    obtain ⟨t, S2, e3, h2⟩ := h1.ex
    rw [dcLoop_eq]
    cases t with
    | false =>
      simp only [dcStep, e1, e2, e3]
      exact wp_dcLoop N Inv hend hs hd m (k + 1) acc S2 (by omega) h2
    | true =>
      obtain ⟨y, S3, e4, h3⟩ := Wp.ex h2
      obtain ⟨z, S4, e4', e5, e6, k0, ek, h4⟩ := Wp.ex h3
      simp only [dcStep, e1, e2, e3, e4, e4', e5, e6, ek, if_true]
      exact wp_dcLoop N Inv hend hs hd m (k + 1) _ _ (by omega) h4
theorem wp_dcRng {n : Nat} {lo : Int} {m : Nat} {tk tv : M} (Inv : Nat → List (Key × D) → Hs → Prop) (h0 : Inv 0 [] S) (hs : ∀ k acc S, k < m → Inv k acc S → DTurn gl tt tk tv l n (.int (lo + k)) S acc (Inv (k + 1)))
    (hd : ∀ acc S, Inv m acc S → Q (.ref n) S) : Wp X (dcLoop (.rng lo m) gl tt tk tv l n 0 S) Q :=
  wp_dcLoop m Inv (fun acc S h => by simp [itGo]) (fun k acc S hk h => ⟨_, by simp [itGo, hk], hs k acc S hk h⟩) hd m 0 [] S (by omega) h0
end
def Kp (X : List Nat) (S S' : Hs) : Prop := S.length ≤ S'.length ∧ ∀ i, i < S.length → i ∉ X → S'[i]? = S[i]?
section
variable {A B : List Nat} {S S1 S2 g : Hs} {i n : Nat} {o : O}
theorem Kp.refl : Kp A S S := ⟨Nat.le_refl _, fun _ _ _ => rfl⟩
theorem Kp.trans (a : Kp A S S1) (b : Kp A S1 S2) : Kp A S S2 := ⟨Nat.le_trans a.1 b.1, fun i h hn => (b.2 i (Nat.lt_of_lt_of_le h a.1) hn).trans (a.2 i h hn)⟩
theorem Kp.sub (a : Kp A S S1) (h : ∀ i ∈ A, i < S.length → i ∈ B) : Kp B S S1 := ⟨a.1, fun i hi hn => a.2 i hi fun hm => hn (h i hm hi)⟩
theorem Kp.le (a : Kp A S S1) : S.length ≤ S1.length := a.1
theorem Kp.get (a : Kp A S S1) (h : S[i]? = some o) (hn : i ∉ A) : S1[i]? = some o := (a.2 i (Real.lt h) hn).trans h
theorem Kp.new : Kp A S (S ++ g) := ⟨by simp, fun i h _ => List.getElem?_append_left h⟩
theorem Kp.app (a : Kp A S S1) : Kp A S (S1 ++ g) := a.trans Kp.new
theorem Kp.set (h : i ∈ A) : Kp A S (S.set i o) := ⟨by simp, fun k hk hn => List.getElem?_set_ne (fun e => by subst e; exact hn h)⟩
theorem Kp.setNew (a : Kp A S S1) (h : S.length ≤ i) : Kp A S (S1.set i o) := ⟨by rw [List.length_set]; exact a.1, fun k hk hn => (List.getElem?_set_ne (by omega)).trans (a.2 k hk hn)⟩
theorem Kp.setIn (a : Kp A S S1) (h : i ∈ A) : Kp A S (S1.set i o) := a.trans (Kp.set h)
theorem Kp.after (a : Kp A S S1) (b : Kp B S1 S2) (h : ∀ i ∈ B, i < S.length → i ∈ A) : Kp A S S2 := ⟨Nat.le_trans a.1 b.1, fun i hi hn => (b.2 i (Nat.lt_of_lt_of_le hi a.1) (fun hm => hn (h i hm hi))).trans (a.2 i hi hn)⟩
theorem Kp.seqAt (a : Kp A S S1) {ds : List D} (h : seqAt S i = some ds) (hn : i ∉ A) : Ly.seqAt S1 i = some ds := by
  unfold Ly.seqAt seqD at h ⊢
  simp only at h ⊢
  split at h
  · rename_i q; rw [a.get q hn]; exact h
  · rename_i q; rw [a.get q hn]; exact h
  · cases h
end
end Ly
set_option Elab.async false
set_option linter.all false
set_option maxRecDepth 100000
namespace Ly
open PySem PySem.Spec L2
open PyProof.Rows hiding St
section
variable {X : XP} {Q : F → Hs → Prop} {l : Ls} {S : Hs} {α : Type} (f : α → D) {xs : List α}
theorem wp_tupM {gg : MG} {b : MS} (Inv : List α → Ls → Hs → Prop) (h0 : Inv [] l S)
    (hs : ∀ pre x post l S, xs = pre ++ x :: post → Inv pre l S → Wp X (gg (f x) l S) fun l1 S1 => Wp X (b l1 S1) (tuK (Inv (pre ++ [x])) Q)) (hd : ∀ l S, Inv xs l S → Q (.nx l) S) : Wp X (fLoop (.tup (xs.map f)) gg b 0 l S) Q := by
  refine wp_fLoop xs.length (fun k l S => Inv (xs.take k) l S) (fun l S h => by simp [itGo]) (fun k l S hk h => ?_) (fun l S h => hd l S (by simpa using h)) xs.length 0 l S (by omega) h0
  have e : xs[k]? = some xs[k] := List.getElem?_eq_getElem hk
  refine ⟨f xs[k], by simp [itGo, e], ?_⟩
  have := hs _ _ _ l S (split_at e) h
  rwa [← take_at e] at this
theorem wp_tup0 {gg : MG} {b : MS} (h : Q (.nx l) S) : Wp X (fLoop (.tup []) gg b 0 l S) Q := by
  rw [fLoop_eq]; exact ⟨h⟩
theorem wp_tup1 {gg : MG} {b : MS} {d : D} (h : Wp X (gg d l S) fun l1 S1 => Wp X (b l1 S1) (tuK (fun l2 S2 => Q (.nx l2) S2) Q)) : Wp X (fLoop (.tup [d]) gg b 0 l S) Q := by
  refine wp_tup (fun pre l' S' => (pre = [] ∧ l' = l ∧ S' = S) ∨ (pre = [d] ∧ Q (.nx l') S')) (.inl ⟨rfl, rfl, rfl⟩) ?_ ?_
  · intro pre x post l' S' e hI
    rcases hI with ⟨rfl, rfl, rfl⟩ | ⟨rfl, _⟩
    · simp only [List.nil_append, List.cons.injEq] at e
      obtain ⟨rfl, _⟩ := e
      refine h.mono (fun _ _ _ _ h => h) fun l1 S1 h1 => h1.mono (fun _ _ _ _ h => h) fun r S2 h2 => ?_
      cases r with
      | nx l2 => exact .inr ⟨rfl, h2⟩
      | ct l2 => exact .inr ⟨rfl, h2⟩
      | bk l2 => exact h2
      | rt d => exact h2
    · simp at e
  · intro l' S' hI
    rcases hI with ⟨e, _⟩ | ⟨_, h⟩
    · cases e
    · exact h
variable {P : D → Hs → Prop} {gl : CG} {tt : MB} {te : M}
theorem wp_lcTupM {n : Nat} (Inv : List α → List D → Hs → Prop) (h0 : Inv [] [] S) (hs : ∀ pre x post acc S, xs = pre ++ x :: post → Inv pre acc S → CTurn gl tt te l n (f x) S acc (Inv (pre ++ [x])))
    (hd : ∀ acc S, Inv xs acc S → P (.ref n) S) : Wp X (cLoop (.tup (xs.map f)) gl tt te l n 0 S) P := by
  refine wp_cLoop xs.length (fun k acc S => Inv (xs.take k) acc S) (fun acc S h => by simp [itGo]) (fun k acc S hk h => ?_) (fun acc S h => hd acc S (by simpa using h)) xs.length 0 [] S (by omega) h0
  have e : xs[k]? = some xs[k] := List.getElem?_eq_getElem hk
  refine ⟨f xs[k], by simp [itGo, e], ?_⟩
  have := hs _ _ _ acc S (split_at e) h
  rwa [← take_at e] at this
theorem lc_pure {j : J} (g : α → Option D) (hj : ∀ S', Kp [] S S' → ∀ k, k ≤ xs.length → itGo j k S' = some ((xs[k]?).map f)) (hx : xs.length ≤ 1000000)
    (hs : ∀ x ∈ xs, ∀ S', Kp [] S S' → ∃ l1, gl (f x) l = some l1 ∧ Wp NoX (tt l1 S') fun t S2 => Kp [] S' S2 ∧ if t = true then Wp NoX (te l1 S2) fun y S3 => Kp [] S2 S3 ∧ g x = some y else g x = none)
    (hd : ∀ S', S'[S.length]? = some (.lst (xs.filterMap g)) → Kp [] S S' → P (.ref S.length) S') : Wp X (cLoop j gl tt te l S.length 0 (S ++ [.lst []])) P := by
  refine wp_cLoop xs.length (fun k acc S' => acc = (xs.take k).filterMap g ∧ S'[S.length]? = some (.lst acc) ∧ Kp [] S S') (fun acc S' h => ?_) (fun k acc S' hk h => ?_) (fun acc S' h => ?_) xs.length 0 [] _ (by omega) ⟨by simp, by simp, Kp.new⟩
  · rw [hj S' h.2.2 _ (Nat.le_refl _), List.getElem?_eq_none (Nat.le_refl _)]; rfl
  · obtain ⟨rfl, h1, h2⟩ := h
    have e : xs[k]? = some xs[k] := List.getElem?_eq_getElem hk
    obtain ⟨l1, e1, h3⟩ := hs xs[k] (List.getElem_mem hk) S' h2
    refine ⟨f xs[k], by rw [hj S' h2 _ (Nat.le_of_lt hk), e]; rfl, l1, e1, ?_⟩
    refine h3.mono (fun _ _ _ _ h => h) ?_
    rintro t S2 ⟨k1, h4⟩
    rw [take_at e, List.filterMap_append]
    have hb : ((xs.take k).filterMap g).length < sizeLine := by
      refine line_big (Nat.le_trans (List.length_filterMap_le _ _) ?_)
      simp; omega
    cases t with
    | false =>
      simp only [Bool.false_eq_true, if_false] at h4 ⊢
      simp only [List.filterMap_cons, h4, List.filterMap_nil, List.append_nil]
      exact ⟨trivial, k1.get h1 (by simp), h2.trans k1⟩
    | true =>
      simp only [if_true] at h4 ⊢
      refine h4.mono (fun _ _ _ _ h => h) ?_
      rintro y S3 ⟨k2, h5⟩
      have h6 := k2.get (k1.get h1 (by simp)) (by simp)
      simp only [List.filterMap_cons, h5, List.filterMap_nil]
      exact ⟨h6, hb, trivial, get_put h6, ((h2.trans k1).trans k2).setNew (Nat.le_refl _)⟩
  · obtain ⟨rfl, h1, h2⟩ := h
    exact hd S' (by simpa using h1) h2
end
end Ly
set_option Elab.async false
set_option linter.all false
set_option maxRecDepth 100000
namespace Ly
open PySem PySem.Spec L2
open PyProof.Rows hiding St
section
variable {X : XP} {Q : D → Hs → Prop} {h : MP} {l : Ls} {S : Hs}
def dsK (n : Nat) (Q : D → Hs → Prop) : List (D × D) → Hs → Prop := fun ps S1 => ∃ kvs, keysP ps = some kvs ∧ S1[n]? = some (.dic []) ∧ kvs.length ≤ 15 ∧ Q (.ref n) (S1.set n (.dic (mergeD [] kvs)))
theorem v_disp (H : Wp X (h l (S ++ [.dic []])) (dsK S.length Q)) : Wp X (mDisp h l S) Q := by
  unfold mDisp
  rw [v_bind]
  refine H.mono (fun _ _ _ _ h => h) ?_
  rintro ps S1 ⟨kvs, e1, e2, e3, e4⟩
  unfold bdK
  simp only [e1, e2, e3, if_true]
  exact ⟨e4⟩
variable {Q : List (D × D) → Hs → Prop} {f g : M}
theorem v_dpNil : Wp X (dpNil l S) Q = Q [] S := v_ok
def dpK (X : XP) (g : M) (h : MP) (l : Ls) (Q : List (D × D) → Hs → Prop) : D → Hs → Prop := fun x S1 => Wp X (g l S1) fun y S2 => Wp X (h l S2) fun r S3 => Q ((x, y) :: r) S3
def dpK2 (X : XP) (h : MP) (x : D) (l : Ls) (Q : List (D × D) → Hs → Prop) : D → Hs → Prop := fun y S2 => Wp X (h l S2) fun r S3 => Q ((x, y) :: r) S3
def dpK3 (x y : D) (Q : List (D × D) → Hs → Prop) : List (D × D) → Hs → Prop := fun r S3 => Q ((x, y) :: r) S3
theorem v_dpCons : Wp X (dpCons f g h l S) Q = Wp X (f l S) (dpK X g h l Q) := by
  unfold dpCons; rw [v_bind]; congr 1; funext x S1; unfold bdK dpK; rw [v_bind]; congr 1; funext y S2; unfold bdK; rw [v_bind]; congr 1; funext r S3; exact v_ok
theorem k_dp {x : D} : dpK X g h l Q x S = Wp X (g l S) (dpK2 X h x l Q) := nr rfl
theorem k_dp2 {x y : D} : dpK2 X h x l Q y S = Wp X (h l S) (dpK3 x y Q) := nr rfl
theorem k_dp3 {x y : D} {ps : List (D × D)} : dpK3 x y Q ps S = Q ((x, y) :: ps) S := nr rfl
end
section
variable {X : XP} {cs : List Addr} {f m : Str} {o e : M} {l : Ls} {S S1 : Hs} {i : Nat} {C : Addr} {fs : List (Str × D)} {d x y : D} {ds : List D} {g : ML} {md : MD} {tbl : List (Addr × MD)} {op : D → D → Hs → R D}
section
variable {Q : D → Hs → Prop}
def flK (cs : List Addr) (f : Str) (Q : D → Hs → Prop) : D → Hs → Prop := fun x S1 => match x with
  | .ref i => match S1[i]? with
    | some (.ins C fs) => C ∈ cs ∧ (match fs.lookup f with
      | some d => Q d S1
      | none => False)
    | _ => False
  | _ => False
theorem v_fld : Wp X (mFld cs f o l S) Q = Wp X (o l S) (flK cs f Q) := by
  unfold mFld; rw [v_bind]; congr 1; funext x S1; unfold bdK flK
  cases x with
  | ref i =>
    simp only []
    cases S1[i]? with
    | none => exact v_bad
    | some u =>
      cases u with
      | ins C fs =>
        simp only []
        by_cases h : C ∈ cs
        · simp only [h, if_true, true_and]; cases fs.lookup f <;> first | exact v_ok | exact v_bad
        · simp only [h, if_false, false_and]; exact v_bad
      | _ => exact v_bad
  | _ => exact v_bad
theorem k_fl (h : S[i]? = some (.ins C fs)) : flK cs f Q (.ref i) S = (C ∈ cs ∧ (match fs.lookup f with | some d => Q d S | none => False)) := by simp only [flK, h]
def meK2 (X : XP) (md : MD) (i : Nat) (l : Ls) (Q : D → Hs → Prop) : List D → Hs → Prop := fun ds S2 => Wp (atX X l) (md (.ref i :: ds) S2) Q
def meK (X : XP) (tbl : List (Addr × MD)) (m : Str) (g : ML) (l : Ls) (Q : D → Hs → Prop) : D → Hs → Prop := fun x S1 => match x with
  | .ref i => match S1[i]? with
    | some (.ins C fs) => (match tbl.lookup C with
      | some md => fs.lookup m = none ∧ Wp X (g l S1) (meK2 X md i l Q)
      | none => False)
    | _ => False
  | _ => False
theorem v_meth : Wp X (mMeth tbl m o g l S) Q = Wp X (o l S) (meK X tbl m g l Q) := by
  unfold mMeth; rw [v_bind]; congr 1; funext x S1; unfold bdK meK
  cases x with
  | ref i =>
    simp only []
    cases S1[i]? with
    | none => exact v_bad
    | some u =>
      cases u with
      | ins C fs =>
        simp only []
        cases tbl.lookup C with
        | none => exact v_bad
        | some md =>
          simp only [Option.isNone_iff_eq_none]
          by_cases h : fs.lookup m = none
          · simp only [h, if_true, true_and]; rw [v_bind]; congr 1; funext ds S2; unfold bdK meK2; rw [v_at]
          · simp only [h, if_false, false_and]; exact v_bad
      | _ => exact v_bad
  | _ => exact v_bad
theorem k_me (h : S[i]? = some (.ins C fs)) : meK X tbl m g l Q (.ref i) S = (match tbl.lookup C with | some md => fs.lookup m = none ∧ Wp X (g l S) (meK2 X md i l Q) | none => False) := by simp only [meK, h]
theorem k_me2 : meK2 X md i l Q ds S = Wp (atX X l) (md (.ref i :: ds) S) Q := nr rfl
def mkK (X : XP) (C : Addr) (md : MD) (l : Ls) (Q : D → Hs → Prop) : List D → Hs → Prop := fun ds S1 => Wp (atX X l) (md (.ref S1.length :: ds) (S1 ++ [.ins C []])) fun d S2 => d = .non ∧ Q (.ref S1.length) S2
theorem v_make : Wp X (mMake C md g l S) Q = Wp X (g l S) (mkK X C md l Q) := by
  unfold mMake; rw [v_bind]; congr 1; funext ds S1; unfold bdK mkK; rw [v_bind, v_at]; congr 1; funext d S2; unfold bdK
  cases d with
  | non => simp only [v_ok, true_and]
  | _ => simp only [v_bad, reduceCtorEq, false_and]
theorem k_mk : mkK X C md l Q ds S = Wp (atX X l) (md (.ref S.length :: ds) (S ++ [.ins C []])) fun d S2 => d = .non ∧ Q (.ref S.length) S2 := nr rfl
theorem look1 {α β : Type} [BEq α] [LawfulBEq α] {a : α} {b : β} {r : List (α × β)} : ((a, b) :: r).lookup a = some b := by rw [List.lookup_cons, beq_self_eq_true]
end
section
variable {Q : F → Hs → Prop}
def fsK (X : XP) (cs : List Addr) (f : Str) (o : M) (l : Ls) (Q : F → Hs → Prop) : D → Hs → Prop := fun d S1 => Wp X (o l S1) fun x S2 => match x with
  | .ref i => match S2[i]? with
    | some (.ins C fs) => C ∈ cs ∧ fs.length < 1000 ∧ Q (.nx l) (S2.set i (.ins C (putD f d fs)))
    | _ => False
  | _ => False
def fsK2 (cs : List Addr) (f : Str) (d : D) (l : Ls) (Q : F → Hs → Prop) : D → Hs → Prop := fun x S2 => match x with
  | .ref i => match S2[i]? with
    | some (.ins C fs) => C ∈ cs ∧ fs.length < 1000 ∧ Q (.nx l) (S2.set i (.ins C (putD f d fs)))
    | _ => False
  | _ => False
theorem v_fldset : Wp X (mFldSet cs f e o l S) Q = Wp X (e l S) (fsK X cs f o l Q) := by
  unfold mFldSet; rw [v_bind]; congr 1; funext d S1; unfold bdK fsK; rw [v_bind]; congr 1; funext x S2; unfold bdK
  cases x with
  | ref i =>
    simp only []
    cases S2[i]? with
    | none => exact v_bad
    | some u =>
      cases u with
      | ins C fs =>
        simp only []
        by_cases h : C ∈ cs
        · by_cases h2 : fs.length < 1000
          · simp only [h, h2, and_self, if_true, true_and]; exact v_ok
          · simp only [h, h2, and_false, if_false, false_and]; exact v_bad
        · simp only [h, if_false, false_and]; exact v_bad
      | _ => exact v_bad
  | _ => exact v_bad
theorem k_fs : fsK X cs f o l Q d S = Wp X (o l S) (fsK2 cs f d l Q) := nr rfl
theorem k_fs2 (h : S[i]? = some (.ins C fs)) : fsK2 cs f d l Q (.ref i) S = (C ∈ cs ∧ fs.length < 1000 ∧ Q (.nx l) (S.set i (.ins C (putD f d fs)))) := by simp only [fsK2, h]
def faK3 (C : Addr) (f : Str) (i : Nat) (l : Ls) (Q : F → Hs → Prop) : D → Hs → Prop := fun z S3 => match S3[i]? with
  | some (.ins C' fs') => C' = C ∧ fs'.length < 1000 ∧ Q (.nx l) (S3.set i (.ins C (putD f z fs')))
  | _ => False
def faK2 (X : XP) (op : D → D → Hs → R D) (C : Addr) (f : Str) (i : Nat) (d0 : D) (l : Ls) (Q : F → Hs → Prop) : D → Hs → Prop := fun d S2 => Wp X (op d0 d S2) (faK3 C f i l Q)
def faK (X : XP) (cs : List Addr) (f : Str) (op : D → D → Hs → R D) (e : M) (l : Ls) (Q : F → Hs → Prop) : D → Hs → Prop := fun x S1 => match x with
  | .ref i => match S1[i]? with
    | some (.ins C fs) => C ∈ cs ∧ (match fs.lookup f with
      | some d0 => Wp X (e l S1) (faK2 X op C f i d0 l Q)
      | none => False)
    | _ => False
  | _ => False
theorem v_fldaug : Wp X (mFldAug cs f op o e l S) Q = Wp X (o l S) (faK X cs f op e l Q) := by
  unfold mFldAug; rw [v_bind]; congr 1; funext x S1; unfold bdK faK
  cases x with
  | ref i =>
    simp only []
    cases S1[i]? with
    | none => exact v_bad
    | some u =>
      cases u with
      | ins C fs =>
        simp only []
        by_cases h : C ∈ cs
        · simp only [h, if_true, true_and]
          cases fs.lookup f with
          | none => exact v_bad
          | some d0 =>
            simp only []
            rw [v_bind]; congr 1; funext d S2; unfold bdK faK2; rw [v_bind]; congr 1; funext z S3; unfold bdK faK3; dsimp only
            cases S3[i]? with
            | none => exact v_bad
            | some u =>
              cases u with
              | ins C' fs' =>
                simp only []
                by_cases h : C' = C
                · by_cases h2 : fs'.length < 1000
                  · simp only [h, h2, and_self, if_true, true_and]; exact v_ok
                  · simp only [h, h2, and_false, if_false, false_and, and_false]; exact v_bad
                · simp only [h, if_false, false_and]; exact v_bad
              | _ => exact v_bad
        · simp only [h, if_false, false_and]; exact v_bad
      | _ => exact v_bad
  | _ => exact v_bad
theorem k_fa2 {d0 : D} : faK2 X op C f i d0 l Q d S = Wp X (op d0 d S) (faK3 C f i l Q) := nr rfl
end
end
end Ly
set_option Elab.async false
set_option linter.all false
set_option maxRecDepth 100000
namespace Ly
open PySem PySem.Spec L2
open PyProof.Rows hiding St
section
variable {K : PySem.W.Frag} {E : St → XK}
end
section
variable {X : Cx} {E : St → XK} {e o : Expr} {f g : M} {fl : ML} {p pos apos cpos : Pos}
end
section
variable {X : XP} {f g : M} {l : Ls} {S : Hs} {x y : D} {Q : D → Hs → Prop}
end
end Ly
set_option Elab.async false
set_option linter.all false
set_option maxRecDepth 100000
set_option maxHeartbeats 4000000
namespace Ly
open PySem PySem.Spec L2
open PyProof.Rows hiding St
section
variable {X : Cx}
end
section
variable {X : Cx} {E : St → XK} {a b : Expr} {f g : M} {pos : Pos}
end
section
variable {X : XP} {op op' : D → D → Hs → R D} {f g h : M} {l : Ls} {S : Hs} {x y z d : D} {Q : Bool → Hs → Prop}
end
end Ly
set_option Elab.async false
set_option linter.all false
set_option maxRecDepth 100000
set_option maxHeartbeats 4000000
namespace Ly
open PySem PySem.Spec L2
open PyProof.Rows hiding St
section
variable {X : Cx}
end
section
variable {X : Cx} {E : St → XK} {e : Expr} {f : M} {p p2 pos pos2 : Pos}
end
end Ly
set_option Elab.async false
set_option linter.all false
set_option maxRecDepth 100000
namespace Ly
open PySem PySem.Spec L2
open PyProof.Rows hiding St
section
variable {X : Cx} {E : St → XK} {o : Expr} {eo : M} {to : TE} {f : Str} {cs : List Addr} {pos : Pos}
end
section
variable {X : XP} {cs : List Addr} {f : Str} {o : M} {l : Ls} {S : Hs} {i : Nat} {C : Addr} {fs : List (Str × D)} {d x : D} {Q : Ls → Hs → Prop}
end
theorem flats_vals : ∀ {us : List Value} {ds : List D}, us.map absV = ds.map flatC → (ds.all fun d => (flatC d).isSome) = true → ∃ vs : List V, Vals vs us ∧ ∀ K p n H, Reps K p n H ds vs
  | [], [], _, _ => ⟨[], .nil, fun _ _ _ _ => .nil⟩
  | [], _ :: _, h, _ => by cases h
  | _ :: _, [], h, _ => by cases h
  | u :: us, d :: ds, h, k => by
    simp only [List.map_cons, List.cons.injEq] at h
    simp only [List.all_cons, Bool.and_eq_true] at k
    obtain ⟨vs, h1, h2⟩ := flats_vals h.2 k.2
    cases d with
    | int i =>
      cases u <;> first | (have e := h.1; simp only [absV, flatC] at e; cases e; exact ⟨V.int _ :: vs, .cons ⟨_, rfl⟩ h1, fun K p n H => .cons (.int _) (h2 K p n H)⟩) | (have e := h.1; simp only [absV, flatC] at e; cases e)
    | str i =>
      cases u <;> first | (have e := h.1; simp only [absV, flatC] at e; cases e; exact ⟨V.str _ :: vs, .cons ⟨_, rfl⟩ h1, fun K p n H => .cons (.str _) (h2 K p n H)⟩) | (have e := h.1; simp only [absV, flatC] at e; cases e)
    | _ => simp [flatC] at k
theorem gv_flats {K : PySem.W.Frag} {mg : Str → Option Value} {x : Str} {a : Addr} {od : Option Addr} {its : Array Value} {n : Nat} {sl : Array (Option Value)} {ds : List D} (h : mg x = some (.ref a)) (l : K.lookup a = some ⟨.type "tuple", od, .seq its n, sl⟩)
    (e : its.toList.map absV = ds.map flatC) (k : (ds.all fun d => (flatC d).isSome) = true := by rfl) (hz : ds.length ≤ sizeLine := by decide) : GV K mg x (.wt ds) := by
  obtain ⟨vs, h1, h2⟩ := flats_vals e k
  refine ⟨.ref a, .ref a, h, rfl, fun p m H => .wt (xs := vs) ⟨_, its, n, l, rfl, rfl, ?_, h1⟩ (h2 K p m H)⟩
  have := h1.length
  have e2 := congrArg List.length e
  simp only [List.length_map, Array.length_toList] at this e2
  omega
theorem kv_flats {K : PySem.W.Frag} {a : Addr} {od : Option Addr} {its : Array Value} {n : Nat} {sl : Array (Option Value)} {ds : List D} (l : K.lookup a = some ⟨.type "tuple", od, .seq its n, sl⟩)
    (e : its.toList.map absV = ds.map flatC) (k : (ds.all fun d => (flatC d).isSome) = true := by rfl) (hz : ds.length ≤ sizeLine := by decide) : KV K (.ref a) (.wt ds) := by
  obtain ⟨u, v, h1, h2, h3⟩ := gv_flats (K := K) (mg := fun _ => some (.ref a)) (x := "x") rfl l e k hz
  cases h1
  exact ⟨v, h2, h3⟩
theorem FOk.one {K : PySem.W.Frag} {cs : List Addr} {f : Str} {C : Addr} (h : FOk K cs f) (hc : C ∈ cs) : FOk K [C] f := fun C' h' => by
  rw [List.mem_singleton] at h'; subst h'; exact h _ hc
end Ly
set_option Elab.async false
set_option linter.all false
set_option maxRecDepth 100000
set_option maxHeartbeats 4000000
namespace Ly
open PySem PySem.Spec L2
open PyProof.Rows hiding St
section
variable {X : Cx}
end
end Ly
set_option Elab.async false
set_option linter.all false
set_option maxRecDepth 100000
namespace Ly
open PySem PySem.Spec L2
open PyProof.Rows hiding St
section
variable {K : PySem.W.Frag} {E : St → XK}
end
end Ly
set_option Elab.async false
set_option linter.all false
set_option maxRecDepth 100000
namespace Ly
open PySem PySem.Spec L2
open PyProof.Rows hiding St
open RZ
section
variable {X : Cx} {E : St → XK} {e : Expr} {f : M} {p p2 pos pos2 : Pos}
end
end Ly
set_option Elab.async false
set_option linter.all false
set_option maxRecDepth 100000
namespace Ly
open PySem PySem.Spec L2
open PyProof.Rows hiding St
section
variable {prog : Program} {w : World} {A : Around} {E : Value → Shared → Prop} {s : Shared}
end
section
variable {X : Cx} {E : St → XK} {e : Expr} {f : ML} {p pos : Pos}
end
end Ly
set_option Elab.async false
set_option linter.all false
set_option maxRecDepth 100000
namespace Ly
open PySem PySem.Spec L2
open PyProof.Rows hiding St
section
variable {P : Program} {w : World} {A : Around} {E : Value → Shared → Prop} {s : Shared}
set_option maxRecDepth 100000 in
set_option maxHeartbeats 3200000 in
end
section
variable {X : Cx} {E : St → XK} {e : Expr} {f : M} {p p2 pos pos2 : Pos}
end
end Ly
set_option Elab.async false
set_option linter.all false
set_option maxRecDepth 100000
namespace Ly
open PySem PySem.Spec L2
open PyProof.Rows hiding St
def maxDf (d : Int) : List Int → Int
  | [] => d
  | n :: ns => ns.foldl max n
def rMaxDf (K : PySem.W.Frag) : List V → List V → Hp → VK → Prop := fun vs zs H Q => ∃ (a : Addr) (ns : List Int) (d : Int), vs = [V.ref a] ∧ zs = [V.int d] ∧ SqL K H a (ns.map V.int) ∧ Q (.int (maxDf d ns)) H
theorem dp_ints {K : PySem.W.Frag} {H : Hp} : ∀ ns : List Int, DpAll K H (ns.map V.int) (ns.map PyData.int)
  | [] => .nil
  | n :: ns => .cons (.int n) (dp_ints ns)
theorem depth_ints : ∀ ns : List Int, PyData.depthAll (ns.map PyData.int) ≤ 1
  | [] => by simp [PyData.depthAll]
  | n :: ns => by
    have := depth_ints ns
    simp only [List.map_cons, PyData.depthAll, PyData.depth]; omega
theorem cr_maxDf {X : Cx} (hc : X.calm = true) (hu : X.A.units + 64 < cLine) : CallRK X (.builtin "max") [Str.ofString "default"] (rMaxDf X.K) := by
  intro pins s σ H xs zs us ws Q I r rz h
  obtain ⟨a, ns, d, rfl, rfl, hs, q⟩ := h
  obtain ⟨its, rv, hl, hz⟩ := I.list hs
  rw [Vals.ref1 r]
  cases rz with
  | cons r0 rz =>
  cases rz
  obtain ⟨t, rfl⟩ := r0
  obtain ⟨as, hr⟩ := Dp.readsAll I _ _ its (dp_ints ns) rv
  refine PySem.W.max_list_default (xs := ns.map PyData.int) (I.ok.hd hc) hl.isList (by simpa using hr) ⟨fun x hx y hy => ?_, fun x hx => ?_⟩ (by have := depth_ints ns; omega) (fun e g tk hk => ?_) fun y ys i v g tk bs e hv hR hk => ?_
  · obtain ⟨i, _, rfl⟩ := List.mem_map.mp hx
    obtain ⟨j, _, rfl⟩ := List.mem_map.mp hy
    rfl
  · obtain ⟨i, _, rfl⟩ := List.mem_map.mp hx
    exact nofun
  · have : ns = [] := List.map_eq_nil_iff.mp e
    subst this
    exact ⟨.int d, H, I.kept hk, ⟨t, rfl⟩, q⟩
  · cases ns with
    | nil => cases e
    | cons n ms =>
      simp only [List.map_cons, List.cons.injEq] at e
      obtain ⟨rfl, rfl⟩ := e
      rw [PySem.W.maxD_ints] at hR
      cases hR
      exact ⟨.int (ms.foldl max n), H, I.kept hk, ⟨_, rfl⟩, q⟩
def oMaxDf (x y : D) (S : Hs) : R D := match (seqD x S).bind intsD, x, y with
  | some ns, .ref _, .int d => .ok (.int (maxDf d ns)) S
  | _, _, _ => .bad
theorem oMaxDf_lst {S : Hs} {i : Nat} {ns : List Int} {d : Int} (h : S[i]? = some (.lst (ns.map D.int))) : oMaxDf (.ref i) (.int d) S = .ok (.int (maxDf d ns)) S := by
  have : ∀ xs : List Int, intsD (xs.map D.int) = some xs := fun xs => by
    induction xs with
    | nil => rfl
    | cons x xs ih => simp [intsD, ih]
  unfold oMaxDf
  simp [seqD, h, this]
section
variable {X : Cx} {E : St → XK} {e c : Expr} {f g : M} {p pos kpos : Pos}
theorem e_maxDf (hc : X.calm = true) (hu : X.A.units + 64 < cLine) (hm : X.mg "max" = none) (ha : EM X E e f) (hk : EM X E c g) (hg : Gl X "max" := by rfl)
    (hs0 : starEach [e] X.env = (false, eval e X.env) :: starEach [] X.env := by rfl) (he : backTo pos (starEach [e] X.env) = (false, eval e X.env) :: backTo pos (starEach [] X.env) := by rfl) (hpl : (backTo pos (starEach [e] X.env)).any (·.1) = false := by rfl) :
    EM X E (.Call (.Name "max" p) [e] [⟨some "default", c, kpos⟩] pos) (mBin oMaxDf f g) :=
  ⟨(pe_callBK (cr_maxDf hc hu) hg hm (show bootBuiltins (Str.ofString "max") = some (Value.builtin "max") by decide +kernel) (pa_cons ha.pe pa_nil hs0) (pk_cons hk.pe pk_nil) (by decide) (by decide) he hpl).weak fun s H Q ⟨p, l, S, R, L, h⟩ =>
    T.of R L h fun p1 S1 H1 d v R1 x1 L1 r1 h1 => T.of R1 L1 h1 fun p2 S2 H2 d2 v2 R2 x2 L2 r2 h2 => by
      unfold oMaxDf at h2
      split at h2
      · rename_i ns i d' q
        rw [Option.bind_eq_some_iff] at q
        obtain ⟨ds, q1, q2⟩ := q
        cases r2
        cases r1.ext x2 _ _ with
        | ref hi =>
          obtain ⟨vs, hs, rv⟩ := seqAt_V R2 (i := i) (show seqAt S2 i = some ds from q1)
          exact ⟨_, ns, d', rfl, rfl, by rw [← ints_V rv q2]; exact hs, h2.val R2 (.int _)⟩
      · exact h2.elim⟩
end
end Ly
set_option Elab.async false
set_option linter.all false
set_option maxRecDepth 100000
namespace Ly
open PySem PySem.Spec L2
open PyProof.Rows hiding St
section
variable {prog : Program} {w : World} {A : Around} {E : Value → Shared → Prop} {s : Shared}
theorem bounds_to {c n : Nat} (hc : c ≤ n) : sliceBounds none (some (c : Int)) none n = (0, (c : Int), 1) := by
  have h2 : ¬ ((c : Int) < 0) := by omega
  simp [sliceBounds, h2]; omega
theorem setTo {l b sl : Addr} {its new : Array Value} {n n2 : Nat} {vu : Value} {c : Nat} {Q : Unit → Shared → Prop}
    (e : s.heap.get? l = some { cls := .type "list", data := .seq its n }) (e2 : s.heap.get? b = some { cls := .type "list", data := .seq new n2 }) (hne : l ≠ b)
    (hs : s.heap.IsSliceOf sl .none vu .none) (pu : IsPart vu (some (c : Int))) (hc : c ≤ its.size)
    (hsz : its.size + new.size ≤ sizeLine) (h : Q () { s with heap := s.heap.update l (Obj.mapSeq fun xs => xs.extract 0 0 ++ new ++ xs.extract c xs.size) }) :
    wpAny (model prog w) A (setItem (.ref l) (.ref sl) (.ref b)) Q E s := by
  have hl : s.heap.IsList l its := PySem.IsL.isList e; have hb : s.heap.IsList b new := PySem.IsL.isList e2
  obtain ⟨os, hos, hcs, hds⟩ := id hs; have hTs : s.TypeIs (.ref sl) "slice" := ⟨os, hos, hcs⟩
  have hstep : ¬ ((rawPart none == rawInt 0) = true) := nofun
  have hsame : Builtin.List.listSameRef (.ref l) (.ref b) = false := by unfold Builtin.List.listSameRef; exact beq_eq_false_iff_ne.mpr hne
  have hmax : (max (0 : Int) (c : Int)).toNat = c := by omega
  have hz' : ((fun xs : Array Value => xs.extract 0 0 ++ new ++ xs.extract c xs.size) its).size ≤ sizeLine + 1 := by simp only [Array.size_append, Array.size_extract]; omega
  unfold setItem; try (with_reducible refine wpAny_holding ?_)
  first | refine wpAny_bind (wpAny_pure ?_) | skip
  refine wpAny_bind (wpAny_sequenceKey hl.typeIs (by decide) ?_); refine wpAny_bind (wpAny_callSpecial?_slot (name := Str.ofString "__setitem__") hl.typeIs slot_list_setitem (wpAny_call_entry slot_list_setitem hl.typeIs entry_list_setitem ?_ (args_list_setitem _ _ _)))
  change wpAny _ _ (Builtin.List.listSubscript? (.ref sl) >>= _) _ _ s; refine wpAny_bind ?_
  unfold Builtin.List.listSubscript?; refine wpAny_bind (wpAny_specialOf hTs slice_no_index ?_)
  simp only [Option.isNone_none, if_true]; refine wpAny_pure ?_
  change wpAny _ _ (typeOf (.ref sl) >>= _) _ _ s; refine wpAny_bind (wpAny_typeOf hTs ?_)
  first | rw [if_neg (by decide)] | refine PySem.W.KFB.if_not (by decide) ?_
  rw [listSliceParts_eq]; refine wpAny_bind (wpAny_bind (wpAny_field hos hds (x := .none) rfl (wpAny_bind (wpAny_listPart .none ?_)))); rw [if_neg hstep]
  refine wpAny_bind (wpAny_field hos hds (x := .none) rfl (wpAny_bind (wpAny_listPart .none ?_))); refine wpAny_bind (wpAny_field hos hds (x := vu) rfl (wpAny_bind (wpAny_listPart pu (wpAny_pure ?_))))
  first | simp only [hsame, Bool.false_eq_true, if_false] | refine PySem.W.KFB.if_not hsame ?_ | (dsimp only; rw [if_neg (by rw [hsame]; exact Bool.false_ne_true)])
  refine wpAny_bind (m := Builtin.List.listAllItems (.ref b) "must assign iterable to extended slice") ?_; unfold Builtin.List.listAllItems; refine wpAny_bind (wpAny_typeOf hb.typeIs ?_)
  first | refine PySem.W.KFB.if_so (by decide) ?_ | rw [if_pos (by decide)] | simp only [beq_self_eq_true, Bool.true_or, if_true]
  unfold Builtin.List.listItems; refine wpAny_bind (wpAny_seqItems e2 rfl (wpAny_pure ?_)); refine wpAny_bind (wpAny_bind (wpAny_seqItems e rfl (wpAny_pure ?_)))
  refine wpAny_bind (wpAny_of_eq ((sliceIndices_raw none (some (c : Int)) none its.size (by simp)).trans (congrArg (pure : Int × Int × Int → Sem (Int × Int × Int)) (bounds_to hc))) ?_)
  change wpAny _ _ (if ((1 : Int) == 1) = true then _ else _) _ _ s; rw [if_pos (by decide)]; refine wpAny_bind (wpAny_rule ?_)
  first | simp only [notLongL hsz, Bool.false_eq_true, if_false] | refine PySem.W.KFB.if_not (notLongL hsz) ?_
  first | refine wpAny_bind (wpAny_pure ?_) | skip
  change wpAny _ _ (updateSeq l (fun xs => xs.extract 0 ((0 : Int)).toNat ++ new ++ xs.extract (max (0 : Int) (c : Int)).toNat xs.size) >>= _) _ _ s
  rw [hmax]; refine wpAny_bind (wpAny_updateSeq (hz := Nat.le_trans (Nat.le_add_right _ _) hsz) (_hz' := hz') e rfl ?_); refine wpAny_bind (wpAny_letGo ?_)
  first | exact wpAny_bind (wpAny_pure (wpAny_pure ⟨.none, rfl, wpAny_pure h⟩)) | exact wpAny_pure ⟨.none, rfl, wpAny_pure h⟩
end
section
variable {X : Cx}
theorem set_to {pins : List (Addr × Obj)} {s : Shared} {σ : St} {H : Hp} {l b sl : Addr} {xs ys : List V} {c : Nat} {vu : Value} {Q : Unit → Shared → Prop} (I : Inv X pins σ H s)
    (hH : H l = some (.lst xs)) (hB : H b = some (.lst ys)) (hne : l ≠ b) (hs : s.heap.IsSliceOf sl .none vu .none) (rc : IsPart vu (some (c : Int))) (hc : c ≤ xs.length)
    (hz : xs.length + ys.length ≤ sizeLine) (h : ∀ s', Inv X pins σ (upd H l (.lst (ys ++ xs.drop c))) s' → Q () s') :
    wpAny (model X.prog X.w) X.A (setItem (.ref l) (.ref sl) (.ref b)) Q X.xe s := by
  obtain ⟨z, its, n, r, hl, e⟩ := I.lstM hH
  obtain ⟨z2, its2, n2, r2, hl2, e2⟩ := I.lstM hB
  refine setTo (c := c) e e2 hne hs rc (by rw [List.size_toArray]; omega) (by rw [List.size_toArray, List.size_toArray]; omega) (h _ ?_)
  refine I.lset (its' := its2 ++ its.drop c) (t' := s.toks) hH e ?_ (Vals.append r2 (r.drop _)) (by rw [List.length_append, List.length_drop]; omega)
  have := splice_eq its its2 0 c
  simpa using this
def gSubTo (to : TE) (tc : TO) : TG := fun v σ H Q => to σ H fun o H1 => tc σ H1 fun c H2 => ∃ l b xs ys k, o = .ref l ∧ v = .ref b ∧ c = some ((k : Nat) : Int) ∧ H2 l = some (.lst xs) ∧ H2 b = some (.lst ys) ∧ l ≠ b ∧ k ≤ xs.length ∧ xs.length + ys.length ≤ sizeLine ∧ Q σ (upd H2 l (.lst (ys ++ xs.drop k)))
theorem pg_to {o : Expr} {hi : Option Expr} {to : TE} {tc : TO} {p2 pos : Pos} (ho : PE X o to) (hc : PO X hi tc)
    (ha : ∀ v, assign (.Subscript o (.Slice none hi none p2) pos) X.env v = (do
      let ov ← holding [v] (eval o X.env); let iv ← holding [v, ov] (eval (.Slice none hi none p2) X.env)
      standAt pos; holding [v, ov, iv] (setItem ov iv v); release [iv, v, ov] []) := by intro _; rfl) : PG X (.Subscript o (.Slice none hi none p2) pos) (gSubTo to tc) := by
  refine ⟨fun pins s σ H v u Q I r h => ?_⟩
  rw [ha]
  refine wpAny_bind (wpAny_holding (thn (ho.run pins s σ H _ I h) fun ov s1 ⟨x, H1, I1, r1, q1⟩ => ?_)); refine wpAny_bind (wpAny_holding ?_)
  refine wpAny_Slice ?_
  rw [evalPart_none]
  refine wpAny_pure (thn (hc.run pins s1 σ H1 _ I1 q1) fun vu s3 ⟨u3, H3, I3, pu, q3⟩ => ?_)
  refine wpAny_pure ?_
  obtain ⟨l, b, xs, ys, k, rfl, rfl, rfl, hl, hb, hne, hk, hz, q⟩ := q3
  cases r1; cases r
  have I4 : Inv X pins σ H3 { s3 with heap := s3.heap.push { cls := .type "slice", data := .fields #[.none, vu, .none] } } := I3.kept (t' := s3.toks) fun b ob q => Heap.get?_push_of_some _ q
  refine wpAny_bind (wpAny_standAt (wpAny_bind (wpAny_holding ?_)))
  refine set_to (X := X) (I4.kept (t' := _) fun _ _ q => q) hl hb hne (Heap.IsSliceOf.new ..) pu hk hz fun s' I5 => ?_
  exact wpAny_release ⟨σ, _, I5, q⟩
end
def oSetTo (x : D) (c : Option Int) (d : D) (S : Hs) : R Unit := match x, c, d with
  | .ref i, some k, .ref j => match S[i]?, S[j]? with
    | some (.lst xs), some (.lst ys) => if i ≠ j ∧ 0 ≤ k ∧ k.toNat ≤ xs.length ∧ xs.length + ys.length ≤ sizeLine then .ok () (S.set i (.lst (ys ++ xs.drop k.toNat))) else .bad
    | _, _ => .bad
  | _, _, _ => .bad
def gSbTo (f : M) (h : MO) : MG := fun d l S => (f l S).bind fun x S1 => (h l S1).bind fun c S2 => (oSetTo x c d S2).bind fun _ S3 => .ok l S3
section
variable {X : Cx} {E : St → XK} {pos p2 : Pos} {f : M} {fh : MO}
theorem g_to {o : Expr} {hi : Option Expr} (ho : EM X E o f) (hh : OM X E hi fh)
    (ha : ∀ v, assign (.Subscript o (.Slice none hi none p2) pos) X.env v = (do
      let ov ← holding [v] (eval o X.env); let iv ← holding [v, ov] (eval (.Slice none hi none p2) X.env)
      standAt pos; holding [v, ov, iv] (setItem ov iv v); release [iv, v, ov] []) := by intro _; rfl) : GM X E (.Subscript o (.Slice none hi none p2) pos) (gSbTo f fh) :=
  ⟨(pg_to ho.pe hh.po ha).weak fun v s H Q ⟨p, l, S, d, R, L, r, h⟩ => T.of R L h fun p1 S1 H1 x vx R1 x1 L1 r1 h1 => OM.of R1 L1 h1 fun p2 S2 H2 c R2 x2 L2 h2 => by
    have rx := r1.ext x2 _ _
    have rd := (r.ext x1 _ _).ext x2 _ _
    unfold oSetTo at h2
    split at h2
    · rename_i i k j
      split at h2
      · rename_i xs ys qx qy
        split at h2
        · rename_i hk
          obtain ⟨hij, h0, hl, hz⟩ := hk
          obtain ⟨vs, e1, rv⟩ := R2.lst qx
          obtain ⟨us, e2, ru⟩ := R2.lst qy
          have hi := Real.lt qx
          have hj := Real.lt qy
          cases rx; cases rd
          obtain ⟨n, rfl⟩ := Int.eq_ofNat_of_zero_le h0
          simp only [Int.toNat_natCast] at hl
          have xe : Ext S2.length S2.length p2 p2 H2 (upd H2 (p2 i) (.lst (us ++ vs.drop n))) := ext_upd (R2.notup hi)
          refine ⟨_, _, vs, us, n, rfl, rfl, rfl, e1, e2, fun e => hij (R2.inj i j hi hj e), by rw [← rv.len]; exact hl, by rw [← rv.len, ← ru.len]; exact hz, ?_⟩
          have := Post.put1 (u := HO.lst (us ++ vs.drop n)) h2.bind R2 hi ⟨_, upd_same, (ru.ext xe _ _).append ((rv.ext xe _ _).drop n)⟩
          exact Post.ok this Ext.refl (R2.put hi ⟨_, upd_same, (ru.ext xe _ _).append ((rv.ext xe _ _).drop n)⟩) _ (L2.ext (by rw [List.length_set]; exact xe))
        · exact h2.elim
      · exact h2.elim
    · exact h2.elim⟩
end
section
variable {X : XP} {f : M} {fh : MO} {l : Ls} {S : Hs} {Q : Ls → Hs → Prop}
def gstK (X : XP) (h : MO) (d : D) (l : Ls) (Q : Ls → Hs → Prop) : D → Hs → Prop := fun x S => Wp X (h l S) fun c S2 => Wp X (oSetTo x c d S2) fun _ S3 => Q l S3
def gstK2 (X : XP) (x d : D) (l : Ls) (Q : Ls → Hs → Prop) : Option Int → Hs → Prop := fun c S2 => Wp X (oSetTo x c d S2) fun _ S3 => Q l S3
def gstK3 (l : Ls) (Q : Ls → Hs → Prop) : Unit → Hs → Prop := fun _ S3 => Q l S3
theorem v_gSt {d : D} : Wp X (gSbTo f fh d l S) Q = Wp X (f l S) (gstK X fh d l Q) := by
  unfold gSbTo; rw [v_bind]; congr 1; funext x S1; unfold bdK gstK; rw [v_bind]; congr 1; funext y S2; unfold bdK; rw [v_bind]; first | rfl | (congr 1; funext _ _; exact v_ok)
theorem k_gst {x d : D} : gstK X fh d l Q x S = Wp X (fh l S) (gstK2 X x d l Q) := nr rfl
theorem k_gst2 {x d : D} {c : Option Int} : gstK2 X x d l Q c S = Wp X (oSetTo x c d S) (gstK3 l Q) := nr rfl
theorem k_gst3 {u : Unit} : gstK3 l Q u S = Q l S := nr rfl
end
end Ly
set_option Elab.async false
set_option linter.all false
set_option maxRecDepth 100000
namespace Ly
open PySem PySem.Spec L2
open PyProof.Rows hiding St
theorem walk_ofL {l : PySem.W.OpenLaw} {n k : Nat} {q : Program} {loose : List Str} {XP : (Str → Option Value) → Heap → Prop} {YP : World → Heap → Prop} {d : DefRec} {CX : World → CXT} {x : Str}
    (hn : l.most = some n) (hn2 : n ≤ sizeLine) (hdf : d.params.defaults = []) (hr : Room k callerA)
    (F : ∀ (w : World) (mg : Str → Option Value) (fa : Addr) (h : Heap), YP w h → h.Ns mainGlobals mg → mg d.name = some (.ref fa) →
      ∃ (K : PySem.W.Frag) (fd : FuncData) (sp : Sp), K.In h ∧ (∀ (s : Shared) (u : Value), BindsTo s fd ⟨[u], []⟩ [(x, u)]) ∧
        (∀ (H : Hp) (a : Addr) (ns : List Int), ns.length ≤ n → (∀ z ∈ ns, Builtin.Int.intBits z ≤ 1048576) → Only H → SqL K H a (ns.map V.int) → sp [.ref a] H (fun v _ => v = .bl true) fun _ _ _ => False) ∧
        ∀ base : Heap, K.In base → base.Ns mainGlobals mg → FnOk l.prog w K mg base (CX w) k fa fd [x] sp)
    (hCX : ∀ (w : World) (H : Hp) (s : Shared) (e : Value) (s' : Shared), CX w [] H s (fun _ _ _ => False) e s' → False) :
    PySem.W.WalkO q loose XP YP l.row.toRowW d [] (fun f vs => PySem.call f vs) := by
  refine Att.attach_callB hn hdf fun w s₀ s₁ mg mb fa o pm cd doc a vs ns G Y ho hd hcd hmg hobj hints hlen hbits hg => ?_
  obtain ⟨K, fd, sp, KX, hb, hsp, hF⟩ := F w mg fa _ Y G.T.g hmg
  exact law_call KX G.T.g G.T.b G.T.builtins G.T.nolimit hg hobj hints (Nat.le_trans hlen hn2) hr hF hb (fun H hO hS => hsp H a ns hlen hbits hO hS) fun H e s' => hCX w H s₁ e s'
def dcVs (K : PySem.W.Frag) (a : Addr) : List Value := match K.lookup a with
  | some ⟨_, _, .dict es _, _⟩ => es.toList.map (·.val)
  | _ => []
def dcAt (K : PySem.W.Frag) (a : Addr) (i : Nat) : Addr := match (dcVs K a)[i]? with
  | some (.ref b) => b
  | _ => 0
def oV (K : PySem.W.Frag) (x : Str) : Option (List (Option V)) := match PySem.W.nsIn K mainGlobals x with
  | some (some u) => some [absV u]
  | _ => none
def oT (K : PySem.W.Frag) (a : Addr) : Option (List (Option V)) := match K.lookup a with
  | some ⟨.type c, _, .seq its _, _⟩ => (match decide (c = "tuple") with
    | true => some (its.toList.map absV)
    | false => none)
  | _ => none
def eqVs (a b : List Value) : Bool := decide (a = b)
section
variable {K : PySem.W.Frag} {a : Addr} {x : Str} {w : World} {mg : Str → Option Value} {h : Heap}
theorem oV_ok {c : Option V} (e : oV K x = some [c]) : ∃ u, PySem.W.nsIn K mainGlobals x = some (some u) ∧ absV u = c := by
  unfold oV at e
  split at e
  · rename_i u q
    exact ⟨u, q, by injection Option.some.inj e⟩
  · cases e
theorem oT_ok {L : List (Option V)} (e : oT K a = some L) : ∃ od its n sl, K.lookup a = some ⟨.type "tuple", od, .seq its n, sl⟩ ∧ its.toList.map absV = L := by
  unfold oT at e
  split at e
  · rename_i c od its n sl q
    split at e
    · rename_i hc
      have := of_decide_eq_true hc
      subst this
      exact ⟨od, its, n, sl, q, Option.some.inj e⟩
    · cases e
  · cases e
theorem dicW_look {ks : List Str} (e : He.dicW K a = some (He.keysIn w.params ks)) : ∃ es n, K.lookup a = some ⟨.type "dict", none, .dict es n, #[]⟩ ∧ (a == sysModules) = false ∧ es.toList.map He.keyOf = He.keysIn w.params ks ∧ dcVs K a = es.toList.map (·.val) := by
  unfold He.dicW at e
  split at e
  · rename_i c es n sl q
    split at e
    · rename_i hc
      obtain ⟨z1, z2⟩ := He.ba hc
      obtain ⟨z3, z4⟩ := He.ba z2
      have e1 : c = "dict" := of_decide_eq_true z1
      have e2 : sl = #[] := Array.isEmpty_iff.mp z3
      subst e1 e2
      refine ⟨es, n, q, ?_, Option.some.inj e, by unfold dcVs; rw [q]⟩
      cases y : a == sysModules with
      | false => rfl
      | true => rw [y] at z4; cases z4
    · cases e
  · cases e
end
abbrev AlA : Type := Bool × List (Option (List (Option (Str × Int)))) × List (Option (List (Option V))) × Bool
abbrev AlB : Type := Bool × List He.FnV
structure Lk where
  fa : List He.Fa
  fn : List He.FnD
  ts : List He.Tab
  xo : List ((PySem.W.Frag → Option (List (Option V))) × List (Option V))
  xb : List (PySem.W.Frag → Bool)
def obsA (L : Lk) (K : PySem.W.Frag) : AlA := (L.fa.all fun f => f.ok K, L.ts.map fun t => He.dicW K (t.1 K), L.xo.map fun t => t.1 K, L.xb.all fun f => f K)
def obsB (L : Lk) (K : PySem.W.Frag) : AlB := (L.fn.all fun d => (He.Fa.code d.at_ d.qual).ok K, L.fn.map fun d => He.fnObs K d.at_)
def valA (L : Lk) (w : World) : AlA := (true, L.ts.map fun t => some (He.keysIn w.params t.2), L.xo.map fun t => some t.2, true)
def valB (L : Lk) : AlB := (true, L.fn.map He.FnD.val)
def SaysL (L : Lk) (w : World) (K : PySem.W.Frag) : Prop := obsA L K = valA L w ∧ obsB L K = valB L
def frL (g : Addr → Option Obj) (n : Nat) : PySem.W.Frag := He.frG g (mainGlobals :: List.range' 10 (n - 10))
def hookL (L : Lk) : PySem.W.Hook where
  α := AlA × AlB
  obs := fun s => (obsA L (frL s.heap.get? s.heap.objs.size), obsB L (frL s.heap.get? s.heap.objs.size))
  val := fun w => (valA L w, valB L)
  says := fun w h => ∃ K : PySem.W.Frag, K.In h ∧ SaysL L w K
  of := fun _ _ e => ⟨_, He.frG_in, congrArg (fun z : AlA × AlB => z.1) e, congrArg (fun z : AlA × AlB => z.2) e⟩
  keeps := fun _ _ _ ⟨K, hK, c⟩ k => ⟨K, PySem.W.Frag.In.keeps hK k, c⟩
noncomputable section
def obA (L : Lk) (s : PySem.W.SharedT) : AlA := obsA L (frL (HandSHeadRun.getT s) s.n)
def obB (L : Lk) (s : PySem.W.SharedT) : AlB := obsB L (frL (HandSHeadRun.getT s) s.n)
theorem obL_eq {L : Lk} (s : PySem.W.SharedT) : (obA L s, obB L s) = (hookL L).obs s.abs := by
  have e : HandSHeadRun.getT s = s.abs.heap.get? := funext (HandSHeadRun.getT_eq s)
  have n : s.abs.heap.objs.size = s.n := PySem.W.absHeap_size _ _ _
  show _ = (obsA L (frL s.abs.heap.get? s.abs.heap.objs.size), obsB L (frL s.abs.heap.get? s.abs.heap.objs.size))
  rw [n, ← e]; rfl
open HandSHeadRun PySem.W PySem.Calls in
def RunA (r : PySem.W.OpenRow) (q : Program) (L : Lk) (M : Nat) (loose : List Str) (w : World) : Prop :=
  ∀ os : OsState, (endF (stepQ (denQ tabQ) r.prog w) M r.prog w os).map (fun s => (looksF r.prog (boot_heap w.params) s.abs, HandSHeadRun.seenQ q loose (importedModules r.prog.main.body) (fun s => PySem.W.xlAt q [] s && PySem.W.recOk r.toRowW.records s) s.abs, obA L s)) = some (true, PySem.W.openGood q loose, valA L w)
open HandSHeadRun PySem.W PySem.Calls in
def RunB (r : PySem.W.OpenRow) (L : Lk) (M : Nat) (w : World) : Prop :=
  ∀ os : OsState, (endF (stepQ (denQ tabQ) r.prog w) M r.prog w os).map (obB L) = some (valB L)
theorem run_ab {r : PySem.W.OpenRow} {q : Program} {L : Lk} {M : Nat} {loose : List Str} {w : World} (a : RunA r q L M loose w) (b : RunB r L M w) : HandSHeadRun.RunEq r q (hookL L) (fun s => (obA L s, obB L s)) M loose w := by
  intro os
  obtain ⟨s, hs, e⟩ := Option.map_eq_some_iff.mp (a os)
  obtain ⟨s2, hs2, e2⟩ := Option.map_eq_some_iff.mp (b os)
  rw [hs] at hs2
  cases hs2
  obtain ⟨e3, e4⟩ := Prod.mk.inj e
  obtain ⟨e5, e6⟩ := Prod.mk.inj e4
  rw [hs]
  show some (_, _, obA L s, obB L s) = some (true, PySem.W.openGood q loose, valA L w, valB L)
  rw [e3, e5, e6, e2]
end
section
variable {L : Lk} {w : World} {K : PySem.W.Frag}
theorem SaysL.fact (c : SaysL L w K) (f : He.Fa) (i : Nat) (h : L.fa[i]? = some f := by rfl) : f.ok K = true :=
  List.all_eq_true.mp (show (L.fa.all fun f => f.ok K) = true from congrArg (fun z : AlA => z.1) c.1) f (List.mem_of_getElem? h)
theorem SaysL.def_ (c : SaysL L w K) (i : Nat) {d : He.FnD} (h : L.fn[i]? = some d := by rfl) :
    ∃ oc od osl kV doc pm an cdv ct, K.lookup (He.fAd K d.at_) = some ⟨oc, od, .func (PySem.W.fnOf d.name d.qual d.params d.body d.scope .none kV doc pm an cdv ct), osl⟩ ∧ PySem.W.codeIn K cdv d.qual = true := by
  have c2 : (L.fn.all fun d => (He.Fa.code d.at_ d.qual).ok K) = true := congrArg (fun z : AlB => z.1) c.2
  have e : L.fn.map (fun d => He.fnObs K d.at_) = L.fn.map He.FnD.val := congrArg (fun z : AlB => z.2) c.2
  have e2 : (L.fn.map fun d => He.fnObs K d.at_)[i]? = (L.fn.map He.FnD.val)[i]? := by rw [e]
  rw [List.getElem?_map, List.getElem?_map, h] at e2
  exact He.fn_ok (Option.some.inj e2) (List.all_eq_true.mp c2 d (List.mem_of_getElem? h))
theorem SaysL.tab (c : SaysL L w K) (i : Nat) {t : He.Tab} (h : L.ts[i]? = some t := by rfl) : He.dicW K (t.1 K) = some (He.keysIn w.params t.2) := by
  have e : L.ts.map (fun t => He.dicW K (t.1 K)) = L.ts.map fun t => some (He.keysIn w.params t.2) := congrArg (fun z : AlA => z.2.1) c.1
  have e2 : (L.ts.map fun t => He.dicW K (t.1 K))[i]? = (L.ts.map fun t => some (He.keysIn w.params t.2))[i]? := by rw [e]
  rw [List.getElem?_map, List.getElem?_map, h] at e2
  exact Option.some.inj e2
theorem SaysL.val (c : SaysL L w K) (i : Nat) {t : (PySem.W.Frag → Option (List (Option V))) × List (Option V)} (h : L.xo[i]? = some t := by rfl) : t.1 K = some t.2 := by
  have e : L.xo.map (fun t => t.1 K) = L.xo.map fun t => some t.2 := congrArg (fun z : AlA => z.2.2.1) c.1
  have e2 : (L.xo.map fun t => t.1 K)[i]? = (L.xo.map fun t => some t.2)[i]? := by rw [e]
  rw [List.getElem?_map, List.getElem?_map, h] at e2
  exact Option.some.inj e2
theorem SaysL.chk (c : SaysL L w K) (i : Nat) {f : PySem.W.Frag → Bool} (h : L.xb[i]? = some f := by rfl) : f K = true := by
  have e : (L.xb.all fun f => f K) = true := congrArg (fun z : AlA => z.2.2.2) c.1
  exact List.all_eq_true.mp e f (List.mem_of_getElem? h)
end
end Ly
set_option Elab.async false
set_option linter.all false
set_option maxRecDepth 100000
namespace Ly
open PySem PySem.Spec L2
open PyProof.Rows hiding St
local macro_rules | `(tactic| simp_arith [$ls,*]) => `(tactic| simp only [Ly.line_le, Ly.atX_no, Ly.v_ok, Ly.v_bad, Ly.v_bind, Ly.k_bd, Ly.v_at, Ly.v_bin, Ly.k_bi, Ly.k_bi2, Ly.v_var, Ly.v_c, Ly.v_un, Ly.k_un, Ly.v_if, Ly.k_ife, Ly.v_and, Ly.k_and, Ly.k_and2, Ly.v_or, Ly.k_or, Ly.k_or2, Ly.v_tup, Ly.k_tup, Ly.v_lst, Ly.k_lst, Ly.v_call, Ly.k_ca, Ly.v_fn, Ly.k_fn, Ly.v_bm, Ly.k_bm, Ly.k_bm2, Ly.v_sl, Ly.k_sl, Ly.k_sl2, Ly.k_sl3, Ly.v_ixK, Ly.k_ixk, Ly.v_inK, Ly.k_ink, Ly.v_notinK, Ly.k_nink, Ly.v_getK2, Ly.k_gk2, Ly.k_gk, Ly.v_get2, Ly.k_g2, Ly.k_g22, Ly.k_g23, Ly.v_nil, Ly.v_cons, Ly.k_co, Ly.k_co2, Ly.v_no, Ly.v_some, Ly.k_so, Ly.k_cm, Ly.v_cmp, Ly.v_tru, Ly.k_tr, Ly.v_notB, Ly.k_no, Ly.v_andB, Ly.k_an, Ly.v_orB, Ly.k_orb, Ly.v_yes, Ly.v_inKB, Ly.k_inkB, Ly.v_notinKB, Ly.k_ninkB, Ly.v_set, Ly.k_st, Ly.v_expr, Ly.k_ex, Ly.v_ret, Ly.k_re, Ly.v_retN, Ly.v_pass, Ly.v_brk, Ly.v_cnt, Ly.v_seq, Ly.k_sq_nx, Ly.k_sq_rt, Ly.k_sq_bk, Ly.k_sq_ct, Ly.v_ifS, Ly.k_ifs, Ly.v_asg, Ly.k_as, Ly.k_as2, Ly.v_aug, Ly.k_au, Ly.v_for, Ly.k_fo, Ly.v_it, Ly.k_it, Ly.k_ij, Ly.v_rng1, Ly.v_rng2, Ly.v_enum, Ly.v_zip, Ly.v_ez, Ly.v_gN, Ly.v_gsN, Ly.v_gsC, Ly.k_gc, Ly.v_gT, Ly.v_gTw, Ly.v_gSb, Ly.k_gsb, Ly.k_gsb2, Ly.k_gsb3, Ly.k_en_rt, Ly.k_en_nx, Ly.k_tu_nx, Ly.k_tu_ct, Ly.k_tu_bk, Ly.k_tu_rt, Ly.v_lc, Ly.k_lc, Ly.v_augI, Ly.k_ag, Ly.k_ag2, Ly.k_ag3, Ly.k_ag4, Ly.k_ag5, Ly.v_del, Ly.k_dl, Ly.k_dl2, Ly.v_setd, Ly.v_pop2, Ly.k_d3, Ly.k_d32, Ly.k_d33, Ly.v_get1, Ly.k_g1, Ly.k_g12, Ly.v_rg1, Ly.k_rg, Ly.v_rg2, Ly.k_rg2, Ly.k_rg22, Ly.v_dicK, Ly.v_dicT, Ly.v_dc, Ly.k_dc, List.getElem?_cons_zero, List.getElem?_cons_succ, List.set_cons_zero, List.set_cons_succ, List.length_cons, List.length_nil, List.map_cons, List.map_nil, List.cons_append, List.nil_append, List.replicate, if_true, if_false, Bool.false_eq_true, Bool.not_true, Bool.not_false, Bool.true_and, Bool.false_and, decide_true, decide_false, decide_eq_true_eq, Nat.zero_add, Nat.reduceAdd, Nat.reduceLeDiff, true_and, and_true, $ls,*])
def b_next : MS := (mSeq (mAugI oAddI (mVar 0) (mC (.str "at")) (mC (.int 1)))
    (mSeq (mIfS (mCmp oGt (mBin oIx (mVar 0) (mC (.str "at"))) (mCall bLen (lCons (mBin oIx (mVar 0) (mC (.str "draws"))) lNil))) (mRet (mC (.int 0))) mPass)
    (mRet (mBin oMod (mCall bInt (lCons (mBin oIx (mBin oIx (mVar 0) (mC (.str "draws"))) (mBin oSub (mBin oIx (mVar 0) (mC (.str "at"))) (mC (.int 1)))) lNil)) (mVar 1)))))
def m_next : MD := mDef 2 0 b_next
def nxK (j : Nat) (a : Int) : List (Key × D) := [(.inr "draws", .ref j), (.inr "at", .int a)]
structure Nxt (S : Hs) (i j : Nat) (row : List Int) (a : Int) : Prop where
  d : S[i]? = some (.dic (nxK j a))
  r : S[j]? = some (.lst (row.map D.int))
  ne : i ≠ j
  nn : 0 ≤ a
def NxtA (S : Hs) (i j : Nat) (row : List Int) : Prop := ∃ a, Nxt S i j row a
theorem key_str {x : Str} : (D.str x).key = some (.inr x) := nr rfl
theorem key_int {x : Int} : (D.int x).key = some (.inl x) := nr rfl
theorem nxK_at {j : Nat} {a : Int} : getK (nxK j a) (.inr "at") = some (.int a) := by simp [getK, nxK, ofString_inj]
theorem nxK_draws {j : Nat} {a : Int} : getK (nxK j a) (.inr "draws") = some (.ref j) := by simp [getK, nxK]
theorem nxK_set {j : Nat} {a b : Int} : setK (nxK j a) (.inr "at") (.int b) = nxK j b := by simp [setK, nxK, ofString_inj]
theorem oIx_dic {S : Hs} {i : Nat} {kvs : List (Key × D)} {y d : D} {k : Key} (h : S[i]? = some (.dic kvs)) (hk : y.key = some k) (hg : getK kvs k = some d) : oIx (.ref i) y S = .ok d S := by
  simp [oIx, h, dGet, hk, hg]
theorem dGet_dic {S : Hs} {i : Nat} {kvs : List (Key × D)} {y : D} {k : Key} (h : S[i]? = some (.dic kvs)) (hk : y.key = some k) : dGet (.ref i) y S = some (getK kvs k) := by
  simp [h, dGet, hk]
theorem oSet_dic {S : Hs} {i : Nat} {kvs : List (Key × D)} {y d : D} {k : Key} (h : S[i]? = some (.dic kvs)) (hk : y.key = some k) (hl : kvs.length < sizeLine) : oSet (.ref i) y d S = .ok () (S.set i (.dic (setK kvs k d))) := by
  simp [oSet, h, hk, hl]
theorem isDic_dic {S : Hs} {i : Nat} {kvs : List (Key × D)} (h : S[i]? = some (.dic kvs)) : isDic (.ref i) S = true := by simp [isDic, h]
theorem bLen_lst {S : Hs} {i : Nat} {ds : List D} (h : S[i]? = some (.lst ds)) : bLen [.ref i] S = .ok (.int ds.length) S := by simp [bLen, lenD, h]
theorem bLen_tup {S : Hs} {ds : List D} : bLen [.tup ds] S = .ok (.int ds.length) S := nr rfl
theorem oIx_lst {S : Hs} {i : Nat} {ds : List D} {k : Int} {d : D} (h : S[i]? = some (.lst ds)) (h0 : 0 ≤ k) (h1 : k < (ds.length : Int)) (hd : ds[k.toNat]? = some d) : oIx (.ref i) (.int k) S = .ok d S :=
  oIx_seq (by simp [seqD, h]) h0 h1 hd
theorem oGt_int {a b : Int} {S : Hs} : oGt (.int a) (.int b) S = .ok (.bl (decide (b < a))) S := nr rfl
theorem oGe_int {a b : Int} {S : Hs} : oGe (.int a) (.int b) S = .ok (.bl (decide (b ≤ a))) S := nr rfl
theorem oLe_int {a b : Int} {S : Hs} : oLe (.int a) (.int b) S = .ok (.bl (decide (a ≤ b))) S := nr rfl
theorem bInt_int {a : Int} {S : Hs} : bInt [.int a] S = .ok (.int a) S := nr rfl
theorem oAddI_int {a b : Int} {S : Hs} : oAddI (.int a) (.int b) S = .ok (.int (a + b)) S := nr rfl
theorem oMod_int {a b : Int} {S : Hs} (h : 0 < b) : oMod (.int a) (.int b) S = .ok (.int (a % b)) S := by simp [oMod, h]
theorem next_ok {S : Hs} {i j : Nat} {row : List Int} {many : Int} (h : NxtA S i j row) (hm : 0 < many) :
    Wp NoX (m_next [.ref i, .int many] S) fun v S' => ∃ k, v = .int k ∧ 0 ≤ k ∧ k < many ∧ NxtA S' i j row ∧ Kp [i] S S' := by
  obtain ⟨a, h⟩ := h
  refine wp_def0 rfl ?_
  unfold b_next
  have hd := h.d
  have hd2 : (S.set i (.dic (nxK j (a + 1))))[i]? = some (.dic (nxK j (a + 1))) := get_put hd
  have hr2 : (S.set i (.dic (nxK j (a + 1))))[j]? = some (.lst (row.map D.int)) := by rw [List.getElem?_set_ne h.ne]; exact h.r
  have nn := h.nn
  have hK : Kp [i] S (S.set i (.dic (nxK j (a + 1)))) := Kp.set (by simp)
  have hN : NxtA (S.set i (.dic (nxK j (a + 1)))) i j row := ⟨a + 1, hd2, hr2, h.ne, by omega⟩
  simp_arith [dGet_dic hd key_str, nxK_at, oAddI_int, isDic_dic hd, oSet_dic hd key_str (show (nxK j a).length < sizeLine from (by decide : (2:Nat) < sizeLine)), nxK_set, oIx_dic hd2 key_str nxK_at, oIx_dic hd2 key_str nxK_draws, bLen_lst hr2, oGt_int]
  by_cases hl : ((row.map D.int).length : Int) < a + 1
  · simp_arith [hl]
    exact ⟨0, rfl, by omega, hm, hN, hK⟩
  · have hx : oIx (.ref j) (.int (a + 1 - 1)) (S.set i (.dic (nxK j (a + 1)))) = .ok (.int (row.getD a.toNat 0)) (S.set i (.dic (nxK j (a + 1)))) := by
      simp only [List.length_map] at hl
      refine oIx_lst hr2 (by omega) (by simp; omega) ?_
      have e : (a + 1 - 1).toNat = a.toNat := by omega
      have : a.toNat < row.length := by omega
      rw [e]; simp [List.getD, List.getElem?_eq_getElem this]
    simp_arith [hl, oIx_dic hd2 key_str nxK_draws, oIx_dic hd2 key_str nxK_at, oSub_int, hx, bInt_int, oMod_int hm]
    exact ⟨_, rfl, Int.emod_nonneg _ (by omega), Int.emod_lt_of_pos _ hm, hN, hK⟩
def lb_dr0 : MS := (mIfS (mCmp oGt (mVar 6) (mC (.int 0))) (mSeq (mExpr (mBM "list" oAppend (mVar 2) (lCons (mBin oMod (mCall bInt (lCons (mVar 6) lNil)) (mC (.int 997))) lNil)))
    (mSet 6 (mBin oFdiv (mVar 6) (mC (.int 997))))) mPass)
noncomputable def lb_dr1 : MS := (mSeq (mSet 5 (mCall bAbs (lCons (mCall bInt (lCons (mBin oIx (mVar 0) (mVar 4)) lNil)) lNil)))
    (mSeq (mSet 3 (mBin oMod (mCall bInt (lCons (mBin oAdd (mBin oAdd (mBin oMul (mVar 3) (mC (.int 48271))) (mBin oMod (mVar 5) (mC (.int 1000003)))) (mVar 4)) lNil)) (mC (.int 65537))))
    (mSeq (mSet 6 (mC (.int 0)))
    (mSeq (mIfS (mCmp oGe (mVar 5) (mBin oPow (mC (.int 10)) (mC (.int 18)))) (mSet 6 (mVar 5)) (mSeq (mExpr (mBM "list" oAppend (mVar 2) (lCons (mBin oMod (mCall bInt (lCons (mVar 5) lNil)) (mC (.int 997))) lNil)))
    (mExpr (mBM "list" oAppend (mVar 2) (lCons (mBin oMod (mBin oMod (mCall bInt (lCons (mBin oAdd (mBin oMul (mVar 3) (mC (.int 69621))) (mC (.int 5))) lNil)) (mC (.int 65521))) (mC (.int 997))) lNil)))))
    (mFor (mRng1 (lCons (mC (.int 60)) lNil)) (gN 7) lb_dr0)))))
noncomputable def lb_dr2 : MS := (mSeq (mSet 3 (mBin oMod (mCall bInt (lCons (mBin oAdd (mBin oAdd (mBin oMul (mVar 3) (mC (.int 16807))) (mVar 4)) (mC (.int 1))) lNil)) (mC (.int 65537))))
    (mExpr (mBM "list" oAppend (mVar 2) (lCons (mBin oMod (mCall bInt (lCons (mVar 3) lNil)) (mC (.int 997))) lNil))))
noncomputable def b_draws : MS := (mSeq (mSet 2 (mLst lNil))
    (mSeq (mSet 3 (mC (.int 7)))
    (mSeq (mFor (mRng1 (lCons (mCall bLen (lCons (mVar 0) lNil)) lNil)) (gN 4) lb_dr1)
    (mSeq (mFor (mRng1 (lCons (mVar 1) lNil)) (gN 4) lb_dr2)
    (mRet (mSl (mVar 2) oNo (oSome (mVar 1))))))))
def OutL (S0 : Hs) (q n : Nat) (S : Hs) : Prop := ∃ row : List Int, S[q]? = some (.lst (row.map D.int)) ∧ row.length ≤ n ∧ Kp [] S0 S ∧ S0.length ≤ q
theorem hasTy_lst {S : Hs} {i : Nat} {ds : List D} (h : S[i]? = some (.lst ds)) : hasTy "list" (.ref i) S = true := by simp [hasTy, h]
theorem oAppend_lst {S : Hs} {i : Nat} {ds : List D} {d : D} (h : S[i]? = some (.lst ds)) (hl : ds.length < sizeLine) : oAppend (.ref i) [d] S = .ok .non (S.set i (.lst (ds ++ [d]))) := by simp [oAppend, h, hl]
theorem OutL.push {S0 S : Hs} {q n : Nat} {row : List Int} {v : Int} (h : S[q]? = some (.lst (row.map D.int))) (hl : row.length ≤ n) (k : Kp [] S0 S) (hq : S0.length ≤ q) : OutL S0 q (n + 1) (S.set q (.lst (row.map D.int ++ [.int v]))) :=
  ⟨row ++ [v], by simp [get_put h], by simp; omega, k.setNew hq, hq⟩
theorem OutL.mono {S0 S : Hs} {q n m : Nat} (h : OutL S0 q n S) (hm : n ≤ m) : OutL S0 q m S := by
  obtain ⟨row, a, b, c, d⟩ := h; exact ⟨row, a, by omega, c, d⟩
theorem oFdiv_int {a b : Int} {S : Hs} (h : 0 < b) (h2 : b.natAbs.log2 < 9000) : oFdiv (.int a) (.int b) S = .ok (.int (a / b)) S := by simp [oFdiv, h, h2]
theorem oMul_int {a b : Int} {S : Hs} (h : IntMulOk a b) : oMul (.int a) (.int b) S = .ok (.int (a * b)) S := by simp [oMul, h]
theorem bAbs_int {a : Int} {S : Hs} : bAbs [.int a] S = .ok (.int (if a < 0 then -a else a)) S := nr rfl
theorem dr0_ok {S0 : Hs} {q n : Nat} {x o1 o3 o4 o5 o7 : Option D} {rest : Int} {S : Hs} (hn : n ≤ 100000) (h : OutL S0 q n S) :
    Wp NoX (fLoop (.rng 0 60) (gN 7) lb_dr0 0 [x, o1, some (.ref q), o3, o4, o5, some (.int rest), o7] S) fun r S' => ∃ o6 o7, r = .nx [x, o1, some (.ref q), o3, o4, o5, o6, o7] ∧ OutL S0 q (n + 60) S' := by
  refine wp_rng (fun k l S' => ∃ (rest : Int) (o7 : Option D), l = [x, o1, some (.ref q), o3, o4, o5, some (.int rest), o7] ∧ OutL S0 q (n + k) S') ⟨rest, o7, rfl, h⟩ ?_ ?_
  · rintro k l S' hk ⟨rest, o7, rfl, h⟩
    unfold lb_dr0
    simp_arith [oGt_int]
    obtain ⟨row, h1, h2, h3, h4⟩ := h
    have hb : (row.map D.int).length < sizeLine := by simp only [List.length_map]; exact line_big (by omega)
    by_cases h0 : 0 < rest
    · simp_arith [h0, hasTy_lst h1, bInt_int, oMod_int (show (0:Int) < 997 by decide), oAppend_lst h1 hb, oFdiv_int (show (0:Int) < 997 by decide) (show Nat.log2 997 < 9000 by decide)]
      exact ⟨_, _, rfl, OutL.push h1 h2 h3 h4⟩
    · simp_arith [h0]
      exact ⟨_, _, rfl, row, h1, by omega, h3, h4⟩
  · rintro l S' ⟨rest, o7, rfl, h⟩
    exact ⟨_, _, rfl, h⟩
theorem dr1_ok {S0 : Hs} {q : Nat} {x : D} {o1 : Option D} {ns : List Int} (hx : seqD x S0 = some (ns.map D.int)) (k : Nat) (hk : k < ns.length) (hn : ns.length ≤ 63) {l : Ls} {S : Hs}
    (h : (∃ (mixed : Int) (o4 o5 o6 o7 : Option D), l = [some x, o1, some (.ref q), some (.int mixed), o4, o5, o6, o7]) ∧ OutL S0 q (62 * k) S) :
    Wp NoX (lb_dr1 (l.set 4 (some (.int (0 + k)))) S) fun r S' => ∃ l', r = .nx l' ∧ (∃ (mixed : Int) (o4 o5 o6 o7 : Option D), l' = [some x, o1, some (.ref q), some (.int mixed), o4, o5, o6, o7]) ∧ OutL S0 q (62 * (k + 1)) S' := by
  obtain ⟨⟨mixed, o4, o5, o6, o7, rfl⟩, hO⟩ := h
  obtain ⟨row, h1, h2, h3, h4⟩ := id hO
  have hxS : seqD x S = some (ns.map D.int) := by
    unfold seqD at hx ⊢
    split at hx
    · split at hx <;> first | (rename_i z; rw [h3.get z (by simp)]; exact hx) | cases hx
    · exact hx
    · cases hx
  have hix : oIx x (.int (0 + (k : Int))) S = .ok (.int ns[k]) S := oIx_seq hxS (by omega) (by simp; omega) (by simp [List.getElem?_eq_getElem hk])
  have hb : (row.map D.int).length < sizeLine := by simp only [List.length_map]; exact line_big (by omega)
  have m1 : ∀ c : Int, IntMulOk c 48271 := fun c => mulok_r (by decide)
  have m2 : ∀ c : Int, IntMulOk c 69621 := fun c => mulok_r (by decide)
  unfold lb_dr1
  simp_arith [hix, bInt_int, bAbs_int, oMul_int (m1 _), oMod_int (show (0:Int) < 1000003 by decide), oAdd_int, oMod_int (show (0:Int) < 65537 by decide), pow18, oGe_int]
  generalize hc : (if ns[k] < 0 then -ns[k] else ns[k]) = c
  by_cases h0 : 1000000000000000000 ≤ c
  · simp_arith [h0, rng1 S (show (-1000000000:Int) ≤ 60 by decide) (show (60:Int) ≤ 1000000000 by decide)]
    refine (dr0_ok (by omega) hO).mono (fun _ _ _ _ h => h) ?_
    rintro r S' ⟨o6, o7, rfl, hO'⟩
    exact ⟨_, rfl, ⟨_, _, _, _, _, rfl⟩, hO'.mono (by omega)⟩
  · have g2 : (S.set q (.lst (row.map D.int ++ [D.int (c % 997)])))[q]? = some (.lst (row.map D.int ++ [D.int (c % 997)])) := get_put h1
    have hb2 : (row.map D.int ++ [D.int (c % 997)]).length < sizeLine := by simp only [List.length_map, List.length_append, List.length_singleton]; exact line_big (by omega)
    simp_arith [h0, hasTy_lst h1, oMod_int (show (0:Int) < 997 by decide), bInt_int, oAppend_lst h1 hb, hasTy_lst g2, oMul_int (m2 _), oAdd_int, oMod_int (show (0:Int) < 65521 by decide), oAppend_lst g2 hb2, rng1 _ (show (-1000000000:Int) ≤ 60 by decide) (show (60:Int) ≤ 1000000000 by decide)]
    refine (dr0_ok (S0 := S0) (n := 62 * k + 2) (by omega) ?_).mono (fun _ _ _ _ h => h) ?_
    · have := OutL.push (v := c % 997) h1 h2 h3 h4
      obtain ⟨r2, e1, e2, e3, e4⟩ := this
      have e5 : r2.map D.int = row.map D.int ++ [D.int (c % 997)] := by rw [g2] at e1; simpa using e1.symm
      rw [← e5]
      refine OutL.push (row := r2) (by rw [e5]; exact g2) e2 (by rw [e5]; exact e3) h4
    · rintro r S' ⟨o6, o7, rfl, hO'⟩
      exact ⟨_, rfl, ⟨_, _, _, _, _, rfl⟩, hO'.mono (by omega)⟩
theorem draws_ok {S : Hs} {x : D} {ns : List Int} {many : Int} (hx : seqD x S = some (ns.map D.int)) (hn : ns.length ≤ 63) (h0 : 0 ≤ many) (h1 : many ≤ 10000) :
    Wp NoX (mDef 2 6 b_draws [x, .int many] S) fun v S' => ∃ (q : Nat) (row : List Int), v = .ref q ∧ S'[q]? = some (.lst (row.map D.int)) ∧ S.length ≤ q ∧ Kp [] S S' := by
  refine wp_def0 rfl ?_
  unfold b_draws
  have hlen : bLen [x] (S ++ [.lst []]) = .ok (.int (ns.length : Int)) (S ++ [.lst []]) := by
    have := lenD_seq (seqD_more (g := [.lst []]) hx)
    simp [bLen, this]
  simp_arith [hlen, rng1 (n := (ns.length : Int)) (S ++ [.lst []]) (by omega) (by omega), Int.toNat_natCast]
  refine wp_rng (fun k l S' => (∃ (mixed : Int) (o4 o5 o6 o7 : Option D), l = [some x, some (.int many), some (.ref S.length), some (.int mixed), o4, o5, o6, o7]) ∧ OutL S S.length (62 * k) S') ⟨⟨_, _, _, _, _, rfl⟩, [], by simp, by simp, Kp.new, Nat.le_refl _⟩ ?_ ?_
  · intro k l S' hk h
    simp_arith []
    refine (dr1_ok hx k hk hn h).mono (fun _ _ _ _ h => h) ?_
    rintro r S'' ⟨l', rfl, h⟩
    exact h
  · rintro l S' ⟨⟨mixed, o4, o5, o6, o7, rfl⟩, hO⟩
    simp_arith [rng1 (n := many) S' (by omega) (by omega)]
    refine wp_rng (fun k l S' => (∃ (mixed : Int) (o4 : Option D), l = [some x, some (.int many), some (.ref S.length), some (.int mixed), o4, o5, o6, o7]) ∧ OutL S S.length (62 * ns.length + k) S') ⟨⟨_, _, rfl⟩, hO⟩ ?_ ?_
    · rintro k l S' hk ⟨⟨mixed, o4, rfl⟩, row, e1, e2, e3, e4⟩
      have hb : (row.map D.int).length < sizeLine := by simp only [List.length_map]; exact line_big (by omega)
      unfold lb_dr2
      simp_arith [oMul_int (mulok_r (show Int.natAbs 16807 < 2 ^ 64 by decide)), oAdd_int, bInt_int, oMod_int (show (0:Int) < 65537 by decide), hasTy_lst e1, oMod_int (show (0:Int) < 997 by decide), oAppend_lst e1 hb]
      exact ⟨⟨_, _, rfl⟩, OutL.push e1 e2 e3 e4⟩
    · rintro l S' ⟨⟨mixed, o4, rfl⟩, row, e1, e2, e3, e4⟩
      simp_arith [oSl, e1]
      refine ⟨_, (row.drop (HT.sIx row.length 0 none)).take (HT.sIx row.length row.length (some many) - HT.sIx row.length 0 none), rfl, ?_, ?_, e3.app⟩
      · simp [cutD]
      · have := e3.le; omega
inductive Row where
  | const (d : Nat) (n : Int) | copy (d a : Nat) | op (s : Str) (d a b : Nat) | select (d c a b : Nat) | load (d i a : Nat) | store (i a v : Nat) | out (a : Nat)
  | jump (t : Nat) | branch (a t u : Nat) | stop (a : Nat)
abbrev nD (n : Nat) : D := .int (n : Int)
def Row.D : Row → D
  | .const d n => .tup [.str "const", nD d, .int n]
  | .copy d a => .tup [.str "copy", nD d, nD a]
  | .op s d a b => .tup [.str "op", .str s, nD d, nD a, nD b]
  | .select d c a b => .tup [.str "select", nD d, nD c, nD a, nD b]
  | .load d i a => .tup [.str "load", nD d, nD i, nD a]
  | .store i a v => .tup [.str "store", nD i, nD a, nD v]
  | .out a => .tup [.str "out", nD a]
  | .jump t => .tup [.str "jump", nD t]
  | .branch a t u => .tup [.str "branch", nD a, nD t, nD u]
  | .stop a => .tup [.str "stop", nD a]
def signsL : List Str := ["+", "-", "*", "&", "|", "^", "<<", ">>", "==", "<", "<=", "div", "mod"]
def Row.ok (nr na nb : Nat) : Row → Prop
  | .const d n => d < nr ∧ 0 ≤ n ∧ n ≤ 4294967295
  | .copy d a => d < nr ∧ a < nr
  | .op s d a b => s ∈ signsL ∧ d < nr ∧ a < nr ∧ b < nr
  | .select d c a b => d < nr ∧ c < nr ∧ a < nr ∧ b < nr
  | .load d i a => d < nr ∧ i < na ∧ a < nr
  | .store i a v => i < na ∧ a < nr ∧ v < nr
  | .out a => a < nr
  | .jump t => t < nb
  | .branch a t u => a < nr ∧ t < nb ∧ u < nb
  | .stop a => a < nr
def Row.last : Row → Bool
  | .jump _ => true
  | .branch _ _ _ => true
  | .stop _ => true
  | _ => false
theorem wp_ix {X : XP} {S : Hs} {q : Nat} {ds : List D} {k : Int} {Q : D → Hs → Prop} (h : S[q]? = some (.lst ds)) (h0 : 0 ≤ k) (h1 : k < (ds.length : Int)) (H : ∀ d ∈ ds, Q d S) : Wp X (oIx (.ref q) (.int k) S) Q := by
  have hk : k.toNat < ds.length := by omega
  rw [oIx_lst h h0 h1 (List.getElem?_eq_getElem hk)]
  exact ⟨H _ (List.getElem_mem hk)⟩
theorem nat_of {k : Int} (h : 0 ≤ k) : D.int k = nD k.toNat := by unfold nD; rw [Int.toNat_of_nonneg h]
noncomputable def b_row : MS := (mSeq (mSet 4 (mFn m_next (lCons (mVar 0) (lCons (mC (.int 9)) lNil))))
    (mSeq (mSet 5 (mFn m_next (lCons (mVar 0) (lCons (mC (.int 9)) lNil))))
    (mSeq (mSet 6 (mFn m_next (lCons (mVar 0) (lCons (mC (.int 9)) lNil))))
    (mSeq (mIfS (mTru (mVar 3)) (mRet (mBin oIx (mLst (lCons (mTup (lCons (mC (.str "jump")) (lCons (mFn m_next (lCons (mVar 0) (lCons (mVar 2) lNil))) lNil))) (lCons (mTup (lCons (mC (.str "branch")) (lCons (mVar 5) (lCons (mFn m_next (lCons (mVar 0) (lCons (mVar 2) lNil))) (lCons (mFn m_next (lCons (mVar 0) (lCons (mVar 2) lNil))) lNil))))) (lCons (mTup (lCons (mC (.str "stop")) (lCons (mVar 5) lNil))) lNil)))) (mFn m_next (lCons (mVar 0) (lCons (mC (.int 3)) lNil))))) mPass)
    (mSeq (mSet 7 (mFn m_next (lCons (mVar 0) (lCons (mC (.int 11)) lNil))))
    (mSeq (mIfS (mCmp oLt (mVar 7) (mC (.int 2))) (mRet (mTup (lCons (mC (.str "const")) (lCons (mVar 4) (lCons (mBin oIx (mLst (lCons (mFn m_next (lCons (mVar 0) (lCons (mC (.int 7)) lNil))) (lCons (mBin oSub (mC (.int 4294967295)) (mFn m_next (lCons (mVar 0) (lCons (mC (.int 9)) lNil)))) (lCons (mBin oMul (mFn m_next (lCons (mVar 0) (lCons (mC (.int 900)) lNil))) (mC (.int 4771117))) (lCons (mBin oAdd (mC (.int 31)) (mFn m_next (lCons (mVar 0) (lCons (mC (.int 4)) lNil)))) lNil))))) (mFn m_next (lCons (mVar 0) (lCons (mC (.int 4)) lNil)))) lNil))))) mPass)
    (mSeq (mIfS (mCmp oEq (mVar 7) (mC (.int 2))) (mRet (mTup (lCons (mC (.str "copy")) (lCons (mVar 4) (lCons (mVar 5) lNil))))) mPass)
    (mSeq (mIfS (mCmp oLt (mVar 7) (mC (.int 6))) (mSeq (mSet 8 (mBin oIx (mLst (lCons (mC (.str "+")) (lCons (mC (.str "-")) (lCons (mC (.str "*")) (lCons (mC (.str "&")) (lCons (mC (.str "|")) (lCons (mC (.str "^")) (lCons (mC (.str "<<")) (lCons (mC (.str ">>")) (lCons (mC (.str "==")) (lCons (mC (.str "<")) (lCons (mC (.str "<=")) (lCons (mC (.str "div")) (lCons (mC (.str "mod")) lNil)))))))))))))) (mFn m_next (lCons (mVar 0) (lCons (mC (.int 13)) lNil)))))
    (mRet (mTup (lCons (mC (.str "op")) (lCons (mVar 8) (lCons (mVar 4) (lCons (mVar 5) (lCons (mVar 6) lNil)))))))) mPass)
    (mSeq (mIfS (mCmp oEq (mVar 7) (mC (.int 6))) (mRet (mTup (lCons (mC (.str "select")) (lCons (mVar 4) (lCons (mFn m_next (lCons (mVar 0) (lCons (mC (.int 9)) lNil))) (lCons (mVar 5) (lCons (mVar 6) lNil))))))) mPass)
    (mSeq (mIfS (mAndB (mCmp oLt (mVar 7) (mC (.int 9))) (mCmp oGt (mVar 1) (mC (.int 0)))) (mRet (mBin oIx (mLst (lCons (mTup (lCons (mC (.str "load")) (lCons (mVar 4) (lCons (mFn m_next (lCons (mVar 0) (lCons (mVar 1) lNil))) (lCons (mVar 5) lNil))))) (lCons (mTup (lCons (mC (.str "store")) (lCons (mFn m_next (lCons (mVar 0) (lCons (mVar 1) lNil))) (lCons (mVar 5) (lCons (mVar 6) lNil))))) lNil))) (mBin oSub (mVar 7) (mC (.int 7))))) mPass)
    (mRet (mTup (lCons (mC (.str "out")) (lCons (mVar 5) lNil))))))))))))))
noncomputable def m_row : MD := mDef 4 5 b_row
theorem NxtA.new {S g : Hs} {i j : Nat} {row : List Int} (h : NxtA S i j row) : NxtA (S ++ g) i j row := by
  obtain ⟨a, h⟩ := h
  exact ⟨a, by rw [List.getElem?_append_left (Real.lt h.d)]; exact h.d, by rw [List.getElem?_append_left (Real.lt h.r)]; exact h.r, h.ne, h.nn⟩
theorem NxtA.lt {S : Hs} {i j : Nat} {row : List Int} (h : NxtA S i j row) : i < S.length := by obtain ⟨a, h⟩ := h; exact Real.lt h.d
theorem NxtA.ltj {S : Hs} {i j : Nat} {row : List Int} (h : NxtA S i j row) : j < S.length := by obtain ⟨a, h⟩ := h; exact Real.lt h.r
def Dr (i j : Nat) (row : List Int) (S S' : Hs) : Prop := NxtA S' i j row ∧ Kp [i] S S'
theorem row_ok {S : Hs} {i j na nb : Nat} {row : List Int} {last : Bool} (h : NxtA S i j row) (hb : 0 < nb) :
    Wp NoX (m_row [.ref i, nD na, nD nb, .bl last] S) fun v S' => ∃ r : Row, v = r.D ∧ r.ok 9 na nb ∧ r.last = last ∧ Dr i j row S S' := by
  refine wp_def0 rfl ?_
  unfold b_row
  simp_arith []
  refine Wp.call (next_ok h (by decide)) ?_
  rintro _ S1 ⟨d, rfl, d0, d1, h, u1⟩
  simp_arith []
  refine Wp.call (next_ok h (by decide)) ?_
  rintro _ S2 ⟨a, rfl, a0, a1, h, u2⟩
  simp_arith []
  refine Wp.call (next_ok h (by decide)) ?_
  rintro _ S3 ⟨b, rfl, b0, b1, h, u3⟩
  have u := (u1.trans u2).trans u3
  clear u1 u2 u3
  obtain ⟨dn, rfl⟩ := Int.eq_ofNat_of_zero_le d0
  obtain ⟨an, rfl⟩ := Int.eq_ofNat_of_zero_le a0
  obtain ⟨bn, rfl⟩ := Int.eq_ofNat_of_zero_le b0
  cases last with
  | true =>
    simp_arith [oTru_bl]
    refine Wp.call (next_ok h (by omega)) ?_
    rintro _ S4 ⟨t, rfl, t0, t1, h, u4⟩
    simp_arith []
    refine Wp.call (next_ok h (by omega)) ?_
    rintro _ S5 ⟨v, rfl, v0, v1, h, u5⟩
    simp_arith []
    refine Wp.call (next_ok h (by omega)) ?_
    rintro _ S6 ⟨w, rfl, w0, w1, h, u6⟩
    simp_arith []
    refine Wp.call (next_ok h.new (by decide)) ?_
    rintro _ S7 ⟨k, rfl, k0, k1, h', u7⟩
    obtain ⟨tn, rfl⟩ := Int.eq_ofNat_of_zero_le t0
    obtain ⟨vn, rfl⟩ := Int.eq_ofNat_of_zero_le v0
    obtain ⟨wn, rfl⟩ := Int.eq_ofNat_of_zero_le w0
    simp_arith []
    have hK : Kp [i] S S7 := (((u.trans u4).trans u5).trans u6).app.trans u7
    refine wp_ix (u7.get get_end (by have := h.lt; simp; omega)) k0 (by simpa using k1) ?_
    intro x hx
    simp_arith []
    simp only [List.mem_cons, List.not_mem_nil, or_false] at hx
    rcases hx with rfl | rfl | rfl
    · exact ⟨.jump tn, rfl, by show tn < nb; omega, rfl, h', hK⟩
    · exact ⟨.branch an vn wn, rfl, ⟨by omega, by omega, by omega⟩, rfl, h', hK⟩
    · exact ⟨.stop an, rfl, by show an < 9; omega, rfl, h', hK⟩
  | false =>
    simp_arith [oTru_bl]
    refine Wp.call (next_ok h (by decide)) ?_
    rintro _ S4 ⟨turn, rfl, t0, t1, h, u4⟩
    have u := u.trans u4
    simp_arith [oLt_int]
    by_cases c1 : turn < 2
    · simp_arith [c1]
      refine Wp.call (next_ok h (by decide)) ?_
      rintro _ S5 ⟨x1, rfl, x10, x11, h, u5⟩
      simp_arith []
      refine Wp.call (next_ok h (by decide)) ?_
      rintro _ S6 ⟨x2, rfl, x20, x21, h, u6⟩
      simp_arith [oSub_int]
      refine Wp.call (next_ok h (by decide)) ?_
      rintro _ S7 ⟨x3, rfl, x30, x31, h, u7⟩
      simp_arith [oMul_int (mulok_r (show Int.natAbs 4771117 < 2 ^ 64 by decide))]
      refine Wp.call (next_ok h (by decide)) ?_
      rintro _ S8 ⟨x4, rfl, x40, x41, h, u8⟩
      simp_arith [oAdd_int]
      refine Wp.call (next_ok h.new (by decide)) ?_
      rintro _ S9 ⟨k, rfl, k0, k1, h', u9⟩
      have hK : Kp [i] S S9 := ((((u.trans u5).trans u6).trans u7).trans u8).app.trans u9
      simp_arith []
      refine wp_ix (u9.get get_end (by have := h.lt; simp; omega)) k0 (by simpa using k1) ?_
      intro x hx
      simp_arith []
      have : ∃ n : Int, x = .int n ∧ 0 ≤ n ∧ n ≤ 4294967295 := by
        simp only [List.mem_cons, List.not_mem_nil, or_false] at hx
        rcases hx with rfl | rfl | rfl | rfl <;> exact ⟨_, rfl, by omega, by omega⟩
      obtain ⟨n, rfl, n0, n1⟩ := this
      exact ⟨.const dn n, rfl, ⟨by omega, n0, n1⟩, rfl, h', hK⟩
    · by_cases c2 : turn = 2
      · simp_arith [c1, c2, oEq_int]
        exact ⟨.copy dn an, rfl, ⟨by omega, by omega⟩, rfl, h, u⟩
      · by_cases c3 : turn < 6
        · simp_arith [c1, c2, c3, oEq_int, oLt_int]
          refine Wp.call (next_ok h.new (by decide)) ?_
          rintro _ S5 ⟨k, rfl, k0, k1, h', u5⟩
          have hK : Kp [i] S S5 := u.app.trans u5
          simp_arith []
          refine wp_ix (u5.get get_end (by have := h.lt; simp; omega)) k0 (by simpa using k1) ?_
          intro x hx
          simp_arith []
          obtain ⟨s, hs, rfl⟩ := of_strs (xs := signsL) hx
          exact ⟨.op s dn an bn, rfl, ⟨hs, by omega, by omega, by omega⟩, rfl, h', hK⟩
        · by_cases c4 : turn = 6
          · simp_arith [c1, c2, c3, c4, oEq_int, oLt_int]
            refine Wp.call (next_ok h (by decide)) ?_
            rintro _ S5 ⟨c, rfl, c0, c1', h', u5⟩
            obtain ⟨cn, rfl⟩ := Int.eq_ofNat_of_zero_le c0
            simp_arith []
            exact ⟨.select dn cn an bn, rfl, ⟨by omega, by omega, by omega, by omega⟩, rfl, h', u.trans u5⟩
          · by_cases c5 : turn < 9 ∧ 0 < na
            · have c6 : (0 : Int) < (na : Int) := by omega
              simp_arith [c1, c2, c3, c4, c5.1, c6, oEq_int, oLt_int, oGt_int]
              refine Wp.call (next_ok h c6) ?_
              rintro _ S5 ⟨x1, rfl, x10, x11, h, u5⟩
              simp_arith []
              refine Wp.call (next_ok h c6) ?_
              rintro _ S6 ⟨x2, rfl, x20, x21, h, u6⟩
              obtain ⟨xn, rfl⟩ := Int.eq_ofNat_of_zero_le x10
              obtain ⟨yn, rfl⟩ := Int.eq_ofNat_of_zero_le x20
              simp_arith [oSub_int]
              refine wp_ix get_end (by omega) (by simp; omega) ?_
              intro x hx
              simp_arith []
              simp only [List.mem_cons, List.not_mem_nil, or_false] at hx
              rcases hx with rfl | rfl
              · exact ⟨.load dn xn an, rfl, ⟨by omega, by omega, by omega⟩, rfl, h.new, ((u.trans u5).trans u6).app⟩
              · exact ⟨.store yn an bn, rfl, ⟨by omega, by omega, by omega⟩, rfl, h.new, ((u.trans u5).trans u6).app⟩
            · by_cases c6 : turn < 9
              · have c7 : ¬ (0 : Int) < (na : Int) := by omega
                simp_arith [c1, c2, c3, c4, c6, c7, oEq_int, oLt_int, oGt_int]
                exact ⟨.out an, rfl, by show an < 9; omega, rfl, h, u⟩
              · simp_arith [c1, c2, c3, c4, c6, oEq_int, oLt_int, oGt_int]
                exact ⟨.out an, rfl, by show an < 9; omega, rfl, h, u⟩
theorem lc_draw {α : Type} {X : XP} {Q : D → Hs → Prop} {te : M} {l : Ls} {s : Nat} {lo : Int} {m : Nat} {S : Hs} {i j : Nat} {row : List Int} (f : α → D) (P : Nat → α → Prop) (h : NxtA S i j row) (hm : m ≤ 1000000)
    (ht : ∀ k S', k < m → NxtA S' i j row → Kp [i] S S' → Wp NoX (te (l.set s (some (.int (lo + k)))) S') fun v S2 => ∃ x, v = f x ∧ P k x ∧ Dr i j row S' S2)
    (hd : ∀ (xs : List α) (S' : Hs), xs.length = m → (∀ k x, xs[k]? = some x → P k x) → S'[S.length]? = some (.lst (xs.map f)) → Dr i j row S S' → Q (.ref S.length) S') :
    Wp X (cLoop (.rng lo m) (cN s) mYes te l S.length 0 (S ++ [.lst []])) Q := by
  have hi := h.lt
  refine wp_lcRng (fun k acc S' => ∃ xs : List α, acc = xs.map f ∧ xs.length = k ∧ (∀ k x, xs[k]? = some x → P k x) ∧ S'[S.length]? = some (.lst acc) ∧ Dr i j row S S') ⟨[], rfl, rfl, by simp, by simp, h.new, Kp.new⟩ ?_ ?_
  · rintro k acc S' hk ⟨xs, rfl, hl, hp, hq, hn, hK⟩
    refine ⟨_, rfl, ?_⟩
    simp_arith []
    refine (ht k S' hk hn hK).mono (fun _ _ _ _ h => h) ?_
    rintro v S2 ⟨x, rfl, px, hn2, hK2⟩
    have hq2 := hK2.get hq (by simp; omega)
    refine ⟨hq2, by simp only [List.length_map]; exact line_big (by omega), xs ++ [x], by simp, by simp [hl], ?_, get_put hq2, ?_, (hK.trans hK2).setNew (Nat.le_refl _)⟩
    · intro k' x' e
      by_cases hk' : k' < xs.length
      · rw [List.getElem?_append_left hk'] at e; exact hp _ _ e
      · rw [List.getElem?_append_right (by omega)] at e
        have : k' - xs.length = 0 := by
          rcases Nat.eq_zero_or_pos (k' - xs.length) with z | z
          · exact z
          · rw [List.getElem?_eq_none (by simp; omega)] at e; cases e
        rw [this] at e
        simp at e
        subst e
        have : k' = k := by omega
        rw [this]; exact px
    · obtain ⟨a, hn2⟩ := hn2
      have hj : j ≠ S.length := by have := h.ltj; omega
      exact ⟨a, by rw [List.getElem?_set_ne (by omega)]; exact hn2.d, by rw [List.getElem?_set_ne (Ne.symm hj)]; exact hn2.r, hn2.ne, hn2.nn⟩
  · rintro acc S' ⟨xs, rfl, hl, hp, hq, hD⟩
    exact hd xs S' hl hp hq hD
structure Arr where
  name : Str
  len : Nat
  label : Str
def Arr.D (a : Arr) : D := .tup [.str a.name, nD a.len, .str a.label]
def Arr.ok (a : Arr) : Prop := 1 ≤ a.len ∧ a.len ≤ 11 ∧ (a.label = "public" ∨ a.label = "secret") ∧ a.name.length ≤ 1000 ∧ PyData.strOk a.name = true
abbrev blockD (b : List Row) : D := .tup (b.map Row.D)
def progD (arrs : List Arr) (params : Nat) (blocks : List (List Row)) : D := .tup [.tup (arrs.map Arr.D), nD params, .tup (blocks.map blockD)]
def blockOk (nr na nb : Nat) (b : List Row) : Prop := b.length ≤ 8 ∧ ∃ body r, b = body ++ [r] ∧ (∀ x ∈ body, x.ok nr na nb ∧ x.last = false) ∧ r.ok nr na nb ∧ r.last = true
structure ProgOk (nr : Nat) (arrs : List Arr) (params : Nat) (blocks : List (List Row)) : Prop where
  na : arrs.length ≤ 3
  ar : ∀ a ∈ arrs, a.ok
  np : params ≤ 4
  nb : 1 ≤ blocks.length ∧ blocks.length ≤ 5
  bl : ∀ b ∈ blocks, blockOk nr arrs.length blocks.length b
noncomputable def lb_program : MS := (mSeq (mSet 5 (mLc (mRng1 (lCons (mFn m_next (lCons (mVar 0) (lCons (mC (.int 8)) lNil))) lNil)) (cN 6) mYes (mFn m_row (lCons (mVar 0) (lCons (mCall bLen (lCons (mVar 1) lNil)) (lCons (mVar 2) (lCons (mC (.bl false)) lNil))))) [6]))
    (mExpr (mBM "list" oAppend (mVar 3) (lCons (mCall bTuple (lCons (mBin oAdd (mVar 5) (mLst (lCons (mFn m_row (lCons (mVar 0) (lCons (mCall bLen (lCons (mVar 1) lNil)) (lCons (mVar 2) (lCons (mC (.bl true)) lNil))))) lNil))) lNil)) lNil))))
noncomputable def b_program : MS := (mSeq (mSet 1 (mCall bTuple (lCons (mLc (mRng1 (lCons (mFn m_next (lCons (mVar 0) (lCons (mC (.int 4)) lNil))) lNil)) (cN 4) mYes (mTup (lCons (mBin oAdd (mC (.str "a")) (mCall bStr (lCons (mVar 4) lNil))) (lCons (mBin oAdd (mC (.int 1)) (mFn m_next (lCons (mVar 0) (lCons (mC (.int 11)) lNil)))) (lCons (mBin oIx (mLst (lCons (mC (.str "public")) (lCons (mC (.str "secret")) lNil))) (mFn m_next (lCons (mVar 0) (lCons (mC (.int 2)) lNil)))) lNil)))) [4]) lNil)))
    (mSeq (mSet 2 (mBin oAdd (mC (.int 1)) (mFn m_next (lCons (mVar 0) (lCons (mC (.int 5)) lNil)))))
    (mSeq (mSet 3 (mLst lNil))
    (mSeq (mFor (mRng1 (lCons (mVar 2) lNil)) (gN 4) lb_program)
    (mRet (mTup (lCons (mVar 1) (lCons (mFn m_next (lCons (mVar 0) (lCons (mC (.int 5)) lNil))) (lCons (mCall bTuple (lCons (mVar 3) lNil)) lNil)))))))))
noncomputable def m_program : MD := mDef 1 6 b_program
theorem bTuple_lst {S : Hs} {q : Nat} {ds : List D} (h : S[q]? = some (.lst ds)) : bTuple [.ref q] S = .ok (.tup ds) S := by simp [bTuple, seqD, h]
theorem oAdd_lst {S : Hs} {p q : Nat} {ds es : List D} (h : S[p]? = some (.lst ds)) (h' : S[q]? = some (.lst es)) (hl : ds.length + es.length ≤ sizeLine) : oAdd (.ref p) (.ref q) S = .ok (.ref S.length) (S ++ [.lst (ds ++ es)]) := by simp [oAdd, h, h', hl]
theorem wipe1 {l : Ls} {s : Nat} : wipeL l [s] = l.set s none := nr rfl
theorem block_ok {S : Hs} {i j : Nat} {row : List Int} {arrs : List Arr} {nb q : Nat} {bs : List (List Row)} {o4 o5 o6 : Option D} (h : NxtA S i j row) (hq : S[q]? = some (.lst (bs.map blockD))) (hqi : q ≠ i) (hqj : q ≠ j) (hnb : 0 < nb) (hb : bs.length < 1000) :
    Wp NoX (lb_program [some (.ref i), some (.tup (arrs.map Arr.D)), some (nD nb), some (.ref q), o4, o5, o6] S) fun r S' => ∃ o5 b, r = .nx [some (.ref i), some (.tup (arrs.map Arr.D)), some (nD nb), some (.ref q), o4, o5, o6] ∧ blockOk 9 arrs.length nb b ∧ S'[q]? = some (.lst ((bs ++ [b]).map blockD)) ∧ NxtA S' i j row ∧ Kp [i, q] S S' := by
  have hi0 := h.lt
  unfold lb_program
  simp_arith []
  refine Wp.call (next_ok h (by decide)) ?_
  rintro _ S1 ⟨m, rfl, m0, m1, h, u1⟩
  simp_arith [rng1 (n := m) S1 (by omega) (by omega), wipe1]
  refine lc_draw (α := Row) Row.D (fun _ r => r.ok 9 arrs.length nb ∧ r.last = false) h (by omega) ?_ ?_
  · intro k S' hk h' _
    simp_arith [bLen_tup, List.length_map]
    refine Wp.call (row_ok h' hnb) ?_
    rintro _ S2 ⟨r, rfl, hr, hl, hD⟩
    exact ⟨r, rfl, ⟨hr, hl⟩, hD⟩
  · rintro xs S2 hl hp hq2 ⟨h, u2⟩
    simp_arith []
    have g2 := u2.get (u1.get hq (by simpa using hqi)) (by simpa using hqi)
    simp_arith [hasTy_lst g2, bLen_tup, List.length_map]
    refine Wp.call (row_ok h hnb) ?_
    rintro _ S3 ⟨r, rfl, hr, hrl, h, u3⟩
    have hx3 : (S3 ++ [O.lst [r.D]])[S1.length]? = some (.lst (xs.map Row.D)) := by
      have := u3.get hq2 (by have e1 := u1.le; simp; omega)
      rw [List.getElem?_append_left (Real.lt this)]; exact this
    have hlx : (xs.map Row.D).length + [r.D].length ≤ sizeLine := by simp only [List.length_map, List.length_singleton]; exact line_le (by omega)
    simp_arith [oAdd_lst hx3 get_end hlx, bTuple_lst get_end]
    have g3 : ((S3 ++ [O.lst [r.D]]) ++ [O.lst (xs.map Row.D ++ [r.D])])[q]? = some (.lst (bs.map blockD)) := by
      have := u3.get g2 (by simpa using hqi)
      rw [List.append_assoc, List.getElem?_append_left (Real.lt this)]; exact this
    simp_arith [oAppend_lst g3 (by simp only [List.length_map]; exact line_big (by omega))]
    have hK : Kp [i] S ((S3 ++ [O.lst [r.D]]) ++ [O.lst (xs.map Row.D ++ [r.D])]) := ((u1.trans u2).trans u3).app.app
    refine ⟨_, xs ++ [r], rfl, ⟨by simp; omega, xs, r, rfl, fun x hx => ?_, hr, hrl⟩, ?_, ?_, ?_⟩
    · obtain ⟨k, hk⟩ := List.getElem?_of_mem hx
      exact hp k x hk
    · rw [get_put g3]; simp [blockD]
    · obtain ⟨a, h⟩ := (h.new (g := [O.lst [r.D]])).new (g := [O.lst (xs.map Row.D ++ [r.D])])
      exact ⟨a, by rw [List.getElem?_set_ne hqi]; exact h.d, by rw [List.getElem?_set_ne hqj]; exact h.r, h.ne, h.nn⟩
    · exact (hK.sub (by simp)).setIn (by simp)
theorem program_ok {S : Hs} {i j : Nat} {row : List Int} (h : NxtA S i j row) :
    Wp NoX (m_program [.ref i] S) fun v S' => ∃ arrs params blocks, v = progD arrs params blocks ∧ ProgOk 9 arrs params blocks ∧ Dr i j row S S' := by
  refine wp_def0 rfl ?_
  unfold b_program
  simp_arith []
  refine Wp.call (next_ok h (by decide)) ?_
  rintro _ S1 ⟨m, rfl, m0, m1, h, u1⟩
  simp_arith [rng1 (n := m) S1 (by omega) (by omega), wipe1]
  refine lc_draw (α := Arr) Arr.D (fun _ a => a.ok) h (by omega) ?_ ?_
  · intro k S' hk h' _
    have e1 : ∀ S, bStr [.int (0 + (k : Int))] S = .ok (.str (Str.ofString (toString (0 + (k : Int))))) S := fun S => by
      have : (0 + (k : Int)).natAbs.log2 < 1920 := by
        have h1 : (0 + (k : Int)).natAbs < 2 ^ 10 := by omega
        rcases Nat.eq_zero_or_pos (0 + (k : Int)).natAbs with z | z
        · rw [z]; decide
        · have := (Nat.log2_lt (by omega)).mpr h1; omega
      simp only [bStr, if_pos this]
    have hlen : (Str.ofString (toString (0 + (k : Int)))).length ≤ 900 := by
      have : (k = 0 ∨ k = 1 ∨ k = 2 ∨ k = 3) := by omega
      rcases this with rfl | rfl | rfl | rfl <;> decide +kernel
    have hla : ("a" : Str).length = 1 := by decide +kernel
    have e2 : ∀ S, oAdd (.str "a") (.str (Str.ofString (toString (0 + (k : Int))))) S = .ok (.str ("a" ++ Str.ofString (toString (0 + (k : Int))))) S := fun S => by
      have : ("a" : Str).length + (Str.ofString (toString (0 + (k : Int)))).length ≤ sizeLine := line_le (by omega)
      simp only [oAdd, if_pos this]
    simp_arith [e1, e2]
    refine Wp.call (next_ok h' (by decide)) ?_
    rintro _ S2 ⟨len, rfl, n0, n1, h2, u2⟩
    simp_arith [oAdd_int]
    refine Wp.call (next_ok h2.new (by decide)) ?_
    rintro _ S3 ⟨c, rfl, c0, c1, h3, u3⟩
    simp_arith []
    refine wp_ix (u3.get get_end (by have := h2.lt; simp; omega)) c0 (by simpa using c1) ?_
    intro x hx
    simp_arith []
    obtain ⟨n, rfl⟩ := Int.eq_ofNat_of_zero_le n0
    have hx2 : ∃ s : Str, x = .str s ∧ (s = "public" ∨ s = "secret") := by
      simp only [List.mem_cons, List.not_mem_nil, or_false] at hx
      rcases hx with rfl | rfl
      · exact ⟨_, rfl, .inl rfl⟩
      · exact ⟨_, rfl, .inr rfl⟩
    obtain ⟨s, rfl, hs⟩ := hx2
    have hso : PyData.strOk (("a" : Str) ++ Str.ofString (toString (0 + (k : Int)))) = true := by
      have : (k = 0 ∨ k = 1 ∨ k = 2 ∨ k = 3) := by omega
      rcases this with rfl | rfl | rfl | rfl <;> decide +kernel
    refine ⟨⟨_, 1 + n, s⟩, rfl, ⟨by simp, by simp; omega, hs, ?_, hso⟩, h3, u2.app.trans u3⟩
    have : ("a" ++ Str.ofString (toString (0 + (k : Int))) : Str).length = ("a" : Str).length + (Str.ofString (toString (0 + (k : Int)))).length := by
      show (Array.append _ _).size = _
      exact Array.size_append ..
    show Str.length _ ≤ 1000
    rw [this]; omega
  · rintro arrs S2 hl hp hq2 ⟨h, u2⟩
    simp_arith [bTuple_lst hq2]
    refine Wp.call (next_ok h (by decide)) ?_
    rintro _ S3 ⟨many, rfl, n0, n1, h3, u3⟩
    obtain ⟨mn, rfl⟩ := Int.eq_ofNat_of_zero_le n0
    have e : (1 + (mn : Int)) = ((1 + mn : Nat) : Int) := by omega
    simp_arith [oAdd_int, e, rng1 (n := ((1 + mn : Nat) : Int)) (S3 ++ [.lst []]) (by omega) (by omega), Int.toNat_natCast]
    have hS : S.length ≤ S3.length := by have := u1.le; have := u2.le; have := u3.le; omega
    have hi3 : i < S3.length := h3.lt
    have hj3 : j < S3.length := h3.ltj
    refine wp_rng (fun k l S' => ∃ (bs : List (List Row)) (o5 o4 : Option D), l = [some (.ref i), some (.tup (arrs.map Arr.D)), some (nD (1 + mn)), some (.ref S3.length), o4, o5, none] ∧ bs.length = k ∧ (∀ b ∈ bs, blockOk 9 arrs.length (1 + mn) b) ∧ S'[S3.length]? = some (.lst (bs.map blockD)) ∧ Dr i j row S S')
      ⟨[], none, none, rfl, rfl, by simp, by simp, h3.new, ((u1.trans u2).trans u3).app⟩ ?_ ?_
    · rintro k l S' hk ⟨bs, o5, o4, rfl, hbl, hbs, hq, h4, u4⟩
      simp_arith []
      refine (block_ok h4 hq (by omega) (by omega) (by omega) (by omega)).mono (fun _ _ _ _ h => h) ?_
      rintro r S4 ⟨o5, b, rfl, hb, hq4, h5, u5⟩
      refine ⟨bs ++ [b], o5, _, rfl, by simp [hbl], ?_, hq4, h5, u4.after u5 ?_⟩
      · intro x hx
        rcases List.mem_append.mp hx with hx | hx
        · exact hbs x hx
        · simp only [List.mem_singleton] at hx; subst hx; exact hb
      · intro z hz hz2
        simp only [List.mem_cons, List.not_mem_nil, or_false] at hz
        rcases hz with rfl | rfl
        · simp
        · omega
    · rintro l S' ⟨bs, o5, o4, rfl, hbl, hbs, hq, h4, u4⟩
      simp_arith []
      refine Wp.call (next_ok h4 (by decide)) ?_
      rintro _ S5 ⟨pn, rfl, p0, p1, h5, u5⟩
      obtain ⟨pn, rfl⟩ := Int.eq_ofNat_of_zero_le p0
      have hq5 := u5.get hq (by simp; omega)
      simp_arith [bTuple_lst hq5]
      refine ⟨arrs, pn, bs, rfl, ⟨by omega, fun a ha => ?_, by omega, by omega, fun b hb => ?_⟩, h5, u4.trans u5⟩
      · obtain ⟨k, hk⟩ := List.getElem?_of_mem ha
        exact hp k a hk
      · rw [hbl]; exact hbs b hb
end Ly
set_option Elab.async false
set_option linter.all false
set_option maxRecDepth 100000
namespace Ly
open PySem PySem.Spec L2
open PyProof.Rows hiding St
local macro_rules | `(tactic| simp_arith [$ls,*]) => `(tactic| simp only [Ly.line_le, Ly.atX_no, Ly.v_ok, Ly.v_bad, Ly.v_bind, Ly.k_bd, Ly.v_at, Ly.v_bin, Ly.k_bi, Ly.k_bi2, Ly.v_var, Ly.v_c, Ly.v_un, Ly.k_un, Ly.v_if, Ly.k_ife, Ly.v_and, Ly.k_and, Ly.k_and2, Ly.v_or, Ly.k_or, Ly.k_or2, Ly.v_tup, Ly.k_tup, Ly.v_lst, Ly.k_lst, Ly.v_call, Ly.k_ca, Ly.v_fn, Ly.k_fn, Ly.v_bm, Ly.k_bm, Ly.k_bm2, Ly.v_sl, Ly.k_sl, Ly.k_sl2, Ly.k_sl3, Ly.v_ixK, Ly.k_ixk, Ly.v_inK, Ly.k_ink, Ly.v_notinK, Ly.k_nink, Ly.v_getK2, Ly.k_gk2, Ly.k_gk, Ly.v_get2, Ly.k_g2, Ly.k_g22, Ly.k_g23, Ly.v_nil, Ly.v_cons, Ly.k_co, Ly.k_co2, Ly.v_no, Ly.v_some, Ly.k_so, Ly.k_cm, Ly.v_cmp, Ly.v_tru, Ly.k_tr, Ly.v_notB, Ly.k_no, Ly.v_andB, Ly.k_an, Ly.v_orB, Ly.k_orb, Ly.v_yes, Ly.v_inKB, Ly.k_inkB, Ly.v_notinKB, Ly.k_ninkB, Ly.v_set, Ly.k_st, Ly.v_expr, Ly.k_ex, Ly.v_ret, Ly.k_re, Ly.v_retN, Ly.v_pass, Ly.v_brk, Ly.v_cnt, Ly.v_seq, Ly.k_sq_nx, Ly.k_sq_rt, Ly.k_sq_bk, Ly.k_sq_ct, Ly.v_ifS, Ly.k_ifs, Ly.v_asg, Ly.k_as, Ly.k_as2, Ly.v_aug, Ly.k_au, Ly.v_for, Ly.k_fo, Ly.v_it, Ly.k_it, Ly.k_ij, Ly.v_rng1, Ly.v_rng2, Ly.v_enum, Ly.v_zip, Ly.v_ez, Ly.v_gN, Ly.v_gsN, Ly.v_gsC, Ly.k_gc, Ly.v_gT, Ly.v_gTw, Ly.v_gSb, Ly.k_gsb, Ly.k_gsb2, Ly.k_gsb3, Ly.k_en_rt, Ly.k_en_nx, Ly.k_tu_nx, Ly.k_tu_ct, Ly.k_tu_bk, Ly.k_tu_rt, Ly.v_lc, Ly.k_lc, Ly.v_augI, Ly.k_ag, Ly.k_ag2, Ly.k_ag3, Ly.k_ag4, Ly.k_ag5, Ly.v_del, Ly.k_dl, Ly.k_dl2, Ly.v_setd, Ly.v_pop2, Ly.k_d3, Ly.k_d32, Ly.k_d33, Ly.v_get1, Ly.k_g1, Ly.k_g12, Ly.v_rg1, Ly.k_rg, Ly.v_rg2, Ly.k_rg2, Ly.k_rg22, Ly.v_dicK, Ly.v_dicT, Ly.v_dc, Ly.k_dc, List.getElem?_cons_zero, List.getElem?_cons_succ, List.set_cons_zero, List.set_cons_succ, List.length_cons, List.length_nil, List.map_cons, List.map_nil, List.cons_append, List.nil_append, List.replicate, if_true, if_false, Bool.false_eq_true, Bool.not_true, Bool.not_false, Bool.true_and, Bool.false_and, decide_true, decide_false, decide_eq_true_eq, Nat.zero_add, Nat.reduceAdd, Nat.reduceLeDiff, true_and, and_true, $ls,*])
noncomputable def b_nextD : MS := (mSeq (mSet 2 (mBin oIx (mVar 0) (mC (.str "at"))))
    (mSeq (mAsg (mBin oAdd (mVar 2) (mC (.int 1))) (gSb (mVar 0) (mC (.str "at"))))
    (mSeq (mIfS (mCmp oLt (mVar 2) (mCall bLen (lCons (mBin oIx (mVar 0) (mC (.str "row"))) lNil))) (mRet (mBin oMod (mCall bInt (lCons (mBin oIx (mBin oIx (mVar 0) (mC (.str "row"))) (mVar 2)) lNil)) (mVar 1))) mPass)
    (mSeq (mSet 3 (mBin oMod (mCall bInt (lCons (mBin oMul (mBin oAdd (mBin oAdd (mBin oIx (mVar 0) (mC (.str "seed"))) (mBin oMul (mC (.int 17)) (mVar 2))) (mC (.int 3))) (mC (.int 48271))) lNil)) (mC (.int 2147483647))))
    (mRet (mBin oMod (mBin oFdiv (mBin oMod (mCall bInt (lCons (mBin oAdd (mBin oMul (mVar 3) (mVar 3)) (mVar 2)) lNil)) (mC (.int 2147483629))) (mC (.int 7))) (mVar 1)))))))
noncomputable def m_nextD : MD := mDef 2 2 b_nextD
def DrwN (S : Hs) (i j : Nat) : Prop := ∃ row a sd, Drw S i j row a sd
section
variable {S S' g : Hs} {i j : Nat} {many : Int}
theorem DrwN.kp {A : List Nat} (h : DrwN S i j) (k : Kp A S S') (hi : i ∉ A) (hj : j ∉ A) : DrwN S' i j := by
  obtain ⟨row, a, sd, h⟩ := h
  exact ⟨row, a, sd, k.get h.d hi, k.get h.r hj, h.ne, h.nn⟩
theorem DrwN.kp0 (h : DrwN S i j) (k : Kp [] S S') : DrwN S' i j := h.kp k (by simp) (by simp)
theorem DrwN.new (h : DrwN S i j) : DrwN (S ++ g) i j := h.kp0 Kp.new
theorem DrwN.lt (h : DrwN S i j) : i < S.length := by obtain ⟨row, a, sd, h⟩ := h; exact Real.lt h.d
theorem DrwN.ltj (h : DrwN S i j) : j < S.length := by obtain ⟨row, a, sd, h⟩ := h; exact Real.lt h.r
theorem DrwN.ne (h : DrwN S i j) : i ≠ j := by obtain ⟨row, a, sd, h⟩ := h; exact h.ne
theorem nextD_ok (h : DrwN S i j) (hm : 0 < many) : Wp NoX (m_nextD [.ref i, .int many] S) fun v S' => ∃ x : Nat, v = nD x ∧ (x : Int) < many ∧ DrwN S' i j ∧ Kp [i] S S' ∧ S'.length = S.length := by
  obtain ⟨row, a, sd, h⟩ := h
  have nat : ∀ z : Int, 0 ≤ z → z < many → ∃ x : Nat, D.int z = nD x ∧ (x : Int) < many := fun z h0 h1 => ⟨z.toNat, by simp only [nD]; rw [Int.toNat_of_nonneg h0], by omega⟩
  have hd := h.d
  have d0 : S[i]? = some (.dic (drawsK (.ref j) (.int a) (.int sd))) := hd
  have nn := h.nn
  have h2 : (S.set i (drawsO j (a + 1) sd))[i]? = some (.dic (drawsK (.ref j) (.int (a + 1)) (.int sd))) := get_put hd
  have hr2 : (S.set i (drawsO j (a + 1) sd))[j]? = some (.lst (row.map D.int)) := by rw [List.getElem?_set_ne h.ne]; exact h.r
  have hK : Kp [i] S (S.set i (drawsO j (a + 1) sd)) := Kp.set (by simp)
  have hN : DrwN (S.set i (drawsO j (a + 1) sd)) i j := ⟨row, a + 1, sd, h2, hr2, h.ne, by omega⟩
  have hrest : (S.set i (drawsO j (a + 1) sd)).length = S.length := by simp
  have e3 : oSet (.ref i) (.str "at") (.int (a + 1)) S = .ok () (S.set i (drawsO j (a + 1) sd)) := by
    rw [oSet_dic d0 key_str (by rw [drawsK_len]; decide), drawsK_set]; rfl
  refine wp_def0 rfl ?_
  unfold b_nextD
  simp_arith [oIx_dic d0 key_str (drawsK_at _ _ _), oAdd_int, e3, oIx_dic h2 key_str (drawsK_row _ _ _), oIx_dic h2 key_str (drawsK_seed _ _ _), bLen_lst hr2, oLt_int, List.length_map]
  by_cases hl : a < (row.length : Int)
  · have hx : oIx (.ref j) (.int a) (S.set i (drawsO j (a + 1) sd)) = .ok (.int (row.getD a.toNat 0)) (S.set i (drawsO j (a + 1) sd)) := by
      have : a.toNat < row.length := by omega
      exact oIx_lst hr2 nn (by simpa using hl) (by simp [List.getD, List.getElem?_eq_getElem this])
    simp_arith [hl, hx, bInt_int, oMod_int hm]
    obtain ⟨x, e, hx⟩ := nat _ (Int.emod_nonneg _ (by omega)) (Int.emod_lt_of_pos _ hm)
    exact ⟨x, e, hx, hN, hK, hrest⟩
  · have m1 : IntMulOk 17 a := mulok_l (by decide)
    have m2 : ∀ c : Int, IntMulOk c 48271 := fun c => mulok_r (by decide)
    have m3 : ∀ c : Int, IntMulOk (c % 2147483647) (c % 2147483647) := fun c => mulok_r (by omega)
    simp_arith [hl, oMul_int m1, oMul_int (m2 _), oMod_int (show (0:Int) < 2147483647 by decide), bInt_int, oMul_int (m3 _), oMod_int (show (0:Int) < 2147483629 by decide), oFdiv_int (show (0:Int) < 7 by decide) (show Nat.log2 7 < 9000 by decide), oMod_int hm, oAdd_int]
    obtain ⟨x, e, hx⟩ := nat _ (Int.emod_nonneg _ (by omega)) (Int.emod_lt_of_pos _ hm)
    exact ⟨x, e, hx, hN, hK, hrest⟩
end
theorem rng2 {a b : Int} (S : Hs) (h0 : -1000000000 ≤ a) (h1 : a ≤ 1000000000) (h2 : -1000000000 ≤ b) (h3 : b ≤ 1000000000) : oRng2 [.int a, .int b] S = .ok (.rng a (b - a).toNat) S := by
  have e1 : -(2 ^ 62) ≤ (-1000000000 : Int) := by decide +kernel
  have e2 : (1000000000 : Int) < 2 ^ 62 := by decide +kernel
  simp only [oRng2]
  rw [if_pos ⟨Int.le_trans e1 h0, Int.lt_of_le_of_lt h1 e2, Int.le_trans e1 h2, Int.lt_of_le_of_lt h3 e2⟩]
theorem cutD_to {ds : List D} {k : Nat} : cutD ds none (some (k : Int)) = ds.take k := by
  unfold cutD
  rw [HT.sIx_nat, HT.sIx_none]
  simp only [List.drop_zero, Nat.sub_zero]
  by_cases h : k ≤ ds.length
  · rw [Nat.min_eq_left h]
  · rw [Nat.min_eq_right (by omega), List.take_of_length_le (Nat.le_refl _), List.take_of_length_le (by omega)]
theorem oSl_lst {S : Hs} {i : Nat} {ds : List D} {a b : Option Int} (h : S[i]? = some (.lst ds)) : oSl (.ref i) a b S = .ok (.ref S.length) (S ++ [.lst (cutD ds a b)]) := by simp [oSl, h]
theorem tix0 {xs : List D} {d : D} {S : Hs} : oIx (.tup (d :: xs)) (.int 0) S = .ok d S := by simp [oIx, L2.atI, L2.ixN]
theorem tix1 {xs : List D} {d e : D} {S : Hs} : oIx (.tup (d :: e :: xs)) (.int 1) S = .ok e S := by
  have : (1 : Int) < ((d :: e :: xs).length : Int) := by simp only [List.length_cons]; omega
  simp only [oIx, L2.atI, L2.ixN]; rw [if_pos (by decide), if_pos this]; rfl
theorem tix2 {xs : List D} {d e f : D} {S : Hs} : oIx (.tup (d :: e :: f :: xs)) (.int 2) S = .ok f S := by
  have : (2 : Int) < ((d :: e :: f :: xs).length : Int) := by simp only [List.length_cons]; omega
  simp only [oIx, L2.atI, L2.ixN]; rw [if_pos (by decide), if_pos this]; rfl
theorem tix3 {xs : List D} {d e f g : D} {S : Hs} : oIx (.tup (d :: e :: f :: g :: xs)) (.int 3) S = .ok g S := by
  have : (3 : Int) < ((d :: e :: f :: g :: xs).length : Int) := by simp only [List.length_cons]; omega
  simp only [oIx, L2.atI, L2.ixN]; rw [if_pos (by decide), if_pos this]; rfl
end Ly
set_option Elab.async false
set_option linter.all false
set_option maxRecDepth 100000
namespace Ly
open PySem PySem.Spec L2
open PyProof.Rows hiding St
local macro_rules | `(tactic| simp_arith [$ls,*]) => `(tactic| simp only [Ly.line_le, Ly.atX_no, Ly.v_ok, Ly.v_bad, Ly.v_bind, Ly.k_bd, Ly.v_at, Ly.v_bin, Ly.k_bi, Ly.k_bi2, Ly.v_var, Ly.v_c, Ly.v_un, Ly.k_un, Ly.v_if, Ly.k_ife, Ly.v_and, Ly.k_and, Ly.k_and2, Ly.v_or, Ly.k_or, Ly.k_or2, Ly.v_tup, Ly.k_tup, Ly.v_lst, Ly.k_lst, Ly.v_call, Ly.k_ca, Ly.v_fn, Ly.k_fn, Ly.v_bm, Ly.k_bm, Ly.k_bm2, Ly.v_sl, Ly.k_sl, Ly.k_sl2, Ly.k_sl3, Ly.v_ixK, Ly.k_ixk, Ly.v_inK, Ly.k_ink, Ly.v_notinK, Ly.k_nink, Ly.v_getK2, Ly.k_gk2, Ly.k_gk, Ly.v_get2, Ly.k_g2, Ly.k_g22, Ly.k_g23, Ly.v_nil, Ly.v_cons, Ly.k_co, Ly.k_co2, Ly.v_no, Ly.v_some, Ly.k_so, Ly.k_cm, Ly.v_cmp, Ly.v_tru, Ly.k_tr, Ly.v_notB, Ly.k_no, Ly.v_andB, Ly.k_an, Ly.v_orB, Ly.k_orb, Ly.v_yes, Ly.v_inKB, Ly.k_inkB, Ly.v_notinKB, Ly.k_ninkB, Ly.v_set, Ly.k_st, Ly.v_expr, Ly.k_ex, Ly.v_ret, Ly.k_re, Ly.v_retN, Ly.v_pass, Ly.v_brk, Ly.v_cnt, Ly.v_seq, Ly.k_sq_nx, Ly.k_sq_rt, Ly.k_sq_bk, Ly.k_sq_ct, Ly.v_ifS, Ly.k_ifs, Ly.v_asg, Ly.k_as, Ly.k_as2, Ly.v_aug, Ly.k_au, Ly.v_for, Ly.k_fo, Ly.v_it, Ly.k_it, Ly.k_ij, Ly.v_rng1, Ly.v_rng2, Ly.v_enum, Ly.v_zip, Ly.v_ez, Ly.v_gN, Ly.v_gsN, Ly.v_gsC, Ly.k_gc, Ly.v_gT, Ly.v_gTw, Ly.v_gSb, Ly.k_gsb, Ly.k_gsb2, Ly.k_gsb3, Ly.k_en_rt, Ly.k_en_nx, Ly.k_tu_nx, Ly.k_tu_ct, Ly.k_tu_bk, Ly.k_tu_rt, Ly.v_lc, Ly.k_lc, Ly.v_augI, Ly.k_ag, Ly.k_ag2, Ly.k_ag3, Ly.k_ag4, Ly.k_ag5, Ly.v_del, Ly.k_dl, Ly.k_dl2, Ly.v_setd, Ly.v_pop2, Ly.k_d3, Ly.k_d32, Ly.k_d33, Ly.v_get1, Ly.k_g1, Ly.k_g12, Ly.v_rg1, Ly.k_rg, Ly.v_rg2, Ly.k_rg2, Ly.k_rg22, Ly.v_dicK, Ly.v_dicT, Ly.v_dc, Ly.k_dc, List.getElem?_cons_zero, List.getElem?_cons_succ, List.set_cons_zero, List.set_cons_succ, List.length_cons, List.length_nil, List.map_cons, List.map_nil, List.cons_append, List.nil_append, List.replicate, if_true, if_false, Bool.false_eq_true, Bool.not_true, Bool.not_false, Bool.true_and, Bool.false_and, decide_true, decide_false, decide_eq_true_eq, Nat.zero_add, Nat.reduceAdd, Nat.reduceLeDiff, true_and, and_true, $ls,*])
theorem bit_or (a b : Nat) : Builtin.bitOr (a : Int) (b : Int) = ((a ||| b : Nat) : Int) := by
  have h1 : ∀ n : Nat, Builtin.bitNot (n : Int) = -(n : Int) - 1 := fun n => by simp [Builtin.bitNot]
  have h2 : ∀ n : Nat, Builtin.bitNot (-(n : Int) - 1) = (n : Int) := fun n => by simp [Builtin.bitNot]; omega
  unfold Builtin.bitOr
  rw [h1, h1]
  have d1 : decide (0 ≤ -(a : Int) - 1) = false := by simp; omega
  have d2 : decide (0 ≤ -(b : Int) - 1) = false := by simp; omega
  simp only [Builtin.bitAnd, d1, d2, h2, Int.toNat_natCast]
  rw [h1, h2]
def bitN (n k : Nat) : Nat := n / 2 ^ k % 2
theorem bitN_test (n k : Nat) : bitN n k = if n.testBit k then 1 else 0 := by
  rw [Nat.testBit_eq_decide_div_mod_eq]
  unfold bitN
  have := Nat.mod_lt (n / 2 ^ k) (show 2 > 0 by decide)
  by_cases h : n / 2 ^ k % 2 = 1
  · simp [h]
  · simp [h]; omega
theorem mod_step (n k : Nat) : n % 2 ^ (k + 1) = n % 2 ^ k + 2 ^ k * bitN n k := Nat.mod_pow_succ
theorem or_split (x y : Nat) : ∀ k, (x ||| y) % 2 ^ k = (x ^^^ y) % 2 ^ k + (x &&& y) % 2 ^ k
  | 0 => by simp [Nat.mod_one]
  | k + 1 => by
    rw [mod_step, mod_step, mod_step, or_split x y k, bitN_test, bitN_test, bitN_test, Nat.testBit_or, Nat.testBit_xor, Nat.testBit_and]
    cases x.testBit k <;> cases y.testBit k <;> simp <;> omega
theorem bit_xor {a b : Nat} (ha : a < 2 ^ 32) (hb : b < 2 ^ 32) : Builtin.bitXor (a : Int) (b : Int) = ((a ^^^ b : Nat) : Int) := by
  unfold Builtin.bitXor
  rw [bit_or, PySem.W.os_band]
  have h := or_split a b 32
  rw [Nat.mod_eq_of_lt (Nat.or_lt_two_pow ha hb), Nat.mod_eq_of_lt (Nat.xor_lt_two_pow ha hb), Nat.mod_eq_of_lt (Nat.and_lt_two_pow a hb)] at h
  omega
def opN (s : Str) (a b : Nat) : Nat :=
  if s = "+" then (a + b) % 4294967296
  else if s = "-" then (a + 4294967296 - b) % 4294967296
  else if s = "*" then a * b % 4294967296
  else if s = "&" then a &&& b
  else if s = "|" then a ||| b
  else if s = "^" then a ^^^ b
  else if s = "<<" then a * 2 ^ (b % 32) % 4294967296
  else if s = ">>" then a / 2 ^ (b % 32)
  else if s = "==" then (if a = b then 1 else 0)
  else if s = "<" then (if a < b then 1 else 0)
  else if s = "<=" then (if a ≤ b then 1 else 0)
  else if s = "div" then a / b
  else a % b
theorem pow_big {n : Nat} : (2 : Nat) ^ 32 = 4294967296 := by decide +kernel
theorem opN_lt {s : Str} {a b : Nat} (ha : a < 4294967296) (hb : b < 4294967296) : opN s a b < 4294967296 := by
  have g : ∀ (c : Prop) [Decidable c] (x y : Nat), x < 4294967296 → y < 4294967296 → (if c then x else y) < 4294967296 := fun c _ x y hx hy => by
    by_cases h : c
    · rw [if_pos h]; exact hx
    · rw [if_neg h]; exact hy
  have m : ∀ x : Nat, x % 4294967296 < 4294967296 := fun x => Nat.mod_lt _ (by decide)
  have ha' : a < 2 ^ 32 := by rw [pow_big (n := 0)]; exact ha
  have hb' : b < 2 ^ 32 := by rw [pow_big (n := 0)]; exact hb
  have p : (2 : Nat) ^ 32 = 4294967296 := pow_big (n := 0)
  exact g _ _ _ (m _) (g _ _ _ (m _) (g _ _ _ (m _) (g _ _ _ (Nat.lt_of_le_of_lt Nat.and_le_left ha) (g _ _ _ (p ▸ Nat.or_lt_two_pow ha' hb') (g _ _ _ (p ▸ Nat.xor_lt_two_pow ha' hb') (g _ _ _ (m _) (g _ _ _ (Nat.lt_of_le_of_lt (Nat.div_le_self _ _) ha)
    (g _ _ _ (g _ _ _ (by decide) (by decide)) (g _ _ _ (g _ _ _ (by decide) (by decide)) (g _ _ _ (g _ _ _ (by decide) (by decide)) (g _ _ _ (Nat.lt_of_le_of_lt (Nat.div_le_self _ _) ha) (Nat.lt_of_le_of_lt (Nat.mod_le _ _) ha))))))))))))
abbrev gw : D := .int 4294967295
noncomputable def m_s0 : MD := mDef 2 0 (mRet (mBin oAnd (mBin oAdd (mVar 0) (mVar 1)) (mC gw)))
noncomputable def m_s1 : MD := mDef 2 0 (mRet (mBin oAnd (mBin oSub (mVar 0) (mVar 1)) (mC gw)))
noncomputable def m_s2 : MD := mDef 2 0 (mRet (mBin oAnd (mBin oMul (mVar 0) (mVar 1)) (mC gw)))
noncomputable def m_s3 : MD := mDef 2 0 (mRet (mBin oAnd (mVar 0) (mVar 1)))
noncomputable def m_s4 : MD := mDef 2 0 (mRet (mBin oOr (mVar 0) (mVar 1)))
noncomputable def m_s5 : MD := mDef 2 0 (mRet (mBin oXor (mVar 0) (mVar 1)))
noncomputable def m_s6 : MD := mDef 2 0 (mRet (mBin oAnd (mBin oShl (mVar 0) (mBin oAnd (mVar 1) (mC (.int 31)))) (mC gw)))
noncomputable def m_s7 : MD := mDef 2 0 (mRet (mBin oShr (mVar 0) (mBin oAnd (mVar 1) (mC (.int 31)))))
noncomputable def m_s8 : MD := mDef 2 0 (mRet (mIf (mCmp oEq (mVar 0) (mVar 1)) (mC (.int 1)) (mC (.int 0))))
noncomputable def m_s9 : MD := mDef 2 0 (mRet (mIf (mCmp oLt (mVar 0) (mVar 1)) (mC (.int 1)) (mC (.int 0))))
noncomputable def m_s10 : MD := mDef 2 0 (mRet (mIf (mCmp oLe (mVar 0) (mVar 1)) (mC (.int 1)) (mC (.int 0))))
noncomputable def m_s11 : MD := mDef 2 0 (mRet (mIf (mCmp oEq (mVar 1) (mC (.int 0))) (mC (.int 0)) (mBin oFdiv (mVar 0) (mVar 1))))
noncomputable def m_s12 : MD := mDef 2 0 (mRet (mIf (mCmp oEq (mVar 1) (mC (.int 0))) (mVar 0) (mBin oMod (mVar 0) (mVar 1))))
theorem log2_small {n : Nat} (h : n < 4294967296) : n.log2 < 9000 := by
  rcases Nat.eq_zero_or_pos n with rfl | h0
  · decide
  · have := (Nat.log2_lt (by omega)).mpr (show n < 2 ^ 32 by rw [pow_big (n := 0)]; exact h); omega
theorem oAnd_int {a b : Int} {S : Hs} : oAnd (.int a) (.int b) S = .ok (.int (Builtin.bitAnd a b)) S := nr rfl
theorem oOr_int {a b : Int} {S : Hs} : oOr (.int a) (.int b) S = .ok (.int (Builtin.bitOr a b)) S := nr rfl
theorem oXor_int {a b : Int} {S : Hs} : oXor (.int a) (.int b) S = .ok (.int (Builtin.bitXor a b)) S := nr rfl
theorem oShr_int {a b : Int} {S : Hs} (h : 0 ≤ b) : oShr (.int a) (.int b) S = .ok (.int (a / 2 ^ b.toNat)) S := by simp [oShr, h]
theorem oShl_int {a b : Int} {S : Hs} (h : 0 ≤ b) (h2 : b ≤ 1000000) (h3 : a.natAbs < 2 ^ 64) : oShl (.int a) (.int b) S = .ok (.int (a * 2 ^ b.toNat)) S := by simp [oShl, h, h2, h3]
theorem nat64 {a : Nat} (h : a < 4294967296) : ((a : Nat) : Int).natAbs < 2 ^ 64 := by
  have : (2:Nat)^64 = 18446744073709551616 := by decide +kernel
  rw [this]; omega
section
variable {a b : Nat} {S : Hs}
theorem s0_ok (ha : a < 4294967296) (hb : b < 4294967296) : Wp NoX (m_s0 [nD a, nD b] S) fun v S' => v = nD (opN "+" a b) ∧ S' = S := by
  refine wp_def0 rfl ?_
  simp_arith [oAdd_int, oAnd_int, bitAnd_m32]
  simp [opN, nD]
theorem s1_ok (ha : a < 4294967296) (hb : b < 4294967296) : Wp NoX (m_s1 [nD a, nD b] S) fun v S' => v = nD (opN "-" a b) ∧ S' = S := by
  refine wp_def0 rfl ?_
  simp_arith [oSub_int, oAnd_int, bitAnd_m32]
  have : ((opN "-" a b : Nat) : Int) = ((a : Int) - (b : Int)) % 4294967296 := by
    simp only [opN, ofString_inj, String.reduceEq, if_false, if_true]
    omega
  rw [← this]
theorem s2_ok (ha : a < 4294967296) (hb : b < 4294967296) : Wp NoX (m_s2 [nD a, nD b] S) fun v S' => v = nD (opN "*" a b) ∧ S' = S := by
  refine wp_def0 rfl ?_
  simp_arith [oMul_int (mulok_r (nat64 hb)), oAnd_int, bitAnd_m32]
  have : ((opN "*" a b : Nat) : Int) = ((a : Int) * (b : Int)) % 4294967296 := by
    simp only [opN, ofString_inj, String.reduceEq, if_false, if_true]
    simp
  rw [← this]
theorem s3_ok (ha : a < 4294967296) (hb : b < 4294967296) : Wp NoX (m_s3 [nD a, nD b] S) fun v S' => v = nD (opN "&" a b) ∧ S' = S := by
  refine wp_def0 rfl ?_
  simp_arith [oAnd_int, PySem.W.os_band]
  simp [opN, ofString_inj]
theorem s4_ok (ha : a < 4294967296) (hb : b < 4294967296) : Wp NoX (m_s4 [nD a, nD b] S) fun v S' => v = nD (opN "|" a b) ∧ S' = S := by
  refine wp_def0 rfl ?_
  simp_arith [oOr_int, bit_or]
  simp [opN, ofString_inj]
theorem s5_ok (ha : a < 4294967296) (hb : b < 4294967296) : Wp NoX (m_s5 [nD a, nD b] S) fun v S' => v = nD (opN "^" a b) ∧ S' = S := by
  refine wp_def0 rfl ?_
  simp_arith [oXor_int, bit_xor (show a < 2 ^ 32 by rw [pow_big (n := 0)]; exact ha) (show b < 2 ^ 32 by rw [pow_big (n := 0)]; exact hb)]
  simp [opN, ofString_inj]
theorem s6_ok (ha : a < 4294967296) (hb : b < 4294967296) : Wp NoX (m_s6 [nD a, nD b] S) fun v S' => v = nD (opN "<<" a b) ∧ S' = S := by
  refine wp_def0 rfl ?_
  have e : (b : Int) % 32 = ((b % 32 : Nat) : Int) := by omega
  have e2 : b % 32 ≤ 1000000 := by omega
  simp_arith [oAnd_int, bitAnd_m5, e, oShl_int (Int.natCast_nonneg (b % 32)) (Int.ofNat_le.mpr e2) (nat64 ha), bitAnd_m32, Int.toNat_natCast]
  have : ((opN "<<" a b : Nat) : Int) = ((a : Int) * 2 ^ (b % 32)) % 4294967296 := by
    simp only [opN, ofString_inj, String.reduceEq, if_false, if_true]
    simp
  rw [← this]
theorem s7_ok (ha : a < 4294967296) (hb : b < 4294967296) : Wp NoX (m_s7 [nD a, nD b] S) fun v S' => v = nD (opN ">>" a b) ∧ S' = S := by
  refine wp_def0 rfl ?_
  have e : (b : Int) % 32 = ((b % 32 : Nat) : Int) := by omega
  simp_arith [oAnd_int, bitAnd_m5, e, oShr_int (Int.natCast_nonneg (b % 32)), Int.toNat_natCast]
  have : ((opN ">>" a b : Nat) : Int) = (a : Int) / 2 ^ (b % 32) := by
    simp only [opN, ofString_inj, String.reduceEq, if_false, if_true]
    simp
  rw [← this]
theorem s8_ok (ha : a < 4294967296) (hb : b < 4294967296) : Wp NoX (m_s8 [nD a, nD b] S) fun v S' => v = nD (opN "==" a b) ∧ S' = S := by
  refine wp_def0 rfl ?_
  simp_arith [oEq_int, Int.natCast_inj]
  by_cases h : a = b <;> simp [h, opN, ofString_inj, v_ok]
theorem s9_ok (ha : a < 4294967296) (hb : b < 4294967296) : Wp NoX (m_s9 [nD a, nD b] S) fun v S' => v = nD (opN "<" a b) ∧ S' = S := by
  refine wp_def0 rfl ?_
  simp_arith [oLt_int, Int.ofNat_lt]
  by_cases h : a < b <;> simp [h, opN, ofString_inj, v_ok]
theorem s10_ok (ha : a < 4294967296) (hb : b < 4294967296) : Wp NoX (m_s10 [nD a, nD b] S) fun v S' => v = nD (opN "<=" a b) ∧ S' = S := by
  refine wp_def0 rfl ?_
  simp_arith [oLe_int, Int.ofNat_le]
  by_cases h : a ≤ b <;> simp [h, opN, ofString_inj, v_ok]
theorem s11_ok (ha : a < 4294967296) (hb : b < 4294967296) : Wp NoX (m_s11 [nD a, nD b] S) fun v S' => v = nD (opN "div" a b) ∧ S' = S := by
  refine wp_def0 rfl ?_
  simp_arith [oEq_int]
  by_cases h : b = 0
  · subst h; simp [opN, ofString_inj]
  · have h0 : ¬ (b : Int) = 0 := by omega
    have h1 : (0 : Int) < (b : Int) := by omega
    simp_arith [h0, oFdiv_int h1 (by rw [Int.natAbs_natCast]; exact log2_small hb)]
    simp [opN, ofString_inj]
theorem s12_ok (ha : a < 4294967296) (hb : b < 4294967296) : Wp NoX (m_s12 [nD a, nD b] S) fun v S' => v = nD (opN "mod" a b) ∧ S' = S := by
  refine wp_def0 rfl ?_
  simp_arith [oEq_int]
  by_cases h : b = 0
  · subst h; simp [opN, ofString_inj]
  · have h0 : ¬ (b : Int) = 0 := by omega
    have h1 : (0 : Int) < (b : Int) := by omega
    simp_arith [h0, oMod_int h1]
    simp [opN, ofString_inj]
end
end Ly
set_option Elab.async false
set_option linter.all false
set_option maxRecDepth 100000
namespace Ly
open PySem PySem.Spec L2
open PyProof.Rows hiding St
local macro_rules | `(tactic| simp_arith [$ls,*]) => `(tactic| simp only [Ly.line_le, Ly.atX_no, Ly.v_ok, Ly.v_bad, Ly.v_bind, Ly.k_bd, Ly.v_at, Ly.v_bin, Ly.k_bi, Ly.k_bi2, Ly.v_var, Ly.v_c, Ly.v_un, Ly.k_un, Ly.v_if, Ly.k_ife, Ly.v_and, Ly.k_and, Ly.k_and2, Ly.v_or, Ly.k_or, Ly.k_or2, Ly.v_tup, Ly.k_tup, Ly.v_lst, Ly.k_lst, Ly.v_call, Ly.k_ca, Ly.v_fn, Ly.k_fn, Ly.v_bm, Ly.k_bm, Ly.k_bm2, Ly.v_sl, Ly.k_sl, Ly.k_sl2, Ly.k_sl3, Ly.v_ixK, Ly.k_ixk, Ly.v_inK, Ly.k_ink, Ly.v_notinK, Ly.k_nink, Ly.v_getK2, Ly.k_gk2, Ly.k_gk, Ly.v_get2, Ly.k_g2, Ly.k_g22, Ly.k_g23, Ly.v_nil, Ly.v_cons, Ly.k_co, Ly.k_co2, Ly.v_no, Ly.v_some, Ly.k_so, Ly.k_cm, Ly.v_cmp, Ly.v_tru, Ly.k_tr, Ly.v_notB, Ly.k_no, Ly.v_andB, Ly.k_an, Ly.v_orB, Ly.k_orb, Ly.v_yes, Ly.v_inKB, Ly.k_inkB, Ly.v_notinKB, Ly.k_ninkB, Ly.v_set, Ly.k_st, Ly.v_expr, Ly.k_ex, Ly.v_ret, Ly.k_re, Ly.v_retN, Ly.v_pass, Ly.v_brk, Ly.v_cnt, Ly.v_seq, Ly.k_sq_nx, Ly.k_sq_rt, Ly.k_sq_bk, Ly.k_sq_ct, Ly.v_ifS, Ly.k_ifs, Ly.v_asg, Ly.k_as, Ly.k_as2, Ly.v_aug, Ly.k_au, Ly.v_for, Ly.k_fo, Ly.v_it, Ly.k_it, Ly.k_ij, Ly.v_rng1, Ly.v_rng2, Ly.v_enum, Ly.v_zip, Ly.v_ez, Ly.v_gN, Ly.v_gsN, Ly.v_gsC, Ly.k_gc, Ly.v_gT, Ly.v_gTw, Ly.v_gSb, Ly.k_gsb, Ly.k_gsb2, Ly.k_gsb3, Ly.k_en_rt, Ly.k_en_nx, Ly.k_tu_nx, Ly.k_tu_ct, Ly.k_tu_bk, Ly.k_tu_rt, Ly.v_lc, Ly.k_lc, Ly.v_augI, Ly.k_ag, Ly.k_ag2, Ly.k_ag3, Ly.k_ag4, Ly.k_ag5, Ly.v_del, Ly.k_dl, Ly.k_dl2, Ly.v_setd, Ly.v_pop2, Ly.k_d3, Ly.k_d32, Ly.k_d33, Ly.v_get1, Ly.k_g1, Ly.k_g12, Ly.v_rg1, Ly.k_rg, Ly.v_rg2, Ly.k_rg2, Ly.k_rg22, Ly.v_dicK, Ly.v_dicT, Ly.v_dc, Ly.k_dc, List.getElem?_cons_zero, List.getElem?_cons_succ, List.set_cons_zero, List.set_cons_succ, List.length_cons, List.length_nil, List.map_cons, List.map_nil, List.cons_append, List.nil_append, List.replicate, if_true, if_false, Bool.false_eq_true, Bool.not_true, Bool.not_false, Bool.true_and, Bool.false_and, decide_true, decide_false, decide_eq_true_eq, Nat.zero_add, Nat.reduceAdd, Nat.reduceLeDiff, true_and, and_true, $ls,*])
abbrev nDs (L : List Nat) : List D := L.map nD
def natDic (L : List Nat) (v : D) : List (Key × D) := L.map fun n : Nat => ((Sum.inl (n : Int) : Key), v)
theorem natDic_get {L : List Nat} {v : D} {n : Nat} : getK (natDic L v) (.inl (n : Int)) = if n ∈ L then some v else none := by
  induction L with
  | nil => rfl
  | cons a L ih =>
    unfold natDic getK at *
    simp only [List.map_cons, List.find?_cons]
    by_cases h : a = n
    · subst h; simp
    · have h1 : ¬ (Sum.inl (a : Int) : Key) = Sum.inl (n : Int) := by simp; omega
      have h2 : (n ∈ a :: L) = (n ∈ L) := by simp [Ne.symm h]
      simp only [decide_eq_false h1, h2]
      exact ih
theorem natDic_any {L : List Nat} {v : D} {n : Nat} : ((natDic L v).any fun kv => decide (kv.1 = (Sum.inl (n : Int) : Key))) = decide (n ∈ L) := by
  induction L with
  | nil => simp [natDic]
  | cons a L ih =>
    unfold natDic at *
    simp only [List.map_cons, List.any_cons, ih]
    by_cases h : a = n
    · subst h; simp
    · have h1 : ¬ (Sum.inl (a : Int) : Key) = Sum.inl (n : Int) := by simp; omega
      have h2 : (n ∈ a :: L) = (n ∈ L) := by simp [Ne.symm h]
      simp only [decide_eq_false h1, Bool.false_or, h2]
def addN (L : List Nat) (n : Nat) : List Nat := if n ∈ L then L else L ++ [n]
theorem natDic_set {L : List Nat} {v : D} {n : Nat} : setK (natDic L v) (.inl (n : Int)) v = natDic (addN L n) v := by
  unfold setK addN
  rw [natDic_any]
  by_cases h : n ∈ L
  · simp only [h, decide_true, if_true]
    have : ∀ kvs : List (Key × D), (∀ kv ∈ kvs, kv.2 = v) → (kvs.map fun kv => if kv.1 = (Sum.inl (n : Int) : Key) then (kv.1, v) else kv) = kvs := by
      intro kvs
      induction kvs with
      | nil => intro _; rfl
      | cons a r ih =>
        intro hh
        rw [List.map_cons, ih fun kv hk => hh kv (List.mem_cons_of_mem _ hk)]
        have := hh a (List.mem_cons_self ..)
        split
        · obtain ⟨k, d⟩ := a; cases this; rfl
        · rfl
    refine this _ fun kv hk => ?_
    unfold natDic at hk
    rw [List.mem_map] at hk
    obtain ⟨_, _, rfl⟩ := hk; rfl
  · simp [h, natDic]
theorem mem_addN {L : List Nat} {n x : Nat} : x ∈ addN L n ↔ x ∈ L ∨ x = n := by
  unfold addN; split
  · constructor
    · exact .inl
    · rintro (h | rfl) <;> assumption
  · simp
theorem nodup_addN {L : List Nat} {n : Nat} (h : L.Nodup) : (addN L n).Nodup := by
  unfold addN; split
  · exact h
  · rename_i hn
    rw [List.nodup_append]
    refine ⟨h, by simp, fun a ha b hb => ?_⟩
    simp only [List.mem_singleton] at hb
    subst hb; intro e; exact hn (e ▸ ha)
theorem nodup_len {L : List Nat} {n : Nat} (h : L.Nodup) (hb : ∀ x ∈ L, x < n) : L.length ≤ n := by
  have p : L.Perm ((List.range n).filter (fun x => decide (x ∈ L))) := by
    rw [List.perm_ext_iff_of_nodup h (List.Nodup.sublist List.filter_sublist List.nodup_range)]
    intro a
    simp only [List.mem_filter, List.mem_range, decide_eq_true_eq]
    exact ⟨fun ha => ⟨hb a ha, ha⟩, fun ha => ha.2⟩
  have := p.length_eq
  have h2 := List.length_filter_le (fun x => decide (x ∈ L)) (List.range n)
  simp at h2
  omega
theorem oIn_dic {S : Hs} {q n : Nat} {L : List Nat} {v : D} (h : S[q]? = some (.dic (natDic L v))) : oIn (nD n) (.ref q) S = .ok (.bl (decide (n ∈ L))) S := by
  have e : cIn (nD n) (.ref q) S = some (decide (n ∈ L)) := by
    have hf : dGet (.ref q) (nD n) S = some (if n ∈ L then some v else none) := by rw [dGet_dic h (key_int)]; rw [natDic_get]
    simp only [cIn, h, hf, Option.map_some]
    by_cases hh : n ∈ L <;> simp [hh]
  simp only [oIn, e]
theorem oNotIn_dic {S : Hs} {q n : Nat} {L : List Nat} {v : D} (h : S[q]? = some (.dic (natDic L v))) : oNotIn (nD n) (.ref q) S = .ok (.bl (!decide (n ∈ L))) S := by
  have e : cIn (nD n) (.ref q) S = some (decide (n ∈ L)) := by
    have hf : dGet (.ref q) (nD n) S = some (if n ∈ L then some v else none) := by rw [dGet_dic h (key_int)]; rw [natDic_get]
    simp only [cIn, h, hf, Option.map_some]
    by_cases hh : n ∈ L <;> simp [hh]
  simp only [oNotIn, e]
theorem eqF_str {a b : Str} : eqF (.str a) (.str b) = decide (a = b) := by
  unfold eqF; by_cases h : a = b <;> simp [h]
theorem oIn_strs {S : Hs} {x : Str} {xs : List Str} {y : D} (h : y = .tup (xs.map D.str) ∨ y = .wt (xs.map D.str) ∨ ∃ q, y = .ref q ∧ S[q]? = some (.lst (xs.map D.str))) : oIn (.str x) y S = .ok (.bl (decide (x ∈ xs))) S := by
  have ha : (xs.map D.str).any (fun z => eqF z (.str x)) = decide (x ∈ xs) := by
    clear h
    induction xs with
    | nil => simp
    | cons a L ih =>
      simp only [List.map_cons, List.any_cons, eqF_str]
      rw [ih]
      by_cases h : a = x
      · subst h; simp
      · simp [h, Ne.symm h]
  have hf : (flatD (.str x) && (xs.map D.str).all flatD) = true := by simp [flatD]
  have e : cIn (.str x) y S = some (decide (x ∈ xs)) := by
    rcases h with rfl | rfl | ⟨q, rfl, h⟩
    · simp only [cIn, hf, if_true, ha]
    · simp only [cIn, hf, if_true, ha]
    · simp only [cIn, h, hf, if_true, ha]
  simp only [oIn, e]
theorem atI_lit {α : Type} {xs : List α} {n : Nat} {x : α} (h : xs[n]? = some x) : L2.atI xs (n : Int) = some x := by
  obtain ⟨h1, _⟩ := List.getElem?_eq_some_iff.mp h
  rw [atI_nat (by omega) (by omega)]; simpa using h
theorem oIx_tup {S : Hs} {ds : List D} {n : Nat} {d : D} (h : ds[n]? = some d) : oIx (.tup ds) (.int (n : Int)) S = .ok d S := by simp [oIx, atI_lit h]
def Row.wr : Row → Option Nat
  | .const d _ => some d
  | .copy d _ => some d
  | .op _ d _ _ => some d
  | .select d _ _ _ => some d
  | .load d _ _ => some d
  | _ => none
def Row.rd : Row → List Nat
  | .copy _ a => [a]
  | .op _ _ a b => [a, b]
  | .select _ c a b => [c, a, b]
  | .load _ _ a => [a]
  | .store _ a v => [a, v]
  | .out a => [a]
  | .branch a _ _ => [a]
  | .stop a => [a]
  | _ => []
theorem rd_len (r : Row) : r.rd.length ≤ 3 := by cases r <;> simp [Row.rd]
theorem Row.ok.wr_lt {nr na nb : Nat} {r : Row} (h : r.ok nr na nb) {d : Nat} (e : r.wr = some d) : d < nr := by
  cases r <;> simp only [Row.wr, Option.some.injEq, reduceCtorEq] at e <;> subst e <;> first | exact h.1 | exact h.2.1
theorem Row.ok.rd_lt {nr na nb : Nat} {r : Row} (h : r.ok nr na nb) {x : Nat} (e : x ∈ r.rd) : x < nr := by
  cases r <;> simp [Row.rd, Row.ok] at e h <;> omega
def formsT : List (Str × D) := [("const", (.wt [(.str "write"), (.str "word")])), ("copy", (.wt [(.str "write"), (.str "read")])), ("op", (.wt [(.str "sign"), (.str "write"), (.str "read"), (.str "read")])), ("select", (.wt [(.str "write"), (.str "read"), (.str "read"), (.str "read")])), ("load", (.wt [(.str "write"), (.str "array"), (.str "read")])), ("store", (.wt [(.str "array"), (.str "read"), (.str "read")])), ("out", (.wt [(.str "read")])), ("jump", (.wt [(.str "block")])), ("branch", (.wt [(.str "read"), (.str "block"), (.str "block")])), ("stop", (.wt [(.str "read")]))]
noncomputable def b_partsL : MS := (mSeq (mSet 2 (mIxK formsT (mBin oIx (mVar 0) (mC (.int 0)))))
    (mRet (mCall bTuple (lCons (mLc (mZip (lCons (mSl (mVar 0) (oSome (mC (.int 1))) oNo) (lCons (mVar 2) lNil))) (cT [3, 4]) (mCmp oEq (mVar 4) (mVar 1)) (mVar 3) [3, 4]) lNil))))
noncomputable def m_partsL : MD := mDef 2 3 b_partsL
theorem lc_zip {X : XP} {Q : D → Hs → Prop} {s t u : Nat} {l : Ls} {S : Hs} {xs : List D} {ys : List Str} {kind : Str} (hl : xs.length = ys.length) (hs : s < l.length) (ht : t < l.length) (hst : s ≠ t) (hu : l[u]? = some (some (.str kind))) (hus : u ≠ s) (hut : u ≠ t) (hx : xs.length ≤ 1000000)
    (hd : ∀ S', S'[S.length]? = some (.lst (((xs.zip ys).filter fun p => decide (p.2 = kind)).map (·.1))) → Kp [] S S' → Q (.ref S.length) S') :
    Wp X (cLoop (.zip (.t xs) (.t (ys.map D.str))) (cT [s, t]) (mCmp oEq (mVar t) (mVar u)) (mVar s) l S.length 0 (S ++ [.lst []])) Q := by
  refine wp_cLoop xs.length (fun k acc S' => acc = (((xs.zip ys).take k).filter fun p => decide (p.2 = kind)).map (·.1) ∧ S'[S.length]? = some (.lst acc) ∧ Kp [] S S') (fun acc S' h => ?_) (fun k acc S' hk h => ?_) (fun acc S' h => ?_) xs.length 0 [] _ (by omega) ⟨by simp, by simp, Kp.new⟩
  · simp only [itGo, Sq.at, List.length_map]
    rw [if_pos (by omega), List.getElem?_eq_none (by omega)]
  · obtain ⟨rfl, h1, h2⟩ := h
    have hk2 : k < ys.length := by omega
    have ex : xs[k]? = some xs[k] := List.getElem?_eq_getElem hk
    have ey : (ys.map D.str)[k]? = some (.str ys[k]) := by simp [List.getElem?_eq_getElem hk2]
    have ez : (xs.zip ys)[k]? = some (xs[k], ys[k]) := by rw [List.getElem?_zip_eq_some]; exact ⟨ex, List.getElem?_eq_getElem hk2⟩
    refine ⟨.tup [xs[k], .str ys[k]], ?_, (l.set s (some xs[k])).set t (some (.str ys[k])), rfl, ?_⟩
    · simp only [itGo, Sq.at, List.length_map]
      rw [if_pos (by omega), ex, ey]
    · have e1 : ((l.set s (some xs[k])).set t (some (.str ys[k])))[t]? = some (some (.str ys[k])) := List.getElem?_set_self (by simpa using ht)
      have e2 : ((l.set s (some xs[k])).set t (some (.str ys[k])))[s]? = some (some xs[k]) := by rw [List.getElem?_set_ne (Ne.symm hst)]; exact List.getElem?_set_self hs
      have e3 : ((l.set s (some xs[k])).set t (some (.str ys[k])))[u]? = some (some (.str kind)) := by rw [List.getElem?_set_ne (Ne.symm hut), List.getElem?_set_ne (Ne.symm hus)]; exact hu
      have hlen : ((((xs.zip ys).take k).filter fun p => decide (p.2 = kind)).map (·.1)).length < sizeLine := by
        refine line_big ?_
        rw [List.length_map]
        refine Nat.le_trans (List.length_filter_le _ _) ?_
        simp; omega
      simp_arith [e1, e2, e3, oEq_str]
      rw [take_at ez, List.filter_append, List.map_append]
      by_cases hc : ys[k] = kind
      · simp only [hc, List.filter_cons, decide_true, if_true, List.filter_nil, List.map_cons, List.map_nil]
        exact ⟨h1, hlen, trivial, get_put h1, h2.setNew (Nat.le_refl _)⟩
      · simp only [hc, List.filter_cons, decide_false, Bool.false_eq_true, if_false, List.filter_nil, List.map_nil, List.append_nil]
        exact ⟨trivial, h1, h2⟩
  · obtain ⟨rfl, h1, h2⟩ := h
    refine hd S' ?_ h2
    rw [List.take_of_length_le (by simp; omega)] at h1
    exact h1
def kindOf : Row → Str → List Nat
  | r, k => if k = "write" then r.wr.toList else r.rd
theorem cut1 {d : D} {ds : List D} : cutD (d :: ds) (some 1) none = ds := by
  simp only [cutD, HT.sIx]
  simp
theorem lookup_forms (r : Row) : ∃ w ds fs, r.D = .tup (.str w :: ds) ∧ formsT.lookup w = some (.wt (fs.map D.str)) ∧ ds.length = fs.length ∧ ds.length ≤ 4 ∧
    (∀ k : Str, k = "write" ∨ k = "read" → ((ds.zip fs).filter fun p => decide (p.2 = k)).map (·.1) = nDs (kindOf r k)) := by
  have hw : ("read" : Str) ≠ "write" := by simp [ofString_inj]
  cases r with
  | const d n => exact ⟨"const", _, ["write", "word"], rfl, by simp [formsT, List.lookup, beq_lit], rfl, by simp, by rintro k (rfl | rfl) <;> simp [kindOf, Row.wr, Row.rd, ofString_inj, nDs]⟩
  | copy d a => exact ⟨"copy", _, ["write", "read"], rfl, by simp [formsT, List.lookup, beq_lit], rfl, by simp, by rintro k (rfl | rfl) <;> simp [kindOf, Row.wr, Row.rd, ofString_inj, nDs]⟩
  | op s d a b => exact ⟨"op", _, ["sign", "write", "read", "read"], rfl, by simp [formsT, List.lookup, beq_lit], rfl, by simp, by rintro k (rfl | rfl) <;> simp [kindOf, Row.wr, Row.rd, ofString_inj, nDs]⟩
  | select d c a b => exact ⟨"select", _, ["write", "read", "read", "read"], rfl, by simp [formsT, List.lookup, beq_lit], rfl, by simp, by rintro k (rfl | rfl) <;> simp [kindOf, Row.wr, Row.rd, ofString_inj, nDs]⟩
  | load d i a => exact ⟨"load", _, ["write", "array", "read"], rfl, by simp [formsT, List.lookup, beq_lit], rfl, by simp, by rintro k (rfl | rfl) <;> simp [kindOf, Row.wr, Row.rd, ofString_inj, nDs]⟩
  | store i a v => exact ⟨"store", _, ["array", "read", "read"], rfl, by simp [formsT, List.lookup, beq_lit], rfl, by simp, by rintro k (rfl | rfl) <;> simp [kindOf, Row.wr, Row.rd, ofString_inj, nDs]⟩
  | out a => exact ⟨"out", _, ["read"], rfl, by simp [formsT, List.lookup, beq_lit], rfl, by simp, by rintro k (rfl | rfl) <;> simp [kindOf, Row.wr, Row.rd, ofString_inj, nDs]⟩
  | jump t => exact ⟨"jump", _, ["block"], rfl, by simp [formsT, List.lookup, beq_lit], rfl, by simp, by rintro k (rfl | rfl) <;> simp [kindOf, Row.wr, Row.rd, ofString_inj, nDs]⟩
  | branch a t u => exact ⟨"branch", _, ["read", "block", "block"], rfl, by simp [formsT, List.lookup, beq_lit], rfl, by simp, by rintro k (rfl | rfl) <;> simp [kindOf, Row.wr, Row.rd, ofString_inj, nDs]⟩
  | stop a => exact ⟨"stop", _, ["read"], rfl, by simp [formsT, List.lookup, beq_lit], rfl, by simp, by rintro k (rfl | rfl) <;> simp [kindOf, Row.wr, Row.rd, ofString_inj, nDs]⟩
theorem partsL_ok {S : Hs} (r : Row) {k : Str} (hk : k = "write" ∨ k = "read") : Wp NoX (m_partsL [r.D, .str k] S) fun v S' => v = .tup (nDs (kindOf r k)) ∧ Kp [] S S' := by
  obtain ⟨w, ds, fs, e1, e2, e3, e4, e5⟩ := lookup_forms r
  rw [e1]
  refine wp_def0 rfl ?_
  unfold b_partsL
  have h0 : ∀ S, oIx (.tup (.str w :: ds)) (.int 0) S = .ok (.str w) S := fun S => oIx_tup (n := 0) rfl
  have h1 : ∀ S, oZip [.tup ds, .wt (fs.map D.str)] S = .ok (.zip (.t ds) (.t (fs.map D.str))) S := fun S => rfl
  simp_arith [h0, e2, oSl, cut1, h1, wipeL]
  refine lc_zip e3 (by simp) (by simp) (by decide) (by rfl) (by decide) (by decide) (by omega) ?_
  intro S' h2 h3
  simp_arith [bTuple_lst h2]
  exact ⟨by rw [e5 k hk], h3⟩
end Ly
set_option Elab.async false
set_option linter.all false
set_option maxRecDepth 100000
namespace Ly
open PySem PySem.Spec L2
open PyProof.Rows hiding St
local macro_rules | `(tactic| simp_arith [$ls,*]) => `(tactic| simp only [Ly.line_le, Ly.atX_no, Ly.v_ok, Ly.v_bad, Ly.v_bind, Ly.k_bd, Ly.v_at, Ly.v_bin, Ly.k_bi, Ly.k_bi2, Ly.v_var, Ly.v_c, Ly.v_un, Ly.k_un, Ly.v_if, Ly.k_ife, Ly.v_and, Ly.k_and, Ly.k_and2, Ly.v_or, Ly.k_or, Ly.k_or2, Ly.v_tup, Ly.k_tup, Ly.v_lst, Ly.k_lst, Ly.v_call, Ly.k_ca, Ly.v_fn, Ly.k_fn, Ly.v_bm, Ly.k_bm, Ly.k_bm2, Ly.v_sl, Ly.k_sl, Ly.k_sl2, Ly.k_sl3, Ly.v_ixK, Ly.k_ixk, Ly.v_inK, Ly.k_ink, Ly.v_notinK, Ly.k_nink, Ly.v_getK2, Ly.k_gk2, Ly.k_gk, Ly.v_get2, Ly.k_g2, Ly.k_g22, Ly.k_g23, Ly.v_nil, Ly.v_cons, Ly.k_co, Ly.k_co2, Ly.v_no, Ly.v_some, Ly.k_so, Ly.k_cm, Ly.v_cmp, Ly.v_tru, Ly.k_tr, Ly.v_notB, Ly.k_no, Ly.v_andB, Ly.k_an, Ly.v_orB, Ly.k_orb, Ly.v_yes, Ly.v_inKB, Ly.k_inkB, Ly.v_notinKB, Ly.k_ninkB, Ly.v_set, Ly.k_st, Ly.v_expr, Ly.k_ex, Ly.v_ret, Ly.k_re, Ly.v_retN, Ly.v_pass, Ly.v_brk, Ly.v_cnt, Ly.v_seq, Ly.k_sq_nx, Ly.k_sq_rt, Ly.k_sq_bk, Ly.k_sq_ct, Ly.v_ifS, Ly.k_ifs, Ly.v_asg, Ly.k_as, Ly.k_as2, Ly.v_aug, Ly.k_au, Ly.v_for, Ly.k_fo, Ly.v_it, Ly.k_it, Ly.k_ij, Ly.v_rng1, Ly.v_rng2, Ly.v_enum, Ly.v_zip, Ly.v_ez, Ly.v_gN, Ly.v_gsN, Ly.v_gsC, Ly.k_gc, Ly.v_gT, Ly.v_gTw, Ly.v_gSb, Ly.k_gsb, Ly.k_gsb2, Ly.k_gsb3, Ly.k_en_rt, Ly.k_en_nx, Ly.k_tu_nx, Ly.k_tu_ct, Ly.k_tu_bk, Ly.k_tu_rt, Ly.v_lc, Ly.k_lc, Ly.v_augI, Ly.k_ag, Ly.k_ag2, Ly.k_ag3, Ly.k_ag4, Ly.k_ag5, Ly.v_del, Ly.k_dl, Ly.k_dl2, Ly.v_setd, Ly.v_pop2, Ly.k_d3, Ly.k_d32, Ly.k_d33, Ly.v_get1, Ly.k_g1, Ly.k_g12, Ly.v_rg1, Ly.k_rg, Ly.v_rg2, Ly.k_rg2, Ly.k_rg22, Ly.v_dicK, Ly.v_dicT, Ly.v_dc, Ly.k_dc, List.getElem?_cons_zero, List.getElem?_cons_succ, List.set_cons_zero, List.set_cons_succ, List.length_cons, List.length_nil, List.map_cons, List.map_nil, List.cons_append, List.nil_append, List.replicate, if_true, if_false, Bool.false_eq_true, Bool.not_true, Bool.not_false, Bool.true_and, Bool.false_and, decide_true, decide_false, decide_eq_true_eq, Nat.zero_add, Nat.reduceAdd, Nat.reduceLeDiff, true_and, and_true, $ls,*])
def secArr (arrs : List Arr) (i : Nat) : Bool := match arrs[i]? with
  | some a => decide (a.label = "secret")
  | none => false
def secLoad (arrs : List Arr) : Row → Bool
  | .load _ i _ => secArr arrs i
  | _ => false
inductive Sec (arrs : List Arr) (labels : List Str) (rows : List Row) : Nat → Prop
  | param {k : Nat} : labels[k]? = some ("secret" : Str) → Sec arrs labels rows k
  | load {r : Row} {d : Nat} : r ∈ rows → secLoad arrs r = true → r.wr = some d → Sec arrs labels rows d
  | dep {r : Row} {d x : Nat} : r ∈ rows → r.wr = some d → x ∈ r.rd → Sec arrs labels rows x → Sec arrs labels rows d
theorem Sec.lt {arrs : List Arr} {labels : List Str} {rows : List Row} {nr na nb n : Nat} (h : Sec arrs labels rows n) (hl : labels.length ≤ nr) (hr : ∀ r ∈ rows, r.ok nr na nb) : n < nr := by
  induction h with
  | param h => obtain ⟨h, _⟩ := List.getElem?_eq_some_iff.mp h; omega
  | load h1 h2 h3 => exact (hr _ h1).wr_lt h3
  | dep h1 h2 h3 h4 ih => exact (hr _ h1).wr_lt h2
def mkDic (ps : List (Nat × Nat)) : List (Key × D) := ps.map fun p => ((Sum.inl (p.1 : Int) : Key), D.ref p.2)
structure Mk (S : Hs) (m : Nat) (ps : List (Nat × Nat)) (f : Nat → List Nat) : Prop where
  d : S[m]? = some (.dic (mkDic ps))
  n1 : (ps.map (·.1)).Nodup
  n2 : (ps.map (·.2)).Nodup
  lo : ∀ p ∈ ps, m < p.2
  li : ∀ p ∈ ps, S[p.2]? = some (.lst (nDs (f p.1)))
  no : ∀ n, n ∉ ps.map (·.1) → f n = []
theorem nodup_inj {α β : Type} {g : α → β} {xs : List α} (h : (xs.map g).Nodup) {a b : α} (ha : a ∈ xs) (hb : b ∈ xs) (e : g a = g b) : a = b := by
  induction xs with
  | nil => cases ha
  | cons x xs ih =>
    simp only [List.map_cons, List.nodup_cons] at h
    rcases List.mem_cons.mp ha with ea | ha'
    · rcases List.mem_cons.mp hb with eb | hb'
      · rw [ea, eb]
      · exact absurd (List.mem_map.mpr ⟨b, hb', by rw [← e, ea]⟩) h.1
    · rcases List.mem_cons.mp hb with eb | hb'
      · exact absurd (List.mem_map.mpr ⟨a, ha', by rw [e, eb]⟩) h.1
      · exact ih h.2 ha' hb'
theorem mkDic_get {ps : List (Nat × Nat)} (h : (ps.map (·.1)).Nodup) {n r : Nat} (hm : (n, r) ∈ ps) : getK (mkDic ps) (.inl (n : Int)) = some (.ref r) := by
  induction ps with
  | nil => cases hm
  | cons a ps ih =>
    simp only [List.map_cons, List.nodup_cons] at h
    unfold mkDic getK at *
    simp only [List.map_cons, List.find?_cons]
    rcases List.mem_cons.mp hm with e | hm
    · subst e; simp
    · have h1 : a.1 ≠ n := fun e => h.1 (by rw [e]; exact List.mem_map.mpr ⟨_, hm, rfl⟩)
      have h2 : ¬ ((Sum.inl (a.1 : Int) : Key) = Sum.inl (n : Int)) := by simp; omega
      simp only [decide_eq_false h2]
      exact ih h.2 hm
theorem mkDic_none {ps : List (Nat × Nat)} {n : Nat} (h : n ∉ ps.map (·.1)) : getK (mkDic ps) (.inl (n : Int)) = none := by
  unfold mkDic getK
  rw [Option.map_eq_none_iff, List.find?_eq_none]
  intro x hx
  rw [List.mem_map] at hx
  obtain ⟨p, hp, rfl⟩ := hx
  simp only [decide_eq_true_eq, Sum.inl.injEq]
  intro e
  exact h (List.mem_map.mpr ⟨p, hp, by show p.1 = n; omega⟩)
theorem mkDic_new {ps : List (Nat × Nat)} {n r : Nat} (h : n ∉ ps.map (·.1)) : setK (mkDic ps) (.inl (n : Int)) (.ref r) = mkDic (ps ++ [(n, r)]) := by
  unfold setK
  have : ((mkDic ps).any fun kv => decide (kv.1 = (Sum.inl (n : Int) : Key))) = false := by
    rw [List.any_eq_false]
    intro x hx
    unfold mkDic at hx
    rw [List.mem_map] at hx
    obtain ⟨p, hp, rfl⟩ := hx
    simp only [decide_eq_true_eq, Sum.inl.injEq]
    intro e
    exact h (List.mem_map.mpr ⟨p, hp, by show p.1 = n; omega⟩)
  rw [if_neg (by rw [this]; simp)]; simp [mkDic]
def updF (f : Nat → List Nat) (n w : Nat) : Nat → List Nat := fun x => if x = n then f x ++ [w] else f x
theorem Mk.keep {S S' : Hs} {m : Nat} {ps : List (Nat × Nat)} {f : Nat → List Nat} (h : Mk S m ps f) {A : List Nat} (k : Kp A S S') (hA : ∀ i ∈ A, i < m) : Mk S' m ps f :=
  ⟨k.get h.d (fun e => by have := hA _ e; omega), h.n1, h.n2, h.lo, fun p hp => k.get (h.li p hp) (fun e => by have := hA _ e; have := h.lo p hp; omega), h.no⟩
def Kb (b : Nat) (S S' : Hs) : Prop := S.length ≤ S'.length ∧ ∀ i, i < b → S'[i]? = S[i]?
theorem Kb.trans {b : Nat} {S S1 S2 : Hs} (h : Kb b S S1) (h' : Kb b S1 S2) : Kb b S S2 := ⟨Nat.le_trans h.1 h'.1, fun i hi => (h'.2 i hi).trans (h.2 i hi)⟩
theorem Kb.of {b : Nat} {A : List Nat} {S S' : Hs} (h : Kp A S S') (hA : ∀ i ∈ A, b ≤ i) (hb : b ≤ S.length) : Kb b S S' := ⟨h.1, fun i hi => h.2 i (by omega) fun e => by have := hA i e; omega⟩
theorem Kb.refl {b : Nat} {S : Hs} : Kb b S S := ⟨Nat.le_refl _, fun _ _ => rfl⟩
theorem Kb.get {b i : Nat} {S S' : Hs} {o : O} (h : Kb b S S') (e : S[i]? = some o) (hi : i < b) : S'[i]? = some o := (h.2 i hi).trans e
theorem Kb.kp {b : Nat} {S0 S S' : Hs} (k : Kp [] S0 S) (h : Kb b S S') (hb : S0.length ≤ b) : Kp [] S0 S' := ⟨Nat.le_trans k.1 h.1, fun i hi hn => (h.2 i (by omega)).trans (k.2 i hi hn)⟩
theorem setd_ok {S : Hs} {m : Nat} {ps : List (Nat × Nat)} {f : Nat → List Nat} {n w : Nat} {l : Ls} {i j k : Nat} (h : Mk S m ps f) (hi : l[i]? = some (some (.ref m))) (hj : l[j]? = some (some (nD n))) (hk : l[k]? = some (some (nD w))) (hf : (f n).length < 1000000) (hp : ps.length < 1000000) :
    Wp NoX (mExpr (mBM "list" oAppend (mSetd (mVar i) (mVar j) (mLst lNil)) (lCons (mVar k) lNil)) l S) fun r S' => r = .nx l ∧ (∃ ps', Mk S' m ps' (updF f n w) ∧ ps'.length ≤ ps.length + 1) ∧ Kb m S S' := by
  have hm : m < S.length := Real.lt h.d
  have ht : hasTy "dict" (.ref m) S = true := by simp [hasTy, h.d]
  simp_arith [hi, hj, hk, ht]
  have hd1 : (S ++ [O.lst []])[m]? = some (.dic (mkDic ps)) := by rw [List.getElem?_append_left hm]; exact h.d
  have hps : (mkDic ps).length < sizeLine := by simp only [mkDic, List.length_map]; exact line_big (by omega)
  by_cases hn : n ∈ ps.map (·.1)
  · rw [List.mem_map] at hn
    obtain ⟨⟨n', r⟩, hm', rfl⟩ := hn
    simp only at hj hf ⊢
    have e1 : oSetd (.ref m) (nD n') (.ref S.length) (S ++ [O.lst []]) = .ok (.ref r) (S ++ [O.lst []]) := by
      simp only [oSetd, hd1, key_int, hps, if_true, mkDic_get h.n1 hm']
    have hr : S[r]? = some (.lst (nDs (f n'))) := h.li _ hm'
    have hr1 : (S ++ [O.lst []])[r]? = some (.lst (nDs (f n'))) := by rw [List.getElem?_append_left (Real.lt hr)]; exact hr
    simp_arith [e1, hasTy_lst hr1, hk, oAppend_lst hr1 (by simp only [List.length_map]; exact line_big (by omega))]
    have hmr : m < r := h.lo _ hm'
    refine ⟨⟨ps, ⟨by rw [List.getElem?_set_ne (by omega)]; exact hd1, h.n1, h.n2, h.lo, fun p hp => ?_, fun x hx => ?_⟩, by omega⟩, ?_⟩
    · by_cases hpr : p.2 = r
      · have : p = (n', r) := nodup_inj h.n2 hp hm' hpr
        subst this
        simp only
        rw [get_put hr1]; simp [updF]
      · rw [List.getElem?_set_ne (Ne.symm hpr), List.getElem?_append_left (Real.lt (h.li p hp)), h.li p hp]
        have : p.1 ≠ n' := fun e => hpr (congrArg Prod.snd (nodup_inj h.n1 hp hm' e))
        simp [updF, this]
    · have : x ≠ n' := fun e => hx (e ▸ List.mem_map.mpr ⟨_, hm', rfl⟩)
      simp [updF, this, h.no x hx]
    · exact ⟨by simp, fun i hi => by rw [List.getElem?_set_ne (by omega), List.getElem?_append_left (by omega)]⟩
  · have e1 : oSetd (.ref m) (nD n) (.ref S.length) (S ++ [O.lst []]) = .ok (.ref S.length) ((S ++ [O.lst []]).set m (.dic (mkDic (ps ++ [(n, S.length)])))) := by
      simp only [oSetd, hd1, key_int, hps, if_true, mkDic_none hn, mkDic_new hn]
    have hr1 : ((S ++ [O.lst []]).set m (.dic (mkDic (ps ++ [(n, S.length)]))))[S.length]? = some (.lst []) := by rw [List.getElem?_set_ne (by omega)]; simp
    simp_arith [e1, hasTy_lst hr1, hk, oAppend_lst hr1 (by simp only [List.length_nil]; exact line_big (by omega))]
    have hfn := h.no n hn
    have hlt : ∀ p ∈ ps, p.2 < S.length := fun p hp => Real.lt (h.li p hp)
    refine ⟨⟨ps ++ [(n, S.length)], ⟨?_, ?_, ?_, ?_, ?_, ?_⟩, by simp⟩, ?_⟩
    · rw [List.getElem?_set_ne (by omega)]; exact get_put hd1
    · rw [List.map_append, List.nodup_append]
      exact ⟨h.n1, by simp, fun a ha b hb e => by simp at hb; subst hb; subst e; exact hn ha⟩
    · rw [List.map_append, List.nodup_append]
      refine ⟨h.n2, by simp, fun a ha b hb e => ?_⟩
      simp at hb; subst hb; subst e
      rw [List.mem_map] at ha
      obtain ⟨p, hp, e⟩ := ha
      have := hlt p hp; omega
    · intro p hp
      rcases List.mem_append.mp hp with hp | hp
      · exact h.lo p hp
      · simp at hp; subst hp; exact hm
    · intro p hp
      rcases List.mem_append.mp hp with hp | hp
      · have h1 := hlt p hp
        have h2 := h.lo p hp
        have : p.1 ≠ n := fun e => hn (e ▸ List.mem_map.mpr ⟨p, hp, rfl⟩)
        rw [List.getElem?_set_ne (by omega), List.getElem?_set_ne (by omega), List.getElem?_append_left h1, h.li p hp]
        simp [updF, this]
      · simp at hp; subst hp
        rw [get_put hr1]
        simp [updF, hfn]
    · intro x hx
      simp only [List.map_append, List.map_cons, List.map_nil, List.mem_append, List.mem_singleton, not_or] at hx
      simp [updF, hx.2, h.no x hx.1]
    · exact ⟨by simp, fun i hi => by rw [List.getElem?_set_ne (by omega), List.getElem?_set_ne (by omega), List.getElem?_append_left (by omega)]⟩
noncomputable def lb_sec0 : MS := (mExpr (mBM "list" oAppend (mSetd (mVar 3) (mVar 7) (mLst lNil)) (lCons (mVar 6) lNil)))
noncomputable def lb_sec1 : MS := (mSeq (mIfS (mAndB (mCmp oEq (mBin oIx (mVar 5) (mC (.int 0))) (mC (.str "load"))) (mCmp oEq (mBin oIx (mBin oIx (mBin oIx (mVar 0) (mC (.int 0))) (mBin oIx (mVar 5) (mC (.int 2)))) (mC (.int 2))) (mC (.str "secret")))) (mExpr (mBM "list" oAppend (mVar 2) (lCons (mVar 6) lNil))) mPass)
    (mFor (mIt (mFn m_partsL (lCons (mVar 5) (lCons (mC (.str "read")) lNil)))) (gN 7) lb_sec0))
noncomputable def lb_sec2 : MS := (mFor (mIt (mFn m_partsL (lCons (mVar 5) (lCons (mC (.str "write")) lNil)))) (gN 6) lb_sec1)
noncomputable def lb_sec3 : MS := (mFor (mIt (mVar 4)) (gN 5) lb_sec2)
noncomputable def c_sec4 : MB := (mTru (mVar 2))
noncomputable def lb_sec5 : MS := (mSeq (mSet 6 (mBM "list" oPop (mVar 2) lNil))
    (mIfS (mCmp oNotIn (mVar 6) (mVar 8)) (mSeq (mAsg (mC (.bl true)) (gSb (mVar 8) (mVar 6)))
    (mExpr (mBM "list" oExtend (mVar 2) (lCons (mGet2 (mVar 3) (mVar 6) (mLst lNil)) lNil)))) mPass))
noncomputable def b_secR : MS := (mSeq (mSet 2 (mLc (mEnum (lCons (mVar 1) lNil)) (cT [6, 9]) (mCmp oEq (mVar 9) (mC (.str "secret"))) (mVar 6) [6, 9]))
    (mSeq (mSet 3 mDicK)
    (mSeq (mFor (mIt (mBin oIx (mVar 0) (mC (.int 2)))) (gN 4) lb_sec3)
    (mSeq (mSet 8 mDicK)
    (mSeq (mWhile c_sec4 lb_sec5)
    (mRet (mVar 8)))))))
noncomputable def m_secR : MD := mDef 2 8 b_secR
section
variable {arrs : List Arr} {labels : List Str} {rows : List Row} {nr na nb : Nat}
structure Gath (arrs : List Arr) (labels : List Str) (done : List Row) (W : List Nat) (f : Nat → List Nat) : Prop where
  gw : ∀ x, x ∈ W ↔ labels[x]? = some ("secret" : Str) ∨ ∃ r ∈ done, secLoad arrs r = true ∧ r.wr = some x
  gf : ∀ x y, y ∈ f x ↔ ∃ r ∈ done, r.wr = some y ∧ x ∈ r.rd
  gwl : W.length ≤ labels.length + done.length
  gfl : ∀ x, (f x).length ≤ 3 * done.length
theorem sec0_loop {S : Hs} {m d : Nat} {f : Nat → List Nat} {ps : List (Nat × Nat)} {xs : List Nat} {l : Ls} (hm : Mk S m ps f) (hl : l.length = 10) (h3 : l[3]? = some (some (.ref m))) (h6 : l[6]? = some (some (nD d))) (hf : ∀ x, (f x).length ≤ 900000) (hp : ps.length < 900000) (hx : xs.length ≤ 3) :
    Wp NoX (fLoop (.tup (nDs xs)) (gN 7) lb_sec0 0 l S) fun r S' => ∃ l' ps' f', r = .nx l' ∧ (∃ o, l' = l.set 7 o ∨ l' = l) ∧ Mk S' m ps' f' ∧ ps'.length ≤ ps.length + 3 ∧ Kb m S S' ∧ (∀ x y, y ∈ f' x ↔ y ∈ f x ∨ (y = d ∧ x ∈ xs)) ∧ (∀ x, (f' x).length ≤ (f x).length + xs.length) := by
  refine wp_tupM nD (fun pre l' S' => ∃ ps' f', (∃ o, l' = l.set 7 o ∨ l' = l) ∧ Mk S' m ps' f' ∧ ps'.length ≤ ps.length + pre.length ∧ Kb m S S' ∧ (∀ x y, y ∈ f' x ↔ y ∈ f x ∨ (y = d ∧ x ∈ pre)) ∧ (∀ x, (f' x).length ≤ (f x).length + pre.length))
    ⟨ps, f, ⟨none, .inr rfl⟩, hm, by simp, Kb.refl, by simp, by simp⟩ ?_ ?_
  · rintro pre x post l' S' rfl ⟨ps', f', ⟨o, hl'⟩, hM, hpl, hK, hf1, hf2⟩
    have hpre : pre.length ≤ 2 := by simp at hx; omega
    simp_arith []
    unfold lb_sec0
    have e3 : (l'.set 7 (some (nD x)))[3]? = some (some (.ref m)) := by
      rw [List.getElem?_set_ne (by decide)]; rcases hl' with rfl | rfl
      · rw [List.getElem?_set_ne (by decide)]; exact h3
      · exact h3
    have e6 : (l'.set 7 (some (nD x)))[6]? = some (some (nD d)) := by
      rw [List.getElem?_set_ne (by decide)]; rcases hl' with rfl | rfl
      · rw [List.getElem?_set_ne (by decide)]; exact h6
      · exact h6
    have e7 : (l'.set 7 (some (nD x)))[7]? = some (some (nD x)) := by
      refine List.getElem?_set_self ?_
      rcases hl' with rfl | rfl <;> simp [hl]
    have g1 := hf2 x
    have g2 := hf x
    refine (setd_ok hM e3 e7 e6 (by omega) (by omega)).mono (fun _ _ _ _ h => h) ?_
    rintro r S2 ⟨rfl, ⟨ps2, hM2, hp2⟩, hK2⟩
    refine ⟨ps2, updF f' x d, ⟨some (nD x), ?_⟩, hM2, by simp; omega, hK.trans hK2, fun z y => ?_, fun z => ?_⟩
    · rcases hl' with rfl | rfl
      · left; rw [List.set_set]
      · left; rfl
    · unfold updF
      split
      · rename_i e; subst e
        simp only [List.mem_append, hf1, List.mem_singleton]
        constructor
        · rintro ((h | h) | h)
          · exact .inl h
          · exact .inr ⟨h.1, .inl h.2⟩
          · exact .inr ⟨h, by simp⟩
        · rintro (h | ⟨h1, h2⟩)
          · exact .inl (.inl h)
          · exact .inr h1
      · rename_i e
        simp only [List.mem_append, hf1, List.mem_singleton, e, or_false]
    · unfold updF
      have := hf2 z
      split
      · simp; omega
      · simp; omega
  · rintro l' S' ⟨ps', f', hl', hM, hpl, hK, hf1, hf2⟩
    exact ⟨l', ps', f', rfl, hl', hM, by omega, hK, hf1, hf2⟩
def SecL (arrs : List Arr) (params : Nat) (blocks : List (List Row)) (labels : List Str) (q m : Nat) (l : Ls) : Prop :=
  ∃ o4 o5 o6 o7 : Option D, l = [some (progD arrs params blocks), some (.tup (labels.map D.str)), some (.ref q), some (.ref m), o4, o5, o6, o7, none, none]
def SecS (arrs : List Arr) (labels : List Str) (S0 : Hs) (q m : Nat) (done : List Row) (S : Hs) : Prop :=
  ∃ W f ps, Gath arrs labels done W f ∧ S[q]? = some (.lst (nDs W)) ∧ Mk S m ps f ∧ ps.length ≤ 3 * done.length ∧ Kp [] S0 S ∧ S0.length ≤ q ∧ q < m
theorem prog_arrs {params : Nat} {blocks : List (List Row)} {S : Hs} : oIx (progD arrs params blocks) (.int 0) S = .ok (.tup (arrs.map Arr.D)) S := oIx_tup (n := 0) rfl
theorem prog_blocks {params : Nat} {blocks : List (List Row)} {S : Hs} : oIx (progD arrs params blocks) (.int 2) S = .ok (.tup (blocks.map blockD)) S := oIx_tup (n := 2) rfl
theorem prog_params {params : Nat} {blocks : List (List Row)} {S : Hs} : oIx (progD arrs params blocks) (.int 1) S = .ok (nD params) S := oIx_tup (n := 1) rfl
theorem arr_at {i : Nat} (h : i < arrs.length) {S : Hs} : oIx (.tup (arrs.map Arr.D)) (nD i) S = .ok arrs[i].D S := oIx_tup (n := i) (by simp [List.getElem?_eq_getElem h])
theorem arr_label {a : Arr} {S : Hs} : oIx a.D (.int 2) S = .ok (.str a.label) S := oIx_tup (n := 2) rfl
theorem row_word (r : Row) : ∃ w : Str, (∀ S, oIx r.D (.int 0) S = .ok (.str w) S) ∧ (w = "load" ↔ ∃ d i a, r = .load d i a) := by
  cases r <;> refine ⟨_, fun S => oIx_tup (n := 0) rfl, ?_⟩ <;> simp [ofString_inj]
theorem sec2_ok {S S0 : Hs} {q m params : Nat} {blocks : List (List Row)} {done : List Row} {r : Row} {l : Ls} (hr : r.ok nr arrs.length nb) (hL : SecL arrs params blocks labels q m l) (h5 : l[5]? = some (some r.D)) (hS : SecS arrs labels S0 q m done S) (hd : done.length ≤ 100000) (hlb : labels.length ≤ 100000) :
    Wp NoX (lb_sec2 l S) fun x S' => ∃ l', x = .nx l' ∧ SecL arrs params blocks labels q m l' ∧ SecS arrs labels S0 q m (done ++ [r]) S' := by
  obtain ⟨o4, o5, o6, o7, rfl⟩ := hL
  simp only [List.getElem?_cons_succ, List.getElem?_cons_zero, Option.some.injEq] at h5
  subst h5
  obtain ⟨W, f, ps, hG, hq, hM, hps, hK, hq0, hqm⟩ := hS
  unfold lb_sec2
  simp_arith []
  refine Wp.call (partsL_ok r (.inl rfl)) ?_
  rintro _ S1 ⟨rfl, k1⟩
  have hq1 := k1.get hq (by simp)
  have hM1 := hM.keep k1 (by simp)
  have hK1 := hK.trans k1
  simp_arith [oIt]
  have hkw : kindOf r "write" = r.wr.toList := by simp [kindOf]
  have hkr : kindOf r "read" = r.rd := by simp [kindOf, ofString_inj]
  rw [hkw]
  cases hw : r.wr with
  | none =>
    refine wp_tup0 ⟨_, rfl, ⟨_, _, _, _, rfl⟩, W, f, ps, ⟨fun x => ?_, fun x y => ?_, ?_, fun x => ?_⟩, hq1, hM1, by simp; omega, hK1, hq0, hqm⟩
    · rw [hG.gw x]
      constructor
      · rintro (h | ⟨r', h1, h2⟩)
        · exact .inl h
        · exact .inr ⟨r', List.mem_append_left _ h1, h2⟩
      · rintro (h | ⟨r', h1, h2, h3⟩)
        · exact .inl h
        · rcases List.mem_append.mp h1 with h1 | h1
          · exact .inr ⟨r', h1, h2, h3⟩
          · simp at h1; subst h1; rw [hw] at h3; cases h3
    · rw [hG.gf x y]
      constructor
      · rintro ⟨r', h1, h2⟩; exact ⟨r', List.mem_append_left _ h1, h2⟩
      · rintro ⟨r', h1, h2, h3⟩
        rcases List.mem_append.mp h1 with h1 | h1
        · exact ⟨r', h1, h2, h3⟩
        · simp at h1; subst h1; rw [hw] at h2; cases h2
    · have := hG.gwl; simp; omega
    · have := hG.gfl x; simp; omega
  | some d =>
    refine wp_tup1 ?_
    obtain ⟨w, hw1, hw2⟩ := row_word r
    unfold lb_sec1
    simp_arith [-v_for, hw1, oEq_str]
    have rest : ∀ (W' : List Nat) (S2 : Hs), S2[q]? = some (.lst (nDs W')) → Mk S2 m ps f → Kp [] S0 S2 → (∀ x, x ∈ W' ↔ x ∈ W ∨ (secLoad arrs r = true ∧ x = d)) → W'.length ≤ W.length + 1 →
        Wp NoX (mFor (mIt (mFn m_partsL (lCons (mVar 5) (lCons (mC (.str "read")) lNil)))) (gN 7) lb_sec0 [some (progD arrs params blocks), some (.tup (labels.map D.str)), some (.ref q), some (.ref m), o4, some r.D, some (nD d), o7, none, none] S2)
          (tuK (fun l2 S2 => ∃ l', F.nx l2 = .nx l' ∧ SecL arrs params blocks labels q m l' ∧ SecS arrs labels S0 q m (done ++ [r]) S2) fun x S' => ∃ l', x = .nx l' ∧ SecL arrs params blocks labels q m l' ∧ SecS arrs labels S0 q m (done ++ [r]) S') := by
      intro W' S2 hq2 hM2 hK2 hW' hWl
      simp_arith []
      refine Wp.call (partsL_ok r (.inr rfl)) ?_
      rintro _ S3 ⟨rfl, k3⟩
      simp_arith [oIt, hkr]
      refine (sec0_loop (hM2.keep k3 (by simp)) (by simp) (by rfl) (by rfl) (fun x => by have := hG.gfl x; omega) (by omega) (rd_len r)).mono (fun _ _ _ _ h => h) ?_
      rintro x S4 ⟨l', ps', f', rfl, ⟨o, hl'⟩, hM4, hp4, hK4, hf1, hf2⟩
      have hq4 := hK4.get (k3.get hq2 (by simp)) hqm
      have hmS : S0.length ≤ m := by omega
      refine ⟨l', rfl, ?_, W', f', ps', ⟨fun x => ?_, fun x y => ?_, ?_, fun x => ?_⟩, hq4, hM4, by simp; omega, Kb.kp (hK2.trans k3) hK4 hmS, hq0, hqm⟩
      · rcases hl' with rfl | rfl
        · exact ⟨_, _, _, _, rfl⟩
        · exact ⟨_, _, _, _, rfl⟩
      · rw [hW' x, hG.gw x]
        constructor
        · rintro ((h | ⟨r', h1, h2⟩) | ⟨h1, h2⟩)
          · exact .inl h
          · exact .inr ⟨r', List.mem_append_left _ h1, h2⟩
          · exact .inr ⟨r, by simp, h1, by rw [hw, h2]⟩
        · rintro (h | ⟨r', h1, h2, h3⟩)
          · exact .inl (.inl h)
          · rcases List.mem_append.mp h1 with h1 | h1
            · exact .inl (.inr ⟨r', h1, h2, h3⟩)
            · simp at h1; subst h1; rw [hw] at h3; cases h3; exact .inr ⟨h2, rfl⟩
      · rw [hf1 x y, hG.gf x y]
        constructor
        · rintro (⟨r', h1, h2⟩ | ⟨h1, h2⟩)
          · exact ⟨r', List.mem_append_left _ h1, h2⟩
          · exact ⟨r, by simp, by rw [hw, h1], h2⟩
        · rintro ⟨r', h1, h2, h3⟩
          rcases List.mem_append.mp h1 with h1 | h1
          · exact .inl ⟨r', h1, h2, h3⟩
          · simp at h1; subst h1; rw [hw] at h2; cases h2; exact .inr ⟨rfl, h3⟩
      · have := hG.gwl; simp; omega
      · have := hf2 x; have := hG.gfl x; have := rd_len r; simp; omega
    by_cases hload : w = "load"
    · obtain ⟨d', i, a, rfl⟩ := hw2.mp hload
      have hi : i < arrs.length := hr.2.1
      have h2 : ∀ S, oIx (Row.load d' i a).D (.int 2) S = .ok (nD i) S := fun S => oIx_tup (n := 2) rfl
      have hsl : secLoad arrs (Row.load d' i a) = decide (arrs[i].label = "secret") := by simp [secLoad, secArr, List.getElem?_eq_getElem hi]
      simp_arith [-v_for, hload, prog_arrs, h2, arr_at hi, arr_label, oEq_str]
      by_cases hsec : arrs[i].label = "secret"
      · have hb : (nDs W).length < sizeLine := by simp only [List.length_map]; refine line_big ?_; have := hG.gwl; omega
        simp_arith [-v_for, hsec, hasTy_lst hq1, oAppend_lst hq1 hb]
        refine rest (W ++ [d]) _ (by rw [get_put hq1]; simp) (hM1.keep (Kp.set (A := [q]) (by simp)) (by simpa using hqm)) (hK1.setNew hq0) (fun x => by rw [hsl]; simp [hsec]) (by simp)
      · simp_arith [-v_for, hsec]
        exact rest W _ hq1 hM1 hK1 (fun x => by rw [hsl]; simp [hsec]) (by omega)
    · simp_arith [-v_for, hload]
      refine rest W _ hq1 hM1 hK1 (fun x => ?_) (by omega)
      have : secLoad arrs r = false := by
        cases r <;> first | rfl | exact absurd (hw2.mpr ⟨_, _, _, rfl⟩) hload
      simp [this]
end
section
variable {arrs : List Arr} {labels : List Str} {nr nb : Nat}
theorem Mk.keep2 {S S' : Hs} {m : Nat} {ps : List (Nat × Nat)} {f : Nat → List Nat} (h : Mk S m ps f) {A : List Nat} (k : Kp A S S') (hA : m ∉ A) (hB : ∀ p ∈ ps, p.2 ∉ A) : Mk S' m ps f :=
  ⟨k.get h.d hA, h.n1, h.n2, h.lo, fun p hp => k.get (h.li p hp) (hB p hp), h.no⟩
theorem Mk.get {S : Hs} {m : Nat} {ps : List (Nat × Nat)} {f : Nat → List Nat} (h : Mk S m ps f) (n : Nat) : (∃ r, (n, r) ∈ ps ∧ dGet (.ref m) (nD n) S = some (some (.ref r)) ∧ S[r]? = some (.lst (nDs (f n)))) ∨ (dGet (.ref m) (nD n) S = some none ∧ f n = []) := by
  by_cases hn : n ∈ ps.map (·.1)
  · rw [List.mem_map] at hn
    obtain ⟨⟨n', r⟩, hm', rfl⟩ := hn
    exact .inl ⟨r, hm', by rw [dGet_dic h.d key_int, mkDic_get h.n1 hm'], h.li _ hm'⟩
  · exact .inr ⟨by rw [dGet_dic h.d key_int, mkDic_none hn], h.no n hn⟩
structure Wrk (arrs : List Arr) (labels : List Str) (rows : List Row) (f : Nat → List Nat) (nr : Nat) (L W : List Nat) : Prop where
  nd : L.Nodup
  lt : ∀ x ∈ L, x < nr
  so : ∀ x, x ∈ L ∨ x ∈ W → Sec arrs labels rows x
  ba : ∀ x : Nat, labels[x]? = some ("secret" : Str) ∨ (∃ r ∈ rows, secLoad arrs r = true ∧ r.wr = some x) → x ∈ L ∨ x ∈ W
  cl : ∀ x ∈ L, ∀ y ∈ f x, y ∈ L ∨ y ∈ W
  wl : W.length ≤ labels.length + rows.length + L.length * (3 * rows.length)
theorem Wrk.done {rows : List Row} {f : Nat → List Nat} {L W0 : List Nat} (h : Wrk arrs labels rows f nr L []) (hG : Gath arrs labels rows W0 f) (x : Nat) : x ∈ L ↔ Sec arrs labels rows x := by
  refine ⟨fun hx => h.so x (.inl hx), fun hx => ?_⟩
  have e : ∀ y, y ∈ L ∨ y ∈ ([] : List Nat) → y ∈ L := fun y hy => hy.elim id (by simp)
  induction hx with
  | param h1 => exact e _ (h.ba _ (.inl h1))
  | load h1 h2 h3 => exact e _ (h.ba _ (.inr ⟨_, h1, h2, h3⟩))
  | dep h1 h2 h3 h4 ih => exact e _ (h.cl _ ih _ ((hG.gf _ _).mpr ⟨_, h1, h2, h3⟩))
structure WhS (arrs : List Arr) (labels : List Str) (rows : List Row) (nr : Nat) (S0 : Hs) (q m s : Nat) (f : Nat → List Nat) (ps : List (Nat × Nat)) (L W : List Nat) (S : Hs) : Prop where
  wk : Wrk arrs labels rows f nr L W
  hq : S[q]? = some (.lst (nDs W))
  hs : S[s]? = some (.dic (natDic L (.bl true)))
  hm : Mk S m ps f
  ps : ∀ p ∈ ps, p.2 < s
  k : Kp [] S0 S
  q0 : S0.length ≤ q
  qm : q < m
  ms : m < s
def WhL (arrs : List Arr) (params : Nat) (blocks : List (List Row)) (labels : List Str) (q m s : Nat) (l : Ls) : Prop :=
  ∃ o4 o5 o6 o7 : Option D, l = [some (progD arrs params blocks), some (.tup (labels.map D.str)), some (.ref q), some (.ref m), o4, o5, o6, o7, some (.ref s), none]
theorem tru_lst {S : Hs} {q : Nat} {ds : List D} (h : S[q]? = some (.lst ds)) : oTru (.ref q) S = .ok (!ds.isEmpty) S := by simp [oTru, tru, h]
theorem sec5_ok {rows : List Row} {params : Nat} {blocks : List (List Row)} {S0 S : Hs} {q m s : Nat} {f : Nat → List Nat} {ps : List (Nat × Nat)} {L W0 W : List Nat} {x : Nat} {l : Ls} (hG : Gath arrs labels rows W0 f) (hx : ∀ y, Sec arrs labels rows y → y < nr)
    (hsz : labels.length + rows.length + (nr + 1) * (3 * rows.length + 1) ≤ 1000000) (hL : WhL arrs params blocks labels q m s l) (h : WhS arrs labels rows nr S0 q m s f ps L (W ++ [x]) S) :
    Wp NoX (lb_sec5 l S) fun r S' => ∃ l' L' W', r = .nx l' ∧ WhL arrs params blocks labels q m s l' ∧ WhS arrs labels rows nr S0 q m s f ps L' W' S' ∧ ((L' = L ∧ W' = W) ∨ (L'.length = L.length + 1 ∧ W'.length ≤ W.length + 3 * rows.length)) := by
  obtain ⟨o4, o5, o6, o7, rfl⟩ := hL
  have hxn := hx x (h.wk.so x (.inr (by simp)))
  have hLl := nodup_len h.wk.nd h.wk.lt
  have hpop : oPop (.ref q) [] S = .ok (nD x) (S.set q (.lst (nDs W))) := by
    simp [oPop, h.hq]
  unfold lb_sec5
  simp_arith [hasTy_lst h.hq, hpop]
  have ne1 : s ≠ q := by have := h.qm; have := h.ms; omega
  have hs1 : (S.set q (.lst (nDs W)))[s]? = some (.dic (natDic L (.bl true))) := by rw [List.getElem?_set_ne (Ne.symm ne1)]; exact h.hs
  have hq1 : (S.set q (.lst (nDs W)))[q]? = some (.lst (nDs W)) := get_put h.hq
  have hM1 : Mk (S.set q (.lst (nDs W))) m ps f := h.hm.keep (Kp.set (A := [q]) (by simp)) (by simpa using h.qm)
  have hK1 : Kp [] S0 (S.set q (.lst (nDs W))) := h.k.setNew h.q0
  simp_arith [oNotIn_dic hs1]
  by_cases hin : x ∈ L
  · simp_arith [hin]
    refine ⟨_, L, W, rfl, ⟨_, _, _, _, rfl⟩, ⟨⟨h.wk.nd, h.wk.lt, fun y hy => h.wk.so y (hy.imp id fun h => by simp [h]), fun y hy => ?_, fun y hy z hz => ?_, ?_⟩, hq1, hs1, hM1, h.ps, hK1, h.q0, h.qm, h.ms⟩, .inl ⟨rfl, rfl⟩⟩
    · rcases h.wk.ba y hy with h1 | h1
      · exact .inl h1
      · simp only [List.mem_append, List.mem_singleton] at h1
        rcases h1 with h1 | rfl
        · exact .inr h1
        · exact .inl hin
    · rcases h.wk.cl y hy z hz with h1 | h1
      · exact .inl h1
      · simp only [List.mem_append, List.mem_singleton] at h1
        rcases h1 with h1 | rfl
        · exact .inr h1
        · exact .inl hin
    · have := h.wk.wl; simp at this; omega
  · have hlen : (natDic L (.bl true)).length < sizeLine := by simp only [natDic, List.length_map]; refine line_big ?_; have : (nr + 1) * 1 ≤ (nr + 1) * (3 * rows.length + 1) := Nat.mul_le_mul_left _ (by omega); omega
    have hset : oSet (.ref s) (nD x) (.bl true) (S.set q (.lst (nDs W))) = .ok () ((S.set q (.lst (nDs W))).set s (.dic (natDic (addN L x) (.bl true)))) := by
      rw [oSet_dic hs1 key_int hlen, natDic_set]
    simp_arith [hin, hset]
    generalize hS2 : (S.set q (.lst (nDs W))).set s (.dic (natDic (addN L x) (.bl true))) = S2
    have hs2 : S2[s]? = some (.dic (natDic (addN L x) (.bl true))) := by rw [← hS2]; exact get_put hs1
    have hq2 : S2[q]? = some (.lst (nDs W)) := by rw [← hS2, List.getElem?_set_ne ne1]; exact hq1
    have hM2 : Mk S2 m ps f := by
      rw [← hS2]
      exact hM1.keep2 (Kp.set (A := [s]) (by simp)) (by simp; have := h.ms; omega) (fun p hp => by simp; have := h.ps p hp; omega)
    have hK2 : Kp [] S0 S2 := by rw [← hS2]; exact hK1.setNew (by have := h.q0; have := h.qm; have := h.ms; omega)
    have htd : hasTy "dict" (.ref m) S2 = true := by simp [hasTy, hM2.d]
    simp_arith [hasTy_lst hq2, htd]
    have hadd : addN L x = L ++ [x] := by simp [addN, hin]
    have hwl := h.wk.wl
    have hfl := hG.gfl x
    have hmul : L.length * (3 * rows.length) ≤ nr * (3 * rows.length) := Nat.mul_le_mul_right _ hLl
    have hmul2 : (nr + 1) * (3 * rows.length + 1) = nr * (3 * rows.length) + 3 * rows.length + nr + 1 := by rw [Nat.add_mul, Nat.mul_add, Nat.mul_one, Nat.one_mul]; omega
    simp only [List.length_append, List.length_singleton] at hwl
    have fin : ∀ (S3 : Hs), Kp [q] S2 S3 → S3[q]? = some (.lst (nDs (W ++ f x))) → ∃ l' L' W', F.nx [some (progD arrs params blocks), some (D.tup (labels.map D.str)), some (D.ref q), some (D.ref m), o4, o5, some (nD x), o7, some (D.ref s), none] = .nx l' ∧ WhL arrs params blocks labels q m s l' ∧ WhS arrs labels rows nr S0 q m s f ps L' W' S3 ∧ ((L' = L ∧ W' = W) ∨ (L'.length = L.length + 1 ∧ W'.length ≤ W.length + 3 * rows.length)) := by
      intro S3 k3 hq3
      refine ⟨_, L ++ [x], W ++ f x, rfl, ⟨_, _, _, _, rfl⟩, ⟨⟨by rw [← hadd]; exact nodup_addN h.wk.nd, ?_, ?_, ?_, ?_, ?_⟩, hq3, ?_, ?_, h.ps, ?_, h.q0, h.qm, h.ms⟩, .inr ⟨by simp, by simp; omega⟩⟩
      · intro y hy
        simp only [List.mem_append, List.mem_singleton] at hy
        rcases hy with hy | rfl
        · exact h.wk.lt y hy
        · exact hxn
      · intro y hy
        simp only [List.mem_append, List.mem_singleton] at hy
        rcases hy with (hy | rfl) | (hy | hy)
        · exact h.wk.so y (.inl hy)
        · exact h.wk.so y (.inr (by simp))
        · exact h.wk.so y (.inr (by simp [hy]))
        · obtain ⟨r, h1, h2, h3⟩ := (hG.gf x y).mp hy
          exact .dep h1 h2 h3 (h.wk.so x (.inr (by simp)))
      · intro y hy
        have := h.wk.ba y hy
        simp only [List.mem_append, List.mem_singleton] at this ⊢
        rcases this with h1 | h1 | h1
        · exact .inl (.inl h1)
        · exact .inr (.inl h1)
        · exact .inl (.inr h1)
      · intro y hy z hz
        simp only [List.mem_append, List.mem_singleton] at hy ⊢
        rcases hy with hy | rfl
        · have := h.wk.cl y hy z hz
          simp only [List.mem_append, List.mem_singleton] at this
          rcases this with h1 | h1 | h1
          · exact .inl (.inl h1)
          · exact .inr (.inl h1)
          · exact .inl (.inr h1)
        · exact .inr (.inr hz)
      · simp only [List.length_append, List.length_singleton, Nat.add_mul, Nat.one_mul]; omega
      · rw [← hadd]; exact k3.get hs2 (by simpa using ne1)
      · exact hM2.keep k3 (by simpa using h.qm)
      · exact hK2.after k3 (by intro i hi hi2; simp at hi; subst hi; have := h.q0; omega)
    have hlt2 : (S2 ++ [O.lst []]).length = S2.length + 1 := by simp
    have hqA : (S2 ++ [O.lst []])[q]? = some (.lst (nDs W)) := by rw [List.getElem?_append_left (Real.lt hq2)]; exact hq2
    have hMA : Mk (S2 ++ [O.lst []]) m ps f := hM2.keep (A := []) Kp.new (by simp)
    rcases hMA.get x with ⟨r, hr, e1, e2⟩ | ⟨e1, e2⟩
    · have hbig : (nDs W).length + (nDs (f x)).length ≤ sizeLine := by simp only [List.length_map]; exact line_le (by omega)
      have hex : oExtend (.ref q) [.ref r] (S2 ++ [O.lst []]) = .ok .non ((S2 ++ [O.lst []]).set q (.lst (nDs W ++ nDs (f x)))) := by simp only [oExtend, hqA, e2, if_pos hbig]
      simp_arith [e1, hex]
      exact fin _ (Kp.new.trans (Kp.set (by simp))) (by rw [get_put hqA]; simp)
    · have e3 : (S2 ++ [O.lst []])[S2.length]? = some (.lst []) := get_end
      have hbig : (nDs W).length + ([] : List D).length ≤ sizeLine := by simp only [List.length_map, List.length_nil]; exact line_le (by omega)
      have hex : oExtend (.ref q) [.ref S2.length] (S2 ++ [O.lst []]) = .ok .non ((S2 ++ [O.lst []]).set q (.lst (nDs W ++ []))) := by simp only [oExtend, hqA, e3, if_pos hbig]
      simp_arith [e1, hex]
      exact fin _ (Kp.new.trans (Kp.set (by simp))) (by rw [get_put hqA, e2]; simp)
theorem secR_ok {S : Hs} {params : Nat} {blocks : List (List Row)} (hr : ∀ b ∈ blocks, ∀ r ∈ b, r.ok nr arrs.length nb) (hl : labels.length ≤ nr)
    (hsz : labels.length + blocks.flatten.length + (nr + 1) * (3 * blocks.flatten.length + 1) ≤ 100000) :
    Wp NoX (m_secR [progD arrs params blocks, .tup (labels.map D.str)] S) fun v S' => ∃ s L, v = .ref s ∧ S'[s]? = some (.dic (natDic L (.bl true))) ∧ L.Nodup ∧ (∀ x, x ∈ L ↔ Sec arrs labels blocks.flatten x) ∧ Kp [] S S' ∧ S.length ≤ s := by
  refine wp_def0 rfl ?_
  unfold b_secR
  have hen : ∀ S, oEnum [.tup (labels.map D.str)] S = .ok (.enum (.t (labels.map D.str))) S := fun S => rfl
  simp_arith [hen, wipeL]
  refine lc_pure (α := Nat) (fun k => .tup [nD k, .str (labels.getD k "")]) (xs := List.range labels.length) (fun k => if labels.getD k "" = "secret" then some (nD k) else none) ?_ (by simp; omega) ?_ ?_
  · intro S' _ k hk
    simp only [List.length_range] at hk
    simp only [itGo, Sq.at, Option.bind_some, List.length_map]
    rw [if_pos hk]
    rcases Nat.lt_or_ge k labels.length with h | h
    · simp [List.getElem?_eq_getElem h, List.getElem?_range h, List.getD]
    · rw [List.getElem?_eq_none (by simpa using h), List.getElem?_eq_none (by simpa using h)]; rfl
  · intro k hk S' k1
    refine ⟨_, rfl, ?_⟩
    simp only [List.zip_cons_cons, List.zip_nil_right, List.foldl_cons, List.foldl_nil]
    simp_arith [oEq_str]
    refine ⟨Kp.refl, ?_⟩
    by_cases hc : labels.getD k "" = "secret"
    · rw [if_pos (by simpa using hc), if_pos hc]; exact ⟨Kp.refl, rfl⟩
    · rw [if_neg (by simpa using hc), if_neg hc]
  · intro S1 hq1 k1
    simp_arith [prog_blocks, oIt]
    have hW : (List.range labels.length).filterMap (fun k => if labels.getD k "" = "secret" then some (nD k) else none) = nDs ((List.range labels.length).filter fun k => decide (labels.getD k "" = "secret")) := by
      generalize List.range labels.length = xs
      induction xs with
      | nil => rfl
      | cons a xs ih =>
        simp only [List.filterMap_cons, List.filter_cons, decide_eq_true_eq]
        split <;> rename_i e <;> split at e <;> simp_all
    rw [hW] at hq1
    generalize hWW : (List.range labels.length).filter (fun k => decide (labels.getD k "" = "secret")) = W0 at hq1
    have hqlt := Real.lt hq1
    have hG0 : Gath arrs labels [] W0 (fun _ => []) := by
      refine ⟨fun x => ?_, fun x y => by simp, ?_, fun x => by simp⟩
      · rw [← hWW]
        simp only [List.mem_filter, List.mem_range, decide_eq_true_eq, List.not_mem_nil, false_and, exists_false, or_false]
        constructor
        · rintro ⟨h1, h2⟩
          rw [← h2]; simp [List.getD, List.getElem?_eq_getElem h1]
        · intro h
          obtain ⟨h1, h2⟩ := List.getElem?_eq_some_iff.mp h
          exact ⟨h1, by simpa [List.getD, List.getElem?_eq_getElem h1] using h2⟩
      · rw [← hWW]; have := List.length_filter_le (fun k => decide (labels.getD k "" = "secret")) (List.range labels.length); simp at this; simp; omega
    have hflat : ∀ pre b post, blocks = pre ++ b :: post → pre.flatten.length + b.length ≤ blocks.flatten.length := by
      rintro pre b post rfl; simp <;> omega
    refine wp_tupM blockD (fun pre l' S' => SecL arrs params blocks labels S.length S1.length l' ∧ SecS arrs labels S S.length S1.length pre.flatten S') ?_ ?_ ?_
    · refine ⟨⟨_, _, _, _, rfl⟩, W0, fun _ => [], [], hG0, ?_, ⟨by simp [mkDic], by simp, by simp, by simp, by simp, by simp⟩, by simp, k1.app, Nat.le_refl _, hqlt⟩
      rw [List.getElem?_append_left hqlt]; exact hq1
    · rintro pre b post l' S' hsp ⟨⟨o4, o5, o6, o7, rfl⟩, hS⟩
      have hlen := hflat pre b post hsp
      have hb : b ∈ blocks := by rw [hsp]; simp
      simp_arith []
      unfold lb_sec3
      simp_arith [oIt]
      refine wp_tupM Row.D (fun pre2 l' S' => SecL arrs params blocks labels S.length S1.length l' ∧ SecS arrs labels S S.length S1.length (pre.flatten ++ pre2) S') ⟨⟨_, _, _, _, rfl⟩, by simpa using hS⟩ ?_ ?_
      · rintro pre2 r post2 l2 S2 hsp2 ⟨⟨o4, o5, o6, o7, rfl⟩, hS2⟩
        have hrb : r ∈ b := by rw [hsp2]; simp
        have hl2 : pre2.length ≤ b.length := by rw [hsp2]; simp
        simp_arith []
        refine (sec2_ok (hr b hb r hrb) ⟨_, _, _, _, rfl⟩ (by rfl) hS2 (by rw [List.length_append]; omega) (by omega)).mono (fun _ _ _ _ h => h) ?_
        rintro x S3 ⟨l3, rfl, h3, h4⟩
        exact ⟨h3, by rw [← List.append_assoc]; exact h4⟩
      · rintro l2 S2 ⟨hL2, hS2⟩
        exact ⟨hL2, by simpa using hS2⟩
    · rintro l' S' ⟨⟨o4, o5, o6, o7, rfl⟩, W, f, ps, hG, hq, hM, hps, hK, hq0, hqm⟩
      simp_arith []
      have hxl : ∀ y, Sec arrs labels blocks.flatten y → y < nr := fun y hy => hy.lt hl (nb := nb) (na := arrs.length) (fun r hr' => by
        rw [List.mem_flatten] at hr'
        obtain ⟨b, h1, h2⟩ := hr'
        exact hr b h1 r h2)
      have hqlt' := Real.lt hq
      refine wp_while (fun mm l2 S2 => ∃ L W, WhL arrs params blocks labels S.length S1.length S'.length l2 ∧ WhS arrs labels blocks.flatten nr S S.length S1.length S'.length f ps L W S2 ∧ mm = (nr - L.length) * (3 * blocks.flatten.length + 1) + W.length) ?_ _ _ _
        ⟨[], W, ⟨_, _, _, _, rfl⟩, ⟨⟨by simp, by simp, ?_, ?_, by simp, ?_⟩, ?_, by simp [natDic], hM.keep (A := []) Kp.new (by simp), fun p hp => Real.lt (hM.li p hp), hK.app, hq0, hqm, Real.lt hM.d⟩, rfl⟩
      · rintro mm l2 S2 ⟨L, W2, ⟨p4, p5, p6, p7, rfl⟩, hw, rfl⟩
        unfold c_sec4
        simp_arith [tru_lst hw.hq]
        rcases List.eq_nil_or_concat W2 with rfl | ⟨W3, x, rfl⟩
        · simp_arith [List.isEmpty_nil]
          exact ⟨_, L, rfl, hw.hs, hw.wk.nd, hw.wk.done hG, hw.k, by have := hw.q0; have := hw.qm; have := hw.ms; omega⟩
        · rw [List.concat_eq_append] at *
          have hne : (nDs (W3 ++ [x])).isEmpty = false := by simp
          simp only [hne, Bool.not_false, if_true]
          refine (sec5_ok hG hxl (by omega) ⟨_, _, _, _, rfl⟩ hw).mono (fun _ _ _ _ h => h) ?_
          rintro r S3 ⟨l3, L3, W4, rfl, hL3, hw3, hc⟩
          have hLl := nodup_len hw3.wk.nd hw3.wk.lt
          refine ⟨_, ?_, L3, W4, hL3, hw3, rfl⟩
          rcases hc with ⟨rfl, rfl⟩ | ⟨e1, e2⟩
          · simp
          · rw [e1]
            have : nr - L.length = (nr - (L.length + 1)) + 1 := by omega
            rw [this, Nat.add_mul, Nat.one_mul]
            simp only [List.length_append, List.length_singleton]; omega
      · rintro x (h | h)
        · simp at h
        · rcases (hG.gw x).mp h with h | ⟨r, h1, h2, h3⟩
          · exact .param h
          · exact .load h1 h2 h3
      · intro x hx; exact .inr ((hG.gw x).mpr hx)
      · have := hG.gwl; simp only [List.length_nil, Nat.zero_mul, Nat.add_zero]; exact this
      · rw [List.getElem?_append_left hqlt']; exact hq
end
end Ly
set_option Elab.async false
set_option linter.all false
set_option maxRecDepth 100000
namespace Ly
open PySem PySem.Spec L2
open PyProof.Rows hiding St
local macro_rules | `(tactic| simp_arith [$ls,*]) => `(tactic| simp only [Ly.line_le, Ly.atX_no, Ly.v_ok, Ly.v_bad, Ly.v_bind, Ly.k_bd, Ly.v_at, Ly.v_bin, Ly.k_bi, Ly.k_bi2, Ly.v_var, Ly.v_c, Ly.v_un, Ly.k_un, Ly.v_if, Ly.k_ife, Ly.v_and, Ly.k_and, Ly.k_and2, Ly.v_or, Ly.k_or, Ly.k_or2, Ly.v_tup, Ly.k_tup, Ly.v_lst, Ly.k_lst, Ly.v_call, Ly.k_ca, Ly.v_fn, Ly.k_fn, Ly.v_bm, Ly.k_bm, Ly.k_bm2, Ly.v_sl, Ly.k_sl, Ly.k_sl2, Ly.k_sl3, Ly.v_ixK, Ly.k_ixk, Ly.v_inK, Ly.k_ink, Ly.v_notinK, Ly.k_nink, Ly.v_getK2, Ly.k_gk2, Ly.k_gk, Ly.v_get2, Ly.k_g2, Ly.k_g22, Ly.k_g23, Ly.v_nil, Ly.v_cons, Ly.k_co, Ly.k_co2, Ly.v_no, Ly.v_some, Ly.k_so, Ly.k_cm, Ly.v_cmp, Ly.v_tru, Ly.k_tr, Ly.v_notB, Ly.k_no, Ly.v_andB, Ly.k_an, Ly.v_orB, Ly.k_orb, Ly.v_yes, Ly.v_inKB, Ly.k_inkB, Ly.v_notinKB, Ly.k_ninkB, Ly.v_set, Ly.k_st, Ly.v_expr, Ly.k_ex, Ly.v_ret, Ly.k_re, Ly.v_retN, Ly.v_pass, Ly.v_brk, Ly.v_cnt, Ly.v_seq, Ly.k_sq_nx, Ly.k_sq_rt, Ly.k_sq_bk, Ly.k_sq_ct, Ly.v_ifS, Ly.k_ifs, Ly.v_asg, Ly.k_as, Ly.k_as2, Ly.v_aug, Ly.k_au, Ly.v_for, Ly.k_fo, Ly.v_it, Ly.k_it, Ly.k_ij, Ly.v_rng1, Ly.v_rng2, Ly.v_enum, Ly.v_zip, Ly.v_ez, Ly.v_gN, Ly.v_gsN, Ly.v_gsC, Ly.k_gc, Ly.v_gT, Ly.v_gTw, Ly.v_gSb, Ly.k_gsb, Ly.k_gsb2, Ly.k_gsb3, Ly.k_en_rt, Ly.k_en_nx, Ly.k_tu_nx, Ly.k_tu_ct, Ly.k_tu_bk, Ly.k_tu_rt, Ly.v_lc, Ly.k_lc, Ly.v_augI, Ly.k_ag, Ly.k_ag2, Ly.k_ag3, Ly.k_ag4, Ly.k_ag5, Ly.v_del, Ly.k_dl, Ly.k_dl2, Ly.v_setd, Ly.v_pop2, Ly.k_d3, Ly.k_d32, Ly.k_d33, Ly.v_get1, Ly.k_g1, Ly.k_g12, Ly.v_rg1, Ly.k_rg, Ly.v_rg2, Ly.k_rg2, Ly.k_rg22, Ly.v_dicK, Ly.v_dicT, Ly.v_dc, Ly.k_dc, List.getElem?_cons_zero, List.getElem?_cons_succ, List.set_cons_zero, List.set_cons_succ, List.length_cons, List.length_nil, List.map_cons, List.map_nil, List.cons_append, List.nil_append, List.replicate, if_true, if_false, Bool.false_eq_true, Bool.not_true, Bool.not_false, Bool.true_and, Bool.false_and, decide_true, decide_false, decide_eq_true_eq, Nat.zero_add, Nat.reduceAdd, Nat.reduceLeDiff, true_and, and_true, $ls,*])
noncomputable def b_regsOf : MS := (mRet (mBin oAdd (mFn m_partsL (lCons (mVar 0) (lCons (mC (.str "write")) lNil))) (mFn m_partsL (lCons (mVar 0) (lCons (mC (.str "read")) lNil)))))
noncomputable def m_regsOf : MD := mDef 1 0 b_regsOf
def Row.regs (r : Row) : List Nat := r.wr.toList ++ r.rd
theorem kind_w (r : Row) : kindOf r "write" = r.wr.toList := by simp [kindOf]
theorem kind_r (r : Row) : kindOf r "read" = r.rd := by simp [kindOf, ofString_inj]
theorem wr_len (r : Row) : r.wr.toList.length ≤ 1 := by cases r <;> simp [Row.wr]
theorem regsOf_ok {S : Hs} (r : Row) : Wp NoX (m_regsOf [r.D] S) fun v S' => v = .tup (nDs r.regs) ∧ Kp [] S S' := by
  refine wp_def0 rfl ?_
  unfold b_regsOf
  simp_arith []
  refine Wp.call (partsL_ok r (.inl rfl)) ?_
  rintro _ S1 ⟨rfl, k1⟩
  simp_arith []
  refine Wp.call (partsL_ok r (.inr rfl)) ?_
  rintro _ S2 ⟨rfl, k2⟩
  have hl : (nDs r.wr.toList).length + (nDs r.rd).length ≤ sizeLine := by
    simp only [List.length_map]; refine line_le ?_; have := rd_len r; have := wr_len r; omega
  simp_arith [kind_w, kind_r, oAdd, hl]
  exact ⟨by simp [Row.regs], k1.trans k2⟩
theorem Row.ok.regs_lt {nr na nb : Nat} {r : Row} (h : r.ok nr na nb) {x : Nat} (e : x ∈ r.regs) : x < nr := by
  rcases List.mem_append.mp e with e | e
  · rw [Option.mem_toList] at e; exact h.wr_lt e
  · exact h.rd_lt e
noncomputable def lb_named0 : MS := (mAsg (mC (.bl true)) (gSb (mVar 1) (mVar 4)))
noncomputable def lb_named1 : MS := (mFor (mIt (mFn m_regsOf (lCons (mVar 3) lNil))) (gN 4) lb_named0)
noncomputable def lb_named2 : MS := (mFor (mIt (mVar 2)) (gN 3) lb_named1)
noncomputable def b_named : MS := (mSeq (mSet 1 (mDc (mRng1 (lCons (mBin oIx (mVar 0) (mC (.int 1))) lNil)) (cN 4) mYes (mVar 4) (mC (.bl true)) [4]))
    (mSeq (mFor (mIt (mBin oIx (mVar 0) (mC (.int 2)))) (gN 2) lb_named2)
    (mRet (mVar 1))))
noncomputable def m_named : MD := mDef 1 4 b_named
section
variable {arrs : List Arr} {labels : List Str} {nr nb : Nat}
structure NmS (S0 : Hs) (nr s : Nat) (P : Nat → Prop) (S : Hs) : Prop where
  ex : ∃ L : List Nat, S[s]? = some (.dic (natDic L (.bl true))) ∧ L.Nodup ∧ (∀ x ∈ L, x < nr) ∧ ∀ x, x ∈ L ↔ P x
  k : Kp [] S0 S
  lo : S0.length ≤ s
theorem NmS.mono {S0 S S' : Hs} {s : Nat} {P P' : Nat → Prop} (h : NmS S0 nr s P S) (k : Kp [] S S') (e : ∀ x, P x ↔ P' x) : NmS S0 nr s P' S' := by
  obtain ⟨L, h1, h2, h3, h4⟩ := h.ex
  exact ⟨⟨L, k.get h1 (by simp), h2, h3, fun x => (h4 x).trans (e x)⟩, h.k.trans k, h.lo⟩
theorem NmS.add {S0 S : Hs} {s n : Nat} {P : Nat → Prop} (h : NmS S0 nr s P S) (hn : n < nr) (hr : nr ≤ 1000000) : ∃ S', oSet (.ref s) (nD n) (.bl true) S = .ok () S' ∧ NmS S0 nr s (fun x => P x ∨ x = n) S' := by
  obtain ⟨L, h1, h2, h3, h4⟩ := h.ex
  have hlen : (natDic L (.bl true)).length < sizeLine := by
    simp only [natDic, List.length_map]; refine line_big ?_; have := nodup_len h2 h3; omega
  refine ⟨_, by rw [oSet_dic h1 key_int hlen, natDic_set], ⟨⟨addN L n, get_put h1, nodup_addN h2, fun x hx => ?_, fun x => by rw [mem_addN, h4]⟩, h.k.setNew h.lo, h.lo⟩⟩
  rcases mem_addN.mp hx with hx | rfl
  · exact h3 x hx
  · exact hn
theorem named_ok {S : Hs} {params : Nat} {blocks : List (List Row)} (hr : ∀ b ∈ blocks, ∀ r ∈ b, r.ok nr arrs.length nb) (hp : params ≤ nr) (hn : nr ≤ 1000000) :
    Wp NoX (m_named [progD arrs params blocks] S) fun v S' => ∃ s, v = .ref s ∧ NmS S nr s (fun n => n < params ∨ ∃ r ∈ blocks.flatten, n ∈ r.regs) S' := by
  refine wp_def0 rfl ?_
  unfold b_named
  simp_arith [prog_params, rng1 (n := (params : Int)) S (by omega) (by omega), Int.toNat_natCast, wipe1]
  refine wp_dcRng (fun k acc S' => (∃ L : List Nat, acc = natDic L (.bl true) ∧ S'[S.length]? = some (.dic acc) ∧ L.Nodup ∧ (∀ x ∈ L, x < nr) ∧ ∀ x, x ∈ L ↔ x < k) ∧ Kp [] S S') ⟨⟨[], by simp [natDic], by simp, by simp, by simp, by simp⟩, Kp.new⟩ ?_ ?_
  · rintro k acc S' hk ⟨⟨L, rfl, h1, h2, h3, h4⟩, k1⟩
    refine ⟨_, rfl, ?_⟩
    have e : (0 + (k : Int)) = (k : Int) := by omega
    simp_arith [e]
    have hlen : (natDic L (.bl true)).length < sizeLine := by
      simp only [natDic, List.length_map]; refine line_big ?_; have := nodup_len h2 h3; omega
    refine ⟨h1, hlen, _, key_int, ?_, k1.setNew (Nat.le_refl _)⟩
    rw [natDic_set]
    refine ⟨addN L k, rfl, get_put h1, nodup_addN h2, fun x hx => ?_, fun x => ?_⟩
    · rcases mem_addN.mp hx with hx | rfl
      · exact h3 x hx
      · omega
    · rw [mem_addN, h4]; omega
  · rintro acc S1 ⟨⟨L, rfl, h1, h2, h3, h4⟩, k1⟩
    simp_arith [prog_blocks, oIt]
    have h0 : NmS S nr S.length (fun n => n < params ∨ ∃ r ∈ ([] : List (List Row)).flatten, n ∈ r.regs) S1 := ⟨⟨L, h1, h2, h3, fun x => by rw [h4]; simp⟩, k1, Nat.le_refl _⟩
    refine wp_tupM blockD (fun pre l' S' => (∃ o2 o3 o4 : Option D, l' = [some (progD arrs params blocks), some (.ref S.length), o2, o3, o4]) ∧ NmS S nr S.length (fun n => n < params ∨ ∃ r ∈ pre.flatten, n ∈ r.regs) S') ⟨⟨_, _, _, rfl⟩, h0⟩ ?_ ?_
    · rintro pre b post l' S' hsp ⟨⟨o2, o3, o4, rfl⟩, hS⟩
      have hb : b ∈ blocks := by rw [hsp]; simp
      simp_arith []
      unfold lb_named2
      simp_arith [oIt]
      refine wp_tupM Row.D (fun pre2 l' S' => (∃ o2 o3 o4 : Option D, l' = [some (progD arrs params blocks), some (.ref S.length), o2, o3, o4]) ∧ NmS S nr S.length (fun n => n < params ∨ ∃ r ∈ pre.flatten ++ pre2, n ∈ r.regs) S') ⟨⟨_, _, _, rfl⟩, by simpa using hS⟩ ?_ ?_
      · rintro pre2 r post2 l2 S2 hsp2 ⟨⟨o2, o3, o4, rfl⟩, hS2⟩
        have hrb : r ∈ b := by rw [hsp2]; simp
        simp_arith []
        unfold lb_named1
        simp_arith []
        refine Wp.call (regsOf_ok r) ?_
        rintro _ S3 ⟨rfl, k3⟩
        simp_arith [oIt]
        refine wp_tupM nD (fun pre3 l' S' => (∃ o2 o3 o4 : Option D, l' = [some (progD arrs params blocks), some (.ref S.length), o2, o3, o4]) ∧ NmS S nr S.length (fun n => (n < params ∨ ∃ r ∈ pre.flatten ++ pre2, n ∈ r.regs) ∨ n ∈ pre3) S') ⟨⟨_, _, _, rfl⟩, hS2.mono k3 (by simp)⟩ ?_ ?_
        · rintro pre3 n post3 l3 S4 hsp3 ⟨⟨o2, o3, o4, rfl⟩, hS4⟩
          have hnn : n < nr := (hr b hb r hrb).regs_lt (by rw [hsp3]; simp)
          obtain ⟨S5, e5, h5⟩ := hS4.add hnn hn
          unfold lb_named0
          simp_arith [e5]
          refine ⟨⟨_, _, _, rfl⟩, h5.mono Kp.refl fun x => ?_⟩
          simp only [List.mem_append, List.mem_singleton, or_assoc]
        · rintro l3 S4 ⟨⟨o2, o3, o4, rfl⟩, hS4⟩
          refine ⟨⟨_, _, _, rfl⟩, hS4.mono Kp.refl fun x => ?_⟩
          constructor
          · rintro ((h | ⟨r', h1, h2⟩) | h)
            · exact .inl h
            · exact .inr ⟨r', by rw [← List.append_assoc]; exact List.mem_append_left _ h1, h2⟩
            · exact .inr ⟨r, by simp, h⟩
          · rintro (h | ⟨r', h1, h2⟩)
            · exact .inl (.inl h)
            · rw [← List.append_assoc] at h1
              rcases List.mem_append.mp h1 with h1 | h1
              · exact .inl (.inr ⟨r', h1, h2⟩)
              · simp only [List.mem_singleton] at h1; subst h1; exact .inr h2
      · rintro l2 S2 ⟨hL2, hS2⟩
        exact ⟨hL2, by simpa using hS2⟩
    · rintro l' S' ⟨⟨o2, o3, o4, rfl⟩, hS⟩
      simp_arith []
      exact ⟨_, rfl, hS⟩
theorem seqAt_lst {S : Hs} {i : Nat} {ds : List D} (h : S[i]? = some (.lst ds)) : seqAt S i = some ds := by simp [seqAt, seqD, h]
def pubArr (arrs : List Arr) (i : Nat) : Bool := match arrs[i]? with
  | some a => decide (a.label = "public")
  | none => false
def watched (arrs : List Arr) : Row → List Nat
  | .branch a _ _ => [a]
  | .out a => [a]
  | .load _ _ a => [a]
  | .store i a v => if pubArr arrs i = true then [a, v] else [a]
  | .op s _ a b => if s = "div" ∨ s = "mod" then [a, b] else []
  | _ => []
noncomputable def b_watched : MS := (mSeq (mSet 2 (mBin oIx (mVar 0) (mC (.int 0))))
    (mSeq (mIfS (mCmp oIn (mVar 2) (mTup (lCons (mC (.str "branch")) (lCons (mC (.str "out")) lNil)))) (mRet (mTup (lCons (mBin oIx (mVar 0) (mC (.int 1))) lNil))) mPass)
    (mSeq (mIfS (mCmp oEq (mVar 2) (mC (.str "load"))) (mRet (mTup (lCons (mBin oIx (mVar 0) (mC (.int 3))) lNil))) mPass)
    (mSeq (mIfS (mCmp oEq (mVar 2) (mC (.str "store"))) (mRet (mIf (mCmp oEq (mBin oIx (mBin oIx (mVar 1) (mBin oIx (mVar 0) (mC (.int 1)))) (mC (.int 2))) (mC (.str "public"))) (mTup (lCons (mBin oIx (mVar 0) (mC (.int 2))) (lCons (mBin oIx (mVar 0) (mC (.int 3))) lNil))) (mTup (lCons (mBin oIx (mVar 0) (mC (.int 2))) lNil)))) mPass)
    (mSeq (mIfS (mAndB (mCmp oEq (mVar 2) (mC (.str "op"))) (mCmp oIn (mBin oIx (mVar 0) (mC (.int 1))) (mTup (lCons (mC (.str "div")) (lCons (mC (.str "mod")) lNil))))) (mRet (mTup (lCons (mBin oIx (mVar 0) (mC (.int 3))) (lCons (mBin oIx (mVar 0) (mC (.int 4))) lNil)))) mPass)
    (mRet (mTup lNil)))))))
noncomputable def m_watched : MD := mDef 2 1 b_watched
theorem oIn_lit2 {S : Hs} {x a b : Str} : oIn (.str x) (.tup [.str a, .str b]) S = .ok (.bl (decide (x = a ∨ x = b))) S := by
  have := oIn_strs (S := S) (x := x) (xs := [a, b]) (.inl rfl)
  simpa using this
theorem ix0 {S : Hs} {d : D} {ds : List D} : oIx (.tup (d :: ds)) (.int 0) S = .ok d S := oIx_tup (n := 0) rfl
theorem ix1 {S : Hs} {d e : D} {ds : List D} : oIx (.tup (d :: e :: ds)) (.int 1) S = .ok e S := oIx_tup (n := 1) rfl
theorem ix2 {S : Hs} {d e f : D} {ds : List D} : oIx (.tup (d :: e :: f :: ds)) (.int 2) S = .ok f S := oIx_tup (n := 2) rfl
theorem ix3 {S : Hs} {d e f g : D} {ds : List D} : oIx (.tup (d :: e :: f :: g :: ds)) (.int 3) S = .ok g S := oIx_tup (n := 3) rfl
theorem ix4 {S : Hs} {d e f g h : D} {ds : List D} : oIx (.tup (d :: e :: f :: g :: h :: ds)) (.int 4) S = .ok h S := oIx_tup (n := 4) rfl
theorem watched_ok {S : Hs} {r : Row} (hr : r.ok nr arrs.length nb) : Wp NoX (m_watched [r.D, .tup (arrs.map Arr.D)] S) fun v S' => v = .tup (nDs (watched arrs r)) ∧ S' = S := by
  refine wp_def0 rfl ?_
  unfold b_watched
  cases r with
  | store i a v =>
    have hi : i < arrs.length := hr.1
    simp_arith [Row.D, ix0, ix1, ix2, ix3, oIn_lit2, oEq_str, ofString_inj, String.reduceEq, or_false, or_true, false_or, arr_at hi, arr_label]
    by_cases hp : arrs[i].label = "public"
    · simp [hp, watched, pubArr, List.getElem?_eq_getElem hi]
    · simp [hp, watched, pubArr, List.getElem?_eq_getElem hi]
  | op s d a b =>
    by_cases hs : s = "div" ∨ s = "mod"
    · simp_arith [Row.D, ix0, ix1, ix2, ix3, ix4, oIn_lit2, oEq_str, ofString_inj, String.reduceEq, or_false, or_true, false_or, hs]
      simp [watched, hs]
    · simp_arith [Row.D, ix0, ix1, ix2, ix3, ix4, oIn_lit2, oEq_str, ofString_inj, String.reduceEq, or_false, or_true, false_or, hs]
      simp [watched, hs]
  | _ =>
    simp_arith [Row.D, ix0, ix1, ix2, ix3, ix4, oIn_lit2, oEq_str, ofString_inj, String.reduceEq, or_false, or_true, false_or]
    simp [watched]
end
noncomputable def lb_keep0 : MS := (mIfS (mCmp oIn (mVar 5) (mVar 2)) (mRet (mC (.bl false))) mPass)
noncomputable def lb_keep1 : MS := (mFor (mIt (mFn m_watched (lCons (mVar 4) (lCons (mBin oIx (mVar 0) (mC (.int 0))) lNil)))) (gN 5) lb_keep0)
noncomputable def lb_keep2 : MS := (mFor (mIt (mVar 3)) (gN 4) lb_keep1)
noncomputable def b_keep : MS := (mSeq (mSet 2 (mFn m_secR (lCons (mVar 0) (lCons (mVar 1) lNil))))
    (mSeq (mFor (mIt (mBin oIx (mVar 0) (mC (.int 2)))) (gN 3) lb_keep2)
    (mRet (mC (.bl true)))))
noncomputable def m_keep : MD := mDef 2 4 b_keep
section
variable {arrs : List Arr} {labels : List Str} {nr nb : Nat}
def Keeps (arrs : List Arr) (P : Nat → Prop) (rows : List Row) : Prop := ∀ r ∈ rows, ∀ x ∈ watched arrs r, ¬ P x
theorem keep_ok {S : Hs} {params : Nat} {blocks : List (List Row)} (hr : ∀ b ∈ blocks, ∀ r ∈ b, r.ok nr arrs.length nb) (hl : labels.length ≤ nr)
    (hsz : labels.length + blocks.flatten.length + (nr + 1) * (3 * blocks.flatten.length + 1) ≤ 100000) :
    Wp NoX (m_keep [progD arrs params blocks, .tup (labels.map D.str)] S) fun v S' => (∃ b : Bool, v = .bl b ∧ (b = true ↔ Keeps arrs (Sec arrs labels blocks.flatten) blocks.flatten)) ∧ Kp [] S S' := by
  refine wp_def0 rfl ?_
  unfold b_keep
  simp_arith []
  refine Wp.call (secR_ok hr hl hsz) ?_
  rintro _ S1 ⟨s, L, rfl, hs, hLn, hLs, k1, hs0⟩
  simp_arith [prog_blocks, oIt]
  have bad : ∀ (r : Row) (x : Nat), r ∈ blocks.flatten → x ∈ watched arrs r → x ∈ L → (∃ b : Bool, D.bl false = .bl b ∧ (b = true ↔ Keeps arrs (Sec arrs labels blocks.flatten) blocks.flatten)) ∧ Kp [] S S1 := fun r x h1 h2 h3 =>
    ⟨⟨false, rfl, by simp; exact fun h => h r h1 x h2 ((hLs x).mp h3)⟩, k1⟩
  refine wp_tupM blockD (fun pre l' S' => (∃ o3 o4 o5 : Option D, l' = [some (progD arrs params blocks), some (.tup (labels.map D.str)), some (.ref s), o3, o4, o5]) ∧ S' = S1 ∧ Keeps arrs (· ∈ L) pre.flatten) ⟨⟨_, _, _, rfl⟩, rfl, by simp [Keeps]⟩ ?_ ?_
  · rintro pre b post l' S' hsp ⟨⟨o3, o4, o5, rfl⟩, rfl, hk⟩
    have hb : b ∈ blocks := by rw [hsp]; simp
    simp_arith []
    unfold lb_keep2
    simp_arith [oIt]
    refine wp_tupM Row.D (fun pre2 l' S2 => (∃ o3 o4 o5 : Option D, l' = [some (progD arrs params blocks), some (.tup (labels.map D.str)), some (.ref s), o3, o4, o5]) ∧ S2 = S' ∧ Keeps arrs (· ∈ L) (pre.flatten ++ pre2)) ⟨⟨_, _, _, rfl⟩, rfl, by simpa using hk⟩ ?_ ?_
    · rintro pre2 r post2 l2 S2 hsp2 ⟨⟨o3, o4, o5, rfl⟩, rfl, hk2⟩
      have hrb : r ∈ b := by rw [hsp2]; simp
      have hrf : r ∈ blocks.flatten := List.mem_flatten.mpr ⟨b, hb, hrb⟩
      simp_arith []
      unfold lb_keep1
      simp_arith [prog_arrs]
      refine Wp.call (watched_ok (hr b hb r hrb)) ?_
      rintro _ S3 ⟨rfl, rfl⟩
      simp_arith [oIt]
      refine wp_tupM nD (fun pre3 l' S4 => (∃ o3 o4 o5 : Option D, l' = [some (progD arrs params blocks), some (.tup (labels.map D.str)), some (.ref s), o3, o4, o5]) ∧ S4 = S3 ∧ ∀ x ∈ pre3, x ∉ L) ⟨⟨_, _, _, rfl⟩, rfl, by simp⟩ ?_ ?_
      · rintro pre3 x post3 l3 S4 hsp3 ⟨⟨o3, o4, o5, rfl⟩, rfl, hk3⟩
        have hxw : x ∈ watched arrs r := by rw [hsp3]; simp
        unfold lb_keep0
        simp_arith [oIn_dic hs]
        by_cases hx : x ∈ L
        · simp_arith [hx]
          exact bad r x hrf hxw hx
        · simp_arith [hx]
          refine ⟨⟨_, _, _, rfl⟩, fun y hy => ?_⟩
          rcases List.mem_append.mp hy with hy | hy
          · exact hk3 y hy
          · simp only [List.mem_singleton] at hy; subst hy; exact hx
      · rintro l3 S4 ⟨⟨o3, o4, o5, rfl⟩, rfl, hk3⟩
        refine ⟨⟨_, _, _, rfl⟩, rfl, ?_⟩
        rw [← List.append_assoc]
        intro r' hr' y hy
        rcases List.mem_append.mp hr' with h | h
        · exact hk2 r' h y hy
        · simp only [List.mem_singleton] at h; subst h; exact hk3 y hy
    · rintro l2 S2 ⟨hL2, rfl, hk2⟩
      exact ⟨hL2, rfl, by simpa using hk2⟩
  · rintro l' S' ⟨⟨o3, o4, o5, rfl⟩, rfl, hk⟩
    simp_arith []
    exact ⟨⟨true, rfl, by simp; exact fun r h1 x h2 h3 => hk r h1 x h2 ((hLs x).mpr h3)⟩, k1⟩
end
end Ly
set_option Elab.async false
set_option linter.all false
set_option maxRecDepth 100000
namespace Ly
open PySem PySem.Spec L2
open PyProof.Rows hiding St
end Ly
set_option Elab.async false
set_option linter.all false
set_option maxRecDepth 100000
namespace Ly
open PySem PySem.Spec L2
open PyProof.Rows hiding St
local macro_rules | `(tactic| simp_arith [$ls,*]) => `(tactic| simp only [Ly.line_le, Ly.atX_no, Ly.v_ok, Ly.v_bad, Ly.v_bind, Ly.k_bd, Ly.v_at, Ly.v_bin, Ly.k_bi, Ly.k_bi2, Ly.v_var, Ly.v_c, Ly.v_un, Ly.k_un, Ly.v_if, Ly.k_ife, Ly.v_and, Ly.k_and, Ly.k_and2, Ly.v_or, Ly.k_or, Ly.k_or2, Ly.v_tup, Ly.k_tup, Ly.v_lst, Ly.k_lst, Ly.v_call, Ly.k_ca, Ly.v_fn, Ly.k_fn, Ly.v_bm, Ly.k_bm, Ly.k_bm2, Ly.v_sl, Ly.k_sl, Ly.k_sl2, Ly.k_sl3, Ly.v_ixK, Ly.k_ixk, Ly.v_inK, Ly.k_ink, Ly.v_notinK, Ly.k_nink, Ly.v_getK2, Ly.k_gk2, Ly.k_gk, Ly.v_get2, Ly.k_g2, Ly.k_g22, Ly.k_g23, Ly.v_nil, Ly.v_cons, Ly.k_co, Ly.k_co2, Ly.v_no, Ly.v_some, Ly.k_so, Ly.k_cm, Ly.v_cmp, Ly.v_tru, Ly.k_tr, Ly.v_notB, Ly.k_no, Ly.v_andB, Ly.k_an, Ly.v_orB, Ly.k_orb, Ly.v_yes, Ly.v_inKB, Ly.k_inkB, Ly.v_notinKB, Ly.k_ninkB, Ly.v_set, Ly.k_st, Ly.v_expr, Ly.k_ex, Ly.v_ret, Ly.k_re, Ly.v_retN, Ly.v_pass, Ly.v_brk, Ly.v_cnt, Ly.v_seq, Ly.k_sq_nx, Ly.k_sq_rt, Ly.k_sq_bk, Ly.k_sq_ct, Ly.v_ifS, Ly.k_ifs, Ly.v_asg, Ly.k_as, Ly.k_as2, Ly.v_aug, Ly.k_au, Ly.v_for, Ly.k_fo, Ly.v_it, Ly.k_it, Ly.k_ij, Ly.v_rng1, Ly.v_rng2, Ly.v_enum, Ly.v_zip, Ly.v_ez, Ly.v_gN, Ly.v_gsN, Ly.v_gsC, Ly.k_gc, Ly.v_gT, Ly.v_gTw, Ly.v_gSb, Ly.k_gsb, Ly.k_gsb2, Ly.k_gsb3, Ly.k_en_rt, Ly.k_en_nx, Ly.k_tu_nx, Ly.k_tu_ct, Ly.k_tu_bk, Ly.k_tu_rt, Ly.v_lc, Ly.k_lc, Ly.v_augI, Ly.k_ag, Ly.k_ag2, Ly.k_ag3, Ly.k_ag4, Ly.k_ag5, Ly.v_del, Ly.k_dl, Ly.k_dl2, Ly.v_setd, Ly.v_pop2, Ly.k_d3, Ly.k_d32, Ly.k_d33, Ly.v_get1, Ly.k_g1, Ly.k_g12, Ly.v_rg1, Ly.k_rg, Ly.v_rg2, Ly.k_rg2, Ly.k_rg22, Ly.v_dicK, Ly.v_dicT, Ly.v_dc, Ly.k_dc, List.getElem?_cons_zero, List.getElem?_cons_succ, List.set_cons_zero, List.set_cons_succ, List.length_cons, List.length_nil, List.map_cons, List.map_nil, List.cons_append, List.nil_append, List.replicate, if_true, if_false, Bool.false_eq_true, Bool.not_true, Bool.not_false, Bool.true_and, Bool.false_and, decide_true, decide_false, decide_eq_true_eq, Nat.zero_add, Nat.reduceAdd, Nat.reduceLeDiff, true_and, and_true, $ls,*])
def d_ACT (fA : Nat → Addr) : List (Str × D) := [("+", (.cst (fA 0))), ("-", (.cst (fA 1))), ("*", (.cst (fA 2))), ("&", (.cst (fA 3))), ("|", (.cst (fA 4))), ("^", (.cst (fA 5))), ("<<", (.cst (fA 6))), (">>", (.cst (fA 7))), ("==", (.cst (fA 8))), ("<", (.cst (fA 9))), ("<=", (.cst (fA 10))), ("div", (.cst (fA 11))), ("mod", (.cst (fA 12)))]
noncomputable def tblF (fA : Nat → Addr) : List (Addr × MD) := [(fA 0, m_s0), (fA 1, m_s1), (fA 2, m_s2), (fA 3, m_s3), (fA 4, m_s4), (fA 5, m_s5), (fA 6, m_s6), (fA 7, m_s7), (fA 8, m_s8), (fA 9, m_s9), (fA 10, m_s10), (fA 11, m_s11), (fA 12, m_s12)]
noncomputable def b_applyF (fA : Nat → Addr) : MS := (mSeq (mSet 3 (mIxK (d_ACT fA) (mVar 0)))
    (mRet (mCalA (tblF fA) 3 (lCons (mVar 1) (lCons (mVar 2) lNil)))))
noncomputable def m_applyF (fA : Nat → Addr) : MD := mDef 3 1 (b_applyF fA)
def ActOk (fA : Nat → Addr) : Prop := ∀ i j, i < 13 → j < 13 → fA i = fA j → i = j
theorem v_calA {X : XP} {tbl : List (Addr × MD)} {i : Nat} {g : ML} {l : Ls} {S : Hs} {f : Addr} {md : MD} {Q : D → Hs → Prop} (h : l[i]? = some (some (.cst f))) (e : tbl.lookup f = some md) : Wp X (mCalA tbl i g l S) Q = Wp X (g l S) (fnK X md l Q) := by
  unfold mCalA
  simp only [h, e]
  rw [v_bind]; congr 1; funext ds S1; unfold bdK fnK; rw [v_at]
theorem applyF_ok {fA : Nat → Addr} (hA : ActOk fA) {S : Hs} {s : Str} {a b : Nat} (hs : s ∈ signsL) (ha : a < 4294967296) (hb : b < 4294967296) : Wp NoX (m_applyF fA [.str s, nD a, nD b] S) fun v S' => v = nD (opN s a b) ∧ S' = S := by
  refine wp_def0 rfl ?_
  unfold b_applyF
  have hne : ∀ i j, i < 13 → j < 13 → i ≠ j → (fA i == fA j) = false := fun i j hi hj hn => by simpa using fun e => hn (hA i j hi hj e)
  have lk : ∀ k, k < 13 → (tblF fA).lookup (fA k) = [m_s0, m_s1, m_s2, m_s3, m_s4, m_s5, m_s6, m_s7, m_s8, m_s9, m_s10, m_s11, m_s12][k]? := by
    intro k hk
    have hc : k = 0 ∨ k = 1 ∨ k = 2 ∨ k = 3 ∨ k = 4 ∨ k = 5 ∨ k = 6 ∨ k = 7 ∨ k = 8 ∨ k = 9 ∨ k = 10 ∨ k = 11 ∨ k = 12 := by omega
    have st : ∀ (i : Nat) (md : MD) (r : List (Addr × MD)), i < 13 → i ≠ k → ((fA i, md) :: r).lookup (fA k) = r.lookup (fA k) := fun i md r hi hn => by
      rw [List.lookup_cons, hne k i hk hi (fun e => hn e.symm)]
    have hit : ∀ (md : MD) (r : List (Addr × MD)), ((fA k, md) :: r).lookup (fA k) = some md := fun md r => by rw [List.lookup_cons, beq_self_eq_true]
    unfold tblF
    rcases hc with rfl | rfl | rfl | rfl | rfl | rfl | rfl | rfl | rfl | rfl | rfl | rfl | rfl
    all_goals repeat (first | exact hit _ _ | rw [st _ _ _ (by decide) (by decide)])
  simp only [signsL, List.mem_cons, List.not_mem_nil, or_false] at hs
  have fin : ∀ (k : Nat) (md : MD), k < 13 → (d_ACT fA).lookup s = some (.cst (fA k)) → [m_s0, m_s1, m_s2, m_s3, m_s4, m_s5, m_s6, m_s7, m_s8, m_s9, m_s10, m_s11, m_s12][k]? = some md →
      (Wp NoX (md [nD a, nD b] S) fun v S' => v = nD (opN s a b) ∧ S' = S) → Wp NoX (mSeq (mSet 3 (mIxK (d_ACT fA) (mVar 0))) (mRet (mCalA (tblF fA) 3 (lCons (mVar 1) (lCons (mVar 2) lNil)))) (List.map some [.str s, nD a, nD b] ++ List.replicate 1 none) S) (enK fun v S' => v = nD (opN s a b) ∧ S' = S) := by
    intro k md hk e1 e2 hW
    simp_arith [e1]
    rw [v_calA (f := fA k) (md := md) rfl ((lk k hk).trans e2)]
    simp_arith []
    exact hW
  rcases hs with rfl | rfl | rfl | rfl | rfl | rfl | rfl | rfl | rfl | rfl | rfl | rfl | rfl
  · exact fin 0 _ (by decide) (by simp [d_ACT, List.lookup, beq_lit]) rfl (s0_ok ha hb)
  · exact fin 1 _ (by decide) (by simp [d_ACT, List.lookup, beq_lit]) rfl (s1_ok ha hb)
  · exact fin 2 _ (by decide) (by simp [d_ACT, List.lookup, beq_lit]) rfl (s2_ok ha hb)
  · exact fin 3 _ (by decide) (by simp [d_ACT, List.lookup, beq_lit]) rfl (s3_ok ha hb)
  · exact fin 4 _ (by decide) (by simp [d_ACT, List.lookup, beq_lit]) rfl (s4_ok ha hb)
  · exact fin 5 _ (by decide) (by simp [d_ACT, List.lookup, beq_lit]) rfl (s5_ok ha hb)
  · exact fin 6 _ (by decide) (by simp [d_ACT, List.lookup, beq_lit]) rfl (s6_ok ha hb)
  · exact fin 7 _ (by decide) (by simp [d_ACT, List.lookup, beq_lit]) rfl (s7_ok ha hb)
  · exact fin 8 _ (by decide) (by simp [d_ACT, List.lookup, beq_lit]) rfl (s8_ok ha hb)
  · exact fin 9 _ (by decide) (by simp [d_ACT, List.lookup, beq_lit]) rfl (s9_ok ha hb)
  · exact fin 10 _ (by decide) (by simp [d_ACT, List.lookup, beq_lit]) rfl (s10_ok ha hb)
  · exact fin 11 _ (by decide) (by simp [d_ACT, List.lookup, beq_lit]) rfl (s11_ok ha hb)
  · exact fin 12 _ (by decide) (by simp [d_ACT, List.lookup, beq_lit]) rfl (s12_ok ha hb)
noncomputable def b_contents_ofM : MS := (mRet (mCall bTuple (lCons (mLc (mIt (mVar 0)) (cT [2, 3, 4]) mYes (mCall bTuple (lCons (mLc (mRng2 (lCons (mVar 2) (lCons (mBin oAdd (mVar 2) (mVar 3)) lNil))) (cN 5) mYes (mBin oIx (mVar 1) (mVar 5)) [5]) lNil)) [2, 3, 4]) lNil)))
noncomputable def m_contents_ofM : MD := mDef 2 4 b_contents_ofM
noncomputable def b_word_ofM (fA : Nat → Addr) : MS := (mSeq (mIfS (mCmp oEq (mBin oIx (mVar 0) (mC (.int 0))) (mC (.str "op"))) (mRet (mFn (m_applyF fA) (lCons (mBin oIx (mVar 0) (mC (.int 1))) (lCons (mBin oIx (mVar 1) (mBin oIx (mVar 0) (mC (.int 3)))) (lCons (mBin oIx (mVar 1) (mBin oIx (mVar 0) (mC (.int 4)))) lNil))))) mPass)
    (mSeq (mIfS (mCmp oEq (mBin oIx (mVar 0) (mC (.int 0))) (mC (.str "const"))) (mRet (mBin oIx (mVar 0) (mC (.int 2)))) mPass)
    (mRet (mIf (mCmp oNe (mBin oIx (mVar 1) (mBin oIx (mVar 0) (mC (.int 2)))) (mC (.int 0))) (mBin oIx (mVar 1) (mBin oIx (mVar 0) (mC (.int 3)))) (mBin oIx (mVar 1) (mBin oIx (mVar 0) (mC (.int 4))))))))
noncomputable def m_word_ofM (fA : Nat → Addr) : MD := mDef 2 0 (b_word_ofM fA)
inductive MRow where
  | const (d n : Nat) | op (s : Str) (d a b : Nat) | select (d c a b : Nat) | load (d a base mask : Nat) | store (a base mask v : Nat) | out (a : Nat) | jump (t : Nat) | branch (a t : Nat) | stop (a : Nat)
def MRow.D : MRow → D
  | .const d n => .tup [.str "const", nD d, nD n]
  | .op s d a b => .tup [.str "op", .str s, nD d, nD a, nD b]
  | .select d c a b => .tup [.str "select", nD d, nD c, nD a, nD b]
  | .load d a base mask => .tup [.str "load", nD d, nD a, nD base, nD mask]
  | .store a base mask v => .tup [.str "store", nD a, nD base, nD mask, nD v]
  | .out a => .tup [.str "out", nD a]
  | .jump t => .tup [.str "jump", nD t]
  | .branch a t => .tup [.str "branch", nD a, nD t]
  | .stop a => .tup [.str "stop", nD a]
def MRow.ok (many : Nat) : MRow → Prop
  | .const d n => d < 16 ∧ n < 4294967296
  | .op s d a b => s ∈ signsL ∧ d < 16 ∧ a < 16 ∧ b < 16
  | .select d c a b => d < 16 ∧ c < 16 ∧ a < 16 ∧ b < 16
  | .load d a base mask => d < 16 ∧ a < 16 ∧ base ≤ 1000000 ∧ mask < 4294967296
  | .store a base mask v => a < 16 ∧ base ≤ 1000000 ∧ mask < 4294967296 ∧ v < 16
  | .out a => a < 16
  | .jump t => t < many
  | .branch a t => a < 16 ∧ t < many
  | .stop a => a < 16
def MRow.last : MRow → Bool
  | .jump _ => true
  | .stop _ => true
  | _ => false
structure Rg where
  base : Nat
  size : Nat
  label : Str
def Rg.D (r : Rg) : D := .tup [nD r.base, nD r.size, .str r.label]
def Contig : Nat → List Rg → Prop
  | _, [] => True
  | b, r :: rs => r.base = b ∧ 0 < r.size ∧ Contig (b + r.size) rs
def sizes (rs : List Rg) : Nat := (rs.map (·.size)).sum
structure CodeOk (regs : List Rg) (rows : List MRow) : Prop where
  cg : Contig 0 regs
  small : sizes regs ≤ 5000000
  ok : ∀ r ∈ rows, r.ok rows.length
  ne : 0 < rows.length
  len : rows.length ≤ 100000
  fin : ∀ r, rows[rows.length - 1]? = some r → r.last = true
def contD (cs : List (List Nat)) : D := .tup (cs.map fun c => .tup (c.map nD))
structure ContOk (regs : List Rg) (cs : List (List Nat)) : Prop where
  len : cs.map (·.length) = regs.map (·.size)
  lt : ∀ c ∈ cs, ∀ w ∈ c, w < 4294967296
abbrev Mem := Nat → Option Nat
def Mem.get (f : Mem) (a : Nat) : Nat := (f a).getD 0
def Mem.put (f : Mem) (a v : Nat) : Mem := fun x => if x = a then some v else f x
def mem0 (cs : List (List Nat)) : Mem := fun a => cs.flatten[a]?
structure PS where
  held : List Nat
  mem : Mem
  outs : List Nat
  pc : Nat
def PS.h (s : PS) (a : Nat) : Nat := s.held.getD a 0
def MRow.addr (r : MRow) (h : Nat → Nat) : Nat := match r with
  | .load _ a base mask => base + (h a &&& mask)
  | .store a base mask _ => base + (h a &&& mask)
  | _ => 0
def MRow.word (r : MRow) (h : Nat → Nat) : Nat := match r with
  | .const _ n => n
  | .op s _ a b => opN s (h a) (h b)
  | .select _ c a b => if h c ≠ 0 then h a else h b
  | _ => 0
def PS.exec (s : PS) (r : MRow) : PS := match r with
  | .const d _ => { s with held := s.held.set d (r.word s.h), pc := s.pc + 1 }
  | .op _ d _ _ => { s with held := s.held.set d (r.word s.h), pc := s.pc + 1 }
  | .select d _ _ _ => { s with held := s.held.set d (r.word s.h), pc := s.pc + 1 }
  | .load d _ _ _ => { s with held := s.held.set d (s.mem.get (r.addr s.h)), pc := s.pc + 1 }
  | .store _ _ _ v => { s with mem := s.mem.put (r.addr s.h) (s.h v), pc := s.pc + 1 }
  | .out a => { s with outs := s.outs ++ [s.h a], pc := s.pc + 1 }
  | .jump t => { s with pc := t }
  | .branch a t => { s with pc := if s.h a ≠ 0 then t else s.pc + 1 }
  | .stop _ => s
def MRow.stops : MRow → Option Nat
  | .stop a => some a
  | _ => none
structure PSOk (many : Nat) (s : PS) : Prop where
  len : s.held.length = 16
  lt : ∀ w ∈ s.held, w < 4294967296
  mlt : ∀ a v, s.mem a = some v → v < 4294967296
  pc : s.pc < many
section
variable {s : PS} {r : MRow} {many : Nat} {rows : List MRow} {regs : List Rg}
theorem PSOk.h_lt (h : PSOk many s) (a : Nat) : s.h a < 4294967296 := by
  unfold PS.h
  by_cases hl : a < s.held.length
  · have : s.held.getD a 0 = s.held[a] := by simp [List.getD, List.getElem?_eq_getElem hl]
    rw [this]; exact h.lt _ (List.getElem_mem hl)
  · have : s.held.getD a 0 = 0 := by simp [List.getD, List.getElem?_eq_none (Nat.le_of_not_lt hl)]
    rw [this]; omega
theorem PSOk.word_lt (h : PSOk many s) (hr : r.ok many) : r.word s.h < 4294967296 := by
  cases r with
  | const d n => exact hr.2
  | op z d a b => exact opN_lt (h.h_lt a) (h.h_lt b)
  | select d c a b =>
    show (if s.h c ≠ 0 then s.h a else s.h b) < _
    split
    · exact h.h_lt a
    · exact h.h_lt b
  | _ => show (0 : Nat) < _; omega
theorem PSOk.get_lt (h : PSOk many s) (a : Nat) : s.mem.get a < 4294967296 := by
  unfold Mem.get
  cases e : s.mem a with
  | none => simp
  | some v => simp; exact h.mlt a v e
theorem PSOk.set (h : PSOk many s) {d w pc : Nat} (hw : w < 4294967296) (hp : pc < many) : PSOk many { s with held := s.held.set d w, pc := pc } :=
  ⟨by simp [h.len], fun x hx => by rcases List.mem_or_eq_of_mem_set hx with h1 | h1; exact h.lt x h1; omega, h.mlt, hp⟩
theorem PSOk.exec (h : PSOk many s) (hr : r.ok many) (hl : r.last = false → s.pc + 1 < many) : PSOk many (s.exec r) := by
  cases r with
  | const d n => exact h.set (h.word_lt hr) (hl rfl)
  | op z d a b => exact h.set (h.word_lt hr) (hl rfl)
  | select d c a b => exact h.set (h.word_lt hr) (hl rfl)
  | load d a base mask => exact h.set (h.get_lt _) (hl rfl)
  | store a base mask v =>
    refine ⟨h.len, h.lt, fun x y e => ?_, hl rfl⟩
    simp only [PS.exec, Mem.put] at e
    split at e
    · cases e; exact h.h_lt v
    · exact h.mlt x y e
  | out a => exact ⟨h.len, h.lt, h.mlt, hl rfl⟩
  | jump t => exact ⟨h.len, h.lt, h.mlt, hr⟩
  | branch a t =>
    refine ⟨h.len, h.lt, h.mlt, ?_⟩
    show (if s.h a ≠ 0 then t else s.pc + 1) < many
    split
    · exact hr.2
    · exact hl rfl
  | stop a => exact h
theorem CodeOk.row (c : CodeOk regs rows) {pc : Nat} (h : pc < rows.length) : rows[pc]? = some (rows.getD pc (.stop 0)) ∧ (rows.getD pc (.stop 0)).ok rows.length ∧ ((rows.getD pc (.stop 0)).last = false → pc + 1 < rows.length) := by
  have e : rows[pc]? = some (rows.getD pc (.stop 0)) := by simp [List.getD, List.getElem?_eq_getElem h]
  refine ⟨e, c.ok _ (List.mem_of_getElem? e), fun hl => ?_⟩
  apply Classical.byContradiction
  intro hc
  have : pc = rows.length - 1 := by omega
  subst this
  rw [c.fin _ e] at hl; cases hl
end
theorem getK_setK {kvs : List (Key × D)} {k k' : Key} {v : D} : getK (setK kvs k v) k' = if k' = k then some v else getK kvs k' := by
  unfold setK
  split
  · rename_i h
    induction kvs with
    | nil => simp at h
    | cons x kvs ih =>
      unfold getK at ih ⊢
      simp only [List.map_cons, List.find?_cons]
      by_cases hx : x.1 = k
      · rw [if_pos hx]
        by_cases hk : k' = k
        · have : decide (x.1 = k') = true := by simp [hx, hk]
          simp only [this, if_pos hk]; rfl
        · have h1 : decide (x.1 = k') = false := by simp [hx]; exact fun e => hk e.symm
          simp only [h1, if_neg hk]
          by_cases ha : (kvs.any fun kv => decide (kv.1 = k)) = true
          · have := ih ha
            rw [if_neg hk] at this; exact this
          · have e : kvs.map (fun kv => if kv.1 = k then (kv.1, v) else kv) = kvs := by
              have : ∀ kv ∈ kvs, ¬ kv.1 = k := fun kv hm e => ha (List.any_eq_true.mpr ⟨kv, hm, by simp [e]⟩)
              conv => rhs; rw [← List.map_id kvs]
              exact List.map_congr_left fun kv hm => by rw [if_neg (this kv hm)]; rfl
            rw [e]
      · rw [if_neg hx]
        have ha : (kvs.any fun kv => decide (kv.1 = k)) = true := by
          simp only [List.any_cons, Bool.or_eq_true, decide_eq_true_eq] at h
          exact h.resolve_left hx
        by_cases hk' : x.1 = k'
        · have : decide (x.1 = k') = true := by simp [hk']
          have hkk : ¬ k' = k := fun e => hx (hk'.trans e)
          simp only [this, if_neg hkk]
        · have : decide (x.1 = k') = false := by simp [hk']
          simp only [this]
          exact ih ha
  · rename_i h
    unfold getK
    rw [List.find?_append]
    by_cases hk : k' = k
    · rw [if_pos hk]
      have : kvs.find? (fun kv => decide (kv.1 = k')) = none := by
        rw [List.find?_eq_none]
        intro x hx e
        refine h (List.any_eq_true.mpr ⟨x, hx, ?_⟩)
        rw [← hk]; exact e
      rw [this]; simp [hk]
    · rw [if_neg hk]
      have : decide (k = k') = false := by simp; exact fun e => hk e.symm
      simp [this]
theorem setK_len {kvs : List (Key × D)} {k : Key} {v : D} : (setK kvs k v).length ≤ kvs.length + 1 := by
  unfold setK; split <;> simp
structure MemAt (S : Hs) (q : Nat) (f : Mem) (N : Nat) : Prop where
  ex : ∃ kvs : List (Key × D), S[q]? = some (.dic kvs) ∧ kvs.length ≤ N ∧ ∀ a : Nat, getK kvs (.inl (a : Int)) = (f a).map nD
section
variable {S S' : Hs} {q N : Nat} {f : Mem} {B : List Nat}
theorem MemAt.kp (h : MemAt S q f N) (k : Kp B S S') (hq : q ∉ B) : MemAt S' q f N := by
  obtain ⟨kvs, h1, h2⟩ := h.ex; exact ⟨kvs, k.get h1 hq, h2⟩
theorem MemAt.lt (h : MemAt S q f N) : q < S.length := by obtain ⟨kvs, h1, _⟩ := h.ex; exact Real.lt h1
theorem MemAt.put (h : MemAt S q f N) (hN : N ≤ 10000000) (a v : Nat) : ∃ o, oSet (.ref q) (nD a) (nD v) S = .ok () (S.set q o) ∧ MemAt (S.set q o) q (f.put a v) (N + 1) := by
  obtain ⟨kvs, h1, h2, h3⟩ := h.ex
  refine ⟨.dic (setK kvs (.inl (a : Int)) (nD v)), oSet_dic h1 key_int (Nat.lt_of_le_of_lt (Nat.le_trans h2 hN) (by decide)), ⟨_, get_put h1, Nat.le_trans setK_len (by omega), fun x => ?_⟩⟩
  rw [getK_setK, h3]
  unfold Mem.put
  by_cases hx : x = a
  · subst hx; simp
  · have : ¬ ((.inl (x : Int) : Key) = .inl (a : Int)) := by intro e; have := Sum.inl.inj e; omega
    rw [if_neg this, if_neg hx]
theorem MemAt.dget (h : MemAt S q f N) (a : Nat) : dGet (.ref q) (nD a) S = some ((f a).map nD) := by
  obtain ⟨kvs, h1, h2, h3⟩ := h.ex
  rw [dGet_dic h1 key_int, h3]
theorem MemAt.ix (h : MemAt S q f N) {a v : Nat} (ha : f a = some v) : oIx (.ref q) (nD a) S = .ok (nD v) S := by
  obtain ⟨kvs, h1, h2, h3⟩ := h.ex
  exact oIx_dic h1 key_int (by rw [h3, ha]; rfl)
theorem MemAt.ty (h : MemAt S q f N) : hasTy "dict" (.ref q) S = true := by
  obtain ⟨kvs, h1, h2, h3⟩ := h.ex
  simp [hasTy, h1]
end
def rgWords (f : Mem) (r : Rg) : List Nat := (List.range r.size).map fun j => f.get (r.base + j)
def endsD (f : Mem) (regs : List Rg) : D := .tup (regs.map fun r => .tup ((rgWords f r).map nD))
theorem contig_bound : ∀ {regs : List Rg} {b : Nat}, Contig b regs → ∀ r ∈ regs, b ≤ r.base ∧ r.base + r.size ≤ b + sizes regs
  | [], _, _, r, hr => by simp at hr
  | x :: xs, b, h, r, hr => by
    obtain ⟨h1, h2, h3⟩ := h
    have e : sizes (x :: xs) = x.size + sizes xs := by simp [sizes]
    rcases List.mem_cons.mp hr with rfl | hr
    · omega
    · have := contig_bound h3 r hr; omega
section
variable {S : Hs} {q N : Nat} {f : Mem} {regs : List Rg}
theorem contents_ok (hm : MemAt S q f N) (hc : Contig 0 regs) (hs : sizes regs ≤ 5000000) (hl : regs.length ≤ 100000) (hd : ∀ a, a < sizes regs → (f a).isSome = true) : Wp NoX (m_contents_ofM [.tup (regs.map Rg.D), .ref q] S) fun v S' => v = endsD f regs ∧ Kp [] S S' := by
  refine wp_def0 rfl ?_
  unfold b_contents_ofM
  have hql := hm.lt
  simp_arith [Ly.v_fld, Ly.v_meth, Ly.k_me2, Ly.v_make, Ly.k_mk, Ly.v_fldset, Ly.k_fs, Ly.v_fldaug, Ly.k_fa2, Ly.look1, List.mem_cons, List.not_mem_nil, or_false, true_or, or_true, oIt, wipe1]
  refine wp_lcTupM Rg.D (xs := regs) (fun pre acc S' => acc = (pre.map fun r => .tup ((rgWords f r).map nD)) ∧ S'[S.length]? = some (.lst acc) ∧ Kp [] S S') ⟨rfl, by simp, Kp.new⟩ ?_ ?_
  · rintro pre r post acc S' hsp ⟨rfl, hq, hK⟩
    have hr : r ∈ regs := by rw [hsp]; simp
    have hb := contig_bound hc r hr
    refine ⟨[some (.tup (regs.map Rg.D)), some (.ref q), some (nD r.base), some (nD r.size), some (.str r.label), none], rfl, ?_⟩
    have eb : (r.base : Int) + (r.size : Int) = ((r.base + r.size : Nat) : Int) := by omega
    have eb2 : ((((r.base + r.size : Nat) : Int) - (r.base : Int))).toNat = r.size := by omega
    simp_arith [Ly.v_fld, Ly.v_meth, Ly.k_me2, Ly.v_make, Ly.k_mk, Ly.v_fldset, Ly.k_fs, Ly.v_fldaug, Ly.k_fa2, Ly.look1, List.mem_cons, List.not_mem_nil, or_false, true_or, or_true, oAdd_int, eb, rng2 (a := (r.base : Int)) (b := ((r.base + r.size : Nat) : Int)) S' (by omega) (by omega) (by omega) (by omega), eb2, wipe1]
    refine wp_lcRng (fun k acc2 S'' => acc2 = (((List.range k).map fun j => f.get (r.base + j)).map nD) ∧ S''[S'.length]? = some (.lst acc2) ∧ Kp [] S' S'') ?_ ?_ ?_
    · exact ⟨rfl, by simp, Kp.new⟩
    · rintro k acc2 S'' hk ⟨rfl, hq2, hK2⟩
      refine ⟨_, rfl, ?_⟩
      have hm2 := (hm.kp hK (by simp)).kp hK2 (by simp)
      obtain ⟨w, hw⟩ := Option.isSome_iff_exists.mp (hd (r.base + k) (by omega))
      have ea : (r.base : Int) + (k : Int) = ((r.base + k : Nat) : Int) := by omega
      simp_arith [Ly.v_fld, Ly.v_meth, Ly.k_me2, Ly.v_make, Ly.k_mk, Ly.v_fldset, Ly.k_fs, Ly.v_fldaug, Ly.k_fa2, Ly.look1, List.mem_cons, List.not_mem_nil, or_false, true_or, or_true, ea, hm2.ix hw]
      refine ⟨hq2, by simp only [List.length_map, List.length_range]; exact Nat.lt_of_le_of_lt (show k ≤ 5000000 by omega) (by decide), ?_, get_put hq2, hK2.setNew (Nat.le_refl _)⟩
      simp [List.range_succ, Mem.get, hw]
    · rintro acc2 S'' ⟨rfl, hq2, hK2⟩
      simp_arith [Ly.v_fld, Ly.v_meth, Ly.k_me2, Ly.v_make, Ly.k_mk, Ly.v_fldset, Ly.k_fs, Ly.v_fldaug, Ly.k_fa2, Ly.look1, List.mem_cons, List.not_mem_nil, or_false, true_or, or_true, bTuple_lst hq2]
      have hq3 := hK2.get hq (by simp)
      exact ⟨hq3, by simp only [List.length_map]; have : pre.length ≤ regs.length := by rw [hsp]; simp
                     exact line_big (by omega), by simp [rgWords], get_put hq3, (hK.trans hK2).setNew (Nat.le_refl _)⟩
  · rintro acc S' ⟨rfl, hq, hK⟩
    simp_arith [Ly.v_fld, Ly.v_meth, Ly.k_me2, Ly.v_make, Ly.k_mk, Ly.v_fldset, Ly.k_fs, Ly.v_fldaug, Ly.k_fa2, Ly.look1, List.mem_cons, List.not_mem_nil, or_false, true_or, or_true, bTuple_lst hq]
    exact ⟨rfl, hK⟩
end
theorem mx4 {xs : List D} {d e f g h : D} {S : Hs} : oIx (.tup (d :: e :: f :: g :: h :: xs)) (.int 4) S = .ok h S := by
  have : (4 : Int) < ((d :: e :: f :: g :: h :: xs).length : Int) := by simp only [List.length_cons]; omega
  simp only [oIx, L2.atI, L2.ixN]; rw [if_pos (by decide), if_pos this]; rfl
theorem held_ix {S : Hs} {q : Nat} {s : PS} {many a : Nat} (h : S[q]? = some (.lst (s.held.map nD))) (ok : PSOk many s) (ha : a < 16) : oIx (.ref q) (nD a) S = .ok (nD (s.h a)) S := by
  have hl : a < s.held.length := by rw [ok.len]; exact ha
  exact oIx_lst h (by omega) (by simpa using hl) (by simp [List.getElem?_eq_getElem hl, PS.h, List.getD])
section
variable {S : Hs} {q many : Nat} {s : PS} {r : MRow} {fA : Nat → Addr}
def MRow.isWord : MRow → Bool
  | .const _ _ => true
  | .op _ _ _ _ => true
  | .select _ _ _ _ => true
  | _ => false
def MRow.wr : MRow → Nat
  | .const d _ => d
  | .op _ d _ _ => d
  | .select d _ _ _ => d
  | .load d _ _ _ => d
  | _ => 0
theorem word_ok (hA : ActOk fA) (h : S[q]? = some (.lst (s.held.map nD))) (ok : PSOk many s) (hr : r.ok many) (hm : r.isWord = true) : Wp NoX (m_word_ofM fA [r.D, .ref q] S) fun v S' => v = nD (r.word s.h) ∧ S' = S := by
  refine wp_def0 rfl ?_
  unfold b_word_ofM
  cases r with
  | const d n =>
    simp_arith [Ly.v_fld, Ly.v_meth, Ly.k_me2, Ly.v_make, Ly.k_mk, Ly.v_fldset, Ly.k_fs, Ly.v_fldaug, Ly.k_fa2, Ly.look1, List.mem_cons, List.not_mem_nil, or_false, true_or, or_true, MRow.D, tix0, tix2, oEq_str, ofString_inj, String.reduceEq]
    rfl
  | op z d a b =>
    obtain ⟨h1, h2, h3, h4⟩ := hr
    simp_arith [Ly.v_fld, Ly.v_meth, Ly.k_me2, Ly.v_make, Ly.k_mk, Ly.v_fldset, Ly.k_fs, Ly.v_fldaug, Ly.k_fa2, Ly.look1, List.mem_cons, List.not_mem_nil, or_false, true_or, or_true, MRow.D, tix0, tix1, tix3, mx4, oEq_str, held_ix h ok h3, held_ix h ok h4]
    refine Wp.call (applyF_ok hA h1 (ok.h_lt a) (ok.h_lt b)) ?_
    rintro _ S ⟨rfl, rfl⟩
    simp_arith [Ly.v_fld, Ly.v_meth, Ly.k_me2, Ly.v_make, Ly.k_mk, Ly.v_fldset, Ly.k_fs, Ly.v_fldaug, Ly.k_fa2, Ly.look1, List.mem_cons, List.not_mem_nil, or_false, true_or, or_true]
    rfl
  | select d c a b =>
    obtain ⟨h1, h2, h3, h4⟩ := hr
    by_cases hc : s.h c = 0
    · have hci : ((s.h c : Nat) : Int) = 0 := by omega
      simp_arith [Ly.v_fld, Ly.v_meth, Ly.k_me2, Ly.v_make, Ly.k_mk, Ly.v_fldset, Ly.k_fs, Ly.v_fldaug, Ly.k_fa2, Ly.look1, List.mem_cons, List.not_mem_nil, or_false, true_or, or_true, MRow.D, tix0, tix2, tix3, mx4, oEq_str, ofString_inj, String.reduceEq, held_ix h ok h2, oNe_int, hci, held_ix h ok h4]
      simp [MRow.word, hc]
    · have hci : ¬ ((s.h c : Nat) : Int) = 0 := by omega
      simp_arith [Ly.v_fld, Ly.v_meth, Ly.k_me2, Ly.v_make, Ly.k_mk, Ly.v_fldset, Ly.k_fs, Ly.v_fldaug, Ly.k_fa2, Ly.look1, List.mem_cons, List.not_mem_nil, or_false, true_or, or_true, MRow.D, tix0, tix2, tix3, mx4, oEq_str, ofString_inj, String.reduceEq, held_ix h ok h2, oNe_int, hci, held_ix h ok h3]
      simp [MRow.word, hc]
  | _ => cases hm
end
theorem k_g23m {S : Hs} {q N a : Nat} {f : Mem} {Q : D → Hs → Prop} (h : MemAt S q f N) : g2K3 (.ref q) (nD a) Q (.int 0) S = Q (nD (f.get a)) S := by
  rw [k_g23, h.dget a]
  unfold Mem.get
  cases f a <;> rfl
theorem mrep_ok {S : Hs} {q n : Nat} {d : D} (h : S[q]? = some (.lst [d])) (hn : n ≤ 100000) : oMul (.ref q) (nD n) S = .ok (.ref S.length) (S ++ [.lst (List.replicate n d)]) := by
  have h1 : -(2 ^ 63) ≤ (n : Int) ∧ (n : Int) < 2 ^ 63 ∧ [d].length * (n : Int).toNat ≤ sizeLine := by
    refine ⟨by omega, by omega, ?_⟩
    simp only [List.length_cons, List.length_nil, Int.toNat_natCast]
    exact Nat.le_of_lt (line_big (by omega))
  simp only [oMul, h]
  rw [if_pos h1]
  simp [List.flatten_replicate_singleton]
theorem ContOk.flat {cs : List (List Nat)} {regs : List Rg} (hc : ContOk regs cs) : cs.flatten.length = sizes regs := by
  rw [List.length_flatten, hc.len]; rfl
theorem ContOk.dom {cs : List (List Nat)} {regs : List Rg} (hc : ContOk regs cs) : ∀ a, a < sizes regs → (mem0 cs a).isSome = true := fun a ha => by
  unfold mem0; rw [List.getElem?_eq_getElem (by rw [hc.flat]; exact ha)]; rfl
structure Run (many : Nat) (regs : List Rg) (qm qh qo N k : Nat) (s : PS) (S : Hs) : Prop where
  ok : PSOk many s
  mem : MemAt S qm s.mem (N + k)
  held : S[qh]? = some (.lst (s.held.map nD))
  outs : S[qo]? = some (.lst (s.outs.map nD))
  short : s.outs.length ≤ k
  dom : ∀ a, a < sizes regs → (s.mem a).isSome = true
section
variable {S S' : Hs} {many qm qh qo N k : Nat} {s : PS} {r : MRow} {fA : Nat → Addr} {regs : List Rg} {rows : List MRow} {cs : List (List Nat)}
theorem Run.kp {B : List Nat} (h : Run many regs qm qh qo N k s S) (hk : Kp B S S') (b1 : qm ∉ B) (b2 : qh ∉ B) (b3 : qo ∉ B) : Run many regs qm qh qo N k s S' :=
  ⟨h.ok, h.mem.kp hk b1, hk.get h.held b2, hk.get h.outs b3, h.short, h.dom⟩
theorem MemAt.more {f : Mem} {M : Nat} (h : MemAt S qm f N) (hn : N ≤ M) : MemAt S qm f M := by
  obtain ⟨kvs, h1, h2, h3⟩ := h.ex; exact ⟨kvs, h1, by omega, h3⟩
theorem MemAt.set {f : Mem} {o : O} (h : MemAt S qm f N) (hn : qm ≠ qh) : MemAt (S.set qh o) qm f N :=
  h.kp (B := [qh]) (Kp.set (by simp)) (by simpa using hn)
theorem get_set_ne {o o' : O} {i j : Nat} (h : S[i]? = some o) (hn : i ≠ j) : (S.set j o')[i]? = some o := by
  rw [List.getElem?_set_ne (fun e => hn e.symm)]; exact h
theorem Run.reg (h : Run many regs qm qh qo N k s S) (hd1 : qm ≠ qh) (hd2 : qo ≠ qh) {d w pc : Nat} (hw : w < 4294967296) (hp : pc < many) :
    Run many regs qm qh qo N (k + 1) { s with held := s.held.set d w, pc := pc } (S.set qh (.lst ((s.held.set d w).map nD))) :=
  ⟨h.ok.set hw hp, (h.mem.more (by omega)).set hd1, get_put h.held, get_set_ne h.outs hd2, by have := h.short; show s.outs.length ≤ k + 1; omega, h.dom⟩
theorem Run.pc (h : Run many regs qm qh qo N k s S) {pc : Nat} (hp : pc < many) : Run many regs qm qh qo N (k + 1) { s with pc := pc } S :=
  ⟨⟨h.ok.len, h.ok.lt, h.ok.mlt, hp⟩, h.mem.more (by omega), h.held, h.outs, by have := h.short; show s.outs.length ≤ k + 1; omega, h.dom⟩
theorem Run.out (h : Run many regs qm qh qo N k s S) (hd1 : qm ≠ qo) (hd2 : qh ≠ qo) {w pc : Nat} (hp : pc < many) :
    Run many regs qm qh qo N (k + 1) { s with outs := s.outs ++ [w], pc := pc } (S.set qo (.lst (s.outs.map nD ++ [nD w]))) :=
  ⟨⟨h.ok.len, h.ok.lt, h.ok.mlt, hp⟩, (h.mem.more (by omega)).set hd1, get_set_ne h.held hd2, by rw [get_put h.outs]; simp, by have := h.short; simp; omega, h.dom⟩
theorem Run.put (h : Run many regs qm qh qo N k s S) (hN : N + k ≤ 10000000) (hd1 : qh ≠ qm) (hd2 : qo ≠ qm) {a w pc : Nat} (hw : w < 4294967296) (hp : pc < many) :
    ∃ o, oSet (.ref qm) (nD a) (nD w) S = .ok () (S.set qm o) ∧ Run many regs qm qh qo N (k + 1) { s with mem := s.mem.put a w, pc := pc } (S.set qm o) := by
  obtain ⟨o, h1, h2⟩ := h.mem.put hN a w
  refine ⟨o, h1, ⟨⟨h.ok.len, h.ok.lt, fun x y e => ?_, hp⟩, h2.more (by omega), get_set_ne h.held hd1, get_set_ne h.outs hd2, by have := h.short; show s.outs.length ≤ k + 1; omega, fun x hx => ?_⟩⟩
  · simp only [Mem.put] at e
    split at e
    · cases e; exact hw
    · exact h.ok.mlt x y e
  · show (s.mem.put a w x).isSome = true
    unfold Mem.put
    split
    · rfl
    · exact h.dom x hx
end
end Ly
set_option Elab.async false
set_option linter.all false
set_option maxRecDepth 100000
namespace Ly
open PySem PySem.Spec L2
open PyProof.Rows hiding St
local macro_rules | `(tactic| simp_arith [$ls,*]) => `(tactic| simp only [Ly.line_le, Ly.atX_no, Ly.v_ok, Ly.v_bad, Ly.v_bind, Ly.k_bd, Ly.v_at, Ly.v_bin, Ly.k_bi, Ly.k_bi2, Ly.v_var, Ly.v_c, Ly.v_un, Ly.k_un, Ly.v_if, Ly.k_ife, Ly.v_and, Ly.k_and, Ly.k_and2, Ly.v_or, Ly.k_or, Ly.k_or2, Ly.v_tup, Ly.k_tup, Ly.v_lst, Ly.k_lst, Ly.v_call, Ly.k_ca, Ly.v_fn, Ly.k_fn, Ly.v_bm, Ly.k_bm, Ly.k_bm2, Ly.v_sl, Ly.k_sl, Ly.k_sl2, Ly.k_sl3, Ly.v_ixK, Ly.k_ixk, Ly.v_inK, Ly.k_ink, Ly.v_notinK, Ly.k_nink, Ly.v_getK2, Ly.k_gk2, Ly.k_gk, Ly.v_get2, Ly.k_g2, Ly.k_g22, Ly.k_g23, Ly.v_nil, Ly.v_cons, Ly.k_co, Ly.k_co2, Ly.v_no, Ly.v_some, Ly.k_so, Ly.k_cm, Ly.v_cmp, Ly.v_tru, Ly.k_tr, Ly.v_notB, Ly.k_no, Ly.v_andB, Ly.k_an, Ly.v_orB, Ly.k_orb, Ly.v_yes, Ly.v_inKB, Ly.k_inkB, Ly.v_notinKB, Ly.k_ninkB, Ly.v_set, Ly.k_st, Ly.v_expr, Ly.k_ex, Ly.v_ret, Ly.k_re, Ly.v_retN, Ly.v_pass, Ly.v_brk, Ly.v_cnt, Ly.v_seq, Ly.k_sq_nx, Ly.k_sq_rt, Ly.k_sq_bk, Ly.k_sq_ct, Ly.v_ifS, Ly.k_ifs, Ly.v_asg, Ly.k_as, Ly.k_as2, Ly.v_aug, Ly.k_au, Ly.v_for, Ly.k_fo, Ly.v_it, Ly.k_it, Ly.k_ij, Ly.v_rng1, Ly.v_rng2, Ly.v_enum, Ly.v_zip, Ly.v_ez, Ly.v_gN, Ly.v_gsN, Ly.v_gsC, Ly.k_gc, Ly.v_gT, Ly.v_gTw, Ly.v_gSb, Ly.k_gsb, Ly.k_gsb2, Ly.k_gsb3, Ly.k_en_rt, Ly.k_en_nx, Ly.k_tu_nx, Ly.k_tu_ct, Ly.k_tu_bk, Ly.k_tu_rt, Ly.v_lc, Ly.k_lc, Ly.v_augI, Ly.k_ag, Ly.k_ag2, Ly.k_ag3, Ly.k_ag4, Ly.k_ag5, Ly.v_del, Ly.k_dl, Ly.k_dl2, Ly.v_setd, Ly.v_pop2, Ly.k_d3, Ly.k_d32, Ly.k_d33, Ly.v_get1, Ly.k_g1, Ly.k_g12, Ly.v_rg1, Ly.k_rg, Ly.v_rg2, Ly.k_rg2, Ly.k_rg22, Ly.v_dicK, Ly.v_dicT, Ly.v_dc, Ly.k_dc, List.getElem?_cons_zero, List.getElem?_cons_succ, List.set_cons_zero, List.set_cons_succ, List.length_cons, List.length_nil, List.map_cons, List.map_nil, List.cons_append, List.nil_append, List.replicate, if_true, if_false, Bool.false_eq_true, Bool.not_true, Bool.not_false, Bool.true_and, Bool.false_and, decide_true, decide_false, decide_eq_true_eq, Nat.zero_add, Nat.reduceAdd, Nat.reduceLeDiff, true_and, and_true, $ls,*])
section
variable {X : XP} {S : Hs} {i j : Nat}
theorem nx {many : Int} {Q : D → Hs → Prop} (d : DrwN S i j) (hm : 0 < many) (h : ∀ (x : Nat) S', (x : Int) < many → DrwN S' i j → Kp [i] S S' → S'.length = S.length → Q (nD x) S') : Wp X (m_nextD [.ref i, .int many] S) Q := by
  refine Wp.call (nextD_ok d hm) ?_
  rintro _ S' ⟨x, rfl, h1, h2, h3, h4⟩
  exact h x S' h1 h2 h3 h4
structure CodeN (regs : List Rg) (rows : List MRow) : Prop where
  ok : CodeOk regs rows
  sz : sizes regs ≤ 150
  pos : 0 < regs.length
  few : regs.length ≤ 4
  short : rows.length ≤ 60
end
theorem disp_endG {ps : List (D × D)} {kvs : List (Key × D)} {Q : D → Hs → Prop} {S : Hs} {q : Nat} (h0 : S[q]? = some (.dic [])) (h1 : keysP ps = some kvs) (h2 : kvs.length ≤ 15) (h3 : mergeD [] kvs = kvs) (hQ : Q (.ref q) (S.set q (.dic kvs))) : dsK q Q ps S := by
  refine ⟨kvs, h1, h0, h2, ?_⟩
  rw [h3]; exact hQ
section
variable {S : Hs} {a b : Nat}
end
end Ly
set_option Elab.async false
set_option linter.all false
set_option maxRecDepth 100000
namespace Ly
open PySem PySem.Spec L2
open PyProof.Rows hiding St
local macro_rules | `(tactic| simp_arith [$ls,*]) => `(tactic| simp only [Ly.line_le, Ly.atX_no, Ly.v_ok, Ly.v_bad, Ly.v_bind, Ly.k_bd, Ly.v_at, Ly.v_bin, Ly.k_bi, Ly.k_bi2, Ly.v_var, Ly.v_c, Ly.v_un, Ly.k_un, Ly.v_if, Ly.k_ife, Ly.v_and, Ly.k_and, Ly.k_and2, Ly.v_or, Ly.k_or, Ly.k_or2, Ly.v_tup, Ly.k_tup, Ly.v_lst, Ly.k_lst, Ly.v_call, Ly.k_ca, Ly.v_fn, Ly.k_fn, Ly.v_bm, Ly.k_bm, Ly.k_bm2, Ly.v_sl, Ly.k_sl, Ly.k_sl2, Ly.k_sl3, Ly.v_ixK, Ly.k_ixk, Ly.v_inK, Ly.k_ink, Ly.v_notinK, Ly.k_nink, Ly.v_getK2, Ly.k_gk2, Ly.k_gk, Ly.v_get2, Ly.k_g2, Ly.k_g22, Ly.k_g23, Ly.v_nil, Ly.v_cons, Ly.k_co, Ly.k_co2, Ly.v_no, Ly.v_some, Ly.k_so, Ly.k_cm, Ly.v_cmp, Ly.v_tru, Ly.k_tr, Ly.v_notB, Ly.k_no, Ly.v_andB, Ly.k_an, Ly.v_orB, Ly.k_orb, Ly.v_yes, Ly.v_inKB, Ly.k_inkB, Ly.v_notinKB, Ly.k_ninkB, Ly.v_set, Ly.k_st, Ly.v_expr, Ly.k_ex, Ly.v_ret, Ly.k_re, Ly.v_retN, Ly.v_pass, Ly.v_brk, Ly.v_cnt, Ly.v_seq, Ly.k_sq_nx, Ly.k_sq_rt, Ly.k_sq_bk, Ly.k_sq_ct, Ly.v_ifS, Ly.k_ifs, Ly.v_asg, Ly.k_as, Ly.k_as2, Ly.v_aug, Ly.k_au, Ly.v_for, Ly.k_fo, Ly.v_it, Ly.k_it, Ly.k_ij, Ly.v_rng1, Ly.v_rng2, Ly.v_enum, Ly.v_zip, Ly.v_ez, Ly.v_gN, Ly.v_gsN, Ly.v_gsC, Ly.k_gc, Ly.v_gT, Ly.v_gTw, Ly.v_gSb, Ly.k_gsb, Ly.k_gsb2, Ly.k_gsb3, Ly.k_en_rt, Ly.k_en_nx, Ly.k_tu_nx, Ly.k_tu_ct, Ly.k_tu_bk, Ly.k_tu_rt, Ly.v_lc, Ly.k_lc, Ly.v_augI, Ly.k_ag, Ly.k_ag2, Ly.k_ag3, Ly.k_ag4, Ly.k_ag5, Ly.v_del, Ly.k_dl, Ly.k_dl2, Ly.v_setd, Ly.v_pop2, Ly.k_d3, Ly.k_d32, Ly.k_d33, Ly.v_get1, Ly.k_g1, Ly.k_g12, Ly.v_rg1, Ly.k_rg, Ly.v_rg2, Ly.k_rg2, Ly.k_rg22, Ly.v_dicK, Ly.v_dicT, Ly.v_dc, Ly.k_dc, List.getElem?_cons_zero, List.getElem?_cons_succ, List.set_cons_zero, List.set_cons_succ, List.length_cons, List.length_nil, List.map_cons, List.map_nil, List.cons_append, List.nil_append, List.replicate, if_true, if_false, Bool.false_eq_true, Bool.not_true, Bool.not_false, Bool.true_and, Bool.false_and, decide_true, decide_false, decide_eq_true_eq, Nat.zero_add, Nat.reduceAdd, Nat.reduceLeDiff, true_and, and_true, $ls,*])
theorem contig_base : ∀ {regs : List Rg} {b k : Nat} {r : Rg}, Contig b regs → regs[k]? = some r → r.base = b + sizes (regs.take k)
  | [], _, _, _, _, h => by simp at h
  | x :: xs, b, 0, r, ⟨h1, _, _⟩, h => by simp at h; subst h; simp [sizes, h1]
  | x :: xs, b, k + 1, r, ⟨h1, h2, h3⟩, h => by
    rw [contig_base h3 (by simpa using h)]; simp [sizes]; omega
theorem flat_at {cs : List (List Nat)} {c : List Nat} {k j : Nat} (h : cs[k]? = some c) (hj : j < c.length) : cs.flatten[(cs.take k).flatten.length + j]? = c[j]? := by
  have e := split_at h
  conv => lhs; rw [e]
  rw [List.flatten_append, List.flatten_cons]
  have e2 : (List.take k cs ++ c :: List.drop (k + 1) cs).take k = List.take k cs := by rw [← e]
  rw [List.getElem?_append_right (by simp [← e])]
  rw [← e, Nat.add_sub_cancel_left, List.getElem?_append_left hj]
section
variable {S S' : Hs} {regs : List Rg} {rows : List MRow} {cs : List (List Nat)}
theorem ContOk.at (hc : ContOk regs cs) (cg : Contig 0 regs) {k j : Nat} {r : Rg} (hr : regs[k]? = some r) (hj : j < r.size) : ∃ c w, cs[k]? = some c ∧ c.length = r.size ∧ c[j]? = some w ∧ mem0 cs (r.base + j) = some w := by
  have hl := congrArg (fun l => l[k]?) hc.len
  simp only [List.getElem?_map, hr, Option.map_some] at hl
  obtain ⟨c, hck, hcl⟩ := Option.map_eq_some_iff.mp hl
  have hjc : j < c.length := by omega
  have hb := contig_base cg hr
  have hf : (cs.take k).flatten.length = sizes (regs.take k) := by
    rw [List.length_flatten]
    unfold sizes
    rw [List.map_take, List.map_take, hc.len]
  refine ⟨c, c[j], hck, hcl, List.getElem?_eq_getElem hjc, ?_⟩
  unfold mem0
  have := flat_at hck hjc
  rw [hf] at this
  rw [hb, Nat.zero_add, this, List.getElem?_eq_getElem hjc]
end
section
variable {qh qm qo : Nat} {a b : Int}
end
section
variable {S S' : Hs} {many im qm qh qo N k : Nat} {s : PS} {r : MRow} {regs : List Rg} {rows : List MRow} {cs : List (List Nat)}
def PS.keep (s : PS) (r : MRow) : PS := { s.exec r with pc := s.pc }
theorem depth_map {α : Type} {f : α → D} {n : Nat} {xs : List α} (h : ∀ x, (f x).toP.depth ≤ n) : PyData.depthAll (D.toPs (xs.map f)) ≤ n :=
  depthAll_mem _ fun y hy => by obtain ⟨x, _, rfl⟩ := List.mem_map.mp hy; exact h x
theorem plains_map {α : Type} {f : α → D} {xs : List α} (h : ∀ x, D.plain (f x) = true) : D.plains (xs.map f) = true := by
  rw [plains_mem]; intro y hy; obtain ⟨x, _, rfl⟩ := List.mem_map.mp hy; exact h x
theorem nats_depth {ns : List Nat} : (D.tup (ns.map nD)).toP.depth ≤ 5 := by
  have := depth_map (f := nD) (n := 3) (xs := ns) (fun x => by simp [nD, D.toP, PyData.depth])
  simp only [D.toP, PyData.depth]; omega
theorem nats_plain {ns : List Nat} : D.plain (D.tup (ns.map nD)) = true := plains_map (f := nD) fun x => rfl
end
end Ly
set_option Elab.async false
set_option linter.all false
set_option maxRecDepth 100000
namespace Ly
open PySem PySem.Spec L2
open PyProof.Rows hiding St
local macro_rules | `(tactic| simp_arith [$ls,*]) => `(tactic| simp only [Ly.line_le, Ly.atX_no, Ly.v_ok, Ly.v_bad, Ly.v_bind, Ly.k_bd, Ly.v_at, Ly.v_bin, Ly.k_bi, Ly.k_bi2, Ly.v_var, Ly.v_c, Ly.v_un, Ly.k_un, Ly.v_if, Ly.k_ife, Ly.v_and, Ly.k_and, Ly.k_and2, Ly.v_or, Ly.k_or, Ly.k_or2, Ly.v_tup, Ly.k_tup, Ly.v_lst, Ly.k_lst, Ly.v_call, Ly.k_ca, Ly.v_fn, Ly.k_fn, Ly.v_bm, Ly.k_bm, Ly.k_bm2, Ly.v_sl, Ly.k_sl, Ly.k_sl2, Ly.k_sl3, Ly.v_ixK, Ly.k_ixk, Ly.v_inK, Ly.k_ink, Ly.v_notinK, Ly.k_nink, Ly.v_getK2, Ly.k_gk2, Ly.k_gk, Ly.v_get2, Ly.k_g2, Ly.k_g22, Ly.k_g23, Ly.v_nil, Ly.v_cons, Ly.k_co, Ly.k_co2, Ly.v_no, Ly.v_some, Ly.k_so, Ly.k_cm, Ly.v_cmp, Ly.v_tru, Ly.k_tr, Ly.v_notB, Ly.k_no, Ly.v_andB, Ly.k_an, Ly.v_orB, Ly.k_orb, Ly.v_yes, Ly.v_inKB, Ly.k_inkB, Ly.v_notinKB, Ly.k_ninkB, Ly.v_set, Ly.k_st, Ly.v_expr, Ly.k_ex, Ly.v_ret, Ly.k_re, Ly.v_retN, Ly.v_pass, Ly.v_brk, Ly.v_cnt, Ly.v_seq, Ly.k_sq_nx, Ly.k_sq_rt, Ly.k_sq_bk, Ly.k_sq_ct, Ly.v_ifS, Ly.k_ifs, Ly.v_asg, Ly.k_as, Ly.k_as2, Ly.v_aug, Ly.k_au, Ly.v_for, Ly.k_fo, Ly.v_it, Ly.k_it, Ly.k_ij, Ly.v_rng1, Ly.v_rng2, Ly.v_enum, Ly.v_zip, Ly.v_ez, Ly.v_gN, Ly.v_gsN, Ly.v_gsC, Ly.k_gc, Ly.v_gT, Ly.v_gTw, Ly.v_gSb, Ly.k_gsb, Ly.k_gsb2, Ly.k_gsb3, Ly.k_en_rt, Ly.k_en_nx, Ly.k_tu_nx, Ly.k_tu_ct, Ly.k_tu_bk, Ly.k_tu_rt, Ly.v_lc, Ly.k_lc, Ly.v_augI, Ly.k_ag, Ly.k_ag2, Ly.k_ag3, Ly.k_ag4, Ly.k_ag5, Ly.v_del, Ly.k_dl, Ly.k_dl2, Ly.v_setd, Ly.v_pop2, Ly.k_d3, Ly.k_d32, Ly.k_d33, Ly.v_get1, Ly.k_g1, Ly.k_g12, Ly.v_rg1, Ly.k_rg, Ly.v_rg2, Ly.k_rg2, Ly.k_rg22, Ly.v_dicK, Ly.v_dicT, Ly.v_dc, Ly.k_dc, List.getElem?_cons_zero, List.getElem?_cons_succ, List.set_cons_zero, List.set_cons_succ, List.length_cons, List.length_nil, List.map_cons, List.map_nil, List.cons_append, List.nil_append, List.replicate, if_true, if_false, Bool.false_eq_true, Bool.not_true, Bool.not_false, Bool.true_and, Bool.false_and, decide_true, decide_false, decide_eq_true_eq, Nat.zero_add, Nat.reduceAdd, Nat.reduceLeDiff, true_and, and_true, $ls,*])
def polsL : List Str := ["lru", "fifo", "plru"]
structure CS where
  e : Nat
  w : Nat
  l : Nat
  p : Str
def CS.D (c : CS) : D := .tup [nD (2 ^ c.e), nD (2 ^ c.w), nD (2 ^ c.l), .str c.p]
structure CS.ok (c : CS) : Prop where
  e : c.e ≤ 6
  w : c.w ≤ 3
  l : c.l ≤ 4
  p : c.p ∈ polsL
inductive PD where
  | taken | two (k : Nat) | hist (n : Nat)
def PD.D : PD → D
  | .taken => .tup [.str "taken"]
  | .two k => .tup [.str "two", nD (2 ^ k)]
  | .hist n => .tup [.str "history", nD n]
def PD.ok : PD → Prop
  | .taken => True
  | .two k => k ≤ 6
  | .hist n => 1 ≤ n ∧ n ≤ 6
inductive Prep where
  | data (a : Nat) | fetch (a : Nat) | branch (a : Nat) (t : Bool)
def Prep.D : Prep → D
  | .data a => .tup [.str "data", nD a]
  | .fetch a => .tup [.str "fetch", nD a]
  | .branch a t => .tup [.str "branch", nD a, .bl t]
def Prep.ok : Prep → Prop
  | .data a => a ≤ 10000
  | .fetch a => a ≤ 10000
  | .branch a _ => a ≤ 10000
structure Vis where
  n : Nat
  touch : Bool
  a : Nat
def Vis.D (v : Vis) : D := .tup [nD v.n, .str (if v.touch = true then "touch" else "drop"), nD v.a]
def Sorted : Nat → List Vis → Prop
  | _, [] => True
  | m, v :: vs => m ≤ v.n ∧ Sorted v.n vs
structure SS where
  data : CS
  fetch : CS
  pr : PD
  depth : Nat
  miss : Nat
  wrong : Nat
  before : List Prep
  visits : List Vis
def SS.D (s : SS) : D := .tup [s.data.D, s.fetch.D, s.pr.D, nD s.depth, .tup [nD s.miss, nD s.wrong], .tup (s.before.map Prep.D), .tup (s.visits.map Vis.D)]
structure SS.ok (s : SS) : Prop where
  data : s.data.ok
  fetch : s.fetch.ok
  pr : s.pr.ok
  depth : s.depth ≤ 64
  miss : s.miss ≤ 100
  wrong1 : 1 ≤ s.wrong
  wrong : s.wrong ≤ 100
  before : ∀ b ∈ s.before, b.ok
  beforeN : s.before.length ≤ 12
  visits : ∀ v ∈ s.visits, v.n ≤ 100 ∧ v.a ≤ 10000
  sorted : Sorted 0 s.visits
  visitsN : s.visits.length ≤ 10
section
variable {X : XP} {S : Hs} {i j : Nat}
end
end Ly
set_option Elab.async false
set_option linter.all false
set_option maxRecDepth 100000
namespace Ly
open PySem PySem.Spec L2
open PyProof.Rows hiding St
inductive Dt (m : Nat) : Nat → D → Prop
  | non {n : Nat} : Dt m n .non
  | bl {n : Nat} (b : Bool) : Dt m n (.bl b)
  | int {n : Nat} (i : Int) : Dt m n (.int i)
  | str {n : Nat} {x : Str} (h : PyData.strOk x = true) : Dt m n (.str x)
  | tup {n : Nat} {xs : List D} : xs.length ≤ m → (∀ x ∈ xs, Dt m n x) → Dt m (n + 1) (.tup xs)
theorem Dt.up {m m' : Nat} (hm : m ≤ m') : ∀ {n n' : Nat} {d : D}, Dt m n d → n ≤ n' → Dt m' n' d := by
  intro n
  induction n with
  | zero => intro n' d h _; cases h <;> constructor <;> assumption
  | succ n ih =>
    intro n' d h hn
    cases h with
    | non => exact .non
    | bl b => exact .bl b
    | int i => exact .int i
    | str x => exact .str x
    | tup hl hx =>
      obtain ⟨k, rfl⟩ : ∃ k, n' = k + 1 := ⟨n' - 1, by omega⟩
      exact .tup (Nat.le_trans hl hm) fun x hx' => ih (hx x hx') (by omega)
theorem Dt.part {m n : Nat} {xs : List D} (h : Dt m n (.tup xs)) : ∀ x ∈ xs, Dt m n x := by
  cases h with | tup hl hx => exact fun x h => (hx x h).up (Nat.le_refl _) (Nat.le_succ _)
theorem Dt.plain {m : Nat} : ∀ {n : Nat} {d : D}, Dt m n d → d.plain = true ∧ d.toP.depth ≤ n + 1 := by
  intro n
  induction n with
  | zero => intro d h; cases h <;> refine ⟨by first | rfl | (simp only [D.plain]; assumption), ?_⟩ <;> simp [D.toP, PyData.depth]
  | succ n ih =>
    intro d h
    cases h with
    | non => refine ⟨rfl, ?_⟩; simp [D.toP, PyData.depth]
    | bl b => refine ⟨rfl, ?_⟩; simp [D.toP, PyData.depth]
    | int i => refine ⟨rfl, ?_⟩; simp [D.toP, PyData.depth]
    | str x => refine ⟨x, ?_⟩; simp [D.toP, PyData.depth]
    | tup hl hx =>
      refine ⟨?_, ?_⟩
      · simp only [D.plain]; rw [plains_mem]; exact fun x h => (ih (hx x h)).1
      · simp only [D.toP, PyData.depth]
        have := depthAll_mem _ fun x h => (ih (hx x h)).2
        omega
def isT : D → Bool | .tup _ => true | _ => false
section
variable {m n : Nat} {d : D} {S : Hs}
theorem it (h : Dt m n d) : oIsi "tuple" d S = .ok (.bl (isT d)) S := by cases h <;> rfl
end
section
variable {X : XP} {op op' : D → D → Hs → R D} {f g h : M} {l : Ls} {S : Hs} {Q : D → Hs → Prop} {x y : D}
end
end Ly
set_option Elab.async false
set_option linter.all false
set_option maxRecDepth 100000
namespace Ly
open PySem PySem.Spec L2
open PyProof.Rows hiding St
section
variable {S S' g : Hs} {i j : Nat} {row : List Int} {sd many : Int}
theorem Upd.kp (u : Upd i j sd S S') : Kp [i] S S' := by
  obtain ⟨a, g, _, rfl⟩ := u
  exact (Kp.set (by simp)).app
theorem DrwA.new (h : DrwA S i j row sd) : DrwA (S ++ g) i j row sd := (Upd.new (g := g) h).drw h
theorem DrwA.kp (h : DrwA S i j row sd) (k : Kp [] S S') : DrwA S' i j row sd := by
  obtain ⟨a, h⟩ := h
  exact ⟨a, k.get h.d (by simp), k.get h.r (by simp), h.ne, h.nn⟩
theorem DrwA.lt (h : DrwA S i j row sd) : i < S.length := by obtain ⟨a, h⟩ := h; exact Real.lt h.d
end
section
variable {X : XP} {f : M} {fs : List M} {l : Ls} {S : Hs} {acc y : Str} {Q : D → Hs → Prop}
end
end Ly
set_option Elab.async false
set_option linter.all false
set_option maxRecDepth 100000
namespace Ly
open PySem PySem.Spec L2
open PyProof.Rows hiding St
local macro_rules | `(tactic| simp_arith [$ls,*]) => `(tactic| simp only [Ly.line_le, Ly.atX_no, Ly.v_ok, Ly.v_bad, Ly.v_bind, Ly.k_bd, Ly.v_at, Ly.v_bin, Ly.k_bi, Ly.k_bi2, Ly.v_var, Ly.v_c, Ly.v_un, Ly.k_un, Ly.v_if, Ly.k_ife, Ly.v_and, Ly.k_and, Ly.k_and2, Ly.v_or, Ly.k_or, Ly.k_or2, Ly.v_tup, Ly.k_tup, Ly.v_lst, Ly.k_lst, Ly.v_call, Ly.k_ca, Ly.v_fn, Ly.k_fn, Ly.v_bm, Ly.k_bm, Ly.k_bm2, Ly.v_sl, Ly.k_sl, Ly.k_sl2, Ly.k_sl3, Ly.v_ixK, Ly.k_ixk, Ly.v_inK, Ly.k_ink, Ly.v_notinK, Ly.k_nink, Ly.v_getK2, Ly.k_gk2, Ly.k_gk, Ly.v_get2, Ly.k_g2, Ly.k_g22, Ly.k_g23, Ly.v_nil, Ly.v_cons, Ly.k_co, Ly.k_co2, Ly.v_no, Ly.v_some, Ly.k_so, Ly.k_cm, Ly.v_cmp, Ly.v_tru, Ly.k_tr, Ly.v_notB, Ly.k_no, Ly.v_andB, Ly.k_an, Ly.v_orB, Ly.k_orb, Ly.v_yes, Ly.v_inKB, Ly.k_inkB, Ly.v_notinKB, Ly.k_ninkB, Ly.v_set, Ly.k_st, Ly.v_expr, Ly.k_ex, Ly.v_ret, Ly.k_re, Ly.v_retN, Ly.v_pass, Ly.v_brk, Ly.v_cnt, Ly.v_seq, Ly.k_sq_nx, Ly.k_sq_rt, Ly.k_sq_bk, Ly.k_sq_ct, Ly.v_ifS, Ly.k_ifs, Ly.v_asg, Ly.k_as, Ly.k_as2, Ly.v_aug, Ly.k_au, Ly.v_for, Ly.k_fo, Ly.v_it, Ly.k_it, Ly.k_ij, Ly.v_rng1, Ly.v_rng2, Ly.v_enum, Ly.v_zip, Ly.v_ez, Ly.v_gN, Ly.v_gsN, Ly.v_gsC, Ly.k_gc, Ly.v_gT, Ly.v_gTw, Ly.v_gSb, Ly.k_gsb, Ly.k_gsb2, Ly.k_gsb3, Ly.k_en_rt, Ly.k_en_nx, Ly.k_tu_nx, Ly.k_tu_ct, Ly.k_tu_bk, Ly.k_tu_rt, Ly.v_lc, Ly.k_lc, Ly.v_augI, Ly.k_ag, Ly.k_ag2, Ly.k_ag3, Ly.k_ag4, Ly.k_ag5, Ly.v_del, Ly.k_dl, Ly.k_dl2, Ly.v_setd, Ly.v_pop2, Ly.k_d3, Ly.k_d32, Ly.k_d33, Ly.v_get1, Ly.k_g1, Ly.k_g12, Ly.v_rg1, Ly.k_rg, Ly.v_rg2, Ly.k_rg2, Ly.k_rg22, Ly.v_dicK, Ly.v_dicT, Ly.v_dc, Ly.k_dc, List.getElem?_cons_zero, List.getElem?_cons_succ, List.set_cons_zero, List.set_cons_succ, List.length_cons, List.length_nil, List.map_cons, List.map_nil, List.cons_append, List.nil_append, List.replicate, if_true, if_false, Bool.false_eq_true, Bool.not_true, Bool.not_false, Bool.true_and, Bool.false_and, decide_true, decide_false, decide_eq_true_eq, Nat.zero_add, Nat.reduceAdd, Nat.reduceLeDiff, true_and, and_true, $ls,*])
def DrwS (S : Hs) (i j : Nat) : Prop := ∃ row sd, DrwA S i j row sd
section
variable {S S' g : Hs} {i j : Nat} {many : Int} {X : XP}
theorem DrwS.new (d : DrwS S i j) : DrwS (S ++ g) i j := by obtain ⟨r, s, d⟩ := d; exact ⟨r, s, d.new⟩
theorem DrwS.kp0 (d : DrwS S i j) (k : Kp [] S S') : DrwS S' i j := by obtain ⟨r, s, d⟩ := d; exact ⟨r, s, d.kp k⟩
theorem DrwS.lt (d : DrwS S i j) : i < S.length := by obtain ⟨r, s, d⟩ := d; exact d.lt
theorem DrwS.ltj (d : DrwS S i j) : j < S.length := by obtain ⟨r, s, a, d⟩ := d; exact Real.lt d.r
theorem DrwS.kp {A : List Nat} (d : DrwS S i j) (k : Kp A S S') (hi : i ∉ A) (hj : j ∉ A) : DrwS S' i j := by
  obtain ⟨r, s, a, d⟩ := d
  exact ⟨r, s, a, k.get d.d hi, k.get d.r hj, d.ne, d.nn⟩
end
section
variable {m n : Nat} {d : D} {S : Hs}
theorem wp_zipA {X : XP} {xs ys : List D} {gg : MG} {b : MS} {l : Ls} {S : Hs} {Q : F → Hs → Prop} (Inv : Nat → Ls → Hs → Prop) (hl : xs.length = ys.length) (h0 : Inv 0 l S)
    (hs : ∀ k l S x y, xs[k]? = some x → ys[k]? = some y → Inv k l S → Wp X (gg (.tup [x, y]) l S) fun l1 S1 => Wp X (b l1 S1) (tuK (Inv (k + 1)) Q)) (hd : ∀ l S, Inv xs.length l S → Q (.nx l) S) : Wp X (fLoop (.zip (.t xs) (.t ys)) gg b 0 l S) Q := by
  refine wp_fLoop xs.length Inv (fun l S h => ?_) (fun k l S hk h => ?_) hd xs.length 0 l S (by omega) h0
  · simp [itGo, Sq.at, hl]
  · have e1 : xs[k]? = some xs[k] := List.getElem?_eq_getElem hk
    have e2 : ys[k]? = some ys[k] := List.getElem?_eq_getElem (by omega)
    exact ⟨.tup [xs[k], ys[k]], by simp [itGo, Sq.at, e1, e2]; omega, hs k l S _ _ e1 e2 h⟩
end
theorem ixLastA {ds : List D} {r : D} {S : Hs} : oIx (.tup (ds ++ [r])) (.int (-1)) S = .ok r S := by
  have : L2.atI (ds ++ [r]) (-1) = some r := by
    have h2 : (-1 + ((ds.length : Int) + 1)).toNat = ds.length := by omega
    have h3 : (0 : Int) ≤ -1 + ((ds.length : Int) + 1) := by omega
    have h4 : (1 : Int) ≤ (ds.length : Int) + 1 := by omega
    simp [L2.atI, ixN, h2, h3, h4]
  simp [oIx, this]
end Ly
set_option Elab.async false
set_option linter.all false
set_option maxRecDepth 100000
namespace GK61
open PySem PySem.Spec L2 Ly
open PyProof.Rows hiding St
def d_GREATEST_WORD : D := (.int 4294967295)
def d_SHIFTS : D := (.int 31)
def d_ACTIONS (cA : Nat → Addr) : List (Str × D) := [("+", (.cst (cA 1))), ("-", (.cst (cA 2))), ("*", (.cst (cA 3))), ("&", (.cst (cA 4))), ("|", (.cst (cA 5))), ("^", (.cst (cA 6))), ("<<", (.cst (cA 7))), (">>", (.cst (cA 8))), ("==", (.cst (cA 9))), ("<", (.cst (cA 10))), ("<=", (.cst (cA 11))), ("div", (.cst (cA 12))), ("mod", (.cst (cA 13)))]
def d_FORMS : List (Str × D) := [("const", (.wt [(.str "write"), (.str "word")])), ("copy", (.wt [(.str "write"), (.str "read")])), ("op", (.wt [(.str "sign"), (.str "write"), (.str "read"), (.str "read")])), ("select", (.wt [(.str "write"), (.str "read"), (.str "read"), (.str "read")])), ("load", (.wt [(.str "write"), (.str "array"), (.str "read")])), ("store", (.wt [(.str "array"), (.str "read"), (.str "read")])), ("out", (.wt [(.str "read")])), ("jump", (.wt [(.str "block")])), ("branch", (.wt [(.str "read"), (.str "block"), (.str "block")])), ("stop", (.wt [(.str "read")]))]
noncomputable def b__law_next : MS := (mSeq (mAugI oAddI (mVar 0) (mC (.str "at")) (mC (.int 1)))
    (mSeq (mIfS (mCmp oGt (mBin oIx (mVar 0) (mC (.str "at"))) (mCall bLen (lCons (mBin oIx (mVar 0) (mC (.str "draws"))) lNil))) (mRet (mC (.int 0))) mPass)
    (mRet (mBin oMod (mCall bInt (lCons (mBin oIx (mBin oIx (mVar 0) (mC (.str "draws"))) (mBin oSub (mBin oIx (mVar 0) (mC (.str "at"))) (mC (.int 1)))) lNil)) (mVar 1)))))
noncomputable def m__law_next : MD := mDef 2 0 b__law_next
theorem len__law_next (ds : List D) (S : Hs) (h : ds.length ≠ 2) : m__law_next ds S = .bad := mDef_len ds S h
noncomputable def b__law_row : MS := (mSeq (mSet 4 (mFn m__law_next (lCons (mVar 0) (lCons (mC (.int 9)) lNil))))
    (mSeq (mSet 5 (mFn m__law_next (lCons (mVar 0) (lCons (mC (.int 9)) lNil))))
    (mSeq (mSet 6 (mFn m__law_next (lCons (mVar 0) (lCons (mC (.int 9)) lNil))))
    (mSeq (mIfS (mTru (mVar 3)) (mRet (mBin oIx (mLst (lCons (mTup (lCons (mC (.str "jump")) (lCons (mFn m__law_next (lCons (mVar 0) (lCons (mVar 2) lNil))) lNil))) (lCons (mTup (lCons (mC (.str "branch")) (lCons (mVar 5) (lCons (mFn m__law_next (lCons (mVar 0) (lCons (mVar 2) lNil))) (lCons (mFn m__law_next (lCons (mVar 0) (lCons (mVar 2) lNil))) lNil))))) (lCons (mTup (lCons (mC (.str "stop")) (lCons (mVar 5) lNil))) lNil)))) (mFn m__law_next (lCons (mVar 0) (lCons (mC (.int 3)) lNil))))) mPass)
    (mSeq (mSet 7 (mFn m__law_next (lCons (mVar 0) (lCons (mC (.int 11)) lNil))))
    (mSeq (mIfS (mCmp oLt (mVar 7) (mC (.int 2))) (mRet (mTup (lCons (mC (.str "const")) (lCons (mVar 4) (lCons (mBin oIx (mLst (lCons (mFn m__law_next (lCons (mVar 0) (lCons (mC (.int 7)) lNil))) (lCons (mBin oSub (mC (.int 4294967295)) (mFn m__law_next (lCons (mVar 0) (lCons (mC (.int 9)) lNil)))) (lCons (mBin oMul (mFn m__law_next (lCons (mVar 0) (lCons (mC (.int 900)) lNil))) (mC (.int 4771117))) (lCons (mBin oAdd (mC (.int 31)) (mFn m__law_next (lCons (mVar 0) (lCons (mC (.int 4)) lNil)))) lNil))))) (mFn m__law_next (lCons (mVar 0) (lCons (mC (.int 4)) lNil)))) lNil))))) mPass)
    (mSeq (mIfS (mCmp oEq (mVar 7) (mC (.int 2))) (mRet (mTup (lCons (mC (.str "copy")) (lCons (mVar 4) (lCons (mVar 5) lNil))))) mPass)
    (mSeq (mIfS (mCmp oLt (mVar 7) (mC (.int 6))) (mSeq (mSet 8 (mBin oIx (mLst (lCons (mC (.str "+")) (lCons (mC (.str "-")) (lCons (mC (.str "*")) (lCons (mC (.str "&")) (lCons (mC (.str "|")) (lCons (mC (.str "^")) (lCons (mC (.str "<<")) (lCons (mC (.str ">>")) (lCons (mC (.str "==")) (lCons (mC (.str "<")) (lCons (mC (.str "<=")) (lCons (mC (.str "div")) (lCons (mC (.str "mod")) lNil)))))))))))))) (mFn m__law_next (lCons (mVar 0) (lCons (mC (.int 13)) lNil)))))
    (mRet (mTup (lCons (mC (.str "op")) (lCons (mVar 8) (lCons (mVar 4) (lCons (mVar 5) (lCons (mVar 6) lNil)))))))) mPass)
    (mSeq (mIfS (mCmp oEq (mVar 7) (mC (.int 6))) (mRet (mTup (lCons (mC (.str "select")) (lCons (mVar 4) (lCons (mFn m__law_next (lCons (mVar 0) (lCons (mC (.int 9)) lNil))) (lCons (mVar 5) (lCons (mVar 6) lNil))))))) mPass)
    (mSeq (mIfS (mAndB (mCmp oLt (mVar 7) (mC (.int 9))) (mCmp oGt (mVar 1) (mC (.int 0)))) (mRet (mBin oIx (mLst (lCons (mTup (lCons (mC (.str "load")) (lCons (mVar 4) (lCons (mFn m__law_next (lCons (mVar 0) (lCons (mVar 1) lNil))) (lCons (mVar 5) lNil))))) (lCons (mTup (lCons (mC (.str "store")) (lCons (mFn m__law_next (lCons (mVar 0) (lCons (mVar 1) lNil))) (lCons (mVar 5) (lCons (mVar 6) lNil))))) lNil))) (mBin oSub (mVar 7) (mC (.int 7))))) mPass)
    (mRet (mTup (lCons (mC (.str "out")) (lCons (mVar 5) lNil))))))))))))))
noncomputable def m__law_row : MD := mDef 4 5 b__law_row
theorem len__law_row (ds : List D) (S : Hs) (h : ds.length ≠ 4) : m__law_row ds S = .bad := mDef_len ds S h
noncomputable def lb__law_program_0 : MS := (mSeq (mSet 5 (mLc (mRng1 (lCons (mFn m__law_next (lCons (mVar 0) (lCons (mC (.int 8)) lNil))) lNil)) (cN 6) mYes (mFn m__law_row (lCons (mVar 0) (lCons (mCall bLen (lCons (mVar 1) lNil)) (lCons (mVar 2) (lCons (mC (.bl false)) lNil))))) [6]))
    (mExpr (mBM "list" oAppend (mVar 3) (lCons (mCall bTuple (lCons (mBin oAdd (mVar 5) (mLst (lCons (mFn m__law_row (lCons (mVar 0) (lCons (mCall bLen (lCons (mVar 1) lNil)) (lCons (mVar 2) (lCons (mC (.bl true)) lNil))))) lNil))) lNil)) lNil))))
noncomputable def b__law_program : MS := (mSeq (mSet 1 (mCall bTuple (lCons (mLc (mRng1 (lCons (mFn m__law_next (lCons (mVar 0) (lCons (mC (.int 4)) lNil))) lNil)) (cN 4) mYes (mTup (lCons (mBin oAdd (mC (.str "a")) (mCall bStr (lCons (mVar 4) lNil))) (lCons (mBin oAdd (mC (.int 1)) (mFn m__law_next (lCons (mVar 0) (lCons (mC (.int 11)) lNil)))) (lCons (mBin oIx (mLst (lCons (mC (.str "public")) (lCons (mC (.str "secret")) lNil))) (mFn m__law_next (lCons (mVar 0) (lCons (mC (.int 2)) lNil)))) lNil)))) [4]) lNil)))
    (mSeq (mSet 2 (mBin oAdd (mC (.int 1)) (mFn m__law_next (lCons (mVar 0) (lCons (mC (.int 5)) lNil)))))
    (mSeq (mSet 3 (mLst lNil))
    (mSeq (mFor (mRng1 (lCons (mVar 2) lNil)) (gN 4) lb__law_program_0)
    (mRet (mTup (lCons (mVar 1) (lCons (mFn m__law_next (lCons (mVar 0) (lCons (mC (.int 5)) lNil))) (lCons (mCall bTuple (lCons (mVar 3) lNil)) lNil)))))))))
noncomputable def m__law_program : MD := mDef 1 6 b__law_program
theorem len__law_program (ds : List D) (S : Hs) (h : ds.length ≠ 1) : m__law_program ds S = .bad := mDef_len ds S h
noncomputable def b__plus : MS := (mRet (mBin oAnd (mBin oAdd (mVar 0) (mVar 1)) (mC d_GREATEST_WORD)))
noncomputable def m__plus : MD := mDef 2 0 b__plus
theorem len__plus (ds : List D) (S : Hs) (h : ds.length ≠ 2) : m__plus ds S = .bad := mDef_len ds S h
noncomputable def b__minus : MS := (mRet (mBin oAnd (mBin oSub (mVar 0) (mVar 1)) (mC d_GREATEST_WORD)))
noncomputable def m__minus : MD := mDef 2 0 b__minus
theorem len__minus (ds : List D) (S : Hs) (h : ds.length ≠ 2) : m__minus ds S = .bad := mDef_len ds S h
noncomputable def b__times : MS := (mRet (mBin oAnd (mBin oMul (mVar 0) (mVar 1)) (mC d_GREATEST_WORD)))
noncomputable def m__times : MD := mDef 2 0 b__times
theorem len__times (ds : List D) (S : Hs) (h : ds.length ≠ 2) : m__times ds S = .bad := mDef_len ds S h
noncomputable def b__both : MS := (mRet (mBin oAnd (mVar 0) (mVar 1)))
noncomputable def m__both : MD := mDef 2 0 b__both
theorem len__both (ds : List D) (S : Hs) (h : ds.length ≠ 2) : m__both ds S = .bad := mDef_len ds S h
noncomputable def b__either : MS := (mRet (mBin oOr (mVar 0) (mVar 1)))
noncomputable def m__either : MD := mDef 2 0 b__either
theorem len__either (ds : List D) (S : Hs) (h : ds.length ≠ 2) : m__either ds S = .bad := mDef_len ds S h
noncomputable def b__apart : MS := (mRet (mBin oXor (mVar 0) (mVar 1)))
noncomputable def m__apart : MD := mDef 2 0 b__apart
theorem len__apart (ds : List D) (S : Hs) (h : ds.length ≠ 2) : m__apart ds S = .bad := mDef_len ds S h
noncomputable def b__left : MS := (mRet (mBin oAnd (mBin oShl (mVar 0) (mBin oAnd (mVar 1) (mC d_SHIFTS))) (mC d_GREATEST_WORD)))
noncomputable def m__left : MD := mDef 2 0 b__left
theorem len__left (ds : List D) (S : Hs) (h : ds.length ≠ 2) : m__left ds S = .bad := mDef_len ds S h
noncomputable def b__right : MS := (mRet (mBin oShr (mVar 0) (mBin oAnd (mVar 1) (mC d_SHIFTS))))
noncomputable def m__right : MD := mDef 2 0 b__right
theorem len__right (ds : List D) (S : Hs) (h : ds.length ≠ 2) : m__right ds S = .bad := mDef_len ds S h
noncomputable def b__equal : MS := (mRet (mIf (mCmp oEq (mVar 0) (mVar 1)) (mC (.int 1)) (mC (.int 0))))
noncomputable def m__equal : MD := mDef 2 0 b__equal
theorem len__equal (ds : List D) (S : Hs) (h : ds.length ≠ 2) : m__equal ds S = .bad := mDef_len ds S h
noncomputable def b__less : MS := (mRet (mIf (mCmp oLt (mVar 0) (mVar 1)) (mC (.int 1)) (mC (.int 0))))
noncomputable def m__less : MD := mDef 2 0 b__less
theorem len__less (ds : List D) (S : Hs) (h : ds.length ≠ 2) : m__less ds S = .bad := mDef_len ds S h
noncomputable def b__at_most : MS := (mRet (mIf (mCmp oLe (mVar 0) (mVar 1)) (mC (.int 1)) (mC (.int 0))))
noncomputable def m__at_most : MD := mDef 2 0 b__at_most
theorem len__at_most (ds : List D) (S : Hs) (h : ds.length ≠ 2) : m__at_most ds S = .bad := mDef_len ds S h
noncomputable def b__div : MS := (mRet (mIf (mCmp oEq (mVar 1) (mC (.int 0))) (mC (.int 0)) (mBin oFdiv (mVar 0) (mVar 1))))
noncomputable def m__div : MD := mDef 2 0 b__div
theorem len__div (ds : List D) (S : Hs) (h : ds.length ≠ 2) : m__div ds S = .bad := mDef_len ds S h
noncomputable def b__mod : MS := (mRet (mIf (mCmp oEq (mVar 1) (mC (.int 0))) (mVar 0) (mBin oMod (mVar 0) (mVar 1))))
noncomputable def m__mod : MD := mDef 2 0 b__mod
theorem len__mod (ds : List D) (S : Hs) (h : ds.length ≠ 2) : m__mod ds S = .bad := mDef_len ds S h
noncomputable def b_apply (cA : Nat → Addr) : MS := (mSeq (mSet 3 (mIxK (d_ACTIONS cA) (mVar 0)))
    (mRet (mCalA [(cA 1, m__plus), (cA 2, m__minus), (cA 3, m__times), (cA 4, m__both), (cA 5, m__either), (cA 6, m__apart), (cA 7, m__left), (cA 8, m__right), (cA 9, m__equal), (cA 10, m__less), (cA 11, m__at_most), (cA 12, m__div), (cA 13, m__mod)] 3 (lCons (mVar 1) (lCons (mVar 2) lNil)))))
noncomputable def m_apply (cA : Nat → Addr) : MD := mDef 3 1 (b_apply cA)
theorem len_apply {cA : Nat → Addr} (ds : List D) (S : Hs) (h : ds.length ≠ 3) : (m_apply cA) ds S = .bad := mDef_len ds S h
noncomputable def b__law_done (cA : Nat → Addr) : MS := (mSeq (mSet 2 (mBin oIx (mVar 0) (mC (.str "regs"))))
    (mIfS (mCmp oEq (mBin oIx (mVar 1) (mC (.int 0))) (mC (.str "const"))) (mAsg (mBin oIx (mVar 1) (mC (.int 2))) (gSb (mVar 2) (mBin oIx (mVar 1) (mC (.int 1))))) (mIfS (mCmp oEq (mBin oIx (mVar 1) (mC (.int 0))) (mC (.str "copy"))) (mAsg (mGet2 (mVar 2) (mBin oIx (mVar 1) (mC (.int 2))) (mC (.int 0))) (gSb (mVar 2) (mBin oIx (mVar 1) (mC (.int 1))))) (mIfS (mCmp oEq (mBin oIx (mVar 1) (mC (.int 0))) (mC (.str "op"))) (mAsg (mFn (m_apply cA) (lCons (mBin oIx (mVar 1) (mC (.int 1))) (lCons (mGet2 (mVar 2) (mBin oIx (mVar 1) (mC (.int 3))) (mC (.int 0))) (lCons (mGet2 (mVar 2) (mBin oIx (mVar 1) (mC (.int 4))) (mC (.int 0))) lNil)))) (gSb (mVar 2) (mBin oIx (mVar 1) (mC (.int 2))))) (mIfS (mCmp oEq (mBin oIx (mVar 1) (mC (.int 0))) (mC (.str "select"))) (mAsg (mGet2 (mVar 2) (mBin oIx (mLst (lCons (mBin oIx (mVar 1) (mC (.int 4))) (lCons (mBin oIx (mVar 1) (mC (.int 3))) lNil))) (mCall bInt (lCons (mBin oNe (mGet2 (mVar 2) (mBin oIx (mVar 1) (mC (.int 2))) (mC (.int 0))) (mC (.int 0))) lNil))) (mC (.int 0))) (gSb (mVar 2) (mBin oIx (mVar 1) (mC (.int 1))))) (mIfS (mCmp oEq (mBin oIx (mVar 1) (mC (.int 0))) (mC (.str "load"))) (mSeq (mSet 3 (mBin oIx (mBin oIx (mVar 0) (mC (.str "cells"))) (mBin oIx (mVar 1) (mC (.int 2)))))
    (mAsg (mBin oIx (mVar 3) (mBin oMod (mCall bInt (lCons (mGet2 (mVar 2) (mBin oIx (mVar 1) (mC (.int 3))) (mC (.int 0))) lNil)) (mCall bLen (lCons (mVar 3) lNil)))) (gSb (mVar 2) (mBin oIx (mVar 1) (mC (.int 1)))))) (mIfS (mCmp oEq (mBin oIx (mVar 1) (mC (.int 0))) (mC (.str "store"))) (mSeq (mSet 3 (mBin oIx (mBin oIx (mVar 0) (mC (.str "cells"))) (mBin oIx (mVar 1) (mC (.int 1)))))
    (mAsg (mGet2 (mVar 2) (mBin oIx (mVar 1) (mC (.int 3))) (mC (.int 0))) (gSb (mVar 3) (mBin oMod (mCall bInt (lCons (mGet2 (mVar 2) (mBin oIx (mVar 1) (mC (.int 2))) (mC (.int 0))) lNil)) (mCall bLen (lCons (mVar 3) lNil)))))) (mExpr (mBM "list" oAppend (mBin oIx (mVar 0) (mC (.str "outs"))) (lCons (mGet2 (mVar 2) (mBin oIx (mVar 1) (mC (.int 1))) (mC (.int 0))) lNil))))))))))
noncomputable def m__law_done (cA : Nat → Addr) : MD := mDef 2 2 (b__law_done cA)
theorem len__law_done {cA : Nat → Addr} (ds : List D) (S : Hs) (h : ds.length ≠ 2) : (m__law_done cA) ds S = .bad := mDef_len ds S h
noncomputable def c_size_of_0 : MB := (mCmp oLt (mVar 1) (mVar 0))
noncomputable def lb_size_of_1 : MS := (mAug 1 oIAdd (mVar 1))
noncomputable def b_size_of : MS := (mSeq (mSet 1 (mC (.int 1)))
    (mSeq (mWhile c_size_of_0 lb_size_of_1)
    (mRet (mVar 1))))
noncomputable def m_size_of : MD := mDef 1 1 b_size_of
theorem len_size_of (ds : List D) (S : Hs) (h : ds.length ≠ 1) : m_size_of ds S = .bad := mDef_len ds S h
noncomputable def lb__law_run_0 (cA : Nat → Addr) : MS := (mAsg (mBin oIx (mVar 1) (mVar 5)) (gSb (mBin oIx (mVar 4) (mC (.str "regs"))) (mVar 5)))
noncomputable def lb__law_run_1 (cA : Nat → Addr) : MS := (mExpr (mBM "list" oAppend (mBin oIx (mVar 4) (mC (.str "cells"))) (lCons (mBin oAdd (mCall bList (lCons (mBin oIx (mVar 2) (mVar 5)) lNil)) (mBin oMul (mLst (lCons (mC (.int 0)) lNil)) (mBin oSub (mFn m_size_of (lCons (mCall bLen (lCons (mBin oIx (mVar 2) (mVar 5)) lNil)) lNil)) (mCall bLen (lCons (mBin oIx (mVar 2) (mVar 5)) lNil))))) lNil)))
noncomputable def lb__law_run_2 (cA : Nat → Addr) : MS := (mSeq (mSet 9 (mBin oIx (mBin oIx (mBin oIx (mVar 0) (mC (.int 2))) (mVar 6)) (mVar 7)))
    (mSeq (mIfS (mCmp oEq (mBin oIx (mVar 9) (mC (.int 0))) (mC (.str "stop"))) (mSeq (mSet 10 (mCall bTuple (lCons (mLc (mRng1 (lCons (mCall bLen (lCons (mVar 2) lNil)) lNil)) (cN 5) mYes (mCall bTuple (lCons (mSl (mBin oIx (mBin oIx (mVar 4) (mC (.str "cells"))) (mVar 5)) oNo (oSome (mCall bLen (lCons (mBin oIx (mVar 2) (mVar 5)) lNil)))) lNil)) [5]) lNil)))
    (mRet (mTup (lCons (mBin oAdd (mVar 8) (mC (.int 1))) (lCons (mTup (lCons (mCall bTuple (lCons (mBin oIx (mVar 4) (mC (.str "outs"))) lNil)) (lCons (mGet2 (mBin oIx (mVar 4) (mC (.str "regs"))) (mBin oIx (mVar 9) (mC (.int 1))) (mC (.int 0))) (lCons (mVar 10) lNil)))) lNil))))) mPass)
    (mSeq (mAug 7 oIAdd (mC (.int 1)))
    (mIfS (mCmp oEq (mBin oIx (mVar 9) (mC (.int 0))) (mC (.str "jump"))) (mSeq (mSet 6 (mBin oIx (mVar 9) (mC (.int 1))))
    (mSet 7 (mC (.int 0)))) (mIfS (mCmp oEq (mBin oIx (mVar 9) (mC (.int 0))) (mC (.str "branch"))) (mSeq (mSet 6 (mBin oIx (mLst (lCons (mBin oIx (mVar 9) (mC (.int 3))) (lCons (mBin oIx (mVar 9) (mC (.int 2))) lNil))) (mCall bInt (lCons (mBin oNe (mGet2 (mBin oIx (mVar 4) (mC (.str "regs"))) (mBin oIx (mVar 9) (mC (.int 1))) (mC (.int 0))) (mC (.int 0))) lNil))))
    (mSet 7 (mC (.int 0)))) (mExpr (mFn (m__law_done cA) (lCons (mVar 4) (lCons (mVar 9) lNil)))))))))
noncomputable def b__law_run (cA : Nat → Addr) : MS := (mSeq (mSet 4 (mDisp (dpCons (mC (.str "regs")) mDicK (dpCons (mC (.str "cells")) (mLst lNil) (dpCons (mC (.str "outs")) (mLst lNil) dpNil)))))
    (mSeq (mFor (mRng1 (lCons (mCall bLen (lCons (mVar 1) lNil)) lNil)) (gN 5) (lb__law_run_0 cA))
    (mSeq (mFor (mRng1 (lCons (mCall bLen (lCons (mVar 2) lNil)) lNil)) (gN 5) (lb__law_run_1 cA))
    (mSeq (mSet 6 (mC (.int 0)))
    (mSeq (mSet 7 (mC (.int 0)))
    (mSeq (mFor (mRng1 (lCons (mVar 3) lNil)) (gN 8) (lb__law_run_2 cA))
    (mRet (mTup (lCons (mBin oAdd (mVar 3) (mC (.int 1))) (lCons (mC .non) lNil))))))))))
noncomputable def m__law_run (cA : Nat → Addr) : MD := mDef 4 7 (b__law_run cA)
theorem len__law_run {cA : Nat → Addr} (ds : List D) (S : Hs) (h : ds.length ≠ 4) : (m__law_run cA) ds S = .bad := mDef_len ds S h
noncomputable def lb__law_draws_0 : MS := (mIfS (mCmp oGt (mVar 6) (mC (.int 0))) (mSeq (mExpr (mBM "list" oAppend (mVar 2) (lCons (mBin oMod (mCall bInt (lCons (mVar 6) lNil)) (mC (.int 997))) lNil)))
    (mSet 6 (mBin oFdiv (mVar 6) (mC (.int 997))))) mPass)
noncomputable def lb__law_draws_1 : MS := (mSeq (mSet 5 (mCall bAbs (lCons (mCall bInt (lCons (mBin oIx (mVar 0) (mVar 4)) lNil)) lNil)))
    (mSeq (mSet 3 (mBin oMod (mCall bInt (lCons (mBin oAdd (mBin oAdd (mBin oMul (mVar 3) (mC (.int 48271))) (mBin oMod (mVar 5) (mC (.int 1000003)))) (mVar 4)) lNil)) (mC (.int 65537))))
    (mSeq (mSet 6 (mC (.int 0)))
    (mSeq (mIfS (mCmp oGe (mVar 5) (mBin oPow (mC (.int 10)) (mC (.int 18)))) (mSet 6 (mVar 5)) (mSeq (mExpr (mBM "list" oAppend (mVar 2) (lCons (mBin oMod (mCall bInt (lCons (mVar 5) lNil)) (mC (.int 997))) lNil)))
    (mExpr (mBM "list" oAppend (mVar 2) (lCons (mBin oMod (mBin oMod (mCall bInt (lCons (mBin oAdd (mBin oMul (mVar 3) (mC (.int 69621))) (mC (.int 5))) lNil)) (mC (.int 65521))) (mC (.int 997))) lNil)))))
    (mFor (mRng1 (lCons (mC (.int 60)) lNil)) (gN 7) lb__law_draws_0)))))
noncomputable def lb__law_draws_2 : MS := (mSeq (mSet 3 (mBin oMod (mCall bInt (lCons (mBin oAdd (mBin oAdd (mBin oMul (mVar 3) (mC (.int 16807))) (mVar 4)) (mC (.int 1))) lNil)) (mC (.int 65537))))
    (mExpr (mBM "list" oAppend (mVar 2) (lCons (mBin oMod (mCall bInt (lCons (mVar 3) lNil)) (mC (.int 997))) lNil))))
noncomputable def b__law_draws : MS := (mSeq (mSet 2 (mLst lNil))
    (mSeq (mSet 3 (mC (.int 7)))
    (mSeq (mFor (mRng1 (lCons (mCall bLen (lCons (mVar 0) lNil)) lNil)) (gN 4) lb__law_draws_1)
    (mSeq (mFor (mRng1 (lCons (mVar 1) lNil)) (gN 4) lb__law_draws_2)
    (mRet (mSl (mVar 2) oNo (oSome (mVar 1))))))))
noncomputable def m__law_draws : MD := mDef 2 6 b__law_draws
theorem len__law_draws (ds : List D) (S : Hs) (h : ds.length ≠ 2) : m__law_draws ds S = .bad := mDef_len ds S h
noncomputable def b_parts_like : MS := (mSeq (mSet 2 (mIxK d_FORMS (mBin oIx (mVar 0) (mC (.int 0)))))
    (mRet (mCall bTuple (lCons (mLc (mZip (lCons (mSl (mVar 0) (oSome (mC (.int 1))) oNo) (lCons (mVar 2) lNil))) (cT [3, 4]) (mCmp oEq (mVar 4) (mVar 1)) (mVar 3) [3, 4]) lNil))))
noncomputable def m_parts_like : MD := mDef 2 3 b_parts_like
theorem len_parts_like (ds : List D) (S : Hs) (h : ds.length ≠ 2) : m_parts_like ds S = .bad := mDef_len ds S h
noncomputable def b_registers_of : MS := (mRet (mBin oAdd (mFn m_parts_like (lCons (mVar 0) (lCons (mC (.str "write")) lNil))) (mFn m_parts_like (lCons (mVar 0) (lCons (mC (.str "read")) lNil)))))
noncomputable def m_registers_of : MD := mDef 1 0 b_registers_of
theorem len_registers_of (ds : List D) (S : Hs) (h : ds.length ≠ 1) : m_registers_of ds S = .bad := mDef_len ds S h
noncomputable def lb_named_registers_0 : MS := (mAsg (mC (.bl true)) (gSb (mVar 1) (mVar 4)))
noncomputable def lb_named_registers_1 : MS := (mFor (mIt (mFn m_registers_of (lCons (mVar 3) lNil))) (gN 4) lb_named_registers_0)
noncomputable def lb_named_registers_2 : MS := (mFor (mIt (mVar 2)) (gN 3) lb_named_registers_1)
noncomputable def b_named_registers : MS := (mSeq (mSet 1 (mDc (mRng1 (lCons (mBin oIx (mVar 0) (mC (.int 1))) lNil)) (cN 4) mYes (mVar 4) (mC (.bl true)) [4]))
    (mSeq (mFor (mIt (mBin oIx (mVar 0) (mC (.int 2)))) (gN 2) lb_named_registers_2)
    (mRet (mVar 1))))
noncomputable def m_named_registers : MD := mDef 1 4 b_named_registers
theorem len_named_registers (ds : List D) (S : Hs) (h : ds.length ≠ 1) : m_named_registers ds S = .bad := mDef_len ds S h
noncomputable def b_register_count : MS := (mRet (mBin oAdd (mBin oMaxDf (mCall bList (lCons (mFn m_named_registers (lCons (mVar 0) lNil)) lNil)) (mUn oNeg (mC (.int 1)))) (mC (.int 1))))
noncomputable def m_register_count : MD := mDef 1 0 b_register_count
theorem len_register_count (ds : List D) (S : Hs) (h : ds.length ≠ 1) : m_register_count ds S = .bad := mDef_len ds S h
noncomputable def lb_IrRun_m___init___0 (cA : Nat → Addr) : MS := (mSeq (mSet 6 (mFn m_size_of (lCons (mBin oIx (mVar 4) (mC (.int 1))) lNil)))
    (mSeq (mExpr (mBM "list" oAppend (mFld [cA 0] "cells" (mVar 0)) (lCons (mBin oAdd (mCall bList (lCons (mVar 5) lNil)) (mBin oMul (mLst (lCons (mC (.int 0)) lNil)) (mBin oSub (mVar 6) (mBin oIx (mVar 4) (mC (.int 1)))))) lNil)))
    (mExpr (mBM "list" oAppend (mFld [cA 0] "masks" (mVar 0)) (lCons (mBin oSub (mVar 6) (mC (.int 1))) lNil)))))
noncomputable def b_IrRun_m___init__ (cA : Nat → Addr) : MS := (mSeq (mFldSet [cA 0] "arrays" (mBin oIx (mVar 1) (mC (.int 0))) (mVar 0))
    (mSeq (mFldSet [cA 0] "registers" (mBin oMul (mLst (lCons (mC (.int 0)) lNil)) (mFn m_register_count (lCons (mVar 1) lNil))) (mVar 0))
    (mSeq (mAsg (mCall bList (lCons (mVar 2) lNil)) (gSbTo (mFld [cA 0] "registers" (mVar 0)) (oSome (mCall bLen (lCons (mVar 2) lNil)))))
    (mSeq (mFldSet [cA 0] "cells" (mLst lNil) (mVar 0))
    (mSeq (mFldSet [cA 0] "masks" (mLst lNil) (mVar 0))
    (mSeq (mFor (mZip (lCons (mFld [cA 0] "arrays" (mVar 0)) (lCons (mVar 3) lNil))) (gT 2 (gsC (gN 4) (gsC (gN 5) gsN))) (lb_IrRun_m___init___0 cA))
    (mFldSet [cA 0] "outs" (mLst lNil) (mVar 0))))))))
noncomputable def m_IrRun_m___init__ (cA : Nat → Addr) : MD := mDef 4 3 (b_IrRun_m___init__ cA)
theorem len_IrRun_m___init__ {cA : Nat → Addr} (ds : List D) (S : Hs) (h : ds.length ≠ 4) : (m_IrRun_m___init__ cA) ds S = .bad := mDef_len ds S h
noncomputable def lb_IrRun_m_do_rows_0 (cA : Nat → Addr) : MS := (mSeq (mSet 4 (mBin oIx (mVar 3) (mC (.int 0))))
    (mIfS (mCmp oEq (mVar 4) (mC (.str "op"))) (mSeq (mSet 5 (mIxK (d_ACTIONS cA) (mBin oIx (mVar 3) (mC (.int 1)))))
    (mAsg (mCalA [(cA 1, m__plus), (cA 2, m__minus), (cA 3, m__times), (cA 4, m__both), (cA 5, m__either), (cA 6, m__apart), (cA 7, m__left), (cA 8, m__right), (cA 9, m__equal), (cA 10, m__less), (cA 11, m__at_most), (cA 12, m__div), (cA 13, m__mod)] 5 (lCons (mBin oIx (mVar 2) (mBin oIx (mVar 3) (mC (.int 3)))) (lCons (mBin oIx (mVar 2) (mBin oIx (mVar 3) (mC (.int 4)))) lNil))) (gSb (mVar 2) (mBin oIx (mVar 3) (mC (.int 2)))))) (mIfS (mCmp oEq (mVar 4) (mC (.str "const"))) (mAsg (mBin oIx (mVar 3) (mC (.int 2))) (gSb (mVar 2) (mBin oIx (mVar 3) (mC (.int 1))))) (mIfS (mCmp oEq (mVar 4) (mC (.str "copy"))) (mAsg (mBin oIx (mVar 2) (mBin oIx (mVar 3) (mC (.int 2)))) (gSb (mVar 2) (mBin oIx (mVar 3) (mC (.int 1))))) (mIfS (mCmp oEq (mVar 4) (mC (.str "select"))) (mAsg (mIf (mCmp oNe (mBin oIx (mVar 2) (mBin oIx (mVar 3) (mC (.int 2)))) (mC (.int 0))) (mBin oIx (mVar 2) (mBin oIx (mVar 3) (mC (.int 3)))) (mBin oIx (mVar 2) (mBin oIx (mVar 3) (mC (.int 4))))) (gSb (mVar 2) (mBin oIx (mVar 3) (mC (.int 1))))) (mIfS (mCmp oEq (mVar 4) (mC (.str "load"))) (mAsg (mBin oIx (mBin oIx (mFld [cA 0] "cells" (mVar 0)) (mBin oIx (mVar 3) (mC (.int 2)))) (mBin oAnd (mBin oIx (mVar 2) (mBin oIx (mVar 3) (mC (.int 3)))) (mBin oIx (mFld [cA 0] "masks" (mVar 0)) (mBin oIx (mVar 3) (mC (.int 2)))))) (gSb (mVar 2) (mBin oIx (mVar 3) (mC (.int 1))))) (mIfS (mCmp oEq (mVar 4) (mC (.str "store"))) (mAsg (mBin oIx (mVar 2) (mBin oIx (mVar 3) (mC (.int 3)))) (gSb (mBin oIx (mFld [cA 0] "cells" (mVar 0)) (mBin oIx (mVar 3) (mC (.int 1)))) (mBin oAnd (mBin oIx (mVar 2) (mBin oIx (mVar 3) (mC (.int 2)))) (mBin oIx (mFld [cA 0] "masks" (mVar 0)) (mBin oIx (mVar 3) (mC (.int 1))))))) (mExpr (mBM "list" oAppend (mFld [cA 0] "outs" (mVar 0)) (lCons (mBin oIx (mVar 2) (mBin oIx (mVar 3) (mC (.int 1)))) lNil))))))))))
noncomputable def b_IrRun_m_do_rows (cA : Nat → Addr) : MS := (mSeq (mSet 2 (mFld [cA 0] "registers" (mVar 0)))
    (mFor (mIt (mVar 1)) (gN 3) (lb_IrRun_m_do_rows_0 cA)))
noncomputable def m_IrRun_m_do_rows (cA : Nat → Addr) : MD := mDef 2 4 (b_IrRun_m_do_rows cA)
theorem len_IrRun_m_do_rows {cA : Nat → Addr} (ds : List D) (S : Hs) (h : ds.length ≠ 2) : (m_IrRun_m_do_rows cA) ds S = .bad := mDef_len ds S h
noncomputable def b_IrRun_m_way (cA : Nat → Addr) : MS := (mSeq (mIfS (mCmp oEq (mBin oIx (mVar 1) (mC (.int 0))) (mC (.str "jump"))) (mRet (mBin oIx (mVar 1) (mC (.int 1)))) mPass)
    (mRet (mIf (mCmp oNe (mBin oIx (mFld [cA 0] "registers" (mVar 0)) (mBin oIx (mVar 1) (mC (.int 1)))) (mC (.int 0))) (mBin oIx (mVar 1) (mC (.int 2))) (mBin oIx (mVar 1) (mC (.int 3))))))
noncomputable def m_IrRun_m_way (cA : Nat → Addr) : MD := mDef 2 0 (b_IrRun_m_way cA)
theorem len_IrRun_m_way {cA : Nat → Addr} (ds : List D) (S : Hs) (h : ds.length ≠ 2) : (m_IrRun_m_way cA) ds S = .bad := mDef_len ds S h
noncomputable def b_IrRun_m_contents (cA : Nat → Addr) : MS := (mRet (mCall bTuple (lCons (mLc (mZip (lCons (mFld [cA 0] "arrays" (mVar 0)) (lCons (mFld [cA 0] "cells" (mVar 0)) lNil))) (cT [1, 2]) mYes (mCall bTuple (lCons (mSl (mVar 2) oNo (oSome (mBin oIx (mVar 1) (mC (.int 1))))) lNil)) [1, 2]) lNil)))
noncomputable def m_IrRun_m_contents (cA : Nat → Addr) : MD := mDef 1 2 (b_IrRun_m_contents cA)
theorem len_IrRun_m_contents {cA : Nat → Addr} (ds : List D) (S : Hs) (h : ds.length ≠ 1) : (m_IrRun_m_contents cA) ds S = .bad := mDef_len ds S h
noncomputable def c_run_ir_0 (cA : Nat → Addr) : MB := (mCmp oLe (mCall bLen (lCons (mVar 6) lNil)) (mVar 7))
noncomputable def lb_run_ir_1 (cA : Nat → Addr) : MS := (mSeq (mAug 7 oSub (mCall bLen (lCons (mVar 6) lNil)))
    (mSeq (mExpr (mMeth [(cA 0, (m_IrRun_m_do_rows cA))] "do_rows" (mVar 4) (lCons (mSl (mVar 6) oNo (oSome (mUn oNeg (mC (.int 1))))) lNil)))
    (mSeq (mSet 8 (mBin oIx (mVar 6) (mUn oNeg (mC (.int 1)))))
    (mSeq (mIfS (mCmp oEq (mBin oIx (mVar 8) (mC (.int 0))) (mC (.str "stop"))) (mRet (mTup (lCons (mCall bTuple (lCons (mFld [cA 0] "outs" (mVar 4)) lNil)) (lCons (mBin oIx (mFld [cA 0] "registers" (mVar 4)) (mBin oIx (mVar 8) (mC (.int 1)))) (lCons (mMeth [(cA 0, (m_IrRun_m_contents cA))] "contents" (mVar 4) lNil) lNil))))) mPass)
    (mSet 6 (mBin oIx (mVar 5) (mMeth [(cA 0, (m_IrRun_m_way cA))] "way" (mVar 4) (lCons (mVar 8) lNil))))))))
noncomputable def b_run_ir (cA : Nat → Addr) : MS := (mSeq (mSet 4 (mMake (cA 0) (m_IrRun_m___init__ cA) (lCons (mVar 0) (lCons (mVar 1) (lCons (mVar 2) lNil)))))
    (mSeq (mSet 5 (mBin oIx (mVar 0) (mC (.int 2))))
    (mSeq (mSet 6 (mBin oIx (mVar 5) (mC (.int 0))))
    (mSeq (mSet 7 (mVar 3))
    (mSeq (mWhile (c_run_ir_0 cA) (lb_run_ir_1 cA))
    (mRet (mC .non)))))))
noncomputable def m_run_ir (cA : Nat → Addr) : MD := mDef 4 5 (b_run_ir cA)
theorem len_run_ir {cA : Nat → Addr} (ds : List D) (S : Hs) (h : ds.length ≠ 4) : (m_run_ir cA) ds S = .bad := mDef_len ds S h
noncomputable def b__law_word : MS := (mRet (mBin oIx (mLst (lCons (mFn m__law_next (lCons (mVar 0) (lCons (mC (.int 8)) lNil))) (lCons (mFn m__law_next (lCons (mVar 0) (lCons (mC (.int 500)) lNil))) (lCons (mBin oSub (mC (.int 4294967295)) (mFn m__law_next (lCons (mVar 0) (lCons (mC (.int 9)) lNil)))) (lCons (mBin oMul (mFn m__law_next (lCons (mVar 0) (lCons (mC (.int 900)) lNil))) (mC (.int 4771117))) lNil))))) (mFn m__law_next (lCons (mVar 0) (lCons (mC (.int 4)) lNil)))))
noncomputable def m__law_word : MD := mDef 1 0 b__law_word
theorem len__law_word (ds : List D) (S : Hs) (h : ds.length ≠ 1) : m__law_word ds S = .bad := mDef_len ds S h
noncomputable def b_law (cA : Nat → Addr) : MS := (mSeq (mSet 1 (mDisp (dpCons (mC (.str "draws")) (mFn m__law_draws (lCons (mVar 0) (lCons (mC (.int 420)) lNil))) (dpCons (mC (.str "at")) (mC (.int 0)) dpNil))))
    (mSeq (mSet 2 (mFn m__law_program (lCons (mVar 1) lNil)))
    (mSeq (mSet 3 (mCall bTuple (lCons (mLc (mRng1 (lCons (mBin oIx (mVar 2) (mC (.int 1))) lNil)) (cN 8) mYes (mFn m__law_word (lCons (mVar 1) lNil)) [8]) lNil)))
    (mSeq (mSet 4 (mCall bTuple (lCons (mLc (mIt (mBin oIx (mVar 2) (mC (.int 0)))) (cT [9, 10, 11]) mYes (mCall bTuple (lCons (mLc (mRng1 (lCons (mVar 10) lNil)) (cN 8) mYes (mFn m__law_word (lCons (mVar 1) lNil)) [8]) lNil)) [9, 10, 11]) lNil)))
    (mSeq (mSet 5 (mFn m__law_next (lCons (mVar 1) (lCons (mC (.int 301)) lNil))))
    (mSeq (mAsg (mFn (m__law_run cA) (lCons (mVar 2) (lCons (mVar 3) (lCons (mVar 4) (lCons (mVar 5) lNil))))) (gT 2 (gsC (gN 6) (gsC (gN 7) gsN))))
    (mSeq (mIfS (mCmp oNe (mFn (m_run_ir cA) (lCons (mVar 2) (lCons (mVar 3) (lCons (mVar 4) (lCons (mVar 5) lNil))))) (mVar 7)) (mRet (mC (.bl false))) mPass)
    (mSeq (mIfS (mCmp oIs (mVar 7) (mC .non)) (mRet (mC (.bl true))) mPass)
    (mRet (mAnd (mBin oEq (mFn (m_run_ir cA) (lCons (mVar 2) (lCons (mVar 3) (lCons (mVar 4) (lCons (mVar 6) lNil))))) (mVar 7)) (mBin oIs (mFn (m_run_ir cA) (lCons (mVar 2) (lCons (mVar 3) (lCons (mVar 4) (lCons (mBin oSub (mVar 6) (mC (.int 1))) lNil))))) (mC .non))))))))))))
noncomputable def m_law (cA : Nat → Addr) : MD := mDef 1 11 (b_law cA)
end GK61
set_option Elab.async false
set_option linter.all false
set_option maxRecDepth 100000
set_option maxHeartbeats 4000000
namespace GK61
open PySem PySem.Spec L2 Ly
open PyProof.Rows hiding St
def top (i : Nat) : Stmt := PySem.Challenge.pw_sameclock_k61_programs_run_row_by_row.main.body.getD i (.Pass ⟨0, 0, 0, 0⟩)
abbrev s__law_next : Stmt := top 29
abbrev s__law_row : Stmt := top 30
abbrev s__law_program : Stmt := top 31
abbrev s__plus : Stmt := top 9
abbrev s__minus : Stmt := top 10
abbrev s__times : Stmt := top 11
abbrev s__both : Stmt := top 12
abbrev s__either : Stmt := top 13
abbrev s__apart : Stmt := top 14
abbrev s__left : Stmt := top 15
abbrev s__right : Stmt := top 16
abbrev s__equal : Stmt := top 17
abbrev s__less : Stmt := top 18
abbrev s__at_most : Stmt := top 19
abbrev s__div : Stmt := top 20
abbrev s__mod : Stmt := top 21
abbrev s_apply : Stmt := top 23
abbrev s__law_done : Stmt := top 33
abbrev s_size_of : Stmt := top 24
abbrev s__law_run : Stmt := top 34
abbrev s__law_draws : Stmt := top 28
abbrev s_parts_like : Stmt := top 2
abbrev s_registers_of : Stmt := top 3
abbrev s_named_registers : Stmt := top 4
abbrev s_register_count : Stmt := top 5
abbrev s_IrRun_m___init__ : Stmt := (C8.clsBody (top 26)).getD 0 (.Pass ⟨0, 0, 0, 0⟩)
abbrev s_IrRun_m_do_rows : Stmt := (C8.clsBody (top 26)).getD 3 (.Pass ⟨0, 0, 0, 0⟩)
abbrev s_IrRun_m_way : Stmt := (C8.clsBody (top 26)).getD 2 (.Pass ⟨0, 0, 0, 0⟩)
abbrev s_IrRun_m_contents : Stmt := (C8.clsBody (top 26)).getD 1 (.Pass ⟨0, 0, 0, 0⟩)
abbrev s_run_ir : Stmt := top 25
abbrev s__law_word : Stmt := top 32
abbrev s_law : Stmt := top 35
section
variable {P : Program} {w : World} {K : PySem.W.Frag} {mg : Str → Option Value} {base : Heap}
theorem sc__law_next : FnScope ["w", "many"] ["w", "many"] (defScope s__law_next) := ⟨rfl, rfl, rfl, by decide +kernel, rfl, by decide +kernel, by decide +kernel⟩
theorem ok__law_next {f__law_next : Addr} {fd__law_next : FuncData} (D__law_next : DefAt K mg "_law_next" s__law_next ["w", "many"] f__law_next fd__law_next) (z_len : mg "len" = none) (z_int : mg "int" = none) : FnOk P w K mg base (L2.CX P w) 1 f__law_next fd__law_next ["w", "many"] (spM K 2 (m__law_next)) := by
  have sc := sc__law_next
  refine fn_def (m := b__law_next) D__law_next.F sc rfl rfl fun cdv A outer s H E hr => ?_
  unfold b__law_next
  exact (SMs.cons (s_addI (hu_of hr) (e_v 0) e_str e_int)
    (SMs.cons (s_if (b_cmp op_gt ok_gt (e_ix (hu_of hr) (e_v 0) e_str) (c_len z_len (l_cons (e_ix (hu_of hr) (e_v 0) e_str) l_nil)) (nomark _)) (SMs.one (s_ret e_int)) SMs.nil)
    (SMs.one (s_ret (e_mod (c_int z_int (l_cons (e_ix (hu_of hr) (e_ix (hu_of hr) (e_v 0) e_str) (e_sub (e_ix (hu_of hr) (e_v 0) e_str) e_int)) l_nil)) (e_v 1))))))
theorem sc__law_row : FnScope ["w", "arrays", "blocks", "last", "d", "a", "b", "turn", "sign"] ["w", "arrays", "blocks", "last"] (defScope s__law_row) := ⟨rfl, rfl, rfl, by decide +kernel, rfl, by decide +kernel, by decide +kernel⟩
theorem ok__law_row {f__law_row : Addr} {fd__law_row : FuncData} {f__law_next : Addr} {fd__law_next : FuncData} (D__law_row : DefAt K mg "_law_row" s__law_row ["w", "arrays", "blocks", "last"] f__law_row fd__law_row) (D__law_next : DefAt K mg "_law_next" s__law_next ["w", "many"] f__law_next fd__law_next) (G__law_next : FnOk P w K mg base (L2.CX P w) 1 f__law_next fd__law_next ["w", "many"] (spM K 2 m__law_next)) : FnOk P w K mg base (L2.CX P w) 2 f__law_row fd__law_row ["w", "arrays", "blocks", "last"] (spM K 4 (m__law_row)) := by
  have sc := sc__law_row
  refine fn_def (m := b__law_row) D__law_row.F sc rfl rfl fun cdv A outer s H E hr => ?_
  unfold b__law_row
  exact (SMs.cons (s_set (i := 4) sc.nd (e_fn G__law_next len__law_next (hr.mono (by decide)) (by rfl) D__law_next.g D__law_next.F.kp D__law_next.b (fun _ => Passes.at pass_def _) (l_cons (e_v 0) (l_cons e_int l_nil))))
    (SMs.cons (s_set (i := 5) sc.nd (e_fn G__law_next len__law_next (hr.mono (by decide)) (by rfl) D__law_next.g D__law_next.F.kp D__law_next.b (fun _ => Passes.at pass_def _) (l_cons (e_v 0) (l_cons e_int l_nil))))
    (SMs.cons (s_set (i := 6) sc.nd (e_fn G__law_next len__law_next (hr.mono (by decide)) (by rfl) D__law_next.g D__law_next.F.kp D__law_next.b (fun _ => Passes.at pass_def _) (l_cons (e_v 0) (l_cons e_int l_nil))))
    (SMs.cons (s_if (b_tru (e_v 3)) (SMs.one (s_ret (e_ix (hu_of hr) (e_lst (l_cons (e_tup (l_cons e_str (l_cons (e_fn G__law_next len__law_next (hr.mono (by decide)) (by rfl) D__law_next.g D__law_next.F.kp D__law_next.b (fun _ => Passes.at pass_def _) (l_cons (e_v 0) (l_cons (e_v 2) l_nil))) l_nil))) (l_cons (e_tup (l_cons e_str (l_cons (e_v 5) (l_cons (e_fn G__law_next len__law_next (hr.mono (by decide)) (by rfl) D__law_next.g D__law_next.F.kp D__law_next.b (fun _ => Passes.at pass_def _) (l_cons (e_v 0) (l_cons (e_v 2) l_nil))) (l_cons (e_fn G__law_next len__law_next (hr.mono (by decide)) (by rfl) D__law_next.g D__law_next.F.kp D__law_next.b (fun _ => Passes.at pass_def _) (l_cons (e_v 0) (l_cons (e_v 2) l_nil))) l_nil))))) (l_cons (e_tup (l_cons e_str (l_cons (e_v 5) l_nil))) l_nil)))) (e_fn G__law_next len__law_next (hr.mono (by decide)) (by rfl) D__law_next.g D__law_next.F.kp D__law_next.b (fun _ => Passes.at pass_def _) (l_cons (e_v 0) (l_cons e_int l_nil)))))) SMs.nil)
    (SMs.cons (s_set (i := 7) sc.nd (e_fn G__law_next len__law_next (hr.mono (by decide)) (by rfl) D__law_next.g D__law_next.F.kp D__law_next.b (fun _ => Passes.at pass_def _) (l_cons (e_v 0) (l_cons e_int l_nil))))
    (SMs.cons (s_if (b_cmp op_lt ok_lt (e_v 7) e_int (nomark _)) (SMs.one (s_ret (e_tup (l_cons e_str (l_cons (e_v 4) (l_cons (e_ix (hu_of hr) (e_lst (l_cons (e_fn G__law_next len__law_next (hr.mono (by decide)) (by rfl) D__law_next.g D__law_next.F.kp D__law_next.b (fun _ => Passes.at pass_def _) (l_cons (e_v 0) (l_cons e_int l_nil))) (l_cons (e_sub e_int (e_fn G__law_next len__law_next (hr.mono (by decide)) (by rfl) D__law_next.g D__law_next.F.kp D__law_next.b (fun _ => Passes.at pass_def _) (l_cons (e_v 0) (l_cons e_int l_nil)))) (l_cons (e_mul (e_fn G__law_next len__law_next (hr.mono (by decide)) (by rfl) D__law_next.g D__law_next.F.kp D__law_next.b (fun _ => Passes.at pass_def _) (l_cons (e_v 0) (l_cons e_int l_nil))) e_int) (l_cons (e_add e_int (e_fn G__law_next len__law_next (hr.mono (by decide)) (by rfl) D__law_next.g D__law_next.F.kp D__law_next.b (fun _ => Passes.at pass_def _) (l_cons (e_v 0) (l_cons e_int l_nil)))) l_nil))))) (e_fn G__law_next len__law_next (hr.mono (by decide)) (by rfl) D__law_next.g D__law_next.F.kp D__law_next.b (fun _ => Passes.at pass_def _) (l_cons (e_v 0) (l_cons e_int l_nil)))) l_nil)))))) SMs.nil)
    (SMs.cons (s_if (b_cmp (or_eqA hr) ok_eq (e_v 7) e_int (nomark _)) (SMs.one (s_ret (e_tup (l_cons e_str (l_cons (e_v 4) (l_cons (e_v 5) l_nil)))))) SMs.nil)
    (SMs.cons (s_if (b_cmp op_lt ok_lt (e_v 7) e_int (nomark _)) (SMs.cons (s_set (i := 8) sc.nd (e_ix (hu_of hr) (e_lst (l_cons e_str (l_cons e_str (l_cons e_str (l_cons e_str (l_cons e_str (l_cons e_str (l_cons e_str (l_cons e_str (l_cons e_str (l_cons e_str (l_cons e_str (l_cons e_str (l_cons e_str l_nil)))))))))))))) (e_fn G__law_next len__law_next (hr.mono (by decide)) (by rfl) D__law_next.g D__law_next.F.kp D__law_next.b (fun _ => Passes.at pass_def _) (l_cons (e_v 0) (l_cons e_int l_nil)))))
    (SMs.one (s_ret (e_tup (l_cons e_str (l_cons (e_v 8) (l_cons (e_v 4) (l_cons (e_v 5) (l_cons (e_v 6) l_nil))))))))) SMs.nil)
    (SMs.cons (s_if (b_cmp (or_eqA hr) ok_eq (e_v 7) e_int (nomark _)) (SMs.one (s_ret (e_tup (l_cons e_str (l_cons (e_v 4) (l_cons (e_fn G__law_next len__law_next (hr.mono (by decide)) (by rfl) D__law_next.g D__law_next.F.kp D__law_next.b (fun _ => Passes.at pass_def _) (l_cons (e_v 0) (l_cons e_int l_nil))) (l_cons (e_v 5) (l_cons (e_v 6) l_nil)))))))) SMs.nil)
    (SMs.cons (s_if (b_of (w_and (b_cmp op_lt ok_lt (e_v 7) e_int (nomark _)) (w_and1 (b_cmp op_gt ok_gt (e_v 1) e_int (nomark _))))) (SMs.one (s_ret (e_ix (hu_of hr) (e_lst (l_cons (e_tup (l_cons e_str (l_cons (e_v 4) (l_cons (e_fn G__law_next len__law_next (hr.mono (by decide)) (by rfl) D__law_next.g D__law_next.F.kp D__law_next.b (fun _ => Passes.at pass_def _) (l_cons (e_v 0) (l_cons (e_v 1) l_nil))) (l_cons (e_v 5) l_nil))))) (l_cons (e_tup (l_cons e_str (l_cons (e_fn G__law_next len__law_next (hr.mono (by decide)) (by rfl) D__law_next.g D__law_next.F.kp D__law_next.b (fun _ => Passes.at pass_def _) (l_cons (e_v 0) (l_cons (e_v 1) l_nil))) (l_cons (e_v 5) (l_cons (e_v 6) l_nil))))) l_nil))) (e_sub (e_v 7) e_int)))) SMs.nil)
    (SMs.one (s_ret (e_tup (l_cons e_str (l_cons (e_v 5) l_nil)))))))))))))))
theorem sc__law_program : FnScope ["w", "arrays", "many", "blocks", "k", "rows", "j"] ["w"] (defScope s__law_program) := ⟨rfl, rfl, rfl, by decide +kernel, rfl, by decide +kernel, by decide +kernel⟩
theorem ok__law_program {f__law_program : Addr} {fd__law_program : FuncData} {f__law_next : Addr} {fd__law_next : FuncData} {f__law_row : Addr} {fd__law_row : FuncData} (D__law_program : DefAt K mg "_law_program" s__law_program ["w"] f__law_program fd__law_program) (D__law_next : DefAt K mg "_law_next" s__law_next ["w", "many"] f__law_next fd__law_next) (D__law_row : DefAt K mg "_law_row" s__law_row ["w", "arrays", "blocks", "last"] f__law_row fd__law_row) (G__law_next : FnOk P w K mg base (L2.CX P w) 1 f__law_next fd__law_next ["w", "many"] (spM K 2 m__law_next)) (G__law_row : FnOk P w K mg base (L2.CX P w) 2 f__law_row fd__law_row ["w", "arrays", "blocks", "last"] (spM K 4 m__law_row)) (z_tuple : mg "tuple" = none) (z_range : mg "range" = none) (z_str : mg "str" = none) (z_len : mg "len" = none) : FnOk P w K mg base (L2.CX P w) 3 f__law_program fd__law_program ["w"] (spM K 1 (m__law_program)) := by
  have sc := sc__law_program
  refine fn_def (m := b__law_program) D__law_program.F sc rfl rfl fun cdv A outer s H E hr => ?_
  unfold b__law_program
  exact (SMs.cons (s_set (i := 1) sc.nd (c_tuple z_tuple (l_cons (e_lc rfl sc.nd (i_rng1 z_range (l_cons (e_fn G__law_next len__law_next (hr.mono (by decide)) (by rfl) D__law_next.g D__law_next.F.kp D__law_next.b (fun _ => Passes.at pass_def _) (l_cons (e_v 0) (l_cons e_int l_nil))) l_nil)) (blkOk_by (own := [("k", 4)]) (by rfl)) (gok_n (i := 4) rfl) (fun _ _ _ _ _ => pg_name (i := 4) sc.nd rfl (by first | exact Or.inl rfl | exact Or.inr rfl)) (fun _ _ _ _ _ => ct_nil) (fun _ _ _ _ _ => (e_tup (l_cons (e_add e_str (c_str z_str (l_cons (e_v 4) l_nil))) (l_cons (e_add e_int (e_fn G__law_next len__law_next (hr.mono (by decide)) (by rfl) D__law_next.g D__law_next.F.kp D__law_next.b (fun _ => Passes.at passL _) (l_cons (e_v 0) (l_cons e_int l_nil)))) (l_cons (e_ix (hu_of hr) (e_lst (l_cons e_str (l_cons e_str l_nil))) (e_fn G__law_next len__law_next (hr.mono (by decide)) (by rfl) D__law_next.g D__law_next.F.kp D__law_next.b (fun _ => Passes.at passL _) (l_cons (e_v 0) (l_cons e_int l_nil)))) l_nil)))))) l_nil)))
    (SMs.cons (s_set (i := 2) sc.nd (e_add e_int (e_fn G__law_next len__law_next (hr.mono (by decide)) (by rfl) D__law_next.g D__law_next.F.kp D__law_next.b (fun _ => Passes.at pass_def _) (l_cons (e_v 0) (l_cons e_int l_nil)))))
    (SMs.cons (s_set (i := 3) sc.nd (e_lst l_nil))
    (SMs.cons (s_for (passes_of rfl) rfl (i_rng1 z_range (l_cons (e_v 2) l_nil)) (g_n (i := 4) sc.nd) (SMs.cons (s_setLc (i := 5) rfl sc.nd (sw_true rfl rfl rfl (by decide +kernel)) (i_rng1 z_range (l_cons (e_fn G__law_next len__law_next (hr.mono (by decide)) (by rfl) D__law_next.g D__law_next.F.kp D__law_next.b (fun _ => Passes.at pass_def _) (l_cons (e_v 0) (l_cons e_int l_nil))) l_nil)) (blkOk_by (own := [("j", 6)]) (by rfl)) (gok_n (i := 6) rfl) (fun _ _ _ _ _ => pg_name (i := 6) sc.nd rfl (by first | exact Or.inl rfl | exact Or.inr rfl)) (fun _ _ _ _ _ => ct_nil) (fun _ _ _ _ _ => (e_fn G__law_row len__law_row (hr.mono (by decide)) (by rfl) D__law_row.g D__law_row.F.kp D__law_row.b (fun _ => Passes.at passL _) (l_cons (e_v 0) (l_cons (c_len z_len (l_cons (e_v 1) l_nil)) (l_cons (e_v 2) (l_cons e_bl l_nil)))))))
    (SMs.one (s_expr (e_bm PySem.F.plainAttrs_list PySem.F.slot_list_append PySem.F.type_list_append mt_append ok_append (e_v 3) (l_cons (c_tuple z_tuple (l_cons (e_add (e_v 5) (e_lst (l_cons (e_fn G__law_row len__law_row (hr.mono (by decide)) (by rfl) D__law_row.g D__law_row.F.kp D__law_row.b (fun _ => Passes.at pass_def _) (l_cons (e_v 0) (l_cons (c_len z_len (l_cons (e_v 1) l_nil)) (l_cons (e_v 2) (l_cons e_bl l_nil))))) l_nil))) l_nil)) l_nil))))))
    (SMs.one (s_ret (e_tup (l_cons (e_v 1) (l_cons (e_fn G__law_next len__law_next (hr.mono (by decide)) (by rfl) D__law_next.g D__law_next.F.kp D__law_next.b (fun _ => Passes.at pass_def _) (l_cons (e_v 0) (l_cons e_int l_nil))) (l_cons (c_tuple z_tuple (l_cons (e_v 3) l_nil)) l_nil))))))))))
theorem sc__plus : FnScope ["a", "b"] ["a", "b"] (defScope s__plus) := ⟨rfl, rfl, rfl, by decide +kernel, rfl, by decide +kernel, by decide +kernel⟩
theorem ok__plus {f__plus : Addr} {fd__plus : FuncData} (D__plus : DefAt K mg "_plus" s__plus ["a", "b"] f__plus fd__plus) (g_GREATEST_WORD : GV K mg "GREATEST_WORD" d_GREATEST_WORD) : FnOk P w K mg base (L2.CX P w) 1 f__plus fd__plus ["a", "b"] (spM K 2 (m__plus)) := by
  have sc := sc__plus
  refine fn_def (m := b__plus) D__plus.F sc rfl rfl fun cdv A outer s H E hr => ?_
  unfold b__plus
  exact (SMs.one (s_ret (e_band (e_add (e_v 0) (e_v 1)) (e_g g_GREATEST_WORD))))
theorem sc__minus : FnScope ["a", "b"] ["a", "b"] (defScope s__minus) := ⟨rfl, rfl, rfl, by decide +kernel, rfl, by decide +kernel, by decide +kernel⟩
theorem ok__minus {f__minus : Addr} {fd__minus : FuncData} (D__minus : DefAt K mg "_minus" s__minus ["a", "b"] f__minus fd__minus) (g_GREATEST_WORD : GV K mg "GREATEST_WORD" d_GREATEST_WORD) : FnOk P w K mg base (L2.CX P w) 1 f__minus fd__minus ["a", "b"] (spM K 2 (m__minus)) := by
  have sc := sc__minus
  refine fn_def (m := b__minus) D__minus.F sc rfl rfl fun cdv A outer s H E hr => ?_
  unfold b__minus
  exact (SMs.one (s_ret (e_band (e_sub (e_v 0) (e_v 1)) (e_g g_GREATEST_WORD))))
theorem sc__times : FnScope ["a", "b"] ["a", "b"] (defScope s__times) := ⟨rfl, rfl, rfl, by decide +kernel, rfl, by decide +kernel, by decide +kernel⟩
theorem ok__times {f__times : Addr} {fd__times : FuncData} (D__times : DefAt K mg "_times" s__times ["a", "b"] f__times fd__times) (g_GREATEST_WORD : GV K mg "GREATEST_WORD" d_GREATEST_WORD) : FnOk P w K mg base (L2.CX P w) 1 f__times fd__times ["a", "b"] (spM K 2 (m__times)) := by
  have sc := sc__times
  refine fn_def (m := b__times) D__times.F sc rfl rfl fun cdv A outer s H E hr => ?_
  unfold b__times
  exact (SMs.one (s_ret (e_band (e_mul (e_v 0) (e_v 1)) (e_g g_GREATEST_WORD))))
theorem sc__both : FnScope ["a", "b"] ["a", "b"] (defScope s__both) := ⟨rfl, rfl, rfl, by decide +kernel, rfl, by decide +kernel, by decide +kernel⟩
theorem ok__both {f__both : Addr} {fd__both : FuncData} (D__both : DefAt K mg "_both" s__both ["a", "b"] f__both fd__both) : FnOk P w K mg base (L2.CX P w) 1 f__both fd__both ["a", "b"] (spM K 2 (m__both)) := by
  have sc := sc__both
  refine fn_def (m := b__both) D__both.F sc rfl rfl fun cdv A outer s H E hr => ?_
  unfold b__both
  exact (SMs.one (s_ret (e_band (e_v 0) (e_v 1))))
theorem sc__either : FnScope ["a", "b"] ["a", "b"] (defScope s__either) := ⟨rfl, rfl, rfl, by decide +kernel, rfl, by decide +kernel, by decide +kernel⟩
theorem ok__either {f__either : Addr} {fd__either : FuncData} (D__either : DefAt K mg "_either" s__either ["a", "b"] f__either fd__either) : FnOk P w K mg base (L2.CX P w) 1 f__either fd__either ["a", "b"] (spM K 2 (m__either)) := by
  have sc := sc__either
  refine fn_def (m := b__either) D__either.F sc rfl rfl fun cdv A outer s H E hr => ?_
  unfold b__either
  exact (SMs.one (s_ret (e_bor (e_v 0) (e_v 1))))
theorem sc__apart : FnScope ["a", "b"] ["a", "b"] (defScope s__apart) := ⟨rfl, rfl, rfl, by decide +kernel, rfl, by decide +kernel, by decide +kernel⟩
theorem ok__apart {f__apart : Addr} {fd__apart : FuncData} (D__apart : DefAt K mg "_apart" s__apart ["a", "b"] f__apart fd__apart) : FnOk P w K mg base (L2.CX P w) 1 f__apart fd__apart ["a", "b"] (spM K 2 (m__apart)) := by
  have sc := sc__apart
  refine fn_def (m := b__apart) D__apart.F sc rfl rfl fun cdv A outer s H E hr => ?_
  unfold b__apart
  exact (SMs.one (s_ret (e_bxor (e_v 0) (e_v 1))))
theorem sc__left : FnScope ["a", "b"] ["a", "b"] (defScope s__left) := ⟨rfl, rfl, rfl, by decide +kernel, rfl, by decide +kernel, by decide +kernel⟩
theorem ok__left {f__left : Addr} {fd__left : FuncData} (D__left : DefAt K mg "_left" s__left ["a", "b"] f__left fd__left) (g_SHIFTS : GV K mg "SHIFTS" d_SHIFTS) (g_GREATEST_WORD : GV K mg "GREATEST_WORD" d_GREATEST_WORD) : FnOk P w K mg base (L2.CX P w) 1 f__left fd__left ["a", "b"] (spM K 2 (m__left)) := by
  have sc := sc__left
  refine fn_def (m := b__left) D__left.F sc rfl rfl fun cdv A outer s H E hr => ?_
  unfold b__left
  exact (SMs.one (s_ret (e_band (e_shl (e_v 0) (e_band (e_v 1) (e_g g_SHIFTS))) (e_g g_GREATEST_WORD))))
theorem sc__right : FnScope ["a", "b"] ["a", "b"] (defScope s__right) := ⟨rfl, rfl, rfl, by decide +kernel, rfl, by decide +kernel, by decide +kernel⟩
theorem ok__right {f__right : Addr} {fd__right : FuncData} (D__right : DefAt K mg "_right" s__right ["a", "b"] f__right fd__right) (g_SHIFTS : GV K mg "SHIFTS" d_SHIFTS) : FnOk P w K mg base (L2.CX P w) 1 f__right fd__right ["a", "b"] (spM K 2 (m__right)) := by
  have sc := sc__right
  refine fn_def (m := b__right) D__right.F sc rfl rfl fun cdv A outer s H E hr => ?_
  unfold b__right
  exact (SMs.one (s_ret (e_shr (e_v 0) (e_band (e_v 1) (e_g g_SHIFTS)))))
theorem sc__equal : FnScope ["a", "b"] ["a", "b"] (defScope s__equal) := ⟨rfl, rfl, rfl, by decide +kernel, rfl, by decide +kernel, by decide +kernel⟩
theorem ok__equal {f__equal : Addr} {fd__equal : FuncData} (D__equal : DefAt K mg "_equal" s__equal ["a", "b"] f__equal fd__equal) : FnOk P w K mg base (L2.CX P w) 1 f__equal fd__equal ["a", "b"] (spM K 2 (m__equal)) := by
  have sc := sc__equal
  refine fn_def (m := b__equal) D__equal.F sc rfl rfl fun cdv A outer s H E hr => ?_
  unfold b__equal
  exact (SMs.one (s_ret (e_if (b_cmp (or_eqA hr) ok_eq (e_v 0) (e_v 1) (nomark _)) e_int e_int)))
theorem sc__less : FnScope ["a", "b"] ["a", "b"] (defScope s__less) := ⟨rfl, rfl, rfl, by decide +kernel, rfl, by decide +kernel, by decide +kernel⟩
theorem ok__less {f__less : Addr} {fd__less : FuncData} (D__less : DefAt K mg "_less" s__less ["a", "b"] f__less fd__less) : FnOk P w K mg base (L2.CX P w) 1 f__less fd__less ["a", "b"] (spM K 2 (m__less)) := by
  have sc := sc__less
  refine fn_def (m := b__less) D__less.F sc rfl rfl fun cdv A outer s H E hr => ?_
  unfold b__less
  exact (SMs.one (s_ret (e_if (b_cmp op_lt ok_lt (e_v 0) (e_v 1) (nomark _)) e_int e_int)))
theorem sc__at_most : FnScope ["a", "b"] ["a", "b"] (defScope s__at_most) := ⟨rfl, rfl, rfl, by decide +kernel, rfl, by decide +kernel, by decide +kernel⟩
theorem ok__at_most {f__at_most : Addr} {fd__at_most : FuncData} (D__at_most : DefAt K mg "_at_most" s__at_most ["a", "b"] f__at_most fd__at_most) : FnOk P w K mg base (L2.CX P w) 1 f__at_most fd__at_most ["a", "b"] (spM K 2 (m__at_most)) := by
  have sc := sc__at_most
  refine fn_def (m := b__at_most) D__at_most.F sc rfl rfl fun cdv A outer s H E hr => ?_
  unfold b__at_most
  exact (SMs.one (s_ret (e_if (b_cmp op_le ok_le (e_v 0) (e_v 1) (nomark _)) e_int e_int)))
theorem sc__div : FnScope ["a", "b"] ["a", "b"] (defScope s__div) := ⟨rfl, rfl, rfl, by decide +kernel, rfl, by decide +kernel, by decide +kernel⟩
theorem ok__div {f__div : Addr} {fd__div : FuncData} (D__div : DefAt K mg "_div" s__div ["a", "b"] f__div fd__div) : FnOk P w K mg base (L2.CX P w) 1 f__div fd__div ["a", "b"] (spM K 2 (m__div)) := by
  have sc := sc__div
  refine fn_def (m := b__div) D__div.F sc rfl rfl fun cdv A outer s H E hr => ?_
  unfold b__div
  exact (SMs.one (s_ret (e_if (b_cmp (or_eqA hr) ok_eq (e_v 1) e_int (nomark _)) e_int (e_fdiv (e_v 0) (e_v 1)))))
theorem sc__mod : FnScope ["a", "b"] ["a", "b"] (defScope s__mod) := ⟨rfl, rfl, rfl, by decide +kernel, rfl, by decide +kernel, by decide +kernel⟩
theorem ok__mod {f__mod : Addr} {fd__mod : FuncData} (D__mod : DefAt K mg "_mod" s__mod ["a", "b"] f__mod fd__mod) : FnOk P w K mg base (L2.CX P w) 1 f__mod fd__mod ["a", "b"] (spM K 2 (m__mod)) := by
  have sc := sc__mod
  refine fn_def (m := b__mod) D__mod.F sc rfl rfl fun cdv A outer s H E hr => ?_
  unfold b__mod
  exact (SMs.one (s_ret (e_if (b_cmp (or_eqA hr) ok_eq (e_v 1) e_int (nomark _)) (e_v 0) (e_mod (e_v 0) (e_v 1)))))
theorem sc_apply : FnScope ["sign", "a", "b", "action"] ["sign", "a", "b"] (defScope s_apply) := ⟨rfl, rfl, rfl, by decide +kernel, rfl, by decide +kernel, by decide +kernel⟩
theorem ok_apply {f_apply : Addr} {fd_apply : FuncData} {f__plus : Addr} {fd__plus : FuncData} {f__minus : Addr} {fd__minus : FuncData} {f__times : Addr} {fd__times : FuncData} {f__both : Addr} {fd__both : FuncData} {f__either : Addr} {fd__either : FuncData} {f__apart : Addr} {fd__apart : FuncData} {f__left : Addr} {fd__left : FuncData} {f__right : Addr} {fd__right : FuncData} {f__equal : Addr} {fd__equal : FuncData} {f__less : Addr} {fd__less : FuncData} {f__at_most : Addr} {fd__at_most : FuncData} {f__div : Addr} {fd__div : FuncData} {f__mod : Addr} {fd__mod : FuncData} {cA : Nat → Addr} (D_apply : DefAt K mg "apply" s_apply ["sign", "a", "b"] f_apply fd_apply) (D__plus : DefAt K mg "_plus" s__plus ["a", "b"] f__plus fd__plus) (D__minus : DefAt K mg "_minus" s__minus ["a", "b"] f__minus fd__minus) (D__times : DefAt K mg "_times" s__times ["a", "b"] f__times fd__times) (D__both : DefAt K mg "_both" s__both ["a", "b"] f__both fd__both) (D__either : DefAt K mg "_either" s__either ["a", "b"] f__either fd__either) (D__apart : DefAt K mg "_apart" s__apart ["a", "b"] f__apart fd__apart) (D__left : DefAt K mg "_left" s__left ["a", "b"] f__left fd__left) (D__right : DefAt K mg "_right" s__right ["a", "b"] f__right fd__right) (D__equal : DefAt K mg "_equal" s__equal ["a", "b"] f__equal fd__equal) (D__less : DefAt K mg "_less" s__less ["a", "b"] f__less fd__less) (D__at_most : DefAt K mg "_at_most" s__at_most ["a", "b"] f__at_most fd__at_most) (D__div : DefAt K mg "_div" s__div ["a", "b"] f__div fd__div) (D__mod : DefAt K mg "_mod" s__mod ["a", "b"] f__mod fd__mod) (G__plus : FnOk P w K mg base (L2.CX P w) 1 f__plus fd__plus ["a", "b"] (spM K 2 m__plus)) (G__minus : FnOk P w K mg base (L2.CX P w) 1 f__minus fd__minus ["a", "b"] (spM K 2 m__minus)) (G__times : FnOk P w K mg base (L2.CX P w) 1 f__times fd__times ["a", "b"] (spM K 2 m__times)) (G__both : FnOk P w K mg base (L2.CX P w) 1 f__both fd__both ["a", "b"] (spM K 2 m__both)) (G__either : FnOk P w K mg base (L2.CX P w) 1 f__either fd__either ["a", "b"] (spM K 2 m__either)) (G__apart : FnOk P w K mg base (L2.CX P w) 1 f__apart fd__apart ["a", "b"] (spM K 2 m__apart)) (G__left : FnOk P w K mg base (L2.CX P w) 1 f__left fd__left ["a", "b"] (spM K 2 m__left)) (G__right : FnOk P w K mg base (L2.CX P w) 1 f__right fd__right ["a", "b"] (spM K 2 m__right)) (G__equal : FnOk P w K mg base (L2.CX P w) 1 f__equal fd__equal ["a", "b"] (spM K 2 m__equal)) (G__less : FnOk P w K mg base (L2.CX P w) 1 f__less fd__less ["a", "b"] (spM K 2 m__less)) (G__at_most : FnOk P w K mg base (L2.CX P w) 1 f__at_most fd__at_most ["a", "b"] (spM K 2 m__at_most)) (G__div : FnOk P w K mg base (L2.CX P w) 1 f__div fd__div ["a", "b"] (spM K 2 m__div)) (G__mod : FnOk P w K mg base (L2.CX P w) 1 f__mod fd__mod ["a", "b"] (spM K 2 m__mod)) (g_ACTIONS : KD K w mg "ACTIONS" (d_ACTIONS cA)) (E__plus : cA 1 = f__plus) (E__minus : cA 2 = f__minus) (E__times : cA 3 = f__times) (E__both : cA 4 = f__both) (E__either : cA 5 = f__either) (E__apart : cA 6 = f__apart) (E__left : cA 7 = f__left) (E__right : cA 8 = f__right) (E__equal : cA 9 = f__equal) (E__less : cA 10 = f__less) (E__at_most : cA 11 = f__at_most) (E__div : cA 12 = f__div) (E__mod : cA 13 = f__mod) : FnOk P w K mg base (L2.CX P w) 2 f_apply fd_apply ["sign", "a", "b"] (spM K 3 (m_apply cA)) := by
  have sc := sc_apply
  refine fn_def (m := b_apply cA) D_apply.F sc rfl rfl fun cdv A outer s H E hr => ?_
  unfold b_apply
  exact (SMs.cons (s_set (i := 3) sc.nd (e_ixK g_ACTIONS (e_v 0)))
    (SMs.one (s_ret (e_calA (k := 1) (i := 3) (HOks.cons (hok E__plus G__plus (by decide) D__plus.F.kp D__plus.b len__plus) (HOks.cons (hok E__minus G__minus (by decide) D__minus.F.kp D__minus.b len__minus) (HOks.cons (hok E__times G__times (by decide) D__times.F.kp D__times.b len__times) (HOks.cons (hok E__both G__both (by decide) D__both.F.kp D__both.b len__both) (HOks.cons (hok E__either G__either (by decide) D__either.F.kp D__either.b len__either) (HOks.cons (hok E__apart G__apart (by decide) D__apart.F.kp D__apart.b len__apart) (HOks.cons (hok E__left G__left (by decide) D__left.F.kp D__left.b len__left) (HOks.cons (hok E__right G__right (by decide) D__right.F.kp D__right.b len__right) (HOks.cons (hok E__equal G__equal (by decide) D__equal.F.kp D__equal.b len__equal) (HOks.cons (hok E__less G__less (by decide) D__less.F.kp D__less.b len__less) (HOks.cons (hok E__at_most G__at_most (by decide) D__at_most.F.kp D__at_most.b len__at_most) (HOks.cons (hok E__div G__div (by decide) D__div.F.kp D__div.b len__div) (HOks.cons (hok E__mod G__mod (by decide) D__mod.F.kp D__mod.b len__mod) HOks.nil))))))))))))) (hr.mono (by decide)) pass_def (l_cons (e_v 1) (l_cons (e_v 2) l_nil))))))
theorem sc__law_done : FnScope ["r", "row", "regs", "cells"] ["r", "row"] (defScope s__law_done) := ⟨rfl, rfl, rfl, by decide +kernel, rfl, by decide +kernel, by decide +kernel⟩
theorem ok__law_done {f__law_done : Addr} {fd__law_done : FuncData} {f_apply : Addr} {fd_apply : FuncData} {cA : Nat → Addr} (D__law_done : DefAt K mg "_law_done" s__law_done ["r", "row"] f__law_done fd__law_done) (D_apply : DefAt K mg "apply" s_apply ["sign", "a", "b"] f_apply fd_apply) (G_apply : FnOk P w K mg base (L2.CX P w) 2 f_apply fd_apply ["sign", "a", "b"] (spM K 3 (m_apply cA))) (z_int : mg "int" = none) (z_len : mg "len" = none) : FnOk P w K mg base (L2.CX P w) 3 f__law_done fd__law_done ["r", "row"] (spM K 2 (m__law_done cA)) := by
  have sc := sc__law_done
  refine fn_def (m := b__law_done cA) D__law_done.F sc rfl rfl fun cdv A outer s H E hr => ?_
  unfold b__law_done
  exact (SMs.cons (s_set (i := 2) sc.nd (e_ix (hu_of hr) (e_v 0) e_str))
    (SMs.one (s_if (b_cmp (or_eqA hr) ok_eq (e_ix (hu_of hr) (e_v 1) e_int) e_str (nomark _)) (SMs.one (s_sub (hu_of hr) (e_ix (hu_of hr) (e_v 1) e_int) (e_v 2) (e_ix (hu_of hr) (e_v 1) e_int))) (SMs.one (s_if (b_cmp (or_eqA hr) ok_eq (e_ix (hu_of hr) (e_v 1) e_int) e_str (nomark _)) (SMs.one (s_sub (hu_of hr) (e_get2 (hu_of hr) (e_v 2) (e_ix (hu_of hr) (e_v 1) e_int) e_int) (e_v 2) (e_ix (hu_of hr) (e_v 1) e_int))) (SMs.one (s_if (b_cmp (or_eqA hr) ok_eq (e_ix (hu_of hr) (e_v 1) e_int) e_str (nomark _)) (SMs.one (s_sub (hu_of hr) (e_fn G_apply len_apply (hr.mono (by decide)) (by rfl) D_apply.g D_apply.F.kp D_apply.b (fun _ => Passes.at pass_def _) (l_cons (e_ix (hu_of hr) (e_v 1) e_int) (l_cons (e_get2 (hu_of hr) (e_v 2) (e_ix (hu_of hr) (e_v 1) e_int) e_int) (l_cons (e_get2 (hu_of hr) (e_v 2) (e_ix (hu_of hr) (e_v 1) e_int) e_int) l_nil)))) (e_v 2) (e_ix (hu_of hr) (e_v 1) e_int))) (SMs.one (s_if (b_cmp (or_eqA hr) ok_eq (e_ix (hu_of hr) (e_v 1) e_int) e_str (nomark _)) (SMs.one (s_sub (hu_of hr) (e_get2 (hu_of hr) (e_v 2) (e_ix (hu_of hr) (e_lst (l_cons (e_ix (hu_of hr) (e_v 1) e_int) (l_cons (e_ix (hu_of hr) (e_v 1) e_int) l_nil))) (c_int z_int (l_cons (e_cmp (or_neA hr) ok_ne (e_get2 (hu_of hr) (e_v 2) (e_ix (hu_of hr) (e_v 1) e_int) e_int) e_int (nomark _)) l_nil))) e_int) (e_v 2) (e_ix (hu_of hr) (e_v 1) e_int))) (SMs.one (s_if (b_cmp (or_eqA hr) ok_eq (e_ix (hu_of hr) (e_v 1) e_int) e_str (nomark _)) (SMs.cons (s_set (i := 3) sc.nd (e_ix (hu_of hr) (e_ix (hu_of hr) (e_v 0) e_str) (e_ix (hu_of hr) (e_v 1) e_int)))
    (SMs.one (s_sub (hu_of hr) (e_ix (hu_of hr) (e_v 3) (e_mod (c_int z_int (l_cons (e_get2 (hu_of hr) (e_v 2) (e_ix (hu_of hr) (e_v 1) e_int) e_int) l_nil)) (c_len z_len (l_cons (e_v 3) l_nil)))) (e_v 2) (e_ix (hu_of hr) (e_v 1) e_int)))) (SMs.one (s_if (b_cmp (or_eqA hr) ok_eq (e_ix (hu_of hr) (e_v 1) e_int) e_str (nomark _)) (SMs.cons (s_set (i := 3) sc.nd (e_ix (hu_of hr) (e_ix (hu_of hr) (e_v 0) e_str) (e_ix (hu_of hr) (e_v 1) e_int)))
    (SMs.one (s_sub (hu_of hr) (e_get2 (hu_of hr) (e_v 2) (e_ix (hu_of hr) (e_v 1) e_int) e_int) (e_v 3) (e_mod (c_int z_int (l_cons (e_get2 (hu_of hr) (e_v 2) (e_ix (hu_of hr) (e_v 1) e_int) e_int) l_nil)) (c_len z_len (l_cons (e_v 3) l_nil)))))) (SMs.one (s_expr (e_bm PySem.F.plainAttrs_list PySem.F.slot_list_append PySem.F.type_list_append mt_append ok_append (e_ix (hu_of hr) (e_v 0) e_str) (l_cons (e_get2 (hu_of hr) (e_v 2) (e_ix (hu_of hr) (e_v 1) e_int) e_int) l_nil)))))))))))))))))
theorem sc_size_of : FnScope ["length", "size"] ["length"] (defScope s_size_of) := ⟨rfl, rfl, rfl, by decide +kernel, rfl, by decide +kernel, by decide +kernel⟩
theorem ok_size_of {f_size_of : Addr} {fd_size_of : FuncData} (D_size_of : DefAt K mg "size_of" s_size_of ["length"] f_size_of fd_size_of) : FnOk P w K mg base (L2.CX P w) 1 f_size_of fd_size_of ["length"] (spM K 1 (m_size_of)) := by
  have sc := sc_size_of
  refine fn_def (m := b_size_of) D_size_of.F sc rfl rfl fun cdv A outer s H E hr => ?_
  unfold b_size_of
  exact (SMs.cons (s_set (i := 1) sc.nd e_int)
    (SMs.cons (s_while (passes_of rfl) (b_cmp op_lt ok_lt (e_v 1) (e_v 0) (nomark _)) (SMs.one (s_iadd (i := 1) sc.nd (e_v 1))))
    (SMs.one (s_ret (e_v 1)))))
theorem sc__law_run : FnScope ["program", "inputs", "contents", "most", "r", "k", "block", "at", "step", "row", "cells"] ["program", "inputs", "contents", "most"] (defScope s__law_run) := ⟨rfl, rfl, rfl, by decide +kernel, rfl, by decide +kernel, by decide +kernel⟩
theorem ok__law_run {f__law_run : Addr} {fd__law_run : FuncData} {f_size_of : Addr} {fd_size_of : FuncData} {f__law_done : Addr} {fd__law_done : FuncData} {cA : Nat → Addr} (D__law_run : DefAt K mg "_law_run" s__law_run ["program", "inputs", "contents", "most"] f__law_run fd__law_run) (D_size_of : DefAt K mg "size_of" s_size_of ["length"] f_size_of fd_size_of) (D__law_done : DefAt K mg "_law_done" s__law_done ["r", "row"] f__law_done fd__law_done) (G_size_of : FnOk P w K mg base (L2.CX P w) 1 f_size_of fd_size_of ["length"] (spM K 1 m_size_of)) (G__law_done : FnOk P w K mg base (L2.CX P w) 3 f__law_done fd__law_done ["r", "row"] (spM K 2 (m__law_done cA))) (z_range : mg "range" = none) (z_len : mg "len" = none) (z_list : mg "list" = none) (z_tuple : mg "tuple" = none) (z_int : mg "int" = none) : FnOk P w K mg base (L2.CX P w) 4 f__law_run fd__law_run ["program", "inputs", "contents", "most"] (spM K 4 (m__law_run cA)) := by
  have sc := sc__law_run
  refine fn_def (m := b__law_run cA) D__law_run.F sc rfl rfl fun cdv A outer s H E hr => ?_
  unfold b__law_run
  exact (SMs.cons (s_set (i := 4) sc.nd (e_disp (dp_cons e_str e_dicK (dp_cons e_str (e_lst l_nil) (dp_cons e_str (e_lst l_nil) dp_nil)))))
    (SMs.cons (s_for (passes_of rfl) rfl (i_rng1 z_range (l_cons (c_len z_len (l_cons (e_v 1) l_nil)) l_nil)) (g_n (i := 5) sc.nd) (SMs.one (s_sub (hu_of hr) (e_ix (hu_of hr) (e_v 1) (e_v 5)) (e_ix (hu_of hr) (e_v 4) e_str) (e_v 5))))
    (SMs.cons (s_for (passes_of rfl) rfl (i_rng1 z_range (l_cons (c_len z_len (l_cons (e_v 2) l_nil)) l_nil)) (g_n (i := 5) sc.nd) (SMs.one (s_expr (e_bm PySem.F.plainAttrs_list PySem.F.slot_list_append PySem.F.type_list_append mt_append ok_append (e_ix (hu_of hr) (e_v 4) e_str) (l_cons (e_add (c_list rfl z_list (l_cons (e_ix (hu_of hr) (e_v 2) (e_v 5)) l_nil)) (e_mul (e_lst (l_cons e_int l_nil)) (e_sub (e_fn G_size_of len_size_of (hr.mono (by decide)) (by rfl) D_size_of.g D_size_of.F.kp D_size_of.b (fun _ => Passes.at pass_def _) (l_cons (c_len z_len (l_cons (e_ix (hu_of hr) (e_v 2) (e_v 5)) l_nil)) l_nil)) (c_len z_len (l_cons (e_ix (hu_of hr) (e_v 2) (e_v 5)) l_nil))))) l_nil)))))
    (SMs.cons (s_set (i := 6) sc.nd e_int)
    (SMs.cons (s_set (i := 7) sc.nd e_int)
    (SMs.cons (s_for (passes_of rfl) rfl (i_rng1 z_range (l_cons (e_v 3) l_nil)) (g_n (i := 8) sc.nd) (SMs.cons (s_set (i := 9) sc.nd (e_ix (hu_of hr) (e_ix (hu_of hr) (e_ix (hu_of hr) (e_v 0) e_int) (e_v 6)) (e_v 7)))
    (SMs.cons (s_if (b_cmp (or_eqA hr) ok_eq (e_ix (hu_of hr) (e_v 9) e_int) e_str (nomark _)) (SMs.cons (s_set (i := 10) sc.nd (c_tuple z_tuple (l_cons (e_lc rfl sc.nd (i_rng1 z_range (l_cons (c_len z_len (l_cons (e_v 2) l_nil)) l_nil)) (blkOk_by (own := [("k", 5)]) (by rfl)) (gok_n (i := 5) rfl) (fun _ _ _ _ _ => pg_name (i := 5) sc.nd rfl (by first | exact Or.inl rfl | exact Or.inr rfl)) (fun _ _ _ _ _ => ct_nil) (fun _ _ _ _ _ => (c_tuple z_tuple (l_cons (e_slice (e_ix (hu_of hr) (e_ix (hu_of hr) (e_v 4) e_str) (e_v 5)) o_no (o_some (c_len z_len (l_cons (e_ix (hu_of hr) (e_v 2) (e_v 5)) l_nil)))) l_nil)))) l_nil)))
    (SMs.one (s_ret (e_tup (l_cons (e_add (e_v 8) e_int) (l_cons (e_tup (l_cons (c_tuple z_tuple (l_cons (e_ix (hu_of hr) (e_v 4) e_str) l_nil)) (l_cons (e_get2 (hu_of hr) (e_ix (hu_of hr) (e_v 4) e_str) (e_ix (hu_of hr) (e_v 9) e_int) e_int) (l_cons (e_v 10) l_nil)))) l_nil)))))) SMs.nil)
    (SMs.cons (s_iadd (i := 7) sc.nd e_int)
    (SMs.one (s_if (b_cmp (or_eqA hr) ok_eq (e_ix (hu_of hr) (e_v 9) e_int) e_str (nomark _)) (SMs.cons (s_set (i := 6) sc.nd (e_ix (hu_of hr) (e_v 9) e_int))
    (SMs.one (s_set (i := 7) sc.nd e_int))) (SMs.one (s_if (b_cmp (or_eqA hr) ok_eq (e_ix (hu_of hr) (e_v 9) e_int) e_str (nomark _)) (SMs.cons (s_set (i := 6) sc.nd (e_ix (hu_of hr) (e_lst (l_cons (e_ix (hu_of hr) (e_v 9) e_int) (l_cons (e_ix (hu_of hr) (e_v 9) e_int) l_nil))) (c_int z_int (l_cons (e_cmp (or_neA hr) ok_ne (e_get2 (hu_of hr) (e_ix (hu_of hr) (e_v 4) e_str) (e_ix (hu_of hr) (e_v 9) e_int) e_int) e_int (nomark _)) l_nil))))
    (SMs.one (s_set (i := 7) sc.nd e_int))) (SMs.one (s_expr (e_fn G__law_done len__law_done (hr.mono (by decide)) (by rfl) D__law_done.g D__law_done.F.kp D__law_done.b (fun _ => Passes.at pass_def _) (l_cons (e_v 4) (l_cons (e_v 9) l_nil)))))))))))))
    (SMs.one (s_ret (e_tup (l_cons (e_add (e_v 3) e_int) (l_cons e_non l_nil)))))))))))
theorem sc__law_draws : FnScope ["script", "many", "draws", "mixed", "k", "cell", "rest", "turn"] ["script", "many"] (defScope s__law_draws) := ⟨rfl, rfl, rfl, by decide +kernel, rfl, by decide +kernel, by decide +kernel⟩
theorem ok__law_draws {f__law_draws : Addr} {fd__law_draws : FuncData} (D__law_draws : DefAt K mg "_law_draws" s__law_draws ["script", "many"] f__law_draws fd__law_draws) (z_range : mg "range" = none) (z_len : mg "len" = none) (z_abs : mg "abs" = none) (z_int : mg "int" = none) : FnOk P w K mg base (L2.CX P w) 1 f__law_draws fd__law_draws ["script", "many"] (spM K 2 (m__law_draws)) := by
  have sc := sc__law_draws
  refine fn_def (m := b__law_draws) D__law_draws.F sc rfl rfl fun cdv A outer s H E hr => ?_
  unfold b__law_draws
  exact (SMs.cons (s_set (i := 2) sc.nd (e_lst l_nil))
    (SMs.cons (s_set (i := 3) sc.nd e_int)
    (SMs.cons (s_for (passes_of rfl) rfl (i_rng1 z_range (l_cons (c_len z_len (l_cons (e_v 0) l_nil)) l_nil)) (g_n (i := 4) sc.nd) (SMs.cons (s_set (i := 5) sc.nd (c_abs z_abs (l_cons (c_int z_int (l_cons (e_ix (hu_of hr) (e_v 0) (e_v 4)) l_nil)) l_nil)))
    (SMs.cons (s_set (i := 3) sc.nd (e_mod (c_int z_int (l_cons (e_add (e_add (e_mul (e_v 3) e_int) (e_mod (e_v 5) e_int)) (e_v 4)) l_nil)) e_int))
    (SMs.cons (s_set (i := 6) sc.nd e_int)
    (SMs.cons (s_if (b_cmp op_ge ok_ge (e_v 5) (e_pow e_int e_int) (nomark _)) (SMs.one (s_set (i := 6) sc.nd (e_v 5))) (SMs.cons (s_expr (e_bm PySem.F.plainAttrs_list PySem.F.slot_list_append PySem.F.type_list_append mt_append ok_append (e_v 2) (l_cons (e_mod (c_int z_int (l_cons (e_v 5) l_nil)) e_int) l_nil)))
    (SMs.one (s_expr (e_bm PySem.F.plainAttrs_list PySem.F.slot_list_append PySem.F.type_list_append mt_append ok_append (e_v 2) (l_cons (e_mod (e_mod (c_int z_int (l_cons (e_add (e_mul (e_v 3) e_int) e_int) l_nil)) e_int) e_int) l_nil))))))
    (SMs.one (s_for (passes_of rfl) rfl (i_rng1 z_range (l_cons e_int l_nil)) (g_n (i := 7) sc.nd) (SMs.one (s_if (b_cmp op_gt ok_gt (e_v 6) e_int (nomark _)) (SMs.cons (s_expr (e_bm PySem.F.plainAttrs_list PySem.F.slot_list_append PySem.F.type_list_append mt_append ok_append (e_v 2) (l_cons (e_mod (c_int z_int (l_cons (e_v 6) l_nil)) e_int) l_nil)))
    (SMs.one (s_set (i := 6) sc.nd (e_fdiv (e_v 6) e_int)))) SMs.nil)))))))))
    (SMs.cons (s_for (passes_of rfl) rfl (i_rng1 z_range (l_cons (e_v 1) l_nil)) (g_n (i := 4) sc.nd) (SMs.cons (s_set (i := 3) sc.nd (e_mod (c_int z_int (l_cons (e_add (e_add (e_mul (e_v 3) e_int) (e_v 4)) e_int) l_nil)) e_int))
    (SMs.one (s_expr (e_bm PySem.F.plainAttrs_list PySem.F.slot_list_append PySem.F.type_list_append mt_append ok_append (e_v 2) (l_cons (e_mod (c_int z_int (l_cons (e_v 3) l_nil)) e_int) l_nil))))))
    (SMs.one (s_ret (e_slice (e_v 2) o_no (o_some (e_v 1)))))))))
theorem sc_parts_like : FnScope ["row", "kind", "form", "part", "like"] ["row", "kind"] (defScope s_parts_like) := ⟨rfl, rfl, rfl, by decide +kernel, rfl, by decide +kernel, by decide +kernel⟩
theorem ok_parts_like {f_parts_like : Addr} {fd_parts_like : FuncData} (D_parts_like : DefAt K mg "parts_like" s_parts_like ["row", "kind"] f_parts_like fd_parts_like) (g_FORMS : KD K w mg "FORMS" d_FORMS) (z_tuple : mg "tuple" = none) (z_zip : mg "zip" = none) : FnOk P w K mg base (L2.CX P w) 1 f_parts_like fd_parts_like ["row", "kind"] (spM K 2 (m_parts_like)) := by
  have sc := sc_parts_like
  refine fn_def (m := b_parts_like) D_parts_like.F sc rfl rfl fun cdv A outer s H E hr => ?_
  unfold b_parts_like
  exact (SMs.cons (s_set (i := 2) sc.nd (e_ixK g_FORMS (e_ix (hu_of hr) (e_v 0) e_int)))
    (SMs.one (s_ret (c_tuple z_tuple (l_cons (e_lc rfl sc.nd (i_zip z_zip (l_cons (e_slice (e_v 0) (o_some e_int) o_no) (l_cons (e_v 2) l_nil))) (blkOk_by (own := [("part", 3), ("like", 4)]) (by rfl)) (gok_t (is := [3, 4]) (by decide)) (fun _ _ _ _ _ => pg_tup rfl (pgs_cons (pg_name (i := 3) sc.nd rfl (by first | exact Or.inl rfl | exact Or.inr rfl)) (pgs_cons (pg_name (i := 4) sc.nd rfl (by first | exact Or.inl rfl | exact Or.inr rfl)) pgs_nil))) (fun _ _ _ _ _ => ct_one (b_cmp (or_eqA hr) ok_eq (e_v 4) (e_v 1) (nomark _))) (fun _ _ _ _ _ => (e_v 3))) l_nil)))))
theorem sc_registers_of : FnScope ["row"] ["row"] (defScope s_registers_of) := ⟨rfl, rfl, rfl, by decide +kernel, rfl, by decide +kernel, by decide +kernel⟩
theorem ok_registers_of {f_registers_of : Addr} {fd_registers_of : FuncData} {f_parts_like : Addr} {fd_parts_like : FuncData} (D_registers_of : DefAt K mg "registers_of" s_registers_of ["row"] f_registers_of fd_registers_of) (D_parts_like : DefAt K mg "parts_like" s_parts_like ["row", "kind"] f_parts_like fd_parts_like) (G_parts_like : FnOk P w K mg base (L2.CX P w) 1 f_parts_like fd_parts_like ["row", "kind"] (spM K 2 m_parts_like)) : FnOk P w K mg base (L2.CX P w) 2 f_registers_of fd_registers_of ["row"] (spM K 1 (m_registers_of)) := by
  have sc := sc_registers_of
  refine fn_def (m := b_registers_of) D_registers_of.F sc rfl rfl fun cdv A outer s H E hr => ?_
  unfold b_registers_of
  exact (SMs.one (s_ret (e_add (e_fn G_parts_like len_parts_like (hr.mono (by decide)) (by rfl) D_parts_like.g D_parts_like.F.kp D_parts_like.b (fun _ => Passes.at pass_def _) (l_cons (e_v 0) (l_cons e_str l_nil))) (e_fn G_parts_like len_parts_like (hr.mono (by decide)) (by rfl) D_parts_like.g D_parts_like.F.kp D_parts_like.b (fun _ => Passes.at pass_def _) (l_cons (e_v 0) (l_cons e_str l_nil))))))
theorem sc_named_registers : FnScope ["program", "named", "block", "row", "number"] ["program"] (defScope s_named_registers) := ⟨rfl, rfl, rfl, by decide +kernel, rfl, by decide +kernel, by decide +kernel⟩
theorem ok_named_registers {f_named_registers : Addr} {fd_named_registers : FuncData} {f_registers_of : Addr} {fd_registers_of : FuncData} (D_named_registers : DefAt K mg "named_registers" s_named_registers ["program"] f_named_registers fd_named_registers) (D_registers_of : DefAt K mg "registers_of" s_registers_of ["row"] f_registers_of fd_registers_of) (G_registers_of : FnOk P w K mg base (L2.CX P w) 2 f_registers_of fd_registers_of ["row"] (spM K 1 m_registers_of)) (z_range : mg "range" = none) : FnOk P w K mg base (L2.CX P w) 3 f_named_registers fd_named_registers ["program"] (spM K 1 (m_named_registers)) := by
  have sc := sc_named_registers
  refine fn_def (m := b_named_registers) D_named_registers.F sc rfl rfl fun cdv A outer s H E hr => ?_
  unfold b_named_registers
  exact (SMs.cons (s_setDc (i := 1) rfl sc.nd (swD_true rfl rfl rfl (by decide +kernel)) (i_rng1 z_range (l_cons (e_ix (hu_of hr) (e_v 0) e_int) l_nil)) (blkOk_by (own := [("number", 4)]) (by rfl)) (gok_n (i := 4) rfl) (fun _ _ _ _ _ => pg_name (i := 4) sc.nd rfl (by first | exact Or.inl rfl | exact Or.inr rfl)) (fun _ _ _ _ _ => ct_nil) (fun _ _ _ _ _ => (e_v 4)) (fun _ _ _ _ _ => e_bl))
    (SMs.cons (s_for (passes_of rfl) rfl (i_it (e_ix (hu_of hr) (e_v 0) e_int)) (g_n (i := 2) sc.nd) (SMs.one (s_for (passes_of rfl) rfl (i_it (e_v 2)) (g_n (i := 3) sc.nd) (SMs.one (s_for (passes_of rfl) rfl (i_it (e_fn G_registers_of len_registers_of (hr.mono (by decide)) (by rfl) D_registers_of.g D_registers_of.F.kp D_registers_of.b (fun _ => Passes.at pass_def _) (l_cons (e_v 3) l_nil))) (g_n (i := 4) sc.nd) (SMs.one (s_sub (hu_of hr) e_bl (e_v 1) (e_v 4))))))))
    (SMs.one (s_ret (e_v 1)))))
theorem sc_register_count : FnScope ["program"] ["program"] (defScope s_register_count) := ⟨rfl, rfl, rfl, by decide +kernel, rfl, by decide +kernel, by decide +kernel⟩
theorem ok_register_count {f_register_count : Addr} {fd_register_count : FuncData} {f_named_registers : Addr} {fd_named_registers : FuncData} (D_register_count : DefAt K mg "register_count" s_register_count ["program"] f_register_count fd_register_count) (D_named_registers : DefAt K mg "named_registers" s_named_registers ["program"] f_named_registers fd_named_registers) (G_named_registers : FnOk P w K mg base (L2.CX P w) 3 f_named_registers fd_named_registers ["program"] (spM K 1 m_named_registers)) (z_max : mg "max" = none) (z_list : mg "list" = none) : FnOk P w K mg base (L2.CX P w) 4 f_register_count fd_register_count ["program"] (spM K 1 (m_register_count)) := by
  have sc := sc_register_count
  refine fn_def (m := b_register_count) D_register_count.F sc rfl rfl fun cdv A outer s H E hr => ?_
  unfold b_register_count
  exact (SMs.one (s_ret (e_add (e_maxDf rfl hr.units z_max (c_list rfl z_list (l_cons (e_fn G_named_registers len_named_registers (hr.mono (by decide)) (by rfl) D_named_registers.g D_named_registers.F.kp D_named_registers.b (fun _ => Passes.at pass_def _) (l_cons (e_v 0) l_nil)) l_nil)) (e_neg e_int)) e_int)))
theorem sc_IrRun_m___init__ : FnScope ["self", "program", "inputs", "contents", "array", "row", "size"] ["self", "program", "inputs", "contents"] (defScope s_IrRun_m___init__) := ⟨rfl, rfl, rfl, by decide +kernel, rfl, by decide +kernel, by decide +kernel⟩
theorem ok_IrRun_m___init__ {f_IrRun_m___init__ : Addr} {fd_IrRun_m___init__ : FuncData} {f_register_count : Addr} {fd_register_count : FuncData} {f_size_of : Addr} {fd_size_of : FuncData} {cA : Nat → Addr} (D_IrRun_m___init__ : MetAt K "__init__" "IrRun.__init__" s_IrRun_m___init__ ["self", "program", "inputs", "contents"] f_IrRun_m___init__ fd_IrRun_m___init__) (D_register_count : DefAt K mg "register_count" s_register_count ["program"] f_register_count fd_register_count) (D_size_of : DefAt K mg "size_of" s_size_of ["length"] f_size_of fd_size_of) (G_register_count : FnOk P w K mg base (L2.CX P w) 4 f_register_count fd_register_count ["program"] (spM K 1 m_register_count)) (G_size_of : FnOk P w K mg base (L2.CX P w) 1 f_size_of fd_size_of ["length"] (spM K 1 m_size_of)) (z_list : mg "list" = none) (z_len : mg "len" = none) (z_zip : mg "zip" = none) (fo_arrays : FOk K [cA 0] "arrays") (fo_registers : FOk K [cA 0] "registers") (fo_cells : FOk K [cA 0] "cells") (fo_masks : FOk K [cA 0] "masks") (fo_outs : FOk K [cA 0] "outs") : FnOk P w K mg base (L2.CX P w) 5 f_IrRun_m___init__ fd_IrRun_m___init__ ["self", "program", "inputs", "contents"] (spM K 4 (m_IrRun_m___init__ cA)) := by
  have sc := sc_IrRun_m___init__
  refine fn_def (m := b_IrRun_m___init__ cA) D_IrRun_m___init__.F sc rfl rfl fun cdv A outer s H E hr => ?_
  unfold b_IrRun_m___init__
  exact (SMs.cons (s_fldset fo_arrays (e_ix (hu_of hr) (e_v 1) e_int) (e_v 0))
    (SMs.cons (s_fldset fo_registers (e_mul (e_lst (l_cons e_int l_nil)) (e_fn G_register_count len_register_count (hr.mono (by decide)) (by rfl) D_register_count.g D_register_count.F.kp D_register_count.b (fun _ => Passes.at pass_def _) (l_cons (e_v 1) l_nil))) (e_v 0))
    (SMs.cons (s_asg (c_list rfl z_list (l_cons (e_v 2) l_nil)) (g_to (e_fld fo_registers (e_v 0)) (o_some (c_len z_len (l_cons (e_v 2) l_nil)))))
    (SMs.cons (s_fldset fo_cells (e_lst l_nil) (e_v 0))
    (SMs.cons (s_fldset fo_masks (e_lst l_nil) (e_v 0))
    (SMs.cons (s_for (passes_of rfl) rfl (i_zip z_zip (l_cons (e_fld fo_arrays (e_v 0)) (l_cons (e_v 3) l_nil))) (g_tup rfl (gs_cons (g_n (i := 4) sc.nd) (gs_cons (g_n (i := 5) sc.nd) gs_nil))) (SMs.cons (s_set (i := 6) sc.nd (e_fn G_size_of len_size_of (hr.mono (by decide)) (by rfl) D_size_of.g D_size_of.F.kp D_size_of.b (fun _ => Passes.at pass_def _) (l_cons (e_ix (hu_of hr) (e_v 4) e_int) l_nil)))
    (SMs.cons (s_expr (e_bm PySem.F.plainAttrs_list PySem.F.slot_list_append PySem.F.type_list_append mt_append ok_append (e_fld fo_cells (e_v 0)) (l_cons (e_add (c_list rfl z_list (l_cons (e_v 5) l_nil)) (e_mul (e_lst (l_cons e_int l_nil)) (e_sub (e_v 6) (e_ix (hu_of hr) (e_v 4) e_int)))) l_nil)))
    (SMs.one (s_expr (e_bm PySem.F.plainAttrs_list PySem.F.slot_list_append PySem.F.type_list_append mt_append ok_append (e_fld fo_masks (e_v 0)) (l_cons (e_sub (e_v 6) e_int) l_nil)))))))
    (SMs.one (s_fldset fo_outs (e_lst l_nil) (e_v 0)))))))))
theorem sc_IrRun_m_do_rows : FnScope ["self", "rows", "held", "row", "word", "action"] ["self", "rows"] (defScope s_IrRun_m_do_rows) := ⟨rfl, rfl, rfl, by decide +kernel, rfl, by decide +kernel, by decide +kernel⟩
theorem ok_IrRun_m_do_rows {f_IrRun_m_do_rows : Addr} {fd_IrRun_m_do_rows : FuncData} {f__plus : Addr} {fd__plus : FuncData} {f__minus : Addr} {fd__minus : FuncData} {f__times : Addr} {fd__times : FuncData} {f__both : Addr} {fd__both : FuncData} {f__either : Addr} {fd__either : FuncData} {f__apart : Addr} {fd__apart : FuncData} {f__left : Addr} {fd__left : FuncData} {f__right : Addr} {fd__right : FuncData} {f__equal : Addr} {fd__equal : FuncData} {f__less : Addr} {fd__less : FuncData} {f__at_most : Addr} {fd__at_most : FuncData} {f__div : Addr} {fd__div : FuncData} {f__mod : Addr} {fd__mod : FuncData} {cA : Nat → Addr} (D_IrRun_m_do_rows : MetAt K "do_rows" "IrRun.do_rows" s_IrRun_m_do_rows ["self", "rows"] f_IrRun_m_do_rows fd_IrRun_m_do_rows) (D__plus : DefAt K mg "_plus" s__plus ["a", "b"] f__plus fd__plus) (D__minus : DefAt K mg "_minus" s__minus ["a", "b"] f__minus fd__minus) (D__times : DefAt K mg "_times" s__times ["a", "b"] f__times fd__times) (D__both : DefAt K mg "_both" s__both ["a", "b"] f__both fd__both) (D__either : DefAt K mg "_either" s__either ["a", "b"] f__either fd__either) (D__apart : DefAt K mg "_apart" s__apart ["a", "b"] f__apart fd__apart) (D__left : DefAt K mg "_left" s__left ["a", "b"] f__left fd__left) (D__right : DefAt K mg "_right" s__right ["a", "b"] f__right fd__right) (D__equal : DefAt K mg "_equal" s__equal ["a", "b"] f__equal fd__equal) (D__less : DefAt K mg "_less" s__less ["a", "b"] f__less fd__less) (D__at_most : DefAt K mg "_at_most" s__at_most ["a", "b"] f__at_most fd__at_most) (D__div : DefAt K mg "_div" s__div ["a", "b"] f__div fd__div) (D__mod : DefAt K mg "_mod" s__mod ["a", "b"] f__mod fd__mod) (G__plus : FnOk P w K mg base (L2.CX P w) 1 f__plus fd__plus ["a", "b"] (spM K 2 m__plus)) (G__minus : FnOk P w K mg base (L2.CX P w) 1 f__minus fd__minus ["a", "b"] (spM K 2 m__minus)) (G__times : FnOk P w K mg base (L2.CX P w) 1 f__times fd__times ["a", "b"] (spM K 2 m__times)) (G__both : FnOk P w K mg base (L2.CX P w) 1 f__both fd__both ["a", "b"] (spM K 2 m__both)) (G__either : FnOk P w K mg base (L2.CX P w) 1 f__either fd__either ["a", "b"] (spM K 2 m__either)) (G__apart : FnOk P w K mg base (L2.CX P w) 1 f__apart fd__apart ["a", "b"] (spM K 2 m__apart)) (G__left : FnOk P w K mg base (L2.CX P w) 1 f__left fd__left ["a", "b"] (spM K 2 m__left)) (G__right : FnOk P w K mg base (L2.CX P w) 1 f__right fd__right ["a", "b"] (spM K 2 m__right)) (G__equal : FnOk P w K mg base (L2.CX P w) 1 f__equal fd__equal ["a", "b"] (spM K 2 m__equal)) (G__less : FnOk P w K mg base (L2.CX P w) 1 f__less fd__less ["a", "b"] (spM K 2 m__less)) (G__at_most : FnOk P w K mg base (L2.CX P w) 1 f__at_most fd__at_most ["a", "b"] (spM K 2 m__at_most)) (G__div : FnOk P w K mg base (L2.CX P w) 1 f__div fd__div ["a", "b"] (spM K 2 m__div)) (G__mod : FnOk P w K mg base (L2.CX P w) 1 f__mod fd__mod ["a", "b"] (spM K 2 m__mod)) (g_ACTIONS : KD K w mg "ACTIONS" (d_ACTIONS cA)) (fo_registers : FOk K [cA 0] "registers") (fo_cells : FOk K [cA 0] "cells") (fo_masks : FOk K [cA 0] "masks") (fo_outs : FOk K [cA 0] "outs") (E__plus : cA 1 = f__plus) (E__minus : cA 2 = f__minus) (E__times : cA 3 = f__times) (E__both : cA 4 = f__both) (E__either : cA 5 = f__either) (E__apart : cA 6 = f__apart) (E__left : cA 7 = f__left) (E__right : cA 8 = f__right) (E__equal : cA 9 = f__equal) (E__less : cA 10 = f__less) (E__at_most : cA 11 = f__at_most) (E__div : cA 12 = f__div) (E__mod : cA 13 = f__mod) : FnOk P w K mg base (L2.CX P w) 2 f_IrRun_m_do_rows fd_IrRun_m_do_rows ["self", "rows"] (spM K 2 (m_IrRun_m_do_rows cA)) := by
  have sc := sc_IrRun_m_do_rows
  refine fn_def (m := b_IrRun_m_do_rows cA) D_IrRun_m_do_rows.F sc rfl rfl fun cdv A outer s H E hr => ?_
  unfold b_IrRun_m_do_rows
  exact (SMs.cons (s_set (i := 2) sc.nd (e_fld fo_registers (e_v 0)))
    (SMs.one (s_for (passes_of rfl) rfl (i_it (e_v 1)) (g_n (i := 3) sc.nd) (SMs.cons (s_set (i := 4) sc.nd (e_ix (hu_of hr) (e_v 3) e_int))
    (SMs.one (s_if (b_cmp (or_eqA hr) ok_eq (e_v 4) e_str (nomark _)) (SMs.cons (s_set (i := 5) sc.nd (e_ixK g_ACTIONS (e_ix (hu_of hr) (e_v 3) e_int)))
    (SMs.one (s_sub (hu_of hr) (e_calA (k := 1) (i := 5) (HOks.cons (hok E__plus G__plus (by decide) D__plus.F.kp D__plus.b len__plus) (HOks.cons (hok E__minus G__minus (by decide) D__minus.F.kp D__minus.b len__minus) (HOks.cons (hok E__times G__times (by decide) D__times.F.kp D__times.b len__times) (HOks.cons (hok E__both G__both (by decide) D__both.F.kp D__both.b len__both) (HOks.cons (hok E__either G__either (by decide) D__either.F.kp D__either.b len__either) (HOks.cons (hok E__apart G__apart (by decide) D__apart.F.kp D__apart.b len__apart) (HOks.cons (hok E__left G__left (by decide) D__left.F.kp D__left.b len__left) (HOks.cons (hok E__right G__right (by decide) D__right.F.kp D__right.b len__right) (HOks.cons (hok E__equal G__equal (by decide) D__equal.F.kp D__equal.b len__equal) (HOks.cons (hok E__less G__less (by decide) D__less.F.kp D__less.b len__less) (HOks.cons (hok E__at_most G__at_most (by decide) D__at_most.F.kp D__at_most.b len__at_most) (HOks.cons (hok E__div G__div (by decide) D__div.F.kp D__div.b len__div) (HOks.cons (hok E__mod G__mod (by decide) D__mod.F.kp D__mod.b len__mod) HOks.nil))))))))))))) (hr.mono (by decide)) pass_def (l_cons (e_ix (hu_of hr) (e_v 2) (e_ix (hu_of hr) (e_v 3) e_int)) (l_cons (e_ix (hu_of hr) (e_v 2) (e_ix (hu_of hr) (e_v 3) e_int)) l_nil))) (e_v 2) (e_ix (hu_of hr) (e_v 3) e_int)))) (SMs.one (s_if (b_cmp (or_eqA hr) ok_eq (e_v 4) e_str (nomark _)) (SMs.one (s_sub (hu_of hr) (e_ix (hu_of hr) (e_v 3) e_int) (e_v 2) (e_ix (hu_of hr) (e_v 3) e_int))) (SMs.one (s_if (b_cmp (or_eqA hr) ok_eq (e_v 4) e_str (nomark _)) (SMs.one (s_sub (hu_of hr) (e_ix (hu_of hr) (e_v 2) (e_ix (hu_of hr) (e_v 3) e_int)) (e_v 2) (e_ix (hu_of hr) (e_v 3) e_int))) (SMs.one (s_if (b_cmp (or_eqA hr) ok_eq (e_v 4) e_str (nomark _)) (SMs.one (s_sub (hu_of hr) (e_if (b_cmp (or_neA hr) ok_ne (e_ix (hu_of hr) (e_v 2) (e_ix (hu_of hr) (e_v 3) e_int)) e_int (nomark _)) (e_ix (hu_of hr) (e_v 2) (e_ix (hu_of hr) (e_v 3) e_int)) (e_ix (hu_of hr) (e_v 2) (e_ix (hu_of hr) (e_v 3) e_int))) (e_v 2) (e_ix (hu_of hr) (e_v 3) e_int))) (SMs.one (s_if (b_cmp (or_eqA hr) ok_eq (e_v 4) e_str (nomark _)) (SMs.one (s_sub (hu_of hr) (e_ix (hu_of hr) (e_ix (hu_of hr) (e_fld fo_cells (e_v 0)) (e_ix (hu_of hr) (e_v 3) e_int)) (e_band (e_ix (hu_of hr) (e_v 2) (e_ix (hu_of hr) (e_v 3) e_int)) (e_ix (hu_of hr) (e_fld fo_masks (e_v 0)) (e_ix (hu_of hr) (e_v 3) e_int)))) (e_v 2) (e_ix (hu_of hr) (e_v 3) e_int))) (SMs.one (s_if (b_cmp (or_eqA hr) ok_eq (e_v 4) e_str (nomark _)) (SMs.one (s_sub (hu_of hr) (e_ix (hu_of hr) (e_v 2) (e_ix (hu_of hr) (e_v 3) e_int)) (e_ix (hu_of hr) (e_fld fo_cells (e_v 0)) (e_ix (hu_of hr) (e_v 3) e_int)) (e_band (e_ix (hu_of hr) (e_v 2) (e_ix (hu_of hr) (e_v 3) e_int)) (e_ix (hu_of hr) (e_fld fo_masks (e_v 0)) (e_ix (hu_of hr) (e_v 3) e_int))))) (SMs.one (s_expr (e_bm PySem.F.plainAttrs_list PySem.F.slot_list_append PySem.F.type_list_append mt_append ok_append (e_fld fo_outs (e_v 0)) (l_cons (e_ix (hu_of hr) (e_v 2) (e_ix (hu_of hr) (e_v 3) e_int)) l_nil))))))))))))))))))))
theorem sc_IrRun_m_way : FnScope ["self", "row"] ["self", "row"] (defScope s_IrRun_m_way) := ⟨rfl, rfl, rfl, by decide +kernel, rfl, by decide +kernel, by decide +kernel⟩
theorem ok_IrRun_m_way {f_IrRun_m_way : Addr} {fd_IrRun_m_way : FuncData} {cA : Nat → Addr} (D_IrRun_m_way : MetAt K "way" "IrRun.way" s_IrRun_m_way ["self", "row"] f_IrRun_m_way fd_IrRun_m_way) (fo_registers : FOk K [cA 0] "registers") : FnOk P w K mg base (L2.CX P w) 1 f_IrRun_m_way fd_IrRun_m_way ["self", "row"] (spM K 2 (m_IrRun_m_way cA)) := by
  have sc := sc_IrRun_m_way
  refine fn_def (m := b_IrRun_m_way cA) D_IrRun_m_way.F sc rfl rfl fun cdv A outer s H E hr => ?_
  unfold b_IrRun_m_way
  exact (SMs.cons (s_if (b_cmp (or_eqA hr) ok_eq (e_ix (hu_of hr) (e_v 1) e_int) e_str (nomark _)) (SMs.one (s_ret (e_ix (hu_of hr) (e_v 1) e_int))) SMs.nil)
    (SMs.one (s_ret (e_if (b_cmp (or_neA hr) ok_ne (e_ix (hu_of hr) (e_fld fo_registers (e_v 0)) (e_ix (hu_of hr) (e_v 1) e_int)) e_int (nomark _)) (e_ix (hu_of hr) (e_v 1) e_int) (e_ix (hu_of hr) (e_v 1) e_int)))))
theorem sc_IrRun_m_contents : FnScope ["self", "array", "row"] ["self"] (defScope s_IrRun_m_contents) := ⟨rfl, rfl, rfl, by decide +kernel, rfl, by decide +kernel, by decide +kernel⟩
theorem ok_IrRun_m_contents {f_IrRun_m_contents : Addr} {fd_IrRun_m_contents : FuncData} {cA : Nat → Addr} (D_IrRun_m_contents : MetAt K "contents" "IrRun.contents" s_IrRun_m_contents ["self"] f_IrRun_m_contents fd_IrRun_m_contents) (z_tuple : mg "tuple" = none) (z_zip : mg "zip" = none) (fo_cells : FOk K [cA 0] "cells") (fo_arrays : FOk K [cA 0] "arrays") : FnOk P w K mg base (L2.CX P w) 1 f_IrRun_m_contents fd_IrRun_m_contents ["self"] (spM K 1 (m_IrRun_m_contents cA)) := by
  have sc := sc_IrRun_m_contents
  refine fn_def (m := b_IrRun_m_contents cA) D_IrRun_m_contents.F sc rfl rfl fun cdv A outer s H E hr => ?_
  unfold b_IrRun_m_contents
  exact (SMs.one (s_ret (c_tuple z_tuple (l_cons (e_lc rfl sc.nd (i_zip z_zip (l_cons (e_fld fo_arrays (e_v 0)) (l_cons (e_fld fo_cells (e_v 0)) l_nil))) (blkOk_by (own := [("array", 1), ("row", 2)]) (by rfl)) (gok_t (is := [1, 2]) (by decide)) (fun _ _ _ _ _ => pg_tup rfl (pgs_cons (pg_name (i := 1) sc.nd rfl (by first | exact Or.inl rfl | exact Or.inr rfl)) (pgs_cons (pg_name (i := 2) sc.nd rfl (by first | exact Or.inl rfl | exact Or.inr rfl)) pgs_nil))) (fun _ _ _ _ _ => ct_nil) (fun _ _ _ _ _ => (c_tuple z_tuple (l_cons (e_slice (e_v 2) o_no (o_some (e_ix (hu_of hr) (e_v 1) e_int))) l_nil)))) l_nil))))
theorem sc_run_ir : FnScope ["program", "inputs", "contents", "steps", "run", "blocks", "rows", "left", "last"] ["program", "inputs", "contents", "steps"] (defScope s_run_ir) := ⟨rfl, rfl, rfl, by decide +kernel, rfl, by decide +kernel, by decide +kernel⟩
theorem ok_run_ir {f_run_ir : Addr} {fd_run_ir : FuncData} {f_IrRun_m___init__ : Addr} {fd_IrRun_m___init__ : FuncData} {f_IrRun_m_do_rows : Addr} {fd_IrRun_m_do_rows : FuncData} {f_IrRun_m_contents : Addr} {fd_IrRun_m_contents : FuncData} {f_IrRun_m_way : Addr} {fd_IrRun_m_way : FuncData} {cA : Nat → Addr} (D_run_ir : DefAt K mg "run_ir" s_run_ir ["program", "inputs", "contents", "steps"] f_run_ir fd_run_ir) (D_IrRun_m___init__ : MetAt K "__init__" "IrRun.__init__" s_IrRun_m___init__ ["self", "program", "inputs", "contents"] f_IrRun_m___init__ fd_IrRun_m___init__) (D_IrRun_m_do_rows : MetAt K "do_rows" "IrRun.do_rows" s_IrRun_m_do_rows ["self", "rows"] f_IrRun_m_do_rows fd_IrRun_m_do_rows) (D_IrRun_m_contents : MetAt K "contents" "IrRun.contents" s_IrRun_m_contents ["self"] f_IrRun_m_contents fd_IrRun_m_contents) (D_IrRun_m_way : MetAt K "way" "IrRun.way" s_IrRun_m_way ["self", "row"] f_IrRun_m_way fd_IrRun_m_way) (G_IrRun_m___init__ : FnOk P w K mg base (L2.CX P w) 5 f_IrRun_m___init__ fd_IrRun_m___init__ ["self", "program", "inputs", "contents"] (spM K 4 (m_IrRun_m___init__ cA))) (G_IrRun_m_do_rows : FnOk P w K mg base (L2.CX P w) 2 f_IrRun_m_do_rows fd_IrRun_m_do_rows ["self", "rows"] (spM K 2 (m_IrRun_m_do_rows cA))) (G_IrRun_m_contents : FnOk P w K mg base (L2.CX P w) 1 f_IrRun_m_contents fd_IrRun_m_contents ["self"] (spM K 1 (m_IrRun_m_contents cA))) (G_IrRun_m_way : FnOk P w K mg base (L2.CX P w) 1 f_IrRun_m_way fd_IrRun_m_way ["self", "row"] (spM K 2 (m_IrRun_m_way cA))) (z_len : mg "len" = none) (z_tuple : mg "tuple" = none) (N_IrRun : mg "IrRun" = some (.ref (cA 0))) (M_IrRun : Mk K (cA 0) f_IrRun_m___init__) (X_IrRun_do_rows : Cls K (cA 0) ∧ Meth K (cA 0) "do_rows" f_IrRun_m_do_rows) (X_IrRun_contents : Cls K (cA 0) ∧ Meth K (cA 0) "contents" f_IrRun_m_contents) (X_IrRun_way : Cls K (cA 0) ∧ Meth K (cA 0) "way" f_IrRun_m_way) (fo_registers : FOk K [cA 0] "registers") (fo_outs : FOk K [cA 0] "outs") : FnOk P w K mg base (L2.CX P w) 7 f_run_ir fd_run_ir ["program", "inputs", "contents", "steps"] (spM K 4 (m_run_ir cA)) := by
  have sc := sc_run_ir
  refine fn_def (m := b_run_ir cA) D_run_ir.F sc rfl rfl fun cdv A outer s H E hr => ?_
  unfold b_run_ir
  exact (SMs.cons (s_set (i := 4) sc.nd (e_make M_IrRun G_IrRun_m___init__ len_IrRun_m___init__ (hr.mono (by decide)) (by rfl) N_IrRun D_IrRun_m___init__.b pass_def (l_cons (e_v 0) (l_cons (e_v 1) (l_cons (e_v 2) l_nil)))))
    (SMs.cons (s_set (i := 5) sc.nd (e_ix (hu_of hr) (e_v 0) e_int))
    (SMs.cons (s_set (i := 6) sc.nd (e_ix (hu_of hr) (e_v 5) e_int))
    (SMs.cons (s_set (i := 7) sc.nd (e_v 3))
    (SMs.cons (s_while (passes_of rfl) (b_cmp op_le ok_le (c_len z_len (l_cons (e_v 6) l_nil)) (e_v 7) (nomark _)) (SMs.cons (s_isub (i := 7) sc.nd (c_len z_len (l_cons (e_v 6) l_nil)))
    (SMs.cons (s_expr (e_meth (k := 2) (MOks.one (mok X_IrRun_do_rows.1 X_IrRun_do_rows.2 G_IrRun_m_do_rows (by decide) D_IrRun_m_do_rows.b len_IrRun_m_do_rows)) (hr.mono (by decide)) pass_def (e_v 4) (l_cons (e_slice (e_v 6) o_no (o_some (e_neg e_int))) l_nil)))
    (SMs.cons (s_set (i := 8) sc.nd (e_ix (hu_of hr) (e_v 6) (e_neg e_int)))
    (SMs.cons (s_if (b_cmp (or_eqA hr) ok_eq (e_ix (hu_of hr) (e_v 8) e_int) e_str (nomark _)) (SMs.one (s_ret (e_tup (l_cons (c_tuple z_tuple (l_cons (e_fld fo_outs (e_v 4)) l_nil)) (l_cons (e_ix (hu_of hr) (e_fld fo_registers (e_v 4)) (e_ix (hu_of hr) (e_v 8) e_int)) (l_cons (e_meth0 (k := 1) (MOks.one (mok X_IrRun_contents.1 X_IrRun_contents.2 G_IrRun_m_contents (by decide) D_IrRun_m_contents.b len_IrRun_m_contents)) (hr.mono (by decide)) pass_def (e_v 4)) l_nil)))))) SMs.nil)
    (SMs.one (s_set (i := 6) sc.nd (e_ix (hu_of hr) (e_v 5) (e_meth (k := 1) (MOks.one (mok X_IrRun_way.1 X_IrRun_way.2 G_IrRun_m_way (by decide) D_IrRun_m_way.b len_IrRun_m_way)) (hr.mono (by decide)) pass_def (e_v 4) (l_cons (e_v 8) l_nil))))))))))
    (SMs.one (s_ret e_non)))))))
theorem sc__law_word : FnScope ["w"] ["w"] (defScope s__law_word) := ⟨rfl, rfl, rfl, by decide +kernel, rfl, by decide +kernel, by decide +kernel⟩
theorem ok__law_word {f__law_word : Addr} {fd__law_word : FuncData} {f__law_next : Addr} {fd__law_next : FuncData} (D__law_word : DefAt K mg "_law_word" s__law_word ["w"] f__law_word fd__law_word) (D__law_next : DefAt K mg "_law_next" s__law_next ["w", "many"] f__law_next fd__law_next) (G__law_next : FnOk P w K mg base (L2.CX P w) 1 f__law_next fd__law_next ["w", "many"] (spM K 2 m__law_next)) : FnOk P w K mg base (L2.CX P w) 2 f__law_word fd__law_word ["w"] (spM K 1 (m__law_word)) := by
  have sc := sc__law_word
  refine fn_def (m := b__law_word) D__law_word.F sc rfl rfl fun cdv A outer s H E hr => ?_
  unfold b__law_word
  exact (SMs.one (s_ret (e_ix (hu_of hr) (e_lst (l_cons (e_fn G__law_next len__law_next (hr.mono (by decide)) (by rfl) D__law_next.g D__law_next.F.kp D__law_next.b (fun _ => Passes.at pass_def _) (l_cons (e_v 0) (l_cons e_int l_nil))) (l_cons (e_fn G__law_next len__law_next (hr.mono (by decide)) (by rfl) D__law_next.g D__law_next.F.kp D__law_next.b (fun _ => Passes.at pass_def _) (l_cons (e_v 0) (l_cons e_int l_nil))) (l_cons (e_sub e_int (e_fn G__law_next len__law_next (hr.mono (by decide)) (by rfl) D__law_next.g D__law_next.F.kp D__law_next.b (fun _ => Passes.at pass_def _) (l_cons (e_v 0) (l_cons e_int l_nil)))) (l_cons (e_mul (e_fn G__law_next len__law_next (hr.mono (by decide)) (by rfl) D__law_next.g D__law_next.F.kp D__law_next.b (fun _ => Passes.at pass_def _) (l_cons (e_v 0) (l_cons e_int l_nil))) e_int) l_nil))))) (e_fn G__law_next len__law_next (hr.mono (by decide)) (by rfl) D__law_next.g D__law_next.F.kp D__law_next.b (fun _ => Passes.at pass_def _) (l_cons (e_v 0) (l_cons e_int l_nil))))))
theorem sc_law : FnScope ["script", "w", "program", "inputs", "contents", "most", "taken", "result", "k", "name", "length", "label"] ["script"] (defScope s_law) := ⟨rfl, rfl, rfl, by decide +kernel, rfl, by decide +kernel, by decide +kernel⟩
theorem ok_law {f_law : Addr} {fd_law : FuncData} {f__law_draws : Addr} {fd__law_draws : FuncData} {f__law_program : Addr} {fd__law_program : FuncData} {f__law_word : Addr} {fd__law_word : FuncData} {f__law_next : Addr} {fd__law_next : FuncData} {f__law_run : Addr} {fd__law_run : FuncData} {f_run_ir : Addr} {fd_run_ir : FuncData} {cA : Nat → Addr} (D_law : DefAt K mg "law" s_law ["script"] f_law fd_law) (D__law_draws : DefAt K mg "_law_draws" s__law_draws ["script", "many"] f__law_draws fd__law_draws) (D__law_program : DefAt K mg "_law_program" s__law_program ["w"] f__law_program fd__law_program) (D__law_word : DefAt K mg "_law_word" s__law_word ["w"] f__law_word fd__law_word) (D__law_next : DefAt K mg "_law_next" s__law_next ["w", "many"] f__law_next fd__law_next) (D__law_run : DefAt K mg "_law_run" s__law_run ["program", "inputs", "contents", "most"] f__law_run fd__law_run) (D_run_ir : DefAt K mg "run_ir" s_run_ir ["program", "inputs", "contents", "steps"] f_run_ir fd_run_ir) (G__law_draws : FnOk P w K mg base (L2.CX P w) 1 f__law_draws fd__law_draws ["script", "many"] (spM K 2 m__law_draws)) (G__law_program : FnOk P w K mg base (L2.CX P w) 3 f__law_program fd__law_program ["w"] (spM K 1 m__law_program)) (G__law_word : FnOk P w K mg base (L2.CX P w) 2 f__law_word fd__law_word ["w"] (spM K 1 m__law_word)) (G__law_next : FnOk P w K mg base (L2.CX P w) 1 f__law_next fd__law_next ["w", "many"] (spM K 2 m__law_next)) (G__law_run : FnOk P w K mg base (L2.CX P w) 4 f__law_run fd__law_run ["program", "inputs", "contents", "most"] (spM K 4 (m__law_run cA))) (G_run_ir : FnOk P w K mg base (L2.CX P w) 7 f_run_ir fd_run_ir ["program", "inputs", "contents", "steps"] (spM K 4 (m_run_ir cA))) (z_tuple : mg "tuple" = none) (z_range : mg "range" = none) : FnOk P w K mg base (L2.CX P w) 8 f_law fd_law ["script"] (spM K 1 (m_law cA)) := by
  have sc := sc_law
  refine fn_def (m := b_law cA) D_law.F sc rfl rfl fun cdv A outer s H E hr => ?_
  unfold b_law
  exact (SMs.cons (s_set (i := 1) sc.nd (e_disp (dp_cons e_str (e_fn G__law_draws len__law_draws (hr.mono (by decide)) (by rfl) D__law_draws.g D__law_draws.F.kp D__law_draws.b (fun _ => Passes.at pass_def _) (l_cons (e_v 0) (l_cons e_int l_nil))) (dp_cons e_str e_int dp_nil))))
    (SMs.cons (s_set (i := 2) sc.nd (e_fn G__law_program len__law_program (hr.mono (by decide)) (by rfl) D__law_program.g D__law_program.F.kp D__law_program.b (fun _ => Passes.at pass_def _) (l_cons (e_v 1) l_nil)))
    (SMs.cons (s_set (i := 3) sc.nd (c_tuple z_tuple (l_cons (e_lc rfl sc.nd (i_rng1 z_range (l_cons (e_ix (hu_of hr) (e_v 2) e_int) l_nil)) (blkOk_by (own := [("k", 8)]) (by rfl)) (gok_n (i := 8) rfl) (fun _ _ _ _ _ => pg_name (i := 8) sc.nd rfl (by first | exact Or.inl rfl | exact Or.inr rfl)) (fun _ _ _ _ _ => ct_nil) (fun _ _ _ _ _ => (e_fn G__law_word len__law_word (hr.mono (by decide)) (by rfl) D__law_word.g D__law_word.F.kp D__law_word.b (fun _ => Passes.at passL _) (l_cons (e_v 1) l_nil)))) l_nil)))
    (SMs.cons (s_set (i := 4) sc.nd (c_tuple z_tuple (l_cons (e_lc rfl sc.nd (i_it (e_ix (hu_of hr) (e_v 2) e_int)) (blkOk_by (own := [("name", 9), ("length", 10), ("label", 11)]) (by rfl)) (gok_t (is := [9, 10, 11]) (by decide)) (fun _ _ _ _ _ => pg_tup rfl (pgs_cons (pg_name (i := 9) sc.nd rfl (by first | exact Or.inl rfl | exact Or.inr rfl)) (pgs_cons (pg_name (i := 10) sc.nd rfl (by first | exact Or.inl rfl | exact Or.inr rfl)) (pgs_cons (pg_name (i := 11) sc.nd rfl (by first | exact Or.inl rfl | exact Or.inr rfl)) pgs_nil)))) (fun _ _ _ _ _ => ct_nil) (fun _ _ _ _ _ => (c_tuple z_tuple (l_cons (e_lc rfl sc.nd (i_rng1 z_range (l_cons (e_v 10) l_nil)) (blkOk_by (own := [("k", 8)]) (by rfl)) (gok_n (i := 8) rfl) (fun _ _ _ _ _ => pg_name (i := 8) sc.nd rfl (by first | exact Or.inl rfl | exact Or.inr rfl)) (fun _ _ _ _ _ => ct_nil) (fun _ _ _ _ _ => (e_fn G__law_word len__law_word (hr.mono (by decide)) (by rfl) D__law_word.g D__law_word.F.kp D__law_word.b (fun _ => Passes.at passL _) (l_cons (e_v 1) l_nil)))) l_nil)))) l_nil)))
    (SMs.cons (s_set (i := 5) sc.nd (e_fn G__law_next len__law_next (hr.mono (by decide)) (by rfl) D__law_next.g D__law_next.F.kp D__law_next.b (fun _ => Passes.at pass_def _) (l_cons (e_v 1) (l_cons e_int l_nil))))
    (SMs.cons (s_asg (e_fn G__law_run len__law_run (hr.mono (by decide)) (by rfl) D__law_run.g D__law_run.F.kp D__law_run.b (fun _ => Passes.at pass_def _) (l_cons (e_v 2) (l_cons (e_v 3) (l_cons (e_v 4) (l_cons (e_v 5) l_nil))))) (g_tup rfl (gs_cons (g_n (i := 6) sc.nd) (gs_cons (g_n (i := 7) sc.nd) gs_nil))))
    (SMs.cons (s_if (b_cmp (or_neA hr) ok_ne (e_fn G_run_ir len_run_ir (hr.mono (by decide)) (by rfl) D_run_ir.g D_run_ir.F.kp D_run_ir.b (fun _ => Passes.at pass_def _) (l_cons (e_v 2) (l_cons (e_v 3) (l_cons (e_v 4) (l_cons (e_v 5) l_nil))))) (e_v 7) (nomark _)) (SMs.one (s_ret e_bl)) SMs.nil)
    (SMs.cons (s_if (b_cmp or_isA ok_is (e_v 7) e_non (nomark _)) (SMs.one (s_ret e_bl)) SMs.nil)
    (SMs.one (s_ret (e_and (e_cmp (or_eqA hr) ok_eq (e_fn G_run_ir len_run_ir (hr.mono (by decide)) (by rfl) D_run_ir.g D_run_ir.F.kp D_run_ir.b (fun _ => Passes.at pass_def _) (l_cons (e_v 2) (l_cons (e_v 3) (l_cons (e_v 4) (l_cons (e_v 6) l_nil))))) (e_v 7) (nomark _)) (e_one (e_cmp or_isA ok_is (e_fn G_run_ir len_run_ir (hr.mono (by decide)) (by rfl) D_run_ir.g D_run_ir.F.kp D_run_ir.b (fun _ => Passes.at pass_def _) (l_cons (e_v 2) (l_cons (e_v 3) (l_cons (e_v 4) (l_cons (e_sub (e_v 6) e_int) l_nil))))) e_non (nomark _))))))))))))))
end
end GK61
set_option Elab.async false
set_option linter.all false
set_option maxRecDepth 100000
namespace Ly
open PySem PySem.Spec L2
open PyProof.Rows hiding St
structure IS where
  regs : Nat → Nat
  cells : List (List Nat)
  outs : List Nat
def IS.cell (s : IS) (i : Nat) : List Nat := s.cells.getD i []
def upN (f : Nat → Nat) (d w : Nat) : Nat → Nat := fun x => if x = d then w else f x
def IS.exec (s : IS) : Row → IS
  | .const d n => { s with regs := upN s.regs d n.toNat }
  | .copy d a => { s with regs := upN s.regs d (s.regs a) }
  | .op z d a b => { s with regs := upN s.regs d (opN z (s.regs a) (s.regs b)) }
  | .select d c a b => { s with regs := upN s.regs d (if s.regs c ≠ 0 then s.regs a else s.regs b) }
  | .load d i a => { s with regs := upN s.regs d ((s.cell i).getD (s.regs a % (s.cell i).length) 0) }
  | .store i a v => { s with cells := s.cells.set i ((s.cell i).set (s.regs a % (s.cell i).length) (s.regs v)) }
  | .out a => { s with outs := s.outs ++ [s.regs a] }
  | _ => s
structure ISok (zs : List Nat) (s : IS) (k : Nat) : Prop where
  lt : ∀ a, s.regs a < 4294967296
  zl : s.cells.map List.length = zs
  clt : ∀ c ∈ s.cells, ∀ w ∈ c, w < 4294967296
  sh : s.outs.length ≤ k
section
variable {zs : List Nat} {s : IS} {k nb : Nat} {r : Row}
theorem ISok.len (h : ISok zs s k) : s.cells.length = zs.length := by rw [← h.zl, List.length_map]
theorem ISok.at (h : ISok zs s k) {i : Nat} (hi : i < zs.length) : s.cells[i]? = some (s.cell i) ∧ zs[i]? = some (s.cell i).length := by
  have hi2 : i < s.cells.length := by rw [h.len]; exact hi
  have e : s.cells[i]? = some (s.cell i) := by unfold IS.cell; simp [List.getD, List.getElem?_eq_getElem hi2]
  refine ⟨e, ?_⟩
  rw [← h.zl, List.getElem?_map, e]; rfl
theorem ISok.cell_lt (h : ISok zs s k) (i j : Nat) : (s.cell i).getD j 0 < 4294967296 := by
  unfold IS.cell
  simp only [List.getD]
  cases e : s.cells[i]? with
  | none => simp
  | some c =>
    simp only [Option.getD_some]
    cases e2 : c[j]? with
    | none => simp
    | some w => simpa using h.clt c (List.mem_of_getElem? e) w (List.mem_of_getElem? e2)
theorem upN_lt {f : Nat → Nat} {d w : Nat} (h : ∀ a, f a < 4294967296) (hw : w < 4294967296) : ∀ a, upN f d w a < 4294967296 := fun a => by
  unfold upN; split
  · exact hw
  · exact h a
theorem ISok.reg (h : ISok zs s k) {d w : Nat} (hw : w < 4294967296) : ISok zs { s with regs := upN s.regs d w } (k + 1) :=
  ⟨upN_lt h.lt hw, h.zl, h.clt, by have := h.sh; show s.outs.length ≤ _; omega⟩
theorem ISok.more (h : ISok zs s k) {m : Nat} (hm : k ≤ m) : ISok zs s m := ⟨h.lt, h.zl, h.clt, by have := h.sh; omega⟩
theorem ISok.exec (h : ISok zs s k) (hr : r.ok 9 zs.length nb) : ISok zs (s.exec r) (k + 1) := by
  cases r with
  | const d n => exact h.reg (by have := hr.2; omega)
  | copy d a => exact h.reg (h.lt a)
  | op z d a b => exact h.reg (opN_lt (h.lt a) (h.lt b))
  | select d c a b =>
    refine h.reg ?_
    split
    · exact h.lt a
    · exact h.lt b
  | load d i a => exact h.reg (h.cell_lt _ _)
  | store i a v =>
    obtain ⟨e1, e2⟩ := h.at hr.1
    refine ⟨h.lt, ?_, ?_, by have := h.sh; show s.outs.length ≤ _; omega⟩
    · show (s.cells.set i _).map List.length = zs
      rw [List.map_set, List.length_set, h.zl]
      refine List.ext_getElem? fun j => ?_
      by_cases hj : i = j
      · subst hj; rw [List.getElem?_set_self (List.getElem?_eq_some_iff.mp e2).1, e2]
      · rw [List.getElem?_set_ne hj]
    · intro c hc w hw
      rcases List.mem_or_eq_of_mem_set hc with h1 | rfl
      · exact h.clt c h1 w hw
      · rcases List.mem_or_eq_of_mem_set hw with h1 | rfl
        · exact h.clt _ (List.mem_of_getElem? e1) w h1
        · exact h.lt v
  | out a => exact ⟨h.lt, h.zl, h.clt, by have := h.sh; show (s.outs ++ [_]).length ≤ _; simp; omega⟩
  | jump t => exact h.more (by omega)
  | branch a t u => exact h.more (by omega)
  | stop a => exact h.more (by omega)
end
def bump (j : Nat) (o : Option (Nat × IS × Nat)) : Option (Nat × IS × Nat) := o.map fun x => (x.1 + j, x.2)
def IS.way (s : IS) : Row → Nat
  | .jump t => t
  | .branch a t u => if s.regs a ≠ 0 then t else u
  | _ => 0
def Row.stops : Row → Option Nat
  | .stop a => some a
  | _ => none
def rowAt (bl : List (List Row)) (b j : Nat) : Row := (bl.getD b []).getD j (.stop 0)
def lawR (bl : List (List Row)) : Nat → IS → Nat → Nat → Option (Nat × IS × Nat)
  | 0, _, _, _ => none
  | n + 1, s, b, j => match (rowAt bl b j).stops with
    | some a => some (1, s, a)
    | none => if (rowAt bl b j).last = true then bump 1 (lawR bl n s (s.way (rowAt bl b j)) 0) else bump 1 (lawR bl n (s.exec (rowAt bl b j)) b (j + 1))
theorem bump_bump {i j : Nat} {o : Option (Nat × IS × Nat)} : bump i (bump j o) = bump (j + i) o := by
  cases o with
  | none => rfl
  | some x => simp [bump]; omega
theorem bump0 {o : Option (Nat × IS × Nat)} : bump 0 o = o := by cases o <;> rfl
theorem lawR_le {bl : List (List Row)} : ∀ (n : Nat) (s : IS) (b j k : Nat) (r : IS × Nat), lawR bl n s b j = some (k, r) → 1 ≤ k ∧ k ≤ n
  | 0, _, _, _, _, _, h => by simp [lawR] at h
  | n + 1, s, b, j, k, r, h => by
    rw [lawR] at h
    have go : ∀ (s' : IS) (b' j' : Nat), bump 1 (lawR bl n s' b' j') = some (k, r) → 1 ≤ k ∧ k ≤ n + 1 := fun s' b' j' e => by
      cases e2 : lawR bl n s' b' j' with
      | none => rw [e2] at e; cases e
      | some x =>
        obtain ⟨k', r'⟩ := x
        rw [e2] at e
        have := lawR_le n s' b' j' k' r' e2
        simp only [bump, Option.map_some, Option.some.injEq, Prod.mk.injEq] at e
        omega
    split at h
    · simp at h; omega
    · split at h
      · exact go _ _ _ h
      · exact go _ _ _ h
theorem lawR_mono {bl : List (List Row)} : ∀ (n : Nat) (s : IS) (b j k : Nat) (r : IS × Nat), lawR bl n s b j = some (k, r) → ∀ m, (k ≤ m → lawR bl m s b j = some (k, r)) ∧ (m < k → lawR bl m s b j = none)
  | 0, _, _, _, _, _, h => by simp [lawR] at h
  | n + 1, s, b, j, k, r, h => fun m => by
    have hk := lawR_le _ _ _ _ _ _ h
    rw [lawR] at h
    cases m with
    | zero => exact ⟨fun e => by omega, fun _ => rfl⟩
    | succ m =>
      rw [lawR]
      have go : ∀ (s' : IS) (b' j' : Nat), bump 1 (lawR bl n s' b' j') = some (k, r) → (k ≤ m + 1 → bump 1 (lawR bl m s' b' j') = some (k, r)) ∧ (m + 1 < k → bump 1 (lawR bl m s' b' j') = none) := fun s' b' j' e => by
        cases e2 : lawR bl n s' b' j' with
        | none => rw [e2] at e; cases e
        | some x =>
          obtain ⟨k', r'⟩ := x
          rw [e2] at e
          simp only [bump, Option.map_some, Option.some.injEq, Prod.mk.injEq] at e
          obtain ⟨rfl, rfl⟩ := e
          obtain ⟨i1, i2⟩ := lawR_mono n s' b' j' k' r' e2 m
          exact ⟨fun e => by rw [i1 (by omega)]; rfl, fun e => by rw [i2 (by omega)]; rfl⟩
      split at h
      · rename_i a ea
        skip
        cases h
        exact ⟨fun _ => rfl, fun e => by omega⟩
      · rename_i ea
        skip
        split at h
        · rename_i hl
          rw [if_pos hl]
          exact go _ _ _ h
        · rename_i hl
          rw [if_neg hl]
          exact go _ _ _ h
def execs (s : IS) (rs : List Row) : IS := rs.foldl IS.exec s
theorem lawR_body {bl : List (List Row)} {b : Nat} {body : List Row} {r : Row} (hb : bl[b]? = some (body ++ [r])) (hl : ∀ x ∈ body, x.last = false) : ∀ (m j : Nat) (s : IS) (n : Nat), body.length - j = m → j ≤ body.length →
    lawR bl n s b j = if n ≤ m then none else bump m (lawR bl (n - m) (execs s (body.drop j)) b body.length) := by
  intro m
  induction m with
  | zero =>
    intro j s n e hj
    have : j = body.length := by omega
    subst this
    rw [List.drop_length]
    cases n with
    | zero => simp [lawR]
    | succ n => simp [bump0, execs]
  | succ m ih =>
    intro j s n e hj
    have hj2 : j < body.length := by omega
    have hrow : rowAt bl b j = body[j] := by
      unfold rowAt
      simp only [List.getD, hb, Option.getD_some]
      rw [List.getElem?_append_left hj2, List.getElem?_eq_getElem hj2]; rfl
    have hla := hl body[j] (List.getElem_mem hj2)
    have hst : (body[j]).stops = none := by
      cases e : body[j] <;> rw [e] at hla <;> simp [Row.last] at hla <;> rfl
    cases n with
    | zero => simp [lawR]
    | succ n =>
      rw [lawR, hrow, hst, hla]
      simp only [Bool.false_eq_true, if_false]
      rw [ih (j + 1) _ n (by omega) (by omega)]
      have hd : body.drop j = body[j] :: body.drop (j + 1) := List.drop_eq_getElem_cons hj2
      by_cases hn : n ≤ m
      · rw [if_pos hn, if_pos (by omega)]; rfl
      · rw [if_neg hn, if_neg (by omega), bump_bump, hd]
        have : n + 1 - (m + 1) = n - m := by omega
        rw [this]; rfl
theorem lawR_block {bl : List (List Row)} {b : Nat} {body : List Row} {r : Row} (hb : bl[b]? = some (body ++ [r])) (hl : ∀ x ∈ body, x.last = false) (hr : r.last = true) (s : IS) (n : Nat) :
    lawR bl n s b 0 = if n < body.length + 1 then none else match r.stops with
      | some a => some (body.length + 1, execs s body, a)
      | none => bump (body.length + 1) (lawR bl (n - (body.length + 1)) (execs s body) ((execs s body).way r) 0) := by
  rw [lawR_body hb hl body.length 0 s n (by omega) (by omega)]
  by_cases hn : n ≤ body.length
  · rw [if_pos hn, if_pos (by omega)]
  · rw [if_neg hn, if_neg (by omega)]
    obtain ⟨m, hm⟩ : ∃ m, n - body.length = m + 1 := ⟨n - body.length - 1, by omega⟩
    have hrow : rowAt bl b body.length = r := by
      unfold rowAt
      simp [List.getD, hb]
    rw [hm, lawR, hrow, List.drop_zero]
    have : n - (body.length + 1) = m := by omega
    rw [this]
    cases e : r.stops with
    | some a => simp [bump]; omega
    | none => simp only [hr, if_true]; rw [bump_bump]; congr 1; omega
structure CO (S : Hs) (qo qc : Nat) (ps : List Nat) (s : IS) : Prop where
  o : S[qo]? = some (.lst (s.outs.map nD))
  c : S[qc]? = some (.lst (ps.map D.ref))
  l : ps.length = s.cells.length
  e : ∀ k p : Nat, ps[k]? = some p → S[p]? = some (.lst ((s.cell k).map nD))
  nd : (qo :: qc :: ps).Nodup
section
variable {S S' : Hs} {qo qc : Nat} {ps : List Nat} {s : IS} {B : List Nat}
theorem CO.kp (h : CO S qo qc ps s) (k : Kp B S S') (hb : ∀ x ∈ qo :: qc :: ps, x ∉ B) : CO S' qo qc ps s :=
  ⟨k.get h.o (hb _ (by simp)), k.get h.c (hb _ (by simp)), h.l, fun i p e => k.get (h.e i p e) (hb _ (by simp [List.mem_of_getElem? e])), h.nd⟩
theorem CO.set (h : CO S qo qc ps s) {q : Nat} {o : O} (hq : q ∉ qo :: qc :: ps) : CO (S.set q o) qo qc ps s :=
  h.kp (B := [q]) (Kp.set (by simp)) fun x hx => by simp; rintro rfl; exact hq hx
theorem CO.new (h : CO S qo qc ps s) {g : Hs} : CO (S ++ g) qo qc ps s := h.kp (B := []) Kp.new fun _ _ => by simp
theorem CO.out (h : CO S qo qc ps s) {w : Nat} : CO (S.set qo (.lst (s.outs.map nD ++ [nD w]))) qo qc ps { s with outs := s.outs ++ [w] } := by
  have nd := h.nd
  simp only [List.nodup_cons, List.mem_cons, not_or] at nd
  refine ⟨by rw [get_put h.o]; simp, get_set_ne h.c (Ne.symm nd.1.1), h.l, fun k p e => ?_, h.nd⟩
  have : p ≠ qo := fun e2 => nd.1.2 (e2 ▸ List.mem_of_getElem? e)
  exact get_set_ne (h.e k p e) this
theorem CO.store (h : CO S qo qc ps s) {i p j w : Nat} (hi : ps[i]? = some p) : CO (S.set p (.lst (((s.cell i).set j w).map nD))) qo qc ps { s with cells := s.cells.set i ((s.cell i).set j w) } := by
  have nd := h.nd
  simp only [List.nodup_cons, List.mem_cons, not_or] at nd
  have hp := List.mem_of_getElem? hi
  have hil : i < ps.length := (List.getElem?_eq_some_iff.mp hi).1
  refine ⟨get_set_ne h.o (fun e => nd.1.2 (e ▸ hp)), get_set_ne h.c (fun e => nd.2.1 (e ▸ hp)), by show _ = (s.cells.set i _).length; rw [List.length_set]; exact h.l, fun k p' e => ?_, h.nd⟩
  by_cases hk : k = i
  · subst hk
    rw [hi] at e; cases e
    rw [get_put (h.e k p hi)]
    have : IS.cell { s with cells := s.cells.set k ((s.cell k).set j w) } k = (s.cell k).set j w := by
      unfold IS.cell
      simp [List.getD, List.getElem?_set_self (show k < s.cells.length by rw [← h.l]; exact hil)]
    rw [this]
  · have hne : p' ≠ p := by
      rintro rfl
      have e1 := List.getElem?_eq_some_iff.mp e
      have e2 := List.getElem?_eq_some_iff.mp hi
      obtain ⟨h1, e1⟩ := e1
      obtain ⟨h2, e2⟩ := e2
      exact hk ((List.getElem_inj nd.2.2).mp (e1.trans e2.symm))
    have : IS.cell { s with cells := s.cells.set i ((s.cell i).set j w) } k = s.cell k := by
      unfold IS.cell
      simp [List.getD, List.getElem?_set_ne (Ne.symm hk)]
    rw [this]
    exact get_set_ne (h.e k p' e) hne
theorem CO.regs (h : CO S qo qc ps s) {f : Nat → Nat} : CO S qo qc ps { s with regs := f } := ⟨h.o, h.c, h.l, h.e, h.nd⟩
theorem CO.at (h : CO S qo qc ps s) {i : Nat} (hi : i < s.cells.length) : ∃ p, ps[i]? = some p ∧ oIx (.ref qc) (nD i) S = .ok (.ref p) S ∧ S[p]? = some (.lst ((s.cell i).map nD)) := by
  have hi2 : i < ps.length := by rw [h.l]; exact hi
  refine ⟨ps[i], List.getElem?_eq_getElem hi2, ?_, h.e i _ (List.getElem?_eq_getElem hi2)⟩
  exact oIx_lst h.c (by omega) (by simpa using hi2) (by simp [List.getElem?_eq_getElem hi2])
end
theorem ix_nats {S : Hs} {p j : Nat} {xs : List Nat} (h : S[p]? = some (.lst (xs.map nD))) (hj : j < xs.length) : oIx (.ref p) (nD j) S = .ok (nD (xs.getD j 0)) S :=
  oIx_lst h (by omega) (by simpa using hj) (by simp [List.getElem?_eq_getElem hj, List.getD])
theorem set_nats {S : Hs} {p j w : Nat} {xs : List Nat} (h : S[p]? = some (.lst (xs.map nD))) (hj : j < xs.length) : oSet (.ref p) (nD j) (nD w) S = .ok () (S.set p (.lst ((xs.set j w).map nD))) := by
  have e1 : ixN (xs.map nD).length (j : Int) = some j := by
    unfold ixN
    rw [if_pos (by omega), if_pos (by rw [List.length_map]; omega)]; rfl
  simp only [oSet, h, e1, List.map_set]
theorem mod_nat {S : Hs} {a n : Nat} (hn : 0 < n) : oMod (nD a) (.int (n : Int)) S = .ok (nD (a % n)) S := by
  rw [oMod_int (by omega)]; simp [nD]
end Ly
set_option Elab.async false
set_option linter.all false
set_option maxRecDepth 100000
namespace GK61
open PySem L2 Ly
open PySem.Spec hiding Row
open PyProof.Rows hiding St
local macro_rules | `(tactic| simp_arith [$ls,*]) => `(tactic| simp only [Ly.line_le, Ly.atX_no, Ly.v_ok, Ly.v_bad, Ly.v_bind, Ly.k_bd, Ly.v_at, Ly.v_bin, Ly.k_bi, Ly.k_bi2, Ly.v_var, Ly.v_c, Ly.v_un, Ly.k_un, Ly.v_if, Ly.k_ife, Ly.v_and, Ly.k_and, Ly.k_and2, Ly.v_or, Ly.k_or, Ly.k_or2, Ly.v_tup, Ly.k_tup, Ly.v_lst, Ly.k_lst, Ly.v_call, Ly.k_ca, Ly.v_fn, Ly.k_fn, Ly.v_bm, Ly.k_bm, Ly.k_bm2, Ly.v_sl, Ly.k_sl, Ly.k_sl2, Ly.k_sl3, Ly.v_ixK, Ly.k_ixk, Ly.v_inK, Ly.k_ink, Ly.v_notinK, Ly.k_nink, Ly.v_getK2, Ly.k_gk2, Ly.k_gk, Ly.v_get2, Ly.k_g2, Ly.k_g22, Ly.k_g23, Ly.v_nil, Ly.v_cons, Ly.k_co, Ly.k_co2, Ly.v_no, Ly.v_some, Ly.k_so, Ly.k_cm, Ly.v_cmp, Ly.v_tru, Ly.k_tr, Ly.v_notB, Ly.k_no, Ly.v_andB, Ly.k_an, Ly.v_orB, Ly.k_orb, Ly.v_yes, Ly.v_inKB, Ly.k_inkB, Ly.v_notinKB, Ly.k_ninkB, Ly.v_set, Ly.k_st, Ly.v_expr, Ly.k_ex, Ly.v_ret, Ly.k_re, Ly.v_retN, Ly.v_pass, Ly.v_brk, Ly.v_cnt, Ly.v_seq, Ly.k_sq_nx, Ly.k_sq_rt, Ly.k_sq_bk, Ly.k_sq_ct, Ly.v_ifS, Ly.k_ifs, Ly.v_asg, Ly.k_as, Ly.k_as2, Ly.v_aug, Ly.k_au, Ly.v_for, Ly.k_fo, Ly.v_it, Ly.k_it, Ly.k_ij, Ly.v_rng1, Ly.v_rng2, Ly.v_enum, Ly.v_zip, Ly.v_ez, Ly.v_gN, Ly.v_gsN, Ly.v_gsC, Ly.k_gc, Ly.v_gT, Ly.v_gTw, Ly.v_gSb, Ly.k_gsb, Ly.k_gsb2, Ly.k_gsb3, Ly.k_en_rt, Ly.k_en_nx, Ly.k_tu_nx, Ly.k_tu_ct, Ly.k_tu_bk, Ly.k_tu_rt, Ly.v_lc, Ly.k_lc, Ly.v_augI, Ly.k_ag, Ly.k_ag2, Ly.k_ag3, Ly.k_ag4, Ly.k_ag5, Ly.v_del, Ly.k_dl, Ly.k_dl2, Ly.v_setd, Ly.v_pop2, Ly.k_d3, Ly.k_d32, Ly.k_d33, Ly.v_get1, Ly.k_g1, Ly.k_g12, Ly.v_rg1, Ly.k_rg, Ly.v_rg2, Ly.k_rg2, Ly.k_rg22, Ly.v_dicK, Ly.v_dicT, Ly.v_dc, Ly.k_dc, List.getElem?_cons_zero, List.getElem?_cons_succ, List.set_cons_zero, List.set_cons_succ, List.length_cons, List.length_nil, List.map_cons, List.map_nil, List.cons_append, List.nil_append, List.replicate, if_true, if_false, Bool.false_eq_true, Bool.not_true, Bool.not_false, Bool.true_and, Bool.false_and, decide_true, decide_false, decide_eq_true_eq, Nat.zero_add, Nat.reduceAdd, Nat.reduceLeDiff, true_and, and_true, $ls,*])
theorem is_named : m_named_registers = m_named := rfl
theorem foldl_max (ns : List Int) : ∀ n : Int, n ≤ ns.foldl max n ∧ (∀ x ∈ ns, x ≤ ns.foldl max n) ∧ ∀ b, n ≤ b → (∀ x ∈ ns, x ≤ b) → ns.foldl max n ≤ b := by
  induction ns with
  | nil => intro n; exact ⟨Int.le_refl _, by simp, fun b h _ => h⟩
  | cons m ns ih =>
    intro n
    obtain ⟨h1, h2, h3⟩ := ih (max n m)
    rw [List.foldl_cons]
    refine ⟨by omega, fun x hx => ?_, fun b hb hx => h3 b (by have := hx m (by simp); omega) fun x h => hx x (List.mem_cons_of_mem _ h)⟩
    rcases List.mem_cons.mp hx with rfl | hx
    · omega
    · exact h2 x hx
def cnt (L : List Nat) : Nat := (maxDf (-1) (L.map Int.ofNat) + 1).toNat
theorem cnt_ok (L : List Nat) : maxDf (-1) (L.map Int.ofNat) + 1 = (cnt L : Int) ∧ (∀ x ∈ L, x < cnt L) ∧ ∀ b, (∀ x ∈ L, x < b) → cnt L ≤ b := by
  have key : -1 ≤ maxDf (-1) (L.map Int.ofNat) ∧ (∀ x ∈ L, (x : Int) ≤ maxDf (-1) (L.map Int.ofNat)) ∧ ∀ b : Nat, (∀ x ∈ L, x < b) → maxDf (-1) (L.map Int.ofNat) + 1 ≤ b := by
    cases L with
    | nil => exact ⟨by simp [maxDf], by simp, fun b _ => by simp [maxDf]⟩
    | cons n L =>
      obtain ⟨h1, h2, h3⟩ := foldl_max (L.map Int.ofNat) (Int.ofNat n)
      show -1 ≤ (L.map Int.ofNat).foldl max (Int.ofNat n) ∧ (∀ x ∈ n :: L, (x : Int) ≤ (L.map Int.ofNat).foldl max (Int.ofNat n)) ∧ _
      have h0 : (0 : Int) ≤ Int.ofNat n := Int.natCast_nonneg n
      refine ⟨by omega, fun x hx => ?_, fun b hb => ?_⟩
      · rcases List.mem_cons.mp hx with rfl | hx
        · exact h1
        · exact h2 _ (List.mem_map.mpr ⟨x, hx, rfl⟩)
      · have hbn : (n : Int) < b := by have := hb n (by simp); omega
        have := h3 ((b : Int) - 1) (by simp only [Int.ofNat_eq_natCast]; omega) (fun x hx => by
          obtain ⟨y, hy, rfl⟩ := List.mem_map.mp hx
          have := hb y (List.mem_cons_of_mem _ hy)
          simp only [Int.ofNat_eq_natCast]; omega)
        show (L.map Int.ofNat).foldl max (Int.ofNat n) + 1 ≤ _
        omega
  obtain ⟨h1, h2, h3⟩ := key
  have e : maxDf (-1) (L.map Int.ofNat) + 1 = (cnt L : Int) := by unfold cnt; omega
  exact ⟨e, fun x hx => by have := h2 x hx; omega, fun b hb => by have := h3 b hb; omega⟩
theorem bList_dic {S : Hs} {q : Nat} {L : List Nat} {v : D} (h : S[q]? = some (.dic (natDic L v))) : bList [.ref q] S = .ok (.ref S.length) (S ++ [.lst ((L.map Int.ofNat).map D.int)]) := by
  simp [bList, h, natDic, keyD]
theorem count_ok {S : Hs} {arrs : List Arr} {params nb : Nat} {blocks : List (List Row)} (hr : ∀ b ∈ blocks, ∀ r ∈ b, r.ok 9 arrs.length nb) (hp : params ≤ 9) :
    Wp NoX (m_register_count [progD arrs params blocks] S) fun v S' => ∃ N, v = nD N ∧ N ≤ 9 ∧ params ≤ N ∧ (∀ b ∈ blocks, ∀ r ∈ b, ∀ x ∈ r.regs, x < N) ∧ Kp [] S S' := by
  refine wp_def0 rfl ?_
  unfold b_register_count
  simp_arith [is_named]
  refine Wp.call (named_ok (arrs := arrs) (nb := nb) hr hp (by decide)) ?_
  rintro _ S1 ⟨s, rfl, ⟨L, h1, h2, h3, h4⟩, hk, hs⟩
  obtain ⟨c1, c2, c3⟩ := cnt_ok L
  simp_arith [bList_dic h1, show oNeg (.int 1) _ = .ok (.int (-1)) _ from rfl, oMaxDf_lst (S := S1 ++ [O.lst ((L.map Int.ofNat).map D.int)]) (i := S1.length) (ns := L.map Int.ofNat) (d := -1) (by simp), oAdd_int, c1]
  refine ⟨cnt L, rfl, c3 9 h3, ?_, fun b hb r hrb x hx => c2 x ((h4 x).mpr (.inr ⟨r, List.mem_flatten.mpr ⟨b, hb, hrb⟩, hx⟩)), hk.app⟩
  rcases Nat.eq_zero_or_pos params with h | h
  · omega
  · have := c2 (params - 1) ((h4 _).mpr (.inl (by omega))); omega
def szN (n : Nat) : Nat := if n ≤ 1 then 1 else if n ≤ 2 then 2 else if n ≤ 4 then 4 else if n ≤ 8 then 8 else 16
theorem sz_pow (n : Nat) : ∃ e, szN n = 2 ^ e := by
  unfold szN
  by_cases h1 : n ≤ 1
  · exact ⟨0, by simp [h1]⟩
  · by_cases h2 : n ≤ 2
    · exact ⟨1, by simp [h1, h2]⟩
    · by_cases h3 : n ≤ 4
      · exact ⟨2, by simp [h1, h2, h3]⟩
      · by_cases h4 : n ≤ 8
        · exact ⟨3, by simp [h1, h2, h3, h4]⟩
        · exact ⟨4, by simp [h1, h2, h3, h4]⟩
theorem sz_ge {n : Nat} (h : n ≤ 16) : n ≤ szN n ∧ szN n ≤ 16 ∧ 0 < szN n := by
  unfold szN; repeat' split
  all_goals omega
theorem size_ok {S : Hs} {n : Nat} (hn : n ≤ 16) : Wp NoX (m_size_of [nD n] S) fun v S' => v = nD (szN n) ∧ S' = S := by
  refine wp_def0 rfl ?_
  unfold b_size_of
  simp_arith []
  refine wp_while (fun m l S' => S' = S ∧ ∃ s : Nat, l = [some (nD n), some (nD s)] ∧ m = 16 - s ∧ (s = 1 ∨ s = 2 ∨ s = 4 ∨ s = 8 ∨ s = 16) ∧ (s = 1 ∨ s / 2 < n)) ?_ 15 _ S ⟨rfl, 1, rfl, rfl, by simp, by simp⟩
  rintro m l S' ⟨rfl, s, rfl, rfl, h1, h2⟩
  unfold c_size_of_0
  simp_arith [oLt_int]
  by_cases hc : s < n
  · have hc' : (s : Int) < (n : Int) := by omega
    unfold lb_size_of_1
    rw [if_pos hc']
    simp_arith [oIAdd]
    refine ⟨16 - 2 * s, by omega, 2 * s, ?_, rfl, by omega, by omega⟩
    have : ((s : Int) + (s : Int)) = ((2 * s : Nat) : Int) := by omega
    rw [this]
  · have hc' : ¬ (s : Int) < (n : Int) := by omega
    rw [if_neg hc']
    have : s = szN n := by
      unfold szN; repeat' split
      all_goals omega
    rw [this]
end GK61
set_option Elab.async false
set_option linter.all false
set_option maxRecDepth 100000
namespace GK61
open PySem L2 Ly
open PySem.Spec hiding Row
open PyProof.Rows hiding St
local macro_rules | `(tactic| simp_arith [$ls,*]) => `(tactic| simp only [Ly.line_le, Ly.atX_no, Ly.v_ok, Ly.v_bad, Ly.v_bind, Ly.k_bd, Ly.v_at, Ly.v_bin, Ly.k_bi, Ly.k_bi2, Ly.v_var, Ly.v_c, Ly.v_un, Ly.k_un, Ly.v_if, Ly.k_ife, Ly.v_and, Ly.k_and, Ly.k_and2, Ly.v_or, Ly.k_or, Ly.k_or2, Ly.v_tup, Ly.k_tup, Ly.v_lst, Ly.k_lst, Ly.v_call, Ly.k_ca, Ly.v_fn, Ly.k_fn, Ly.v_bm, Ly.k_bm, Ly.k_bm2, Ly.v_sl, Ly.k_sl, Ly.k_sl2, Ly.k_sl3, Ly.v_ixK, Ly.k_ixk, Ly.v_inK, Ly.k_ink, Ly.v_notinK, Ly.k_nink, Ly.v_getK2, Ly.k_gk2, Ly.k_gk, Ly.v_get2, Ly.k_g2, Ly.k_g22, Ly.k_g23, Ly.v_nil, Ly.v_cons, Ly.k_co, Ly.k_co2, Ly.v_no, Ly.v_some, Ly.k_so, Ly.k_cm, Ly.v_cmp, Ly.v_tru, Ly.k_tr, Ly.v_notB, Ly.k_no, Ly.v_andB, Ly.k_an, Ly.v_orB, Ly.k_orb, Ly.v_yes, Ly.v_inKB, Ly.k_inkB, Ly.v_notinKB, Ly.k_ninkB, Ly.v_set, Ly.k_st, Ly.v_expr, Ly.k_ex, Ly.v_ret, Ly.k_re, Ly.v_retN, Ly.v_pass, Ly.v_brk, Ly.v_cnt, Ly.v_seq, Ly.k_sq_nx, Ly.k_sq_rt, Ly.k_sq_bk, Ly.k_sq_ct, Ly.v_ifS, Ly.k_ifs, Ly.v_asg, Ly.k_as, Ly.k_as2, Ly.v_aug, Ly.k_au, Ly.v_for, Ly.k_fo, Ly.v_it, Ly.k_it, Ly.k_ij, Ly.v_rng1, Ly.v_rng2, Ly.v_enum, Ly.v_zip, Ly.v_ez, Ly.v_gN, Ly.v_gsN, Ly.v_gsC, Ly.k_gc, Ly.v_gT, Ly.v_gTw, Ly.v_gSb, Ly.k_gsb, Ly.k_gsb2, Ly.k_gsb3, Ly.k_en_rt, Ly.k_en_nx, Ly.k_tu_nx, Ly.k_tu_ct, Ly.k_tu_bk, Ly.k_tu_rt, Ly.v_lc, Ly.k_lc, Ly.v_augI, Ly.k_ag, Ly.k_ag2, Ly.k_ag3, Ly.k_ag4, Ly.k_ag5, Ly.v_del, Ly.k_dl, Ly.k_dl2, Ly.v_setd, Ly.v_pop2, Ly.k_d3, Ly.k_d32, Ly.k_d33, Ly.v_get1, Ly.k_g1, Ly.k_g12, Ly.v_rg1, Ly.k_rg, Ly.v_rg2, Ly.k_rg2, Ly.k_rg22, Ly.v_dicK, Ly.v_dicT, Ly.v_dc, Ly.k_dc, List.getElem?_cons_zero, List.getElem?_cons_succ, List.set_cons_zero, List.set_cons_succ, List.length_cons, List.length_nil, List.map_cons, List.map_nil, List.cons_append, List.nil_append, List.replicate, if_true, if_false, Bool.false_eq_true, Bool.not_true, Bool.not_false, Bool.true_and, Bool.false_and, decide_true, decide_false, decide_eq_true_eq, Nat.zero_add, Nat.reduceAdd, Nat.reduceLeDiff, true_and, and_true, $ls,*])
def pad (c : List Nat) : List Nat := c ++ List.replicate (szN c.length - c.length) 0
def is0 (ins : List Nat) (cs : List (List Nat)) : IS := ⟨fun a => ins.getD a 0, cs.map pad, []⟩
def zsOf (cs : List (List Nat)) : List Nat := cs.map fun c => szN c.length
theorem pad_len {c : List Nat} (h : c.length ≤ 16) : (pad c).length = szN c.length := by have := sz_ge h; unfold pad; simp; omega
theorem is0_ok {ins : List Nat} {cs : List (List Nat)} (hi : ∀ w ∈ ins, w < 4294967296) (hc : ∀ c ∈ cs, c.length ≤ 16 ∧ ∀ w ∈ c, w < 4294967296) : ISok (zsOf cs) (is0 ins cs) 0 := by
  refine ⟨fun a => ?_, ?_, ?_, by simp [is0]⟩
  · show ins.getD a 0 < _
    simp only [List.getD]
    cases e : ins[a]? with
    | none => simp
    | some w => simpa using hi w (List.mem_of_getElem? e)
  · show (cs.map pad).map List.length = zsOf cs
    rw [List.map_map]
    exact List.map_congr_left fun c h => pad_len (hc c h).1
  · intro c h w hw
    obtain ⟨c', h', rfl⟩ := List.mem_map.mp h
    rcases List.mem_append.mp hw with h1 | h1
    · exact (hc c' h').2 w h1
    · have := List.eq_of_mem_replicate h1; omega
structure PR (C : Addr) (arrs : List Arr) (zs : List Nat) (S : Hs) (qi qr qo qc qm : Nat) (ps : List Nat) (N : Nat) (s : IS) : Prop where
  i : S[qi]? = some (.ins C [("arrays", .tup (arrs.map Arr.D)), ("registers", .ref qr), ("cells", .ref qc), ("masks", .ref qm), ("outs", .ref qo)])
  m : S[qm]? = some (.lst ((zs.map (· - 1)).map nD))
  r : S[qr]? = some (.lst (((List.range N).map s.regs).map nD))
  co : CO S qo qc ps s
  nd : (qi :: qm :: qr :: qo :: qc :: ps).Nodup
theorem bList_tup {S : Hs} {xs : List D} : bList [.tup xs] S = .ok (.ref S.length) (S ++ [.lst xs]) := nr rfl
theorem arr1 {a : Arr} {S : Hs} : oIx a.D (.int 1) S = .ok (nD a.len) S := oIx_tup (n := 1) rfl
theorem oSetTo_ok {S : Hs} {i j : Nat} {k : Nat} {xs ys : List D} (h : S[i]? = some (.lst xs)) (h' : S[j]? = some (.lst ys)) (hn : i ≠ j) (hk : k ≤ xs.length) (hz : xs.length + ys.length ≤ 100000) : oSetTo (.ref i) (some (k : Int)) (.ref j) S = .ok () (S.set i (.lst (ys ++ xs.drop k))) := by
  unfold oSetTo
  simp only [h, h', Int.toNat_natCast]
  rw [if_pos ⟨hn, by omega, hk, line_le (by omega)⟩]
section
variable {cA : Nat → Addr} {S : Hs} {arrs : List Arr} {params nb : Nat} {blocks : List (List Row)} {ins : List Nat} {cs : List (List Nat)}
structure MkC (C : Addr) (arrs : List Arr) (cs : List (List Nat)) (S0 S : Hs) (qi qr qc qm : Nat) (rl : List D) (k : Nat) (ps : List Nat) : Prop where
  i : S[qi]? = some (.ins C [("arrays", .tup (arrs.map Arr.D)), ("registers", .ref qr), ("cells", .ref qc), ("masks", .ref qm)])
  r : S[qr]? = some (.lst rl)
  c : S[qc]? = some (.lst (ps.map D.ref))
  m : S[qm]? = some (.lst ((((zsOf cs).take k).map (· - 1)).map nD))
  l : ps.length = k
  e : ∀ j p : Nat, ps[j]? = some p → S[p]? = some (.lst (((cs.map pad).getD j []).map nD))
  nw : ∀ p ∈ ps, qm < p
  nd : ps.Nodup
  kp : Kp [qi] S0 S
theorem mk_turn {S0 : Hs} {qi qr qc qm k : Nat} {rl : List D} {ps : List Nat} {a : Arr} {c : List Nat} (h : MkC (cA 0) arrs cs S0 S qi qr qc qm rl k ps) (ha : a.len = c.length) (hc : c.length ≤ 16) (he : cs[k]? = some c) (hk : k ≤ 1000)
    (d0 : qi < qr) (d1 : qr < qc) (d2 : qc < qm) (d3 : S0.length ≤ qr) {x1 x2 x3 : D} {o6 : Option D} :
    Wp NoX (lb_IrRun_m___init___0 cA [some (.ref qi), some x1, some x2, some x3, some a.D, some (.tup (c.map nD)), o6] S) fun f S' => (∃ o6, f = .nx [some (.ref qi), some x1, some x2, some x3, some a.D, some (.tup (c.map nD)), o6]) ∧ ∃ p, MkC (cA 0) arrs cs S0 S' qi qr qc qm rl (k + 1) (ps ++ [p]) := by
  obtain ⟨z1, z2, z3⟩ := sz_ge hc
  unfold lb_IrRun_m___init___0
  simp_arith [Ly.v_fld, Ly.v_meth, Ly.k_me2, Ly.v_make, Ly.k_mk, Ly.v_fldset, Ly.k_fs, Ly.v_fldaug, Ly.k_fa2, Ly.look1, List.mem_cons, List.not_mem_nil, or_false, true_or, or_true, arr1]
  refine Wp.call (size_ok (n := a.len) (by omega)) ?_
  rintro _ S ⟨rfl, rfl⟩
  have hqm := Real.lt h.m
  have es : ∀ S, oSub (nD (szN a.len)) (nD a.len) S = .ok (nD (szN c.length - c.length)) S := fun S => by rw [oSub_int, ha]; unfold nD; rw [Int.ofNat_sub z1]
  have hK : Kp [] S (S ++ [O.lst (c.map nD)] ++ [O.lst [D.int 0]] ++ [O.lst (List.replicate (szN c.length - c.length) (D.int 0))] ++ [O.lst (c.map nD ++ List.replicate (szN c.length - c.length) (D.int 0))]) := Kp.new.app.app.app
  have g1 : (S ++ [O.lst (c.map nD)] ++ [O.lst [D.int 0]])[(S ++ [O.lst (c.map nD)]).length]? = some (.lst [D.int 0]) := get_end
  have g2 : (S ++ [O.lst (c.map nD)] ++ [O.lst [D.int 0]] ++ [O.lst (List.replicate (szN c.length - c.length) (D.int 0))])[S.length]? = some (.lst (c.map nD)) := by
    rw [List.append_assoc, List.append_assoc, List.getElem?_append_right (by simp)]; simp
  have g3 : (S ++ [O.lst (c.map nD)] ++ [O.lst [D.int 0]] ++ [O.lst (List.replicate (szN c.length - c.length) (D.int 0))])[(S ++ [O.lst (c.map nD)] ++ [O.lst [D.int 0]]).length]? = some (.lst (List.replicate (szN c.length - c.length) (D.int 0))) := get_end
  have hq := hK.get h.c (by simp)
  have hmm := hK.get h.m (by simp)
  have hlc : ps.length ≤ 1000 := by rw [h.l]; exact hk
  have al := oAdd_lst g2 g3 (by simp only [List.length_map, List.length_replicate]; exact line_le (by omega))
  have hne : (S ++ [O.lst (c.map nD)] ++ [O.lst [D.int 0]] ++ [O.lst (List.replicate (szN c.length - c.length) (D.int 0))]).length = S.length + 3 := by simp
  have hpn : (S ++ [O.lst (c.map nD)] ++ [O.lst [D.int 0]] ++ [O.lst (List.replicate (szN c.length - c.length) (D.int 0))] ++ [O.lst (c.map nD ++ List.replicate (szN c.length - c.length) (D.int 0))])[S.length + 3]? = some (.lst ((pad c).map nD)) := by
    rw [← hne, get_end]; simp [pad, nD]
  rw [hne] at al
  have ap := oAppend_lst (d := .ref (S.length + 3)) hq (by simp only [List.length_map]; exact line_big (by omega))
  simp_arith [Ly.v_fld, Ly.v_meth, Ly.k_me2, Ly.v_make, Ly.k_mk, Ly.v_fldset, Ly.k_fs, Ly.v_fldaug, Ly.k_fa2, Ly.look1, List.mem_cons, List.not_mem_nil, or_false, true_or, or_true, -v_seq]
  rw [v_seq]
  simp_arith [Ly.v_fld, Ly.v_meth, Ly.k_me2, Ly.v_make, Ly.k_mk, Ly.v_fldset, Ly.k_fs, Ly.v_fldaug, Ly.k_fa2, Ly.look1, List.mem_cons, List.not_mem_nil, or_false, true_or, or_true, k_fl h.i, List.lookup, beq_lit, String.reduceBEq, arr1, v_nil, hasTy_lst h.c, bList_tup, es, mrep_ok g1 (show szN c.length - c.length ≤ 100000 by omega), al, ap, -v_seq]
  generalize hS4 : S ++ [O.lst (c.map nD)] ++ [O.lst [D.int 0]] ++ [O.lst (List.replicate (szN c.length - c.length) (D.int 0))] = S4 at *
  have k5 : Kp [qi] S0 ((S4 ++ [O.lst (c.map nD ++ List.replicate (szN c.length - c.length) (D.int 0))]).set qc (.lst (ps.map D.ref ++ [.ref (S.length + 3)]))) := ((h.kp.trans (hK.sub (by simp))).setNew (by omega))
  have kq : Kp [qc] S ((S4 ++ [O.lst (c.map nD ++ List.replicate (szN c.length - c.length) (D.int 0))]).set qc (.lst (ps.map D.ref ++ [.ref (S.length + 3)]))) := (hK.sub (by simp)).setIn (by simp)
  have i5 := kq.get h.i (by simp; omega)
  have m5 := kq.get h.m (by simp; omega)
  have r5 := kq.get h.r (by simp; omega)
  have c5 := get_put (u := .lst (ps.map D.ref ++ [.ref (S.length + 3)])) hq
  have e5 : ∀ j p : Nat, (ps ++ [S.length + 3])[j]? = some p → ((S4 ++ [O.lst (c.map nD ++ List.replicate (szN c.length - c.length) (D.int 0))]).set qc (.lst (ps.map D.ref ++ [.ref (S.length + 3)])))[p]? = some (.lst (((cs.map pad).getD j []).map nD)) := by
    intro j p hj
    by_cases hjk : j < ps.length
    · rw [List.getElem?_append_left hjk] at hj
      exact kq.get (h.e j p hj) (by have := h.nw p (List.mem_of_getElem? hj); simp; omega)
    · rw [List.getElem?_append_right (by omega)] at hj
      have e0 : j - ps.length = 0 := by
        rcases Nat.eq_zero_or_pos (j - ps.length) with z | z
        · exact z
        · rw [List.getElem?_eq_none (by simp; omega)] at hj; cases hj
      rw [e0] at hj
      simp at hj
      subst hj
      have : j = k := by have := h.l; omega
      subst this
      have eg : (cs.map pad).getD j [] = pad c := by simp [List.getD, he]
      rw [List.getElem?_set_ne (by omega), hpn, eg]
  generalize (S4 ++ [O.lst (c.map nD ++ List.replicate (szN c.length - c.length) (D.int 0))]).set qc (.lst (ps.map D.ref ++ [.ref (S.length + 3)])) = S5 at *
  have em : ∀ S, oSub (nD (szN a.len)) (.int 1) S = .ok (nD (szN c.length - 1)) S := fun S => by
    rw [oSub_int, ha]; have : ((szN c.length : Nat) : Int) - 1 = ((szN c.length - 1 : Nat) : Int) := by omega
    rw [this]
  have hz : (zsOf cs)[k]? = some (szN c.length) := by unfold zsOf; rw [List.getElem?_map, he]; rfl
  have apm := oAppend_lst (d := nD (szN c.length - 1)) m5 (by simp only [List.length_map, List.length_take]; exact line_big (by omega))
  simp_arith [Ly.v_fld, Ly.v_meth, Ly.k_me2, Ly.v_make, Ly.k_mk, Ly.v_fldset, Ly.k_fs, Ly.v_fldaug, Ly.k_fa2, Ly.look1, List.mem_cons, List.not_mem_nil, or_false, true_or, or_true, k_fl i5, List.lookup, beq_lit, String.reduceBEq, v_nil, hasTy_lst m5, em, apm]
  have l5 := kq.le
  refine ⟨⟨_, rfl⟩, S.length + 3, get_set_ne i5 (by omega), get_set_ne r5 (by omega), by rw [get_set_ne c5 (by omega)]; simp, ?_, by simp [h.l], fun j p hj => ?_, fun p hp => ?_, ?_, k5.setNew (by omega)⟩
  · rw [get_put m5, take_at hz]; simp
  · have hp5 := e5 j p hj
    refine get_set_ne hp5 ?_
    rcases List.mem_append.mp (List.mem_of_getElem? hj) with h1 | h1
    · have := h.nw p h1; omega
    · simp at h1; omega
  · rcases List.mem_append.mp hp with h1 | h1
    · exact h.nw p h1
    · simp at h1; omega
  · rw [List.nodup_append]
    refine ⟨h.nd, by simp, fun x hx y hy => ?_⟩
    simp only [List.mem_singleton] at hy
    subst hy
    intro e
    obtain ⟨j, hj⟩ := List.getElem?_of_mem hx
    have := Real.lt (h.e j x hj)
    omega
theorem init_ok {q : Nat} {S : Hs} (hok : ∀ b ∈ blocks, ∀ r ∈ b, r.ok 9 arrs.length nb) (hpn : params ≤ 9) (hi : ins.length = params) (ha : arrs.map (·.len) = cs.map (·.length)) (hc : ∀ c ∈ cs, c.length ≤ 16) (hcl : cs.length ≤ 1000) (hS : S[q]? = some (.ins (cA 0) [])) :
    Wp NoX (m_IrRun_m___init__ cA [.ref q, progD arrs params blocks, .tup (ins.map nD), contD cs] S) fun v S' => v = .non ∧ ∃ N qr qo qc qm ps, PR (cA 0) arrs (zsOf cs) S' q qr qo qc qm ps N (is0 ins cs) ∧ N ≤ 9 ∧ params ≤ N ∧ (∀ b ∈ blocks, ∀ r ∈ b, ∀ x ∈ r.regs, x < N) ∧ (∀ x ∈ qm :: qr :: qo :: qc :: ps, S.length ≤ x) ∧ Kp [q] S S' := by
  refine wp_def0 rfl ?_
  unfold b_IrRun_m___init__
  have hq := Real.lt hS
  have hal : arrs.length = cs.length := by have := congrArg List.length ha; simpa using this
  rw [v_seq]
  have o1 := get_put (u := O.ins (cA 0) [("arrays", .tup (arrs.map Arr.D))]) hS
  simp_arith [Ly.v_fld, Ly.v_meth, Ly.k_me2, Ly.v_make, Ly.k_mk, Ly.v_fldset, Ly.k_fs, Ly.v_fldaug, Ly.k_fa2, Ly.look1, List.mem_cons, List.not_mem_nil, or_false, true_or, or_true, prog_arrs, k_fs, k_fs2 hS, putD, List.length_nil, Nat.reduceLT, -v_seq]
  rw [v_seq]
  have K1 : Kp [q] S (S.set q (O.ins (cA 0) [("arrays", .tup (arrs.map Arr.D))])) := Kp.set (by simp)
  have n1 : (S.set q (O.ins (cA 0) [("arrays", .tup (arrs.map Arr.D))])).length = S.length := by simp
  generalize S.set q (O.ins (cA 0) [("arrays", .tup (arrs.map Arr.D))]) = S1 at *
  simp_arith [Ly.v_fld, Ly.v_meth, Ly.k_me2, Ly.v_make, Ly.k_mk, Ly.v_fldset, Ly.k_fs, Ly.v_fldaug, Ly.k_fa2, Ly.look1, List.mem_cons, List.not_mem_nil, or_false, true_or, or_true, -v_seq]
  refine Wp.call (count_ok hok hpn) ?_
  rintro _ S2 ⟨N, rfl, hN, hNp, hNr, k2⟩
  have g2 : S2[S1.length]? = some (.lst [.int 0]) := k2.get get_end (by simp)
  have K2 : Kp [q] S S2 := K1.trans ((Kp.new.trans k2).sub (by simp))
  have n2 := k2.le
  simp only [List.length_append, List.length_singleton] at n2
  have o2 : (S2 ++ [O.lst (List.replicate N (D.int 0))])[q]? = some (.ins (cA 0) [("arrays", .tup (arrs.map Arr.D))]) := by
    have := k2.get (i := q) (o := .ins (cA 0) [("arrays", .tup (arrs.map Arr.D))]) (by rw [List.getElem?_append_left (by omega)]; exact o1) (by simp)
    rw [List.getElem?_append_left (by omega)]; exact this
  simp_arith [Ly.v_fld, Ly.v_meth, Ly.k_me2, Ly.v_make, Ly.k_mk, Ly.v_fldset, Ly.k_fs, Ly.v_fldaug, Ly.k_fa2, Ly.look1, List.mem_cons, List.not_mem_nil, or_false, true_or, or_true, mrep_ok g2 (show N ≤ 100000 by omega), k_fs, k_fs2 o2, putD, ofString_inj, String.reduceEq, List.length_cons, List.length_nil, Nat.reduceLT, Nat.reduceAdd, -v_seq]
  have o3 := get_put (u := O.ins (cA 0) [("arrays", .tup (arrs.map Arr.D)), ("registers", .ref S2.length)]) o2
  have r3 : ((S2 ++ [O.lst (List.replicate N (D.int 0))]).set q (O.ins (cA 0) [("arrays", .tup (arrs.map Arr.D)), ("registers", .ref S2.length)]))[S2.length]? = some (.lst (List.replicate N (D.int 0))) := by
    rw [List.getElem?_set_ne (by omega)]; exact get_end
  have K3 : Kp [q] S ((S2 ++ [O.lst (List.replicate N (D.int 0))]).set q (O.ins (cA 0) [("arrays", .tup (arrs.map Arr.D)), ("registers", .ref S2.length)])) := K2.app.setIn (by simp)
  have n3 : ((S2 ++ [O.lst (List.replicate N (D.int 0))]).set q (O.ins (cA 0) [("arrays", .tup (arrs.map Arr.D)), ("registers", .ref S2.length)])).length = S2.length + 1 := by simp
  generalize (S2 ++ [O.lst (List.replicate N (D.int 0))]).set q (O.ins (cA 0) [("arrays", .tup (arrs.map Arr.D)), ("registers", .ref S2.length)]) = S3 at *
  rw [v_seq]
  have o4 : (S3 ++ [O.lst (ins.map nD)])[q]? = some (O.ins (cA 0) [("arrays", .tup (arrs.map Arr.D)), ("registers", .ref S2.length)]) := by rw [List.getElem?_append_left (by omega)]; exact o3
  have r4 : (S3 ++ [O.lst (ins.map nD)])[S2.length]? = some (.lst (List.replicate N (D.int 0))) := by rw [List.getElem?_append_left (by omega)]; exact r3
  have st := oSetTo_ok (k := ins.length) r4 (get_end (S := S3)) (by omega) (by simp; omega) (by simp; omega)
  simp_arith [Ly.v_fld, Ly.v_meth, Ly.k_me2, Ly.v_make, Ly.k_mk, Ly.v_fldset, Ly.k_fs, Ly.v_fldaug, Ly.k_fa2, Ly.look1, List.mem_cons, List.not_mem_nil, or_false, true_or, or_true, bList_tup, v_gSt, k_gst, k_gst2, k_gst3, k_fl o4, List.lookup, beq_lit, String.reduceBEq, bLen_tup, List.length_map, st, -v_seq]
  have hr5 : (((S3 ++ [O.lst (ins.map nD)]).set S2.length (.lst (ins.map nD ++ (List.replicate N (D.int 0)).drop ins.length))))[S2.length]? = some (.lst (((List.range N).map (is0 ins cs).regs).map nD)) := by
    rw [get_put r4]
    congr 2
    refine List.ext_getElem? fun j => ?_
    simp only [List.drop_replicate, List.getElem?_map]
    by_cases hj : j < ins.length
    · rw [List.getElem?_append_left (by simpa using hj)]
      simp [is0, List.getD, List.getElem?_range (show j < N by omega), List.getElem?_eq_getElem hj]
    · rw [List.getElem?_append_right (by simpa using hj)]
      by_cases hj2 : j < N
      · simp [is0, List.getD, List.getElem?_range hj2, List.getElem?_replicate, List.getElem?_eq_none (Nat.le_of_not_lt hj), nD]
        omega
      · rw [List.getElem?_eq_none (by simp; omega)]
        simp [hj2]
  have K5 : Kp [q] S (((S3 ++ [O.lst (ins.map nD)]).set S2.length (.lst (ins.map nD ++ (List.replicate N (D.int 0)).drop ins.length)))) := K3.app.setNew (by omega)
  have o5 := get_set_ne (o' := O.lst (ins.map nD ++ (List.replicate N (D.int 0)).drop ins.length)) o4 (show q ≠ S2.length by omega)
  have n5 : (((S3 ++ [O.lst (ins.map nD)]).set S2.length (.lst (ins.map nD ++ (List.replicate N (D.int 0)).drop ins.length)))).length = S3.length + 1 := by simp
  generalize ((S3 ++ [O.lst (ins.map nD)]).set S2.length (.lst (ins.map nD ++ (List.replicate N (D.int 0)).drop ins.length))) = S5 at *
  rw [v_seq]
  have o6 : (S5 ++ [O.lst []])[q]? = some (O.ins (cA 0) [("arrays", .tup (arrs.map Arr.D)), ("registers", .ref S2.length)]) := by rw [List.getElem?_append_left (by omega)]; exact o5
  simp_arith [Ly.v_fld, Ly.v_meth, Ly.k_me2, Ly.v_make, Ly.k_mk, Ly.v_fldset, Ly.k_fs, Ly.v_fldaug, Ly.k_fa2, Ly.look1, List.mem_cons, List.not_mem_nil, or_false, true_or, or_true, k_fs, k_fs2 o6, putD, ofString_inj, String.reduceEq, List.length_cons, List.length_nil, Nat.reduceLT, Nat.reduceAdd, -v_seq]
  have o7 := get_put (u := O.ins (cA 0) [("arrays", .tup (arrs.map Arr.D)), ("registers", .ref S2.length), ("cells", .ref S5.length)]) o6
  have c7 : ((S5 ++ [O.lst []]).set q (O.ins (cA 0) [("arrays", .tup (arrs.map Arr.D)), ("registers", .ref S2.length), ("cells", .ref S5.length)]))[S5.length]? = some (.lst []) := by
    rw [List.getElem?_set_ne (by omega)]; exact get_end
  have r7 : ((S5 ++ [O.lst []]).set q (O.ins (cA 0) [("arrays", .tup (arrs.map Arr.D)), ("registers", .ref S2.length), ("cells", .ref S5.length)]))[S2.length]? = some (.lst (((List.range N).map (is0 ins cs).regs).map nD)) := by
    rw [List.getElem?_set_ne (by omega), List.getElem?_append_left (by omega)]; exact hr5
  have K7 : Kp [q] S ((S5 ++ [O.lst []]).set q (O.ins (cA 0) [("arrays", .tup (arrs.map Arr.D)), ("registers", .ref S2.length), ("cells", .ref S5.length)])) := K5.app.setIn (by simp)
  have n7 : ((S5 ++ [O.lst []]).set q (O.ins (cA 0) [("arrays", .tup (arrs.map Arr.D)), ("registers", .ref S2.length), ("cells", .ref S5.length)])).length = S5.length + 1 := by simp
  generalize (S5 ++ [O.lst []]).set q (O.ins (cA 0) [("arrays", .tup (arrs.map Arr.D)), ("registers", .ref S2.length), ("cells", .ref S5.length)]) = S7 at *
  rw [v_seq]
  have o8 : (S7 ++ [O.lst []])[q]? = some (O.ins (cA 0) [("arrays", .tup (arrs.map Arr.D)), ("registers", .ref S2.length), ("cells", .ref S5.length)]) := by rw [List.getElem?_append_left (by omega)]; exact o7
  simp_arith [Ly.v_fld, Ly.v_meth, Ly.k_me2, Ly.v_make, Ly.k_mk, Ly.v_fldset, Ly.k_fs, Ly.v_fldaug, Ly.k_fa2, Ly.look1, List.mem_cons, List.not_mem_nil, or_false, true_or, or_true, k_fs, k_fs2 o8, putD, ofString_inj, String.reduceEq, List.length_cons, List.length_nil, Nat.reduceLT, Nat.reduceAdd, -v_seq]
  have o9 := get_put (u := O.ins (cA 0) [("arrays", .tup (arrs.map Arr.D)), ("registers", .ref S2.length), ("cells", .ref S5.length), ("masks", .ref S7.length)]) o8
  have k9 : Kp [q] S7 ((S7 ++ [O.lst []]).set q (O.ins (cA 0) [("arrays", .tup (arrs.map Arr.D)), ("registers", .ref S2.length), ("cells", .ref S5.length), ("masks", .ref S7.length)])) := Kp.new.setIn (by simp)
  have m9 : ((S7 ++ [O.lst []]).set q (O.ins (cA 0) [("arrays", .tup (arrs.map Arr.D)), ("registers", .ref S2.length), ("cells", .ref S5.length), ("masks", .ref S7.length)]))[S7.length]? = some (.lst []) := by
    rw [List.getElem?_set_ne (by omega)]; exact get_end
  have mk0 : MkC (cA 0) arrs cs S ((S7 ++ [O.lst []]).set q (O.ins (cA 0) [("arrays", .tup (arrs.map Arr.D)), ("registers", .ref S2.length), ("cells", .ref S5.length), ("masks", .ref S7.length)])) q S2.length S5.length S7.length (((List.range N).map (is0 ins cs).regs).map nD) 0 [] :=
    ⟨o9, k9.get r7 (by simp; omega), k9.get c7 (by simp; omega), by simpa using m9, rfl, by simp, by simp, by simp, K7.trans k9⟩
  generalize (S7 ++ [O.lst []]).set q (O.ins (cA 0) [("arrays", .tup (arrs.map Arr.D)), ("registers", .ref S2.length), ("cells", .ref S5.length), ("masks", .ref S7.length)]) = S9 at *
  rw [v_seq]
  simp_arith [Ly.v_fld, Ly.v_meth, Ly.k_me2, Ly.v_make, Ly.k_mk, Ly.v_fldset, Ly.k_fs, Ly.v_fldaug, Ly.k_fa2, Ly.look1, List.mem_cons, List.not_mem_nil, or_false, true_or, or_true, k_fl o9, List.lookup, beq_lit, String.reduceBEq, contD, show ∀ (xs ys : List D) S, oZip [.tup xs, .tup ys] S = .ok (.zip (.t xs) (.t ys)) S from fun _ _ _ => rfl, -v_seq]
  refine wp_zipA (fun k l S' => (∃ o4 o5 o6, l = [some (.ref q), some (progD arrs params blocks), some (.tup (ins.map nD)), some (contD cs), o4, o5, o6]) ∧ ∃ ps, MkC (cA 0) arrs cs S S' q S2.length S5.length S7.length (((List.range N).map (is0 ins cs).regs).map nD) k ps) (by simpa using hal) ⟨⟨_, _, _, rfl⟩, [], mk0⟩ ?_ ?_
  · rintro k l S' x y hx hy ⟨⟨o4, o5, o6, rfl⟩, ps, hm⟩
    obtain ⟨a, hax, rfl⟩ : ∃ a, arrs[k]? = some a ∧ a.D = x := by simpa using hx
    obtain ⟨c, hcx, rfl⟩ : ∃ c, cs[k]? = some c ∧ D.tup (c.map nD) = y := by simpa using hy
    simp_arith [Ly.v_fld, Ly.v_meth, Ly.k_me2, Ly.v_make, Ly.k_mk, Ly.v_fldset, Ly.k_fs, Ly.v_fldaug, Ly.k_fa2, Ly.look1, List.mem_cons, List.not_mem_nil, or_false, true_or, or_true, v_gT]
    have hle : a.len = c.length := by
      have e1 : (arrs.map (·.len))[k]? = some a.len := by rw [List.getElem?_map, hax]; rfl
      have e2 : (cs.map (·.length))[k]? = some c.length := by rw [List.getElem?_map, hcx]; rfl
      rw [ha, e2] at e1; exact (Option.some.inj e1).symm
    have hkl := (List.getElem?_eq_some_iff.mp hcx).1
    refine (mk_turn hm hle (hc c (List.mem_of_getElem? hcx)) hcx (by omega) (by omega) (by omega) (by omega) (by omega)).mono (fun _ _ _ _ h => h) ?_
    rintro f S'' ⟨⟨o6, rfl⟩, p, hm'⟩
    exact ⟨⟨_, _, _, rfl⟩, _, hm'⟩
  · rintro l S' ⟨⟨o4, o5, o6, rfl⟩, ps, hm⟩
    have hlen : (arrs.map Arr.D).length = (zsOf cs).length := by simp [zsOf, hal]
    have i9 : (S' ++ [O.lst []])[q]? = _ := Kp.get (A := []) Kp.new hm.i (by simp)
    simp_arith [Ly.v_fld, Ly.v_meth, Ly.k_me2, Ly.v_make, Ly.k_mk, Ly.v_fldset, Ly.k_fs, Ly.v_fldaug, Ly.k_fa2, Ly.look1, List.mem_cons, List.not_mem_nil, or_false, true_or, or_true, k_fs, k_fs2 i9, putD, ofString_inj, String.reduceEq, List.length_cons, List.length_nil, Nat.reduceLT, Nat.reduceAdd]
    have kf : Kp [q] S' ((S' ++ [O.lst []]).set q (O.ins (cA 0) [("arrays", .tup (arrs.map Arr.D)), ("registers", .ref S2.length), ("cells", .ref S5.length), ("masks", .ref S7.length), ("outs", .ref S'.length)])) := Kp.new.setIn (by simp)
    have lc := Real.lt hm.m
    have hmm := hm.m
    rw [hlen, List.take_length] at hmm
    have hps : ∀ p ∈ ps, p < S'.length := fun p hp => by obtain ⟨j, hj⟩ := List.getElem?_of_mem hp; exact Real.lt (hm.e j p hj)
    have hpl : ps.length = cs.length := by rw [hm.l, List.length_map, hal]
    refine ⟨N, S2.length, S'.length, S5.length, S7.length, ps, ⟨get_put i9, kf.get hmm (by simp; omega), kf.get hm.r (by simp; omega), ⟨?_, kf.get hm.c (by simp; omega), by show _ = (cs.map pad).length; rw [List.length_map]; exact hpl, fun k p e => kf.get (hm.e k p e) (by have := hm.nw p (List.mem_of_getElem? e); simp; omega), ?_⟩, ?_⟩, hN, hNp, hNr, ?_, hm.kp.trans kf⟩
    · rw [List.getElem?_set_ne (by omega)]; exact get_end
    · simp only [List.nodup_cons, List.mem_cons, not_or]
      exact ⟨⟨by omega, fun h => by have := hps _ h; omega⟩, fun h => by have := hm.nw _ h; omega, hm.nd⟩
    · simp only [List.nodup_cons, List.mem_cons, not_or]
      exact ⟨⟨by omega, by omega, by omega, by omega, fun h => by have := hm.nw _ h; omega⟩, ⟨by omega, by omega, by omega, fun h => by have := hm.nw _ h; omega⟩, ⟨by omega, by omega, fun h => by have := hm.nw _ h; omega⟩, ⟨by omega, fun h => by have := hps _ h; omega⟩, fun h => by have := hm.nw _ h; omega, hm.nd⟩
    · intro x hx
      have := hm.kp.le
      rcases hx with rfl | rfl | rfl | rfl | hx
      · omega
      · omega
      · omega
      · omega
      · have := hm.nw x hx; omega
end
end GK61
set_option Elab.async false
set_option linter.all false
set_option maxRecDepth 100000
namespace GK61
open PySem L2 Ly
open PySem.Spec hiding Row
open PyProof.Rows hiding St
local macro_rules | `(tactic| simp_arith [$ls,*]) => `(tactic| simp only [Ly.line_le, Ly.atX_no, Ly.v_ok, Ly.v_bad, Ly.v_bind, Ly.k_bd, Ly.v_at, Ly.v_bin, Ly.k_bi, Ly.k_bi2, Ly.v_var, Ly.v_c, Ly.v_un, Ly.k_un, Ly.v_if, Ly.k_ife, Ly.v_and, Ly.k_and, Ly.k_and2, Ly.v_or, Ly.k_or, Ly.k_or2, Ly.v_tup, Ly.k_tup, Ly.v_lst, Ly.k_lst, Ly.v_call, Ly.k_ca, Ly.v_fn, Ly.k_fn, Ly.v_bm, Ly.k_bm, Ly.k_bm2, Ly.v_sl, Ly.k_sl, Ly.k_sl2, Ly.k_sl3, Ly.v_ixK, Ly.k_ixk, Ly.v_inK, Ly.k_ink, Ly.v_notinK, Ly.k_nink, Ly.v_getK2, Ly.k_gk2, Ly.k_gk, Ly.v_get2, Ly.k_g2, Ly.k_g22, Ly.k_g23, Ly.v_nil, Ly.v_cons, Ly.k_co, Ly.k_co2, Ly.v_no, Ly.v_some, Ly.k_so, Ly.k_cm, Ly.v_cmp, Ly.v_tru, Ly.k_tr, Ly.v_notB, Ly.k_no, Ly.v_andB, Ly.k_an, Ly.v_orB, Ly.k_orb, Ly.v_yes, Ly.v_inKB, Ly.k_inkB, Ly.v_notinKB, Ly.k_ninkB, Ly.v_set, Ly.k_st, Ly.v_expr, Ly.k_ex, Ly.v_ret, Ly.k_re, Ly.v_retN, Ly.v_pass, Ly.v_brk, Ly.v_cnt, Ly.v_seq, Ly.k_sq_nx, Ly.k_sq_rt, Ly.k_sq_bk, Ly.k_sq_ct, Ly.v_ifS, Ly.k_ifs, Ly.v_asg, Ly.k_as, Ly.k_as2, Ly.v_aug, Ly.k_au, Ly.v_for, Ly.k_fo, Ly.v_it, Ly.k_it, Ly.k_ij, Ly.v_rng1, Ly.v_rng2, Ly.v_enum, Ly.v_zip, Ly.v_ez, Ly.v_gN, Ly.v_gsN, Ly.v_gsC, Ly.k_gc, Ly.v_gT, Ly.v_gTw, Ly.v_gSb, Ly.k_gsb, Ly.k_gsb2, Ly.k_gsb3, Ly.k_en_rt, Ly.k_en_nx, Ly.k_tu_nx, Ly.k_tu_ct, Ly.k_tu_bk, Ly.k_tu_rt, Ly.v_lc, Ly.k_lc, Ly.v_augI, Ly.k_ag, Ly.k_ag2, Ly.k_ag3, Ly.k_ag4, Ly.k_ag5, Ly.v_del, Ly.k_dl, Ly.k_dl2, Ly.v_setd, Ly.v_pop2, Ly.k_d3, Ly.k_d32, Ly.k_d33, Ly.v_get1, Ly.k_g1, Ly.k_g12, Ly.v_rg1, Ly.k_rg, Ly.v_rg2, Ly.k_rg2, Ly.k_rg22, Ly.v_dicK, Ly.v_dicT, Ly.v_dc, Ly.k_dc, List.getElem?_cons_zero, List.getElem?_cons_succ, List.set_cons_zero, List.set_cons_succ, List.length_cons, List.length_nil, List.map_cons, List.map_nil, List.cons_append, List.nil_append, List.replicate, if_true, if_false, Bool.false_eq_true, Bool.not_true, Bool.not_false, Bool.true_and, Bool.false_and, decide_true, decide_false, decide_eq_true_eq, Nat.zero_add, Nat.reduceAdd, Nat.reduceLeDiff, true_and, and_true, $ls,*])
theorem actF_ok {fA : Nat → Addr} (hA : ActOk fA) {s : Str} (hs : s ∈ signsL) : ∃ f md, (d_ACT fA).lookup s = some (.cst f) ∧ (tblF fA).lookup f = some md ∧ ∀ (a b : Nat) (S : Hs), a < 4294967296 → b < 4294967296 → Wp NoX (md [nD a, nD b] S) fun v S' => v = nD (opN s a b) ∧ S' = S := by
  have hne : ∀ i j, i < 13 → j < 13 → i ≠ j → (fA i == fA j) = false := fun i j hi hj hn => by simpa using fun e => hn (hA i j hi hj e)
  have lk : ∀ k md, k < 13 → [m_s0, m_s1, m_s2, m_s3, m_s4, m_s5, m_s6, m_s7, m_s8, m_s9, m_s10, m_s11, m_s12][k]? = some md → (tblF fA).lookup (fA k) = some md := by
    intro k md hk e
    rw [← e]
    have hc : k = 0 ∨ k = 1 ∨ k = 2 ∨ k = 3 ∨ k = 4 ∨ k = 5 ∨ k = 6 ∨ k = 7 ∨ k = 8 ∨ k = 9 ∨ k = 10 ∨ k = 11 ∨ k = 12 := by omega
    have st : ∀ (i : Nat) (md : MD) (r : List (Addr × MD)), i < 13 → i ≠ k → ((fA i, md) :: r).lookup (fA k) = r.lookup (fA k) := fun i md r hi hn => by
      rw [List.lookup_cons, hne k i hk hi (fun e => hn e.symm)]
    have hit : ∀ (md : MD) (r : List (Addr × MD)), ((fA k, md) :: r).lookup (fA k) = some md := fun md r => by rw [List.lookup_cons, beq_self_eq_true]
    unfold tblF
    rcases hc with rfl | rfl | rfl | rfl | rfl | rfl | rfl | rfl | rfl | rfl | rfl | rfl | rfl
    all_goals repeat (first | exact hit _ _ | rw [st _ _ _ (by decide) (by decide)])
  simp only [signsL, List.mem_cons, List.not_mem_nil, or_false] at hs
  rcases hs with rfl | rfl | rfl | rfl | rfl | rfl | rfl | rfl | rfl | rfl | rfl | rfl | rfl
  · exact ⟨_, _, by simp [d_ACT, List.lookup, beq_lit], lk 0 _ (by decide) rfl, fun a b S ha hb => s0_ok ha hb⟩
  · exact ⟨_, _, by simp [d_ACT, List.lookup, beq_lit], lk 1 _ (by decide) rfl, fun a b S ha hb => s1_ok ha hb⟩
  · exact ⟨_, _, by simp [d_ACT, List.lookup, beq_lit], lk 2 _ (by decide) rfl, fun a b S ha hb => s2_ok ha hb⟩
  · exact ⟨_, _, by simp [d_ACT, List.lookup, beq_lit], lk 3 _ (by decide) rfl, fun a b S ha hb => s3_ok ha hb⟩
  · exact ⟨_, _, by simp [d_ACT, List.lookup, beq_lit], lk 4 _ (by decide) rfl, fun a b S ha hb => s4_ok ha hb⟩
  · exact ⟨_, _, by simp [d_ACT, List.lookup, beq_lit], lk 5 _ (by decide) rfl, fun a b S ha hb => s5_ok ha hb⟩
  · exact ⟨_, _, by simp [d_ACT, List.lookup, beq_lit], lk 6 _ (by decide) rfl, fun a b S ha hb => s6_ok ha hb⟩
  · exact ⟨_, _, by simp [d_ACT, List.lookup, beq_lit], lk 7 _ (by decide) rfl, fun a b S ha hb => s7_ok ha hb⟩
  · exact ⟨_, _, by simp [d_ACT, List.lookup, beq_lit], lk 8 _ (by decide) rfl, fun a b S ha hb => s8_ok ha hb⟩
  · exact ⟨_, _, by simp [d_ACT, List.lookup, beq_lit], lk 9 _ (by decide) rfl, fun a b S ha hb => s9_ok ha hb⟩
  · exact ⟨_, _, by simp [d_ACT, List.lookup, beq_lit], lk 10 _ (by decide) rfl, fun a b S ha hb => s10_ok ha hb⟩
  · exact ⟨_, _, by simp [d_ACT, List.lookup, beq_lit], lk 11 _ (by decide) rfl, fun a b S ha hb => s11_ok ha hb⟩
  · exact ⟨_, _, by simp [d_ACT, List.lookup, beq_lit], lk 12 _ (by decide) rfl, fun a b S ha hb => s12_ok ha hb⟩
theorem act_ok {cA : Nat → Addr} (hA : ActOk fun k => cA (k + 1)) {s : Str} (hs : s ∈ signsL) : ∃ f md, (d_ACTIONS cA).lookup s = some (.cst f) ∧ List.lookup f [(cA 1, m__plus), (cA 2, m__minus), (cA 3, m__times), (cA 4, m__both), (cA 5, m__either), (cA 6, m__apart), (cA 7, m__left), (cA 8, m__right), (cA 9, m__equal), (cA 10, m__less), (cA 11, m__at_most), (cA 12, m__div), (cA 13, m__mod)] = some md ∧
    ∀ (a b : Nat) (S : Hs), a < 4294967296 → b < 4294967296 → Wp NoX (md [nD a, nD b] S) fun v S' => v = nD (opN s a b) ∧ S' = S := actF_ok hA hs
theorem apply_ok {cA : Nat → Addr} (hA : ActOk fun k => cA (k + 1)) {S : Hs} {s : Str} {a b : Nat} (hs : s ∈ signsL) (ha : a < 4294967296) (hb : b < 4294967296) : Wp NoX (m_apply cA [.str s, nD a, nD b] S) fun v S' => v = nD (opN s a b) ∧ S' = S :=
  (show m_apply cA = m_applyF (fun k => cA (k + 1)) from rfl) ▸ applyF_ok hA hs ha hb
section
variable {cA : Nat → Addr} {C : Addr} {S S' S0 : Hs} {arrs : List Arr} {nb qi qr qo qc qm N : Nat} {zs ps B : List Nat} {s : IS} {r : Row}
theorem range_set {f : Nat → Nat} {d w : Nat} : ((List.range N).map f).set d w = (List.range N).map (upN f d w) := by
  refine List.ext_getElem? fun j => ?_
  by_cases hj : j < N
  · by_cases hd : d = j
    · subst hd
      rw [List.getElem?_set_self (by simpa using hj)]
      simp [List.getElem?_range hj, upN]
    · rw [List.getElem?_set_ne hd]
      simp [List.getElem?_range hj, upN, Ne.symm hd]
  · rw [List.getElem?_eq_none (by simp; omega), List.getElem?_eq_none (by simp; omega)]
theorem PR.ix (h : PR C arrs zs S qi qr qo qc qm ps N s) {a : Nat} (ha : a < N) : oIx (.ref qr) (nD a) S = .ok (nD (s.regs a)) S := by
  have := ix_nats h.r (j := a) (by simpa using ha)
  rw [this]; simp [List.getD, List.getElem?_range ha]
theorem PR.mx (h : PR C arrs zs S qi qr qo qc qm ps N s) {i z : Nat} (hz : zs[i]? = some z) : oIx (.ref qm) (nD i) S = .ok (nD (z - 1)) S := by
  have hi := (List.getElem?_eq_some_iff.mp hz).1
  have := ix_nats h.m (j := i) (by simpa using hi)
  rw [this]; simp [List.getD, hz]
theorem PR.nds (h : PR C arrs zs S qi qr qo qc qm ps N s) : (qi ≠ qm ∧ qi ≠ qr ∧ qi ≠ qo ∧ qi ≠ qc ∧ qi ∉ ps) ∧ (qm ≠ qr ∧ qm ≠ qo ∧ qm ≠ qc ∧ qm ∉ ps) ∧ (qr ≠ qo ∧ qr ≠ qc ∧ qr ∉ ps) := by
  have := h.nd
  simp only [List.nodup_cons, List.mem_cons, not_or] at this
  exact ⟨⟨this.1.1, this.1.2.1, this.1.2.2.1, this.1.2.2.2.1, this.1.2.2.2.2⟩, ⟨this.2.1.1, this.2.1.2.1, this.2.1.2.2.1, this.2.1.2.2.2⟩, ⟨this.2.2.1.1, this.2.2.1.2.1, this.2.2.1.2.2⟩⟩
theorem PR.kp (h : PR C arrs zs S qi qr qo qc qm ps N s) (k : Kp B S S') (hb : ∀ x ∈ qi :: qm :: qr :: qo :: qc :: ps, x ∉ B) : PR C arrs zs S' qi qr qo qc qm ps N s :=
  ⟨k.get h.i (hb _ (by simp)), k.get h.m (hb _ (by simp)), k.get h.r (hb _ (by simp)), h.co.kp k fun x hx => hb x (by simp only [List.mem_cons] at hx ⊢; exact .inr (.inr (.inr hx))), h.nd⟩
theorem PR.reg (h : PR C arrs zs S qi qr qo qc qm ps N s) {d w : Nat} (hd : d < N) : oSet (.ref qr) (nD d) (nD w) S = .ok () (S.set qr (.lst (((List.range N).map (upN s.regs d w)).map nD))) ∧ PR C arrs zs (S.set qr (.lst (((List.range N).map (upN s.regs d w)).map nD))) qi qr qo qc qm ps N { s with regs := upN s.regs d w } := by
  obtain ⟨n1, n2, n3⟩ := h.nds
  refine ⟨by rw [set_nats h.r (by simpa using hd), range_set], get_set_ne h.i n1.2.1, get_set_ne h.m n2.1, get_put h.r, (h.co.set (by simp; exact n3)).regs, h.nd⟩
theorem and_mod {x z : Nat} {S : Hs} (hz : ∃ e, z = 2 ^ e) : oAnd (nD x) (nD (z - 1)) S = .ok (nD (x % z)) S := by
  obtain ⟨e, rfl⟩ := hz
  rw [oAnd_int, PySem.W.os_band, Nat.and_two_pow_sub_one_eq_mod]
theorem doRow_ok (hA : ActOk fun k => cA (k + 1)) {k : Nat} (h : PR (cA 0) arrs zs S qi qr qo qc qm ps N s) (ok : ISok zs s k) (hz : ∀ z ∈ zs, ∃ e, z = 2 ^ e) (hr : r.ok 9 zs.length nb) (hl : r.last = false) (hN : ∀ x ∈ r.regs, x < N) (hk : k ≤ 100000) (hK : Kp [] S0 S) (hn : ∀ x ∈ qr :: qo :: ps, S0.length ≤ x) {x1 : D} {o4 o5 : Option D} :
    Wp NoX (lb_IrRun_m_do_rows_0 cA [some (.ref qi), some x1, some (.ref qr), some r.D, o4, o5] S) fun f S' => (∃ o3 o4 o5, f = .nx [some (.ref qi), some x1, some (.ref qr), o3, o4, o5]) ∧ PR (cA 0) arrs zs S' qi qr qo qc qm ps N (s.exec r) ∧ Kp [] S0 S' := by
  obtain ⟨n1, n2, n3⟩ := h.nds
  have hkr : ∀ {o : O}, Kp [] S0 (S.set qr o) := hK.setNew (hn _ (by simp))
  unfold lb_IrRun_m_do_rows_0
  cases r with
  | const d n =>
    have e : D.int n = nD n.toNat := nat_of hr.2.1
    obtain ⟨e1, e2⟩ := h.reg (d := d) (w := n.toNat) (hN d (by simp [Row.regs, Row.wr]))
    simp_arith [Ly.v_fld, Ly.v_meth, Ly.k_me2, Ly.v_make, Ly.k_mk, Ly.v_fldset, Ly.k_fs, Ly.v_fldaug, Ly.k_fa2, Ly.look1, List.mem_cons, List.not_mem_nil, or_false, true_or, or_true, Row.D, tix0, tix1, tix2, oEq_str, ofString_inj, String.reduceEq, e, e1]
    exact ⟨⟨_, _, _, rfl⟩, e2, hkr⟩
  | copy d a =>
    obtain ⟨e1, e2⟩ := h.reg (d := d) (w := s.regs a) (hN d (by simp [Row.regs, Row.wr]))
    simp_arith [Ly.v_fld, Ly.v_meth, Ly.k_me2, Ly.v_make, Ly.k_mk, Ly.v_fldset, Ly.k_fs, Ly.v_fldaug, Ly.k_fa2, Ly.look1, List.mem_cons, List.not_mem_nil, or_false, true_or, or_true, Row.D, tix0, tix1, tix2, oEq_str, ofString_inj, String.reduceEq, h.ix (hN a (by simp [Row.regs, Row.rd])), e1]
    exact ⟨⟨_, _, _, rfl⟩, e2, hkr⟩
  | op z d a b =>
    obtain ⟨f, md, a1, a2, a3⟩ := act_ok (cA := cA) hA hr.1
    obtain ⟨e1, e2⟩ := h.reg (d := d) (w := opN z (s.regs a) (s.regs b)) (hN d (by simp [Row.regs, Row.wr]))
    simp_arith [Ly.v_fld, Ly.v_meth, Ly.k_me2, Ly.v_make, Ly.k_mk, Ly.v_fldset, Ly.k_fs, Ly.v_fldaug, Ly.k_fa2, Ly.look1, List.mem_cons, List.not_mem_nil, or_false, true_or, or_true, Row.D, tix0, tix1, oEq_str, ofString_inj, String.reduceEq, a1]
    rw [v_calA rfl a2]
    simp_arith [Ly.v_fld, Ly.v_meth, Ly.k_me2, Ly.v_make, Ly.k_mk, Ly.v_fldset, Ly.k_fs, Ly.v_fldaug, Ly.k_fa2, Ly.look1, List.mem_cons, List.not_mem_nil, or_false, true_or, or_true, Row.D, tix3, mx4, h.ix (hN a (by simp [Row.regs, Row.rd])), h.ix (hN b (by simp [Row.regs, Row.rd]))]
    refine Wp.call (a3 _ _ S (ok.lt a) (ok.lt b)) ?_
    rintro _ S ⟨rfl, rfl⟩
    simp_arith [Ly.v_fld, Ly.v_meth, Ly.k_me2, Ly.v_make, Ly.k_mk, Ly.v_fldset, Ly.k_fs, Ly.v_fldaug, Ly.k_fa2, Ly.look1, List.mem_cons, List.not_mem_nil, or_false, true_or, or_true, tix2, e1]
    exact ⟨⟨_, _, _, rfl⟩, e2, hkr⟩
  | select d c a b =>
    obtain ⟨e1, e2⟩ := h.reg (d := d) (w := if s.regs c ≠ 0 then s.regs a else s.regs b) (hN d (by simp [Row.regs, Row.wr]))
    have ha := h.ix (hN a (by simp [Row.regs, Row.rd]))
    have hb := h.ix (hN b (by simp [Row.regs, Row.rd]))
    by_cases hc : s.regs c = 0
    · have hci : ((s.regs c : Nat) : Int) = 0 := by omega
      simp only [hc, ne_eq, not_true_eq_false, if_false] at e1
      simp_arith [Ly.v_fld, Ly.v_meth, Ly.k_me2, Ly.v_make, Ly.k_mk, Ly.v_fldset, Ly.k_fs, Ly.v_fldaug, Ly.k_fa2, Ly.look1, List.mem_cons, List.not_mem_nil, or_false, true_or, or_true, Row.D, tix0, tix1, tix2, mx4, oEq_str, ofString_inj, String.reduceEq, h.ix (hN c (by simp [Row.regs, Row.rd])), hb, oNe_int, hci, ne_eq, not_true_eq_false, e1]
      refine ⟨⟨_, _, _, rfl⟩, ?_, hkr⟩
      simp only [hc, ne_eq, not_true_eq_false, if_false] at e2
      simp only [IS.exec, hc, ne_eq, not_true_eq_false, if_false]
      exact e2
    · have hci : ¬ ((s.regs c : Nat) : Int) = 0 := by omega
      simp only [ne_eq, hc, not_false_eq_true, if_true] at e1
      simp_arith [Ly.v_fld, Ly.v_meth, Ly.k_me2, Ly.v_make, Ly.k_mk, Ly.v_fldset, Ly.k_fs, Ly.v_fldaug, Ly.k_fa2, Ly.look1, List.mem_cons, List.not_mem_nil, or_false, true_or, or_true, Row.D, tix0, tix1, tix2, tix3, oEq_str, ofString_inj, String.reduceEq, h.ix (hN c (by simp [Row.regs, Row.rd])), ha, oNe_int, hci, ne_eq, not_false_eq_true, e1]
      refine ⟨⟨_, _, _, rfl⟩, ?_, hkr⟩
      simp only [ne_eq, hc, not_false_eq_true, if_true] at e2
      simp only [IS.exec, ne_eq, hc, not_false_eq_true, if_true]
      exact e2
  | load d i a =>
    obtain ⟨w1, w2⟩ := ok.at hr.2.1
    obtain ⟨p, p1, p2, p3⟩ := h.co.at (i := i) (by rw [ok.len]; exact hr.2.1)
    have hz2 := hz _ (List.mem_of_getElem? w2)
    have hpos : 0 < (s.cell i).length := by obtain ⟨e, he⟩ := hz2; rw [he]; exact Nat.two_pow_pos e
    obtain ⟨e1, e2⟩ := h.reg (d := d) (w := (s.cell i).getD (s.regs a % (s.cell i).length) 0) (hN d (by simp [Row.regs, Row.wr]))
    simp_arith [Ly.v_fld, Ly.v_meth, Ly.k_me2, Ly.v_make, Ly.k_mk, Ly.v_fldset, Ly.k_fs, Ly.v_fldaug, Ly.k_fa2, Ly.look1, List.mem_cons, List.not_mem_nil, or_false, true_or, or_true, Row.D, tix0, tix1, tix2, tix3, oEq_str, ofString_inj, String.reduceEq, h.ix (hN a (by simp [Row.regs, Row.rd])), k_fl h.i, List.lookup, beq_lit, String.reduceBEq, p2, h.mx w2, and_mod hz2, ix_nats p3 (Nat.mod_lt _ hpos), e1]
    exact ⟨⟨_, _, _, rfl⟩, e2, hkr⟩
  | store i a v =>
    obtain ⟨w1, w2⟩ := ok.at hr.1
    obtain ⟨p, p1, p2, p3⟩ := h.co.at (i := i) (by rw [ok.len]; exact hr.1)
    have hz2 := hz _ (List.mem_of_getElem? w2)
    have hpos : 0 < (s.cell i).length := by obtain ⟨e, he⟩ := hz2; rw [he]; exact Nat.two_pow_pos e
    have hp := List.mem_of_getElem? p1
    simp_arith [Ly.v_fld, Ly.v_meth, Ly.k_me2, Ly.v_make, Ly.k_mk, Ly.v_fldset, Ly.k_fs, Ly.v_fldaug, Ly.k_fa2, Ly.look1, List.mem_cons, List.not_mem_nil, or_false, true_or, or_true, Row.D, tix0, tix1, tix2, tix3, oEq_str, ofString_inj, String.reduceEq, h.ix (hN a (by simp [Row.regs, Row.rd])), h.ix (hN v (by simp [Row.regs, Row.rd])), k_fl h.i, List.lookup, beq_lit, String.reduceBEq, p2, h.mx w2, and_mod hz2, set_nats p3 (Nat.mod_lt _ hpos)]
    have hne : ∀ x, x ∉ ps → x ≠ p := fun x hx e => hx (e ▸ hp)
    exact ⟨⟨_, _, _, rfl⟩, ⟨get_set_ne h.i (hne _ n1.2.2.2.2), get_set_ne h.m (hne _ n2.2.2.2), get_set_ne h.r (hne _ n3.2.2), h.co.store p1, h.nd⟩, hK.setNew (hn p (by simp [hp]))⟩
  | out a =>
    simp_arith [Ly.v_fld, Ly.v_meth, Ly.k_me2, Ly.v_make, Ly.k_mk, Ly.v_fldset, Ly.k_fs, Ly.v_fldaug, Ly.k_fa2, Ly.look1, List.mem_cons, List.not_mem_nil, or_false, true_or, or_true, Row.D, tix0, tix1, oEq_str, ofString_inj, String.reduceEq, h.ix (hN a (by simp [Row.regs, Row.rd])), k_fl h.i, List.lookup, beq_lit, String.reduceBEq, hasTy_lst h.co.o, oAppend_lst h.co.o (by simp only [List.length_map]; have := ok.sh; exact line_big (by omega))]
    refine ⟨⟨_, _, _, rfl⟩, ⟨get_set_ne h.i n1.2.2.1, get_set_ne h.m n2.2.1, get_set_ne h.r n3.1, h.co.out, h.nd⟩, hK.setNew (hn _ (by simp))⟩
  | jump t => cases hl
  | branch a t u => cases hl
  | stop a => cases hl
theorem rows_ok (hA : ActOk fun k => cA (k + 1)) {k : Nat} {body : List Row} (h : PR (cA 0) arrs zs S qi qr qo qc qm ps N s) (ok : ISok zs s k) (hz : ∀ z ∈ zs, ∃ e, z = 2 ^ e) (hr : ∀ r ∈ body, r.ok 9 zs.length nb ∧ r.last = false ∧ ∀ x ∈ r.regs, x < N) (hk : k + body.length ≤ 100000) (hK : Kp [] S0 S) (hn : ∀ x ∈ qr :: qo :: ps, S0.length ≤ x) :
    Wp NoX (m_IrRun_m_do_rows cA [.ref qi, .tup (body.map Row.D)] S) fun v S' => PR (cA 0) arrs zs S' qi qr qo qc qm ps N (execs s body) ∧ ISok zs (execs s body) (k + body.length) ∧ Kp [] S0 S' := by
  refine wp_def0 rfl ?_
  unfold b_IrRun_m_do_rows
  simp_arith [Ly.v_fld, Ly.v_meth, Ly.k_me2, Ly.v_make, Ly.k_mk, Ly.v_fldset, Ly.k_fs, Ly.v_fldaug, Ly.k_fa2, Ly.look1, List.mem_cons, List.not_mem_nil, or_false, true_or, or_true, k_fl h.i, List.lookup, beq_lit, String.reduceBEq, oIt]
  refine wp_tupM Row.D (xs := body) (fun pre l S' => (∃ o3 o4 o5, l = [some (.ref qi), some (.tup (body.map Row.D)), some (.ref qr), o3, o4, o5]) ∧ PR (cA 0) arrs zs S' qi qr qo qc qm ps N (execs s pre) ∧ ISok zs (execs s pre) (k + pre.length) ∧ Kp [] S0 S') ⟨⟨_, _, _, rfl⟩, h, ok, hK⟩ ?_ ?_
  · rintro pre r post l S' hsp ⟨⟨o3, o4, o5, rfl⟩, h', ok', hK'⟩
    obtain ⟨r1, r2, r3⟩ := hr r (by rw [hsp]; simp)
    have hl : body.length = pre.length + (post.length + 1) := by rw [hsp]; simp
    simp_arith [Ly.v_fld, Ly.v_meth, Ly.k_me2, Ly.v_make, Ly.k_mk, Ly.v_fldset, Ly.k_fs, Ly.v_fldaug, Ly.k_fa2, Ly.look1, List.mem_cons, List.not_mem_nil, or_false, true_or, or_true]
    refine (doRow_ok hA h' ok' hz r1 r2 r3 (by omega) hK' hn).mono (fun _ _ _ _ h => h) ?_
    rintro f S'' ⟨⟨o3, o4, o5, rfl⟩, h2, h3⟩
    have e : execs s (pre ++ [r]) = (execs s pre).exec r := by simp [Ly.execs]
    refine ⟨⟨_, _, _, rfl⟩, by rw [e]; exact h2, ?_, h3⟩
    rw [e, List.length_append, List.length_singleton, ← Nat.add_assoc]
    exact ok'.exec r1
  · rintro l S' ⟨⟨o3, o4, o5, rfl⟩, h', ok', hK'⟩
    exact ⟨h', ok', hK'⟩
theorem way_ok (h : PR C arrs zs S qi qr qo qc qm ps N s) (hC : C = cA 0) (hl : r.last = true) (hs : r.stops = none) (hN : ∀ x ∈ r.regs, x < N) : Wp NoX (m_IrRun_m_way cA [.ref qi, r.D] S) fun v S' => v = nD (s.way r) ∧ S' = S := by
  subst hC
  refine wp_def0 rfl ?_
  unfold b_IrRun_m_way
  cases r with
  | jump t => simp_arith [Ly.v_fld, Ly.v_meth, Ly.k_me2, Ly.v_make, Ly.k_mk, Ly.v_fldset, Ly.k_fs, Ly.v_fldaug, Ly.k_fa2, Ly.look1, List.mem_cons, List.not_mem_nil, or_false, true_or, or_true, Row.D, tix0, tix1, oEq_str]; rfl
  | branch a t u =>
    have ha := h.ix (hN a (by simp [Row.regs, Row.rd]))
    by_cases hc : s.regs a = 0
    · have hci : ((s.regs a : Nat) : Int) = 0 := by omega
      simp_arith [Ly.v_fld, Ly.v_meth, Ly.k_me2, Ly.v_make, Ly.k_mk, Ly.v_fldset, Ly.k_fs, Ly.v_fldaug, Ly.k_fa2, Ly.look1, List.mem_cons, List.not_mem_nil, or_false, true_or, or_true, Row.D, tix0, tix1, tix3, oEq_str, ofString_inj, String.reduceEq, k_fl h.i, List.lookup, beq_lit, String.reduceBEq, ha, oNe_int, hci, ne_eq, not_true_eq_false]
      simp [IS.way, hc]
    · have hci : ¬ ((s.regs a : Nat) : Int) = 0 := by omega
      simp_arith [Ly.v_fld, Ly.v_meth, Ly.k_me2, Ly.v_make, Ly.k_mk, Ly.v_fldset, Ly.k_fs, Ly.v_fldaug, Ly.k_fa2, Ly.look1, List.mem_cons, List.not_mem_nil, or_false, true_or, or_true, Row.D, tix0, tix1, tix2, oEq_str, ofString_inj, String.reduceEq, k_fl h.i, List.lookup, beq_lit, String.reduceBEq, ha, oNe_int, hci, ne_eq, not_false_eq_true]
      simp [IS.way, hc]
  | stop a => cases hs
  | const d n => cases hl
  | copy d a => cases hl
  | op z d a b => cases hl
  | select d c a b => cases hl
  | load d i a => cases hl
  | store i a v => cases hl
  | out a => cases hl
def cellsD (lens : List Nat) (s : IS) : D := .tup ((List.range lens.length).map fun k => .tup (((s.cell k).take (lens.getD k 0)).map nD))
theorem contents_ok (h : PR (cA 0) arrs zs S qi qr qo qc qm ps N s) {k : Nat} (ok : ISok zs s k) (hl : arrs.length = zs.length) (hsm : arrs.length ≤ 1000) : Wp NoX (m_IrRun_m_contents cA [.ref qi] S) fun v S' => v = cellsD (arrs.map (·.len)) s ∧ Kp [] S S' := by
  refine wp_def0 rfl ?_
  unfold b_IrRun_m_contents
  have hps : ps.length = arrs.length := by rw [h.co.l, ok.len, hl]
  have ez : oZip [.tup (arrs.map Arr.D), .ref qc] S = .ok (.zip (.t (arrs.map Arr.D)) (.l qc)) S := by simp [oZip, sqOf, seqAt_lst h.co.c]
  simp_arith [Ly.v_fld, Ly.v_meth, Ly.k_me2, Ly.v_make, Ly.k_mk, Ly.v_fldset, Ly.k_fs, Ly.v_fldaug, Ly.k_fa2, Ly.look1, List.mem_cons, List.not_mem_nil, or_false, true_or, or_true, k_fl h.i, List.lookup, beq_lit, String.reduceBEq, ez, wipeL]
  refine lc_pure (fun k : Nat => .tup [(arrs.map Arr.D).getD k .non, (ps.map D.ref).getD k .non]) (xs := List.range arrs.length) (fun k => some (.tup (((s.cell k).take ((arrs.map (·.len)).getD k 0)).map nD))) (fun S' hS' k hk => ?_) (by simp; omega) (fun k hk S' hS' => ?_) (fun S' h1 h2 => ?_)
  · have hc := hS'.get h.co.c (by simp)
    simp only [List.length_range] at hk
    simp only [itGo, Sq.at, seqAt_lst hc, List.length_map]
    rw [if_pos ⟨hk, by omega⟩]
    by_cases hk2 : k < arrs.length
    · simp [List.getD, List.getElem?_range hk2, List.getElem?_eq_getElem hk2, List.getElem?_eq_getElem (show k < ps.length by omega)]
    · have : k = arrs.length := by omega
      subst this
      simp [List.getElem?_eq_none (show arrs.length ≤ arrs.length by omega)]
  · have hk2 : k < arrs.length := by simpa using hk
    have hc : oIx (.ref qc) (nD k) S = _ := (h.co.at (i := k) (by rw [ok.len]; omega)).choose_spec.2.1
    obtain ⟨p, p1, p2, p3⟩ := h.co.at (i := k) (by rw [ok.len]; omega)
    have p4 := hS'.get p3 (by simp)
    have ea : (arrs.map Arr.D).getD k .non = arrs[k].D := by simp [List.getD, List.getElem?_eq_getElem hk2]
    have ep : (ps.map D.ref).getD k .non = .ref p := by simp [List.getD, p1]
    have el : (arrs.map (·.len)).getD k 0 = arrs[k].len := by simp [List.getD, List.getElem?_eq_getElem hk2]
    simp only [ea, ep, el]
    refine ⟨[some (.ref qi), some arrs[k].D, some (.ref p)], rfl, ?_⟩
    simp_arith [Ly.v_fld, Ly.v_meth, Ly.k_me2, Ly.v_make, Ly.k_mk, Ly.v_fldset, Ly.k_fs, Ly.v_fldaug, Ly.k_fa2, Ly.look1, List.mem_cons, List.not_mem_nil, or_false, true_or, or_true, arr1, oSl_lst p4, cutD_to, bTuple_lst get_end]
    exact ⟨Kp.refl, by simpa using Kp.new, by rw [List.map_take]⟩
  · have : (List.range arrs.length).filterMap (fun k => some (D.tup (((s.cell k).take ((arrs.map (·.len)).getD k 0)).map nD))) = (List.range arrs.length).map fun k => D.tup (((s.cell k).take ((arrs.map (·.len)).getD k 0)).map nD) := by
      rw [List.filterMap_eq_map']
    rw [this] at h1
    simp_arith [Ly.v_fld, Ly.v_meth, Ly.k_me2, Ly.v_make, Ly.k_mk, Ly.v_fldset, Ly.k_fs, Ly.v_fldaug, Ly.k_fa2, Ly.look1, List.mem_cons, List.not_mem_nil, or_false, true_or, or_true, bTuple_lst h1]
    exact ⟨by simp [cellsD], h2⟩
end
end GK61
set_option Elab.async false
set_option linter.all false
set_option maxRecDepth 100000
namespace GK61
open PySem L2 Ly
open PySem.Spec hiding Row
open PyProof.Rows hiding St
local macro_rules | `(tactic| simp_arith [$ls,*]) => `(tactic| simp only [Ly.line_le, Ly.atX_no, Ly.v_ok, Ly.v_bad, Ly.v_bind, Ly.k_bd, Ly.v_at, Ly.v_bin, Ly.k_bi, Ly.k_bi2, Ly.v_var, Ly.v_c, Ly.v_un, Ly.k_un, Ly.v_if, Ly.k_ife, Ly.v_and, Ly.k_and, Ly.k_and2, Ly.v_or, Ly.k_or, Ly.k_or2, Ly.v_tup, Ly.k_tup, Ly.v_lst, Ly.k_lst, Ly.v_call, Ly.k_ca, Ly.v_fn, Ly.k_fn, Ly.v_bm, Ly.k_bm, Ly.k_bm2, Ly.v_sl, Ly.k_sl, Ly.k_sl2, Ly.k_sl3, Ly.v_ixK, Ly.k_ixk, Ly.v_inK, Ly.k_ink, Ly.v_notinK, Ly.k_nink, Ly.v_getK2, Ly.k_gk2, Ly.k_gk, Ly.v_get2, Ly.k_g2, Ly.k_g22, Ly.k_g23, Ly.v_nil, Ly.v_cons, Ly.k_co, Ly.k_co2, Ly.v_no, Ly.v_some, Ly.k_so, Ly.k_cm, Ly.v_cmp, Ly.v_tru, Ly.k_tr, Ly.v_notB, Ly.k_no, Ly.v_andB, Ly.k_an, Ly.v_orB, Ly.k_orb, Ly.v_yes, Ly.v_inKB, Ly.k_inkB, Ly.v_notinKB, Ly.k_ninkB, Ly.v_set, Ly.k_st, Ly.v_expr, Ly.k_ex, Ly.v_ret, Ly.k_re, Ly.v_retN, Ly.v_pass, Ly.v_brk, Ly.v_cnt, Ly.v_seq, Ly.k_sq_nx, Ly.k_sq_rt, Ly.k_sq_bk, Ly.k_sq_ct, Ly.v_ifS, Ly.k_ifs, Ly.v_asg, Ly.k_as, Ly.k_as2, Ly.v_aug, Ly.k_au, Ly.v_for, Ly.k_fo, Ly.v_it, Ly.k_it, Ly.k_ij, Ly.v_rng1, Ly.v_rng2, Ly.v_enum, Ly.v_zip, Ly.v_ez, Ly.v_gN, Ly.v_gsN, Ly.v_gsC, Ly.k_gc, Ly.v_gT, Ly.v_gTw, Ly.v_gSb, Ly.k_gsb, Ly.k_gsb2, Ly.k_gsb3, Ly.k_en_rt, Ly.k_en_nx, Ly.k_tu_nx, Ly.k_tu_ct, Ly.k_tu_bk, Ly.k_tu_rt, Ly.v_lc, Ly.k_lc, Ly.v_augI, Ly.k_ag, Ly.k_ag2, Ly.k_ag3, Ly.k_ag4, Ly.k_ag5, Ly.v_del, Ly.k_dl, Ly.k_dl2, Ly.v_setd, Ly.v_pop2, Ly.k_d3, Ly.k_d32, Ly.k_d33, Ly.v_get1, Ly.k_g1, Ly.k_g12, Ly.v_rg1, Ly.k_rg, Ly.v_rg2, Ly.k_rg2, Ly.k_rg22, Ly.v_dicK, Ly.v_dicT, Ly.v_dc, Ly.k_dc, List.getElem?_cons_zero, List.getElem?_cons_succ, List.set_cons_zero, List.set_cons_succ, List.length_cons, List.length_nil, List.map_cons, List.map_nil, List.cons_append, List.nil_append, List.replicate, if_true, if_false, Bool.false_eq_true, Bool.not_true, Bool.not_false, Bool.true_and, Bool.false_and, decide_true, decide_false, decide_eq_true_eq, Nat.zero_add, Nat.reduceAdd, Nat.reduceLeDiff, true_and, and_true, $ls,*])
theorem cut_negA {ds : List D} {r : D} : Ly.cutD (ds ++ [r]) none (some (-1)) = ds := by
  have e : (-1 + ((ds ++ [r]).length : Int)).toNat = ds.length := by simp; omega
  simp only [Ly.cutD, HT.sIx, show ((-1 : Int) < 0) = True from by simp, if_true, e, Nat.sub_zero, List.drop_zero]
  simp
def outD (lens : List Nat) (s : IS) (a : Nat) : D := .tup [.tup (s.outs.map nD), nD (s.regs a), cellsD lens s]
def progV (lens : List Nat) : Option (Nat × IS × Nat) → D
  | some (_, s, a) => outD lens s a
  | none => .non
structure Dn (arrs : List Arr) (params : Nat) (blocks : List (List Row)) (ins : List Nat) (cs : List (List Nat)) : Prop where
  p : ProgOk 9 arrs params blocks
  i : ins.length = params
  il : ∀ w ∈ ins, w < 4294967296
  a : arrs.map (·.len) = cs.map (·.length)
  c : ∀ c ∈ cs, c.length ≤ 16 ∧ ∀ w ∈ c, w < 4294967296
section
variable {cA : Nat → Addr} {S S' S0 : Hs} {arrs : List Arr} {params : Nat} {blocks : List (List Row)} {ins : List Nat} {cs : List (List Nat)}
theorem Dn.al (h : Dn arrs params blocks ins cs) : arrs.length = cs.length := by have := congrArg List.length h.a; simpa using this
theorem Dn.zl (h : Dn arrs params blocks ins cs) : arrs.length = (zsOf cs).length := by rw [h.al]; simp [zsOf]
theorem Dn.row (h : Dn arrs params blocks ins cs) {b : List Row} (hb : b ∈ blocks) {r : Row} (hr : r ∈ b) : r.ok 9 arrs.length blocks.length := by
  obtain ⟨_, body, l, rfl, h1, h2, _⟩ := h.p.bl b hb
  rcases List.mem_append.mp hr with hr | hr
  · exact (h1 r hr).1
  · simp only [List.mem_singleton] at hr; subst hr; exact h2
theorem way_lt {s : IS} {r : Row} {na nb : Nat} (hr : r.ok 9 na nb) (hl : r.last = true) (hs : r.stops = none) : s.way r < nb := by
  cases r with
  | jump t => exact hr
  | branch a t u =>
    show (if s.regs a ≠ 0 then t else u) < nb
    split
    · exact hr.2.1
    · exact hr.2.2
  | stop a => cases hs
  | const d n => cases hl
  | copy d a => cases hl
  | op z d a b => cases hl
  | select d c a b => cases hl
  | load d i a => cases hl
  | store i a v => cases hl
  | out a => cases hl
theorem run_ok (hA : ActOk fun k => cA (k + 1)) (d : Dn arrs params blocks ins cs) {n : Nat} (hn : n ≤ 1000) : Wp NoX (m_run_ir cA [progD arrs params blocks, .tup (ins.map nD), contD cs, nD n] S) fun v S' => v = progV (arrs.map (·.len)) (lawR blocks n (is0 ins cs) 0 0) ∧ Kp [] S S' := by
  refine wp_def0 rfl ?_
  unfold b_run_ir
  have hna := d.p.na
  have hnp := d.p.np
  have hnb := d.p.nb
  rw [v_seq]
  simp_arith [Ly.v_fld, Ly.v_meth, Ly.k_me2, Ly.v_make, Ly.k_mk, Ly.v_fldset, Ly.k_fs, Ly.v_fldaug, Ly.k_fa2, Ly.look1, List.mem_cons, List.not_mem_nil, or_false, true_or, or_true, -v_seq]
  refine Wp.call (init_ok (nb := blocks.length) (fun b hb r hr => d.row hb hr) (by omega) d.i d.a (fun c hc => (d.c c hc).1) (by rw [← d.al]; omega) (by simp)) ?_
  rintro _ S1 ⟨rfl, N, qr, qo, qc, qm, ps, hP, hN, hNp, hNr, hnew, hK⟩
  refine ⟨rfl, ?_⟩
  have hK1 : Kp [] S S1 := Kp.new.after hK (by intro i hi hl; simp at hi; omega)
  have hnew' : ∀ x ∈ qr :: qo :: ps, S.length ≤ x := fun x hx => by
    have := hnew x (by simp only [List.mem_cons] at hx ⊢; rcases hx with h | h | h <;> simp [h])
    simp only [List.length_append, List.length_singleton] at this; omega
  obtain ⟨b0, hb0⟩ : ∃ b0, blocks[0]? = some b0 := ⟨_, List.getElem?_eq_getElem (show 0 < blocks.length by omega)⟩
  have e0 : oIx (.tup (blocks.map blockD)) (.int 0) S1 = .ok (blockD b0) S1 := oIx_tup (n := 0) (by rw [List.getElem?_map, hb0]; rfl)
  have hz : ∀ z ∈ zsOf cs, ∃ e, z = 2 ^ e := fun z hz => by
    obtain ⟨c, _, rfl⟩ := List.mem_map.mp hz; exact sz_pow _
  simp_arith [Ly.v_fld, Ly.v_meth, Ly.k_me2, Ly.v_make, Ly.k_mk, Ly.v_fldset, Ly.k_fs, Ly.v_fldaug, Ly.k_fa2, Ly.look1, List.mem_cons, List.not_mem_nil, or_false, true_or, or_true, prog_blocks, e0]
  refine wp_while (fun m l S' => ∃ (left b : Nat) (s : IS) (rows : List Row) (o8 : Option D) (j : Nat), l = [some (progD arrs params blocks), some (.tup (ins.map nD)), some (contD cs), some (nD n), some (.ref S.length), some (.tup (blocks.map blockD)), some (blockD rows), some (nD left), o8] ∧ m = left ∧ blocks[b]? = some rows ∧ lawR blocks n (is0 ins cs) 0 0 = bump j (lawR blocks left s b 0) ∧ PR (cA 0) arrs (zsOf cs) S' S.length qr qo qc qm ps N s ∧ ISok (zsOf cs) s (n - left) ∧ left ≤ n ∧ Kp [] S S') ?_ n _ S1 ⟨n, 0, _, b0, none, 0, rfl, rfl, hb0, bump0.symm, hP, (is0_ok d.il d.c).more (by omega), Nat.le_refl _, hK1⟩
  rintro m l S' ⟨left, b, s, rows, o8, j, rfl, rfl, hb, hl, hP, ok, hle, hK'⟩
  have hbm := List.mem_of_getElem? hb
  obtain ⟨hlen, body, r, rfl, hbody, hr, hrl⟩ := d.p.bl _ hbm
  have hblk := lawR_block hb (fun x hx => (hbody x hx).2) hrl s m
  unfold c_run_ir_0
  have ecnt : (((body ++ [r]).map Row.D).length : Int) = ((body.length + 1 : Nat) : Int) := by simp
  simp_arith [Ly.v_fld, Ly.v_meth, Ly.k_me2, Ly.v_make, Ly.k_mk, Ly.v_fldset, Ly.k_fs, Ly.v_fldaug, Ly.k_fa2, Ly.look1, List.mem_cons, List.not_mem_nil, or_false, true_or, or_true, bLen_tup, oLe_int, ecnt]
  by_cases hc : body.length + 1 ≤ m
  · have hc' : ((body.length + 1 : Nat) : Int) ≤ (m : Int) := by omega
    rw [if_pos hc']
    rw [if_neg (by omega)] at hblk
    unfold lb_run_ir_1
    have esub : ∀ S, oSub (nD m) (.int ((body.length + 1 : Nat) : Int)) S = .ok (nD (m - (body.length + 1))) S := fun S => by rw [oSub_int]; unfold nD; rw [Int.ofNat_sub hc]
    have esl : ∀ S, oSl (.tup ((body ++ [r]).map Row.D)) none (some (-1)) S = .ok (.tup (body.map Row.D)) S := fun S => by simp only [oSl, List.map_append, List.map_cons, List.map_nil, cut_negA]
    have eng : ∀ S, oNeg (.int 1) S = .ok (.int (-1)) S := fun _ => rfl
    have elast : ∀ S, oIx (.tup ((body ++ [r]).map Row.D)) (.int (-1)) S = .ok r.D S := fun S => by
      simp only [List.map_append, List.map_cons, List.map_nil]; exact ixLastA
    rw [v_seq]
    simp_arith [Ly.v_fld, Ly.v_meth, Ly.k_me2, Ly.v_make, Ly.k_mk, Ly.v_fldset, Ly.k_fs, Ly.v_fldaug, Ly.k_fa2, Ly.look1, List.mem_cons, List.not_mem_nil, or_false, true_or, or_true, bLen_tup, ecnt, esub, -v_seq]
    rw [v_seq]
    simp_arith [Ly.v_fld, Ly.v_meth, Ly.k_me2, Ly.v_make, Ly.k_mk, Ly.v_fldset, Ly.k_fs, Ly.v_fldaug, Ly.k_fa2, Ly.look1, List.mem_cons, List.not_mem_nil, or_false, true_or, or_true, k_me hP.i, List.lookup, beq_self_eq_true, beq_lit, String.reduceBEq, eng, esl, -v_seq]
    refine Wp.call (rows_ok (nb := blocks.length) hA hP ok hz (fun x hx => ⟨d.zl ▸ (hbody x hx).1, (hbody x hx).2, fun y hy => hNr _ hbm x (by simp [hx]) y hy⟩) (by omega) hK' hnew') ?_
    rintro _ S2 ⟨hP2, ok2, hK2⟩
    simp_arith [Ly.v_fld, Ly.v_meth, Ly.k_me2, Ly.v_make, Ly.k_mk, Ly.v_fldset, Ly.k_fs, Ly.v_fldaug, Ly.k_fa2, Ly.look1, List.mem_cons, List.not_mem_nil, or_false, true_or, or_true, -v_seq]
    rw [v_seq]
    simp_arith [Ly.v_fld, Ly.v_meth, Ly.k_me2, Ly.v_make, Ly.k_mk, Ly.v_fldset, Ly.k_fs, Ly.v_fldaug, Ly.k_fa2, Ly.look1, List.mem_cons, List.not_mem_nil, or_false, true_or, or_true, eng, elast, -v_seq]
    rw [v_seq]
    have hrN : ∀ x ∈ r.regs, x < N := hNr _ hbm r (by simp)
    cases hst : r.stops with
    | some a =>
      have er : r = .stop a := by cases r <;> simp [Row.stops] at hst; rw [hst]
      subst er
      have ha := hP2.ix (hrN a (by simp [Row.regs, Row.rd]))
      have ew : ∀ S, oIx (Row.stop a).D (.int 0) S = .ok (.str "stop") S := fun S => tix0
      have ew1 : ∀ S, oIx (Row.stop a).D (.int 1) S = .ok (nD a) S := fun S => tix1
      simp_arith [Ly.v_fld, Ly.v_meth, Ly.k_me2, Ly.v_make, Ly.k_mk, Ly.v_fldset, Ly.k_fs, Ly.v_fldaug, Ly.k_fa2, Ly.look1, List.mem_cons, List.not_mem_nil, or_false, true_or, or_true, ew, ew1, oEq_str, k_fl hP2.i, List.lookup, beq_lit, String.reduceBEq, bTuple_lst hP2.co.o, ha, k_me hP2.i, beq_self_eq_true, v_nil]
      refine Wp.call (contents_ok hP2 ok2 d.zl (by omega)) ?_
      rintro _ S3 ⟨rfl, hK3⟩
      simp_arith [Ly.v_fld, Ly.v_meth, Ly.k_me2, Ly.v_make, Ly.k_mk, Ly.v_fldset, Ly.k_fs, Ly.v_fldaug, Ly.k_fa2, Ly.look1, List.mem_cons, List.not_mem_nil, or_false, true_or, or_true]
      rw [hst] at hblk
      rw [hblk] at hl
      refine ⟨by rw [hl]; rfl, hK2.trans hK3⟩
    | none =>
      have ew : ∃ w : Str, (∀ S, oIx r.D (.int 0) S = .ok (.str w) S) ∧ w ≠ "stop" := by
        cases r <;> first | (simp [Row.last] at hrl; done) | (simp [Row.stops] at hst; done) | exact ⟨_, fun S => tix0, by simp [ofString_inj]⟩
      obtain ⟨w, ew, hw⟩ := ew
      rw [hst] at hblk
      rw [hblk, bump_bump] at hl
      have hwl := way_lt (s := execs s body) hr hrl hst
      obtain ⟨rows', hrows'⟩ : ∃ rows', blocks[(execs s body).way r]? = some rows' := ⟨_, List.getElem?_eq_getElem hwl⟩
      have eix : ∀ S, oIx (.tup (blocks.map blockD)) (nD ((execs s body).way r)) S = .ok (blockD rows') S := fun S => oIx_tup (by rw [List.getElem?_map, hrows']; rfl)
      simp_arith [Ly.v_fld, Ly.v_meth, Ly.k_me2, Ly.v_make, Ly.k_mk, Ly.v_fldset, Ly.k_fs, Ly.v_fldaug, Ly.k_fa2, Ly.look1, List.mem_cons, List.not_mem_nil, or_false, true_or, or_true, ew, oEq_str, hw, k_me hP2.i, List.lookup, beq_self_eq_true, beq_lit, String.reduceBEq]
      refine Wp.call (way_ok hP2 rfl hrl hst hrN) ?_
      rintro _ S2' ⟨rfl, rfl⟩
      simp_arith [Ly.v_fld, Ly.v_meth, Ly.k_me2, Ly.v_make, Ly.k_mk, Ly.v_fldset, Ly.k_fs, Ly.v_fldaug, Ly.k_fa2, Ly.look1, List.mem_cons, List.not_mem_nil, or_false, true_or, or_true, eix]
      exact ⟨_, by omega, _, _, _, _, _, _, rfl, rfl, hrows', hl, hP2, ok2.more (by omega), by omega, hK2⟩
  · have hc' : ¬ ((body.length + 1 : Nat) : Int) ≤ (m : Int) := by omega
    rw [if_neg hc']
    rw [if_pos (by omega)] at hblk
    rw [hblk] at hl
    refine ⟨by rw [hl]; rfl, hK'⟩
end
end GK61
set_option Elab.async false
set_option linter.all false
set_option maxRecDepth 100000
namespace GK61
open PySem L2 Ly
open PySem.Spec hiding Row
open PyProof.Rows hiding St
local macro_rules | `(tactic| simp_arith [$ls,*]) => `(tactic| simp only [Ly.line_le, Ly.atX_no, Ly.v_ok, Ly.v_bad, Ly.v_bind, Ly.k_bd, Ly.v_at, Ly.v_bin, Ly.k_bi, Ly.k_bi2, Ly.v_var, Ly.v_c, Ly.v_un, Ly.k_un, Ly.v_if, Ly.k_ife, Ly.v_and, Ly.k_and, Ly.k_and2, Ly.v_or, Ly.k_or, Ly.k_or2, Ly.v_tup, Ly.k_tup, Ly.v_lst, Ly.k_lst, Ly.v_call, Ly.k_ca, Ly.v_fn, Ly.k_fn, Ly.v_bm, Ly.k_bm, Ly.k_bm2, Ly.v_sl, Ly.k_sl, Ly.k_sl2, Ly.k_sl3, Ly.v_ixK, Ly.k_ixk, Ly.v_inK, Ly.k_ink, Ly.v_notinK, Ly.k_nink, Ly.v_getK2, Ly.k_gk2, Ly.k_gk, Ly.v_get2, Ly.k_g2, Ly.k_g22, Ly.k_g23, Ly.v_nil, Ly.v_cons, Ly.k_co, Ly.k_co2, Ly.v_no, Ly.v_some, Ly.k_so, Ly.k_cm, Ly.v_cmp, Ly.v_tru, Ly.k_tr, Ly.v_notB, Ly.k_no, Ly.v_andB, Ly.k_an, Ly.v_orB, Ly.k_orb, Ly.v_yes, Ly.v_inKB, Ly.k_inkB, Ly.v_notinKB, Ly.k_ninkB, Ly.v_set, Ly.k_st, Ly.v_expr, Ly.k_ex, Ly.v_ret, Ly.k_re, Ly.v_retN, Ly.v_pass, Ly.v_brk, Ly.v_cnt, Ly.v_seq, Ly.k_sq_nx, Ly.k_sq_rt, Ly.k_sq_bk, Ly.k_sq_ct, Ly.v_ifS, Ly.k_ifs, Ly.v_asg, Ly.k_as, Ly.k_as2, Ly.v_aug, Ly.k_au, Ly.v_for, Ly.k_fo, Ly.v_it, Ly.k_it, Ly.k_ij, Ly.v_rng1, Ly.v_rng2, Ly.v_enum, Ly.v_zip, Ly.v_ez, Ly.v_gN, Ly.v_gsN, Ly.v_gsC, Ly.k_gc, Ly.v_gT, Ly.v_gTw, Ly.v_gSb, Ly.k_gsb, Ly.k_gsb2, Ly.k_gsb3, Ly.k_en_rt, Ly.k_en_nx, Ly.k_tu_nx, Ly.k_tu_ct, Ly.k_tu_bk, Ly.k_tu_rt, Ly.v_lc, Ly.k_lc, Ly.v_augI, Ly.k_ag, Ly.k_ag2, Ly.k_ag3, Ly.k_ag4, Ly.k_ag5, Ly.v_del, Ly.k_dl, Ly.k_dl2, Ly.v_setd, Ly.v_pop2, Ly.k_d3, Ly.k_d32, Ly.k_d33, Ly.v_get1, Ly.k_g1, Ly.k_g12, Ly.v_rg1, Ly.k_rg, Ly.v_rg2, Ly.k_rg2, Ly.k_rg22, Ly.v_dicK, Ly.v_dicT, Ly.v_dc, Ly.k_dc, List.getElem?_cons_zero, List.getElem?_cons_succ, List.set_cons_zero, List.set_cons_succ, List.length_cons, List.length_nil, List.map_cons, List.map_nil, List.cons_append, List.nil_append, List.replicate, if_true, if_false, Bool.false_eq_true, Bool.not_true, Bool.not_false, Bool.true_and, Bool.false_and, decide_true, decide_false, decide_eq_true_eq, Nat.zero_add, Nat.reduceAdd, Nat.reduceLeDiff, true_and, and_true, $ls,*])
def rK (qr qc qo : Nat) : List (Key × D) := [(.inr "regs", .ref qr), (.inr "cells", .ref qc), (.inr "outs", .ref qo)]
theorem rK_regs {qr qc qo : Nat} : getK (rK qr qc qo) (.inr "regs") = some (.ref qr) := by simp [getK, rK]
theorem rK_cells {qr qc qo : Nat} : getK (rK qr qc qo) (.inr "cells") = some (.ref qc) := by simp [getK, rK, ofString_inj]
theorem rK_outs {qr qc qo : Nat} : getK (rK qr qc qo) (.inr "outs") = some (.ref qo) := by simp [getK, rK, ofString_inj]
structure LR (zs : List Nat) (S0 S : Hs) (q qr qo qc : Nat) (ps : List Nat) (k : Nat) (s : IS) : Prop where
  d : S[q]? = some (.dic (rK qr qc qo))
  m : ∃ f, MemAt S qr f (100 + k) ∧ ∀ a, f.get a = s.regs a
  co : CO S qo qc ps s
  ok : ISok zs s k
  nd : (q :: qr :: qo :: qc :: ps).Nodup
  kp : Kp [] S0 S
  nw : ∀ x ∈ qr :: qo :: ps, S0.length ≤ x
section
variable {cA : Nat → Addr} {S S' S0 : Hs} {nb q qr qo qc k : Nat} {zs ps B : List Nat} {s : IS} {r : Row} {arrs : List Arr} {params : Nat} {blocks : List (List Row)} {ins : List Nat} {cs : List (List Nat)}
theorem LR.get (h : LR zs S0 S q qr qo qc ps k s) (a : Nat) {Q : D → Hs → Prop} : g2K3 (.ref qr) (nD a) Q (.int 0) S = Q (nD (s.regs a)) S := by
  obtain ⟨f, hm, hf⟩ := h.m
  rw [k_g23m hm, hf]
theorem LR.ty (h : LR zs S0 S q qr qo qc ps k s) : hasTy "dict" (.ref qr) S = true := h.m.choose_spec.1.ty
theorem LR.ix (h : LR zs S0 S q qr qo qc ps k s) : oIx (.ref q) (.str "regs") S = .ok (.ref qr) S ∧ oIx (.ref q) (.str "cells") S = .ok (.ref qc) S ∧ oIx (.ref q) (.str "outs") S = .ok (.ref qo) S :=
  ⟨oIx_dic h.d key_str rK_regs, oIx_dic h.d key_str rK_cells, oIx_dic h.d key_str rK_outs⟩
theorem LR.nds (h : LR zs S0 S q qr qo qc ps k s) : (q ≠ qr ∧ q ≠ qo ∧ q ≠ qc ∧ q ∉ ps) ∧ (qr ≠ qo ∧ qr ≠ qc ∧ qr ∉ ps) := by
  have := h.nd
  simp only [List.nodup_cons, List.mem_cons, not_or] at this
  exact ⟨⟨this.1.1, this.1.2.1, this.1.2.2.1, this.1.2.2.2⟩, ⟨this.2.1.1, this.2.1.2.1, this.2.1.2.2⟩⟩
theorem LR.new (h : LR zs S0 S q qr qo qc ps k s) {g : Hs} : LR zs S0 (S ++ g) q qr qo qc ps k s := by
  obtain ⟨f, hm, hf⟩ := h.m
  exact ⟨Kp.get (A := []) Kp.new h.d (by simp), ⟨f, hm.kp (B := []) Kp.new (by simp), hf⟩, h.co.new, h.ok, h.nd, h.kp.app, h.nw⟩
theorem LR.reg (h : LR zs S0 S q qr qo qc ps k s) (hk : k ≤ 100000) {d w : Nat} (hw : w < 4294967296) : ∃ o, oSet (.ref qr) (nD d) (nD w) S = .ok () (S.set qr o) ∧ LR zs S0 (S.set qr o) q qr qo qc ps (k + 1) { s with regs := upN s.regs d w } := by
  obtain ⟨f, hm, hf⟩ := h.m
  obtain ⟨o, ho, hm2⟩ := hm.put (by omega) d w
  obtain ⟨n1, n2⟩ := h.nds
  refine ⟨o, ho, ⟨get_set_ne h.d n1.1, ⟨_, hm2, fun a => ?_⟩, (h.co.set (by simp; exact n2)).regs, h.ok.reg hw, h.nd, h.kp.setNew (h.nw _ (by simp)), h.nw⟩⟩
  show Mem.get (f.put d w) a = upN s.regs d w a
  have := hf a
  unfold Mem.get Mem.put upN at *
  by_cases h1 : a = d <;> simp [h1, this]
theorem done_ok (hA : ActOk fun k => cA (k + 1)) (h : LR zs S0 S q qr qo qc ps k s) (hz : ∀ z ∈ zs, ∃ e, z = 2 ^ e) (hr : r.ok 9 zs.length nb) (hl : r.last = false) (hk : k ≤ 100000) :
    Wp NoX (m__law_done cA [.ref q, r.D] S) fun v S' => v = .non ∧ LR zs S0 S' q qr qo qc ps (k + 1) (s.exec r) := by
  refine wp_def0 rfl ?_
  unfold b__law_done
  obtain ⟨n1, n2⟩ := h.nds
  obtain ⟨i1, i2, i3⟩ := h.ix
  have ok2 := h.ok.exec hr
  cases r with
  | const d n =>
    have e : D.int n = nD n.toNat := nat_of hr.2.1
    obtain ⟨o, e1, e2⟩ := h.reg hk (d := d) (w := n.toNat) (by have := hr.2; omega)
    simp_arith [Ly.v_fld, Ly.v_meth, Ly.k_me2, Ly.v_make, Ly.k_mk, Ly.v_fldset, Ly.k_fs, Ly.v_fldaug, Ly.k_fa2, Ly.look1, List.mem_cons, List.not_mem_nil, or_false, true_or, or_true, Row.D, i1, tix0, tix1, tix2, oEq_str, ofString_inj, String.reduceEq, e, e1]
    exact e2
  | copy d a =>
    obtain ⟨o, e1, e2⟩ := h.reg hk (d := d) (w := s.regs a) (h.ok.lt a)
    simp_arith [Ly.v_fld, Ly.v_meth, Ly.k_me2, Ly.v_make, Ly.k_mk, Ly.v_fldset, Ly.k_fs, Ly.v_fldaug, Ly.k_fa2, Ly.look1, List.mem_cons, List.not_mem_nil, or_false, true_or, or_true, Row.D, i1, tix0, tix1, tix2, oEq_str, ofString_inj, String.reduceEq, h.ty, h.get, -k_g23, e1]
    exact e2
  | op z d a b =>
    obtain ⟨o, e1, e2⟩ := h.reg hk (d := d) (w := opN z (s.regs a) (s.regs b)) (opN_lt (h.ok.lt a) (h.ok.lt b))
    simp_arith [Ly.v_fld, Ly.v_meth, Ly.k_me2, Ly.v_make, Ly.k_mk, Ly.v_fldset, Ly.k_fs, Ly.v_fldaug, Ly.k_fa2, Ly.look1, List.mem_cons, List.not_mem_nil, or_false, true_or, or_true, Row.D, i1, tix0, tix1, tix2, tix3, mx4, oEq_str, ofString_inj, String.reduceEq, h.ty, h.get, -k_g23]
    refine Wp.call (apply_ok hA hr.1 (h.ok.lt a) (h.ok.lt b)) ?_
    rintro _ S ⟨rfl, rfl⟩
    simp_arith [Ly.v_fld, Ly.v_meth, Ly.k_me2, Ly.v_make, Ly.k_mk, Ly.v_fldset, Ly.k_fs, Ly.v_fldaug, Ly.k_fa2, Ly.look1, List.mem_cons, List.not_mem_nil, or_false, true_or, or_true, tix2, e1]
    exact e2
  | select d c a b =>
    have hn := h.new (g := [.lst [nD b, nD a]])
    have ix0 : oIx (.ref S.length) (.int 0) (S ++ [.lst [nD b, nD a]]) = .ok (nD b) (S ++ [.lst [nD b, nD a]]) := oIx_lst get_end (by simp) (by simp) (by simp)
    have ix1 : oIx (.ref S.length) (.int 1) (S ++ [.lst [nD b, nD a]]) = .ok (nD a) (S ++ [.lst [nD b, nD a]]) := oIx_lst get_end (by simp) (by simp) (by simp)
    have ht := hn.ty
    by_cases hc : s.regs c = 0
    · have en : ∀ S, oNe (nD (s.regs c)) (.int 0) S = .ok (.bl false) S := fun S => by rw [oNe_int, hc]; rfl
      obtain ⟨o, e1, e2⟩ := hn.reg hk (d := d) (w := s.regs b) (h.ok.lt _)
      simp_arith [Ly.v_fld, Ly.v_meth, Ly.k_me2, Ly.v_make, Ly.k_mk, Ly.v_fldset, Ly.k_fs, Ly.v_fldaug, Ly.k_fa2, Ly.look1, List.mem_cons, List.not_mem_nil, or_false, true_or, or_true, Row.D, i1, tix0, tix1, tix2, tix3, mx4, oEq_str, ofString_inj, String.reduceEq, h.ty, ht, h.new.get, -k_g23, en, show ∀ S, bInt [.bl false] S = .ok (.int 0) S from fun _ => rfl, ix0, e1]
      simp only [IS.exec, hc, ne_eq, not_true_eq_false, if_false]
      exact e2
    · have en : ∀ S, oNe (nD (s.regs c)) (.int 0) S = .ok (.bl true) S := fun S => by
        have : ¬ ((s.regs c : Nat) : Int) = 0 := by omega
        rw [oNe_int]; simp [hc]
      obtain ⟨o, e1, e2⟩ := hn.reg hk (d := d) (w := s.regs a) (h.ok.lt _)
      simp_arith [Ly.v_fld, Ly.v_meth, Ly.k_me2, Ly.v_make, Ly.k_mk, Ly.v_fldset, Ly.k_fs, Ly.v_fldaug, Ly.k_fa2, Ly.look1, List.mem_cons, List.not_mem_nil, or_false, true_or, or_true, Row.D, i1, tix0, tix1, tix2, tix3, mx4, oEq_str, ofString_inj, String.reduceEq, h.ty, ht, h.new.get, -k_g23, en, show ∀ S, bInt [.bl true] S = .ok (.int 1) S from fun _ => rfl, ix1, e1]
      simp only [IS.exec, hc, ne_eq, not_false_eq_true, if_true]
      exact e2
  | load d i a =>
    obtain ⟨w1, w2⟩ := h.ok.at hr.2.1
    obtain ⟨p, p1, p2, p3⟩ := h.co.at (i := i) (by rw [h.ok.len]; exact hr.2.1)
    have hz2 := hz _ (List.mem_of_getElem? w2)
    have hpos : 0 < (s.cell i).length := by obtain ⟨e, he⟩ := hz2; rw [he]; exact Nat.two_pow_pos e
    have em : ∀ (x : Nat) S, oMod (nD x) (.int (((s.cell i).map nD).length : Int)) S = .ok (nD (x % (s.cell i).length)) S := fun x S => by rw [List.length_map]; exact mod_nat hpos
    obtain ⟨o, e1, e2⟩ := h.reg hk (d := d) (w := (s.cell i).getD (s.regs a % (s.cell i).length) 0) (h.ok.cell_lt _ _)
    simp_arith [Ly.v_fld, Ly.v_meth, Ly.k_me2, Ly.v_make, Ly.k_mk, Ly.v_fldset, Ly.k_fs, Ly.v_fldaug, Ly.k_fa2, Ly.look1, List.mem_cons, List.not_mem_nil, or_false, true_or, or_true, Row.D, i1, i2, tix0, tix1, tix2, tix3, oEq_str, ofString_inj, String.reduceEq, h.ty, h.get, -k_g23, p2, bInt_int, bLen_lst p3, em, ix_nats p3 (Nat.mod_lt _ hpos), e1]
    exact e2
  | store i a v =>
    obtain ⟨w1, w2⟩ := h.ok.at hr.1
    obtain ⟨p, p1, p2, p3⟩ := h.co.at (i := i) (by rw [h.ok.len]; exact hr.1)
    have hz2 := hz _ (List.mem_of_getElem? w2)
    have hpos : 0 < (s.cell i).length := by obtain ⟨e, he⟩ := hz2; rw [he]; exact Nat.two_pow_pos e
    have hp := List.mem_of_getElem? p1
    have em : ∀ (x : Nat) S, oMod (nD x) (.int (((s.cell i).map nD).length : Int)) S = .ok (nD (x % (s.cell i).length)) S := fun x S => by rw [List.length_map]; exact mod_nat hpos
    simp_arith [Ly.v_fld, Ly.v_meth, Ly.k_me2, Ly.v_make, Ly.k_mk, Ly.v_fldset, Ly.k_fs, Ly.v_fldaug, Ly.k_fa2, Ly.look1, List.mem_cons, List.not_mem_nil, or_false, true_or, or_true, Row.D, i1, i2, tix0, tix1, tix2, tix3, oEq_str, ofString_inj, String.reduceEq, h.ty, h.get, -k_g23, p2, bInt_int, bLen_lst p3, em, set_nats p3 (Nat.mod_lt _ hpos)]
    have hne : ∀ x, x ∉ ps → x ≠ p := fun x hx e => hx (e ▸ hp)
    obtain ⟨f, hm, hf⟩ := h.m
    exact ⟨get_set_ne h.d (hne _ n1.2.2.2), ⟨f, (hm.more (by omega)).set (hne _ n2.2.2), hf⟩, h.co.store p1, ok2, h.nd, h.kp.setNew (h.nw p (by simp [hp])), h.nw⟩
  | out a =>
    obtain ⟨f, hm, hf⟩ := h.m
    simp_arith [Ly.v_fld, Ly.v_meth, Ly.k_me2, Ly.v_make, Ly.k_mk, Ly.v_fldset, Ly.k_fs, Ly.v_fldaug, Ly.k_fa2, Ly.look1, List.mem_cons, List.not_mem_nil, or_false, true_or, or_true, Row.D, i1, i3, tix0, tix1, oEq_str, ofString_inj, String.reduceEq, h.ty, h.get, -k_g23, hasTy_lst h.co.o, oAppend_lst h.co.o (by simp only [List.length_map]; have := h.ok.sh; exact line_big (by omega))]
    exact ⟨get_set_ne h.d n1.2.1, ⟨f, (hm.more (by omega)).set n2.1, hf⟩, h.co.out, ok2, h.nd, h.kp.setNew (h.nw _ (by simp)), h.nw⟩
  | jump t => cases hl
  | branch a t u => cases hl
  | stop a => cases hl
structure LMk (cs : List (List Nat)) (ins : List Nat) (S0 S : Hs) (q qr qc qo : Nat) (k : Nat) (ps : List Nat) : Prop where
  d : S[q]? = some (.dic (rK qr qc qo))
  m : ∃ f, MemAt S qr f 100 ∧ ∀ a, f.get a = ins.getD a 0
  c : S[qc]? = some (.lst (ps.map D.ref))
  o : S[qo]? = some (.lst [])
  l : ps.length = k
  e : ∀ j p : Nat, ps[j]? = some p → S[p]? = some (.lst (((cs.map pad).getD j []).map nD))
  nw : ∀ p ∈ ps, qo < p
  nd : ps.Nodup
  kp : Kp [] S0 S
theorem lmk_turn {ps : List Nat} {c : List Nat} (h : LMk cs ins S0 S q qr qc qo k ps) (hc : c.length ≤ 16) (he : cs[k]? = some c) (hk : k ≤ 1000)
    (d0 : q < qr) (d1 : qr < qc) (d2 : qc < qo) (d3 : S0.length ≤ q) {x0 x1 x3 : D} {o6 o7 o8 o9 o10 : Option D} :
    Wp NoX (lb__law_run_1 cA [some x0, some x1, some (contD cs), some x3, some (.ref q), some (nD k), o6, o7, o8, o9, o10] S) fun f S' => (f = .nx [some x0, some x1, some (contD cs), some x3, some (.ref q), some (nD k), o6, o7, o8, o9, o10]) ∧ ∃ p, LMk cs ins S0 S' q qr qc qo (k + 1) (ps ++ [p]) := by
  obtain ⟨z1, z2, z3⟩ := sz_ge hc
  unfold lb__law_run_1
  have hqm := Real.lt h.o
  have ec : ∀ S, oIx (contD cs) (nD k) S = .ok (.tup (c.map nD)) S := fun S => oIx_tup (by rw [List.getElem?_map, he]; rfl)
  have e2 : oIx (.ref q) (.str "cells") S = .ok (.ref qc) S := oIx_dic h.d key_str rK_cells
  have eln : (((c.map nD).length : Nat) : Int) = ((c.length : Nat) : Int) := by simp
  have es : ∀ S, oSub (nD (szN c.length)) (.int (c.length : Int)) S = .ok (nD (szN c.length - c.length)) S := fun S => by rw [oSub_int]; unfold nD; rw [Int.ofNat_sub z1]
  have hK : Kp [] S (S ++ [O.lst (c.map nD)] ++ [O.lst [D.int 0]] ++ [O.lst (List.replicate (szN c.length - c.length) (D.int 0))] ++ [O.lst (c.map nD ++ List.replicate (szN c.length - c.length) (D.int 0))]) := Kp.new.app.app.app
  have g1 : (S ++ [O.lst (c.map nD)] ++ [O.lst [D.int 0]])[(S ++ [O.lst (c.map nD)]).length]? = some (.lst [D.int 0]) := get_end
  have g2 : (S ++ [O.lst (c.map nD)] ++ [O.lst [D.int 0]] ++ [O.lst (List.replicate (szN c.length - c.length) (D.int 0))])[S.length]? = some (.lst (c.map nD)) := by
    rw [List.append_assoc, List.append_assoc, List.getElem?_append_right (by simp)]; simp
  have g3 : (S ++ [O.lst (c.map nD)] ++ [O.lst [D.int 0]] ++ [O.lst (List.replicate (szN c.length - c.length) (D.int 0))])[(S ++ [O.lst (c.map nD)] ++ [O.lst [D.int 0]]).length]? = some (.lst (List.replicate (szN c.length - c.length) (D.int 0))) := get_end
  have hq := hK.get h.c (by simp)
  have hlc : ps.length ≤ 1000 := by rw [h.l]; exact hk
  have al := oAdd_lst g2 g3 (by simp only [List.length_map, List.length_replicate]; exact line_le (by omega))
  have hne : (S ++ [O.lst (c.map nD)] ++ [O.lst [D.int 0]] ++ [O.lst (List.replicate (szN c.length - c.length) (D.int 0))]).length = S.length + 3 := by simp
  have hpn : (S ++ [O.lst (c.map nD)] ++ [O.lst [D.int 0]] ++ [O.lst (List.replicate (szN c.length - c.length) (D.int 0))] ++ [O.lst (c.map nD ++ List.replicate (szN c.length - c.length) (D.int 0))])[S.length + 3]? = some (.lst ((pad c).map nD)) := by
    rw [← hne, get_end]; simp [pad, nD]
  rw [hne] at al
  have ap := oAppend_lst (d := .ref (S.length + 3)) hq (by simp only [List.length_map]; exact line_big (by omega))
  simp_arith [Ly.v_fld, Ly.v_meth, Ly.k_me2, Ly.v_make, Ly.k_mk, Ly.v_fldset, Ly.k_fs, Ly.v_fldaug, Ly.k_fa2, Ly.look1, List.mem_cons, List.not_mem_nil, or_false, true_or, or_true, e2, hasTy_lst h.c, ec, bList_tup, bLen_tup, eln]
  refine Wp.call (size_ok (n := c.length) (by omega)) ?_
  rintro _ S5 ⟨rfl, rfl⟩
  simp_arith [Ly.v_fld, Ly.v_meth, Ly.k_me2, Ly.v_make, Ly.k_mk, Ly.v_fldset, Ly.k_fs, Ly.v_fldaug, Ly.k_fa2, Ly.look1, List.mem_cons, List.not_mem_nil, or_false, true_or, or_true, es, ec, bLen_tup, eln, mrep_ok g1 (show szN c.length - c.length ≤ 100000 by omega), al, ap, v_nil]
  generalize hS4 : S ++ [O.lst (c.map nD)] ++ [O.lst [D.int 0]] ++ [O.lst (List.replicate (szN c.length - c.length) (D.int 0))] = S4 at *
  have kq : Kp [qc] S ((S4 ++ [O.lst (c.map nD ++ List.replicate (szN c.length - c.length) (D.int 0))]).set qc (.lst (ps.map D.ref ++ [.ref (S.length + 3)]))) := (hK.sub (by simp)).setIn (by simp)
  obtain ⟨f, hm, hf⟩ := h.m
  refine ⟨S.length + 3, kq.get h.d (by simp; omega), ⟨f, hm.kp kq (by simp; omega), hf⟩, by rw [get_put hq]; simp, kq.get h.o (by simp; omega), by simp [h.l], fun j p hj => ?_, fun p hp => ?_, ?_, (h.kp.trans hK).setNew (by omega)⟩
  · by_cases hjk : j < ps.length
    · rw [List.getElem?_append_left hjk] at hj
      exact kq.get (h.e j p hj) (by have := h.nw p (List.mem_of_getElem? hj); simp; omega)
    · rw [List.getElem?_append_right (by omega)] at hj
      have e0 : j - ps.length = 0 := by
        rcases Nat.eq_zero_or_pos (j - ps.length) with z | z
        · exact z
        · rw [List.getElem?_eq_none (by simp; omega)] at hj; cases hj
      rw [e0] at hj
      simp at hj
      subst hj
      have : j = k := by have := h.l; omega
      subst this
      have eg : (cs.map pad).getD j [] = pad c := by simp [List.getD, he]
      rw [List.getElem?_set_ne (by omega), hpn, eg]
  · rcases List.mem_append.mp hp with h1 | h1
    · exact h.nw p h1
    · simp at h1; omega
  · rw [List.nodup_append]
    refine ⟨h.nd, by simp, fun x hx y hy => ?_⟩
    simp only [List.mem_singleton] at hy
    subst hy
    intro e
    obtain ⟨j, hj⟩ := List.getElem?_of_mem hx
    have := Real.lt (h.e j x hj)
    omega
end
end GK61
set_option Elab.async false
set_option linter.all false
set_option maxRecDepth 100000
namespace GK61
open PySem L2 Ly
open PySem.Spec hiding Row
open PyProof.Rows hiding St
local macro_rules | `(tactic| simp_arith [$ls,*]) => `(tactic| simp only [Ly.line_le, Ly.atX_no, Ly.v_ok, Ly.v_bad, Ly.v_bind, Ly.k_bd, Ly.v_at, Ly.v_bin, Ly.k_bi, Ly.k_bi2, Ly.v_var, Ly.v_c, Ly.v_un, Ly.k_un, Ly.v_if, Ly.k_ife, Ly.v_and, Ly.k_and, Ly.k_and2, Ly.v_or, Ly.k_or, Ly.k_or2, Ly.v_tup, Ly.k_tup, Ly.v_lst, Ly.k_lst, Ly.v_call, Ly.k_ca, Ly.v_fn, Ly.k_fn, Ly.v_bm, Ly.k_bm, Ly.k_bm2, Ly.v_sl, Ly.k_sl, Ly.k_sl2, Ly.k_sl3, Ly.v_ixK, Ly.k_ixk, Ly.v_inK, Ly.k_ink, Ly.v_notinK, Ly.k_nink, Ly.v_getK2, Ly.k_gk2, Ly.k_gk, Ly.v_get2, Ly.k_g2, Ly.k_g22, Ly.k_g23, Ly.v_nil, Ly.v_cons, Ly.k_co, Ly.k_co2, Ly.v_no, Ly.v_some, Ly.k_so, Ly.k_cm, Ly.v_cmp, Ly.v_tru, Ly.k_tr, Ly.v_notB, Ly.k_no, Ly.v_andB, Ly.k_an, Ly.v_orB, Ly.k_orb, Ly.v_yes, Ly.v_inKB, Ly.k_inkB, Ly.v_notinKB, Ly.k_ninkB, Ly.v_set, Ly.k_st, Ly.v_expr, Ly.k_ex, Ly.v_ret, Ly.k_re, Ly.v_retN, Ly.v_pass, Ly.v_brk, Ly.v_cnt, Ly.v_seq, Ly.k_sq_nx, Ly.k_sq_rt, Ly.k_sq_bk, Ly.k_sq_ct, Ly.v_ifS, Ly.k_ifs, Ly.v_asg, Ly.k_as, Ly.k_as2, Ly.v_aug, Ly.k_au, Ly.v_for, Ly.k_fo, Ly.v_it, Ly.k_it, Ly.k_ij, Ly.v_rng1, Ly.v_rng2, Ly.v_enum, Ly.v_zip, Ly.v_ez, Ly.v_gN, Ly.v_gsN, Ly.v_gsC, Ly.k_gc, Ly.v_gT, Ly.v_gTw, Ly.v_gSb, Ly.k_gsb, Ly.k_gsb2, Ly.k_gsb3, Ly.k_en_rt, Ly.k_en_nx, Ly.k_tu_nx, Ly.k_tu_ct, Ly.k_tu_bk, Ly.k_tu_rt, Ly.v_lc, Ly.k_lc, Ly.v_augI, Ly.k_ag, Ly.k_ag2, Ly.k_ag3, Ly.k_ag4, Ly.k_ag5, Ly.v_del, Ly.k_dl, Ly.k_dl2, Ly.v_setd, Ly.v_pop2, Ly.k_d3, Ly.k_d32, Ly.k_d33, Ly.v_get1, Ly.k_g1, Ly.k_g12, Ly.v_rg1, Ly.k_rg, Ly.v_rg2, Ly.k_rg2, Ly.k_rg22, Ly.v_dicK, Ly.v_dicT, Ly.v_dc, Ly.k_dc, List.getElem?_cons_zero, List.getElem?_cons_succ, List.set_cons_zero, List.set_cons_succ, List.length_cons, List.length_nil, List.map_cons, List.map_nil, List.cons_append, List.nil_append, List.replicate, if_true, if_false, Bool.false_eq_true, Bool.not_true, Bool.not_false, Bool.true_and, Bool.false_and, decide_true, decide_false, decide_eq_true_eq, Nat.zero_add, Nat.reduceAdd, Nat.reduceLeDiff, true_and, and_true, $ls,*])
section
variable {cA : Nat → Addr} {S S' S0 : Hs} {arrs : List Arr} {params : Nat} {blocks : List (List Row)} {ins : List Nat} {cs : List (List Nat)}
def lawV (most : Nat) (lens : List Nat) (o : Option (Nat × IS × Nat)) : D := .tup [nD (match o with | some (k, _, _) => k | none => most + 1), progV lens o]
theorem rows_at (d : Dn arrs params blocks ins cs) {b : Nat} (hb : b < blocks.length) : ∃ body r, blocks[b]? = some (body ++ [r]) ∧ (∀ x ∈ body, x.last = false ∧ x.ok 9 arrs.length blocks.length) ∧ r.last = true ∧ r.ok 9 arrs.length blocks.length := by
  have hm := List.getElem_mem hb
  obtain ⟨_, body, r, e, h1, h2, h3⟩ := d.p.bl _ hm
  exact ⟨body, r, by rw [List.getElem?_eq_getElem hb, e], fun x hx => ⟨(h1 x hx).2, (h1 x hx).1⟩, h3, h2⟩
theorem cells_ok {q qr qo qc k : Nat} {ps : List Nat} {s : IS} {x0 x1 x3 x8 x9 : D} {o10 : Option D} {b j : Nat} (h : LR (zsOf cs) S0 S q qr qo qc ps k s) (hl : cs.length ≤ 1000) {Q : D → Hs → Prop} (hQ : ∀ S', S'[S.length]? = some (.lst ((List.range cs.length).map fun k => .tup (((s.cell k).take ((cs.map (·.length)).getD k 0)).map nD))) → Kp [] S S' → Q (.ref S.length) S') :
    Wp NoX (cLoop (.rng 0 cs.length) (cN 5) mYes (mCall bTuple (lCons (mSl (mBin oIx (mBin oIx (mVar 4) (mC (.str "cells"))) (mVar 5)) oNo (oSome (mCall bLen (lCons (mBin oIx (mVar 2) (mVar 5)) lNil)))) lNil)) [some x0, some x1, some (contD cs), some x3, some (.ref q), none, some (nD b), some (nD j), some x8, some x9, o10] S.length 0 (S ++ [.lst []])) Q := by
  refine lc_pure (fun k : Nat => nD k) (xs := List.range cs.length) (fun k => some (.tup (((s.cell k).take ((cs.map (·.length)).getD k 0)).map nD))) (fun S' _ k hk => ?_) (by simp; omega) (fun k hk S' hS' => ?_) (fun S' h1 h2 => ?_)
  · simp only [List.length_range] at hk
    simp only [itGo]
    by_cases hk2 : k < cs.length
    · simp [hk2, List.getElem?_range hk2, nD]
    · have : k = cs.length := by omega
      subst this
      simp
  · have hk2 : k < cs.length := by simpa using hk
    obtain ⟨p, p1, p2, p3⟩ := h.co.at (i := k) (by rw [h.ok.len]; simp [zsOf]; exact hk2)
    have p4 := hS'.get p3 (by simp)
    have c4 : oIx (.ref qc) (nD k) S' = .ok (.ref p) S' := by
      have := hS'.get h.co.c (by simp)
      have hk3 : k < ps.length := (List.getElem?_eq_some_iff.mp p1).1
      exact oIx_lst this (by omega) (by simpa using hk3) (by simp [p1])
    have d4 : oIx (.ref q) (.str "cells") S' = .ok (.ref qc) S' := oIx_dic (hS'.get h.d (by simp)) key_str rK_cells
    have ec : ∀ S, oIx (contD cs) (nD k) S = .ok (.tup (cs[k].map nD)) S := fun S => oIx_tup (by rw [List.getElem?_map, List.getElem?_eq_getElem hk2]; rfl)
    have eln : (((cs[k].map nD).length : Nat) : Int) = ((cs[k].length : Nat) : Int) := by simp
    have el : (cs.map (·.length)).getD k 0 = cs[k].length := by simp [List.getD, List.getElem?_eq_getElem hk2]
    rw [el]
    refine ⟨[some x0, some x1, some (contD cs), some x3, some (.ref q), some (nD k), some (nD b), some (nD j), some x8, some x9, o10], rfl, ?_⟩
    simp_arith [Ly.v_fld, Ly.v_meth, Ly.k_me2, Ly.v_make, Ly.k_mk, Ly.v_fldset, Ly.k_fs, Ly.v_fldaug, Ly.k_fa2, Ly.look1, List.mem_cons, List.not_mem_nil, or_false, true_or, or_true, d4, c4, ec, bLen_tup, eln, oSl_lst p4, cutD_to, bTuple_lst get_end]
    exact ⟨Kp.refl, by simpa using Kp.new, by rw [List.map_take]⟩
  · have : (List.range cs.length).filterMap (fun k => some (D.tup (((s.cell k).take ((cs.map (·.length)).getD k 0)).map nD))) = (List.range cs.length).map fun k => D.tup (((s.cell k).take ((cs.map (·.length)).getD k 0)).map nD) := by
      rw [List.filterMap_eq_map']
    rw [this] at h1
    exact hQ S' h1 h2
theorem law_run_ok (hA : ActOk fun k => cA (k + 1)) (d : Dn arrs params blocks ins cs) {most : Nat} (hn : most ≤ 1000) : Wp NoX (m__law_run cA [progD arrs params blocks, .tup (ins.map nD), contD cs, nD most] S) fun v S' => v = lawV most (arrs.map (·.len)) (lawR blocks most (is0 ins cs) 0 0) ∧ Kp [] S S' := by
  refine wp_def0 rfl ?_
  unfold b__law_run
  have hna := d.p.na
  have hnp := d.p.np
  have hnb := d.p.nb
  have hcl : cs.length ≤ 3 := by rw [← d.al]; exact hna
  have hil : ins.length ≤ 4 := by rw [d.i]; exact hnp
  rw [v_seq]
  simp_arith [Ly.v_fld, Ly.v_meth, Ly.k_me2, Ly.v_make, Ly.k_mk, Ly.v_fldset, Ly.k_fs, Ly.v_fldaug, Ly.k_fa2, Ly.look1, List.mem_cons, List.not_mem_nil, or_false, true_or, or_true, -v_seq]
  refine v_disp ?_
  simp_arith [Ly.v_fld, Ly.v_meth, Ly.k_me2, Ly.v_make, Ly.k_mk, Ly.v_fldset, Ly.k_fs, Ly.v_fldaug, Ly.k_fa2, Ly.look1, List.mem_cons, List.not_mem_nil, or_false, true_or, or_true, v_dpCons, k_dp, k_dp2, v_dpNil, k_dp3, -v_seq]
  refine disp_endG (kvs := rK (S.length + 1) (S.length + 2) (S.length + 3)) (by rw [List.append_assoc, List.append_assoc, List.append_assoc, List.getElem?_append_right (by simp)]; simp) (by simp [keysP, D.key, rK]) (by simp [rK]) (by simp [mergeD, rK, setK, ofString_inj]) ?_
  simp_arith [Ly.v_fld, Ly.v_meth, Ly.k_me2, Ly.v_make, Ly.k_mk, Ly.v_fldset, Ly.k_fs, Ly.v_fldaug, Ly.k_fa2, Ly.look1, List.mem_cons, List.not_mem_nil, or_false, true_or, or_true, -v_seq]
  have K1 : Kp [] S (List.set (S ++ [O.dic []] ++ [O.dic []] ++ [O.lst []] ++ [O.lst []]) S.length (O.dic (rK (S.length + 1) (S.length + 2) (S.length + 3)))) := Kp.new.app.app.app.setNew (Nat.le_refl _)
  have g0 : (List.set (S ++ [O.dic []] ++ [O.dic []] ++ [O.lst []] ++ [O.lst []]) S.length (O.dic (rK (S.length + 1) (S.length + 2) (S.length + 3))))[S.length]? = some (.dic (rK (S.length + 1) (S.length + 2) (S.length + 3))) := List.getElem?_set_self (by simp)
  have g1 : (List.set (S ++ [O.dic []] ++ [O.dic []] ++ [O.lst []] ++ [O.lst []]) S.length (O.dic (rK (S.length + 1) (S.length + 2) (S.length + 3))))[S.length + 1]? = some (.dic []) := by
    rw [List.getElem?_set_ne (by omega), List.append_assoc, List.append_assoc, List.append_assoc, List.getElem?_append_right (by omega)]; simp
  have g2 : (List.set (S ++ [O.dic []] ++ [O.dic []] ++ [O.lst []] ++ [O.lst []]) S.length (O.dic (rK (S.length + 1) (S.length + 2) (S.length + 3))))[S.length + 2]? = some (.lst []) := by
    rw [List.getElem?_set_ne (by omega), List.append_assoc, List.append_assoc, List.append_assoc, List.getElem?_append_right (by omega)]; simp
  have g3 : (List.set (S ++ [O.dic []] ++ [O.dic []] ++ [O.lst []] ++ [O.lst []]) S.length (O.dic (rK (S.length + 1) (S.length + 2) (S.length + 3))))[S.length + 3]? = some (.lst []) := by
    rw [List.getElem?_set_ne (by omega), List.append_assoc, List.append_assoc, List.append_assoc, List.getElem?_append_right (by omega)]; simp
  generalize List.set (S ++ [O.dic []] ++ [O.dic []] ++ [O.lst []] ++ [O.lst []]) S.length (O.dic (rK (S.length + 1) (S.length + 2) (S.length + 3))) = S1 at *
  rw [v_seq]
  simp_arith [Ly.v_fld, Ly.v_meth, Ly.k_me2, Ly.v_make, Ly.k_mk, Ly.v_fldset, Ly.k_fs, Ly.v_fldaug, Ly.k_fa2, Ly.look1, List.mem_cons, List.not_mem_nil, or_false, true_or, or_true, bLen_tup, List.length_map, rng1 (n := (ins.length : Int)) S1 (by omega) (by omega), Int.toNat_natCast, -v_seq]
  refine wp_rng (fun k l S' => k ≤ ins.length ∧ (∃ o5, l = [some (progD arrs params blocks), some (.tup (ins.map nD)), some (contD cs), some (nD most), some (.ref S.length), o5, none, none, none, none, none]) ∧ S'[S.length]? = some (.dic (rK (S.length + 1) (S.length + 2) (S.length + 3))) ∧ (∃ f, MemAt S' (S.length + 1) f k ∧ ∀ a, f.get a = if a < k then ins.getD a 0 else 0) ∧ S'[S.length + 2]? = some (.lst []) ∧ S'[S.length + 3]? = some (.lst []) ∧ Kp [] S S')
    ⟨by omega, ⟨_, rfl⟩, g0, ⟨fun _ => none, ⟨[], g1, by simp, fun a => by simp [getK]⟩, fun a => by simp [Mem.get]⟩, g2, g3, K1⟩ ?_ ?_
  · rintro k l S' hk ⟨hk1, ⟨o5, rfl⟩, g0, ⟨f, hm, hf⟩, g2, g3, hK⟩
    unfold lb__law_run_0
    have e0 : (0 : Int) + (k : Int) = ((k : Nat) : Int) := by omega
    have ei : ∀ S, oIx (.tup (ins.map nD)) (nD k) S = .ok (nD (ins.getD k 0)) S := fun S => oIx_tup (by simp [List.getElem?_eq_getElem hk, List.getD])
    obtain ⟨o, ho, hm2⟩ := hm.put (by omega) k (ins.getD k 0)
    simp_arith [Ly.v_fld, Ly.v_meth, Ly.k_me2, Ly.v_make, Ly.k_mk, Ly.v_fldset, Ly.k_fs, Ly.v_fldaug, Ly.k_fa2, Ly.look1, List.mem_cons, List.not_mem_nil, or_false, true_or, or_true, e0, ei, oIx_dic g0 key_str rK_regs, ho]
    refine ⟨by omega, ⟨_, rfl⟩, get_set_ne g0 (by omega), ⟨_, hm2, fun a => ?_⟩, get_set_ne g2 (by omega), get_set_ne g3 (by omega), hK.setNew (by omega)⟩
    have := hf a
    unfold Mem.get Mem.put at *
    by_cases h1 : a = k
    · subst h1; simp
    · simp only [h1, if_false, this]
      by_cases h2 : a < k
      · rw [if_pos h2, if_pos (by omega)]
      · rw [if_neg h2, if_neg (by omega)]
  rintro l S2 ⟨-, ⟨o5, rfl⟩, g0, ⟨f, hm, hf⟩, g2, g3, hK⟩
  have hf' : ∀ a, f.get a = ins.getD a 0 := fun a => by
    rw [hf]; split
    · rfl
    · rename_i h; simp [List.getD, List.getElem?_eq_none (Nat.le_of_not_lt h)]
  simp_arith [Ly.v_fld, Ly.v_meth, Ly.k_me2, Ly.v_make, Ly.k_mk, Ly.v_fldset, Ly.k_fs, Ly.v_fldaug, Ly.k_fa2, Ly.look1, List.mem_cons, List.not_mem_nil, or_false, true_or, or_true, -v_seq]
  rw [v_seq]
  simp_arith [Ly.v_fld, Ly.v_meth, Ly.k_me2, Ly.v_make, Ly.k_mk, Ly.v_fldset, Ly.k_fs, Ly.v_fldaug, Ly.k_fa2, Ly.look1, List.mem_cons, List.not_mem_nil, or_false, true_or, or_true, contD, bLen_tup, List.length_map, rng1 (n := (cs.length : Int)) S2 (by omega) (by omega), Int.toNat_natCast, -v_seq]
  refine wp_rng (fun k l S' => (∃ o5, l = [some (progD arrs params blocks), some (.tup (ins.map nD)), some (contD cs), some (nD most), some (.ref S.length), o5, none, none, none, none, none]) ∧ ∃ ps, LMk cs ins S S' S.length (S.length + 1) (S.length + 2) (S.length + 3) k ps) ⟨⟨_, rfl⟩, [], g0, ⟨f, hm.more (by omega), hf'⟩, g2, g3, rfl, by simp, by simp, by simp, hK⟩ ?_ ?_
  · rintro k l S' hk ⟨⟨o5, rfl⟩, ps, hM⟩
    have e0 : (0 : Int) + (k : Int) = ((k : Nat) : Int) := by omega
    simp_arith [Ly.v_fld, Ly.v_meth, Ly.k_me2, Ly.v_make, Ly.k_mk, Ly.v_fldset, Ly.k_fs, Ly.v_fldaug, Ly.k_fa2, Ly.look1, List.mem_cons, List.not_mem_nil, or_false, true_or, or_true, e0]
    refine (lmk_turn hM (d.c _ (List.getElem_mem hk)).1 (List.getElem?_eq_getElem hk) (by omega) (by omega) (by omega) (by omega) (by omega)).mono (fun _ _ _ _ h => h) ?_
    rintro f S'' ⟨rfl, p, hM'⟩
    exact ⟨⟨_, rfl⟩, _, hM'⟩
  rintro l S3 ⟨⟨o5, rfl⟩, ps, hM⟩
  have hps : ∀ p ∈ ps, S.length + 3 < p := hM.nw
  have L0 : LR (zsOf cs) S S3 S.length (S.length + 1) (S.length + 3) (S.length + 2) ps 0 (is0 ins cs) := by
    refine ⟨hM.d, hM.m, ⟨hM.o, hM.c, by show _ = (cs.map pad).length; rw [hM.l, List.length_map], hM.e, ?_⟩, is0_ok d.il d.c, ?_, hM.kp, fun x hx => ?_⟩
    · simp only [List.nodup_cons, List.mem_cons, not_or]
      exact ⟨⟨by omega, fun h => by have := hps _ h; omega⟩, fun h => by have := hps _ h; omega, hM.nd⟩
    · simp only [List.nodup_cons, List.mem_cons, not_or]
      exact ⟨⟨by omega, by omega, by omega, fun h => by have := hps _ h; omega⟩, ⟨by omega, by omega, fun h => by have := hps _ h; omega⟩, ⟨by omega, fun h => by have := hps _ h; omega⟩, fun h => by have := hps _ h; omega, hM.nd⟩
    · simp only [List.mem_cons] at hx
      rcases hx with rfl | rfl | hx
      · omega
      · omega
      · have := hps x hx; omega
  have hz : ∀ z ∈ zsOf cs, ∃ e, z = 2 ^ e := fun z hz => by
    obtain ⟨c, _, rfl⟩ := List.mem_map.mp hz; exact sz_pow _
  simp_arith [Ly.v_fld, Ly.v_meth, Ly.k_me2, Ly.v_make, Ly.k_mk, Ly.v_fldset, Ly.k_fs, Ly.v_fldaug, Ly.k_fa2, Ly.look1, List.mem_cons, List.not_mem_nil, or_false, true_or, or_true, rng1 (n := (most : Int)) S3 (by omega) (by omega), Int.toNat_natCast]
  refine wp_rng (fun k l S' => k ≤ most ∧ ∃ (b j : Nat) (s : IS) (o5 o8 o9 o10 : Option D), l = [some (progD arrs params blocks), some (.tup (ins.map nD)), some (contD cs), some (nD most), some (.ref S.length), o5, some (nD b), some (nD j), o8, o9, o10] ∧ b < blocks.length ∧ (∀ body r, blocks[b]? = some (body ++ [r]) → j ≤ body.length) ∧ lawR blocks most (is0 ins cs) 0 0 = bump k (lawR blocks (most - k) s b j) ∧ LR (zsOf cs) S S' S.length (S.length + 1) (S.length + 3) (S.length + 2) ps k s)
    ⟨by omega, 0, 0, _, _, _, _, _, rfl, by omega, fun _ _ _ => by omega, bump0.symm, L0⟩ ?_ ?_
  · rintro k l S' hk ⟨-, b, j, s, o5, o8, o9, o10, rfl, hb, hj, hl, hL⟩
    obtain ⟨body, r, hbl, hbody, hrl, hrok⟩ := rows_at d hb
    have hj2 := hj body r hbl
    have e0 : (0 : Int) + (k : Int) = ((k : Nat) : Int) := by omega
    have eb : ∀ S, oIx (.tup (blocks.map blockD)) (nD b) S = .ok (blockD (body ++ [r])) S := fun S => oIx_tup (by rw [List.getElem?_map, hbl]; rfl)
    have hra : (body ++ [r])[j]? = some (rowAt blocks b j) := by
      unfold rowAt
      have hlt : j < (body ++ [r]).length := by simp; omega
      simp only [List.getD, hbl, Option.getD_some]
      rw [List.getElem?_eq_getElem hlt]; rfl
    have er : ∀ S, oIx (blockD (body ++ [r])) (nD j) S = .ok (rowAt blocks b j).D S := fun S => oIx_tup (by rw [List.getElem?_map, hra]; rfl)
    obtain ⟨m, hm⟩ : ∃ m, most - k = m + 1 := ⟨most - k - 1, by omega⟩
    rw [hm, lawR] at hl
    have hok : (rowAt blocks b j).ok 9 arrs.length blocks.length := d.row (List.mem_of_getElem? hbl) (List.mem_of_getElem? hra)
    have hxl : (rowAt blocks b j).last = false → j < body.length := fun e => by
      rcases Nat.lt_or_ge j body.length with h | h
      · exact h
      · have : j = body.length := by omega
        subst this
        rw [List.getElem?_append_right (Nat.le_refl _), Nat.sub_self] at hra
        simp at hra
        rw [← hra, hrl] at e; cases e
    have huniq : ∀ body' r', blocks[b]? = some (body' ++ [r']) → body'.length = body.length := fun body' r' e => by
      rw [hbl] at e
      have := congrArg List.length (Option.some.inj e)
      simp at this; omega
    generalize rowAt blocks b j = x at *
    obtain ⟨i1, i2, i3⟩ := hL.ix
    have ej : ((j : Nat) : Int) + 1 = ((j + 1 : Nat) : Int) := by omega
    unfold lb__law_run_2
    simp_arith [Ly.v_fld, Ly.v_meth, Ly.k_me2, Ly.v_make, Ly.k_mk, Ly.v_fldset, Ly.k_fs, Ly.v_fldaug, Ly.k_fa2, Ly.look1, List.mem_cons, List.not_mem_nil, or_false, true_or, or_true, -v_seq]
    rw [v_seq]
    simp_arith [Ly.v_fld, Ly.v_meth, Ly.k_me2, Ly.v_make, Ly.k_mk, Ly.v_fldset, Ly.k_fs, Ly.v_fldaug, Ly.k_fa2, Ly.look1, List.mem_cons, List.not_mem_nil, or_false, true_or, or_true, e0, prog_blocks, eb, er, -v_seq]
    rw [v_seq]
    cases hst : x.stops with
    | some a =>
      have ex : x = .stop a := by cases x <;> simp [Row.stops] at hst; rw [hst]
      subst ex
      rw [hst] at hl
      have ew : ∀ S, oIx (Row.stop a).D (.int 0) S = .ok (.str "stop") S := fun S => tix0
      have ew1 : ∀ S, oIx (Row.stop a).D (.int 1) S = .ok (nD a) S := fun S => tix1
      have ctup : contD cs = .tup (cs.map fun c => .tup (c.map nD)) := rfl
      have elc : ∀ S, bLen [contD cs] S = .ok (.int (cs.length : Int)) S := fun S => by rw [ctup]; simp [bLen_tup]
      simp_arith [Ly.v_fld, Ly.v_meth, Ly.k_me2, Ly.v_make, Ly.k_mk, Ly.v_fldset, Ly.k_fs, Ly.v_fldaug, Ly.k_fa2, Ly.look1, List.mem_cons, List.not_mem_nil, or_false, true_or, or_true, ew, oEq_str, elc, rng1 (n := (cs.length : Int)) S' (by omega) (by omega), Int.toNat_natCast, wipe1]
      refine cells_ok hL (by omega) fun S5 h5 k5 => ?_
      have hL5 : LR (zsOf cs) S S5 S.length (S.length + 1) (S.length + 3) (S.length + 2) ps k s := by
        obtain ⟨f, hm, hf⟩ := hL.m
        exact ⟨k5.get hL.d (by simp), ⟨f, hm.kp k5 (by simp), hf⟩, hL.co.kp k5 (by simp), hL.ok, hL.nd, hL.kp.trans k5, hL.nw⟩
      obtain ⟨j1, j2, j3⟩ := hL5.ix
      simp_arith [Ly.v_fld, Ly.v_meth, Ly.k_me2, Ly.v_make, Ly.k_mk, Ly.v_fldset, Ly.k_fs, Ly.v_fldaug, Ly.k_fa2, Ly.look1, List.mem_cons, List.not_mem_nil, or_false, true_or, or_true, bTuple_lst h5, oAdd_int, j1, j3, bTuple_lst hL5.co.o, hL5.ty, ew1, hL5.get, -k_g23]
      refine ⟨?_, hL5.kp⟩
      have e1 : ((k : Int) + 1) = ((k + 1 : Nat) : Int) := by omega
      rw [hl, e1, d.a]
      simp only [lawV, Ly.bump, Option.map_some, progV, outD, cellsD, List.length_map]
      congr 2
      rw [Nat.add_comm]
    | none =>
      have ew : ∃ w : Str, (∀ S, oIx x.D (.int 0) S = .ok (.str w) S) ∧ w ≠ "stop" ∧ (w = "jump" → ∃ t, x = .jump t) ∧ (w = "branch" → ∃ a t u, x = .branch a t u) := by
        cases x <;> first | (simp [Row.stops] at hst; done) | exact ⟨_, fun S => tix0, by simp [ofString_inj], by simp [ofString_inj], by simp [ofString_inj]⟩
      obtain ⟨w, ew, hw, hwj, hwb⟩ := ew
      rw [hst] at hl
      simp_arith [Ly.v_fld, Ly.v_meth, Ly.k_me2, Ly.v_make, Ly.k_mk, Ly.v_fldset, Ly.k_fs, Ly.v_fldaug, Ly.k_fa2, Ly.look1, List.mem_cons, List.not_mem_nil, or_false, true_or, or_true, ew, oEq_str, hw, oIAdd, ej]
      have hmk : most - (k + 1) = m := by omega
      cases hxt : x.last with
      | true =>
        rw [if_pos hxt, bump_bump] at hl
        have hwl := way_lt (s := s) hok hxt hst
        have hL1 : LR (zsOf cs) S S' S.length (S.length + 1) (S.length + 3) (S.length + 2) ps (k + 1) s := by
          obtain ⟨f, hm, hf⟩ := hL.m
          exact ⟨hL.d, ⟨f, hm.more (by omega), hf⟩, hL.co, hL.ok.more (by omega), hL.nd, hL.kp, hL.nw⟩
        rw [show 1 + k = k + 1 from Nat.add_comm 1 k, ← hmk] at hl
        cases x with
        | jump t =>
          have hwe : w = "jump" := by have := ew S'; rw [show oIx (Row.jump t).D (.int 0) S' = .ok (.str "jump") S' from tix0] at this; cases this; rfl
          subst hwe
          simp_arith [Ly.v_fld, Ly.v_meth, Ly.k_me2, Ly.v_make, Ly.k_mk, Ly.v_fldset, Ly.k_fs, Ly.v_fldaug, Ly.k_fa2, Ly.look1, List.mem_cons, List.not_mem_nil, or_false, true_or, or_true, show ∀ S, oIx (Row.jump t).D (.int 1) S = .ok (nD t) S from fun S => tix1]
          exact ⟨by omega, t, 0, s, _, _, _, _, rfl, hwl, fun _ _ _ => Nat.zero_le _, hl, hL1⟩
        | branch a t u =>
          have hwe : w = "branch" := by have := ew S'; rw [show oIx (Row.branch a t u).D (.int 0) S' = .ok (.str "branch") S' from tix0] at this; cases this; rfl
          subst hwe
          have t1 : ∀ S, oIx (Row.branch a t u).D (.int 1) S = .ok (nD a) S := fun S => tix1
          have t2 : ∀ S, oIx (Row.branch a t u).D (.int 2) S = .ok (nD t) S := fun S => tix2
          have t3 : ∀ S, oIx (Row.branch a t u).D (.int 3) S = .ok (nD u) S := fun S => tix3
          have hn := hL1.new (g := [.lst [nD u, nD t]])
          obtain ⟨j1, j2, j3⟩ := hn.ix
          by_cases hc : s.regs a = 0
          · have en : ∀ S, oNe (nD (s.regs a)) (.int 0) S = .ok (.bl false) S := fun S => by rw [oNe_int, hc]; rfl
            have ix0 : oIx (.ref S'.length) (.int 0) (S' ++ [.lst [nD u, nD t]]) = .ok (nD u) (S' ++ [.lst [nD u, nD t]]) := oIx_lst get_end (by simp) (by simp) (by simp)
            simp_arith [Ly.v_fld, Ly.v_meth, Ly.k_me2, Ly.v_make, Ly.k_mk, Ly.v_fldset, Ly.k_fs, Ly.v_fldaug, Ly.k_fa2, Ly.look1, List.mem_cons, List.not_mem_nil, or_false, true_or, or_true, ofString_inj, String.reduceEq, t1, t2, t3, j1, hn.ty, hn.get, -k_g23, en, show ∀ S, bInt [.bl false] S = .ok (.int 0) S from fun _ => rfl, ix0]
            have hw0 : s.way (.branch a t u) = u := by simp [IS.way, hc]
            rw [hw0] at hl hwl
            exact ⟨by omega, u, 0, s, _, _, _, _, rfl, hwl, fun _ _ _ => Nat.zero_le _, hl, hn⟩
          · have en : ∀ S, oNe (nD (s.regs a)) (.int 0) S = .ok (.bl true) S := fun S => by
              have : ¬ ((s.regs a : Nat) : Int) = 0 := by omega
              rw [oNe_int]; simp [hc]
            have ix1 : oIx (.ref S'.length) (.int 1) (S' ++ [.lst [nD u, nD t]]) = .ok (nD t) (S' ++ [.lst [nD u, nD t]]) := oIx_lst get_end (by simp) (by simp) (by simp)
            simp_arith [Ly.v_fld, Ly.v_meth, Ly.k_me2, Ly.v_make, Ly.k_mk, Ly.v_fldset, Ly.k_fs, Ly.v_fldaug, Ly.k_fa2, Ly.look1, List.mem_cons, List.not_mem_nil, or_false, true_or, or_true, ofString_inj, String.reduceEq, t1, t2, t3, j1, hn.ty, hn.get, -k_g23, en, show ∀ S, bInt [.bl true] S = .ok (.int 1) S from fun _ => rfl, ix1]
            have hw0 : s.way (.branch a t u) = t := by simp [IS.way, hc]
            rw [hw0] at hl hwl
            exact ⟨by omega, t, 0, s, _, _, _, _, rfl, hwl, fun _ _ _ => Nat.zero_le _, hl, hn⟩
        | stop a => cases hst
        | const d n => cases hxt
        | copy d a => cases hxt
        | op z d a b => cases hxt
        | select d c a b => cases hxt
        | load d i a => cases hxt
        | store i a v => cases hxt
        | out a => cases hxt
      | false =>
        rw [if_neg (by rw [hxt]; simp), bump_bump, show 1 + k = k + 1 from Nat.add_comm 1 k, ← hmk] at hl
        have n1 : w ≠ "jump" := fun e => by obtain ⟨t, rfl⟩ := hwj e; cases hxt
        have n2 : w ≠ "branch" := fun e => by obtain ⟨a, t, u, rfl⟩ := hwb e; cases hxt
        simp_arith [Ly.v_fld, Ly.v_meth, Ly.k_me2, Ly.v_make, Ly.k_mk, Ly.v_fldset, Ly.k_fs, Ly.v_fldaug, Ly.k_fa2, Ly.look1, List.mem_cons, List.not_mem_nil, or_false, true_or, or_true, n1, n2]
        refine Wp.call (done_ok (nb := blocks.length) hA hL hz (d.zl ▸ hok) hxt (by omega)) ?_
        rintro _ S5 ⟨rfl, hL5⟩
        simp_arith [Ly.v_fld, Ly.v_meth, Ly.k_me2, Ly.v_make, Ly.k_mk, Ly.v_fldset, Ly.k_fs, Ly.v_fldaug, Ly.k_fa2, Ly.look1, List.mem_cons, List.not_mem_nil, or_false, true_or, or_true]
        exact ⟨by omega, b, j + 1, _, _, _, _, _, rfl, hb, fun body' r' e => by rw [huniq body' r' e]; exact hxl hxt, hl, hL5⟩
  · rintro l S' ⟨-, b, j, s, o5, o8, o9, o10, rfl, hb, hj, hl, hL⟩
    rw [Nat.sub_self] at hl
    have : lawR blocks most (is0 ins cs) 0 0 = none := by rw [hl]; rfl
    simp_arith [Ly.v_fld, Ly.v_meth, Ly.k_me2, Ly.v_make, Ly.k_mk, Ly.v_fldset, Ly.k_fs, Ly.v_fldaug, Ly.k_fa2, Ly.look1, List.mem_cons, List.not_mem_nil, or_false, true_or, or_true, oAdd_int]
    refine ⟨?_, hL.kp⟩
    rw [this]; rfl
theorem is_next : m__law_next = m_next := rfl
theorem is_program : m__law_program = m_program := rfl
theorem is_draws : m__law_draws = mDef 2 6 b_draws := rfl
theorem word_ok {i j : Nat} {row : List Int} (h : NxtA S i j row) : Wp NoX (m__law_word [.ref i] S) fun v S' => ∃ n : Nat, v = nD n ∧ n < 4294967296 ∧ Dr i j row S S' := by
  refine wp_def0 rfl ?_
  unfold b__law_word
  simp_arith [is_next]
  refine Wp.call (next_ok h (by decide)) ?_
  rintro _ S1 ⟨x1, rfl, a1, b1, h, u1⟩
  simp_arith []
  refine Wp.call (next_ok h (by decide)) ?_
  rintro _ S2 ⟨x2, rfl, a2, b2, h, u2⟩
  simp_arith []
  refine Wp.call (next_ok h (by decide)) ?_
  rintro _ S3 ⟨x3, rfl, a3, b3, h, u3⟩
  simp_arith [oSub_int]
  refine Wp.call (next_ok h (by decide)) ?_
  rintro _ S4 ⟨x4, rfl, a4, b4, h, u4⟩
  simp_arith [oMul_int (mulok_r (show Int.natAbs 4771117 < 2 ^ 64 by decide))]
  refine Wp.call (next_ok h.new (by decide)) ?_
  rintro _ S5 ⟨k, rfl, a5, b5, h', u5⟩
  simp_arith []
  refine wp_ix (u5.get get_end (by have := h.lt; simp; omega)) a5 (by simpa using b5) ?_
  intro x hx
  simp_arith []
  have : ∃ n : Int, x = .int n ∧ 0 ≤ n ∧ n < 4294967296 := by
    simp only [List.mem_cons, List.not_mem_nil, or_false] at hx
    rcases hx with rfl | rfl | rfl | rfl <;> exact ⟨_, rfl, by omega, by omega⟩
  obtain ⟨n, rfl, n0, n1⟩ := this
  exact ⟨n.toNat, by rw [← nat_of n0], by omega, h', (((u1.trans u2).trans u3).trans u4).app.trans u5⟩
theorem words_ok {l : Ls} {i j n s : Nat} {row : List Int} (h : NxtA S i j row) (hl : l[1]? = some (some (.ref i))) (hs : s ≠ 1) (hn : n ≤ 1000) {Q : D → Hs → Prop}
    (hQ : ∀ (ws : List Nat) S', ws.length = n → (∀ w ∈ ws, w < 4294967296) → S'[S.length]? = some (.lst (ws.map nD)) → Dr i j row S S' → Q (.ref S.length) S') :
    Wp NoX (cLoop (.rng 0 n) (cN s) mYes (mFn m__law_word (lCons (mVar 1) lNil)) l S.length 0 (S ++ [.lst []])) Q := by
  refine lc_draw (α := Nat) nD (fun _ w => w < 4294967296) h (by omega) ?_ ?_
  · intro k S' hk h' _
    have e : (l.set s (some (.int (0 + (k : Int)))))[1]? = some (some (.ref i)) := by rw [List.getElem?_set_ne hs]; exact hl
    simp_arith [e]
    refine (word_ok h').mono (fun _ _ _ _ h => h) ?_
    rintro _ S2 ⟨w, rfl, hw, hd⟩
    exact ⟨w, rfl, hw, hd⟩
  · intro ws S' hlen hp hq hd
    exact hQ ws S' hlen (fun w hw => by obtain ⟨k, hk⟩ := List.getElem?_of_mem hw; exact hp k w hk) hq hd
theorem progV_same {lens : List Nat} {o : Option (Nat × IS × Nat)} : cEqD (progV lens o) (progV lens o) S = some true := by
  cases o with
  | none => rfl
  | some x =>
    obtain ⟨k, s, a⟩ := x
    have hcp : D.plain (cellsD lens s) = true := plains_map (f := fun k => D.tup (((s.cell k).take (lens.getD k 0)).map nD)) fun x => nats_plain
    have hcd : (cellsD lens s).toP.depth ≤ 10 := by
      have := depth_map (f := fun k => D.tup (((s.cell k).take (lens.getD k 0)).map nD)) (n := 5) (xs := List.range lens.length) (fun x => nats_depth)
      simp only [cellsD, D.toP, PyData.depth]; omega
    have hp : D.plains [.tup (s.outs.map nD), nD (s.regs a), cellsD lens s] = true := by
      simp only [D.plains, Bool.and_eq_true, and_true]
      exact ⟨nats_plain, rfl, hcp⟩
    have hd : PyData.depthAll (D.toPs [.tup (s.outs.map nD), nD (s.regs a), cellsD lens s]) ≤ 30 := by
      refine depthAll_mem _ fun x hx => ?_
      simp only [List.mem_cons, List.not_mem_nil, or_false] at hx
      rcases hx with rfl | rfl | rfl
      · exact Nat.le_trans nats_depth (by decide)
      · simp [nD, D.toP, PyData.depth]
      · exact Nat.le_trans hcd (by decide)
    exact cEqD_same rfl (pd_tup hp hd).1 (pd_tup hp hd).1 (pd_tup (S := S) hp hd).2
theorem oNe_progV {lens : List Nat} {o : Option (Nat × IS × Nat)} : oNe (progV lens o) (progV lens o) S = .ok (.bl false) S := by simp [oNe, progV_same]
theorem oEq_progV {lens : List Nat} {o : Option (Nat × IS × Nat)} : oEq (progV lens o) (progV lens o) S = .ok (.bl true) S := by simp [oEq, progV_same]
end
theorem actOk_of {cA : Nat → Addr} (hA : Dst 1 14 cA) : ActOk fun k => cA (k + 1) := fun i j hi hj e => by
  have := hA (i + 1) (j + 1) (by omega) (by omega) (by omega) (by omega) e; omega
theorem law_true (cA : Nat → Addr) (hA0 : Dst 1 14 cA) : LawTrue (m_law cA) := by
  intro ns x S hn _ _ _ _ hx _
  have hA := actOk_of hA0
  have main : Wp NoX (m_law cA [x] S) fun v S' => v = .bl true := by
    refine wp_def0 rfl ?_
    unfold b_law
    rw [v_seq]
    simp_arith [is_draws, -v_seq]
    refine v_disp ?_
    have hx1 : seqD x (S ++ [.dic []]) = some (ns.map D.int) := seqD_more hx
    simp_arith [v_dpCons, k_dp, -v_seq]
    refine Wp.call (draws_ok hx1 hn (by decide) (by decide)) ?_
    rintro _ S1 ⟨q, row, rfl, hq, hqS, k1⟩
    have hd1 : S1[S.length]? = some (.dic []) := k1.get get_end (by simp)
    have hkeys : keysP [(D.str "draws", D.ref q), (D.str "at", D.int 0)] = some (nxK q 0) := by simp [keysP, D.key, nxK]
    have hmerge : mergeD [] (nxK q 0) = nxK q 0 := by simp [mergeD, nxK, setK, ofString_inj]
    simp_arith [k_dp2, v_dpCons, k_dp, v_dpNil, k_dp3, dsK, -v_seq]
    refine ⟨_, hkeys, hd1, by simp [nxK], ?_⟩
    rw [hmerge]
    simp only [List.length_append, List.length_singleton] at hqS
    have hN : NxtA (S1.set S.length (.dic (nxK q 0))) S.length q row := ⟨0, get_put hd1, by rw [List.getElem?_set_ne (by omega)]; exact hq, by omega, by omega⟩
    generalize S1.set S.length (.dic (nxK q 0)) = S2 at hN
    generalize S.length = i0 at hN
    rw [v_seq]
    simp_arith [is_program, -v_seq]
    refine Wp.call (program_ok hN) ?_
    rintro _ S3 ⟨arrs, params, blocks, rfl, hP, h3, k3⟩
    have hna := hP.na
    have hnp := hP.np
    simp_arith [-v_seq]
    rw [v_seq]
    simp_arith [prog_params, rng1 (n := (params : Int)) S3 (by omega) (by omega), Int.toNat_natCast, wipe1, -v_seq]
    refine words_ok h3 rfl (by decide) (by omega) fun ins S4 hil hiw h4 ⟨n4, k4⟩ => ?_
    simp_arith [bTuple_lst h4, -v_seq]
    rw [v_seq]
    simp_arith [prog_arrs, oIt, wipeL, -v_seq]
    refine wp_lcTupM Arr.D (xs := arrs) (fun pre acc S' => ∃ cs : List (List Nat), acc = cs.map (fun c => D.tup (c.map nD)) ∧ pre.map (·.len) = cs.map (·.length) ∧ (∀ c ∈ cs, ∀ w ∈ c, w < 4294967296) ∧ S'[S4.length]? = some (.lst acc) ∧ Dr i0 q row S4 S') ⟨[], rfl, rfl, by simp, get_end, n4.new, Kp.new⟩ ?_ ?_
    · rintro pre a post acc S' hsp ⟨cs, rfl, e1, e2, e3, n5, k5⟩
      have ha := hP.ar a (by rw [hsp]; simp)
      have hl10 := ha.2.1
      refine ⟨[some x, some (.ref i0), some (progD arrs params blocks), some (.tup (ins.map nD)), none, none, none, none, none, some (.str a.name), some (nD a.len), some (.str a.label)], rfl, ?_⟩
      simp_arith [rng1 (n := (a.len : Int)) S' (by omega) (by omega), Int.toNat_natCast, wipe1]
      refine words_ok n5 rfl (by decide) (by omega) fun ws S6 hwl hww h6 ⟨n6, k6⟩ => ?_
      have h36 := k6.get e3 (by simp; have := n4.lt; omega)
      have hcl : cs.length ≤ 3 := by
        have e1' := congrArg List.length e1
        have e2' := congrArg List.length hsp
        simp at e1' e2'; omega
      simp_arith [bTuple_lst h6]
      refine ⟨h36, by simp only [List.length_map]; exact line_big (by omega), cs ++ [ws], by simp, by simp [e1, hwl], ?_, get_put h36, ?_, (k5.trans k6).setNew (Nat.le_refl _)⟩
      · intro c hc w hw
        rcases List.mem_append.mp hc with h | h
        · exact e2 c h w hw
        · simp only [List.mem_singleton] at h; subst h; exact hww w hw
      · obtain ⟨a0, n6⟩ := n6
        have h4l := n4.ltj
        have h4i := n4.lt
        exact ⟨a0, by rw [List.getElem?_set_ne (by omega)]; exact n6.d, by rw [List.getElem?_set_ne (by omega)]; exact n6.r, n6.ne, n6.nn⟩
    · rintro acc S5 ⟨cs, rfl, e1, e2, e3, n5, k5⟩
      simp_arith [bTuple_lst e3, -v_seq]
      have ec : D.tup (cs.map fun c => D.tup (c.map nD)) = contD cs := rfl
      rw [ec]
      have hd : Dn arrs params blocks ins cs := ⟨hP, hil, hiw, e1, fun c hc => ⟨by
        obtain ⟨k, hk⟩ := List.getElem?_of_mem hc
        have e5 : (cs.map (·.length))[k]? = some c.length := by rw [List.getElem?_map, hk]; rfl
        rw [← e1, List.getElem?_map] at e5
        cases e6 : arrs[k]? with
        | none => rw [e6] at e5; cases e5
        | some a =>
          rw [e6] at e5
          have := (hP.ar a (List.mem_of_getElem? e6)).2.1
          simp at e5; omega, e2 c hc⟩⟩
      rw [v_seq]
      simp_arith [is_next, -v_seq]
      refine Wp.call (next_ok n5 (by decide)) ?_
      rintro _ S6 ⟨mi, rfl, m0, m1, h6, k6⟩
      obtain ⟨m, rfl⟩ := Int.eq_ofNat_of_zero_le m0
      simp_arith [-v_seq]
      rw [v_seq]
      simp_arith [-v_seq]
      refine Wp.call (law_run_ok hA hd (most := m) (by omega)) ?_
      rintro _ S7 ⟨rfl, k7⟩
      generalize hres : lawR blocks m (is0 ins cs) 0 0 = res
      simp_arith [lawV, v_gT, -v_seq]
      rw [v_seq]
      simp_arith [-v_seq]
      refine Wp.call (run_ok hA hd (n := m) (by omega)) ?_
      rintro _ S8 ⟨rfl, k8⟩
      rw [hres]
      simp_arith [oNe_progV, -v_seq]
      cases res with
      | none =>
        simp_arith [progV, show ∀ S, oIs .non .non S = .ok (.bl true) S from fun _ => rfl]
      | some y =>
        obtain ⟨k, s, a⟩ := y
        obtain ⟨l1, l2⟩ := lawR_le _ _ _ _ _ _ hres
        have hmono := lawR_mono _ _ _ _ _ _ hres
        have enn : ∀ S, oIs (progV (arrs.map (·.len)) (some (k, s, a))) .non S = .ok (.bl false) S := fun _ => rfl
        simp_arith [enn]
        refine Wp.call (run_ok hA hd (n := k) (by omega)) ?_
        rintro _ S9 ⟨rfl, k9⟩
        rw [(hmono k).1 (Nat.le_refl _)]
        have ek : ∀ S, oSub (nD k) (.int 1) S = .ok (nD (k - 1)) S := fun S => by
          rw [oSub_int]; have : ((k : Nat) : Int) - 1 = ((k - 1 : Nat) : Int) := by omega
          rw [this]
        simp_arith [oEq_progV, ek, oTru_bl]
        refine Wp.call (run_ok hA hd (n := k - 1) (by omega)) ?_
        rintro _ S10 ⟨rfl, k10⟩
        rw [(hmono (k - 1)).2 (by omega)]
        simp_arith [progV, show ∀ S, oIs .non .non S = .ok (.bl true) S from fun _ => rfl]
  obtain ⟨v, S', e, rfl⟩ := main.ex
  exact ⟨S', e⟩
end GK61
set_option Elab.async false
set_option linter.all false
set_option maxRecDepth 100000
set_option maxHeartbeats 4000000
namespace GK61
open PySem PySem.Spec L2 Ly
open PyProof.Rows hiding St
theorem all_mk {l : PySem.W.OpenLaw} {w : World} {K : PySem.W.Frag} {h : Heap} {mg : Str → Option Value} {fa : Addr} (X : K.In h) (G : h.Ns mainGlobals mg) (hfa : mg "law" = some (.ref fa))
    {k_IrRun : Addr} {f__law_next : Addr} {od__law_next an__law_next : Option Addr} {sl__law_next : Array (Option Value)} {oc__law_next kV__law_next dc__law_next pm__law_next cd__law_next ct__law_next : Value} {f__law_row : Addr} {od__law_row an__law_row : Option Addr} {sl__law_row : Array (Option Value)} {oc__law_row kV__law_row dc__law_row pm__law_row cd__law_row ct__law_row : Value} {f__law_program : Addr} {od__law_program an__law_program : Option Addr} {sl__law_program : Array (Option Value)} {oc__law_program kV__law_program dc__law_program pm__law_program cd__law_program ct__law_program : Value} {f__plus : Addr} {od__plus an__plus : Option Addr} {sl__plus : Array (Option Value)} {oc__plus kV__plus dc__plus pm__plus cd__plus ct__plus : Value} {f__minus : Addr} {od__minus an__minus : Option Addr} {sl__minus : Array (Option Value)} {oc__minus kV__minus dc__minus pm__minus cd__minus ct__minus : Value} {f__times : Addr} {od__times an__times : Option Addr} {sl__times : Array (Option Value)} {oc__times kV__times dc__times pm__times cd__times ct__times : Value} {f__both : Addr} {od__both an__both : Option Addr} {sl__both : Array (Option Value)} {oc__both kV__both dc__both pm__both cd__both ct__both : Value} {f__either : Addr} {od__either an__either : Option Addr} {sl__either : Array (Option Value)} {oc__either kV__either dc__either pm__either cd__either ct__either : Value} {f__apart : Addr} {od__apart an__apart : Option Addr} {sl__apart : Array (Option Value)} {oc__apart kV__apart dc__apart pm__apart cd__apart ct__apart : Value} {f__left : Addr} {od__left an__left : Option Addr} {sl__left : Array (Option Value)} {oc__left kV__left dc__left pm__left cd__left ct__left : Value} {f__right : Addr} {od__right an__right : Option Addr} {sl__right : Array (Option Value)} {oc__right kV__right dc__right pm__right cd__right ct__right : Value} {f__equal : Addr} {od__equal an__equal : Option Addr} {sl__equal : Array (Option Value)} {oc__equal kV__equal dc__equal pm__equal cd__equal ct__equal : Value} {f__less : Addr} {od__less an__less : Option Addr} {sl__less : Array (Option Value)} {oc__less kV__less dc__less pm__less cd__less ct__less : Value} {f__at_most : Addr} {od__at_most an__at_most : Option Addr} {sl__at_most : Array (Option Value)} {oc__at_most kV__at_most dc__at_most pm__at_most cd__at_most ct__at_most : Value} {f__div : Addr} {od__div an__div : Option Addr} {sl__div : Array (Option Value)} {oc__div kV__div dc__div pm__div cd__div ct__div : Value} {f__mod : Addr} {od__mod an__mod : Option Addr} {sl__mod : Array (Option Value)} {oc__mod kV__mod dc__mod pm__mod cd__mod ct__mod : Value} {f_apply : Addr} {od_apply an_apply : Option Addr} {sl_apply : Array (Option Value)} {oc_apply kV_apply dc_apply pm_apply cd_apply ct_apply : Value} {f__law_done : Addr} {od__law_done an__law_done : Option Addr} {sl__law_done : Array (Option Value)} {oc__law_done kV__law_done dc__law_done pm__law_done cd__law_done ct__law_done : Value} {f_size_of : Addr} {od_size_of an_size_of : Option Addr} {sl_size_of : Array (Option Value)} {oc_size_of kV_size_of dc_size_of pm_size_of cd_size_of ct_size_of : Value} {f__law_run : Addr} {od__law_run an__law_run : Option Addr} {sl__law_run : Array (Option Value)} {oc__law_run kV__law_run dc__law_run pm__law_run cd__law_run ct__law_run : Value} {f__law_draws : Addr} {od__law_draws an__law_draws : Option Addr} {sl__law_draws : Array (Option Value)} {oc__law_draws kV__law_draws dc__law_draws pm__law_draws cd__law_draws ct__law_draws : Value} {f_parts_like : Addr} {od_parts_like an_parts_like : Option Addr} {sl_parts_like : Array (Option Value)} {oc_parts_like kV_parts_like dc_parts_like pm_parts_like cd_parts_like ct_parts_like : Value} {f_registers_of : Addr} {od_registers_of an_registers_of : Option Addr} {sl_registers_of : Array (Option Value)} {oc_registers_of kV_registers_of dc_registers_of pm_registers_of cd_registers_of ct_registers_of : Value} {f_named_registers : Addr} {od_named_registers an_named_registers : Option Addr} {sl_named_registers : Array (Option Value)} {oc_named_registers kV_named_registers dc_named_registers pm_named_registers cd_named_registers ct_named_registers : Value} {f_register_count : Addr} {od_register_count an_register_count : Option Addr} {sl_register_count : Array (Option Value)} {oc_register_count kV_register_count dc_register_count pm_register_count cd_register_count ct_register_count : Value} {f_IrRun_m___init__ : Addr} {od_IrRun_m___init__ an_IrRun_m___init__ : Option Addr} {sl_IrRun_m___init__ : Array (Option Value)} {oc_IrRun_m___init__ kV_IrRun_m___init__ dc_IrRun_m___init__ pm_IrRun_m___init__ cd_IrRun_m___init__ ct_IrRun_m___init__ : Value} {f_IrRun_m_do_rows : Addr} {od_IrRun_m_do_rows an_IrRun_m_do_rows : Option Addr} {sl_IrRun_m_do_rows : Array (Option Value)} {oc_IrRun_m_do_rows kV_IrRun_m_do_rows dc_IrRun_m_do_rows pm_IrRun_m_do_rows cd_IrRun_m_do_rows ct_IrRun_m_do_rows : Value} {f_IrRun_m_way : Addr} {od_IrRun_m_way an_IrRun_m_way : Option Addr} {sl_IrRun_m_way : Array (Option Value)} {oc_IrRun_m_way kV_IrRun_m_way dc_IrRun_m_way pm_IrRun_m_way cd_IrRun_m_way ct_IrRun_m_way : Value} {f_IrRun_m_contents : Addr} {od_IrRun_m_contents an_IrRun_m_contents : Option Addr} {sl_IrRun_m_contents : Array (Option Value)} {oc_IrRun_m_contents kV_IrRun_m_contents dc_IrRun_m_contents pm_IrRun_m_contents cd_IrRun_m_contents ct_IrRun_m_contents : Value} {f_run_ir : Addr} {od_run_ir an_run_ir : Option Addr} {sl_run_ir : Array (Option Value)} {oc_run_ir kV_run_ir dc_run_ir pm_run_ir cd_run_ir ct_run_ir : Value} {f__law_word : Addr} {od__law_word an__law_word : Option Addr} {sl__law_word : Array (Option Value)} {oc__law_word kV__law_word dc__law_word pm__law_word cd__law_word ct__law_word : Value} {f_law : Addr} {od_law an_law : Option Addr} {sl_law : Array (Option Value)} {oc_law kV_law dc_law pm_law cd_law ct_law : Value} {u_GREATEST_WORD : Value} {u_SHIFTS : Value} {ad_ACTIONS : Addr} {n_ACTIONS : Nat} {es_ACTIONS : Array DictEntry} {ad_FORMS : Addr} {n_FORMS : Nat} {es_FORMS : Array DictEntry} {ad_FORMS_0 : Addr} {oad_FORMS_0 : Option Addr} {nad_FORMS_0 : Nat} {sad_FORMS_0 : Array (Option Value)} {iad_FORMS_0 : Array Value} {ad_FORMS_1 : Addr} {oad_FORMS_1 : Option Addr} {nad_FORMS_1 : Nat} {sad_FORMS_1 : Array (Option Value)} {iad_FORMS_1 : Array Value} {ad_FORMS_2 : Addr} {oad_FORMS_2 : Option Addr} {nad_FORMS_2 : Nat} {sad_FORMS_2 : Array (Option Value)} {iad_FORMS_2 : Array Value} {ad_FORMS_3 : Addr} {oad_FORMS_3 : Option Addr} {nad_FORMS_3 : Nat} {sad_FORMS_3 : Array (Option Value)} {iad_FORMS_3 : Array Value} {ad_FORMS_4 : Addr} {oad_FORMS_4 : Option Addr} {nad_FORMS_4 : Nat} {sad_FORMS_4 : Array (Option Value)} {iad_FORMS_4 : Array Value} {ad_FORMS_5 : Addr} {oad_FORMS_5 : Option Addr} {nad_FORMS_5 : Nat} {sad_FORMS_5 : Array (Option Value)} {iad_FORMS_5 : Array Value} {ad_FORMS_6 : Addr} {oad_FORMS_6 : Option Addr} {nad_FORMS_6 : Nat} {sad_FORMS_6 : Array (Option Value)} {iad_FORMS_6 : Array Value} {ad_FORMS_7 : Addr} {oad_FORMS_7 : Option Addr} {nad_FORMS_7 : Nat} {sad_FORMS_7 : Array (Option Value)} {iad_FORMS_7 : Array Value} {ad_FORMS_8 : Addr} {oad_FORMS_8 : Option Addr} {nad_FORMS_8 : Nat} {sad_FORMS_8 : Array (Option Value)} {iad_FORMS_8 : Array Value} {ad_FORMS_9 : Addr} {oad_FORMS_9 : Option Addr} {nad_FORMS_9 : Nat} {sad_FORMS_9 : Array (Option Value)} {iad_FORMS_9 : Array Value}
    (a_IrRun : PySem.W.nsIn K mainGlobals "IrRun" = some (some (.ref k_IrRun)))
    (q1_IrRun : PySem.W.plainGet K k_IrRun Str.empty = true)
    (q2_IrRun : PySem.W.hasDictIn K k_IrRun = true)
    (q3_IrRun : PySem.W.plainOver K k_IrRun = true)
    (q4_IrRun : PySem.W.findIn K (.ref k_IrRun) "__setattr__" = some (some (.builtin "object.__setattr__")))
    (a__law_next : PySem.W.nsIn K mainGlobals "_law_next" = some (some (.ref f__law_next)))
    (l__law_next : K.lookup f__law_next = some ⟨oc__law_next, od__law_next, .func (PySem.W.fnOf "_law_next" "_law_next" (defArgs s__law_next) (defBody s__law_next) (defScope s__law_next) .none kV__law_next dc__law_next pm__law_next an__law_next cd__law_next ct__law_next), sl__law_next⟩)
    (c__law_next : PySem.W.codeIn K cd__law_next "_law_next" = true)
    (k__law_next : PySem.W.keepIn K (.ref f__law_next) = true)
    (a__law_row : PySem.W.nsIn K mainGlobals "_law_row" = some (some (.ref f__law_row)))
    (l__law_row : K.lookup f__law_row = some ⟨oc__law_row, od__law_row, .func (PySem.W.fnOf "_law_row" "_law_row" (defArgs s__law_row) (defBody s__law_row) (defScope s__law_row) .none kV__law_row dc__law_row pm__law_row an__law_row cd__law_row ct__law_row), sl__law_row⟩)
    (c__law_row : PySem.W.codeIn K cd__law_row "_law_row" = true)
    (k__law_row : PySem.W.keepIn K (.ref f__law_row) = true)
    (a__law_program : PySem.W.nsIn K mainGlobals "_law_program" = some (some (.ref f__law_program)))
    (l__law_program : K.lookup f__law_program = some ⟨oc__law_program, od__law_program, .func (PySem.W.fnOf "_law_program" "_law_program" (defArgs s__law_program) (defBody s__law_program) (defScope s__law_program) .none kV__law_program dc__law_program pm__law_program an__law_program cd__law_program ct__law_program), sl__law_program⟩)
    (c__law_program : PySem.W.codeIn K cd__law_program "_law_program" = true)
    (k__law_program : PySem.W.keepIn K (.ref f__law_program) = true)
    (a__plus : PySem.W.nsIn K mainGlobals "_plus" = some (some (.ref f__plus)))
    (l__plus : K.lookup f__plus = some ⟨oc__plus, od__plus, .func (PySem.W.fnOf "_plus" "_plus" (defArgs s__plus) (defBody s__plus) (defScope s__plus) .none kV__plus dc__plus pm__plus an__plus cd__plus ct__plus), sl__plus⟩)
    (c__plus : PySem.W.codeIn K cd__plus "_plus" = true)
    (k__plus : PySem.W.keepIn K (.ref f__plus) = true)
    (a__minus : PySem.W.nsIn K mainGlobals "_minus" = some (some (.ref f__minus)))
    (l__minus : K.lookup f__minus = some ⟨oc__minus, od__minus, .func (PySem.W.fnOf "_minus" "_minus" (defArgs s__minus) (defBody s__minus) (defScope s__minus) .none kV__minus dc__minus pm__minus an__minus cd__minus ct__minus), sl__minus⟩)
    (c__minus : PySem.W.codeIn K cd__minus "_minus" = true)
    (k__minus : PySem.W.keepIn K (.ref f__minus) = true)
    (a__times : PySem.W.nsIn K mainGlobals "_times" = some (some (.ref f__times)))
    (l__times : K.lookup f__times = some ⟨oc__times, od__times, .func (PySem.W.fnOf "_times" "_times" (defArgs s__times) (defBody s__times) (defScope s__times) .none kV__times dc__times pm__times an__times cd__times ct__times), sl__times⟩)
    (c__times : PySem.W.codeIn K cd__times "_times" = true)
    (k__times : PySem.W.keepIn K (.ref f__times) = true)
    (a__both : PySem.W.nsIn K mainGlobals "_both" = some (some (.ref f__both)))
    (l__both : K.lookup f__both = some ⟨oc__both, od__both, .func (PySem.W.fnOf "_both" "_both" (defArgs s__both) (defBody s__both) (defScope s__both) .none kV__both dc__both pm__both an__both cd__both ct__both), sl__both⟩)
    (c__both : PySem.W.codeIn K cd__both "_both" = true)
    (k__both : PySem.W.keepIn K (.ref f__both) = true)
    (a__either : PySem.W.nsIn K mainGlobals "_either" = some (some (.ref f__either)))
    (l__either : K.lookup f__either = some ⟨oc__either, od__either, .func (PySem.W.fnOf "_either" "_either" (defArgs s__either) (defBody s__either) (defScope s__either) .none kV__either dc__either pm__either an__either cd__either ct__either), sl__either⟩)
    (c__either : PySem.W.codeIn K cd__either "_either" = true)
    (k__either : PySem.W.keepIn K (.ref f__either) = true)
    (a__apart : PySem.W.nsIn K mainGlobals "_apart" = some (some (.ref f__apart)))
    (l__apart : K.lookup f__apart = some ⟨oc__apart, od__apart, .func (PySem.W.fnOf "_apart" "_apart" (defArgs s__apart) (defBody s__apart) (defScope s__apart) .none kV__apart dc__apart pm__apart an__apart cd__apart ct__apart), sl__apart⟩)
    (c__apart : PySem.W.codeIn K cd__apart "_apart" = true)
    (k__apart : PySem.W.keepIn K (.ref f__apart) = true)
    (a__left : PySem.W.nsIn K mainGlobals "_left" = some (some (.ref f__left)))
    (l__left : K.lookup f__left = some ⟨oc__left, od__left, .func (PySem.W.fnOf "_left" "_left" (defArgs s__left) (defBody s__left) (defScope s__left) .none kV__left dc__left pm__left an__left cd__left ct__left), sl__left⟩)
    (c__left : PySem.W.codeIn K cd__left "_left" = true)
    (k__left : PySem.W.keepIn K (.ref f__left) = true)
    (a__right : PySem.W.nsIn K mainGlobals "_right" = some (some (.ref f__right)))
    (l__right : K.lookup f__right = some ⟨oc__right, od__right, .func (PySem.W.fnOf "_right" "_right" (defArgs s__right) (defBody s__right) (defScope s__right) .none kV__right dc__right pm__right an__right cd__right ct__right), sl__right⟩)
    (c__right : PySem.W.codeIn K cd__right "_right" = true)
    (k__right : PySem.W.keepIn K (.ref f__right) = true)
    (a__equal : PySem.W.nsIn K mainGlobals "_equal" = some (some (.ref f__equal)))
    (l__equal : K.lookup f__equal = some ⟨oc__equal, od__equal, .func (PySem.W.fnOf "_equal" "_equal" (defArgs s__equal) (defBody s__equal) (defScope s__equal) .none kV__equal dc__equal pm__equal an__equal cd__equal ct__equal), sl__equal⟩)
    (c__equal : PySem.W.codeIn K cd__equal "_equal" = true)
    (k__equal : PySem.W.keepIn K (.ref f__equal) = true)
    (a__less : PySem.W.nsIn K mainGlobals "_less" = some (some (.ref f__less)))
    (l__less : K.lookup f__less = some ⟨oc__less, od__less, .func (PySem.W.fnOf "_less" "_less" (defArgs s__less) (defBody s__less) (defScope s__less) .none kV__less dc__less pm__less an__less cd__less ct__less), sl__less⟩)
    (c__less : PySem.W.codeIn K cd__less "_less" = true)
    (k__less : PySem.W.keepIn K (.ref f__less) = true)
    (a__at_most : PySem.W.nsIn K mainGlobals "_at_most" = some (some (.ref f__at_most)))
    (l__at_most : K.lookup f__at_most = some ⟨oc__at_most, od__at_most, .func (PySem.W.fnOf "_at_most" "_at_most" (defArgs s__at_most) (defBody s__at_most) (defScope s__at_most) .none kV__at_most dc__at_most pm__at_most an__at_most cd__at_most ct__at_most), sl__at_most⟩)
    (c__at_most : PySem.W.codeIn K cd__at_most "_at_most" = true)
    (k__at_most : PySem.W.keepIn K (.ref f__at_most) = true)
    (a__div : PySem.W.nsIn K mainGlobals "_div" = some (some (.ref f__div)))
    (l__div : K.lookup f__div = some ⟨oc__div, od__div, .func (PySem.W.fnOf "_div" "_div" (defArgs s__div) (defBody s__div) (defScope s__div) .none kV__div dc__div pm__div an__div cd__div ct__div), sl__div⟩)
    (c__div : PySem.W.codeIn K cd__div "_div" = true)
    (k__div : PySem.W.keepIn K (.ref f__div) = true)
    (a__mod : PySem.W.nsIn K mainGlobals "_mod" = some (some (.ref f__mod)))
    (l__mod : K.lookup f__mod = some ⟨oc__mod, od__mod, .func (PySem.W.fnOf "_mod" "_mod" (defArgs s__mod) (defBody s__mod) (defScope s__mod) .none kV__mod dc__mod pm__mod an__mod cd__mod ct__mod), sl__mod⟩)
    (c__mod : PySem.W.codeIn K cd__mod "_mod" = true)
    (k__mod : PySem.W.keepIn K (.ref f__mod) = true)
    (a_apply : PySem.W.nsIn K mainGlobals "apply" = some (some (.ref f_apply)))
    (l_apply : K.lookup f_apply = some ⟨oc_apply, od_apply, .func (PySem.W.fnOf "apply" "apply" (defArgs s_apply) (defBody s_apply) (defScope s_apply) .none kV_apply dc_apply pm_apply an_apply cd_apply ct_apply), sl_apply⟩)
    (c_apply : PySem.W.codeIn K cd_apply "apply" = true)
    (k_apply : PySem.W.keepIn K (.ref f_apply) = true)
    (a__law_done : PySem.W.nsIn K mainGlobals "_law_done" = some (some (.ref f__law_done)))
    (l__law_done : K.lookup f__law_done = some ⟨oc__law_done, od__law_done, .func (PySem.W.fnOf "_law_done" "_law_done" (defArgs s__law_done) (defBody s__law_done) (defScope s__law_done) .none kV__law_done dc__law_done pm__law_done an__law_done cd__law_done ct__law_done), sl__law_done⟩)
    (c__law_done : PySem.W.codeIn K cd__law_done "_law_done" = true)
    (k__law_done : PySem.W.keepIn K (.ref f__law_done) = true)
    (a_size_of : PySem.W.nsIn K mainGlobals "size_of" = some (some (.ref f_size_of)))
    (l_size_of : K.lookup f_size_of = some ⟨oc_size_of, od_size_of, .func (PySem.W.fnOf "size_of" "size_of" (defArgs s_size_of) (defBody s_size_of) (defScope s_size_of) .none kV_size_of dc_size_of pm_size_of an_size_of cd_size_of ct_size_of), sl_size_of⟩)
    (c_size_of : PySem.W.codeIn K cd_size_of "size_of" = true)
    (k_size_of : PySem.W.keepIn K (.ref f_size_of) = true)
    (a__law_run : PySem.W.nsIn K mainGlobals "_law_run" = some (some (.ref f__law_run)))
    (l__law_run : K.lookup f__law_run = some ⟨oc__law_run, od__law_run, .func (PySem.W.fnOf "_law_run" "_law_run" (defArgs s__law_run) (defBody s__law_run) (defScope s__law_run) .none kV__law_run dc__law_run pm__law_run an__law_run cd__law_run ct__law_run), sl__law_run⟩)
    (c__law_run : PySem.W.codeIn K cd__law_run "_law_run" = true)
    (k__law_run : PySem.W.keepIn K (.ref f__law_run) = true)
    (a__law_draws : PySem.W.nsIn K mainGlobals "_law_draws" = some (some (.ref f__law_draws)))
    (l__law_draws : K.lookup f__law_draws = some ⟨oc__law_draws, od__law_draws, .func (PySem.W.fnOf "_law_draws" "_law_draws" (defArgs s__law_draws) (defBody s__law_draws) (defScope s__law_draws) .none kV__law_draws dc__law_draws pm__law_draws an__law_draws cd__law_draws ct__law_draws), sl__law_draws⟩)
    (c__law_draws : PySem.W.codeIn K cd__law_draws "_law_draws" = true)
    (k__law_draws : PySem.W.keepIn K (.ref f__law_draws) = true)
    (a_parts_like : PySem.W.nsIn K mainGlobals "parts_like" = some (some (.ref f_parts_like)))
    (l_parts_like : K.lookup f_parts_like = some ⟨oc_parts_like, od_parts_like, .func (PySem.W.fnOf "parts_like" "parts_like" (defArgs s_parts_like) (defBody s_parts_like) (defScope s_parts_like) .none kV_parts_like dc_parts_like pm_parts_like an_parts_like cd_parts_like ct_parts_like), sl_parts_like⟩)
    (c_parts_like : PySem.W.codeIn K cd_parts_like "parts_like" = true)
    (k_parts_like : PySem.W.keepIn K (.ref f_parts_like) = true)
    (a_registers_of : PySem.W.nsIn K mainGlobals "registers_of" = some (some (.ref f_registers_of)))
    (l_registers_of : K.lookup f_registers_of = some ⟨oc_registers_of, od_registers_of, .func (PySem.W.fnOf "registers_of" "registers_of" (defArgs s_registers_of) (defBody s_registers_of) (defScope s_registers_of) .none kV_registers_of dc_registers_of pm_registers_of an_registers_of cd_registers_of ct_registers_of), sl_registers_of⟩)
    (c_registers_of : PySem.W.codeIn K cd_registers_of "registers_of" = true)
    (k_registers_of : PySem.W.keepIn K (.ref f_registers_of) = true)
    (a_named_registers : PySem.W.nsIn K mainGlobals "named_registers" = some (some (.ref f_named_registers)))
    (l_named_registers : K.lookup f_named_registers = some ⟨oc_named_registers, od_named_registers, .func (PySem.W.fnOf "named_registers" "named_registers" (defArgs s_named_registers) (defBody s_named_registers) (defScope s_named_registers) .none kV_named_registers dc_named_registers pm_named_registers an_named_registers cd_named_registers ct_named_registers), sl_named_registers⟩)
    (c_named_registers : PySem.W.codeIn K cd_named_registers "named_registers" = true)
    (k_named_registers : PySem.W.keepIn K (.ref f_named_registers) = true)
    (a_register_count : PySem.W.nsIn K mainGlobals "register_count" = some (some (.ref f_register_count)))
    (l_register_count : K.lookup f_register_count = some ⟨oc_register_count, od_register_count, .func (PySem.W.fnOf "register_count" "register_count" (defArgs s_register_count) (defBody s_register_count) (defScope s_register_count) .none kV_register_count dc_register_count pm_register_count an_register_count cd_register_count ct_register_count), sl_register_count⟩)
    (c_register_count : PySem.W.codeIn K cd_register_count "register_count" = true)
    (k_register_count : PySem.W.keepIn K (.ref f_register_count) = true)
    (a_IrRun_m___init__ : PySem.W.findIn K (.ref k_IrRun) "__init__" = some (some (.ref f_IrRun_m___init__)))
    (l_IrRun_m___init__ : K.lookup f_IrRun_m___init__ = some ⟨oc_IrRun_m___init__, od_IrRun_m___init__, .func (PySem.W.fnOf "__init__" "IrRun.__init__" (defArgs s_IrRun_m___init__) (defBody s_IrRun_m___init__) (defScope s_IrRun_m___init__) .none kV_IrRun_m___init__ dc_IrRun_m___init__ pm_IrRun_m___init__ an_IrRun_m___init__ cd_IrRun_m___init__ ct_IrRun_m___init__), sl_IrRun_m___init__⟩)
    (c_IrRun_m___init__ : PySem.W.codeIn K cd_IrRun_m___init__ "IrRun.__init__" = true)
    (k_IrRun_m___init__ : PySem.W.keepIn K (.ref f_IrRun_m___init__) = true)
    (i_IrRun_m___init__ : PySem.W.isFn K (.ref f_IrRun_m___init__) = true)
    (a_IrRun_m_do_rows : PySem.W.findIn K (.ref k_IrRun) "do_rows" = some (some (.ref f_IrRun_m_do_rows)))
    (l_IrRun_m_do_rows : K.lookup f_IrRun_m_do_rows = some ⟨oc_IrRun_m_do_rows, od_IrRun_m_do_rows, .func (PySem.W.fnOf "do_rows" "IrRun.do_rows" (defArgs s_IrRun_m_do_rows) (defBody s_IrRun_m_do_rows) (defScope s_IrRun_m_do_rows) .none kV_IrRun_m_do_rows dc_IrRun_m_do_rows pm_IrRun_m_do_rows an_IrRun_m_do_rows cd_IrRun_m_do_rows ct_IrRun_m_do_rows), sl_IrRun_m_do_rows⟩)
    (c_IrRun_m_do_rows : PySem.W.codeIn K cd_IrRun_m_do_rows "IrRun.do_rows" = true)
    (k_IrRun_m_do_rows : PySem.W.keepIn K (.ref f_IrRun_m_do_rows) = true)
    (i_IrRun_m_do_rows : PySem.W.isFn K (.ref f_IrRun_m_do_rows) = true)
    (a_IrRun_m_way : PySem.W.findIn K (.ref k_IrRun) "way" = some (some (.ref f_IrRun_m_way)))
    (l_IrRun_m_way : K.lookup f_IrRun_m_way = some ⟨oc_IrRun_m_way, od_IrRun_m_way, .func (PySem.W.fnOf "way" "IrRun.way" (defArgs s_IrRun_m_way) (defBody s_IrRun_m_way) (defScope s_IrRun_m_way) .none kV_IrRun_m_way dc_IrRun_m_way pm_IrRun_m_way an_IrRun_m_way cd_IrRun_m_way ct_IrRun_m_way), sl_IrRun_m_way⟩)
    (c_IrRun_m_way : PySem.W.codeIn K cd_IrRun_m_way "IrRun.way" = true)
    (k_IrRun_m_way : PySem.W.keepIn K (.ref f_IrRun_m_way) = true)
    (i_IrRun_m_way : PySem.W.isFn K (.ref f_IrRun_m_way) = true)
    (a_IrRun_m_contents : PySem.W.findIn K (.ref k_IrRun) "contents" = some (some (.ref f_IrRun_m_contents)))
    (l_IrRun_m_contents : K.lookup f_IrRun_m_contents = some ⟨oc_IrRun_m_contents, od_IrRun_m_contents, .func (PySem.W.fnOf "contents" "IrRun.contents" (defArgs s_IrRun_m_contents) (defBody s_IrRun_m_contents) (defScope s_IrRun_m_contents) .none kV_IrRun_m_contents dc_IrRun_m_contents pm_IrRun_m_contents an_IrRun_m_contents cd_IrRun_m_contents ct_IrRun_m_contents), sl_IrRun_m_contents⟩)
    (c_IrRun_m_contents : PySem.W.codeIn K cd_IrRun_m_contents "IrRun.contents" = true)
    (k_IrRun_m_contents : PySem.W.keepIn K (.ref f_IrRun_m_contents) = true)
    (i_IrRun_m_contents : PySem.W.isFn K (.ref f_IrRun_m_contents) = true)
    (a_run_ir : PySem.W.nsIn K mainGlobals "run_ir" = some (some (.ref f_run_ir)))
    (l_run_ir : K.lookup f_run_ir = some ⟨oc_run_ir, od_run_ir, .func (PySem.W.fnOf "run_ir" "run_ir" (defArgs s_run_ir) (defBody s_run_ir) (defScope s_run_ir) .none kV_run_ir dc_run_ir pm_run_ir an_run_ir cd_run_ir ct_run_ir), sl_run_ir⟩)
    (c_run_ir : PySem.W.codeIn K cd_run_ir "run_ir" = true)
    (k_run_ir : PySem.W.keepIn K (.ref f_run_ir) = true)
    (a__law_word : PySem.W.nsIn K mainGlobals "_law_word" = some (some (.ref f__law_word)))
    (l__law_word : K.lookup f__law_word = some ⟨oc__law_word, od__law_word, .func (PySem.W.fnOf "_law_word" "_law_word" (defArgs s__law_word) (defBody s__law_word) (defScope s__law_word) .none kV__law_word dc__law_word pm__law_word an__law_word cd__law_word ct__law_word), sl__law_word⟩)
    (c__law_word : PySem.W.codeIn K cd__law_word "_law_word" = true)
    (k__law_word : PySem.W.keepIn K (.ref f__law_word) = true)
    (a_law : PySem.W.nsIn K mainGlobals "law" = some (some (.ref f_law)))
    (l_law : K.lookup f_law = some ⟨oc_law, od_law, .func (PySem.W.fnOf "law" "law" (defArgs s_law) (defBody s_law) (defScope s_law) .none kV_law dc_law pm_law an_law cd_law ct_law), sl_law⟩)
    (c_law : PySem.W.codeIn K cd_law "law" = true)
    (k_law : PySem.W.keepIn K (.ref f_law) = true)
    (n_IrRun_arrays : PySem.W.findIn K (.ref k_IrRun) "arrays" = some none)
    (n_IrRun_registers : PySem.W.findIn K (.ref k_IrRun) "registers" = some none)
    (n_IrRun_cells : PySem.W.findIn K (.ref k_IrRun) "cells" = some none)
    (n_IrRun_masks : PySem.W.findIn K (.ref k_IrRun) "masks" = some none)
    (n_IrRun_outs : PySem.W.findIn K (.ref k_IrRun) "outs" = some none)
    (q5_IrRun : PySem.W.makesIn K k_IrRun = true)
    (q6_IrRun : PySem.W.findIn K (.ref k_IrRun) "__init__" = some (some (.ref f_IrRun_m___init__)))
    (q7_IrRun : PySem.W.keepIn K (.ref k_IrRun) = true)
    (x_IrRun_do_rows : PySem.W.findIn K (.ref k_IrRun) "do_rows" = some (some (.ref f_IrRun_m_do_rows)))
    (x_IrRun_contents : PySem.W.findIn K (.ref k_IrRun) "contents" = some (some (.ref f_IrRun_m_contents)))
    (x_IrRun_way : PySem.W.findIn K (.ref k_IrRun) "way" = some (some (.ref f_IrRun_m_way)))
    (a_GREATEST_WORD : PySem.W.nsIn K mainGlobals "GREATEST_WORD" = some (some u_GREATEST_WORD))
    (t_GREATEST_WORD : absV u_GREATEST_WORD = some (.int 4294967295))
    (a_SHIFTS : PySem.W.nsIn K mainGlobals "SHIFTS" = some (some u_SHIFTS))
    (t_SHIFTS : absV u_SHIFTS = some (.int 31))
    (a_ACTIONS : PySem.W.nsIn K mainGlobals "ACTIONS" = some (some (.ref ad_ACTIONS)))
    (l_ACTIONS : K.lookup ad_ACTIONS = some ⟨.type "dict", none, .dict es_ACTIONS n_ACTIONS, #[]⟩)
    (t_wACTIONS : (ad_ACTIONS == sysModules) = false)
    (t_kACTIONS : es_ACTIONS.toList.map He.keyOf = He.keysIn w.params ["+", "-", "*", "&", "|", "^", "<<", ">>", "==", "<", "<=", "div", "mod"])
    (t_vACTIONS : es_ACTIONS.toList.map (·.val) = [.ref f__plus, .ref f__minus, .ref f__times, .ref f__both, .ref f__either, .ref f__apart, .ref f__left, .ref f__right, .ref f__equal, .ref f__less, .ref f__at_most, .ref f__div, .ref f__mod])
    (a_FORMS : PySem.W.nsIn K mainGlobals "FORMS" = some (some (.ref ad_FORMS)))
    (l_FORMS : K.lookup ad_FORMS = some ⟨.type "dict", none, .dict es_FORMS n_FORMS, #[]⟩)
    (t_wFORMS : (ad_FORMS == sysModules) = false)
    (t_kFORMS : es_FORMS.toList.map He.keyOf = He.keysIn w.params ["const", "copy", "op", "select", "load", "store", "out", "jump", "branch", "stop"])
    (t_vFORMS : es_FORMS.toList.map (·.val) = [.ref ad_FORMS_0, .ref ad_FORMS_1, .ref ad_FORMS_2, .ref ad_FORMS_3, .ref ad_FORMS_4, .ref ad_FORMS_5, .ref ad_FORMS_6, .ref ad_FORMS_7, .ref ad_FORMS_8, .ref ad_FORMS_9])
    (l_ad_FORMS_0 : K.lookup ad_FORMS_0 = some ⟨.type "tuple", oad_FORMS_0, .seq iad_FORMS_0 nad_FORMS_0, sad_FORMS_0⟩)
    (t_ad_FORMS_0 : iad_FORMS_0.toList.map absV = ([.str "write", .str "word"] : List D).map flatC)
    (l_ad_FORMS_1 : K.lookup ad_FORMS_1 = some ⟨.type "tuple", oad_FORMS_1, .seq iad_FORMS_1 nad_FORMS_1, sad_FORMS_1⟩)
    (t_ad_FORMS_1 : iad_FORMS_1.toList.map absV = ([.str "write", .str "read"] : List D).map flatC)
    (l_ad_FORMS_2 : K.lookup ad_FORMS_2 = some ⟨.type "tuple", oad_FORMS_2, .seq iad_FORMS_2 nad_FORMS_2, sad_FORMS_2⟩)
    (t_ad_FORMS_2 : iad_FORMS_2.toList.map absV = ([.str "sign", .str "write", .str "read", .str "read"] : List D).map flatC)
    (l_ad_FORMS_3 : K.lookup ad_FORMS_3 = some ⟨.type "tuple", oad_FORMS_3, .seq iad_FORMS_3 nad_FORMS_3, sad_FORMS_3⟩)
    (t_ad_FORMS_3 : iad_FORMS_3.toList.map absV = ([.str "write", .str "read", .str "read", .str "read"] : List D).map flatC)
    (l_ad_FORMS_4 : K.lookup ad_FORMS_4 = some ⟨.type "tuple", oad_FORMS_4, .seq iad_FORMS_4 nad_FORMS_4, sad_FORMS_4⟩)
    (t_ad_FORMS_4 : iad_FORMS_4.toList.map absV = ([.str "write", .str "array", .str "read"] : List D).map flatC)
    (l_ad_FORMS_5 : K.lookup ad_FORMS_5 = some ⟨.type "tuple", oad_FORMS_5, .seq iad_FORMS_5 nad_FORMS_5, sad_FORMS_5⟩)
    (t_ad_FORMS_5 : iad_FORMS_5.toList.map absV = ([.str "array", .str "read", .str "read"] : List D).map flatC)
    (l_ad_FORMS_6 : K.lookup ad_FORMS_6 = some ⟨.type "tuple", oad_FORMS_6, .seq iad_FORMS_6 nad_FORMS_6, sad_FORMS_6⟩)
    (t_ad_FORMS_6 : iad_FORMS_6.toList.map absV = ([.str "read"] : List D).map flatC)
    (l_ad_FORMS_7 : K.lookup ad_FORMS_7 = some ⟨.type "tuple", oad_FORMS_7, .seq iad_FORMS_7 nad_FORMS_7, sad_FORMS_7⟩)
    (t_ad_FORMS_7 : iad_FORMS_7.toList.map absV = ([.str "block"] : List D).map flatC)
    (l_ad_FORMS_8 : K.lookup ad_FORMS_8 = some ⟨.type "tuple", oad_FORMS_8, .seq iad_FORMS_8 nad_FORMS_8, sad_FORMS_8⟩)
    (t_ad_FORMS_8 : iad_FORMS_8.toList.map absV = ([.str "read", .str "block", .str "block"] : List D).map flatC)
    (l_ad_FORMS_9 : K.lookup ad_FORMS_9 = some ⟨.type "tuple", oad_FORMS_9, .seq iad_FORMS_9 nad_FORMS_9, sad_FORMS_9⟩)
    (t_ad_FORMS_9 : iad_FORMS_9.toList.map absV = ([.str "read"] : List D).map flatC)
    (u_dst : (([k_IrRun, f__plus, f__minus, f__times, f__both, f__either, f__apart, f__left, f__right, f__equal, f__less, f__at_most, f__div, f__mod] : List Addr).drop 1 |>.take (14 - 1)).Nodup)
    (z_len : PySem.W.nsIn K mainGlobals "len" = some none)
    (z_int : PySem.W.nsIn K mainGlobals "int" = some none)
    (z_tuple : PySem.W.nsIn K mainGlobals "tuple" = some none)
    (z_range : PySem.W.nsIn K mainGlobals "range" = some none)
    (z_str : PySem.W.nsIn K mainGlobals "str" = some none)
    (z_list : PySem.W.nsIn K mainGlobals "list" = some none)
    (z_abs : PySem.W.nsIn K mainGlobals "abs" = some none)
    (z_zip : PySem.W.nsIn K mainGlobals "zip" = some none)
    (z_max : PySem.W.nsIn K mainGlobals "max" = some none) :
    ∃ fd : FuncData, (∀ (s : Shared) (v : Value), BindsTo s fd ⟨[v], []⟩ [("script", v)]) ∧ ∀ base : Heap, K.In base → base.Ns mainGlobals mg → FnOk l.prog w K mg base (L2.CX l.prog w) 8 fa fd ["script"] (spY K 1 14 1 (fun cA => m_law cA)) := by
  have e := hfa.symm.trans (PySem.W.mg_of X G a_law)
  cases e
  have F__law_next := fun_mk (st := s__law_next) l__law_next c__law_next k__law_next
  have D__law_next : DefAt K mg "_law_next" s__law_next ["w", "many"] _ _ := ⟨F__law_next, PySem.W.mg_of X G a__law_next, F__law_next.binds fun _ _ _ _ _ _ us hl => match us, hl with | [_, _], _ => rfl⟩
  have F__law_row := fun_mk (st := s__law_row) l__law_row c__law_row k__law_row
  have D__law_row : DefAt K mg "_law_row" s__law_row ["w", "arrays", "blocks", "last"] _ _ := ⟨F__law_row, PySem.W.mg_of X G a__law_row, F__law_row.binds fun _ _ _ _ _ _ us hl => match us, hl with | [_, _, _, _], _ => rfl⟩
  have F__law_program := fun_mk (st := s__law_program) l__law_program c__law_program k__law_program
  have D__law_program : DefAt K mg "_law_program" s__law_program ["w"] _ _ := ⟨F__law_program, PySem.W.mg_of X G a__law_program, F__law_program.binds fun _ _ _ _ _ _ us hl => match us, hl with | [_], _ => rfl⟩
  have F__plus := fun_mk (st := s__plus) l__plus c__plus k__plus
  have D__plus : DefAt K mg "_plus" s__plus ["a", "b"] _ _ := ⟨F__plus, PySem.W.mg_of X G a__plus, F__plus.binds fun _ _ _ _ _ _ us hl => match us, hl with | [_, _], _ => rfl⟩
  have F__minus := fun_mk (st := s__minus) l__minus c__minus k__minus
  have D__minus : DefAt K mg "_minus" s__minus ["a", "b"] _ _ := ⟨F__minus, PySem.W.mg_of X G a__minus, F__minus.binds fun _ _ _ _ _ _ us hl => match us, hl with | [_, _], _ => rfl⟩
  have F__times := fun_mk (st := s__times) l__times c__times k__times
  have D__times : DefAt K mg "_times" s__times ["a", "b"] _ _ := ⟨F__times, PySem.W.mg_of X G a__times, F__times.binds fun _ _ _ _ _ _ us hl => match us, hl with | [_, _], _ => rfl⟩
  have F__both := fun_mk (st := s__both) l__both c__both k__both
  have D__both : DefAt K mg "_both" s__both ["a", "b"] _ _ := ⟨F__both, PySem.W.mg_of X G a__both, F__both.binds fun _ _ _ _ _ _ us hl => match us, hl with | [_, _], _ => rfl⟩
  have F__either := fun_mk (st := s__either) l__either c__either k__either
  have D__either : DefAt K mg "_either" s__either ["a", "b"] _ _ := ⟨F__either, PySem.W.mg_of X G a__either, F__either.binds fun _ _ _ _ _ _ us hl => match us, hl with | [_, _], _ => rfl⟩
  have F__apart := fun_mk (st := s__apart) l__apart c__apart k__apart
  have D__apart : DefAt K mg "_apart" s__apart ["a", "b"] _ _ := ⟨F__apart, PySem.W.mg_of X G a__apart, F__apart.binds fun _ _ _ _ _ _ us hl => match us, hl with | [_, _], _ => rfl⟩
  have F__left := fun_mk (st := s__left) l__left c__left k__left
  have D__left : DefAt K mg "_left" s__left ["a", "b"] _ _ := ⟨F__left, PySem.W.mg_of X G a__left, F__left.binds fun _ _ _ _ _ _ us hl => match us, hl with | [_, _], _ => rfl⟩
  have F__right := fun_mk (st := s__right) l__right c__right k__right
  have D__right : DefAt K mg "_right" s__right ["a", "b"] _ _ := ⟨F__right, PySem.W.mg_of X G a__right, F__right.binds fun _ _ _ _ _ _ us hl => match us, hl with | [_, _], _ => rfl⟩
  have F__equal := fun_mk (st := s__equal) l__equal c__equal k__equal
  have D__equal : DefAt K mg "_equal" s__equal ["a", "b"] _ _ := ⟨F__equal, PySem.W.mg_of X G a__equal, F__equal.binds fun _ _ _ _ _ _ us hl => match us, hl with | [_, _], _ => rfl⟩
  have F__less := fun_mk (st := s__less) l__less c__less k__less
  have D__less : DefAt K mg "_less" s__less ["a", "b"] _ _ := ⟨F__less, PySem.W.mg_of X G a__less, F__less.binds fun _ _ _ _ _ _ us hl => match us, hl with | [_, _], _ => rfl⟩
  have F__at_most := fun_mk (st := s__at_most) l__at_most c__at_most k__at_most
  have D__at_most : DefAt K mg "_at_most" s__at_most ["a", "b"] _ _ := ⟨F__at_most, PySem.W.mg_of X G a__at_most, F__at_most.binds fun _ _ _ _ _ _ us hl => match us, hl with | [_, _], _ => rfl⟩
  have F__div := fun_mk (st := s__div) l__div c__div k__div
  have D__div : DefAt K mg "_div" s__div ["a", "b"] _ _ := ⟨F__div, PySem.W.mg_of X G a__div, F__div.binds fun _ _ _ _ _ _ us hl => match us, hl with | [_, _], _ => rfl⟩
  have F__mod := fun_mk (st := s__mod) l__mod c__mod k__mod
  have D__mod : DefAt K mg "_mod" s__mod ["a", "b"] _ _ := ⟨F__mod, PySem.W.mg_of X G a__mod, F__mod.binds fun _ _ _ _ _ _ us hl => match us, hl with | [_, _], _ => rfl⟩
  have F_apply := fun_mk (st := s_apply) l_apply c_apply k_apply
  have D_apply : DefAt K mg "apply" s_apply ["sign", "a", "b"] _ _ := ⟨F_apply, PySem.W.mg_of X G a_apply, F_apply.binds fun _ _ _ _ _ _ us hl => match us, hl with | [_, _, _], _ => rfl⟩
  have F__law_done := fun_mk (st := s__law_done) l__law_done c__law_done k__law_done
  have D__law_done : DefAt K mg "_law_done" s__law_done ["r", "row"] _ _ := ⟨F__law_done, PySem.W.mg_of X G a__law_done, F__law_done.binds fun _ _ _ _ _ _ us hl => match us, hl with | [_, _], _ => rfl⟩
  have F_size_of := fun_mk (st := s_size_of) l_size_of c_size_of k_size_of
  have D_size_of : DefAt K mg "size_of" s_size_of ["length"] _ _ := ⟨F_size_of, PySem.W.mg_of X G a_size_of, F_size_of.binds fun _ _ _ _ _ _ us hl => match us, hl with | [_], _ => rfl⟩
  have F__law_run := fun_mk (st := s__law_run) l__law_run c__law_run k__law_run
  have D__law_run : DefAt K mg "_law_run" s__law_run ["program", "inputs", "contents", "most"] _ _ := ⟨F__law_run, PySem.W.mg_of X G a__law_run, F__law_run.binds fun _ _ _ _ _ _ us hl => match us, hl with | [_, _, _, _], _ => rfl⟩
  have F__law_draws := fun_mk (st := s__law_draws) l__law_draws c__law_draws k__law_draws
  have D__law_draws : DefAt K mg "_law_draws" s__law_draws ["script", "many"] _ _ := ⟨F__law_draws, PySem.W.mg_of X G a__law_draws, F__law_draws.binds fun _ _ _ _ _ _ us hl => match us, hl with | [_, _], _ => rfl⟩
  have F_parts_like := fun_mk (st := s_parts_like) l_parts_like c_parts_like k_parts_like
  have D_parts_like : DefAt K mg "parts_like" s_parts_like ["row", "kind"] _ _ := ⟨F_parts_like, PySem.W.mg_of X G a_parts_like, F_parts_like.binds fun _ _ _ _ _ _ us hl => match us, hl with | [_, _], _ => rfl⟩
  have F_registers_of := fun_mk (st := s_registers_of) l_registers_of c_registers_of k_registers_of
  have D_registers_of : DefAt K mg "registers_of" s_registers_of ["row"] _ _ := ⟨F_registers_of, PySem.W.mg_of X G a_registers_of, F_registers_of.binds fun _ _ _ _ _ _ us hl => match us, hl with | [_], _ => rfl⟩
  have F_named_registers := fun_mk (st := s_named_registers) l_named_registers c_named_registers k_named_registers
  have D_named_registers : DefAt K mg "named_registers" s_named_registers ["program"] _ _ := ⟨F_named_registers, PySem.W.mg_of X G a_named_registers, F_named_registers.binds fun _ _ _ _ _ _ us hl => match us, hl with | [_], _ => rfl⟩
  have F_register_count := fun_mk (st := s_register_count) l_register_count c_register_count k_register_count
  have D_register_count : DefAt K mg "register_count" s_register_count ["program"] _ _ := ⟨F_register_count, PySem.W.mg_of X G a_register_count, F_register_count.binds fun _ _ _ _ _ _ us hl => match us, hl with | [_], _ => rfl⟩
  have F_IrRun_m___init__ := fun_mk (st := s_IrRun_m___init__) l_IrRun_m___init__ c_IrRun_m___init__ k_IrRun_m___init__
  have D_IrRun_m___init__ : MetAt K "__init__" "IrRun.__init__" s_IrRun_m___init__ ["self", "program", "inputs", "contents"] _ _ := ⟨F_IrRun_m___init__, F_IrRun_m___init__.binds fun _ _ _ _ _ _ us hl => match us, hl with | [_, _, _, _], _ => rfl⟩
  have F_IrRun_m_do_rows := fun_mk (st := s_IrRun_m_do_rows) l_IrRun_m_do_rows c_IrRun_m_do_rows k_IrRun_m_do_rows
  have D_IrRun_m_do_rows : MetAt K "do_rows" "IrRun.do_rows" s_IrRun_m_do_rows ["self", "rows"] _ _ := ⟨F_IrRun_m_do_rows, F_IrRun_m_do_rows.binds fun _ _ _ _ _ _ us hl => match us, hl with | [_, _], _ => rfl⟩
  have F_IrRun_m_way := fun_mk (st := s_IrRun_m_way) l_IrRun_m_way c_IrRun_m_way k_IrRun_m_way
  have D_IrRun_m_way : MetAt K "way" "IrRun.way" s_IrRun_m_way ["self", "row"] _ _ := ⟨F_IrRun_m_way, F_IrRun_m_way.binds fun _ _ _ _ _ _ us hl => match us, hl with | [_, _], _ => rfl⟩
  have F_IrRun_m_contents := fun_mk (st := s_IrRun_m_contents) l_IrRun_m_contents c_IrRun_m_contents k_IrRun_m_contents
  have D_IrRun_m_contents : MetAt K "contents" "IrRun.contents" s_IrRun_m_contents ["self"] _ _ := ⟨F_IrRun_m_contents, F_IrRun_m_contents.binds fun _ _ _ _ _ _ us hl => match us, hl with | [_], _ => rfl⟩
  have F_run_ir := fun_mk (st := s_run_ir) l_run_ir c_run_ir k_run_ir
  have D_run_ir : DefAt K mg "run_ir" s_run_ir ["program", "inputs", "contents", "steps"] _ _ := ⟨F_run_ir, PySem.W.mg_of X G a_run_ir, F_run_ir.binds fun _ _ _ _ _ _ us hl => match us, hl with | [_, _, _, _], _ => rfl⟩
  have F__law_word := fun_mk (st := s__law_word) l__law_word c__law_word k__law_word
  have D__law_word : DefAt K mg "_law_word" s__law_word ["w"] _ _ := ⟨F__law_word, PySem.W.mg_of X G a__law_word, F__law_word.binds fun _ _ _ _ _ _ us hl => match us, hl with | [_], _ => rfl⟩
  have F_law := fun_mk (st := s_law) l_law c_law k_law
  have D_law : DefAt K mg "law" s_law ["script"] _ _ := ⟨F_law, PySem.W.mg_of X G a_law, F_law.binds fun _ _ _ _ _ _ us hl => match us, hl with | [_], _ => rfl⟩
  have C_IrRun : Cls K k_IrRun := ⟨q1_IrRun, q2_IrRun, q3_IrRun, q4_IrRun⟩
  have fo_arrays : FOk K [k_IrRun] "arrays" := fun C h => by
    simp only [List.mem_cons, List.not_mem_nil, or_false] at h
    rcases h with rfl
    · exact ⟨C_IrRun, n_IrRun_arrays⟩
  have fo_registers : FOk K [k_IrRun] "registers" := fun C h => by
    simp only [List.mem_cons, List.not_mem_nil, or_false] at h
    rcases h with rfl
    · exact ⟨C_IrRun, n_IrRun_registers⟩
  have fo_cells : FOk K [k_IrRun] "cells" := fun C h => by
    simp only [List.mem_cons, List.not_mem_nil, or_false] at h
    rcases h with rfl
    · exact ⟨C_IrRun, n_IrRun_cells⟩
  have fo_masks : FOk K [k_IrRun] "masks" := fun C h => by
    simp only [List.mem_cons, List.not_mem_nil, or_false] at h
    rcases h with rfl
    · exact ⟨C_IrRun, n_IrRun_masks⟩
  have fo_outs : FOk K [k_IrRun] "outs" := fun C h => by
    simp only [List.mem_cons, List.not_mem_nil, or_false] at h
    rcases h with rfl
    · exact ⟨C_IrRun, n_IrRun_outs⟩
  have N_IrRun : mg "IrRun" = some (.ref k_IrRun) := PySem.W.mg_of X G a_IrRun
  have M_IrRun : Mk K k_IrRun f_IrRun_m___init__ := ⟨q5_IrRun, q6_IrRun, i_IrRun_m___init__, q7_IrRun⟩
  have X_IrRun_do_rows : Cls K k_IrRun ∧ Meth K k_IrRun "do_rows" f_IrRun_m_do_rows := ⟨C_IrRun, x_IrRun_do_rows, i_IrRun_m_do_rows, k_IrRun_m_do_rows⟩
  have X_IrRun_contents : Cls K k_IrRun ∧ Meth K k_IrRun "contents" f_IrRun_m_contents := ⟨C_IrRun, x_IrRun_contents, i_IrRun_m_contents, k_IrRun_m_contents⟩
  have X_IrRun_way : Cls K k_IrRun ∧ Meth K k_IrRun "way" f_IrRun_m_way := ⟨C_IrRun, x_IrRun_way, i_IrRun_m_way, k_IrRun_m_way⟩
  have g_GREATEST_WORD : GV K mg "GREATEST_WORD" d_GREATEST_WORD := gv_int (PySem.W.mg_of X G a_GREATEST_WORD) t_GREATEST_WORD
  have g_SHIFTS : GV K mg "SHIFTS" d_SHIFTS := gv_int (PySem.W.mg_of X G a_SHIFTS) t_SHIFTS
  have g_ACTIONS : KD K w mg "ACTIONS" (d_ACTIONS (fun i => ([k_IrRun, f__plus, f__minus, f__times, f__both, f__either, f__apart, f__left, f__right, f__equal, f__less, f__at_most, f__div, f__mod] : List Addr).getD i 0)) := kd_mk (PySem.W.mg_of X G a_ACTIONS) l_ACTIONS t_wACTIONS t_kACTIONS (t_vACTIONS ▸ (KVs.cons (kv_cst rfl) (KVs.cons (kv_cst rfl) (KVs.cons (kv_cst rfl) (KVs.cons (kv_cst rfl) (KVs.cons (kv_cst rfl) (KVs.cons (kv_cst rfl) (KVs.cons (kv_cst rfl) (KVs.cons (kv_cst rfl) (KVs.cons (kv_cst rfl) (KVs.cons (kv_cst rfl) (KVs.cons (kv_cst rfl) (KVs.cons (kv_cst rfl) (KVs.cons (kv_cst rfl) KVs.nil))))))))))))))
  have g_FORMS : KD K w mg "FORMS" d_FORMS := kd_mk (PySem.W.mg_of X G a_FORMS) l_FORMS t_wFORMS t_kFORMS (t_vFORMS ▸ (KVs.cons (kv_flats l_ad_FORMS_0 t_ad_FORMS_0) (KVs.cons (kv_flats l_ad_FORMS_1 t_ad_FORMS_1) (KVs.cons (kv_flats l_ad_FORMS_2 t_ad_FORMS_2) (KVs.cons (kv_flats l_ad_FORMS_3 t_ad_FORMS_3) (KVs.cons (kv_flats l_ad_FORMS_4 t_ad_FORMS_4) (KVs.cons (kv_flats l_ad_FORMS_5 t_ad_FORMS_5) (KVs.cons (kv_flats l_ad_FORMS_6 t_ad_FORMS_6) (KVs.cons (kv_flats l_ad_FORMS_7 t_ad_FORMS_7) (KVs.cons (kv_flats l_ad_FORMS_8 t_ad_FORMS_8) (KVs.cons (kv_flats l_ad_FORMS_9 t_ad_FORMS_9) KVs.nil)))))))))))
  refine ⟨PySem.W.fnOf "law" "law" (defArgs s_law) (defBody s_law) (defScope s_law) .none kV_law dc_law pm_law an_law cd_law ct_law, fun s v => .of_eq rfl, fun base _ _ => ?_⟩
  have G__law_next := (ok__law_next (P := l.prog) (w := w) (mg := mg) (base := base) D__law_next (PySem.W.mg_none_of X G z_len) (PySem.W.mg_none_of X G z_int))
  have G__law_row := (ok__law_row (P := l.prog) (w := w) (mg := mg) (base := base) D__law_row D__law_next G__law_next)
  have G__law_program := (ok__law_program (P := l.prog) (w := w) (mg := mg) (base := base) D__law_program D__law_next D__law_row G__law_next G__law_row (PySem.W.mg_none_of X G z_tuple) (PySem.W.mg_none_of X G z_range) (PySem.W.mg_none_of X G z_str) (PySem.W.mg_none_of X G z_len))
  have G__plus := (ok__plus (P := l.prog) (w := w) (mg := mg) (base := base) D__plus g_GREATEST_WORD)
  have G__minus := (ok__minus (P := l.prog) (w := w) (mg := mg) (base := base) D__minus g_GREATEST_WORD)
  have G__times := (ok__times (P := l.prog) (w := w) (mg := mg) (base := base) D__times g_GREATEST_WORD)
  have G__both := (ok__both (P := l.prog) (w := w) (mg := mg) (base := base) D__both)
  have G__either := (ok__either (P := l.prog) (w := w) (mg := mg) (base := base) D__either)
  have G__apart := (ok__apart (P := l.prog) (w := w) (mg := mg) (base := base) D__apart)
  have G__left := (ok__left (P := l.prog) (w := w) (mg := mg) (base := base) D__left g_SHIFTS g_GREATEST_WORD)
  have G__right := (ok__right (P := l.prog) (w := w) (mg := mg) (base := base) D__right g_SHIFTS)
  have G__equal := (ok__equal (P := l.prog) (w := w) (mg := mg) (base := base) D__equal)
  have G__less := (ok__less (P := l.prog) (w := w) (mg := mg) (base := base) D__less)
  have G__at_most := (ok__at_most (P := l.prog) (w := w) (mg := mg) (base := base) D__at_most)
  have G__div := (ok__div (P := l.prog) (w := w) (mg := mg) (base := base) D__div)
  have G__mod := (ok__mod (P := l.prog) (w := w) (mg := mg) (base := base) D__mod)
  have G_apply := (ok_apply (P := l.prog) (w := w) (mg := mg) (base := base) (cA := fun i => ([k_IrRun, f__plus, f__minus, f__times, f__both, f__either, f__apart, f__left, f__right, f__equal, f__less, f__at_most, f__div, f__mod] : List Addr).getD i 0) D_apply D__plus D__minus D__times D__both D__either D__apart D__left D__right D__equal D__less D__at_most D__div D__mod G__plus G__minus G__times G__both G__either G__apart G__left G__right G__equal G__less G__at_most G__div G__mod g_ACTIONS rfl rfl rfl rfl rfl rfl rfl rfl rfl rfl rfl rfl rfl)
  have G__law_done := (ok__law_done (P := l.prog) (w := w) (mg := mg) (base := base) (cA := fun i => ([k_IrRun, f__plus, f__minus, f__times, f__both, f__either, f__apart, f__left, f__right, f__equal, f__less, f__at_most, f__div, f__mod] : List Addr).getD i 0) D__law_done D_apply G_apply (PySem.W.mg_none_of X G z_int) (PySem.W.mg_none_of X G z_len))
  have G_size_of := (ok_size_of (P := l.prog) (w := w) (mg := mg) (base := base) D_size_of)
  have G__law_run := (ok__law_run (P := l.prog) (w := w) (mg := mg) (base := base) (cA := fun i => ([k_IrRun, f__plus, f__minus, f__times, f__both, f__either, f__apart, f__left, f__right, f__equal, f__less, f__at_most, f__div, f__mod] : List Addr).getD i 0) D__law_run D_size_of D__law_done G_size_of G__law_done (PySem.W.mg_none_of X G z_range) (PySem.W.mg_none_of X G z_len) (PySem.W.mg_none_of X G z_list) (PySem.W.mg_none_of X G z_tuple) (PySem.W.mg_none_of X G z_int))
  have G__law_draws := (ok__law_draws (P := l.prog) (w := w) (mg := mg) (base := base) D__law_draws (PySem.W.mg_none_of X G z_range) (PySem.W.mg_none_of X G z_len) (PySem.W.mg_none_of X G z_abs) (PySem.W.mg_none_of X G z_int))
  have G_parts_like := (ok_parts_like (P := l.prog) (w := w) (mg := mg) (base := base) D_parts_like g_FORMS (PySem.W.mg_none_of X G z_tuple) (PySem.W.mg_none_of X G z_zip))
  have G_registers_of := (ok_registers_of (P := l.prog) (w := w) (mg := mg) (base := base) D_registers_of D_parts_like G_parts_like)
  have G_named_registers := (ok_named_registers (P := l.prog) (w := w) (mg := mg) (base := base) D_named_registers D_registers_of G_registers_of (PySem.W.mg_none_of X G z_range))
  have G_register_count := (ok_register_count (P := l.prog) (w := w) (mg := mg) (base := base) D_register_count D_named_registers G_named_registers (PySem.W.mg_none_of X G z_max) (PySem.W.mg_none_of X G z_list))
  have G_IrRun_m___init__ := (ok_IrRun_m___init__ (P := l.prog) (w := w) (mg := mg) (base := base) (cA := fun i => ([k_IrRun, f__plus, f__minus, f__times, f__both, f__either, f__apart, f__left, f__right, f__equal, f__less, f__at_most, f__div, f__mod] : List Addr).getD i 0) D_IrRun_m___init__ D_register_count D_size_of G_register_count G_size_of (PySem.W.mg_none_of X G z_list) (PySem.W.mg_none_of X G z_len) (PySem.W.mg_none_of X G z_zip) fo_arrays fo_registers fo_cells fo_masks fo_outs)
  have G_IrRun_m_do_rows := (ok_IrRun_m_do_rows (P := l.prog) (w := w) (mg := mg) (base := base) (cA := fun i => ([k_IrRun, f__plus, f__minus, f__times, f__both, f__either, f__apart, f__left, f__right, f__equal, f__less, f__at_most, f__div, f__mod] : List Addr).getD i 0) D_IrRun_m_do_rows D__plus D__minus D__times D__both D__either D__apart D__left D__right D__equal D__less D__at_most D__div D__mod G__plus G__minus G__times G__both G__either G__apart G__left G__right G__equal G__less G__at_most G__div G__mod g_ACTIONS fo_registers fo_cells fo_masks fo_outs rfl rfl rfl rfl rfl rfl rfl rfl rfl rfl rfl rfl rfl)
  have G_IrRun_m_way := (ok_IrRun_m_way (P := l.prog) (w := w) (mg := mg) (base := base) (cA := fun i => ([k_IrRun, f__plus, f__minus, f__times, f__both, f__either, f__apart, f__left, f__right, f__equal, f__less, f__at_most, f__div, f__mod] : List Addr).getD i 0) D_IrRun_m_way fo_registers)
  have G_IrRun_m_contents := (ok_IrRun_m_contents (P := l.prog) (w := w) (mg := mg) (base := base) (cA := fun i => ([k_IrRun, f__plus, f__minus, f__times, f__both, f__either, f__apart, f__left, f__right, f__equal, f__less, f__at_most, f__div, f__mod] : List Addr).getD i 0) D_IrRun_m_contents (PySem.W.mg_none_of X G z_tuple) (PySem.W.mg_none_of X G z_zip) fo_cells fo_arrays)
  have G_run_ir := (ok_run_ir (P := l.prog) (w := w) (mg := mg) (base := base) (cA := fun i => ([k_IrRun, f__plus, f__minus, f__times, f__both, f__either, f__apart, f__left, f__right, f__equal, f__less, f__at_most, f__div, f__mod] : List Addr).getD i 0) D_run_ir D_IrRun_m___init__ D_IrRun_m_do_rows D_IrRun_m_contents D_IrRun_m_way G_IrRun_m___init__ G_IrRun_m_do_rows G_IrRun_m_contents G_IrRun_m_way (PySem.W.mg_none_of X G z_len) (PySem.W.mg_none_of X G z_tuple) N_IrRun M_IrRun X_IrRun_do_rows X_IrRun_contents X_IrRun_way fo_registers fo_outs)
  have G__law_word := (ok__law_word (P := l.prog) (w := w) (mg := mg) (base := base) D__law_word D__law_next G__law_next)
  have G_law := (ok_law (P := l.prog) (w := w) (mg := mg) (base := base) (cA := fun i => ([k_IrRun, f__plus, f__minus, f__times, f__both, f__either, f__apart, f__left, f__right, f__equal, f__less, f__at_most, f__div, f__mod] : List Addr).getD i 0) D_law D__law_draws D__law_program D__law_word D__law_next D__law_run D_run_ir G__law_draws G__law_program G__law_word G__law_next G__law_run G_run_ir (PySem.W.mg_none_of X G z_tuple) (PySem.W.mg_none_of X G z_range))
  exact G_law.imp fun vs H Q E h => h _ (dst_of u_dst (by simp))
def fd__law_next : He.FnD := ⟨("_law_next", none), "_law_next", "_law_next", defArgs s__law_next, defBody s__law_next, defScope s__law_next⟩
def fd__law_row : He.FnD := ⟨("_law_row", none), "_law_row", "_law_row", defArgs s__law_row, defBody s__law_row, defScope s__law_row⟩
def fd__law_program : He.FnD := ⟨("_law_program", none), "_law_program", "_law_program", defArgs s__law_program, defBody s__law_program, defScope s__law_program⟩
def fd__plus : He.FnD := ⟨("_plus", none), "_plus", "_plus", defArgs s__plus, defBody s__plus, defScope s__plus⟩
def fd__minus : He.FnD := ⟨("_minus", none), "_minus", "_minus", defArgs s__minus, defBody s__minus, defScope s__minus⟩
def fd__times : He.FnD := ⟨("_times", none), "_times", "_times", defArgs s__times, defBody s__times, defScope s__times⟩
def fd__both : He.FnD := ⟨("_both", none), "_both", "_both", defArgs s__both, defBody s__both, defScope s__both⟩
def fd__either : He.FnD := ⟨("_either", none), "_either", "_either", defArgs s__either, defBody s__either, defScope s__either⟩
def fd__apart : He.FnD := ⟨("_apart", none), "_apart", "_apart", defArgs s__apart, defBody s__apart, defScope s__apart⟩
def fd__left : He.FnD := ⟨("_left", none), "_left", "_left", defArgs s__left, defBody s__left, defScope s__left⟩
def fd__right : He.FnD := ⟨("_right", none), "_right", "_right", defArgs s__right, defBody s__right, defScope s__right⟩
def fd__equal : He.FnD := ⟨("_equal", none), "_equal", "_equal", defArgs s__equal, defBody s__equal, defScope s__equal⟩
def fd__less : He.FnD := ⟨("_less", none), "_less", "_less", defArgs s__less, defBody s__less, defScope s__less⟩
def fd__at_most : He.FnD := ⟨("_at_most", none), "_at_most", "_at_most", defArgs s__at_most, defBody s__at_most, defScope s__at_most⟩
def fd__div : He.FnD := ⟨("_div", none), "_div", "_div", defArgs s__div, defBody s__div, defScope s__div⟩
def fd__mod : He.FnD := ⟨("_mod", none), "_mod", "_mod", defArgs s__mod, defBody s__mod, defScope s__mod⟩
def fd_apply : He.FnD := ⟨("apply", none), "apply", "apply", defArgs s_apply, defBody s_apply, defScope s_apply⟩
def fd__law_done : He.FnD := ⟨("_law_done", none), "_law_done", "_law_done", defArgs s__law_done, defBody s__law_done, defScope s__law_done⟩
def fd_size_of : He.FnD := ⟨("size_of", none), "size_of", "size_of", defArgs s_size_of, defBody s_size_of, defScope s_size_of⟩
def fd__law_run : He.FnD := ⟨("_law_run", none), "_law_run", "_law_run", defArgs s__law_run, defBody s__law_run, defScope s__law_run⟩
def fd__law_draws : He.FnD := ⟨("_law_draws", none), "_law_draws", "_law_draws", defArgs s__law_draws, defBody s__law_draws, defScope s__law_draws⟩
def fd_parts_like : He.FnD := ⟨("parts_like", none), "parts_like", "parts_like", defArgs s_parts_like, defBody s_parts_like, defScope s_parts_like⟩
def fd_registers_of : He.FnD := ⟨("registers_of", none), "registers_of", "registers_of", defArgs s_registers_of, defBody s_registers_of, defScope s_registers_of⟩
def fd_named_registers : He.FnD := ⟨("named_registers", none), "named_registers", "named_registers", defArgs s_named_registers, defBody s_named_registers, defScope s_named_registers⟩
def fd_register_count : He.FnD := ⟨("register_count", none), "register_count", "register_count", defArgs s_register_count, defBody s_register_count, defScope s_register_count⟩
def fd_IrRun_m___init__ : He.FnD := ⟨("IrRun", some "__init__"), "__init__", "IrRun.__init__", defArgs s_IrRun_m___init__, defBody s_IrRun_m___init__, defScope s_IrRun_m___init__⟩
def fd_IrRun_m_do_rows : He.FnD := ⟨("IrRun", some "do_rows"), "do_rows", "IrRun.do_rows", defArgs s_IrRun_m_do_rows, defBody s_IrRun_m_do_rows, defScope s_IrRun_m_do_rows⟩
def fd_IrRun_m_way : He.FnD := ⟨("IrRun", some "way"), "way", "IrRun.way", defArgs s_IrRun_m_way, defBody s_IrRun_m_way, defScope s_IrRun_m_way⟩
def fd_IrRun_m_contents : He.FnD := ⟨("IrRun", some "contents"), "contents", "IrRun.contents", defArgs s_IrRun_m_contents, defBody s_IrRun_m_contents, defScope s_IrRun_m_contents⟩
def fd_run_ir : He.FnD := ⟨("run_ir", none), "run_ir", "run_ir", defArgs s_run_ir, defBody s_run_ir, defScope s_run_ir⟩
def fd__law_word : He.FnD := ⟨("_law_word", none), "_law_word", "_law_word", defArgs s__law_word, defBody s__law_word, defScope s__law_word⟩
def fd_law : He.FnD := ⟨("law", none), "law", "law", defArgs s_law, defBody s_law, defScope s_law⟩
def ts_ACTIONS : He.Tab := (fun K => He.ga K "ACTIONS", ["+", "-", "*", "&", "|", "^", "<<", ">>", "==", "<", "<=", "div", "mod"])
def ts_FORMS : He.Tab := (fun K => He.ga K "FORMS", ["const", "copy", "op", "select", "load", "store", "out", "jump", "branch", "stop"])
def xo_GREATEST_WORD : (PySem.W.Frag → Option (List (Option V))) × List (Option V) := (fun K => oV K "GREATEST_WORD", [some (.int 4294967295)])
def xo_SHIFTS : (PySem.W.Frag → Option (List (Option V))) × List (Option V) := (fun K => oV K "SHIFTS", [some (.int 31)])
def xo_ad_FORMS_0 : (PySem.W.Frag → Option (List (Option V))) × List (Option V) := (fun K => oT K (dcAt K (He.ga K "FORMS") 0), [some (.str "write"), some (.str "word")])
def xo_ad_FORMS_1 : (PySem.W.Frag → Option (List (Option V))) × List (Option V) := (fun K => oT K (dcAt K (He.ga K "FORMS") 1), [some (.str "write"), some (.str "read")])
def xo_ad_FORMS_2 : (PySem.W.Frag → Option (List (Option V))) × List (Option V) := (fun K => oT K (dcAt K (He.ga K "FORMS") 2), [some (.str "sign"), some (.str "write"), some (.str "read"), some (.str "read")])
def xo_ad_FORMS_3 : (PySem.W.Frag → Option (List (Option V))) × List (Option V) := (fun K => oT K (dcAt K (He.ga K "FORMS") 3), [some (.str "write"), some (.str "read"), some (.str "read"), some (.str "read")])
def xo_ad_FORMS_4 : (PySem.W.Frag → Option (List (Option V))) × List (Option V) := (fun K => oT K (dcAt K (He.ga K "FORMS") 4), [some (.str "write"), some (.str "array"), some (.str "read")])
def xo_ad_FORMS_5 : (PySem.W.Frag → Option (List (Option V))) × List (Option V) := (fun K => oT K (dcAt K (He.ga K "FORMS") 5), [some (.str "array"), some (.str "read"), some (.str "read")])
def xo_ad_FORMS_6 : (PySem.W.Frag → Option (List (Option V))) × List (Option V) := (fun K => oT K (dcAt K (He.ga K "FORMS") 6), [some (.str "read")])
def xo_ad_FORMS_7 : (PySem.W.Frag → Option (List (Option V))) × List (Option V) := (fun K => oT K (dcAt K (He.ga K "FORMS") 7), [some (.str "block")])
def xo_ad_FORMS_8 : (PySem.W.Frag → Option (List (Option V))) × List (Option V) := (fun K => oT K (dcAt K (He.ga K "FORMS") 8), [some (.str "read"), some (.str "block"), some (.str "block")])
def xo_ad_FORMS_9 : (PySem.W.Frag → Option (List (Option V))) × List (Option V) := (fun K => oT K (dcAt K (He.ga K "FORMS") 9), [some (.str "read")])
def xb_vACTIONS : PySem.W.Frag → Bool := fun K => eqVs (dcVs K (He.ga K "ACTIONS")) [.ref (He.ga K "_plus"), .ref (He.ga K "_minus"), .ref (He.ga K "_times"), .ref (He.ga K "_both"), .ref (He.ga K "_either"), .ref (He.ga K "_apart"), .ref (He.ga K "_left"), .ref (He.ga K "_right"), .ref (He.ga K "_equal"), .ref (He.ga K "_less"), .ref (He.ga K "_at_most"), .ref (He.ga K "_div"), .ref (He.ga K "_mod")]
def xb_vFORMS : PySem.W.Frag → Bool := fun K => eqVs (dcVs K (He.ga K "FORMS")) [.ref (dcAt K (He.ga K "FORMS") 0), .ref (dcAt K (He.ga K "FORMS") 1), .ref (dcAt K (He.ga K "FORMS") 2), .ref (dcAt K (He.ga K "FORMS") 3), .ref (dcAt K (He.ga K "FORMS") 4), .ref (dcAt K (He.ga K "FORMS") 5), .ref (dcAt K (He.ga K "FORMS") 6), .ref (dcAt K (He.ga K "FORMS") 7), .ref (dcAt K (He.ga K "FORMS") 8), .ref (dcAt K (He.ga K "FORMS") 9)]
def xb_u_dst : PySem.W.Frag → Bool := fun K => decide (([(He.ga K "IrRun"), (He.ga K "_plus"), (He.ga K "_minus"), (He.ga K "_times"), (He.ga K "_both"), (He.ga K "_either"), (He.ga K "_apart"), (He.ga K "_left"), (He.ga K "_right"), (He.ga K "_equal"), (He.ga K "_less"), (He.ga K "_at_most"), (He.ga K "_div"), (He.ga K "_mod")] : List Addr).drop 1 |>.take (14 - 1)).Nodup
def kFa_0 : List He.Fa := [.glo "IrRun", .cls "IrRun", .glo "_law_next", .keep "_law_next", .glo "_law_row", .keep "_law_row", .glo "_law_program", .keep "_law_program", .glo "_plus", .keep "_plus", .glo "_minus", .keep "_minus", .glo "_times", .keep "_times", .glo "_both", .keep "_both", .glo "_either", .keep "_either", .glo "_apart", .keep "_apart"]
def kFa_1 : List He.Fa := [.glo "_left", .keep "_left", .glo "_right", .keep "_right", .glo "_equal", .keep "_equal", .glo "_less", .keep "_less", .glo "_at_most", .keep "_at_most", .glo "_div", .keep "_div", .glo "_mod", .keep "_mod", .glo "apply", .keep "apply", .glo "_law_done", .keep "_law_done", .glo "size_of", .keep "size_of"]
def kFa_2 : List He.Fa := [.glo "_law_run", .keep "_law_run", .glo "_law_draws", .keep "_law_draws", .glo "parts_like", .keep "parts_like", .glo "registers_of", .keep "registers_of", .glo "named_registers", .keep "named_registers", .glo "register_count", .keep "register_count", .meth "IrRun" "__init__", .meth "IrRun" "do_rows", .meth "IrRun" "way", .meth "IrRun" "contents", .glo "run_ir", .keep "run_ir", .glo "_law_word", .keep "_law_word"]
def kFa_3 : List He.Fa := [.glo "law", .keep "law", .noat "IrRun" "arrays", .noat "IrRun" "registers", .noat "IrRun" "cells", .noat "IrRun" "masks", .noat "IrRun" "outs", .mkr "IrRun", .glo "ACTIONS", .glo "FORMS", .free "len", .free "int", .free "tuple", .free "range", .free "str", .free "list", .free "abs", .free "zip", .free "max"]
def kFa : List He.Fa := kFa_0 ++ kFa_1 ++ kFa_2 ++ kFa_3
def kFn_0 : List He.FnD := [fd__law_next, fd__law_row, fd__law_program, fd__plus, fd__minus, fd__times, fd__both, fd__either, fd__apart, fd__left, fd__right, fd__equal, fd__less, fd__at_most, fd__div, fd__mod, fd_apply, fd__law_done, fd_size_of, fd__law_run]
def kFn_1 : List He.FnD := [fd__law_draws, fd_parts_like, fd_registers_of, fd_named_registers, fd_register_count, fd_IrRun_m___init__, fd_IrRun_m_do_rows, fd_IrRun_m_way, fd_IrRun_m_contents, fd_run_ir, fd__law_word, fd_law]
def kFn : List He.FnD := kFn_0 ++ kFn_1
def kTs : List He.Tab := [ts_ACTIONS, ts_FORMS]
def kXo : List ((PySem.W.Frag → Option (List (Option V))) × List (Option V)) := [xo_GREATEST_WORD, xo_SHIFTS, xo_ad_FORMS_0, xo_ad_FORMS_1, xo_ad_FORMS_2, xo_ad_FORMS_3, xo_ad_FORMS_4, xo_ad_FORMS_5, xo_ad_FORMS_6, xo_ad_FORMS_7, xo_ad_FORMS_8, xo_ad_FORMS_9]
def kXb : List (PySem.W.Frag → Bool) := [xb_vACTIONS, xb_vFORMS, xb_u_dst]
def kNames_0 : List Str := ["FORMS", "parts_like", "registers_of", "named_registers", "register_count", "GREATEST_WORD", "SHIFTS", "_plus", "_minus", "_times", "_both", "_either", "_apart", "_left", "_right", "_equal", "_less", "_at_most", "_div", "_mod"]
def kNames_1 : List Str := ["ACTIONS", "apply", "size_of", "run_ir", "IrRun", "_law_draws", "_law_next", "_law_row", "_law_program", "_law_word", "_law_done", "_law_run"]
def kNames : List Str := kNames_0 ++ kNames_1
def kL : Lk := ⟨kFa, kFn, kTs, kXo, kXb⟩
abbrev kR : PySem.W.OpenRow := PySem.W.OpenLaw.row PySem.Challenge.rw_sameclock_k61_programs_run_row_by_row
abbrev kQ : Program := PySem.W.view kR.prog [35]
set_option maxHeartbeats 0
theorem k_falseA (w : World) : RunA kR kQ kL 20000 kNames (w.withFollow "special-get-raises" false) := by
  intro os
  kernel_rfl
theorem k_falseB (w : World) : RunB kR kL 20000 (w.withFollow "special-get-raises" false) := by
  intro os
  kernel_rfl
theorem k_trueA (w : World) : RunA kR kQ kL 20000 kNames (w.withFollow "special-get-raises" true) := by
  intro os
  kernel_rfl
theorem k_trueB (w : World) : RunB kR kL 20000 (w.withFollow "special-get-raises" true) := by
  intro os
  kernel_rfl
theorem k_run (w : World) : HandSHeadRun.RunEq kR kQ (hookL kL) (fun s => (obA kL s, obB kL s)) 20000 kNames w := PySem.W.byRow2 "special-get-raises" (fun w => run_ab (k_falseA w) (k_falseB w)) (fun w => run_ab (k_trueA w) (k_trueB w)) w
theorem k_facts {l : PySem.W.OpenLaw} {w : World} {K : PySem.W.Frag} {h : Heap} {mg : Str → Option Value} {fa : Addr} (X : K.In h) (G : h.Ns mainGlobals mg) (hfa : mg "law" = some (.ref fa)) (c : SaysL kL w K) :
    ∃ fd : FuncData, (∀ (s : Shared) (v : Value), BindsTo s fd ⟨[v], []⟩ [("script", v)]) ∧ ∀ base : Heap, K.In base → base.Ns mainGlobals mg → FnOk l.prog w K mg base (L2.CX l.prog w) 8 fa fd ["script"] (spY K 1 14 1 (fun cA => m_law cA)) := by
  obtain ⟨oc__law_next, od__law_next, sl__law_next, kV__law_next, dc__law_next, pm__law_next, an__law_next, cd__law_next, ct__law_next, l__law_next, c__law_next⟩ := c.def_ 0 (d := fd__law_next)
  obtain ⟨oc__law_row, od__law_row, sl__law_row, kV__law_row, dc__law_row, pm__law_row, an__law_row, cd__law_row, ct__law_row, l__law_row, c__law_row⟩ := c.def_ 1 (d := fd__law_row)
  obtain ⟨oc__law_program, od__law_program, sl__law_program, kV__law_program, dc__law_program, pm__law_program, an__law_program, cd__law_program, ct__law_program, l__law_program, c__law_program⟩ := c.def_ 2 (d := fd__law_program)
  obtain ⟨oc__plus, od__plus, sl__plus, kV__plus, dc__plus, pm__plus, an__plus, cd__plus, ct__plus, l__plus, c__plus⟩ := c.def_ 3 (d := fd__plus)
  obtain ⟨oc__minus, od__minus, sl__minus, kV__minus, dc__minus, pm__minus, an__minus, cd__minus, ct__minus, l__minus, c__minus⟩ := c.def_ 4 (d := fd__minus)
  obtain ⟨oc__times, od__times, sl__times, kV__times, dc__times, pm__times, an__times, cd__times, ct__times, l__times, c__times⟩ := c.def_ 5 (d := fd__times)
  obtain ⟨oc__both, od__both, sl__both, kV__both, dc__both, pm__both, an__both, cd__both, ct__both, l__both, c__both⟩ := c.def_ 6 (d := fd__both)
  obtain ⟨oc__either, od__either, sl__either, kV__either, dc__either, pm__either, an__either, cd__either, ct__either, l__either, c__either⟩ := c.def_ 7 (d := fd__either)
  obtain ⟨oc__apart, od__apart, sl__apart, kV__apart, dc__apart, pm__apart, an__apart, cd__apart, ct__apart, l__apart, c__apart⟩ := c.def_ 8 (d := fd__apart)
  obtain ⟨oc__left, od__left, sl__left, kV__left, dc__left, pm__left, an__left, cd__left, ct__left, l__left, c__left⟩ := c.def_ 9 (d := fd__left)
  obtain ⟨oc__right, od__right, sl__right, kV__right, dc__right, pm__right, an__right, cd__right, ct__right, l__right, c__right⟩ := c.def_ 10 (d := fd__right)
  obtain ⟨oc__equal, od__equal, sl__equal, kV__equal, dc__equal, pm__equal, an__equal, cd__equal, ct__equal, l__equal, c__equal⟩ := c.def_ 11 (d := fd__equal)
  obtain ⟨oc__less, od__less, sl__less, kV__less, dc__less, pm__less, an__less, cd__less, ct__less, l__less, c__less⟩ := c.def_ 12 (d := fd__less)
  obtain ⟨oc__at_most, od__at_most, sl__at_most, kV__at_most, dc__at_most, pm__at_most, an__at_most, cd__at_most, ct__at_most, l__at_most, c__at_most⟩ := c.def_ 13 (d := fd__at_most)
  obtain ⟨oc__div, od__div, sl__div, kV__div, dc__div, pm__div, an__div, cd__div, ct__div, l__div, c__div⟩ := c.def_ 14 (d := fd__div)
  obtain ⟨oc__mod, od__mod, sl__mod, kV__mod, dc__mod, pm__mod, an__mod, cd__mod, ct__mod, l__mod, c__mod⟩ := c.def_ 15 (d := fd__mod)
  obtain ⟨oc_apply, od_apply, sl_apply, kV_apply, dc_apply, pm_apply, an_apply, cd_apply, ct_apply, l_apply, c_apply⟩ := c.def_ 16 (d := fd_apply)
  obtain ⟨oc__law_done, od__law_done, sl__law_done, kV__law_done, dc__law_done, pm__law_done, an__law_done, cd__law_done, ct__law_done, l__law_done, c__law_done⟩ := c.def_ 17 (d := fd__law_done)
  obtain ⟨oc_size_of, od_size_of, sl_size_of, kV_size_of, dc_size_of, pm_size_of, an_size_of, cd_size_of, ct_size_of, l_size_of, c_size_of⟩ := c.def_ 18 (d := fd_size_of)
  obtain ⟨oc__law_run, od__law_run, sl__law_run, kV__law_run, dc__law_run, pm__law_run, an__law_run, cd__law_run, ct__law_run, l__law_run, c__law_run⟩ := c.def_ 19 (d := fd__law_run)
  obtain ⟨oc__law_draws, od__law_draws, sl__law_draws, kV__law_draws, dc__law_draws, pm__law_draws, an__law_draws, cd__law_draws, ct__law_draws, l__law_draws, c__law_draws⟩ := c.def_ 20 (d := fd__law_draws)
  obtain ⟨oc_parts_like, od_parts_like, sl_parts_like, kV_parts_like, dc_parts_like, pm_parts_like, an_parts_like, cd_parts_like, ct_parts_like, l_parts_like, c_parts_like⟩ := c.def_ 21 (d := fd_parts_like)
  obtain ⟨oc_registers_of, od_registers_of, sl_registers_of, kV_registers_of, dc_registers_of, pm_registers_of, an_registers_of, cd_registers_of, ct_registers_of, l_registers_of, c_registers_of⟩ := c.def_ 22 (d := fd_registers_of)
  obtain ⟨oc_named_registers, od_named_registers, sl_named_registers, kV_named_registers, dc_named_registers, pm_named_registers, an_named_registers, cd_named_registers, ct_named_registers, l_named_registers, c_named_registers⟩ := c.def_ 23 (d := fd_named_registers)
  obtain ⟨oc_register_count, od_register_count, sl_register_count, kV_register_count, dc_register_count, pm_register_count, an_register_count, cd_register_count, ct_register_count, l_register_count, c_register_count⟩ := c.def_ 24 (d := fd_register_count)
  obtain ⟨oc_IrRun_m___init__, od_IrRun_m___init__, sl_IrRun_m___init__, kV_IrRun_m___init__, dc_IrRun_m___init__, pm_IrRun_m___init__, an_IrRun_m___init__, cd_IrRun_m___init__, ct_IrRun_m___init__, l_IrRun_m___init__, c_IrRun_m___init__⟩ := c.def_ 25 (d := fd_IrRun_m___init__)
  obtain ⟨oc_IrRun_m_do_rows, od_IrRun_m_do_rows, sl_IrRun_m_do_rows, kV_IrRun_m_do_rows, dc_IrRun_m_do_rows, pm_IrRun_m_do_rows, an_IrRun_m_do_rows, cd_IrRun_m_do_rows, ct_IrRun_m_do_rows, l_IrRun_m_do_rows, c_IrRun_m_do_rows⟩ := c.def_ 26 (d := fd_IrRun_m_do_rows)
  obtain ⟨oc_IrRun_m_way, od_IrRun_m_way, sl_IrRun_m_way, kV_IrRun_m_way, dc_IrRun_m_way, pm_IrRun_m_way, an_IrRun_m_way, cd_IrRun_m_way, ct_IrRun_m_way, l_IrRun_m_way, c_IrRun_m_way⟩ := c.def_ 27 (d := fd_IrRun_m_way)
  obtain ⟨oc_IrRun_m_contents, od_IrRun_m_contents, sl_IrRun_m_contents, kV_IrRun_m_contents, dc_IrRun_m_contents, pm_IrRun_m_contents, an_IrRun_m_contents, cd_IrRun_m_contents, ct_IrRun_m_contents, l_IrRun_m_contents, c_IrRun_m_contents⟩ := c.def_ 28 (d := fd_IrRun_m_contents)
  obtain ⟨oc_run_ir, od_run_ir, sl_run_ir, kV_run_ir, dc_run_ir, pm_run_ir, an_run_ir, cd_run_ir, ct_run_ir, l_run_ir, c_run_ir⟩ := c.def_ 29 (d := fd_run_ir)
  obtain ⟨oc__law_word, od__law_word, sl__law_word, kV__law_word, dc__law_word, pm__law_word, an__law_word, cd__law_word, ct__law_word, l__law_word, c__law_word⟩ := c.def_ 30 (d := fd__law_word)
  obtain ⟨oc_law, od_law, sl_law, kV_law, dc_law, pm_law, an_law, cd_law, ct_law, l_law, c_law⟩ := c.def_ 31 (d := fd_law)
  obtain ⟨u_GREATEST_WORD, a_GREATEST_WORD, t_GREATEST_WORD⟩ := oV_ok (show oV K "GREATEST_WORD" = some [some (.int 4294967295)] from c.val 0 (t := xo_GREATEST_WORD))
  obtain ⟨u_SHIFTS, a_SHIFTS, t_SHIFTS⟩ := oV_ok (show oV K "SHIFTS" = some [some (.int 31)] from c.val 1 (t := xo_SHIFTS))
  obtain ⟨es_ACTIONS, n_ACTIONS, l_ACTIONS, t_wACTIONS, t_kACTIONS, v_ACTIONS⟩ := dicW_look (c.tab 0 (t := ts_ACTIONS))
  obtain ⟨es_FORMS, n_FORMS, l_FORMS, t_wFORMS, t_kFORMS, v_FORMS⟩ := dicW_look (c.tab 1 (t := ts_FORMS))
  obtain ⟨oad_FORMS_0, iad_FORMS_0, nad_FORMS_0, sad_FORMS_0, l_ad_FORMS_0, t_ad_FORMS_0⟩ := oT_ok (show oT K (dcAt K (He.ga K "FORMS") 0) = some [some (.str "write"), some (.str "word")] from c.val 2 (t := xo_ad_FORMS_0))
  obtain ⟨oad_FORMS_1, iad_FORMS_1, nad_FORMS_1, sad_FORMS_1, l_ad_FORMS_1, t_ad_FORMS_1⟩ := oT_ok (show oT K (dcAt K (He.ga K "FORMS") 1) = some [some (.str "write"), some (.str "read")] from c.val 3 (t := xo_ad_FORMS_1))
  obtain ⟨oad_FORMS_2, iad_FORMS_2, nad_FORMS_2, sad_FORMS_2, l_ad_FORMS_2, t_ad_FORMS_2⟩ := oT_ok (show oT K (dcAt K (He.ga K "FORMS") 2) = some [some (.str "sign"), some (.str "write"), some (.str "read"), some (.str "read")] from c.val 4 (t := xo_ad_FORMS_2))
  obtain ⟨oad_FORMS_3, iad_FORMS_3, nad_FORMS_3, sad_FORMS_3, l_ad_FORMS_3, t_ad_FORMS_3⟩ := oT_ok (show oT K (dcAt K (He.ga K "FORMS") 3) = some [some (.str "write"), some (.str "read"), some (.str "read"), some (.str "read")] from c.val 5 (t := xo_ad_FORMS_3))
  obtain ⟨oad_FORMS_4, iad_FORMS_4, nad_FORMS_4, sad_FORMS_4, l_ad_FORMS_4, t_ad_FORMS_4⟩ := oT_ok (show oT K (dcAt K (He.ga K "FORMS") 4) = some [some (.str "write"), some (.str "array"), some (.str "read")] from c.val 6 (t := xo_ad_FORMS_4))
  obtain ⟨oad_FORMS_5, iad_FORMS_5, nad_FORMS_5, sad_FORMS_5, l_ad_FORMS_5, t_ad_FORMS_5⟩ := oT_ok (show oT K (dcAt K (He.ga K "FORMS") 5) = some [some (.str "array"), some (.str "read"), some (.str "read")] from c.val 7 (t := xo_ad_FORMS_5))
  obtain ⟨oad_FORMS_6, iad_FORMS_6, nad_FORMS_6, sad_FORMS_6, l_ad_FORMS_6, t_ad_FORMS_6⟩ := oT_ok (show oT K (dcAt K (He.ga K "FORMS") 6) = some [some (.str "read")] from c.val 8 (t := xo_ad_FORMS_6))
  obtain ⟨oad_FORMS_7, iad_FORMS_7, nad_FORMS_7, sad_FORMS_7, l_ad_FORMS_7, t_ad_FORMS_7⟩ := oT_ok (show oT K (dcAt K (He.ga K "FORMS") 7) = some [some (.str "block")] from c.val 9 (t := xo_ad_FORMS_7))
  obtain ⟨oad_FORMS_8, iad_FORMS_8, nad_FORMS_8, sad_FORMS_8, l_ad_FORMS_8, t_ad_FORMS_8⟩ := oT_ok (show oT K (dcAt K (He.ga K "FORMS") 8) = some [some (.str "read"), some (.str "block"), some (.str "block")] from c.val 10 (t := xo_ad_FORMS_8))
  obtain ⟨oad_FORMS_9, iad_FORMS_9, nad_FORMS_9, sad_FORMS_9, l_ad_FORMS_9, t_ad_FORMS_9⟩ := oT_ok (show oT K (dcAt K (He.ga K "FORMS") 9) = some [some (.str "read")] from c.val 11 (t := xo_ad_FORMS_9))
  exact all_mk (l := l) (w := w) X G hfa (He.eqO_ok (c.fact (.glo "IrRun") 0)) ((He.cls_ok (c.fact (.cls "IrRun") 1)).1) ((He.cls_ok (c.fact (.cls "IrRun") 1)).2) ((He.cls_ok (c.fact (.cls "IrRun") 1)).3) ((He.cls_ok (c.fact (.cls "IrRun") 1)).4) (He.eqO_ok (c.fact (.glo "_law_next") 2)) (l__law_next) (c__law_next) (He.keep_ok (c.fact (.keep "_law_next") 3)) (He.eqO_ok (c.fact (.glo "_law_row") 4)) (l__law_row) (c__law_row) (He.keep_ok (c.fact (.keep "_law_row") 5)) (He.eqO_ok (c.fact (.glo "_law_program") 6)) (l__law_program) (c__law_program) (He.keep_ok (c.fact (.keep "_law_program") 7)) (He.eqO_ok (c.fact (.glo "_plus") 8)) (l__plus) (c__plus) (He.keep_ok (c.fact (.keep "_plus") 9)) (He.eqO_ok (c.fact (.glo "_minus") 10)) (l__minus) (c__minus) (He.keep_ok (c.fact (.keep "_minus") 11)) (He.eqO_ok (c.fact (.glo "_times") 12)) (l__times) (c__times) (He.keep_ok (c.fact (.keep "_times") 13)) (He.eqO_ok (c.fact (.glo "_both") 14)) (l__both) (c__both) (He.keep_ok (c.fact (.keep "_both") 15)) (He.eqO_ok (c.fact (.glo "_either") 16)) (l__either) (c__either) (He.keep_ok (c.fact (.keep "_either") 17)) (He.eqO_ok (c.fact (.glo "_apart") 18)) (l__apart) (c__apart) (He.keep_ok (c.fact (.keep "_apart") 19)) (He.eqO_ok (c.fact (.glo "_left") 20)) (l__left) (c__left) (He.keep_ok (c.fact (.keep "_left") 21)) (He.eqO_ok (c.fact (.glo "_right") 22)) (l__right) (c__right) (He.keep_ok (c.fact (.keep "_right") 23)) (He.eqO_ok (c.fact (.glo "_equal") 24)) (l__equal) (c__equal) (He.keep_ok (c.fact (.keep "_equal") 25)) (He.eqO_ok (c.fact (.glo "_less") 26)) (l__less) (c__less) (He.keep_ok (c.fact (.keep "_less") 27)) (He.eqO_ok (c.fact (.glo "_at_most") 28)) (l__at_most) (c__at_most) (He.keep_ok (c.fact (.keep "_at_most") 29)) (He.eqO_ok (c.fact (.glo "_div") 30)) (l__div) (c__div) (He.keep_ok (c.fact (.keep "_div") 31)) (He.eqO_ok (c.fact (.glo "_mod") 32)) (l__mod) (c__mod) (He.keep_ok (c.fact (.keep "_mod") 33)) (He.eqO_ok (c.fact (.glo "apply") 34)) (l_apply) (c_apply) (He.keep_ok (c.fact (.keep "apply") 35)) (He.eqO_ok (c.fact (.glo "_law_done") 36)) (l__law_done) (c__law_done) (He.keep_ok (c.fact (.keep "_law_done") 37)) (He.eqO_ok (c.fact (.glo "size_of") 38)) (l_size_of) (c_size_of) (He.keep_ok (c.fact (.keep "size_of") 39)) (He.eqO_ok (c.fact (.glo "_law_run") 40)) (l__law_run) (c__law_run) (He.keep_ok (c.fact (.keep "_law_run") 41)) (He.eqO_ok (c.fact (.glo "_law_draws") 42)) (l__law_draws) (c__law_draws) (He.keep_ok (c.fact (.keep "_law_draws") 43)) (He.eqO_ok (c.fact (.glo "parts_like") 44)) (l_parts_like) (c_parts_like) (He.keep_ok (c.fact (.keep "parts_like") 45)) (He.eqO_ok (c.fact (.glo "registers_of") 46)) (l_registers_of) (c_registers_of) (He.keep_ok (c.fact (.keep "registers_of") 47)) (He.eqO_ok (c.fact (.glo "named_registers") 48)) (l_named_registers) (c_named_registers) (He.keep_ok (c.fact (.keep "named_registers") 49)) (He.eqO_ok (c.fact (.glo "register_count") 50)) (l_register_count) (c_register_count) (He.keep_ok (c.fact (.keep "register_count") 51)) ((He.meth_ok (c.fact (.meth "IrRun" "__init__") 52)).1) (l_IrRun_m___init__) (c_IrRun_m___init__) ((He.meth_ok (c.fact (.meth "IrRun" "__init__") 52)).3) ((He.meth_ok (c.fact (.meth "IrRun" "__init__") 52)).2) ((He.meth_ok (c.fact (.meth "IrRun" "do_rows") 53)).1) (l_IrRun_m_do_rows) (c_IrRun_m_do_rows) ((He.meth_ok (c.fact (.meth "IrRun" "do_rows") 53)).3) ((He.meth_ok (c.fact (.meth "IrRun" "do_rows") 53)).2) ((He.meth_ok (c.fact (.meth "IrRun" "way") 54)).1) (l_IrRun_m_way) (c_IrRun_m_way) ((He.meth_ok (c.fact (.meth "IrRun" "way") 54)).3) ((He.meth_ok (c.fact (.meth "IrRun" "way") 54)).2) ((He.meth_ok (c.fact (.meth "IrRun" "contents") 55)).1) (l_IrRun_m_contents) (c_IrRun_m_contents) ((He.meth_ok (c.fact (.meth "IrRun" "contents") 55)).3) ((He.meth_ok (c.fact (.meth "IrRun" "contents") 55)).2) (He.eqO_ok (c.fact (.glo "run_ir") 56)) (l_run_ir) (c_run_ir) (He.keep_ok (c.fact (.keep "run_ir") 57)) (He.eqO_ok (c.fact (.glo "_law_word") 58)) (l__law_word) (c__law_word) (He.keep_ok (c.fact (.keep "_law_word") 59)) (He.eqO_ok (c.fact (.glo "law") 60)) (l_law) (c_law) (He.keep_ok (c.fact (.keep "law") 61)) (He.eqO_ok (c.fact (.noat "IrRun" "arrays") 62)) (He.eqO_ok (c.fact (.noat "IrRun" "registers") 63)) (He.eqO_ok (c.fact (.noat "IrRun" "cells") 64)) (He.eqO_ok (c.fact (.noat "IrRun" "masks") 65)) (He.eqO_ok (c.fact (.noat "IrRun" "outs") 66)) ((He.mkr_ok (c.fact (.mkr "IrRun") 67)).1) ((He.mkr_ok (c.fact (.mkr "IrRun") 67)).2) ((He.mkr_ok (c.fact (.mkr "IrRun") 67)).4) ((He.meth_ok (c.fact (.meth "IrRun" "do_rows") 53)).1) ((He.meth_ok (c.fact (.meth "IrRun" "contents") 55)).1) ((He.meth_ok (c.fact (.meth "IrRun" "way") 54)).1) (a_GREATEST_WORD) (t_GREATEST_WORD) (a_SHIFTS) (t_SHIFTS) (He.eqO_ok (c.fact (.glo "ACTIONS") 68)) (l_ACTIONS) (t_wACTIONS) (t_kACTIONS) (v_ACTIONS.symm.trans (of_decide_eq_true (show (eqVs (dcVs K (He.ga K "ACTIONS")) [.ref (He.ga K "_plus"), .ref (He.ga K "_minus"), .ref (He.ga K "_times"), .ref (He.ga K "_both"), .ref (He.ga K "_either"), .ref (He.ga K "_apart"), .ref (He.ga K "_left"), .ref (He.ga K "_right"), .ref (He.ga K "_equal"), .ref (He.ga K "_less"), .ref (He.ga K "_at_most"), .ref (He.ga K "_div"), .ref (He.ga K "_mod")]) = true from c.chk 0 (f := xb_vACTIONS)))) (He.eqO_ok (c.fact (.glo "FORMS") 69)) (l_FORMS) (t_wFORMS) (t_kFORMS) (v_FORMS.symm.trans (of_decide_eq_true (show (eqVs (dcVs K (He.ga K "FORMS")) [.ref (dcAt K (He.ga K "FORMS") 0), .ref (dcAt K (He.ga K "FORMS") 1), .ref (dcAt K (He.ga K "FORMS") 2), .ref (dcAt K (He.ga K "FORMS") 3), .ref (dcAt K (He.ga K "FORMS") 4), .ref (dcAt K (He.ga K "FORMS") 5), .ref (dcAt K (He.ga K "FORMS") 6), .ref (dcAt K (He.ga K "FORMS") 7), .ref (dcAt K (He.ga K "FORMS") 8), .ref (dcAt K (He.ga K "FORMS") 9)]) = true from c.chk 1 (f := xb_vFORMS)))) (l_ad_FORMS_0) (t_ad_FORMS_0) (l_ad_FORMS_1) (t_ad_FORMS_1) (l_ad_FORMS_2) (t_ad_FORMS_2) (l_ad_FORMS_3) (t_ad_FORMS_3) (l_ad_FORMS_4) (t_ad_FORMS_4) (l_ad_FORMS_5) (t_ad_FORMS_5) (l_ad_FORMS_6) (t_ad_FORMS_6) (l_ad_FORMS_7) (t_ad_FORMS_7) (l_ad_FORMS_8) (t_ad_FORMS_8) (l_ad_FORMS_9) (t_ad_FORMS_9) (of_decide_eq_true (show (decide (([(He.ga K "IrRun"), (He.ga K "_plus"), (He.ga K "_minus"), (He.ga K "_times"), (He.ga K "_both"), (He.ga K "_either"), (He.ga K "_apart"), (He.ga K "_left"), (He.ga K "_right"), (He.ga K "_equal"), (He.ga K "_less"), (He.ga K "_at_most"), (He.ga K "_div"), (He.ga K "_mod")] : List Addr).drop 1 |>.take (14 - 1)).Nodup) = true from c.chk 2 (f := xb_u_dst))) (He.eqO_ok (c.fact (.free "len") 70)) (He.eqO_ok (c.fact (.free "int") 71)) (He.eqO_ok (c.fact (.free "tuple") 72)) (He.eqO_ok (c.fact (.free "range") 73)) (He.eqO_ok (c.fact (.free "str") 74)) (He.eqO_ok (c.fact (.free "list") 75)) (He.eqO_ok (c.fact (.free "abs") 76)) (He.eqO_ok (c.fact (.free "zip") 77)) (He.eqO_ok (c.fact (.free "max") 78))
end GK61
open PySem PySem.W
open PyProof.Rows hiding St
set_option maxHeartbeats 0 in
theorem PySem.Challenge.cw_sameclock_k61_programs_run_row_by_row_holds : PySem.Challenge.rw_sameclock_k61_programs_run_row_by_row.Holds := by
  w_on; o_law
  refine HandSHeadRun.head_any (r := GK61.kR) (q := GK61.kQ) (H := Ly.hookL GK61.kL) (ob := fun s => (Ly.obA GK61.kL s, Ly.obB GK61.kL s)) (M := 20000) (loose := GK61.kNames) (d := HandSHeadRun.topDef GK61.kR.prog 35) (kwd := []) Ly.obL_eq (by kernel_rfl) (fun s => by kernel_rfl) GK61.k_run (by kernel_rfl) (by kernel_rfl) (by kernel_rfl) (by rfl) (by first | assumption | decide +kernel) (by decide +kernel) ⟨rfl, rfl, rfl, rfl, rfl, by decide +kernel⟩ ?hw ?hc
  case hw => w_witness2
  case hc =>
    refine Ly.walk_ofL (l := PySem.Challenge.rw_sameclock_k61_programs_run_row_by_row) (n := 63) (k := 8) (x := "script") (CX := fun w => L2.CX (PySem.Challenge.rw_sameclock_k61_programs_run_row_by_row).prog w) rfl (by decide) (by kernel_rfl) ⟨rfl, by decide, by decide⟩ ?F (fun w H s e s' => Ly.law_noexc)
    intro w mg fa h Y G hmg0
    obtain ⟨K, KX, c⟩ := Y
    have hmg : mg ("law" : PySem.Str) = some (.ref fa) := by
      have e : (HandSHeadRun.topDef GK61.kR.prog 35).name = ("law" : PySem.Str) := by kernel_rfl
      rw [← e]
      exact hmg0
    obtain ⟨fd, hb, hF⟩ := GK61.k_facts (l := PySem.Challenge.rw_sameclock_k61_programs_run_row_by_row) (w := w) KX G hmg c
    exact ⟨K, fd, _, KX, hb, fun H a ns hl hb hO hS => Ly.law_endY (m := fun cA => GK61.m_law cA) GK61.law_true hl hb hO hS, hF⟩
