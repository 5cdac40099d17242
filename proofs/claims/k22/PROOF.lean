import PyProof.Rows.All
import Wide.All
import OpenK.AllK
import Wide.FinOn
import HandS.ForMost
import HandS.ForExc
import HandS.TupAny
import HandS.Wide
import HandS.Codes
import HandS.StrMore
import HandS.RaiseMore
import HandS.FStr
import HandS.More
import HandS.IsInst
import HandS.Style
import HandS.Deep
import HandS.Text
import HandS.TupLen
import HandS.Flow
import HandS.Iter
import HandS.Comp
import HandS.Exc
import HandS.CallSlots
import HandS.Words
import HandS.WordsExc
import HandS.Zip
import KE.GoesMore
import KE.GoesEnum
import KE.GoesZip
import HandS.Rev
import HandS.EndBits
import HandS.HeadHook3
import HandS.DictComp
import HandS.SetKeys
import HandS.Conv
import HandS.SortInts
import HandS.CallLocal
import PyProof.StrLawsIn
import HandS.WideBits
import HandS.TupMul
import KE.KDictZip
import KE.BitLaws
import KE.OsArith
import PySem.Challenge.RW_sameclock_k22_misses_turn_a_set_over
set_option Elab.async false
set_option linter.all false
set_option maxRecDepth 100000
namespace Ly
open PySem PySem.Spec L2
open PyProof.Rows hiding St
inductive D where
  | non | bl (b : Bool) | int (i : Int) | str (x : Str) | tup (xs : List D) | wt (xs : List D) | wl (xs : List D) | ref (i : Nat) | cst (a : Addr)
inductive O where
  | lst (xs : List D) | rol (xs : List D) | dic (kvs : List (Key × D)) | dit (kvs : List (List Key × D)) | ins (C : Addr) (fs : List (Str × D))
abbrev Hs := List O
abbrev Ls := List (Option D)
def Wt (K : PySem.W.Frag) (a : Addr) (xs : List V) : Prop :=
  ∃ (o : Obj) (its : Array Value) (n : Nat), K.lookup a = some o ∧ o.cls = .type "tuple" ∧ o.data = .seq its n ∧ its.size ≤ sizeLine ∧ Vals xs its.toList
def Wl (K : PySem.W.Frag) (a : Addr) (xs : List V) : Prop :=
  ∃ (o : Obj) (its : Array Value) (n : Nat), K.lookup a = some o ∧ o.cls = .type "list" ∧ o.dict = none ∧ o.data = .seq its n ∧ its.size ≤ sizeLine ∧ Vals xs its.toList
theorem Wl.sq {K : PySem.W.Frag} {H : Hp} {a : Addr} {xs : List V} (h : Wl K a xs) : SqL K H a xs := .inr h
theorem Wt.sq {K : PySem.W.Frag} {H : Hp} {a : Addr} {xs : List V} (h : Wt K a xs) : SqT K H a xs := .inr h
section
variable (K : PySem.W.Frag) (pi : Nat → Addr) (n : Nat) (H : Hp)
mutual
inductive Rep : D → V → Prop
  | non : Rep .non .non
  | bl (b : Bool) : Rep (.bl b) (.bl b)
  | int (i : Int) : Rep (.int i) (.int i)
  | str (x : Str) : Rep (.str x) (.str x)
  | tup {a : Addr} {ds : List D} {xs : List V} : H a = some (.tup xs) → Reps ds xs → Rep (.tup ds) (.ref a)
  | wt {a : Addr} {ds : List D} {xs : List V} : Wt K a xs → Reps ds xs → Rep (.wt ds) (.ref a)
  | wl {a : Addr} {ds : List D} {xs : List V} : Wl K a xs → Reps ds xs → Rep (.wl ds) (.ref a)
  | ref {i : Nat} : i < n → Rep (.ref i) (.ref (pi i))
  | cst (a : Addr) : Rep (.cst a) (.ref a)
inductive Reps : List D → List V → Prop
  | nil : Reps [] []
  | cons {d : D} {ds : List D} {v : V} {vs : List V} : Rep d v → Reps ds vs → Reps (d :: ds) (v :: vs)
end
inductive Sl : Ls → St → Prop
  | nil : Sl [] []
  | no {l : Ls} {s : St} (o : Option V) : Sl l s → Sl (none :: l) (o :: s)
  | yes {l : Ls} {s : St} {d : D} {v : V} : Rep K pi n H d v → Sl l s → Sl (some d :: l) (some v :: s)
def RO (a : Addr) : O → Prop
  | .lst ds => ∃ xs, H a = some (.lst xs) ∧ Reps K pi n H ds xs
  | .rol ds => ∃ o xs, H a = some (.frz o (.lst xs)) ∧ Reps K pi n H ds xs
  | .dic kvs => ∃ ks, H a = some (.dK ks) ∧ ks.map (·.1) = kvs.map (·.1) ∧ Reps K pi n H (kvs.map (·.2)) (ks.map (·.2))
  | .dit kvs => ∃ ks, H a = some (.dT ks) ∧ ks.map (·.1) = kvs.map (·.1) ∧ Reps K pi n H (kvs.map (·.2)) (ks.map (·.2))
  | .ins C fs => ∃ dx ks, H a = some (.ins C dx ks) ∧ ks.map (·.1) = fs.map (·.1) ∧ Reps K pi n H (fs.map (·.2)) (ks.map (·.2))
end
structure Real (K : PySem.W.Frag) (pi : Nat → Addr) (S : Hs) (H : Hp) : Prop where
  ob : ∀ i o, S[i]? = some o → RO K pi S.length H (pi i) o
  inj : ∀ i j, i < S.length → j < S.length → pi i = pi j → i = j
structure Ext (n m : Nat) (pi pi' : Nat → Addr) (H H' : Hp) : Prop where
  le : n ≤ m
  ag : ∀ i, i < n → pi' i = pi i
  tp : ∀ a xs, H a = some (.tup xs) → H' a = some (.tup xs)
theorem Ext.refl {n : Nat} {pi : Nat → Addr} {H : Hp} : Ext n n pi pi H H := ⟨Nat.le_refl _, fun _ _ => rfl, fun _ _ h => h⟩
theorem Ext.trans {n m k : Nat} {p q r : Nat → Addr} {H H1 H2 : Hp} (a : Ext n m p q H H1) (b : Ext m k q r H1 H2) : Ext n k p r H H2 :=
  ⟨Nat.le_trans a.le b.le, fun i h => (b.ag i (Nat.lt_of_lt_of_le h a.le)).trans (a.ag i h), fun x xs h => b.tp x xs (a.tp x xs h)⟩
section
variable {K : PySem.W.Frag} {pi pi' : Nat → Addr} {n m : Nat} {H H' : Hp}
mutual
theorem Rep.ext (x : Ext n m pi pi' H H') : ∀ (d : D) (v : V), Rep K pi n H d v → Rep K pi' m H' d v
  | .non, _, .non => .non
  | .bl _, _, .bl _ => .bl _
  | .int _, _, .int _ => .int _
  | .str _, _, .str _ => .str _
  | .tup ds, _, .tup t r => .tup (x.tp _ _ t) (Reps.ext x ds _ r)
  | .wt ds, _, .wt t r => .wt t (Reps.ext x ds _ r)
  | .wl ds, _, .wl t r => .wl t (Reps.ext x ds _ r)
  | .ref i, _, .ref h => by rw [← x.ag i h]; exact .ref (Nat.lt_of_lt_of_le h x.le)
  | .cst _, _, .cst _ => .cst _
theorem Reps.ext (x : Ext n m pi pi' H H') : ∀ (d : List D) (v : List V), Reps K pi n H d v → Reps K pi' m H' d v
  | [], _, .nil => .nil
  | d :: ds, _, .cons r s => .cons (Rep.ext x d _ r) (Reps.ext x ds _ s)
end
theorem Sl.ext (x : Ext n m pi pi' H H') {l : Ls} {s : St} (h : Sl K pi n H l s) : Sl K pi' m H' l s := by
  induction h with
  | nil => exact .nil
  | no o _ ih => exact .no o ih
  | yes r _ ih => exact .yes (r.ext x _ _) ih
theorem RO.ext (x : Ext n m pi pi' H H') {a : Addr} {o : O} (h : RO K pi n H a o) (e : H' a = H a) : RO K pi' m H' a o := by
  cases o with
  | lst ds => obtain ⟨xs, h1, h2⟩ := h; exact ⟨xs, e.trans h1, h2.ext x _ _⟩
  | rol ds => obtain ⟨o, xs, h1, h2⟩ := h; exact ⟨o, xs, e.trans h1, h2.ext x _ _⟩
  | dic kvs => obtain ⟨ks, h1, h2, h3⟩ := h; exact ⟨ks, e.trans h1, h2, h3.ext x _ _⟩
  | dit kvs => obtain ⟨ks, h1, h2, h3⟩ := h; exact ⟨ks, e.trans h1, h2, h3.ext x _ _⟩
  | ins C fs => obtain ⟨dx, ks, h1, h2, h3⟩ := h; exact ⟨dx, ks, e.trans h1, h2, h3.ext x _ _⟩
theorem RO.some {a : Addr} {o : O} (h : RO K pi n H a o) : ∃ u, H a = some u ∧ ∀ xs, u ≠ .tup xs := by
  cases o with
  | lst ds => obtain ⟨xs, h1, h2⟩ := h; exact ⟨_, h1, fun _ => nofun⟩
  | rol ds => obtain ⟨o, xs, h1, h2⟩ := h; exact ⟨_, h1, fun _ => nofun⟩
  | dic kvs => obtain ⟨ks, h1, h2, h3⟩ := h; exact ⟨_, h1, fun _ => nofun⟩
  | dit kvs => obtain ⟨ks, h1, h2, h3⟩ := h; exact ⟨_, h1, fun _ => nofun⟩
  | ins C fs => obtain ⟨dx, ks, h1, h2, h3⟩ := h; exact ⟨_, h1, fun _ => nofun⟩
theorem Reps.len {ds : List D} {vs : List V} (h : Reps K pi n H ds vs) : ds.length = vs.length := by
  induction ds generalizing vs with
  | nil => cases h; rfl
  | cons d ds ih => cases h with | cons r s => rw [List.length_cons, List.length_cons, ih s]
theorem Reps.append {ds es : List D} {vs us : List V} (h : Reps K pi n H ds vs) (g : Reps K pi n H es us) : Reps K pi n H (ds ++ es) (vs ++ us) := by
  induction ds generalizing vs with
  | nil => cases h; exact g
  | cons d ds ih => cases h with | cons r s => exact .cons r (ih s)
theorem Reps.get {ds : List D} {vs : List V} (h : Reps K pi n H ds vs) {i : Nat} {d : D} (e : ds[i]? = some d) : ∃ v, vs[i]? = some v ∧ Rep K pi n H d v := by
  induction ds generalizing vs i with
  | nil => simp at e
  | cons d ds ih =>
    cases h with
    | cons r s =>
      cases i with
      | zero => simp at e; subst e; exact ⟨_, rfl, r⟩
      | succ i => simpa using ih s (by simpa using e)
theorem Reps.take {ds : List D} {vs : List V} (h : Reps K pi n H ds vs) (i : Nat) : Reps K pi n H (ds.take i) (vs.take i) := by
  induction ds generalizing vs i with
  | nil => cases h; simp; exact .nil
  | cons d ds ih => cases h with | cons r s => cases i with | zero => exact .nil | succ i => exact .cons r (ih s i)
theorem Reps.drop {ds : List D} {vs : List V} (h : Reps K pi n H ds vs) (i : Nat) : Reps K pi n H (ds.drop i) (vs.drop i) := by
  induction ds generalizing vs i with
  | nil => cases h; simp; exact .nil
  | cons d ds ih => cases h with | cons r s => cases i with | zero => exact .cons r s | succ i => exact ih s i
theorem Reps.set {ds : List D} {vs : List V} (h : Reps K pi n H ds vs) (i : Nat) {d : D} {v : V} (r : Rep K pi n H d v) : Reps K pi n H (ds.set i d) (vs.set i v) := by
  induction ds generalizing vs i with
  | nil => cases h; exact .nil
  | cons d ds ih => cases h with | cons r s => cases i with | zero => exact .cons (by assumption) s | succ i => exact .cons r (ih s i)
theorem Sl.len {l : Ls} {s : St} (h : Sl K pi n H l s) : l.length = s.length := by
  induction h with
  | nil => rfl
  | no _ _ ih => simp [ih]
  | yes _ _ ih => simp [ih]
theorem Sl.get {l : Ls} {s : St} (h : Sl K pi n H l s) {i : Nat} {d : D} (e : l[i]? = some (some d)) : ∃ v, s[i]? = some (some v) ∧ Rep K pi n H d v := by
  induction h generalizing i with
  | nil => simp at e
  | no o _ ih =>
    cases i with
    | zero => simp at e
    | succ i => simpa using ih (by simpa using e)
  | yes r _ ih =>
    cases i with
    | zero => simp at e; subst e; exact ⟨_, rfl, r⟩
    | succ i => simpa using ih (by simpa using e)
theorem Sl.set {l : Ls} {s : St} (h : Sl K pi n H l s) (i : Nat) {d : D} {v : V} (r : Rep K pi n H d v) : Sl K pi n H (l.set i (some d)) (s.set i (some v)) := by
  induction h generalizing i with
  | nil => exact .nil
  | no o t ih => cases i with | zero => exact .yes r t | succ i => exact .no o (ih i)
  | yes q t ih => cases i with | zero => exact .yes r t | succ i => exact .yes q (ih i)
theorem Sl.skip {l : Ls} {s : St} (h : Sl K pi n H l s) (i : Nat) (o : Option V) : Sl K pi n H (l.set i none) (s.set i o) := by
  induction h generalizing i with
  | nil => exact .nil
  | no o t ih => cases i with | zero => exact .no _ t | succ i => exact .no _ (ih i)
  | yes q t ih => cases i with | zero => exact .no _ t | succ i => exact .yes q (ih i)
def piN (pi : Nat → Addr) (n : Nat) (p : Addr) : Nat → Addr := fun i => if i = n then p else pi i
theorem piN_same {p : Addr} : piN pi n p n = p := if_pos rfl
theorem piN_ne {p : Addr} {i : Nat} (h : i ≠ n) : piN pi n p i = pi i := if_neg h
theorem Real.at {S : Hs} (R : Real K pi S H) {i : Nat} (h : i < S.length) : ∃ u, H (pi i) = some u ∧ ∀ xs, u ≠ .tup xs := (R.ob i _ (List.getElem?_eq_getElem h)).some
theorem ext_new {S : Hs} {p : Addr} {u : HO} (hp : H p = none) : Ext S.length (S.length + 1) pi (piN pi S.length p) H (upd H p u) :=
  ⟨Nat.le_succ _, fun i h => piN_ne (Nat.ne_of_lt h), fun a xs h => by rw [upd_ne (ne_of_none h hp)]; exact h⟩
theorem Real.new {S : Hs} {p : Addr} {u : HO} {o : O} (R : Real K pi S H) (hp : H p = none) (h : RO K (piN pi S.length p) (S.length + 1) (upd H p u) p o) : Real K (piN pi S.length p) (S ++ [o]) (upd H p u) := by
  have hn : ∀ i, i < S.length → pi i ≠ p := fun i hi => by obtain ⟨u, e, _⟩ := R.at hi; exact ne_of_none e hp
  refine ⟨fun i o' e => ?_, fun i j hi hj e => ?_⟩
  · rw [List.length_append, List.length_singleton]
    by_cases hi : i < S.length
    · rw [List.getElem?_append_left hi] at e
      rw [piN_ne (Nat.ne_of_lt hi)]
      exact (R.ob i o' e).ext (ext_new hp) (upd_ne (hn i hi))
    · rw [List.getElem?_append_right (Nat.le_of_not_lt hi)] at e
      have : i = S.length := by
        have := (List.getElem?_eq_some_iff.mp e).1
        simp at this; omega
      subst this
      simp at e; subst e
      rw [piN_same]; exact h
  · simp at hi hj
    by_cases h1 : i = S.length <;> by_cases h2 : j = S.length
    · omega
    · subst h1; rw [piN_same, piN_ne h2] at e; exact absurd e.symm (hn j (by omega))
    · subst h2; rw [piN_same, piN_ne h1] at e; exact absurd e (hn i (by omega))
    · rw [piN_ne h1, piN_ne h2] at e; exact R.inj i j (by omega) (by omega) e
theorem ext_upd {a : Addr} {u : HO} (h : ∀ xs, H a ≠ some (.tup xs)) : Ext n n pi pi H (upd H a u) :=
  ⟨Nat.le_refl _, fun _ _ => rfl, fun b xs e => by
    by_cases hb : b = a
    · subst hb; exact absurd e (h xs)
    · rw [upd_ne hb]; exact e⟩
theorem Real.notup {S : Hs} (R : Real K pi S H) {i : Nat} (h : i < S.length) : ∀ xs, H (pi i) ≠ some (.tup xs) := fun xs e => by
  obtain ⟨u, e1, e2⟩ := R.at h
  rw [e] at e1; exact e2 xs (Option.some.inj e1).symm
theorem Real.put {S : Hs} {i : Nat} {u : HO} {o : O} (R : Real K pi S H) (hi : i < S.length) (h : RO K pi S.length (upd H (pi i) u) (pi i) o) : Real K pi (S.set i o) (upd H (pi i) u) := by
  refine ⟨fun j o' e => ?_, fun j k hj hk e => R.inj j k (by simpa using hj) (by simpa using hk) e⟩
  rw [List.length_set]
  by_cases hj : j = i
  · subst hj
    rw [List.getElem?_set_self hi] at e
    cases e; exact h
  · rw [List.getElem?_set_ne (Ne.symm hj)] at e
    have hl := (List.getElem?_eq_some_iff.mp e).1
    exact (R.ob j o' e).ext (ext_upd (R.notup hi)) (upd_ne fun z => hj (R.inj j i hl hi z))
end
inductive R (α : Type) where
  | ok (a : α) (S : Hs)
  | exc (c : V) (fs : Option (List (Str × D))) (l : Ls) (S : Hs)
  | bad
def R.bind {α β : Type} (r : R α) (k : α → Hs → R β) : R β :=
  match r with
  | .ok a S => k a S
  | .exc c fs l S => .exc c fs l S
  | .bad => .bad
@[simp] theorem R.bind_ok {α β : Type} (a : α) (S : Hs) (k : α → Hs → R β) : (R.ok a S).bind k = k a S := (show (R.ok a S).bind k = k a S from rfl).trans (Eq.refl _)
@[simp] theorem R.bind_exc {α β : Type} (c fs l S) (k : α → Hs → R β) : (R.exc c fs l S : R α).bind k = .exc c fs l S := (show (R.exc c fs l S : R α).bind k = .exc c fs l S from rfl).trans (Eq.refl _)
@[simp] theorem R.bind_bad {α β : Type} (k : α → Hs → R β) : (R.bad : R α).bind k = .bad := (show (R.bad : R α).bind k = .bad from rfl).trans (Eq.refl _)
def XFs (K : PySem.W.Frag) (pi : Nat → Addr) (n : Nat) (H : Hp) : Option Addr → Option (List (Str × D)) → Prop
  | none, none => True
  | some d, some fs => ∃ ks, H d = some (.xd ks) ∧ ks.map (·.1) = fs.map (·.1) ∧ Reps K pi n H (fs.map (·.2)) (ks.map (·.2))
  | _, _ => False
def Post {α : Type} (K : PySem.W.Frag) (E : St → XK) (n : Nat) (pi : Nat → Addr) (H : Hp) (r : R α) (Q : α → Hs → (Nat → Addr) → Hp → Prop) : Prop :=
  match r with
  | .ok a S => ∀ pi' H', Ext n S.length pi pi' H H' → Real K pi' S H' → Q a S pi' H'
  | .exc c fs l S => ∀ pi' H' u d s, Ext n S.length pi pi' H H' → Real K pi' S H' → RelV c u → XFs K pi' S.length H' d fs → Sl K pi' S.length H' l s → E s u d H'
  | .bad => False
section
variable {α β : Type} {K : PySem.W.Frag} {E : St → XK} {n m : Nat} {pi pi' : Nat → Addr} {H H' : Hp}
theorem Post.ext {r : R α} {Q : α → Hs → (Nat → Addr) → Hp → Prop} (h : Post K E n pi H r Q) (x : Ext n m pi pi' H H') : Post K E m pi' H' r Q := by
  cases r with
  | ok a S => exact fun p2 H2 y R => h p2 H2 (x.trans y) R
  | exc c fs l S => exact fun p2 H2 u d s y R r f => h p2 H2 u d s (x.trans y) R r f
  | bad => exact h
theorem Post.mono {r : R α} {Q Q' : α → Hs → (Nat → Addr) → Hp → Prop} (h : Post K E n pi H r Q)
    (w : ∀ a S p2 H2, r = .ok a S → Ext n S.length pi p2 H H2 → Real K p2 S H2 → Q a S p2 H2 → Q' a S p2 H2) : Post K E n pi H r Q' := by
  cases r with
  | ok a S => exact fun p2 H2 y R => w a S p2 H2 rfl y R (h p2 H2 y R)
  | exc c fs l S => exact h
  | bad => exact h
theorem Post.bind {r : R α} {k : α → Hs → R β} {Q : β → Hs → (Nat → Addr) → Hp → Prop} (h : Post K E n pi H (r.bind k) Q) :
    Post K E n pi H r (fun a S1 p1 H1 => Post K E S1.length p1 H1 (k a S1) Q) := by
  cases r with
  | ok a S => exact fun p2 H2 y R => Post.ext (show Post K E n pi H (k a S) Q from h) y
  | exc c fs l S => exact h
  | bad => exact h
theorem Post.ok {a : α} {S : Hs} {Q : α → Hs → (Nat → Addr) → Hp → Prop} (h : Post K E n pi H (.ok a S) Q) (x : Ext n S.length pi pi' H H') (R : Real K pi' S H') : Q a S pi' H' := h pi' H' x R
end
abbrev M := Ls → Hs → R D
abbrev MB := Ls → Hs → R Bool
abbrev ML := Ls → Hs → R (List D)
inductive F where
  | nx (l : Ls) | rt (d : D) | bk (l : Ls) | ct (l : Ls)
abbrev MS := Ls → Hs → R F
abbrev QD (K : PySem.W.Frag) (Q : VK) : D → Hs → (Nat → Addr) → Hp → Prop := fun d S p H => ∀ v, Rep K p S.length H d v → Q v H
abbrev QL (K : PySem.W.Frag) (Q : List V → Hp → Prop) : List D → Hs → (Nat → Addr) → Hp → Prop := fun d S p H => ∀ v, Reps K p S.length H d v → Q v H
abbrev QB (Q : Bool → Hp → Prop) : Bool → Hs → (Nat → Addr) → Hp → Prop := fun d _ _ H => Q d H
def QF (K : PySem.W.Frag) (D0 : Ends) : F → Hs → (Nat → Addr) → Hp → Prop := fun f S p H =>
  match f with
  | .nx l => ∀ s, Sl K p S.length H l s → D0.nx s H
  | .rt d => ∀ v, Rep K p S.length H d v → D0.rt v H
  | .bk l => ∀ s, Sl K p S.length H l s → D0.bk s H
  | .ct l => ∀ s, Sl K p S.length H l s → D0.ct s H
def T (K : PySem.W.Frag) (E : St → XK) (f : M) : TE := fun s H Q => ∃ p l S, Real K p S H ∧ Sl K p S.length H l s ∧ Post K E S.length p H (f l S) (QD K Q)
def TB (K : PySem.W.Frag) (E : St → XK) (f : MB) : TT := fun s H Q => ∃ p l S, Real K p S H ∧ Sl K p S.length H l s ∧ Post K E S.length p H (f l S) (QB Q)
def TL (K : PySem.W.Frag) (E : St → XK) (f : ML) : TA := fun s H Q => ∃ p l S, Real K p S H ∧ Sl K p S.length H l s ∧ Post K E S.length p H (f l S) (QL K Q)
def TSt (K : PySem.W.Frag) (E : St → XK) (f : MS) : TS := fun D0 s H => ∃ p l S, Real K p S H ∧ Sl K p S.length H l s ∧ Post K E S.length p H (f l S) (QF K D0)
structure EM (X : Cx) (E : St → XK) (e : Expr) (f : M) : Prop where pe : PE X e (T X.K E f)
structure BM (X : Cx) (E : St → XK) (e : Expr) (f : MB) : Prop where pt : PT X e (TB X.K E f)
structure BW (X : Cx) (E : St → XK) (e : Expr) (f : MB) : Prop where pw : PW X e (TB X.K E f)
structure LM (X : Cx) (E : St → XK) (es : List Expr) (f : ML) : Prop where pa : PA X es (TL X.K E f)
structure SM (X : Cx) (E : St → XK) (st : Stmt) (f : MS) : Prop where ps : PS X st (TSt X.K E f)
structure SMs (X : Cx) (E : St → XK) (st : List Stmt) (f : MS) : Prop where ps : PSs X st (TSt X.K E f)
section
variable {X : Cx} {t t' : TE}
theorem _root_.L2.PE.weak {e : Expr} (h : PE X e t) (w : ∀ s H Q, t' s H Q → t s H Q) : PE X e t' := ⟨fun pins s σ H Q I q => h.run pins s σ H Q I (w σ H Q q)⟩
theorem _root_.L2.PT.weak {e : Expr} {t t' : TT} (h : PT X e t) (w : ∀ s H Q, t' s H Q → t s H Q) : PT X e t' := ⟨fun pins s σ H Q I q => h.run pins s σ H Q I (w σ H Q q)⟩
theorem _root_.L2.PW.weak {e : Expr} {t t' : TT} (h : PW X e t) (w : ∀ s H Q, t' s H Q → t s H Q) : PW X e t' := ⟨fun wh pins s σ H Q I q => h.run wh pins s σ H Q I (w σ H Q q)⟩
theorem _root_.L2.PA.weak {e : List Expr} {t t' : TA} (h : PA X e t) (w : ∀ s H Q, t' s H Q → t s H Q) : PA X e t' := ⟨fun pos pins s σ H Q I q => h.run pos pins s σ H Q I (w σ H Q q)⟩
theorem _root_.L2.PS.weak {e : Stmt} {t t' : TS} (h : PS X e t) (w : ∀ s H Q, t' Q s H → t Q s H) : PS X e t' := ⟨fun pins s σ H Q I q => h.run pins s σ H Q I (w σ H Q q)⟩
theorem _root_.L2.PSs.weak {e : List Stmt} {t t' : TS} (h : PSs X e t) (w : ∀ s H Q, t' Q s H → t Q s H) : PSs X e t' := ⟨fun pins s σ H Q I q => h.run pins s σ H Q I (w σ H Q q)⟩
end
section
variable {K : PySem.W.Frag} {E : St → XK} {s : St} {H : Hp} {β : Type} {QQ : β → Hs → (Nat → Addr) → Hp → Prop}
theorem T.of {f : M} {k : D → Hs → R β} {p : Nat → Addr} {l : Ls} {S : Hs} {Q' : VK} (R : Real K p S H) (L : Sl K p S.length H l s) (h : Post K E S.length p H ((f l S).bind k) QQ)
    (st : ∀ p1 S1 H1 d v, Real K p1 S1 H1 → Ext S.length S1.length p p1 H H1 → Sl K p1 S1.length H1 l s → Rep K p1 S1.length H1 d v → Post K E S1.length p1 H1 (k d S1) QQ → Q' v H1) : T K E f s H Q' :=
  ⟨p, l, S, R, L, h.bind.mono fun a S1 p1 H1 _ x R1 q v r => st p1 S1 H1 a v R1 x (L.ext x) r q⟩
theorem TB.of {f : MB} {k : Bool → Hs → R β} {p : Nat → Addr} {l : Ls} {S : Hs} {Q' : Bool → Hp → Prop} (R : Real K p S H) (L : Sl K p S.length H l s) (h : Post K E S.length p H ((f l S).bind k) QQ)
    (st : ∀ p1 S1 H1 b, Real K p1 S1 H1 → Ext S.length S1.length p p1 H H1 → Sl K p1 S1.length H1 l s → Post K E S1.length p1 H1 (k b S1) QQ → Q' b H1) : TB K E f s H Q' :=
  ⟨p, l, S, R, L, h.bind.mono fun a S1 p1 H1 _ x R1 q => st p1 S1 H1 a R1 x (L.ext x) q⟩
theorem TL.of {f : ML} {k : List D → Hs → R β} {p : Nat → Addr} {l : Ls} {S : Hs} {Q' : List V → Hp → Prop} (R : Real K p S H) (L : Sl K p S.length H l s) (h : Post K E S.length p H ((f l S).bind k) QQ)
    (st : ∀ p1 S1 H1 d v, Real K p1 S1 H1 → Ext S.length S1.length p p1 H H1 → Sl K p1 S1.length H1 l s → Reps K p1 S1.length H1 d v → Post K E S1.length p1 H1 (k d S1) QQ → Q' v H1) : TL K E f s H Q' :=
  ⟨p, l, S, R, L, h.bind.mono fun a S1 p1 H1 _ x R1 q v r => st p1 S1 H1 a v R1 x (L.ext x) r q⟩
theorem T.last {f : M} {p : Nat → Addr} {l : Ls} {S : Hs} {Q : VK} (R : Real K p S H) (L : Sl K p S.length H l s) (h : Post K E S.length p H (f l S) (QD K Q)) : T K E f s H Q := ⟨p, l, S, R, L, h⟩
end
end Ly
set_option Elab.async false
set_option linter.all false
set_option maxRecDepth 100000
namespace Ly
open PySem PySem.Spec L2
open PyProof.Rows hiding St
section
variable {K : PySem.W.Frag} {E : St → XK} {p : Nat → Addr} {S : Hs} {H : Hp} {Q : VK}
theorem ext_junk {n : Nat} {q : Addr} {u : HO} (hq : H q = none) : Ext n n p p H (upd H q u) :=
  ⟨Nat.le_refl _, fun _ _ => rfl, fun a xs h => by rw [upd_ne (ne_of_none h hq)]; exact h⟩
theorem Real.junk {q : Addr} {u : HO} (R : Real K p S H) (hq : H q = none) : Real K p S (upd H q u) :=
  ⟨fun i o e => (R.ob i o e).ext (ext_junk hq) (by
    obtain ⟨z, e1, _⟩ := (R.ob i o e).some
    exact upd_ne (ne_of_none e1 hq)), R.inj⟩
theorem Post.val {d : D} (h : Post K E S.length p H (.ok d S) (QD K Q)) (R : Real K p S H) {v : V} (r : Rep K p S.length H d v) : Q v H := Post.ok h Ext.refl R v r
theorem Post.valT {ds : List D} {xs : List V} (h : Post K E S.length p H (.ok (.tup ds) S) (QD K Q)) (R : Real K p S H) (r : Reps K p S.length H ds xs) {q : Addr} (hq : H q = none) : Q (.ref q) (upd H q (.tup xs)) :=
  Post.ok h (ext_junk hq) (R.junk hq) _ (.tup upd_same (r.ext (ext_junk hq) _ _))
theorem Post.new {o : O} {u : HO} (h : Post K E S.length p H (.ok (.ref S.length) (S ++ [o])) (QD K Q)) (R : Real K p S H) {q : Addr} (hq : H q = none)
    (ro : RO K (piN p S.length q) (S.length + 1) (upd H q u) q o) : Q (.ref q) (upd H q u) := by
  have e : (S ++ [o]).length = S.length + 1 := by simp
  have := Post.ok h (by rw [e]; exact ext_new hq) (R.new hq ro) (.ref (piN p S.length q S.length)) (.ref (by rw [e]; exact Nat.lt_succ_self _))
  rwa [piN_same] at this
theorem Post.newL {ds : List D} {xs : List V} (h : Post K E S.length p H (.ok (.ref S.length) (S ++ [.lst ds])) (QD K Q)) (R : Real K p S H) (r : Reps K p S.length H ds xs) {q : Addr} (hq : H q = none) : Q (.ref q) (upd H q (.lst xs)) :=
  h.new R hq ⟨xs, upd_same, r.ext (ext_new hq) _ _⟩
theorem Post.put {d : D} {i : Nat} {o : O} {u : HO} (h : Post K E S.length p H (.ok d (S.set i o)) (QD K Q)) (R : Real K p S H) (hi : i < S.length) (ro : RO K p S.length (upd H (p i) u) (p i) o) {v : V} (r : Rep K p S.length (upd H (p i) u) d v) : Q v (upd H (p i) u) := by
  have e : (S.set i o).length = S.length := by simp
  exact Post.ok h (by rw [e]; exact ext_upd (R.notup hi)) (R.put hi ro) v (by rw [e]; exact r)
theorem Real.lst {i : Nat} {ds : List D} (R : Real K p S H) (e : S[i]? = some (.lst ds)) : ∃ xs, H (p i) = some (.lst xs) ∧ Reps K p S.length H ds xs := R.ob i _ e
theorem Real.lt {i : Nat} {o : O} (e : S[i]? = some o) : i < S.length := (List.getElem?_eq_some_iff.mp e).1
end
def OpOk (K : PySem.W.Frag) (E : St → XK) (r : R2) (op : D → D → Hs → R D) : Prop :=
  ∀ p S H x y v u Q, Real K p S H → Rep K p S.length H x v → Rep K p S.length H y u → Post K E S.length p H (op x y S) (QD K Q) → r v u H Q
def mBin (op : D → D → Hs → R D) (f g : M) : M := fun l S => (f l S).bind fun x S1 => (g l S1).bind fun y S2 => op x y S2
instance (i j : Int) : Decidable (IntMulOk i j) := inferInstanceAs (Decidable (¬ _))
def oAdd : D → D → Hs → R D
  | .int i, .int j, S => .ok (.int (i + j)) S
  | .str x, .str y, S => if x.length + y.length ≤ sizeLine then .ok (.str (x ++ y)) S else .bad
  | .tup xs, .tup ys, S => if xs.length + ys.length ≤ sizeLine then .ok (.tup (xs ++ ys)) S else .bad
  | .ref i, .ref j, S => match S[i]?, S[j]? with
    | some (.lst xs), some (.lst ys) => if xs.length + ys.length ≤ sizeLine then .ok (.ref S.length) (S ++ [.lst (xs ++ ys)]) else .bad
    | _, _ => .bad
  | _, _, _ => .bad
def oSub : D → D → Hs → R D
  | .int i, .int j, S => .ok (.int (i - j)) S
  | _, _, _ => .bad
def oMul : D → D → Hs → R D
  | .int i, .int j, S => if IntMulOk i j then .ok (.int (i * j)) S else .bad
  | .ref i, .int k, S => match S[i]? with
    | some (.lst xs) => if -(2 ^ 63) ≤ k ∧ k < 2 ^ 63 ∧ xs.length * k.toNat ≤ sizeLine then .ok (.ref S.length) (S ++ [.lst (List.replicate k.toNat xs).flatten]) else .bad
    | _ => .bad
  | _, _, _ => .bad
def oFdiv : D → D → Hs → R D
  | .int i, .int j, S => if 0 < j ∧ j.natAbs.log2 < 9000 then .ok (.int (i / j)) S else .bad
  | _, _, _ => .bad
def oMod : D → D → Hs → R D
  | .int i, .int j, S => if 0 < j then .ok (.int (i % j)) S else .bad
  | _, _, _ => .bad
def oPow : D → D → Hs → R D
  | .int i, .int j, S => if 0 ≤ j ∧ j ≤ 1000000 ∧ i.natAbs < 2 ^ 64 then .ok (.int (i ^ j.toNat)) S else .bad
  | _, _, _ => .bad
def oShl : D → D → Hs → R D
  | .int i, .int j, S => if 0 ≤ j ∧ j ≤ 1000000 ∧ i.natAbs < 2 ^ 64 then .ok (.int (i * 2 ^ j.toNat)) S else .bad
  | _, _, _ => .bad
def oAnd : D → D → Hs → R D
  | .int i, .int j, S => .ok (.int (Builtin.bitAnd i j)) S
  | _, _, _ => .bad
abbrev orR (r r' : R2) : R2 := fun x y H Q => r x y H Q ∨ r' x y H Q
section
variable {X : Cx} {E : St → XK} {a b : Expr} {f g : M} {pos : Pos}
theorem e_bin {o : Operator} {r : R2} {op : D → D → Hs → R D} (ho : OpR X (binaryOp o) r) (hk : OpOk X.K E r op) (ha : EM X E a f) (hb : EM X E b g) : EM X E (.BinOp a o b pos) (mBin op f g) :=
  ⟨(pe_op ho ha.pe hb.pe).weak fun s H Q ⟨p, l, S, R, L, h⟩ => T.of R L h fun p1 S1 H1 d v R1 x1 L1 r1 h1 => T.of R1 L1 h1 fun p2 S2 H2 d2 v2 R2 x2 L2 r2 h2 => hk p2 S2 H2 _ _ _ _ Q R2 (r1.ext x2 _ _) r2 h2⟩
abbrev rAddAll (K : PySem.W.Frag) : R2 := orR (rI0 fun i j => .int (i + j)) (orR (fun x y H Q => ∃ i j, x = V.str i ∧ y = V.str j ∧ i.length + j.length ≤ sizeLine ∧ Q (V.str (i ++ j)) H) (orR (rCatA K) rCat))
theorem or_add : OpR X (binaryOp .Add) (rAddAll X.K) := .or op_add (.or op_add_str (.or op_catA op_cat))
theorem ok_add {K : PySem.W.Frag} {E : St → XK} : OpOk K E (rAddAll K) oAdd := by
  intro p S H x y v u Q R rx ry h
  unfold oAdd at h
  split at h
  · cases rx; cases ry; exact .inl ⟨_, _, rfl, rfl, h.val R (.int _)⟩
  · split at h
    · rename_i hl; cases rx; cases ry; exact .inr (.inl ⟨_, _, rfl, rfl, hl, h.val R (.str _)⟩)
    · exact h.elim
  · split at h
    · rename_i xs ys _ hl
      cases rx with
      | @tup a ds vs t r =>
      cases ry with
      | @tup b es us t' r' =>
      refine .inr (.inr (.inl ⟨a, b, vs, us, rfl, rfl, SqT.of t, SqT.of t', by rw [← r.len, ← r'.len]; exact hl, fun e => ?_, fun e e' => ?_, fun e e' q hq => ?_⟩))
      · subst e; cases r; exact h.val R (.tup t' r')
      · subst e'; cases r'; rw [List.append_nil] at h; exact h.val R (.tup t r)
      · exact h.valT R (r.append r') hq
    · exact h.elim
  · split at h
    · rename_i i j _ _ _ xs ys e1 e2
      split at h
      · rename_i hl
        obtain ⟨vs, h1, r1⟩ := R.lst e1
        obtain ⟨us, h2, r2⟩ := R.lst e2
        cases rx; cases ry
        exact .inr (.inr (.inr ⟨_, _, vs, us, rfl, rfl, h1, h2, by rw [← r1.len, ← r2.len]; exact hl, fun q hq => h.newL R (r1.append r2) hq⟩))
      · exact h.elim
    · exact h.elim
  · exact h.elim
theorem e_add (ha : EM X E a f) (hb : EM X E b g) : EM X E (.BinOp a .Add b pos) (mBin oAdd f g) := e_bin or_add ok_add ha hb
theorem ok_I {K : PySem.W.Frag} {E : St → XK} {op : D → D → Hs → R D} {C : Int → Int → Prop} [∀ i j, Decidable (C i j)] {gg : Int → Int → Int}
    (h1 : ∀ i j S, op (.int i) (.int j) S = if C i j then .ok (.int (gg i j)) S else .bad) (h2 : ∀ x y S, (∀ i j, x = .int i → y = .int j → False) → op x y S = .bad) : OpOk K E (rI C fun i j => .int (gg i j)) op := by
  intro p S H x y v u Q R rx ry h
  by_cases e : ∃ i j, x = .int i ∧ y = .int j
  · obtain ⟨i, j, rfl, rfl⟩ := e
    rw [h1] at h
    cases rx; cases ry
    split at h
    · rename_i c; exact ⟨i, j, rfl, rfl, c, h.val R (.int _)⟩
    · exact h.elim
  · rw [h2 x y S fun i j a b => e ⟨i, j, a, b⟩] at h; exact h.elim
theorem ok_I0 {K : PySem.W.Frag} {E : St → XK} {op : D → D → Hs → R D} {gg : Int → Int → Int}
    (h1 : ∀ i j S, op (.int i) (.int j) S = .ok (.int (gg i j)) S) (h2 : ∀ x y S, (∀ i j, x = .int i → y = .int j → False) → op x y S = .bad) : OpOk K E (rI0 fun i j => .int (gg i j)) op := by
  intro p S H x y v u Q R rx ry h
  by_cases e : ∃ i j, x = .int i ∧ y = .int j
  · obtain ⟨i, j, rfl, rfl⟩ := e
    rw [h1] at h
    cases rx; cases ry
    exact ⟨i, j, rfl, rfl, h.val R (.int _)⟩
  · rw [h2 x y S fun i j a b => e ⟨i, j, a, b⟩] at h; exact h.elim
theorem e_sub (ha : EM X E a f) (hb : EM X E b g) : EM X E (.BinOp a .Sub b pos) (mBin oSub f g) :=
  e_bin op_sub (ok_I0 (fun _ _ _ => rfl) fun x y S h => by unfold oSub; split <;> first | rfl | exact (h _ _ rfl rfl).elim) ha hb
theorem op_mulA : OpR X (binaryOp .Mult) (rI IntMulOk fun i j => .int (i * j)) := opI fun _ _ _ _ _ _ _ hc q => mul_int q hc
theorem ok_mul {K : PySem.W.Frag} {E : St → XK} : OpOk K E (orR (rI IntMulOk fun i j => .int (i * j)) rRep) oMul := by
  intro p S H x y v u Q R rx ry h
  unfold oMul at h
  split at h
  · split at h
    · rename_i c; cases rx; cases ry; exact .inl ⟨_, _, rfl, rfl, c, h.val R (.int _)⟩
    · exact h.elim
  · split at h
    · rename_i e1
      split at h
      · rename_i hl
        obtain ⟨vs, h1, r1⟩ := R.lst e1
        cases rx; cases ry
        refine .inr ⟨_, _, vs, rfl, rfl, h1, hl.1, hl.2.1, by rw [← r1.len]; exact hl.2.2, fun q hq => h.newL R ?_ hq⟩
        generalize Int.toNat _ = n
        clear h hl
        induction n with
        | zero => exact .nil
        | succ n ih => rw [List.replicate_succ, List.replicate_succ, List.flatten_cons, List.flatten_cons]; exact r1.append ih
      · exact h.elim
    · exact h.elim
  · exact h.elim
theorem e_mul (ha : EM X E a f) (hb : EM X E b g) : EM X E (.BinOp a .Mult b pos) (mBin oMul f g) := e_bin (OpR.or op_mulA op_rep) ok_mul ha hb
theorem e_fdiv (ha : EM X E a f) (hb : EM X E b g) : EM X E (.BinOp a .FloorDiv b pos) (mBin oFdiv f g) :=
  e_bin op_fdivW (ok_I (C := fun _ j => 0 < j ∧ j.natAbs.log2 < 9000) (fun _ _ _ => rfl) fun x y S h => by unfold oFdiv; split <;> first | rfl | exact (h _ _ rfl rfl).elim) ha hb
theorem e_mod (ha : EM X E a f) (hb : EM X E b g) : EM X E (.BinOp a .Mod b pos) (mBin oMod f g) :=
  e_bin op_mod (ok_I (fun _ _ _ => rfl) fun x y S h => by unfold oMod; split <;> first | rfl | exact (h _ _ rfl rfl).elim) ha hb
theorem e_pow (ha : EM X E a f) (hb : EM X E b g) : EM X E (.BinOp a .Pow b pos) (mBin oPow f g) :=
  e_bin op_pow (ok_I (C := fun i j => 0 ≤ j ∧ j ≤ 1000000 ∧ i.natAbs < 2 ^ 64) (fun _ _ _ => rfl) fun x y S h => by unfold oPow; split <;> first | rfl | exact (h _ _ rfl rfl).elim) ha hb
theorem e_shl (ha : EM X E a f) (hb : EM X E b g) : EM X E (.BinOp a .LShift b pos) (mBin oShl f g) :=
  e_bin op_shl (ok_I (C := fun i j => 0 ≤ j ∧ j ≤ 1000000 ∧ i.natAbs < 2 ^ 64) (fun _ _ _ => rfl) fun x y S h => by unfold oShl; split <;> first | rfl | exact (h _ _ rfl rfl).elim) ha hb
theorem e_band (ha : EM X E a f) (hb : EM X E b g) : EM X E (.BinOp a .BitAnd b pos) (mBin oAnd f g) :=
  e_bin op_and (ok_I0 (fun _ _ _ => rfl) fun x y S h => by unfold oAnd; split <;> first | rfl | exact (h _ _ rfl rfl).elim) ha hb
def mVar (i : Nat) : M := fun l S => match l[i]? with
  | some (some d) => .ok d S
  | _ => .bad
def mC (d : D) : M := fun _ S => .ok d S
theorem e_of_var {e : Expr} {i : Nat} (h : PE X e (tVar i)) : EM X E e (mVar i) := ⟨h.weak fun s H Q ⟨p, l, S, R, L, h⟩ => by
  unfold mVar at h
  split at h
  · rename_i d e
    obtain ⟨v, h1, r⟩ := L.get e
    exact ⟨v, h1, h.val R r⟩
  · exact h.elim⟩
theorem e_of_c {e : Expr} {d : D} {v : V} (h : PE X e (tC v)) (hr : ∀ p n H, Rep X.K p n H d v) : EM X E e (mC d) := ⟨h.weak fun s H Q ⟨p, l, S, R, L, h⟩ => h.val R (hr _ _ _)⟩
theorem e_v (i : Nat) {x : Str} {pos : Pos} (hN : X.N[i]? = some x := by rfl) (hv : Vis X.env.scope x := by first | exact Or.inl rfl | exact Or.inr (Or.inl rfl) | exact Or.inr (Or.inr rfl)) (hd : (x == ("__debug__" : Str)) = false := by decide)
    (hcd : (x == ("__classdict__" : Str)) = false := by decide) : EM X E (.Name x pos) (mVar i) := e_of_var (pe_var hN hv hd hcd)
theorem e_int {i j pos} : EM X E (.Constant (.int i) j pos) (mC (.int i)) := e_of_c pe_int fun _ _ _ => .int _
theorem e_str {i j pos} : EM X E (.Constant (.str i) j pos) (mC (.str i)) := e_of_c pe_str fun _ _ _ => .str _
theorem e_bl {i j pos} : EM X E (.Constant (.bool i) j pos) (mC (.bl i)) := e_of_c pe_bl fun _ _ _ => .bl _
theorem e_non {j pos} : EM X E (.Constant .none j pos) (mC .non) := e_of_c pe_non fun _ _ _ => .non
def oNeg : D → Hs → R D
  | .int i, S => .ok (.int (-i)) S
  | _, _ => .bad
def mUn (op : D → Hs → R D) (f : M) : M := fun l S => (f l S).bind op
theorem e_neg (ha : EM X E a f) : EM X E (.UnaryOp .USub a pos) (mUn oNeg f) := ⟨(pe_un un_neg ha.pe).weak fun s H Q ⟨p, l, S, R, L, h⟩ => T.of R L h fun p1 S1 H1 d v R1 x1 L1 r1 h1 => by
  unfold oNeg at h1
  split at h1
  · cases r1; exact ⟨_, rfl, h1.val R1 (.int _)⟩
  · exact h1.elim⟩
end
end Ly
set_option Elab.async false
set_option linter.all false
set_option maxRecDepth 100000
namespace Ly
open PySem PySem.Spec L2
open PyProof.Rows hiding St
mutual
def D.pd (S : Hs) : Nat → D → Option PyData
  | 0, _ => none
  | _ + 1, .non => some .none
  | _ + 1, .bl b => some (.bool b)
  | _ + 1, .int i => some (.int i)
  | _ + 1, .str x => some (.str x)
  | k + 1, .tup ds => (D.pds S k ds).map .tuple
  | k + 1, .wt ds => (D.pds S k ds).map .tuple
  | k + 1, .ref i => match S[i]? with
    | some (.lst ds) => (D.pds S k ds).map .list
    | some (.rol ds) => (D.pds S k ds).map .list
    | _ => none
  | _ + 1, .cst _ => none
  | _ + 1, .wl _ => none
def D.pds (S : Hs) : Nat → List D → Option (List PyData)
  | _, [] => some []
  | 0, _ :: _ => none
  | k + 1, d :: ds => match D.pd S k d, D.pds S (k + 1) ds with
    | some a, some b => some (a :: b)
    | _, _ => none
end
section
variable {K : PySem.W.Frag} {p : Nat → Addr} {S : Hs} {H : Hp}
mutual
theorem D.pd_dp (R : Real K p S H) : ∀ (k : Nat) (d : D) (v : V) (x : PyData), Rep K p S.length H d v → D.pd S k d = some x → Dp K H v x
  | 0, d, _, _, _, e => by simp [D.pd] at e
  | k + 1, .non, _, _, .non, e => by simp [D.pd] at e; subst e; exact .non
  | k + 1, .bl b, _, _, .bl _, e => by simp [D.pd] at e; subst e; exact .bl _
  | k + 1, .int b, _, _, .int _, e => by simp [D.pd] at e; subst e; exact .int _
  | k + 1, .str b, _, _, .str _, e => by simp [D.pd] at e; subst e; exact .str _
  | k + 1, .tup ds, _, _, .tup t r, e => by
    simp only [D.pd, Option.map_eq_some_iff] at e
    obtain ⟨xs, e, rfl⟩ := e
    exact .tup (SqT.of t) (D.pds_dp R k ds _ _ r e)
  | k + 1, .wt ds, _, _, .wt t r, e => by
    simp only [D.pd, Option.map_eq_some_iff] at e
    obtain ⟨xs, e, rfl⟩ := e
    exact .tup t.sq (D.pds_dp R k ds _ _ r e)
  | k + 1, .ref i, _, _, .ref h, e => by
    simp only [D.pd] at e
    split at e
    · rename_i ds q
      simp only [Option.map_eq_some_iff] at e
      obtain ⟨xs, e, rfl⟩ := e
      obtain ⟨vs, h1, r⟩ := R.lst q
      exact .lst (SqL.of h1) (D.pds_dp R k ds _ _ r e)
    · rename_i ds q
      simp only [Option.map_eq_some_iff] at e
      obtain ⟨xs, e, rfl⟩ := e
      obtain ⟨o, vs, h1, r⟩ := R.ob i _ q
      exact .lst (.inl (.inr ⟨o, h1⟩)) (D.pds_dp R k ds _ _ r e)
    · cases e
  | k + 1, .cst a, _, _, _, e => by simp [D.pd] at e
  | k + 1, .wl a, _, _, _, e => by simp [D.pd] at e
theorem D.pds_dp (R : Real K p S H) : ∀ (k : Nat) (d : List D) (v : List V) (x : List PyData), Reps K p S.length H d v → D.pds S k d = some x → DpAll K H v x
  | k, [], _, _, .nil, e => by cases k <;> (simp [D.pds] at e; subst e; exact .nil)
  | 0, d :: ds, _, _, _, e => by simp [D.pds] at e
  | k + 1, d :: ds, _, _, .cons r s, e => by
    simp only [D.pds] at e
    split at e
    · rename_i a b e1 e2
      cases e
      exact .cons (D.pd_dp R k d _ _ r e1) (D.pds_dp R (k + 1) ds _ _ s e2)
    · cases e
end
end
def cEqS : D → D → Option Bool
  | .int i, .int j => some (decide (i = j))
  | .str i, .str j => some (decide (i = j))
  | .bl i, .bl j => some (decide (i = j))
  | .non, .non => some true
  | .non, .int _ => some false
  | .int _, .non => some false
  | .non, .bl _ => some false
  | .bl _, .non => some false
  | .non, .str _ => some false
  | .str _, .non => some false
  | .int _, .str _ => some false
  | .str _, .int _ => some false
  | .bl _, .str _ => some false
  | .str _, .bl _ => some false
  | _, _ => none
def cEqD (x y : D) (S : Hs) : Option Bool :=
  match cEqS x y with
  | some b => some b
  | none => match D.pd S 70 x, D.pd S 70 y with
    | some a, some b => if SeqAt.shaped a = true ∧ SeqAt.shaped b = true then some (PyData.eqv a b) else none
    | _, _ => none
def oEq (x y : D) (S : Hs) : R D := match cEqD x y S with
  | some b => .ok (.bl b) S
  | none => .bad
def oNe (x y : D) (S : Hs) : R D := match cEqD x y S with
  | some b => .ok (.bl (!b)) S
  | none => .bad
def oLt : D → D → Hs → R D
  | .int i, .int j, S => .ok (.bl (decide (i < j))) S
  | _, _, _ => .bad
def oGt : D → D → Hs → R D
  | .int i, .int j, S => .ok (.bl (decide (j < i))) S
  | _, _, _ => .bad
def oGe : D → D → Hs → R D
  | .int i, .int j, S => .ok (.bl (decide (j ≤ i))) S
  | _, _, _ => .bad
def D.isNon : D → Bool
  | .non => true
  | _ => false
def oIs : D → D → Hs → R D
  | x, .non, S => .ok (.bl x.isNon) S
  | .bl a, .bl b, S => .ok (.bl (decide (a = b))) S
  | _, _, _ => .bad
def eqF : D → D → Bool
  | .non, .non => true
  | .bl a, .bl b => a == b
  | .bl a, .int b => (if a then 1 else 0) == b
  | .int a, .bl b => a == (if b then 1 else 0)
  | .int a, .int b => a == b
  | .str a, .str b => a == b
  | _, _ => false
def flatD : D → Bool
  | .non => true
  | .bl _ => true
  | .int _ => true
  | .str _ => true
  | _ => false
def inS (i j : Str) : Bool := match i with
  | ⟨⟨[c]⟩⟩ => decide (c ∈ j.cps.toList)
  | _ => !(Builtin.Str.occurrences j i 0 j.length 1).isEmpty
def D.key : D → Option Key
  | .int i => some (.inl i)
  | .str x => some (.inr x)
  | _ => none
def D.keys : List D → Option (List Key)
  | [] => some []
  | d :: ds => match d.key, D.keys ds with
    | some k, some l => some (k :: l)
    | _, _ => none
def D.tkey : D → Option (List Key)
  | .tup ds => D.keys ds
  | _ => none
def getK {κ : Type} [DecidableEq κ] (kvs : List (κ × D)) (k : κ) : Option D := (kvs.find? fun kv => decide (kv.1 = k)).map (·.2)
def setK {κ : Type} [DecidableEq κ] (kvs : List (κ × D)) (k : κ) (v : D) : List (κ × D) :=
  if (kvs.any fun kv => decide (kv.1 = k)) = true then kvs.map fun kv => if kv.1 = k then (kv.1, v) else kv else kvs ++ [(k, v)]
def dGet (x y : D) (S : Hs) : Option (Option D) := match x with
  | .ref i => match S[i]? with
    | some (.dic kvs) => match y.key with
      | some k => some (getK kvs k)
      | none => none
    | some (.dit kvs) => match y.tkey with
      | some k => some (getK kvs k)
      | none => none
    | _ => none
  | _ => none
def cIn (x y : D) (S : Hs) : Option Bool := match x, y with
  | .str i, .str j => some (inS i j)
  | x, .tup ds => if flatD x && ds.all flatD then some (ds.any fun z => eqF z x) else
    match D.pd S 70 x, D.pd S 70 (.tup ds) with
    | some a, some (.tuple b) => if SeqAt.shaped a = true ∧ SeqAt.shaped (.tuple b) = true then some (b.any fun z => z.eqv a) else none
    | _, _ => none
  | x, .wt ds => if flatD x && ds.all flatD then some (ds.any fun z => eqF z x) else
    match D.pd S 70 x, D.pd S 70 (.wt ds) with
    | some a, some (.tuple b) => if SeqAt.shaped a = true ∧ SeqAt.shaped (.tuple b) = true then some (b.any fun z => z.eqv a) else none
    | _, _ => none
  | x, .ref i => match S[i]? with
    | some (.lst ds) => if flatD x && ds.all flatD then some (ds.any fun z => eqF z x) else
      match D.pd S 70 x, D.pd S 70 (.ref i) with
      | some a, some (.list b) => if SeqAt.shaped a = true ∧ SeqAt.shaped (.list b) = true then some (b.any fun z => z.eqv a) else none
      | _, _ => none
    | some (.dic kvs) => (dGet (.ref i) x S).map (·.isSome)
    | some (.dit kvs) => (dGet (.ref i) x S).map (·.isSome)
    | _ => none
  | _, _ => none
def oIn (x y : D) (S : Hs) : R D := match cIn x y S with
  | some b => .ok (.bl b) S
  | none => .bad
def oNotIn (x y : D) (S : Hs) : R D := match cIn x y S with
  | some b => .ok (.bl (!b)) S
  | none => .bad
section
variable {K : PySem.W.Frag} {E : St → XK} {p : Nat → Addr} {S : Hs} {H : Hp} {n : Nat} {pi : Nat → Addr}
theorem cEqS_V {x y : D} {v u : V} {b : Bool} (rx : Rep K pi n H x v) (ry : Rep K pi n H y u) (h : cEqS x y = some b) : scal v u = true ∧ decide (v = u) = b := by
  unfold cEqS at h
  split at h <;> first | (cases h; done) | (cases rx; cases ry; cases h; exact ⟨rfl, by simp⟩)
theorem ok_eq : OpOk K E (orR rEq (rEqD K)) oEq := by
  intro p S H x y v u Q R rx ry h
  unfold oEq at h
  split at h
  · rename_i b e
    unfold cEqD at e
    split at e
    · rename_i c e1
      cases e
      obtain ⟨h1, h2⟩ := cEqS_V rx ry e1
      exact .inl ⟨h1, by rw [h2]; exact h.val R (.bl _)⟩
    · split at e
      · rename_i a c e1 e2
        split at e
        · rename_i hs
          cases e
          exact .inr ⟨a, c, D.pd_dp R _ _ _ _ rx e1, D.pd_dp R _ _ _ _ ry e2, hs.1, hs.2, h.val R (.bl _)⟩
        · cases e
      · cases e
  · exact h.elim
theorem ok_ne : OpOk K E (orR rNe (rNeD K)) oNe := by
  intro p S H x y v u Q R rx ry h
  unfold oNe at h
  split at h
  · rename_i b e
    unfold cEqD at e
    split at e
    · rename_i c e1
      cases e
      obtain ⟨h1, h2⟩ := cEqS_V rx ry e1
      exact .inl ⟨h1, by rw [h2]; exact h.val R (.bl _)⟩
    · split at e
      · rename_i a c e1 e2
        split at e
        · rename_i hs
          cases e
          exact .inr ⟨a, c, D.pd_dp R _ _ _ _ rx e1, D.pd_dp R _ _ _ _ ry e2, hs.1, hs.2, h.val R (.bl _)⟩
        · cases e
      · cases e
  · exact h.elim
theorem ok_B0 {op : D → D → Hs → R D} {gg : Int → Int → Bool} (h1 : ∀ i j S, op (.int i) (.int j) S = .ok (.bl (gg i j)) S) (h2 : ∀ x y S, (∀ i j, x = .int i → y = .int j → False) → op x y S = .bad) : OpOk K E (rI0 fun i j => .bl (gg i j)) op := by
  intro p S H x y v u Q R rx ry h
  by_cases e : ∃ i j, x = .int i ∧ y = .int j
  · obtain ⟨i, j, rfl, rfl⟩ := e
    rw [h1] at h
    cases rx; cases ry
    exact ⟨i, j, rfl, rfl, h.val R (.bl _)⟩
  · rw [h2 x y S fun i j a b => e ⟨i, j, a, b⟩] at h; exact h.elim
theorem ok_lt : OpOk K E (rI0 fun i j => .bl (decide (i < j))) oLt := ok_B0 (fun _ _ _ => rfl) fun x y S h => by unfold oLt; split <;> first | rfl | exact (h _ _ rfl rfl).elim
theorem ok_gt : OpOk K E (rI0 fun i j => .bl (decide (j < i))) oGt := ok_B0 (fun _ _ _ => rfl) fun x y S h => by unfold oGt; split <;> first | rfl | exact (h _ _ rfl rfl).elim
theorem ok_ge : OpOk K E (rI0 fun i j => .bl (decide (j ≤ i))) oGe := ok_B0 (fun _ _ _ => rfl) fun x y S h => by unfold oGe; split <;> first | rfl | exact (h _ _ rfl rfl).elim
theorem isNon_V {x : D} {v : V} (rx : Rep K pi n H x v) : x.isNon = decide (v = .non) := by cases rx <;> rfl
abbrev rIsNA : R2 := fun x y H Q => y = .non ∧ Q (.bl (decide (x = .non))) H
theorem ok_is : OpOk K E (orR rIsNA rIsB) oIs := by
  intro p S H x y v u Q R rx ry h
  unfold oIs at h
  split at h
  · cases ry; exact .inl ⟨rfl, by rw [← isNon_V rx]; exact h.val R (.bl _)⟩
  · cases rx; cases ry; exact .inr ⟨_, _, rfl, rfl, h.val R (.bl _)⟩
  · exact h.elim
theorem flat_V {x : D} {v : V} (rx : Rep K pi n H x v) (h : flatD x = true) : flatV v = true := by cases rx <;> first | rfl | cases h
theorem eqF_V {x y : D} {v u : V} (rx : Rep K pi n H x v) (ry : Rep K pi n H y u) (h : flatD y = true) : eqF x y = eqV v u := by cases rx <;> cases ry <;> first | rfl | cases h
theorem flats_V {ds : List D} {vs : List V} (r : Reps K pi n H ds vs) (h : ds.all flatD = true) : vs.all flatV = true := by
  induction ds generalizing vs with
  | nil => cases r; rfl
  | cons d ds ih =>
    cases r with
    | cons r s =>
      rw [List.all_cons, Bool.and_eq_true] at h ⊢
      exact ⟨flat_V r h.1, ih s h.2⟩
theorem any_V {ds : List D} {vs : List V} {x : D} {v : V} (r : Reps K pi n H ds vs) (rx : Rep K pi n H x v) (h : flatD x = true) : (ds.any fun z => eqF z x) = inV v vs := by
  unfold inV
  induction ds generalizing vs with
  | nil => cases r; rfl
  | cons d ds ih =>
    cases r with
    | cons r s => rw [List.any_cons, List.any_cons, eqF_V r rx h, ih s]
theorem key_V {y : D} {u : V} {k : Key} (ry : Rep K pi n H y u) (h : y.key = some k) : u = kV k := by
  unfold D.key at h
  split at h <;> first | (cases ry; cases h; rfl) | cases h
theorem keys_V {ds : List D} {vs : List V} {k : List Key} (r : Reps K pi n H ds vs) (h : D.keys ds = some k) : vs = k.map kV := by
  induction ds generalizing vs k with
  | nil => cases r; cases h; rfl
  | cons d ds ih =>
    cases r with
    | cons r s =>
      simp only [D.keys] at h
      split at h
      · rename_i a b e1 e2
        cases h
        rw [key_V r e1, ih s e2]; rfl
      · cases h
def GetRel (K : PySem.W.Frag) (p : Nat → Addr) (n : Nat) (H : Hp) (o : Option D) (w : Option V) : Prop := match o with
  | some d => ∃ z, w = some z ∧ Rep K p n H d z
  | none => w = none
theorem getK_V {κ : Type} [DecidableEq κ] {kvs : List (κ × D)} {ks : List (κ × V)} (h : ks.map (·.1) = kvs.map (·.1)) (r : Reps K pi n H (kvs.map (·.2)) (ks.map (·.2))) (k : κ) : GetRel K pi n H (getK kvs k) (valV ks k) := by
  induction kvs generalizing ks with
  | nil => cases ks with | nil => exact rfl | cons a b => cases h
  | cons a kvs ih =>
    cases ks with
    | nil => cases h
    | cons b ks =>
      simp only [List.map_cons, List.cons.injEq] at h
      cases r with
      | cons r s =>
        have := ih h.2 s
        unfold getK valV at this ⊢
        by_cases e : a.1 = k
        · rw [List.find?_cons_of_pos (by simpa using e)]
          refine ⟨b.2, ?_, r⟩
          rw [List.find?_cons_of_pos (by simpa [h.1] using e)]; rfl
        · rw [List.find?_cons_of_neg (by simpa using e), List.find?_cons_of_neg (by simpa [h.1] using e)]
          exact this
theorem dGet_V {x y : D} {v u : V} {o : Option D} (R : Real K p S H) (rx : Rep K p S.length H x v) (ry : Rep K p S.length H y u) (h : dGet x y S = some o) :
    ∃ a w, v = .ref a ∧ DGet H a u w ∧ GetRel K p S.length H o w := by
  cases x with
  | ref i =>
    cases rx
    simp only [dGet] at h
    split at h
    · rename_i kvs q
      obtain ⟨ks, h1, h2, h3⟩ := R.ob i _ q
      split at h
      · rename_i k ek
        cases h
        exact ⟨_, _, rfl, .inl ⟨ks, k, .inl h1, key_V ry ek, rfl⟩, getK_V h2 h3 k⟩
      · cases h
    · rename_i kvs q
      obtain ⟨ks, h1, h2, h3⟩ := R.ob i _ q
      split at h
      · rename_i k ek
        cases h
        unfold D.tkey at ek
        split at ek
        · cases ry with
          | @tup b _ vs t r =>
          exact ⟨_, _, rfl, .inr ⟨ks, k, b, .inl h1, rfl, by rw [← keys_V r ek]; exact t, rfl⟩, getK_V h2 h3 k⟩
        · cases ek
      · cases h
    · cases h
  | _ => cases h
abbrev rDIn : R2 := fun x y H Q => ∃ a o, y = .ref a ∧ DGet H a x o ∧ Q (.bl o.isSome) H
abbrev rDNotIn : R2 := fun x y H Q => ∃ a o, y = .ref a ∧ DGet H a x o ∧ Q (.bl (!o.isSome)) H
abbrev rInStr : R2 := fun x y H Q => ∃ i j, x = V.str i ∧ y = V.str j ∧ Q (V.bl !(Builtin.Str.occurrences j i 0 j.length 1).isEmpty) H
abbrev rInSign : R2 := fun x y H Q => ∃ (c : Nat) (z : Str), x = .str ⟨#[c]⟩ ∧ y = .str z ∧ Q (.bl (decide (c ∈ z.cps.toList))) H
def rInDT (K : PySem.W.Frag) : R2 := fun x y H Q => ∃ d ds, Dp K H x d ∧ Dp K H y (.tuple ds) ∧ SeqAt.shaped d = true ∧ SeqAt.shaped (.tuple ds) = true ∧ Q (.bl (ds.any fun z => PyData.eqv z d)) H
def rNotInDT (K : PySem.W.Frag) : R2 := fun x y H Q => ∃ d ds, Dp K H x d ∧ Dp K H y (.tuple ds) ∧ SeqAt.shaped d = true ∧ SeqAt.shaped (.tuple ds) = true ∧ Q (.bl (!ds.any fun z => PyData.eqv z d)) H
theorem op_inDT {X : Cx} (hu : X.A.units + 65 < cLine) : OpR X (compareOp .In) (rInDT X.K) := by
  intro pins s σ H x y v u Q I rx ry h
  obtain ⟨d, ds, hd, he, sd, se, q⟩ := h
  obtain ⟨as, r1⟩ := Dp.reads I d x v hd rx
  obtain ⟨bs, r2⟩ := Dp.reads I (.tuple ds) y u he ry
  exact SeqAt.in_tuple_reads r2 r1 (SeqAt.canLay_of_shaped se) (SeqAt.canLay_of_shaped sd) (room_in_shaped sd hu) ⟨.bl _, H, I, rfl, q⟩
theorem op_notInDT {X : Cx} (hu : X.A.units + 65 < cLine) : OpR X (compareOp .NotIn) (rNotInDT X.K) := by
  intro pins s σ H x y v u Q I rx ry h
  obtain ⟨d, ds, hd, he, sd, se, q⟩ := h
  obtain ⟨as, r1⟩ := Dp.reads I d x v hd rx
  obtain ⟨bs, r2⟩ := Dp.reads I (.tuple ds) y u he ry
  exact SeqAt.notIn_tuple_reads r2 r1 (SeqAt.canLay_of_shaped se) (SeqAt.canLay_of_shaped sd) (room_in_shaped sd hu) ⟨.bl _, H, I, rfl, q⟩
abbrev rInAll (K : PySem.W.Frag) : R2 := orR rInSign (orR rInStr (orR (rIn K false) (orR (rInD K) (orR (rInDT K) rDIn))))
abbrev rNotInStr : R2 := fun x y H Q => ∃ i j, x = V.str i ∧ y = V.str j ∧ Q (V.bl !(!(Builtin.Str.occurrences j i 0 j.length 1).isEmpty)) H
abbrev rNotInSign : R2 := fun x y H Q => ∃ (c : Nat) (z : Str), x = .str ⟨#[c]⟩ ∧ y = .str z ∧ Q (.bl (!decide (c ∈ z.cps.toList))) H
abbrev rNotInAll (K : PySem.W.Frag) : R2 := orR rNotInSign (orR rNotInStr (orR (rIn K true) (orR (rNotInD K) (orR (rNotInDT K) rDNotIn))))
theorem or_din {X : Cx} (hu : X.A.units + 1 < cLine) : OpR X (compareOp .In) rDIn := by
  intro pins s σ H x y v u Q I rx ry h
  obtain ⟨a, o, rfl, g, q⟩ := h
  obtain rfl : u = Value.ref a := ry
  exact d_in hu I g rx fun s3 I3 => ⟨.bl o.isSome, H, I3, rfl, q⟩
theorem or_dnotin {X : Cx} (hu : X.A.units + 1 < cLine) : OpR X (compareOp .NotIn) rDNotIn := by
  intro pins s σ H x y v u Q I rx ry h
  obtain ⟨a, o, rfl, g, q⟩ := h
  obtain rfl : u = Value.ref a := ry
  exact d_notIn hu I g rx fun s3 I3 => ⟨.bl (!o.isSome), H, I3, rfl, q⟩
theorem cIn_V {x y : D} {v u : V} {b : Bool} (R : Real K p S H) (rx : Rep K p S.length H x v) (ry : Rep K p S.length H y u) (h : cIn x y S = some b) :
    (∃ (c : Nat) (z : Str), v = .str ⟨#[c]⟩ ∧ u = .str z ∧ b = decide (c ∈ z.cps.toList)) ∨ (∃ i j, v = V.str i ∧ u = V.str j ∧ b = !(Builtin.Str.occurrences j i 0 j.length 1).isEmpty) ∨
    (∃ q xs, u = .ref q ∧ (SqL K H q xs ∨ SqT K H q xs) ∧ flatV v = true ∧ xs.all flatV = true ∧ b = inV v xs) ∨
    (∃ d ds, Dp K H v d ∧ Dp K H u (.list ds) ∧ SeqAt.shaped d = true ∧ SeqAt.shaped (.list ds) = true ∧ b = ds.any fun z => z.eqv d) ∨
    (∃ d ds, Dp K H v d ∧ Dp K H u (.tuple ds) ∧ SeqAt.shaped d = true ∧ SeqAt.shaped (.tuple ds) = true ∧ b = ds.any fun z => z.eqv d) ∨
    (∃ a o, u = .ref a ∧ DGet H a v o ∧ b = o.isSome) := by
  have dic : ∀ i, y = .ref i → ((dGet (.ref i) x S).map (·.isSome)) = some b → ∃ a o, u = .ref a ∧ DGet H a v o ∧ b = o.isSome := fun i e hh => by
    subst e
    rw [Option.map_eq_some_iff] at hh
    obtain ⟨o, hh, rfl⟩ := hh
    obtain ⟨a, w, e1, g, m⟩ := dGet_V R ry rx hh
    refine ⟨a, w, e1, g, ?_⟩
    cases o with
    | none => rw [m]; rfl
    | some d => obtain ⟨z, e, _⟩ := m; rw [e]; rfl
  unfold cIn at h
  split at h
  · rename_i i j
    cases h; cases rx; cases ry
    unfold inS
    split
    · exact .inl ⟨_, _, rfl, rfl, rfl⟩
    · exact .inr (.inl ⟨_, _, rfl, rfl, rfl⟩)
  · split at h
    · rename_i hf
      rw [Bool.and_eq_true] at hf
      cases h
      cases ry with
      | tup t r => exact .inr (.inr (.inl ⟨_, _, rfl, .inr (SqT.of t), flat_V rx hf.1, flats_V r hf.2, any_V r rx hf.1⟩))
    · split at h
      · rename_i a c e1 e2
        split at h
        · rename_i hs
          cases h
          exact .inr (.inr (.inr (.inr (.inl ⟨a, c, D.pd_dp R _ _ _ _ rx e1, D.pd_dp R _ _ _ _ ry e2, hs.1, hs.2, rfl⟩))))
        · cases h
      · cases h
  · split at h
    · rename_i hf
      rw [Bool.and_eq_true] at hf
      cases h
      cases ry with
      | wt t r => exact .inr (.inr (.inl ⟨_, _, rfl, .inr t.sq, flat_V rx hf.1, flats_V r hf.2, any_V r rx hf.1⟩))
    · split at h
      · rename_i a c e1 e2
        split at h
        · rename_i hs
          cases h
          exact .inr (.inr (.inr (.inr (.inl ⟨a, c, D.pd_dp R _ _ _ _ rx e1, D.pd_dp R _ _ _ _ ry e2, hs.1, hs.2, rfl⟩))))
        · cases h
      · cases h
  · rename_i i
    split at h
    · rename_i ds q
      obtain ⟨vs, h1, r⟩ := R.lst q
      split at h
      · rename_i hf
        rw [Bool.and_eq_true] at hf
        cases h
        cases ry
        exact .inr (.inr (.inl ⟨_, _, rfl, .inl (SqL.of h1), flat_V rx hf.1, flats_V r hf.2, any_V r rx hf.1⟩))
      · split at h
        · rename_i a c e1 e2
          split at h
          · rename_i hs
            cases h
            exact .inr (.inr (.inr (.inl ⟨a, c, D.pd_dp R _ _ _ _ rx e1, D.pd_dp R _ _ _ _ ry e2, hs.1, hs.2, rfl⟩)))
          · cases h
        · cases h
    · exact .inr (.inr (.inr (.inr (.inr (dic i rfl h)))))
    · exact .inr (.inr (.inr (.inr (.inr (dic i rfl h)))))
    · cases h
  · cases h
theorem ok_in : OpOk K E (rInAll K) oIn := by
  intro p S H x y v u Q R rx ry h
  unfold oIn at h
  split at h
  · rename_i b e
    have hq : Q (.bl b) H := h.val R (.bl _)
    rcases cIn_V R rx ry e with ⟨c, z, h1, h2, rfl⟩ | ⟨i, j, h1, h2, rfl⟩ | ⟨q, xs, h1, h2, h3, h4, rfl⟩ | ⟨d, ds, h1, h2, h3, h4, rfl⟩ | ⟨d, ds, h1, h2, h3, h4, rfl⟩ | ⟨a, o, h1, h2, rfl⟩
    · exact .inl ⟨c, z, h1, h2, hq⟩
    · exact .inr (.inl ⟨i, j, h1, h2, hq⟩)
    · exact .inr (.inr (.inl ⟨q, xs, h1, h2, h3, h4, hq⟩))
    · exact .inr (.inr (.inr (.inl ⟨d, ds, h1, h2, h3, h4, hq⟩)))
    · exact .inr (.inr (.inr (.inr (.inl ⟨d, ds, h1, h2, h3, h4, hq⟩))))
    · exact .inr (.inr (.inr (.inr (.inr ⟨a, o, h1, h2, hq⟩))))
  · exact h.elim
theorem ok_notin : OpOk K E (rNotInAll K) oNotIn := by
  intro p S H x y v u Q R rx ry h
  unfold oNotIn at h
  split at h
  · rename_i b e
    have hq : Q (.bl (!b)) H := h.val R (.bl _)
    rcases cIn_V R rx ry e with ⟨c, z, h1, h2, rfl⟩ | ⟨i, j, h1, h2, rfl⟩ | ⟨q, xs, h1, h2, h3, h4, rfl⟩ | ⟨d, ds, h1, h2, h3, h4, rfl⟩ | ⟨d, ds, h1, h2, h3, h4, rfl⟩ | ⟨a, o, h1, h2, rfl⟩
    · exact .inl ⟨c, z, h1, h2, hq⟩
    · exact .inr (.inl ⟨i, j, h1, h2, hq⟩)
    · exact .inr (.inr (.inl ⟨q, xs, h1, h2, h3, h4, hq⟩))
    · exact .inr (.inr (.inr (.inl ⟨d, ds, h1, h2, h3, h4, hq⟩)))
    · exact .inr (.inr (.inr (.inr (.inl ⟨d, ds, h1, h2, h3, h4, hq⟩))))
    · exact .inr (.inr (.inr (.inr (.inr ⟨a, o, h1, h2, hq⟩))))
  · exact h.elim
end
def mCmp (op : D → D → Hs → R D) (f g : M) : MB := fun l S => (f l S).bind fun x S1 => (g l S1).bind fun y S2 => (op x y S2).bind fun d S3 => match d with
  | .bl b => .ok b S3
  | _ => .bad
section
variable {X : Cx} {E : St → XK} {a b : Expr} {f g : M} {pos : Pos} {r : R2} {op : D → D → Hs → R D} {o : CmpOp}
theorem e_cmp (ho : OpR X (compareOp o) r) (hk : OpOk X.K E r op) (ha : EM X E a f) (hb : EM X E b g) (h1 : behindInMarks o b = false) : EM X E (.Compare a [o] [b] pos) (mBin op f g) :=
  ⟨(pe_cmpR ho ha.pe hb.pe h1).weak fun s H Q ⟨p, l, S, R, L, h⟩ => T.of R L h fun p1 S1 H1 d v R1 x1 L1 r1 h1 => T.of R1 L1 h1 fun p2 S2 H2 d2 v2 R2 x2 L2 r2 h2 => hk p2 S2 H2 _ _ _ _ Q R2 (r1.ext x2 _ _) r2 h2⟩
theorem OpOk.test (hk : OpOk X.K E r op) {p : Nat → Addr} {S : Hs} {H : Hp} {x y : D} {v u : V} {Q : Bool → Hp → Prop} (R : Real X.K p S H) (rx : Rep X.K p S.length H x v) (ry : Rep X.K p S.length H y u)
    (h : Post X.K E S.length p H ((op x y S).bind fun d S3 => match d with | .bl b => Ly.R.ok b S3 | _ => Ly.R.bad) (QB Q)) : r v u H fun x H' => ∃ k, x = .bl k ∧ Q k H' := by
  refine hk p S H x y v u _ R rx ry (h.bind.mono fun d S3 p3 H3 _ x3 R3 q w rw' => ?_)
  cases rw' with
  | bl b => exact ⟨b, rfl, Post.ok (Q := QB Q) q Ext.refl R3⟩
  | _ => exact q.elim
theorem b_cmp (ho : OpR X (compareOp o) r) (hk : OpOk X.K E r op) (ha : EM X E a f) (hb : EM X E b g) (h1 : behindInMarks o b = false) : BM X E (.Compare a [o] [b] pos) (mCmp op f g) :=
  ⟨(pt_cmpR ho ha.pe hb.pe h1).weak fun s H Q ⟨p, l, S, R, L, h⟩ => T.of R L h fun p1 S1 H1 d v R1 x1 L1 r1 h1 => T.of R1 L1 h1 fun p2 S2 H2 d2 v2 R2 x2 L2 r2 h2 => hk.test R2 (r1.ext x2 _ _) r2 h2⟩
end
end Ly
set_option Elab.async false
set_option linter.all false
set_option maxRecDepth 100000
namespace Ly
open PySem PySem.Spec L2
open PyProof.Rows hiding St
def lNil : ML := fun _ S => .ok [] S
def lCons (f : M) (g : ML) : ML := fun l S => (f l S).bind fun x S1 => (g l S1).bind fun xs S2 => .ok (x :: xs) S2
section
variable {X : Cx} {E : St → XK} {e : Expr} {es : List Expr} {f : M} {g : ML} {pos : Pos}
theorem l_nil : LM X E [] lNil := ⟨pa_nil.weak fun s H Q ⟨p, l, S, R, L, h⟩ => Post.ok h Ext.refl R _ .nil⟩
theorem l_cons (ha : EM X E e f) (hb : LM X E es g) (hs : starEach (e :: es) X.env = (false, eval e X.env) :: starEach es X.env := by rfl) : LM X E (e :: es) (lCons f g) :=
  ⟨(pa_cons ha.pe hb.pa hs).weak fun s H Q ⟨p, l, S, R, L, h⟩ => T.of R L h fun p1 S1 H1 d v R1 x1 L1 r1 h1 => TL.of R1 L1 h1 fun p2 S2 H2 d2 v2 R2 x2 L2 r2 h2 => Post.ok h2 Ext.refl R2 _ (.cons (r1.ext x2 _ _) r2)⟩
def tru (x : D) (S : Hs) : Option Bool := match x with
  | .non => some false
  | .bl b => some b
  | .int i => some (i != 0)
  | .str x => if x.length ≤ sizeLine then some ((x.length : Int) != 0) else none
  | .tup xs => some (!xs.isEmpty)
  | .wt xs => some (!xs.isEmpty)
  | .ref i => match S[i]? with
    | some (.lst xs) => some (!xs.isEmpty)
    | some (.rol xs) => some (!xs.isEmpty)
    | some (.dic xs) => some (!xs.isEmpty)
    | _ => none
  | .wl xs => some (!xs.isEmpty)
  | .cst _ => none
def oTru (x : D) (S : Hs) : R Bool := match tru x S with
  | some b => .ok b S
  | none => .bad
def oNot (x : D) (S : Hs) : R D := match tru x S with
  | some b => .ok (.bl (!b)) S
  | none => .bad
theorem empty_len {α β : Type} {xs : List α} {ys : List β} (h : xs.length = ys.length) : xs.isEmpty = ys.isEmpty := by cases xs <;> cases ys <;> first | rfl | simp at h
theorem tru_V {K : PySem.W.Frag} {p : Nat → Addr} {S : Hs} {H : Hp} {x : D} {v : V} {b : Bool} (R : Real K p S H) (rx : Rep K p S.length H x v) (h : tru x S = some b) : TruV K v H b := by
  unfold tru at h
  cases rx with
  | non => cases h; rfl
  | bl b => cases h; rfl
  | int i => cases h; rfl
  | str x => simp only at h; split at h <;> cases h; exact ⟨by assumption, rfl⟩
  | tup t r => cases h; exact .inr (.inl ⟨_, SqT.of t, by rw [empty_len r.len]⟩)
  | wt t r => cases h; exact .inr (.inl ⟨_, t.sq, by rw [empty_len r.len]⟩)
  | wl t r => cases h; exact .inl ⟨_, t.sq, by rw [empty_len r.len]⟩
  | ref hi =>
    simp only at h
    split at h
    · rename_i q
      obtain ⟨vs, h1, r⟩ := R.lst q
      cases h; exact .inl ⟨_, SqL.of h1, by rw [empty_len r.len]⟩
    · rename_i q
      obtain ⟨o, vs, h1, r⟩ := R.ob _ _ q
      cases h; exact .inl ⟨_, .inl (.inr ⟨o, h1⟩), by rw [empty_len r.len]⟩
    · rename_i q
      obtain ⟨ks, h1, h2, h3⟩ := R.ob _ _ q
      cases h; exact .inr (.inr ⟨_, h1, by rw [empty_len (show ks.length = _ from by simpa using congrArg List.length h2)]⟩)
    · cases h
  | cst a => cases h
def mTru (f : M) : MB := fun l S => (f l S).bind oTru
theorem oTru_of {K : PySem.W.Frag} {p : Nat → Addr} {S : Hs} {H : Hp} {x : D} {v : V} {Q : Bool → Hp → Prop} (R : Real K p S H) (rx : Rep K p S.length H x v) (h : Post K E S.length p H (oTru x S) (QB Q)) : ∃ k, TruV K v H k ∧ Q k H := by
  unfold oTru at h
  split at h
  · rename_i b e; exact ⟨b, tru_V R rx e, Post.ok (Q := QB Q) h Ext.refl R⟩
  · exact h.elim
theorem b_tru {a : Expr} (ha : EM X E a f) (he : ∀ whole, isTrue a X.env whole = (do let v ← whole; standAt a.pos; holding [v] (truthy v)) := by intro _; rfl) : BM X E a (mTru f) :=
  ⟨(pt_truth ha.pe he).weak fun s H Q ⟨p, l, S, R, L, h⟩ => T.of R L h fun p1 S1 H1 d v R1 x1 L1 r1 h1 => oTru_of R1 r1 h1⟩
def mNotB (f : MB) : MB := fun l S => (f l S).bind fun b S1 => .ok (!b) S1
def mAndB (f g : MB) : MB := fun l S => (f l S).bind fun b S1 => if b = true then g l S1 else .ok false S1
def mOrB (f g : MB) : MB := fun l S => (f l S).bind fun b S1 => if b = true then .ok true S1 else g l S1
theorem TB.last {K : PySem.W.Frag} {s : St} {H : Hp} {f : MB} {p : Nat → Addr} {l : Ls} {S : Hs} {Q : Bool → Hp → Prop} (R : Real K p S H) (L : Sl K p S.length H l s) (h : Post K E S.length p H (f l S) (QB Q)) : TB K E f s H Q := ⟨p, l, S, R, L, h⟩
variable {a b : Expr} {rest : List Expr} {fb gb : MB}
theorem b_not (ha : BM X E a fb) : BM X E (.UnaryOp .Not a pos) (mNotB fb) :=
  ⟨(pt_not ha.pt).weak fun s H Q ⟨p, l, S, R, L, h⟩ => TB.of R L h fun p1 S1 H1 b R1 x1 L1 h1 => Post.ok (Q := QB Q) h1 Ext.refl R1⟩
theorem w_and1 (ha : BM X E a fb) : BW X E (.BoolOp .And [a] pos) fb := ⟨pw_and1 ha.pt⟩
theorem w_or1 (ha : BM X E a fb) : BW X E (.BoolOp .Or [a] pos) fb := ⟨pw_or1 ha.pt⟩
theorem w_and (ha : BM X E a fb) (hb : BW X E (.BoolOp .And (b :: rest) pos) gb) : BW X E (.BoolOp .And (a :: b :: rest) pos) (mAndB fb gb) :=
  ⟨(pw_and ha.pt hb.pw).weak fun s H Q ⟨p, l, S, R, L, h⟩ => TB.of R L h fun p1 S1 H1 b R1 x1 L1 h1 => by
    cases b with
    | true => exact TB.last R1 L1 h1
    | false => exact Post.ok (Q := QB Q) h1 Ext.refl R1⟩
theorem w_or (ha : BM X E a fb) (hb : BW X E (.BoolOp .Or (b :: rest) pos) gb) : BW X E (.BoolOp .Or (a :: b :: rest) pos) (mOrB fb gb) :=
  ⟨(pw_or ha.pt hb.pw).weak fun s H Q ⟨p, l, S, R, L, h⟩ => TB.of R L h fun p1 S1 H1 b R1 x1 L1 h1 => by
    cases b with
    | false => exact TB.last R1 L1 h1
    | true => exact Post.ok (Q := QB Q) h1 Ext.refl R1⟩
theorem b_of {e : Expr} (h : BW X E e fb) : BM X E e fb := ⟨h.pw.pt⟩
def mAnd (f g : M) : M := fun l S => (f l S).bind fun x S1 => (oTru x S1).bind fun b S2 => if b = true then g l S2 else .ok x S2
def mOr (f g : M) : M := fun l S => (f l S).bind fun x S1 => (oTru x S1).bind fun b S2 => if b = true then .ok x S2 else g l S2
def mIf (c : MB) (f g : M) : M := fun l S => (c l S).bind fun b S1 => if b = true then f l S1 else g l S1
variable {h' : M} {t : List Expr}
theorem e_not (ha : EM X E a f) : EM X E (.UnaryOp .Not a pos) (mUn oNot f) :=
  ⟨(pe_notT ha.pe).weak fun s H Q ⟨p, l, S, R, L, h⟩ => T.of R L h fun p1 S1 H1 d v R1 x1 L1 r1 h1 => by
    unfold oNot at h1
    split at h1
    · rename_i b e; exact ⟨b, tru_V R1 r1 e, h1.val R1 (.bl _)⟩
    · exact h1.elim⟩
end
def oIx (x y : D) (S : Hs) : R D := match x, y with
  | .str z, .int i => if z.length ≤ sizeLine then (match atI z.cps.toList i with
    | some c => .ok (.str ⟨#[c]⟩) S
    | none => .bad) else .bad
  | .tup xs, .int i => match atI xs i with
    | some d => .ok d S
    | none => .bad
  | .wt xs, .int i => match atI xs i with
    | some d => .ok d S
    | none => .bad
  | .wl xs, .int i => match atI xs i with
    | some d => .ok d S
    | none => .bad
  | .ref j, y => match S[j]? with
    | some (.lst xs) => (match y with
      | .int i => (match atI xs i with
        | some d => .ok d S
        | none => .bad)
      | _ => .bad)
    | some (.rol xs) => (match y with
      | .int i => (match atI xs i with
        | some d => .ok d S
        | none => .bad)
      | _ => .bad)
    | some (.dic _) => (match dGet x y S with
      | some (some d) => .ok d S
      | _ => .bad)
    | some (.dit _) => (match dGet x y S with
      | some (some d) => .ok d S
      | _ => .bad)
    | _ => .bad
  | _, _ => .bad
abbrev rIxDic : R2 := fun x y H Q => ∃ a v, x = .ref a ∧ DGet H a y (some v) ∧ Q v H
theorem ix_dic {X : Cx} (hu : X.A.units + 1 < cLine) : IxR X rIxDic := by
  intro value slice pins s σ H x y v u Q I rx ry h hs
  obtain ⟨a, w, rfl, g, q⟩ := h
  obtain rfl : v = Value.ref a := rx
  exact tail_any (dict_typeIs I g) PySem.F.slot_dict_getitem.lookup (d_getItem hu I g ry fun w' s3 I3 rw' => ⟨w, H, I3, rw', q⟩) hs
abbrev rIxAll (K : PySem.W.Frag) : R2 := orR rIxS (orR (rIxL K) (orR (rIxT K) rIxDic))
theorem ix_all {X : Cx} (hu : X.A.units + 1 < cLine) : IxR X (rIxAll X.K) := IxR.or ix_str (IxR.or ix_list (IxR.or ix_tup (ix_dic hu)))
section
variable {K : PySem.W.Frag} {E : St → XK} {p : Nat → Addr} {S : Hs} {H : Hp} {n : Nat} {pi : Nat → Addr}
theorem Reps.atI {ds : List D} {vs : List V} (h : Reps K pi n H ds vs) {i : Int} {d : D} (e : atI ds i = some d) : ∃ v, L2.atI vs i = some v ∧ Rep K pi n H d v := by
  unfold L2.atI at e ⊢
  rw [← h.len]
  cases q : ixN ds.length i with
  | none => rw [q] at e; cases e
  | some j =>
    rw [q] at e
    exact h.get e
theorem ok_ix : OpOk K E (rIxAll K) oIx := by
  intro p S H x y v u Q R rx ry h
  unfold oIx at h
  split at h
  · split at h
    · rename_i hl
      split at h
      · rename_i c e; cases rx; cases ry; exact .inl ⟨_, _, c, rfl, rfl, hl, e, h.val R (.str _)⟩
      · exact h.elim
    · exact h.elim
  · split at h
    · rename_i d e
      cases ry
      cases rx with
      | tup t r =>
      obtain ⟨w, e2, r2⟩ := r.atI e
      exact .inr (.inr (.inl ⟨_, _, _, w, rfl, rfl, SqT.of t, e2, h.val R r2⟩))
    · exact h.elim
  · split at h
    · rename_i d e
      cases ry
      cases rx with
      | wt t r =>
      obtain ⟨w, e2, r2⟩ := r.atI e
      exact .inr (.inr (.inl ⟨_, _, _, w, rfl, rfl, t.sq, e2, h.val R r2⟩))
    · exact h.elim
  · split at h
    · rename_i d e
      cases ry
      cases rx with
      | wl t r =>
      obtain ⟨w, e2, r2⟩ := r.atI e
      exact .inr (.inl ⟨_, _, _, w, rfl, rfl, t.sq, e2, h.val R r2⟩)
    · exact h.elim
  · split at h
    · rename_i q
      split at h
      · split at h
        · rename_i d e
          obtain ⟨vs, h1, r⟩ := R.lst q
          obtain ⟨w, e2, r2⟩ := r.atI e
          cases rx; cases ry
          exact .inr (.inl ⟨_, _, _, w, rfl, rfl, SqL.of h1, e2, h.val R r2⟩)
        · exact h.elim
      · exact h.elim
    · rename_i q
      split at h
      · split at h
        · rename_i d e
          obtain ⟨o, vs, h1, r⟩ := R.ob _ _ q
          obtain ⟨w, e2, r2⟩ := r.atI e
          cases rx; cases ry
          exact .inr (.inl ⟨_, _, _, w, rfl, rfl, .inl (.inr ⟨o, h1⟩), e2, h.val R r2⟩)
        · exact h.elim
      · exact h.elim
    · split at h
      · rename_i d e
        obtain ⟨a, w, e1, g, m⟩ := dGet_V R rx ry e
        obtain ⟨z, e3, r3⟩ := m
        subst e3
        exact .inr (.inr (.inr ⟨a, z, e1, g, h.val R r3⟩))
      · exact h.elim
    · split at h
      · rename_i d e
        obtain ⟨a, w, e1, g, m⟩ := dGet_V R rx ry e
        obtain ⟨z, e3, r3⟩ := m
        subst e3
        exact .inr (.inr (.inr ⟨a, z, e1, g, h.val R r3⟩))
      · exact h.elim
    · exact h.elim
  · exact h.elim
end
abbrev MO := Ls → Hs → R (Option Int)
def oNo : MO := fun _ S => .ok none S
def oSome (f : M) : MO := fun l S => (f l S).bind fun d S1 => match d with
  | .int i => .ok (some i) S1
  | _ => .bad
def cutD (xs : List D) (lo hi : Option Int) : List D := (xs.drop (HT.sIx xs.length 0 lo)).take (HT.sIx xs.length xs.length hi - HT.sIx xs.length 0 lo)
def oSl (x : D) (lo hi : Option Int) (S : Hs) : R D := match x with
  | .str z => if z.length ≤ sizeLine then .ok (.str (cutS z lo hi)) S else .bad
  | .tup xs => .ok (.tup (cutD xs lo hi)) S
  | .ref i => match S[i]? with
    | some (.lst xs) => .ok (.ref S.length) (S ++ [.lst (cutD xs lo hi)])
    | some (.rol xs) => .ok (.ref S.length) (S ++ [.lst (cutD xs lo hi)])
    | _ => .bad
  | _ => .bad
def mSl (f : M) (lo hi : MO) : M := fun l S => (f l S).bind fun x S1 => (lo l S1).bind fun a S2 => (hi l S2).bind fun b S3 => oSl x a b S3
def TO' (K : PySem.W.Frag) (E : St → XK) (f : MO) : TO := fun s H Q => ∃ p l S, Real K p S H ∧ Sl K p S.length H l s ∧ Post K E S.length p H (f l S) (fun d _ _ H => Q d H)
structure OM (X : Cx) (E : St → XK) (e : Option Expr) (f : MO) : Prop where po : PO X e (TO' X.K E f)
section
variable {X : Cx} {E : St → XK} {e a b : Expr} {f g : M} {pos p2 : Pos} {lo hi : Option Expr} {fl fh : MO}
theorem _root_.L2.PO.weak {X : Cx} {e : Option Expr} {t t' : TO} (h : PO X e t) (w : ∀ s H Q, t' s H Q → t s H Q) : PO X e t' := ⟨fun pins s σ H Q I q => h.run pins s σ H Q I (w σ H Q q)⟩
theorem OM.of {K : PySem.W.Frag} {s : St} {H : Hp} {β : Type} {QQ : β → Hs → (Nat → Addr) → Hp → Prop} {f : MO} {k : Option Int → Hs → R β} {p : Nat → Addr} {l : Ls} {S : Hs} {Q' : Option Int → Hp → Prop} (R : Real K p S H) (L : Sl K p S.length H l s) (h : Post K E S.length p H ((f l S).bind k) QQ)
    (st : ∀ p1 S1 H1 b, Real K p1 S1 H1 → Ext S.length S1.length p p1 H H1 → Sl K p1 S1.length H1 l s → Post K E S1.length p1 H1 (k b S1) QQ → Q' b H1) : TO' K E f s H Q' :=
  ⟨p, l, S, R, L, h.bind.mono fun a S1 p1 H1 _ x R1 q => st p1 S1 H1 a R1 x (L.ext x) q⟩
theorem Reps.cut {K : PySem.W.Frag} {pi : Nat → Addr} {n : Nat} {H : Hp} {ds : List D} {vs : List V} (h : Reps K pi n H ds vs) (a b : Option Int) : Reps K pi n H (cutD ds a b) (cutV vs a b) := by
  unfold cutD cutV
  rw [← h.len]
  exact (h.drop _).take _
theorem e_ix (hu : X.A.units + 1 < cLine) (ha : EM X E a f) (hb : EM X E b g) (hs : PlainIx b := by intro _ _; rfl) : EM X E (.Subscript a b pos) (mBin oIx f g) :=
  ⟨(pe_ix (ix_all hu) ha.pe hb.pe hs).weak fun s H Q ⟨p, l, S, R, L, h⟩ => T.of R L h fun p1 S1 H1 d v R1 x1 L1 r1 h1 => T.of R1 L1 h1 fun p2 S2 H2 d2 v2 R2 x2 L2 r2 h2 => ok_ix p2 S2 H2 _ _ _ _ Q R2 (r1.ext x2 _ _) r2 h2⟩
def mTup (f : ML) : M := fun l S => (f l S).bind fun ds S1 => if ds.length ≤ sizeLine then .ok (.tup ds) S1 else .bad
def mLst (f : ML) : M := fun l S => (f l S).bind fun ds S1 => if ds.length ≤ sizeLine then .ok (.ref S1.length) (S1 ++ [.lst ds]) else .bad
theorem e_tup {es : List Expr} {fl : ML} {x1 : Nat} (h : LM X E es fl) : EM X E (.Tuple es x1 pos) (mTup fl) :=
  ⟨(pe_tup h.pa).weak fun s H Q ⟨p, l, S, R, L, h⟩ => TL.of R L h fun p1 S1 H1 d v R1 x1 L1 r1 h1 => by
    split at h1
    · rename_i hl; exact ⟨by rw [← r1.len]; exact hl, fun q hq => h1.valT R1 r1 hq⟩
    · exact h1.elim⟩
theorem e_lst {es : List Expr} {fl : ML} (h : LM X E es fl) : EM X E (.List es pos) (mLst fl) :=
  ⟨(pe_lst h.pa).weak fun s H Q ⟨p, l, S, R, L, h⟩ => TL.of R L h fun p1 S1 H1 d v R1 x1 L1 r1 h1 => by
    split at h1
    · rename_i hl; exact ⟨by rw [← r1.len]; exact hl, fun q hq => h1.newL R1 r1 hq⟩
    · exact h1.elim⟩
def mDicK : M := fun _ S => .ok (.ref S.length) (S ++ [.dic []])
def mDicT : M := fun _ S => .ok (.ref S.length) (S ++ [.dit []])
theorem e_dicK : EM X E (.Dict [] [] pos) mDicK := ⟨pe_dnewK.weak fun s H Q ⟨p, l, S, R, L, h⟩ q hq => Post.new h R hq ⟨[], upd_same, rfl, .nil⟩⟩
end
end Ly
set_option Elab.async false
set_option linter.all false
set_option maxRecDepth 100000
namespace Ly
open PySem PySem.Spec L2
open PyProof.Rows hiding St
def mCall (op : List D → Hs → R D) (f : ML) : M := fun l S => (f l S).bind op
def CallOk (K : PySem.W.Frag) (E : St → XK) (r : List V → Hp → VK → Prop) (op : List D → Hs → R D) : Prop :=
  ∀ p S H ds vs Q, Real K p S H → Reps K p S.length H ds vs → Post K E S.length p H (op ds S) (QD K Q) → r vs H Q
abbrev orC (r r' : List V → Hp → VK → Prop) : List V → Hp → VK → Prop := fun xs H Q => r xs H Q ∨ r' xs H Q
section
variable {X : Cx} {E : St → XK} {e : Expr} {es : List Expr} {f : ML} {x : Str} {p pos : Pos} {id T : String} {r : List V → Hp → VK → Prop} {op : List D → Hs → R D}
theorem e_callB (hc : CallR X (.builtin id) r) (hk : CallOk X.K E r op) (hg : Gl X x) (hm : X.mg x = none) (hv : bootBuiltins x = some (.builtin id)) (ha : LM X E (e :: es) f) (hn : x ≠ "__name__" := by decide) (hdb : (x == ("__debug__" : Str)) = false := by decide)
    (he : starEach (e :: es) X.env = (false, eval e X.env) :: starEach es X.env := by rfl) (hpl : (backTo pos (starEach es X.env)).any (·.1) = false := by rfl) : EM X E (.Call (.Name x p) (e :: es) [] pos) (mCall op f) :=
  ⟨(pe_callB hc hg hm hv ha.pa hn hdb he hpl).weak fun s H Q ⟨p, l, S, R, L, h⟩ => TL.of R L h fun p1 S1 H1 d v R1 x1 L1 r1 h1 => hk p1 S1 H1 _ _ Q R1 r1 h1⟩
theorem e_callT (hc : CallR X (.type T) r) (hk : CallOk X.K E r op) (hg : Gl X x) (hm : X.mg x = none) (hv : bootBuiltins x = some (.type T)) (ha : LM X E (e :: es) f) (hn : x ≠ "__name__" := by decide) (hdb : (x == ("__debug__" : Str)) = false := by decide)
    (he : starEach (e :: es) X.env = (false, eval e X.env) :: starEach es X.env := by rfl) (hpl : (backTo pos (starEach es X.env)).any (·.1) = false := by rfl) : EM X E (.Call (.Name x p) (e :: es) [] pos) (mCall op f) :=
  ⟨(pe_callTy hc hg hm hv ha.pa hn hdb he hpl).weak fun s H Q ⟨p, l, S, R, L, h⟩ => TL.of R L h fun p1 S1 H1 d v R1 x1 L1 r1 h1 => hk p1 S1 H1 _ _ Q R1 r1 h1⟩
end
def lenD (x : D) (S : Hs) : Option Nat := match x with
  | .str y => if y.length ≤ sizeLine then some y.length else none
  | .tup xs => some xs.length
  | .wt xs => some xs.length
  | .wl xs => some xs.length
  | .ref i => match S[i]? with
    | some (.lst xs) => some xs.length
    | some (.rol xs) => some xs.length
    | some (.dic xs) => some xs.length
    | _ => none
  | _ => none
def bLen : List D → Hs → R D
  | [x], S => match lenD x S with
    | some n => .ok (.int (n : Int)) S
    | none => .bad
  | _, _ => .bad
def bInt : List D → Hs → R D
  | [.int i], S => .ok (.int i) S
  | [.bl b], S => .ok (.int (b2i b)) S
  | [.str x], S => match intText? x with
    | some n => if x.length ≤ 640 then .ok (.int n) S else .bad
    | none => .bad
  | _, _ => .bad
def bAbs : List D → Hs → R D
  | [.int i], S => .ok (.int (if i < 0 then -i else i)) S
  | _, _ => .bad
def intsD : List D → Option (List Int)
  | [] => some []
  | .int i :: r => (intsD r).map (i :: ·)
  | _ => none
def seqD (x : D) (S : Hs) : Option (List D) := match x with
  | .ref i => match S[i]? with
    | some (.lst xs) => some xs
    | some (.rol xs) => some xs
    | _ => none
  | .wl xs => some xs
  | _ => none
def leastI : Int → List Int → Int
  | m, [] => m
  | m, x :: r => leastI (if x < m then x else m) r
def bMin : List D → Hs → R D
  | [.int i, .int j], S => .ok (.int (if j < i then j else i)) S
  | [x], S => match (seqD x S).bind intsD with
    | some (n :: r) => .ok (.int (leastI n r)) S
    | _ => .bad
  | _, _ => .bad
def bTuple : List D → Hs → R D
  | [.tup xs], S => .ok (.tup xs) S
  | [.wt xs], S => .ok (.wt xs) S
  | [.ref i], S => match seqD (.ref i) S with
    | some xs => .ok (.tup xs) S
    | none => .bad
  | _, _ => .bad
def keyD : Key → D
  | .inl i => .int i
  | .inr x => .str x
def bList : List D → Hs → R D
  | [.tup xs], S => .ok (.ref S.length) (S ++ [.lst xs])
  | [.wt xs], S => .ok (.ref S.length) (S ++ [.lst xs])
  | [.ref i], S => match S[i]? with
    | some (.lst xs) => .ok (.ref S.length) (S ++ [.lst xs])
    | some (.rol xs) => .ok (.ref S.length) (S ++ [.lst xs])
    | some (.dic kvs) => .ok (.ref S.length) (S ++ [.lst (kvs.map fun kv => keyD kv.1)])
    | _ => .bad
  | _, _ => .bad
section
variable {K : PySem.W.Frag} {E : St → XK} {X : Cx}
abbrev rLenAll (K : PySem.W.Frag) : List V → Hp → VK → Prop := orC (fun xs H Q => ∃ x n, xs = [x] ∧ LenV K x H n ∧ Q (V.int ((n : Nat) : Int)) H) (fun xs H Q => ∃ a kvs, xs = [V.ref a] ∧ H a = some (.dK kvs) ∧ Q (V.int ((kvs.length : Nat) : Int)) H)
theorem cr_lenA : CallR X (.builtin "len") (rLenAll X.K) := CallR.or call_len call_lenD
theorem ok_len : CallOk K E (rLenAll K) bLen := by
  intro p S H ds vs Q R r h
  unfold bLen at h
  split at h
  · cases r with
    | cons r0 rs =>
    cases rs
    split at h
    · rename_i n e
      have hq : Q (V.int ((n : Nat) : Int)) H := h.val R (.int _)
      unfold lenD at e
      split at e
      · split at e
        · cases e; cases r0; exact .inl ⟨_, _, rfl, ⟨by assumption, rfl⟩, hq⟩
        · cases e
      · cases e
        cases r0 with
        | tup t r => exact .inl ⟨_, _, rfl, .inr ⟨_, SqT.of t, r.len⟩, hq⟩
      · cases e
        cases r0 with
        | wt t r => exact .inl ⟨_, _, rfl, .inr ⟨_, t.sq, r.len⟩, hq⟩
      · cases e
        cases r0 with
        | wl t r => exact .inl ⟨_, _, rfl, .inl ⟨_, t.sq, r.len⟩, hq⟩
      · split at e
        · rename_i q
          obtain ⟨vs, h1, r⟩ := R.lst q
          cases e; cases r0; exact .inl ⟨_, _, rfl, .inl ⟨_, SqL.of h1, r.len⟩, hq⟩
        · rename_i q
          obtain ⟨o, vs, h1, r⟩ := R.ob _ _ q
          cases e; cases r0; exact .inl ⟨_, _, rfl, .inl ⟨_, .inl (.inr ⟨o, h1⟩), r.len⟩, hq⟩
        · rename_i zs q
          obtain ⟨ks, h1, h2, h3⟩ := R.ob _ _ q
          cases e; cases r0
          have hl : ks.length = zs.length := by simpa using congrArg List.length h2
          exact .inr ⟨_, _, rfl, h1, by rw [hl]; exact hq⟩
        · cases e
      · cases e
    · exact h.elim
  · exact h.elim
abbrev rIntAll : List V → Hp → VK → Prop := orC (fun xs H Q => (∃ i, xs = [.int i] ∧ Q (.int i) H) ∨ ∃ k, xs = [.bl k] ∧ Q (.int (b2i k)) H) (fun xs H Q => ∃ a n, xs = [V.str a] ∧ intText? a = some n ∧ a.length ≤ 640 ∧ Q (V.int n) H)
theorem cr_intA : CallR X (.type "int") rIntAll := CallR.or call_int1 call_int_str
theorem ok_int : CallOk K E rIntAll bInt := by
  intro p S H ds vs Q R r h
  unfold bInt at h
  split at h
  · cases r with
    | cons r0 rs => cases rs; cases r0; exact .inl (.inl ⟨_, rfl, h.val R (.int _)⟩)
  · cases r with
    | cons r0 rs => cases rs; cases r0; exact .inl (.inr ⟨_, rfl, h.val R (.int _)⟩)
  · cases r with
    | cons r0 rs =>
    cases rs; cases r0
    split at h
    · rename_i n e
      split at h
      · rename_i hl; exact .inr ⟨_, _, rfl, e, hl, h.val R (.int _)⟩
      · exact h.elim
    · exact h.elim
  · exact h.elim
theorem ok_abs : CallOk K E (fun xs H Q => ∃ i, xs = [.int i] ∧ Q (.int (if i < 0 then -i else i)) H) bAbs := by
  intro p S H ds vs Q R r h
  unfold bAbs at h
  split at h
  · cases r with
    | cons r0 rs => cases rs; cases r0; exact ⟨_, rfl, h.val R (.int _)⟩
  · exact h.elim
theorem ints_V {pi : Nat → Addr} {n : Nat} {H : Hp} {ds : List D} {vs : List V} {ns : List Int} (r : Reps K pi n H ds vs) (h : intsD ds = some ns) : vs = ns.map V.int := by
  induction ds generalizing vs ns with
  | nil => cases r; simp [intsD] at h; subst h; rfl
  | cons d ds ih =>
    cases r with
    | cons r s =>
      cases r <;> simp [intsD] at h
      obtain ⟨ms, h1, rfl⟩ := h
      rw [ih s h1]; rfl
theorem seq_V {p : Nat → Addr} {S : Hs} {H : Hp} {x : D} {v : V} {ds : List D} (R : Real K p S H) (r : Rep K p S.length H x v) (h : seqD x S = some ds) : ∃ a vs, v = .ref a ∧ SqL K H a vs ∧ Reps K p S.length H ds vs := by
  unfold seqD at h
  split at h
  · split at h
    · rename_i q
      cases h; cases r
      obtain ⟨vs, h1, r⟩ := R.lst q
      exact ⟨_, vs, rfl, SqL.of h1, r⟩
    · rename_i q
      cases h; cases r
      obtain ⟨o, vs, h1, r⟩ := R.ob _ _ q
      exact ⟨_, vs, rfl, .inl (.inr ⟨o, h1⟩), r⟩
    · cases h
  · cases h
    cases r with
    | wl t r => exact ⟨_, _, rfl, t.sq, r⟩
  · cases h
theorem leastI_le (r : List Int) : ∀ m, leastI m r ≤ m ∧ (∀ y ∈ r, leastI m r ≤ y) ∧ (leastI m r = m ∨ leastI m r ∈ r) := by
  induction r with
  | nil => intro m; exact ⟨Int.le_refl _, by simp, .inl rfl⟩
  | cons x r ih =>
    intro m
    obtain ⟨h1, h2, h3⟩ := ih (if x < m then x else m)
    simp only [leastI]
    refine ⟨?_, fun y hy => ?_, ?_⟩
    · split at h1 <;> split <;> omega
    · rcases List.mem_cons.mp hy with rfl | hy
      · split at h1 <;> split <;> omega
      · exact h2 y hy
    · rcases h3 with h3 | h3
      · rw [h3]; split
        · exact .inr (List.mem_cons_self ..)
        · exact .inl rfl
      · exact .inr (List.mem_cons_of_mem _ h3)
abbrev rMin2 : List V → Hp → VK → Prop := fun xs H Q => ∃ i j, xs = [V.int i, V.int j] ∧ Q (V.int (if j < i then j else i)) H
theorem cr_minA (hc : X.calm = true) : CallR X (.builtin "min") (orC rMin2 (rMin X.K)) := CallR.or (call_min2 hc) (cr_min hc)
theorem ok_min : CallOk K E (orC rMin2 (rMin K)) bMin := by
  intro p S H ds vs Q R r h
  unfold bMin at h
  split at h
  · cases r with
    | cons r0 rs => cases rs with | cons r1 rs => cases rs; cases r0; cases r1; exact .inl ⟨_, _, rfl, h.val R (.int _)⟩
  · split at h
    · rename_i n t e
      rw [Option.bind_eq_some_iff] at e
      obtain ⟨ds, e1, e2⟩ := e
      cases r with
      | cons r0 rs =>
      cases rs
      obtain ⟨a, vs, rfl, hs, r⟩ := seq_V R r0 e1
      rw [ints_V r e2] at hs
      have hq : Q _ H := h.val R (.int _)
      refine .inr ⟨a, _, rfl, hs, by simp, fun m hm hle => ?_⟩
      obtain ⟨h1, h2, h3⟩ := leastI_le t n
      have : m = leastI n t := by
        have a1 : leastI n t ≤ m := by
          rcases List.mem_cons.mp hm with rfl | hm
          · exact h1
          · exact h2 m hm
        have a2 : m ≤ leastI n t := hle _ (h3.elim (fun e => by rw [e]; exact List.mem_cons_self ..) (List.mem_cons_of_mem _))
        omega
      rw [this]; exact hq
    · exact h.elim
  · exact h.elim
abbrev rTupleOf (K : PySem.W.Frag) : List V → Hp → VK → Prop := fun xs H Q => ∃ p ys, xs = [V.ref p] ∧ ((SqL K H p ys ∧ ∀ l, H l = none → Q (V.ref l) (upd H l (.tup ys))) ∨ SqT K H p ys ∧ Q (V.ref p) H)
theorem ok_tuple : CallOk K E (rTupleOf K) bTuple := by
  intro p S H ds vs Q R r h
  unfold bTuple at h
  split at h
  · cases r with
    | cons r0 rs =>
    cases rs
    cases r0 with
    | tup t r => exact ⟨_, _, rfl, .inr ⟨SqT.of t, h.val R (.tup t r)⟩⟩
  · cases r with
    | cons r0 rs =>
    cases rs
    cases r0 with
    | wt t r => exact ⟨_, _, rfl, .inr ⟨t.sq, h.val R (.wt t r)⟩⟩
  · split at h
    · rename_i e
      cases r with
      | cons r0 rs =>
      cases rs
      obtain ⟨a, vs, rfl, hs, r⟩ := seq_V R r0 e
      exact ⟨a, vs, rfl, .inl ⟨hs, fun q hq => h.valT R r hq⟩⟩
    · exact h.elim
  · exact h.elim
abbrev rListOf (K : PySem.W.Frag) : List V → Hp → VK → Prop := fun xs H Q => ∃ p ys, xs = [V.ref p] ∧ (SqL K H p ys ∨ SqT K H p ys) ∧ ∀ l, H l = none → Q (V.ref l) (upd H l (.lst ys))
abbrev rListD : List V → Hp → VK → Prop := fun xs H Q => ∃ (a : Addr) (kvs : List (Key × V)), xs = [.ref a] ∧ Rd H a (.dK kvs) ∧ ∀ p, H p = none → Q (.ref p) (upd H p (.lst (kvs.map fun kv => kV kv.1)))
theorem cr_listA (hc : X.calm = true) : CallR X (.type "list") (orC (rListOf X.K) rListD) := CallR.or call_list_of (call_listD hc)
theorem keyD_V {pi : Nat → Addr} {n : Nat} {H : Hp} (k : Key) : Rep K pi n H (keyD k) (kV k) := by cases k <;> constructor
theorem keysD_V {pi : Nat → Addr} {n : Nat} {H : Hp} {kvs : List (Key × D)} {ks : List (Key × V)} (h : ks.map (·.1) = kvs.map (·.1)) : Reps K pi n H (kvs.map fun kv => keyD kv.1) (ks.map fun kv => kV kv.1) := by
  induction kvs generalizing ks with
  | nil => cases ks with | nil => exact .nil | cons a b => cases h
  | cons a kvs ih =>
    cases ks with
    | nil => cases h
    | cons b ks =>
      simp only [List.map_cons, List.cons.injEq] at h
      simp only [List.map_cons]
      exact .cons (by rw [h.1]; exact keyD_V _) (ih h.2)
theorem ok_list : CallOk K E (orC (rListOf K) rListD) bList := by
  intro p S H ds vs Q R r h
  unfold bList at h
  split at h
  · cases r with
    | cons r0 rs =>
    cases rs
    cases r0 with
    | tup t r => exact .inl ⟨_, _, rfl, .inr (SqT.of t), fun q hq => h.newL R r hq⟩
  · cases r with
    | cons r0 rs =>
    cases rs
    cases r0 with
    | wt t r => exact .inl ⟨_, _, rfl, .inr t.sq, fun q hq => h.newL R r hq⟩
  · cases r with
    | cons r0 rs =>
    cases rs
    split at h
    · rename_i q
      obtain ⟨vs, h1, r⟩ := R.lst q
      cases r0
      exact .inl ⟨_, _, rfl, .inl (SqL.of h1), fun q hq => h.newL R r hq⟩
    · rename_i q
      obtain ⟨o, vs, h1, r⟩ := R.ob _ _ q
      cases r0
      exact .inl ⟨_, _, rfl, .inl (.inl (.inr ⟨o, h1⟩)), fun q hq => h.newL R r hq⟩
    · rename_i q
      obtain ⟨ks, h1, h2, h3⟩ := R.ob _ _ q
      cases r0
      exact .inr ⟨_, _, rfl, .inl h1, fun q hq => h.newL R (keysD_V h2) hq⟩
    · exact h.elim
  · exact h.elim
end
section
variable {X : Cx} {E : St → XK} {e : Expr} {f : ML} {p pos : Pos} {es : List Expr}
theorem c_len (hm : X.mg "len" = none) (ha : LM X E [e] f) (hg : Gl X "len" := by rfl) (he : starEach [e] X.env = (false, eval e X.env) :: starEach [] X.env := by rfl) : EM X E (.Call (.Name "len" p) [e] [] pos) (mCall bLen f) := e_callB cr_lenA ok_len hg hm (by decide +kernel) ha (by decide) (by decide) he (by rfl)
theorem c_int (hm : X.mg "int" = none) (ha : LM X E [e] f) (hg : Gl X "int" := by rfl) (he : starEach [e] X.env = (false, eval e X.env) :: starEach [] X.env := by rfl) : EM X E (.Call (.Name "int" p) [e] [] pos) (mCall bInt f) := e_callT cr_intA ok_int hg hm (by decide +kernel) ha (by decide) (by decide) he (by rfl)
theorem c_abs (hm : X.mg "abs" = none) (ha : LM X E [e] f) (hg : Gl X "abs" := by rfl) (he : starEach [e] X.env = (false, eval e X.env) :: starEach [] X.env := by rfl) : EM X E (.Call (.Name "abs" p) [e] [] pos) (mCall bAbs f) := e_callB call_abs ok_abs hg hm (by decide +kernel) ha (by decide) (by decide) he (by rfl)
theorem c_tuple (hm : X.mg "tuple" = none) (ha : LM X E [e] f) (hg : Gl X "tuple" := by rfl) (he : starEach [e] X.env = (false, eval e X.env) :: starEach [] X.env := by rfl) : EM X E (.Call (.Name "tuple" p) [e] [] pos) (mCall bTuple f) := e_callT call_tuple_of ok_tuple hg hm (by decide +kernel) ha (by decide) (by decide) he (by rfl)
theorem c_list (hc : X.calm = true) (hm : X.mg "list" = none) (ha : LM X E [e] f) (hg : Gl X "list" := by rfl) (he : starEach [e] X.env = (false, eval e X.env) :: starEach [] X.env := by rfl) : EM X E (.Call (.Name "list" p) [e] [] pos) (mCall bList f) := e_callT (cr_listA hc) ok_list hg hm (by decide +kernel) ha (by decide) (by decide) he (by rfl)
theorem c_min (hc : X.calm = true) (hm : X.mg "min" = none) (ha : LM X E (e :: es) f) (hg : Gl X "min" := by rfl) (he : starEach (e :: es) X.env = (false, eval e X.env) :: starEach es X.env := by rfl) (hpl : (backTo pos (starEach es X.env)).any (·.1) = false := by rfl) : EM X E (.Call (.Name "min" p) (e :: es) [] pos) (mCall bMin f) := e_callB (cr_minA hc) ok_min hg hm (by decide +kernel) ha (by decide) (by decide) he hpl
end
end Ly
set_option Elab.async false
set_option linter.all false
set_option maxRecDepth 100000
namespace Ly
open PySem PySem.Spec L2
open PyProof.Rows hiding St
def hasTy (T : String) (x : D) (S : Hs) : Bool := match x with
  | .str _ => decide (T = "str")
  | .int _ => decide (T = "int")
  | .ref i => match S[i]? with
    | some (.lst _) => decide (T = "list")
    | some (.rol _) => decide (T = "list")
    | some (.dic _) => decide (T = "dict")
    | some (.dit _) => decide (T = "dict")
    | _ => false
  | _ => false
theorem hasTy_V {K : PySem.W.Frag} {T : String} {p : Nat → Addr} {S : Hs} {H : Hp} {x : D} {v : V} (R : Real K p S H) (r : Rep K p S.length H x v) (h : hasTy T x S = true) : tyV K T v H := by
  unfold hasTy at h
  cases r with
  | str x => exact of_decide_eq_true (p := T = "str") h
  | int x => exact of_decide_eq_true (p := T = "int") h
  | ref hi =>
    simp only at h
    split at h
    · rename_i q
      obtain ⟨vs, h1, r⟩ := R.lst q
      exact .inl ⟨of_decide_eq_true h, _, SqL.of h1⟩
    · rename_i q
      obtain ⟨o, vs, h1, r⟩ := R.ob _ _ q
      exact .inl ⟨of_decide_eq_true h, _, .inl (.inr ⟨o, h1⟩)⟩
    · rename_i q
      obtain ⟨ks, h1, _⟩ := R.ob _ _ q
      exact .inr (.inr (.inl ⟨of_decide_eq_true h, .inl ⟨_, h1⟩⟩))
    · rename_i q
      obtain ⟨ks, h1, _⟩ := R.ob _ _ q
      exact .inr (.inr (.inl ⟨of_decide_eq_true h, .inr ⟨_, h1⟩⟩))
    · cases h
  | _ => cases h
def mBM (Tn : String) (op : D → List D → Hs → R D) (f : M) (g : ML) : M := fun l S => (f l S).bind fun x S1 => if hasTy Tn x S1 = true then (g l S1).bind fun ds S2 => op x ds S2 else .bad
def MtOk (K : PySem.W.Frag) (E : St → XK) (r : V → List V → Hp → VK → Prop) (op : D → List D → Hs → R D) : Prop :=
  ∀ p S H x v ds vs Q, Real K p S H → Rep K p S.length H x v → Reps K p S.length H ds vs → Post K E S.length p H (op x ds S) (QD K Q) → r v vs H Q
section
variable {X : Cx} {E : St → XK} {o e : Expr} {es : List Expr} {f : M} {g : ML} {name : Str} {apos cpos : Pos} {Tn id : String} {r : V → List V → Hp → VK → Prop} {op : D → List D → Hs → R D}
theorem e_bm (pa : PlainAttrs Tn) (slot : Slot Tn name id) (hty : typeOf (.builtin id) = pure (.type "method_descriptor")) (hm : MtR X id r) (hk : MtOk X.K E r op) (ho : EM X E o f) (ha : LM X E (e :: es) g)
    (hbase : attributeBase o name X.env (eval o X.env) = eval o X.env := by rfl)
    (hfew : ((backTo cpos (starEach (e :: es) X.env)).all (fun x => !x.1) && (backToKw cpos (keywordEach [] X.env)).all (fun x => x.1.isSome)
      && decide ((e :: es).length + ([] : List Keyword).length + (if ([] : List Keyword).isEmpty then 0 else 1) < 30)) = true := by rfl)
    (hline : (apos.endLine == cpos.line) = true := by rfl) (hs : starEach (e :: es) X.env = (false, eval e X.env) :: starEach es X.env := by rfl) (hplain : (backTo cpos (starEach es X.env)).any (·.1) = false := by rfl) :
    EM X E (.Call (.Attribute o name apos) (e :: es) [] cpos) (mBM Tn op f g) :=
  ⟨(pe_bm pa slot hty hm ho.pe ha.pa hbase hfew hline hs hplain).weak fun s H Q ⟨p, l, S, R, L, h⟩ => T.of R L h fun p1 S1 H1 d v R1 x1 L1 r1 h1 => by
    split at h1
    · rename_i ht
      exact ⟨hasTy_V R1 r1 ht, TL.of R1 L1 h1 fun p2 S2 H2 d2 v2 R2 x2 L2 r2 h2 => hk p2 S2 H2 _ _ _ _ Q R2 (r1.ext x2 _ _) r2 h2⟩
    · exact h1.elim⟩
end
def oAppend (x : D) (ds : List D) (S : Hs) : R D := match x, ds with
  | .ref i, [y] => match S[i]? with
    | some (.lst xs) => if xs.length < sizeLine then .ok .non (S.set i (.lst (xs ++ [y]))) else .bad
    | _ => .bad
  | _, _ => .bad
section
variable {K : PySem.W.Frag} {E : St → XK} {X : Cx}
theorem ok_append : MtOk K E rAppend oAppend := by
  intro p S H x v ds vs Q R rx r h
  unfold oAppend at h
  split at h
  · split at h
    · rename_i y _ xs q
      split at h
      · rename_i hl
        obtain ⟨us, h1, r1⟩ := R.lst q
        cases rx
        cases r with
        | cons r0 rs =>
        cases rs
        have hi := Real.lt q
        refine ⟨_, us, _, rfl, rfl, h1, by rw [← r1.len]; exact hl, h.put R hi ⟨_, upd_same, ?_⟩ .non⟩
        exact (r1.ext (ext_upd (R.notup hi)) _ _).append (.cons (r0.ext (ext_upd (R.notup hi)) _ _) .nil)
      · exact h.elim
    · exact h.elim
  · exact h.elim
end
def mSet (i : Nat) (f : M) : MS := fun l S => (f l S).bind fun d S1 => .ok (.nx (l.set i (some d))) S1
def mExpr (f : M) : MS := fun l S => (f l S).bind fun _ S1 => .ok (.nx l) S1
def mRet (f : M) : MS := fun l S => (f l S).bind fun d S1 => .ok (.rt d) S1
def mRetN : MS := fun _ S => .ok (.rt .non) S
def mPass : MS := fun l S => .ok (.nx l) S
def mBrk : MS := fun l S => .ok (.bk l) S
def mCnt : MS := fun l S => .ok (.ct l) S
def mSeq (f g : MS) : MS := fun l S => (f l S).bind fun r S1 => match r with
  | .nx l1 => g l1 S1
  | r => .ok r S1
def mIfS (c : MB) (f g : MS) : MS := fun l S => (c l S).bind fun b S1 => if b = true then f l S1 else g l S1
section
variable {X : Cx} {E : St → XK} {st : Stmt} {sts : List Stmt} {f g : MS} {e : Expr} {m : M} {pos : Pos}
theorem Post.nx {K : PySem.W.Frag} {D0 : Ends} {p : Nat → Addr} {S : Hs} {H : Hp} {l : Ls} {s : St} (h : Post K E S.length p H (.ok (.nx l) S) (QF K D0)) (R : Real K p S H) (L : Sl K p S.length H l s) : D0.nx s H := Post.ok (Q := QF K D0) h Ext.refl R s L
theorem SMs.nil : SMs X E [] mPass := ⟨pss_nil.weak fun s H D0 ⟨p, l, S, R, L, h⟩ => Post.nx h R L⟩
theorem SMs.cons (h1 : SM X E st f) (h2 : SMs X E sts g) : SMs X E (st :: sts) (mSeq f g) := ⟨(pss_cons h1.ps h2.ps).weak fun s H D0 ⟨p, l, S, R, L, h⟩ => by
  refine ⟨p, l, S, R, L, (Post.bind (r := f l S) h).mono fun a S1 p1 H1 _ x R1 q => ?_⟩
  cases a with
  | nx l1 => exact fun s1 L1 => ⟨p1, l1, S1, R1, L1, q⟩
  | rt d => exact fun v r => Post.ok (Q := QF _ D0) q Ext.refl R1 v r
  | bk l1 => exact fun v r => Post.ok (Q := QF _ D0) q Ext.refl R1 v r
  | ct l1 => exact fun v r => Post.ok (Q := QF _ D0) q Ext.refl R1 v r⟩
theorem SMs.one (h1 : SM X E st f) : SMs X E [st] f := ⟨pss_one h1.ps⟩
theorem s_set {i : Nat} {x : Str} {pos' : Pos} (hN : X.N.Nodup) (he : EM X E e m) (hi : X.N[i]? = some x := by rfl) (hx : L2.Loc X.env.scope x := by first | exact Or.inl rfl | exact Or.inr rfl)
    (hs : swapsWith e (some (.Name x pos')) pos.line X.env = pure false := by rfl) (hf : X.fn x = true ∨ X.env.scope.names.lookup x = some .local := by first | exact .inl rfl | exact .inr rfl | assumption) :
    SM X E (.Assign [.Name x pos'] e pos) (mSet i m) :=
  ⟨(ps_set hN hi hx he.pe hs hf).weak fun s H D0 ⟨p, l, S, R, L, h⟩ => T.of R L h fun p1 S1 H1 d v R1 x1 L1 r1 h1 => Post.nx h1 R1 (L1.set i r1)⟩
theorem s_expr (he : EM X E e m) (hs : swapsWith e none pos.line X.env = pure false := by rfl) : SM X E (.Expr e pos) (mExpr m) :=
  ⟨(ps_expr he.pe hs).weak fun s H D0 ⟨p, l, S, R, L, h⟩ => T.of R L h fun p1 S1 H1 d v R1 x1 L1 r1 h1 => Post.nx h1 R1 L1⟩
theorem s_ret (he : EM X E e m) : SM X E (.Return (some e) pos) (mRet m) :=
  ⟨(ps_ret he.pe).weak fun s H D0 ⟨p, l, S, R, L, h⟩ => T.of R L h fun p1 S1 H1 d v R1 x1 L1 r1 h1 => Post.ok (Q := QF _ D0) h1 Ext.refl R1 v r1⟩
theorem TSt.last {K : PySem.W.Frag} {s : St} {H : Hp} {D0 : Ends} {p : Nat → Addr} {l : Ls} {S : Hs} (R : Real K p S H) (L : Sl K p S.length H l s) (h : Post K E S.length p H (f l S) (QF K D0)) : TSt K E f D0 s H := ⟨p, l, S, R, L, h⟩
theorem s_if {c : Expr} {a b : List Stmt} {cm : MB} (hc : BM X E c cm) (ha : SMs X E a f) (hb : SMs X E b g) : SM X E (.If c a b pos) (mIfS cm f g) :=
  ⟨(ps_if hc.pt ha.ps hb.ps).weak fun s H D0 ⟨p, l, S, R, L, h⟩ => TB.of R L h fun p1 S1 H1 b R1 x1 L1 h1 => by
    cases b with
    | true => exact TSt.last R1 L1 h1
    | false => exact TSt.last R1 L1 h1⟩
end
def iter {A β : Type} (step : A → Sum A (R β)) : Nat → A → R β
  | 0, _ => .bad
  | n + 1, a => Sum.elim (iter step n) id (step a)
theorem iter_succ {A β : Type} (step : A → Sum A (R β)) : ∀ n a, iter step n a ≠ .bad → iter step (n + 1) a = iter step n a
  | 0, a, h => absurd rfl h
  | n + 1, a, h => by
    simp only [iter] at h ⊢
    cases e : step a with
    | inl a' => rw [e] at h; exact iter_succ step n a' h
    | inr r => rfl
theorem iter_le {A β : Type} (step : A → Sum A (R β)) {n m : Nat} (hnm : n ≤ m) {a : A} (h : iter step n a ≠ .bad) : iter step m a = iter step n a := by
  induction hnm with
  | refl => rfl
  | step _ ih => rw [iter_succ step _ a (by rw [ih]; exact h), ih]
open Classical in
noncomputable def runI {A β : Type} (step : A → Sum A (R β)) (a : A) : R β := if h : ∃ n, iter step n a ≠ .bad then iter step h.choose a else .bad
theorem runI_of {A β : Type} {step : A → Sum A (R β)} {n : Nat} {a : A} (h : iter step n a ≠ .bad) : runI step a = iter step n a := by
  have hx : ∃ n, iter step n a ≠ .bad := ⟨n, h⟩
  unfold runI
  rw [dif_pos hx]
  rcases Nat.le_total n hx.choose with q | q
  · exact iter_le step q h
  · exact (iter_le step q hx.choose_spec).symm
theorem runI_ex {A β : Type} {step : A → Sum A (R β)} {a : A} (h : runI step a ≠ .bad) : ∃ n, iter step n a = runI step a ∧ iter step n a ≠ .bad := by
  apply Classical.byContradiction
  intro hx
  refine h ?_
  have : ¬ ∃ n, iter step n a ≠ .bad := fun ⟨n, hn⟩ => hx ⟨n, (runI_of hn).symm, hn⟩
  unfold runI; rw [dif_neg this]
theorem runI_eq {A β : Type} (step : A → Sum A (R β)) (a : A) : runI step a = match step a with
    | .inl a' => runI step a'
    | .inr r => r := by
  cases e : step a with
  | inr r =>
    show runI step a = r
    by_cases hr : r = .bad
    · subst hr
      apply Classical.byContradiction
      intro h
      obtain ⟨n, _, hn⟩ := runI_ex h
      cases n with
      | zero => exact hn rfl
      | succ n => simp only [iter, e] at hn; exact hn rfl
    · have : iter step 1 a = r := by simp only [iter, e]; rfl
      rw [runI_of (n := 1) (by rw [this]; exact hr), this]
  | inl a' =>
    show runI step a = runI step a'
    by_cases h : runI step a' = .bad
    · rw [h]
      apply Classical.byContradiction
      intro h2
      obtain ⟨n, _, hn⟩ := runI_ex h2
      cases n with
      | zero => exact hn rfl
      | succ n =>
        simp only [iter, e] at hn
        exact hn (by rw [Sum.elim_inl, ← runI_of hn]; exact h)
    · obtain ⟨n, e1, hn⟩ := runI_ex h
      have : iter step (n + 1) a = iter step n a' := by simp only [iter, e]; rfl
      rw [runI_of (n := n + 1) (by rw [this]; exact hn), this, e1]
def turnOf {A : Type} (r : R F) (next : Ls → Hs → A) : Sum A (R F) := match r with
  | .ok (.nx l) S => .inl (next l S)
  | .ok (.ct l) S => .inl (next l S)
  | .ok (.bk l) S => .inr (.ok (.nx l) S)
  | .ok (.rt d) S => .inr (.ok (.rt d) S)
  | .exc c fs l S => .inr (.exc c fs l S)
  | .bad => .inr .bad
def wStep (c : MB) (b : MS) (a : Ls × Hs) : Sum (Ls × Hs) (R F) := match c a.1 a.2 with
  | .ok t S1 => if t = true then turnOf (b a.1 S1) Prod.mk else .inr (.ok (.nx a.1) S1)
  | .exc c fs l S => .inr (.exc c fs l S)
  | .bad => .inr .bad
noncomputable def mWhile (c : MB) (b : MS) : MS := fun l S => runI (wStep c b) (l, S)
theorem mWhile_eq (c : MB) (b : MS) (l : Ls) (S : Hs) : mWhile c b l S = (c l S).bind fun t S1 => if t = true then (b l S1).bind fun r S2 => match r with
    | .nx l2 => mWhile c b l2 S2
    | .ct l2 => mWhile c b l2 S2
    | .bk l2 => .ok (.nx l2) S2
    | .rt d => .ok (.rt d) S2
    else .ok (.nx l) S1 := by
  unfold mWhile
  rw [runI_eq]
  unfold wStep turnOf
  simp only []
  cases c l S with
  | ok t S1 =>
    cases t with
    | false => rfl
    | true =>
      simp only [if_true, R.bind_ok]
      cases b l S1 with
      | ok r S2 => cases r <;> rfl
      | exc _ _ _ _ => rfl
      | bad => rfl
  | exc _ _ _ _ => rfl
  | bad => rfl
theorem Post.ne {α : Type} {K : PySem.W.Frag} {E : St → XK} {n : Nat} {p : Nat → Addr} {H : Hp} {r : R α} {Q : α → Hs → (Nat → Addr) → Hp → Prop} (h : Post K E n p H r Q) : r ≠ .bad := fun e => by subst e; exact h
section
variable {X : Cx} {E : St → XK} {g : MS} {pos : Pos}
theorem turn_post {K : PySem.W.Frag} {A : Type} {step : A → Sum A (R F)} {m : Nat} {p : Nat → Addr} {S : Hs} {H : Hp} {D0 : Ends} {r : R F} {next : Ls → Hs → A} {N : St → Hp → Prop}
    (h : Post K E S.length p H (Sum.elim (iter step m) id (turnOf r next)) (QF K D0))
    (hN : ∀ l S2 p2 H2 s, Ext S.length S2.length p p2 H H2 → Real K p2 S2 H2 → Sl K p2 S2.length H2 l s → Post K E S2.length p2 H2 (iter step m (next l S2)) (QF K D0) → N s H2) :
    Post K E S.length p H r (QF K { D0 with nx := N, ct := N, bk := D0.nx }) := by
  unfold turnOf at h
  cases r with
  | ok f S2 =>
    intro p2 H2 x R2
    cases f with
    | nx l => exact fun s L => hN l S2 p2 H2 s x R2 L (Post.ext h x)
    | ct l => exact fun s L => hN l S2 p2 H2 s x R2 L (Post.ext h x)
    | bk l => exact fun s L => Post.nx (Post.ext h x) R2 L
    | rt d => exact fun v r => Post.ok (Q := QF _ D0) (Post.ext h x) Ext.refl R2 v r
  | exc c fs l S2 => exact h
  | bad => exact h
theorem s_while {c : Expr} {body : List Stmt} {cm : MB} (hp : PassesOwn (model X.prog X.w) X.A X.env X.xe) (hc : BM X E c cm) (hb : SMs X E body g) : SM X E (.While c body [] pos) (mWhile cm g) :=
  ⟨(ps_while hp hc.pt hb.ps).weak fun s H D0 ⟨p, l, S, R, L, h⟩ => by
    obtain ⟨n, hn, _⟩ := runI_ex (Post.ne h)
    rw [show mWhile cm g l S = _ from hn.symm] at h
    refine ⟨fun m s H => ∃ p l S, Real X.K p S H ∧ Sl X.K p S.length H l s ∧ Post X.K E S.length p H (iter (wStep cm g) m (l, S)) (QF X.K D0), ⟨n, p, l, S, R, L, h⟩, ?_⟩
    rintro m s H ⟨p, l, S, R, L, h⟩
    cases m with
    | zero => exact h.elim
    | succ m =>
      simp only [iter, wStep] at h
      refine ⟨p, l, S, R, L, ?_⟩
      cases e : cm l S with
      | bad => rw [e] at h; exact h
      | exc c fs l2 S2 => rw [e] at h; exact h
      | ok t S1 =>
        rw [e] at h
        simp only [] at h
        intro p1 H1 x R1
        cases t with
        | false => exact Post.nx (Post.ext h x) R1 (L.ext x)
        | true =>
          simp only [if_true] at h ⊢
          exact ⟨fun s H => ∃ p l S, Real X.K p S H ∧ Sl X.K p S.length H l s ∧ Post X.K E S.length p H (iter (wStep cm g) m (l, S)) (QF X.K D0), fun s' H' w => ⟨m, Nat.lt_succ_self m, w⟩, p1, l, S1, R1, L.ext x,
            turn_post (Post.ext h x) fun l2 S2 p2 H2 s2 _ R2 L2 h2 => ⟨p2, l2, S2, R2, L2, h2⟩⟩⟩
end
end Ly
set_option Elab.async false
set_option linter.all false
set_option maxRecDepth 100000
namespace Ly
open PySem PySem.Spec L2
open PyProof.Rows hiding St
def R.at {α : Type} (r : R α) (l : Ls) : R α := match r with
  | .exc c fs _ S => .exc c fs l S
  | r => r
@[simp] theorem R.at_ok {α : Type} (a : α) (S : Hs) (l : Ls) : (R.ok a S).at l = .ok a S := (show (R.ok a S).at l = .ok a S from rfl).trans (Eq.refl _)
@[simp] theorem R.at_exc {α : Type} (c fs l2) (S : Hs) (l : Ls) : (R.exc c fs l2 S : R α).at l = .exc c fs l S := (show (R.exc c fs l2 S : R α).at l = .exc c fs l S from rfl).trans (Eq.refl _)
@[simp] theorem R.at_bad {α : Type} (l : Ls) : (R.bad : R α).at l = .bad := rfl
abbrev MD := List D → Hs → R D
def endOf (r : R F) : R D := match r with
  | .ok (.nx _) S => .ok .non S
  | .ok (.rt d) S => .ok d S
  | .ok _ _ => .bad
  | .exc c fs _ S => .exc c fs [] S
  | .bad => .bad
def mDef (np nl : Nat) (body : MS) : MD := fun ds S => if ds.length = np then endOf (body (ds.map some ++ List.replicate nl none) S) else .bad
def spM (K : PySem.W.Frag) (np : Nat) (m : MD) : Sp := fun vs H Q E => ∃ p S ds, Real K p S H ∧ Reps K p S.length H ds vs ∧ ds.length = np ∧ Post K (fun _ => E) S.length p H (m ds S) (QD K Q)
theorem spM_len {K : PySem.W.Frag} {np : Nat} {m : MD} {vs : List V} {H : Hp} {Q : VK} {E : XK} (h : spM K np m vs H Q E) : vs.length = np := by
  obtain ⟨p, S, ds, R, r, hl, _⟩ := h
  rw [← r.len]; exact hl
theorem Reps.sl {K : PySem.W.Frag} {p : Nat → Addr} {n : Nat} {H : Hp} {ds : List D} {vs : List V} (r : Reps K p n H ds vs) (m : Nat) : Sl K p n H (ds.map some ++ List.replicate m none) (vs.map some ++ List.replicate m none) := by
  induction ds generalizing vs with
  | nil =>
    cases r
    simp only [List.map_nil, List.nil_append]
    induction m with
    | zero => exact .nil
    | succ m ih => exact .no _ ih
  | cons d ds ih => cases r with | cons r s => exact .yes r (ih s)
section
variable {P : Program} {w : World} {K : PySem.W.Frag} {mg : Str → Option Value} {base : Heap}
theorem fn_def {x qual : Str} {st : Stmt} {f : Addr} {fd : FuncData} {N ps : List Str} {k : Nat} {np nl : Nat} {m : MS} (F : Fun K x qual st f fd) (S : FnScope N ps (defScope st)) (hp : ps.length = np) (hn : N.length = np + nl)
    (hb : ∀ (cdv : Value) (A : Around) (outer : List Env) (s : Shared) (H : Hp) (E : XK), Room k (A.deeper (PyProof.Rows.envOfC qual (defScope st) s.heap.objs.size f cdv)) →
      SMs (cxOf (L2.CX P w) P w K mg base N qual (defScope st) f cdv A outer s H E) (fun _ => E) (defBody st) m) : FnOk P w K mg base (L2.CX P w) (k + 1) f fd ps (spM K np (mDef np nl m)) := by
  refine F.okX S (fun vs H Q E h => (spM_len h).trans hp.symm) fun cdv A outer s H vs Q E hr h => ⟨_, (hb cdv A outer s H E hr).ps, ?_⟩
  obtain ⟨p, S0, ds, R, r, hl, h⟩ := h
  have e : L2.start N vs = vs.map some ++ List.replicate nl none := by
    unfold L2.start
    rw [hn, ← r.len, hl, Nat.add_sub_cancel_left]
  refine ⟨p, ds.map some ++ List.replicate nl none, S0, R, by rw [e]; exact r.sl nl, ?_⟩
  unfold mDef at h
  rw [if_pos hl] at h
  revert h
  generalize m _ S0 = res
  intro h
  cases res with
  | ok a S1 =>
    intro p1 H1 x1 R1
    cases a with
    | nx l1 => exact fun s1 L1 => Post.ok (Q := QD K Q) h x1 R1 _ .non
    | rt d => exact fun v r => Post.ok (Q := QD K Q) h x1 R1 v r
    | bk l1 => exact h.elim
    | ct l1 => exact h.elim
  | exc c fs l S1 => exact fun p1 H1 u d s1 x1 R1 rc rf L1 => h p1 H1 u d [] x1 R1 rc rf .nil
  | bad => exact h
theorem pass_def {N : List Str} {qual : Str} {scope : Scope} {f : Addr} {cdv : Value} {A : Around} {outer : List Env} {s : Shared} {H : Hp} {E : XK} :
    Passes (L2.CX P w) (cxOf (L2.CX P w) P w K mg base N qual scope f cdv A outer s H E) E :=
  passes_call (takes_of rfl rfl rfl rfl) fun _ _ _ _ h => h
end
section
variable {X : Cx} {E : St → XK} {CX : CXT} {k : Nat} {f C : Addr} {fd : FuncData} {ps : List Str} {np : Nat} {md : MD} {x m : Str} {p pos apos : Pos} {e o : Expr} {es : List Expr} {g : ML} {E0 : XK}
def mFn (md : MD) (g : ML) : M := fun l S => (g l S).bind fun ds S1 => (md ds S1).at l
theorem fn_post {α : Type} {K : PySem.W.Frag} {n : Nat} {q : Nat → Addr} {H : Hp} {r : R α} {l : Ls} {s : St} {Q : α → Hs → (Nat → Addr) → Hp → Prop} (L : Sl K q n H l s) (h : Post K E n q H (r.at l) Q) : Post K (fun _ => E s) n q H r Q := by
  cases r with
  | ok a S => exact h
  | exc c fs l2 S => exact fun p1 H1 u d s1 x1 R1 rc rf L1 => h p1 H1 u d s x1 R1 rc rf (L.ext x1)
  | bad => exact h
theorem e_fn (F : FnOk X.prog X.w X.K X.mg X.base CX k f fd ps (spM X.K np md)) (hp : ∀ ds S, ds.length ≠ np → md ds S = .bad) (hr : Room k X.A) (hg : Gl X x) (hm : X.mg x = some (.ref f)) (hk : PySem.W.keepIn X.K (.ref f) = true) (hb : Binds X.K fd ps [])
    (hx : ∀ σ, PassesAt CX X σ (E σ)) (ha : LM X E (e :: es) g) (hdb : (x == ("__debug__" : Str)) = false := by decide) (he : starEach (e :: es) X.env = (false, eval e X.env) :: starEach es X.env := by rfl)
    (hpl : (backTo pos (starEach es X.env)).any (·.1) = false := by rfl) : EM X E (.Call (.Name x p) (e :: es) [] pos) (mFn md g) :=
  ⟨(pe_callSD F hr hg hm hk hb .nil hx ha.pa hdb he hpl).weak fun s H Q ⟨q, l, S, R, L, h⟩ => TL.of R L h fun p1 S1 H1 d v R1 x1 L1 r1 h1 => by
    refine ⟨p1, S1, d, R1, by rw [List.append_nil]; exact r1, ?_, fn_post L1 h1⟩
    apply Classical.byContradiction
    intro hne
    rw [hp d S1 hne] at h1
    exact h1⟩
theorem Passes.at (h : Passes CX X E0) (σ : St) : PassesAt CX X σ E0 := fun pins H s e s' => h pins σ H s e s'
end
theorem mDef_len {np nl : Nat} {b : MS} (ds : List D) (S : Hs) (h : ds.length ≠ np) : mDef np nl b ds S = .bad := if_neg h
mutual
def D.low (n : Nat) : D → Prop
  | .ref i => i < n
  | .tup ds => D.lows n ds
  | .wt ds => D.lows n ds
  | .wl ds => D.lows n ds
  | _ => True
def D.lows (n : Nat) : List D → Prop
  | [] => True
  | d :: ds => D.low n d ∧ D.lows n ds
end
def O.low (n : Nat) : O → Prop
  | .lst ds => D.lows n ds
  | .rol ds => D.lows n ds
  | .dic kvs => D.lows n (kvs.map (·.2))
  | .dit kvs => D.lows n (kvs.map (·.2))
  | .ins _ fs => D.lows n (fs.map (·.2))
def Wf (S : Hs) : Prop := ∀ (i : Nat) (o : O), S[i]? = some o → o.low S.length
section
variable {K : PySem.W.Frag} {pi : Nat → Addr} {n m : Nat} {H : Hp}
mutual
theorem Rep.low : ∀ (d : D) (v : V), Rep K pi n H d v → d.low n
  | .non, _, _ => by simp [D.low]
  | .bl _, _, _ => by simp [D.low]
  | .int _, _, _ => by simp [D.low]
  | .str _, _, _ => by simp [D.low]
  | .tup ds, _, .tup t r => by simp only [D.low]; exact Reps.low ds _ r
  | .wt ds, _, .wt t r => by simp only [D.low]; exact Reps.low ds _ r
  | .wl ds, _, .wl t r => by simp only [D.low]; exact Reps.low ds _ r
  | .ref i, _, .ref h => by simpa [D.low] using h
  | .cst _, _, _ => by simp [D.low]
theorem Reps.low : ∀ (d : List D) (v : List V), Reps K pi n H d v → D.lows n d
  | [], _, _ => by simp [D.lows]
  | d :: ds, _, .cons r s => by simp only [D.lows]; exact ⟨Rep.low d _ r, Reps.low ds _ s⟩
end
mutual
theorem Rep.cut : ∀ (d : D) (v : V), Rep K pi n H d v → d.low m → Rep K pi m H d v
  | .non, _, .non, _ => .non
  | .bl _, _, .bl _, _ => .bl _
  | .int _, _, .int _, _ => .int _
  | .str _, _, .str _, _ => .str _
  | .tup ds, _, .tup t r, h => .tup t (Reps.cutN ds _ r (by simpa only [D.low] using h))
  | .wt ds, _, .wt t r, h => .wt t (Reps.cutN ds _ r (by simpa only [D.low] using h))
  | .wl ds, _, .wl t r, h => .wl t (Reps.cutN ds _ r (by simpa only [D.low] using h))
  | .ref i, _, .ref _, h => .ref (by simpa only [D.low] using h)
  | .cst _, _, .cst _, _ => .cst _
theorem Reps.cutN : ∀ (d : List D) (v : List V), Reps K pi n H d v → D.lows m d → Reps K pi m H d v
  | [], _, .nil, _ => .nil
  | d :: ds, _, .cons r s, h => by
    simp only [D.lows] at h
    exact .cons (Rep.cut d _ r h.1) (Reps.cutN ds _ s h.2)
end
theorem RO.low {a : Addr} {o : O} (h : RO K pi n H a o) : o.low n := by
  cases o with
  | lst ds => obtain ⟨xs, _, h2⟩ := h; exact h2.low
  | rol ds => obtain ⟨o, xs, _, h2⟩ := h; exact h2.low
  | dic kvs => obtain ⟨ks, _, _, h3⟩ := h; exact h3.low
  | dit kvs => obtain ⟨ks, _, _, h3⟩ := h; exact h3.low
  | ins C fs => obtain ⟨dx, ks, _, _, h3⟩ := h; exact h3.low
theorem RO.cut {a : Addr} {o : O} (h : RO K pi n H a o) (l : o.low m) : RO K pi m H a o := by
  cases o with
  | lst ds => obtain ⟨xs, h1, h2⟩ := h; exact ⟨xs, h1, h2.cutN _ _ l⟩
  | rol ds => obtain ⟨o, xs, h1, h2⟩ := h; exact ⟨o, xs, h1, h2.cutN _ _ l⟩
  | dic kvs => obtain ⟨ks, h1, h2, h3⟩ := h; exact ⟨ks, h1, h2, h3.cutN _ _ l⟩
  | dit kvs => obtain ⟨ks, h1, h2, h3⟩ := h; exact ⟨ks, h1, h2, h3.cutN _ _ l⟩
  | ins C fs => obtain ⟨dx, ks, h1, h2, h3⟩ := h; exact ⟨dx, ks, h1, h2, h3.cutN _ _ l⟩
theorem Real.wf {S : Hs} (R : Real K pi S H) : Wf S := fun i o e => (R.ob i o e).low
theorem Real.drop {S g : Hs} (R : Real K pi (S ++ g) H) (w : Wf S) : Real K pi S H := by
  refine ⟨fun i o e => ?_, fun i j hi hj => R.inj i j (by simp; omega) (by simp; omega)⟩
  have hi := (List.getElem?_eq_some_iff.mp e).1
  exact (R.ob i o (by rw [List.getElem?_append_left hi]; exact e)).cut (w i o e)
end
end Ly
set_option Elab.async false
set_option linter.all false
set_option maxRecDepth 100000
namespace Ly
open PySem PySem.Spec L2
open PyProof.Rows hiding St
abbrev MG := D → Ls → Hs → R Ls
def TG' (K : PySem.W.Frag) (E : St → XK) (f : MG) : TG := fun v s H Q => ∃ p l S d, Real K p S H ∧ Sl K p S.length H l s ∧ Rep K p S.length H d v ∧ Post K E S.length p H (f d l S) (fun l1 S1 p1 H1 => ∀ s1, Sl K p1 S1.length H1 l1 s1 → Q s1 H1)
structure GM (X : Cx) (E : St → XK) (t : Expr) (f : MG) : Prop where pg : PG X t (TG' X.K E f)
theorem _root_.L2.PG.weak {X : Cx} {e : Expr} {t t' : TG} (h : PG X e t) (w : ∀ v s H Q, t' v s H Q → t v s H Q) : PG X e t' := ⟨fun pins s σ H v u Q I r q => h.run pins s σ H v u Q I r (w v σ H Q q)⟩
def gN (i : Nat) : MG := fun d l S => .ok (l.set i (some d)) S
abbrev MGs := List D → Ls → Hs → R Ls
def gsN : MGs := fun ds l S => match ds with
  | [] => .ok l S
  | _ => .bad
def gsC (f : MG) (g : MGs) : MGs := fun ds l S => match ds with
  | d :: r => (f d l S).bind fun l1 S1 => g r l1 S1
  | [] => .bad
def gT (n : Nat) (f : MGs) : MG := fun d l S => match d with
  | .tup ds => if ds.length = n then f ds l S else .bad
  | .wt ds => if ds.length = n then f ds l S else .bad
  | _ => .bad
def TGs' (K : PySem.W.Frag) (E : St → XK) (f : MGs) : TGs := fun v s H Q => ∃ p l S d, Real K p S H ∧ Sl K p S.length H l s ∧ Reps K p S.length H d v ∧ Post K E S.length p H (f d l S) (fun l1 S1 p1 H1 => ∀ s1, Sl K p1 S1.length H1 l1 s1 → Q s1 H1)
structure GMs (X : Cx) (E : St → XK) (t : List Expr) (f : MGs) : Prop where pgs : PGs X t (TGs' X.K E f)
section
variable {X : Cx} {E : St → XK} {pos : Pos}
theorem g_n {i : Nat} {x : Str} (hN : X.N.Nodup) (hi : X.N[i]? = some x := by rfl) (hx : L2.Loc X.env.scope x := by first | exact Or.inl rfl | exact Or.inr rfl) (hf : X.fn x = true ∨ X.env.scope.names.lookup x = some .local := by first | exact .inl rfl | exact .inr rfl | assumption) : GM X E (.Name x pos) (gN i) :=
  ⟨(pg_name hN hi hx hf).weak fun v s H Q ⟨p, l, S, d, R, L, r, h⟩ => Post.ok h Ext.refl R _ (L.set i r)⟩
theorem gs_nil : GMs X E [] gsN := ⟨⟨fun pins s σ H vs us Q I rv ⟨p, l, S, d, R, L, r, h⟩ => by
  refine pgs_nil.run pins s σ H vs us Q I rv ?_
  unfold gsN at h
  split at h
  · cases r; exact ⟨rfl, Post.ok h Ext.refl R _ L⟩
  · exact h.elim⟩⟩
theorem gs_cons {e : Expr} {es : List Expr} {f : MG} {g : MGs} (h1 : GM X E e f) (h2 : GMs X E es g) (hs : (assignEach (e :: es) X.env).map (·.2) = assign e X.env :: (assignEach es X.env).map (·.2) := by rfl) : GMs X E (e :: es) (gsC f g) :=
  ⟨⟨fun pins s σ H vs us Q I rv ⟨p, l, S, d, R, L, r, h⟩ => by
    refine (pgs_cons h1.pg h2.pgs hs).run pins s σ H vs us Q I rv ?_
    unfold gsC at h
    split at h
    · cases r with
      | cons r0 rs =>
      exact ⟨_, _, rfl, p, l, S, _, R, L, r0, h.bind.mono fun l1 S1 p1 H1 _ x1 R1 q s1 L1 => ⟨p1, l1, S1, _, R1, L1, rs.ext x1 _ _, q⟩⟩
    · exact h.elim⟩⟩
theorem g_tup {es : List Expr} {k n : Nat} {f : MGs} (hc : X.calm = true) (h : GMs X E es f) (hn : (assignEach es X.env).length = n := by rfl) (hst : (assignEach es X.env).findIdx? (·.1) = none := by rfl) : GM X E (.Tuple es k pos) (gT n f) :=
  ⟨(pg_tup hc h.pgs hn hst).weak fun v s H Q ⟨p, l, S, d, R, L, r, h⟩ => by
    unfold gT at h
    split at h
    · split at h
      · rename_i hl
        cases r with
        | tup t r => exact ⟨_, _, rfl, SqT.of t, by rw [← r.len]; exact hl, p, l, S, _, R, L, r, h⟩
      · exact h.elim
    · split at h
      · rename_i hl
        cases r with
        | wt t r => exact ⟨_, _, rfl, t.sq, by rw [← r.len]; exact hl, p, l, S, _, R, L, r, h⟩
      · exact h.elim
    · exact h.elim⟩
def mAsg (f : M) (g : MG) : MS := fun l S => (f l S).bind fun d S1 => (g d l S1).bind fun l1 S2 => .ok (.nx l1) S2
theorem s_asg {tg e : Expr} {f : M} {g : MG} (he : EM X E e f) (hg : GM X E tg g) (hs : swapsWithSole [tg] e pos.line X.env = pure false := by rfl) (hw : swappedStores [tg] e X.env = pure none := by rfl)
    (h1 : (assignEach [tg] X.env).map (·.2) = [assign tg X.env] := by rfl) : SM X E (.Assign [tg] e pos) (mAsg f g) :=
  ⟨(ps_asg he.pe hg.pg hs hw h1).weak fun s H D0 ⟨p, l, S, R, L, h⟩ => T.of R L h fun p1 S1 H1 d v R1 x1 L1 r1 h1 => ⟨p1, l, S1, d, R1, L1, r1, h1.bind.mono fun l1 S2 p2 H2 _ x2 R2 q s2 L2 => Post.nx q R2 L2⟩⟩
def oSet (x y d : D) (S : Hs) : R Unit := match x with
  | .ref i => match S[i]? with
    | some (.lst xs) => (match y with
      | .int k => (match ixN xs.length k with
        | some j => .ok () (S.set i (.lst (xs.set j d)))
        | none => .bad)
      | _ => .bad)
    | some (.dic kvs) => (match y.key with
      | some k => if kvs.length < sizeLine then .ok () (S.set i (.dic (setK kvs k d))) else .bad
      | none => .bad)
    | some (.dit kvs) => (match y.tkey with
      | some k => if kvs.length < sizeLine then .ok () (S.set i (.dit (setK kvs k d))) else .bad
      | none => .bad)
    | _ => .bad
  | _ => .bad
abbrev rSetD : V → V → V → Hp → (Hp → Prop) → Prop := fun o i v H Q => ∃ a H', o = .ref a ∧ DPut H a i v H' ∧ Q H'
theorem set_dic (hu : X.A.units + 1 < cLine) : PSet X rSetD := by
  intro pins s σ H o i v ov iv u Q I ro ri rv h
  obtain ⟨a, H', rfl, g, q⟩ := h
  obtain rfl : ov = Value.ref a := ro
  exact d_setItem hu I g ri rv fun s4 I4 => ⟨H', I4, q⟩
abbrev rSetA : V → V → V → Hp → (Hp → Prop) → Prop := fun o i v H Q => rSetL o i v H Q ∨ rSetD o i v H Q
theorem set_all (hu : X.A.units + 1 < cLine) : PSet X rSetA := fun pins s σ H o i v ov iv u Q I ro ri rv h => h.elim (set_list pins s σ H o i v ov iv u Q I ro ri rv) (set_dic hu pins s σ H o i v ov iv u Q I ro ri rv)
theorem setK_V {κ : Type} [DecidableEq κ] {K : PySem.W.Frag} {pi : Nat → Addr} {n : Nat} {H : Hp} {kvs : List (κ × D)} {ks : List (κ × V)} (h : ks.map (·.1) = kvs.map (·.1)) (r : Reps K pi n H (kvs.map (·.2)) (ks.map (·.2))) (k : κ) {d : D} {v : V} (rv : Rep K pi n H d v) :
    (putK ks k v).map (·.1) = (setK kvs k d).map (·.1) ∧ Reps K pi n H ((setK kvs k d).map (·.2)) ((putK ks k v).map (·.2)) := by
  have hany : (ks.any fun kv => decide (kv.1 = k)) = kvs.any fun kv => decide (kv.1 = k) := by
    have e1 : (ks.any fun kv => decide (kv.1 = k)) = (ks.map (·.1)).any fun z => decide (z = k) := by rw [List.any_map]; rfl
    have e2 : (kvs.any fun kv => decide (kv.1 = k)) = (kvs.map (·.1)).any fun z => decide (z = k) := by rw [List.any_map]; rfl
    rw [e1, e2, h]
  unfold putK setK
  rw [hany]
  split
  · rename_i hx
    clear hx hany
    induction kvs generalizing ks with
    | nil => cases ks with | nil => exact ⟨rfl, .nil⟩ | cons a b => cases h
    | cons a kvs ih =>
      cases ks with
      | nil => cases h
      | cons b ks =>
        simp only [List.map_cons, List.cons.injEq] at h
        cases r with
        | cons r s =>
          obtain ⟨i1, i2⟩ := ih h.2 s
          simp only [List.map_cons, List.cons.injEq]
          rw [h.1]
          by_cases e : a.1 = k
          · simp only [e, if_true]; exact ⟨⟨trivial, i1⟩, .cons rv i2⟩
          · simp only [e, if_false]; exact ⟨⟨h.1, i1⟩, .cons r i2⟩
  · rw [List.map_append, List.map_append, List.map_append, List.map_append, h]
    exact ⟨rfl, r.append (.cons rv .nil)⟩
theorem Post.put1 {K : PySem.W.Frag} {p : Nat → Addr} {S : Hs} {H : Hp} {i : Nat} {o : O} {u : HO} {Q : Unit → Hs → (Nat → Addr) → Hp → Prop} (h : Post K E S.length p H (.ok () (S.set i o)) Q) (R : Real K p S H) (hi : i < S.length)
    (ro : RO K p S.length (upd H (p i) u) (p i) o) : Q () (S.set i o) p (upd H (p i) u) := by
  have e : (S.set i o).length = S.length := by simp
  exact Post.ok h (by rw [e]; exact ext_upd (R.notup hi)) (R.put hi ro)
theorem ok_set {K : PySem.W.Frag} {p : Nat → Addr} {S : Hs} {H : Hp} {x y d : D} {v u w : V} {Q : Hp → Prop} {QQ : Unit → Hs → (Nat → Addr) → Hp → Prop} (R : Real K p S H) (rx : Rep K p S.length H x v) (ry : Rep K p S.length H y u) (rd : Rep K p S.length H d w)
    (h : Post K E S.length p H (oSet x y d S) QQ) (hq : ∀ S1 H1, Ext S.length S1.length p p H H1 → Real K p S1 H1 → QQ () S1 p H1 → Q H1) : rSetA v u w H Q := by
  have fin : ∀ {i : Nat} {o : O} {z : HO}, i < S.length → Post K E S.length p H (.ok () (S.set i o)) QQ → RO K p S.length (upd H (p i) z) (p i) o → Q (upd H (p i) z) := fun {i o z} hi h ro =>
    hq _ _ (by rw [List.length_set]; exact ext_upd (R.notup hi)) (R.put hi ro) (h.put1 R hi ro)
  unfold oSet at h
  split at h
  · split at h
    · rename_i q
      split at h
      · split at h
        · rename_i j e
          obtain ⟨vs, h1, r⟩ := R.lst q
          cases rx; cases ry
          refine .inl ⟨_, vs, _, j, rfl, rfl, h1, by rw [← r.len]; exact e, fin (Real.lt q) h ⟨_, upd_same, ?_⟩⟩
          exact (r.ext (ext_upd (R.notup (Real.lt q))) _ _).set j (rd.ext (ext_upd (R.notup (Real.lt q))) _ _)
        · exact h.elim
      · exact h.elim
    · rename_i kvs q
      split at h
      · rename_i k ek
        split at h
        · rename_i hl
          obtain ⟨ks, h1, h2, h3⟩ := R.ob _ _ q
          have hlen : ks.length = kvs.length := by simpa using congrArg List.length h2
          cases rx
          have sv := setK_V (H := upd H (p _) (.dK (putK ks k w))) h2 (h3.ext (ext_upd (R.notup (Real.lt q))) _ _) k (rd.ext (ext_upd (R.notup (Real.lt q))) _ _)
          exact .inr ⟨_, _, rfl, .inl ⟨ks, k, h1, key_V ry ek, by rw [hlen]; exact hl, rfl⟩, fin (Real.lt q) h ⟨_, upd_same, sv.1, sv.2⟩⟩
        · exact h.elim
      · exact h.elim
    · rename_i kvs q
      split at h
      · rename_i k ek
        split at h
        · rename_i hl
          obtain ⟨ks, h1, h2, h3⟩ := R.ob _ _ q
          have hlen : ks.length = kvs.length := by simpa using congrArg List.length h2
          cases rx
          have sv := setK_V (H := upd H (p _) (.dT (putK ks k w))) h2 (h3.ext (ext_upd (R.notup (Real.lt q))) _ _) k (rd.ext (ext_upd (R.notup (Real.lt q))) _ _)
          unfold D.tkey at ek
          split at ek
          · cases ry with
            | @tup b _ us t r =>
            exact .inr ⟨_, _, rfl, .inr ⟨ks, k, b, h1, rfl, by rw [← keys_V r ek]; exact t, by rw [hlen]; exact hl, rfl⟩, fin (Real.lt q) h ⟨_, upd_same, sv.1, sv.2⟩⟩
          · cases ek
        · exact h.elim
      · exact h.elim
    · exact h.elim
  · exact h.elim
def gSb (f g : M) : MG := fun d l S => (f l S).bind fun x S1 => (g l S1).bind fun y S2 => (oSet x y d S2).bind fun _ S3 => .ok l S3
theorem g_sub {o i : Expr} {f g : M} (hu : X.A.units + 1 < cLine) (ho : EM X E o f) (hi : EM X E i g)
    (ha : ∀ v, assign (.Subscript o i pos) X.env v = (do
      let ov ← holding [v] (eval o X.env)
      let iv ← holding [v, ov] (eval i X.env)
      standAt pos
      holding [v, ov, iv] (setItem ov iv v)
      release [v, ov, iv] []) := by intro _; rfl) : GM X E (.Subscript o i pos) (gSb f g) :=
  ⟨(pg_sub ho.pe hi.pe (set_all hu) ha).weak fun v s H Q ⟨p, l, S, d, R, L, r, h⟩ => T.of R L h fun p1 S1 H1 x vx R1 x1 L1 r1 h1 => T.of R1 L1 h1 fun p2 S2 H2 y vy R2 x2 L2 r2 h2 =>
    ok_set R2 (r1.ext x2 _ _) r2 ((r.ext x1 _ _).ext x2 _ _) h2.bind fun S3 H3 x3 R3 q => Post.ok q Ext.refl R3 _ (L2.ext x3)⟩
theorem s_sub {o i e : Expr} {f g m : M} {pos' : Pos} (hu : X.A.units + 1 < cLine) (he : EM X E e m) (ho : EM X E o f) (hi : EM X E i g)
    (hs : swapsWithSole [Expr.Subscript o i pos'] e pos.line X.env = pure false := by rfl) (hw : swappedStores [Expr.Subscript o i pos'] e X.env = pure none := by rfl) (h1 : (assignEach [Expr.Subscript o i pos'] X.env).map (·.2) = [assign (Expr.Subscript o i pos') X.env] := by rfl)
    (ha : ∀ v, assign (.Subscript o i pos') X.env v = (do
      let ov ← holding [v] (eval o X.env)
      let iv ← holding [v, ov] (eval i X.env)
      standAt pos'
      holding [v, ov, iv] (setItem ov iv v)
      release [v, ov, iv] []) := by intro _; rfl) : SM X E (.Assign [.Subscript o i pos'] e pos) (mAsg m (gSb f g)) := s_asg he (g_sub hu ho hi ha) hs hw h1
def mAug (i : Nat) (op : D → D → Hs → R D) (f : M) : MS := fun l S => match l[i]? with
  | some (some x) => (f l S).bind fun y S1 => (op x y S1).bind fun d S2 => .ok (.nx (l.set i (some d))) S2
  | _ => .bad
def oIAdd : D → D → Hs → R D
  | .int i, .int j, S => .ok (.int (i + j)) S
  | .str x, .str y, S => if x.length + y.length ≤ sizeLine then .ok (.str (x ++ y)) S else .bad
  | _, _, _ => .bad
abbrev rIAdd2 : R2 := orR (rI0 fun i j => .int (i + j)) (fun x y H Q => ∃ i j, x = V.str i ∧ y = V.str j ∧ i.length + j.length ≤ sizeLine ∧ Q (V.str (i ++ j)) H)
theorem ok_iadd {K : PySem.W.Frag} : OpOk K E rIAdd2 oIAdd := by
  intro p S H x y v u Q R rx ry h
  unfold oIAdd at h
  split at h
  · cases rx; cases ry; exact .inl ⟨_, _, rfl, rfl, h.val R (.int _)⟩
  · split at h
    · rename_i hl; cases rx; cases ry; exact .inr ⟨_, _, rfl, rfl, hl, h.val R (.str _)⟩
    · exact h.elim
  · exact h.elim
end
end Ly
set_option Elab.async false
set_option linter.all false
set_option maxRecDepth 100000
namespace LyI
open PySem PySem.Spec L2
open PyProof.Rows hiding St
def SqB (k : Bool) (K : PySem.W.Frag) (H : Hp) (a : Addr) (xs : List V) : Prop := match k with
  | true => SqL K H a xs
  | false => SqT K H a xs
def ItB (k : Bool) (h : Heap) (it a : Addr) (i : Nat) : Prop := match k with
  | true => h.IsListIter it a i
  | false => h.IsTupleIter it a i
theorem ItB.at {k : Bool} {h h' : Heap} {it a : Addr} {i : Nat} (x : ItB k h it a i) (e : ∀ o, h.get? it = some o → h'.get? it = some o) : ItB k h' it a i := by
  cases k
  · exact Heap.IsTupleIter.at x e
  · exact Heap.IsListIter.at x e
section
variable {X : Cx} {pins : List (Addr × Obj)} {σ : St} {H : Hp} {s : Shared} {a : Addr} {xs ys : List V} {k : Bool}
end
def IteB (k : Bool) (K : PySem.W.Frag) (a : Addr) : It :=
  ⟨fun i H => ∃ (xs : List V) (x : V), SqB k K H a xs ∧ xs[i]? = some x, fun i H v H' => ∃ T x, v = .ref T ∧ H T = none ∧ H' = upd H T (.tup [.int (i : Nat), x]) ∧ ∀ xs, SqB k K H a xs → xs[i]? = some x, fun i H => ∃ xs : List V, SqB k K H a xs ∧ xs.length = i⟩
def ItzB (k1 k2 : Bool) (K : PySem.W.Frag) (a b : Addr) : It :=
  ⟨fun i H => ∃ (xs ys : List V) (x y : V), SqB k1 K H a xs ∧ SqB k2 K H b ys ∧ xs[i]? = some x ∧ ys[i]? = some y,
    fun i H v H' => ∃ T x y, v = .ref T ∧ H T = none ∧ H' = upd H T (.tup [x, y]) ∧ (∀ xs, SqB k1 K H a xs → xs[i]? = some x) ∧ ∀ ys, SqB k2 K H b ys → ys[i]? = some y,
    fun i H => ∃ xs ys : List V, SqB k1 K H a xs ∧ SqB k2 K H b ys ∧ i ≤ xs.length ∧ i ≤ ys.length ∧ (xs.length = i ∨ ys.length = i)⟩
end LyI
set_option Elab.async false
set_option linter.all false
set_option maxRecDepth 100000
namespace Ly
open PySem PySem.Spec L2
open PyProof.Rows hiding St
inductive Sq where
  | l (i : Nat) | t (ds : List D)
inductive J where
  | tup (ds : List D) | lst (i : Nat) | rng (lo : Int) (n : Nat) | str (x : Str) | enum (s : Sq) | zip (s t : Sq) | cnt (lo c : Int) (n : Nat) | rev (s : Sq) (n : Nat)
def seqAt (S : Hs) (i : Nat) : Option (List D) := seqD (.ref i) S
def Sq.at (S : Hs) : Sq → Option (List D)
  | .l i => seqAt S i
  | .t ds => some ds
def sqOf (x : D) (S : Hs) : Option Sq := match x with
  | .ref i => (seqAt S i).map fun _ => .l i
  | .tup ds => some (.t ds)
  | .wt ds => some (.t ds)
  | _ => none
def SqR (K : PySem.W.Frag) (p : Nat → Addr) (n : Nat) (H : Hp) : Sq → Bool → Addr → Prop
  | .l i, k, a => i < n ∧ k = true ∧ a = p i
  | .t ds, k, a => k = false ∧ ∃ vs, (H a = some (.tup vs) ∨ Wt K a vs) ∧ Reps K p n H ds vs
def itGo (j : J) (k : Nat) (S : Hs) : Option (Option D) := match j with
  | .tup ds => some ds[k]?
  | .lst i => (seqAt S i).map (·[k]?)
  | .rng lo n => some (if k < n then some (.int (lo + k)) else none)
  | .str x => some (x.cps[k]?.map fun c => .str ⟨#[c]⟩)
  | .cnt lo c n => some (if k < n then some (.int (lo + k * c)) else none)
  | .enum s => (s.at S).bind fun ds => if k ≤ ds.length then some (ds[k]?.map fun d => .tup [.int k, d]) else none
  | .zip a b => match a.at S, b.at S with
    | some xs, some ys => if k ≤ xs.length ∧ k ≤ ys.length then some (match xs[k]?, ys[k]? with
      | some x, some y => some (.tup [x, y])
      | _, _ => none) else none
    | _, _ => none
  | .rev s n => (s.at S).bind fun ds => if ds.length = n then some (if k < n then ds[n - 1 - k]? else none) else none
def JRel (K : PySem.W.Frag) (p : Nat → Addr) (n : Nat) (H : Hp) : J → It → Prop
  | .tup ds, I => ∃ a vs, Rep K p n H (.tup ds) (.ref a) ∧ (H a = some (.tup vs) ∧ Reps K p n H ds vs) ∧ I = Itt K a ∨ Rep K p n H (.wt ds) (.ref a) ∧ (Wt K a vs ∧ Reps K p n H ds vs) ∧ I = Itt K a
  | .lst i, I => i < n ∧ I = Itl K (p i)
  | .rng lo m, I => I = Itr lo m
  | .str x, I => I = Its x
  | .cnt lo c m, I => I = Itc lo c m
  | .enum s, I => ∃ k a, SqR K p n H s k a ∧ I = LyI.IteB k K a
  | .zip s t, I => ∃ k1 a k2 b, SqR K p n H s k1 a ∧ SqR K p n H t k2 b ∧ I = LyI.ItzB k1 k2 K a b
  | .rev s m, I => ∃ b a, SqR K p n H s b a ∧ I = (if b = true then Itv K a m else RT.ItvT K a m)
section
variable {K : PySem.W.Frag} {E : St → XK} {p q : Nat → Addr} {n m : Nat} {H H' : Hp} {S : Hs} {j : J} {I : It} {k : Nat}
theorem SqR.ext {s : Sq} {k : Bool} {a : Addr} (h : SqR K p n H s k a) (x : Ext n m p q H H') : SqR K q m H' s k a := by
  cases s with
  | l i => obtain ⟨h1, h2, h3⟩ := h; exact ⟨Nat.lt_of_lt_of_le h1 x.le, h2, by rw [x.ag i h1]; exact h3⟩
  | t ds =>
    obtain ⟨h1, vs, h2, h3⟩ := h
    refine ⟨h1, vs, ?_, h3.ext x _ _⟩
    rcases h2 with h2 | h2
    · exact .inl (x.tp _ _ h2)
    · exact .inr h2
theorem JRel.ext (h : JRel K p n H j I) (x : Ext n m p q H H') : JRel K q m H' j I := by
  cases j with
  | tup ds =>
    obtain ⟨a, vs, h⟩ := h
    rcases h with ⟨h1, ⟨h2, h3⟩, h4⟩ | ⟨h1, ⟨h2, h3⟩, h4⟩
    · exact ⟨a, vs, .inl ⟨h1.ext x _ _, ⟨x.tp _ _ h2, h3.ext x _ _⟩, h4⟩⟩
    · exact ⟨a, vs, .inr ⟨h1.ext x _ _, ⟨h2, h3.ext x _ _⟩, h4⟩⟩
  | lst i => obtain ⟨h1, h2⟩ := h; exact ⟨Nat.lt_of_lt_of_le h1 x.le, by rw [x.ag i h1]; exact h2⟩
  | rng lo m => exact h
  | str z => exact h
  | cnt lo c m => exact h
  | enum s => obtain ⟨k, a, h1, h2⟩ := h; exact ⟨k, a, h1.ext x, h2⟩
  | zip s t => obtain ⟨k1, a, k2, b, h1, h2, h3⟩ := h; exact ⟨k1, a, k2, b, h1.ext x, h2.ext x, h3⟩
  | rev s n => obtain ⟨b, a, h1, h2⟩ := h; exact ⟨b, a, h1.ext x, h2⟩
theorem seqAt_V {i : Nat} {ds : List D} (R : Real K p S H) (h : seqAt S i = some ds) : ∃ vs, SqL K H (p i) vs ∧ Reps K p S.length H ds vs := by
  have hi : i < S.length := by
    unfold seqAt seqD at h
    simp only at h
    split at h
    · rename_i q; exact Real.lt q
    · rename_i q; exact Real.lt q
    · cases h
  obtain ⟨a, vs, e, h1, r⟩ := seq_V R (.ref hi) h
  cases e
  exact ⟨vs, h1, r⟩
theorem SqR.seq {s : Sq} {b : Bool} {a : Addr} {ds : List D} (R : Real K p S H) (h : SqR K p S.length H s b a) (e : s.at S = some ds) : ∃ vs, LyI.SqB b K H a vs ∧ Reps K p S.length H ds vs := by
  cases s with
  | l i =>
    obtain ⟨h1, rfl, rfl⟩ := h
    obtain ⟨vs, hs, r⟩ := seqAt_V R e
    exact ⟨vs, hs, r⟩
  | t es =>
    obtain ⟨rfl, vs, h2, h3⟩ := h
    cases e
    refine ⟨vs, ?_, h3⟩
    rcases h2 with h2 | h2
    · exact SqT.of h2
    · exact h2.sq
theorem Reps.none {ds : List D} {vs : List V} (r : Reps K p n H ds vs) (e : ds[k]? = none) : vs.length ≤ k := by
  rw [← r.len]; exact List.getElem?_eq_none_iff.mp e
theorem it_stop (R : Real K p S H) (h : JRel K p S.length H j I) (e : itGo j k S = some none) : I.stop k H := by
  cases j with
  | tup ds =>
    obtain ⟨a, vs, h⟩ := h
    simp only [itGo, Option.some.injEq] at e
    rcases h with ⟨h1, ⟨h2, h3⟩, rfl⟩ | ⟨h1, ⟨h2, h3⟩, rfl⟩
    · exact ⟨vs, SqT.of h2, h3.none e⟩
    · exact ⟨vs, h2.sq, h3.none e⟩
  | lst i =>
    obtain ⟨h1, rfl⟩ := h
    simp only [itGo, Option.map_eq_some_iff] at e
    obtain ⟨ds, e, e2⟩ := e
    obtain ⟨vs, hs, r⟩ := seqAt_V R e
    exact ⟨vs, hs, r.none e2⟩
  | rng lo m =>
    cases h
    simp only [itGo, Option.some.injEq] at e
    split at e
    · cases e
    · rename_i hk; exact Nat.le_of_not_lt hk
  | str x =>
    cases h
    simp only [itGo, Option.some.injEq, Option.map_eq_none_iff] at e
    exact Array.getElem?_eq_none_iff.mp e
  | cnt lo c m =>
    cases h
    simp only [itGo, Option.some.injEq] at e
    split at e
    · cases e
    · rename_i hk; exact Nat.le_of_not_lt hk
  | enum s =>
    obtain ⟨b, a, h1, rfl⟩ := h
    simp only [itGo, Option.bind_eq_some_iff] at e
    obtain ⟨ds, e, e2⟩ := e
    obtain ⟨vs, hs, r⟩ := h1.seq R e
    split at e2
    · rename_i hk
      simp only [Option.some.injEq, Option.map_eq_none_iff, List.getElem?_eq_none_iff] at e2
      exact ⟨vs, hs, by rw [← r.len]; omega⟩
    · cases e2
  | zip s t =>
    obtain ⟨b1, a, b2, b, h1, h2, rfl⟩ := h
    simp only [itGo] at e
    split at e
    · rename_i xs ys e1 e2
      obtain ⟨vs, hs, r⟩ := h1.seq R e1
      obtain ⟨us, hs', r'⟩ := h2.seq R e2
      split at e
      · rename_i hk
        simp only [Option.some.injEq] at e
        have l1 := r.len
        have l2 := r'.len
        refine ⟨vs, us, hs, hs', by omega, by omega, ?_⟩
        split at e
        · cases e
        · rename_i hno
          cases q1 : xs[k]? with
          | none => have := List.getElem?_eq_none_iff.mp q1; exact .inl (by omega)
          | some x =>
            cases q2 : ys[k]? with
            | none => have := List.getElem?_eq_none_iff.mp q2; exact .inr (by omega)
            | some y => exact (hno x y q1 q2).elim
      · cases e
    · cases e
  | rev s n =>
    obtain ⟨b, a, h1, rfl⟩ := h
    simp only [itGo, Option.bind_eq_some_iff] at e
    obtain ⟨ds, e, e2⟩ := e
    have hn : n ≤ k := by
      split at e2
      · rename_i hl
        simp only [Option.some.injEq] at e2
        split at e2
        · rename_i hk
          have := List.getElem?_eq_none_iff.mp e2
          omega
        · omega
      · cases e2
    cases b
    · exact hn
    · exact hn
theorem it_go (R : Real K p S H) (h : JRel K p S.length H j I) {d : D} (e : itGo j k S = some (some d)) :
    I.go k H ∧ ∀ x H', I.yld k H x H' → Ext S.length S.length p p H H' ∧ Real K p S H' ∧ Rep K p S.length H' d x := by
  cases j with
  | tup ds =>
    obtain ⟨a, vs, h⟩ := h
    simp only [itGo, Option.some.injEq] at e
    rcases h with ⟨h1, ⟨h2, h3⟩, rfl⟩ | ⟨h1, ⟨h2, h3⟩, rfl⟩
    · obtain ⟨v, e2, r⟩ := h3.get e
      refine ⟨⟨vs, v, SqT.of h2, e2⟩, fun x H' y => ?_⟩
      obtain ⟨rfl, y⟩ := y
      have := (y vs (SqT.of h2)).symm.trans e2
      cases this
      exact ⟨Ext.refl, R, r⟩
    · obtain ⟨v, e2, r⟩ := h3.get e
      refine ⟨⟨vs, v, h2.sq, e2⟩, fun x H' y => ?_⟩
      obtain ⟨rfl, y⟩ := y
      have := (y vs h2.sq).symm.trans e2
      cases this
      exact ⟨Ext.refl, R, r⟩
  | lst i =>
    obtain ⟨h1, rfl⟩ := h
    simp only [itGo, Option.map_eq_some_iff] at e
    obtain ⟨ds, e, e2⟩ := e
    obtain ⟨vs, hs, r⟩ := seqAt_V R e
    obtain ⟨v, e3, r3⟩ := r.get e2
    refine ⟨⟨vs, v, hs, e3⟩, fun x H' y => ?_⟩
    obtain ⟨rfl, y⟩ := y
    have := (y vs hs).symm.trans e3
    cases this
    exact ⟨Ext.refl, R, r3⟩
  | rng lo m =>
    cases h
    simp only [itGo, Option.some.injEq] at e
    split at e
    · rename_i hk
      cases e
      refine ⟨hk, fun x H' y => ?_⟩
      obtain ⟨rfl, rfl⟩ := y
      exact ⟨Ext.refl, R, .int _⟩
    · cases e
  | str z =>
    cases h
    simp only [itGo, Option.some.injEq, Option.map_eq_some_iff] at e
    obtain ⟨c, e, rfl⟩ := e
    refine ⟨(Array.getElem?_eq_some_iff.mp e).1, fun x H' y => ?_⟩
    obtain ⟨rfl, c', e', rfl⟩ := y
    rw [e] at e'; cases e'
    exact ⟨Ext.refl, R, .str _⟩
  | cnt lo c m =>
    cases h
    simp only [itGo, Option.some.injEq] at e
    split at e
    · rename_i hk
      cases e
      refine ⟨hk, fun x H' y => ?_⟩
      obtain ⟨rfl, rfl⟩ := y
      exact ⟨Ext.refl, R, .int _⟩
    · cases e
  | enum s =>
    obtain ⟨b, a, h1, rfl⟩ := h
    simp only [itGo, Option.bind_eq_some_iff] at e
    obtain ⟨ds, e, e2⟩ := e
    obtain ⟨vs, hs, r⟩ := h1.seq R e
    split at e2
    · rename_i hk
      simp only [Option.some.injEq, Option.map_eq_some_iff] at e2
      obtain ⟨c, e2, rfl⟩ := e2
      obtain ⟨v, e3, r3⟩ := r.get e2
      refine ⟨⟨vs, v, hs, e3⟩, fun x H' y => ?_⟩
      obtain ⟨T, z, rfl, hT, rfl, y⟩ := y
      have := (y vs hs).symm.trans e3
      cases this
      exact ⟨ext_junk hT, R.junk hT, .tup upd_same (.cons (.int _) (.cons (r3.ext (ext_junk hT) _ _) .nil))⟩
    · cases e2
  | zip s t =>
    obtain ⟨b1, a, b2, b, h1, h2, rfl⟩ := h
    simp only [itGo] at e
    split at e
    · rename_i xs ys e1 e2
      obtain ⟨vs, hs, r⟩ := h1.seq R e1
      obtain ⟨us, hs', r'⟩ := h2.seq R e2
      split at e
      · simp only [Option.some.injEq] at e
        split at e
        · rename_i x y q1 q2
          cases e
          obtain ⟨v, e3, r3⟩ := r.get q1
          obtain ⟨u, e4, r4⟩ := r'.get q2
          refine ⟨⟨vs, us, v, u, hs, hs', e3, e4⟩, fun z H' w => ?_⟩
          obtain ⟨T, z1, z2, rfl, hT, rfl, y1, y2⟩ := w
          have := (y1 vs hs).symm.trans e3
          cases this
          have := (y2 us hs').symm.trans e4
          cases this
          exact ⟨ext_junk hT, R.junk hT, .tup upd_same (.cons (r3.ext (ext_junk hT) _ _) (.cons (r4.ext (ext_junk hT) _ _) .nil))⟩
        · cases e
      · cases e
    · cases e
  | rev s n =>
    obtain ⟨b, a, h1, rfl⟩ := h
    simp only [itGo, Option.bind_eq_some_iff] at e
    obtain ⟨ds, e, e2⟩ := e
    obtain ⟨vs, hs, r⟩ := h1.seq R e
    split at e2
    · simp only [Option.some.injEq] at e2
      split at e2
      · rename_i hk
        obtain ⟨v, e3, r3⟩ := r.get e2
        cases b with
        | true =>
          refine ⟨⟨hk, vs, v, hs, e3⟩, fun x H' y => ?_⟩
          obtain ⟨rfl, y⟩ := y
          have := (y vs hs).symm.trans e3
          cases this
          exact ⟨Ext.refl, R, r3⟩
        | false =>
          refine ⟨⟨hk, vs, v, hs, e3⟩, fun x H' y => ?_⟩
          obtain ⟨rfl, y⟩ := y
          have := (y vs hs).symm.trans e3
          cases this
          exact ⟨Ext.refl, R, r3⟩
      · cases e2
    · cases e2
end
abbrev MI := Ls → Hs → R J
def TI' (K : PySem.W.Frag) (E : St → XK) (f : MI) : TI := fun s H Q => ∃ p l S, Real K p S H ∧ Sl K p S.length H l s ∧ Post K E S.length p H (f l S) (fun j S1 p1 H1 => ∀ I, JRel K p1 S1.length H1 j I → Q I H1)
structure IM (X : Cx) (E : St → XK) (tg e : Expr) (f : MI) : Prop where pi : PI X tg e (TI' X.K E f)
theorem _root_.L2.PI.weak {X : Cx} {tg e : Expr} {t t' : TI} (h : PI X tg e t) (w : ∀ s H Q, t' s H Q → t s H Q) : PI X tg e t' := ⟨fun pins s σ H Q I q => h.run pins s σ H Q I (w σ H Q q)⟩
theorem _root_.L2.PI.or {X : Cx} {tg e : Expr} {t t' : TI} (h : PI X tg e t) (h' : PI X tg e t') : PI X tg e (fun s H Q => t s H Q ∨ t' s H Q) := ⟨fun pins s σ H Q I q => q.elim (h.run pins s σ H Q I) (h'.run pins s σ H Q I)⟩
def oIt (x : D) (S : Hs) : R J := match x with
  | .tup ds => .ok (.tup ds) S
  | .wt ds => .ok (.tup ds) S
  | .str x => .ok (.str x) S
  | .ref i => match seqAt S i with
    | some _ => .ok (.lst i) S
    | none => .bad
  | _ => .bad
def mIt (f : M) : MI := fun l S => (f l S).bind oIt
def oRng1 (ds : List D) (S : Hs) : R J := match ds with
  | [.int n] => if -(2 ^ 62) ≤ n ∧ n < 2 ^ 62 then .ok (.rng 0 n.toNat) S else .bad
  | _ => .bad
def oRng2 (ds : List D) (S : Hs) : R J := match ds with
  | [.int a, .int b] => if -(2 ^ 62) ≤ a ∧ a < 2 ^ 62 ∧ -(2 ^ 62) ≤ b ∧ b < 2 ^ 62 then .ok (.rng a (b - a).toNat) S else .bad
  | _ => .bad
def mRng1 (f : ML) : MI := fun l S => (f l S).bind oRng1
def mRng2 (f : ML) : MI := fun l S => (f l S).bind oRng2
def oEnum (ds : List D) (S : Hs) : R J := match ds with
  | [x] => match sqOf x S with
    | some s => .ok (.enum s) S
    | none => .bad
  | _ => .bad
def mEnum (f : ML) : MI := fun l S => (f l S).bind oEnum
def oZip (ds : List D) (S : Hs) : R J := match ds with
  | [x, y] => match sqOf x S, sqOf y S with
    | some s, some t => .ok (.zip s t) S
    | _, _ => .bad
  | _ => .bad
def mZip (f : ML) : MI := fun l S => (f l S).bind oZip
section
variable {X : Cx} {E : St → XK} {tg e e2 : Expr} {f : M} {g : ML} {p0 pos : Pos}
abbrev QJ (K : PySem.W.Frag) (Q : It → Hp → Prop) : J → Hs → (Nat → Addr) → Hp → Prop := fun j S1 p1 H1 => ∀ I, JRel K p1 S1.length H1 j I → Q I H1
theorem seqAt_lt {S : Hs} {i : Nat} {ds : List D} (h : seqAt S i = some ds) : i < S.length := by
  unfold seqAt seqD at h
  simp only at h
  split at h
  · rename_i q; exact Real.lt q
  · rename_i q; exact Real.lt q
  · cases h
theorem i_it (he : EM X E e f) : IM X E tg e (mIt f) :=
  ⟨(PI.or (pi_list he.pe) (PI.or (pi_tup he.pe) (pi_str he.pe))).weak fun s H Q ⟨p, l, S, R, L, h⟩ => by
    unfold mIt at h
    have hc : ∃ d S1, f l S = .ok d S1 ∨ ∃ c fs l1, f l S = .exc c fs l1 S1 := by
      cases q : f l S with
      | ok d S1 => exact ⟨d, S1, .inl rfl⟩
      | exc c fs l1 S1 => exact ⟨.non, S1, .inr ⟨c, fs, l1, rfl⟩⟩
      | bad => rw [q] at h; exact h.elim
    obtain ⟨d, S1, hc | ⟨c, fs, l1, hc⟩⟩ := hc
    · rw [hc] at h
      simp only [Ly.R.bind_ok] at h
      unfold oIt at h
      split at h
      · refine .inr (.inl ⟨p, l, S, R, L, ?_⟩)
        rw [hc]
        intro p1 H1 x1 R1 v r
        cases r with
        | tup t r => exact ⟨_, rfl, ⟨_, SqT.of t⟩, Post.ok (Q := QJ _ Q) h x1 R1 _ ⟨_, _, .inl ⟨.tup t r, ⟨t, r⟩, rfl⟩⟩⟩
      · refine .inr (.inl ⟨p, l, S, R, L, ?_⟩)
        rw [hc]
        intro p1 H1 x1 R1 v r
        cases r with
        | wt t r => exact ⟨_, rfl, ⟨_, t.sq⟩, Post.ok (Q := QJ _ Q) h x1 R1 _ ⟨_, _, .inr ⟨.wt t r, ⟨t, r⟩, rfl⟩⟩⟩
      · refine .inr (.inr ⟨p, l, S, R, L, ?_⟩)
        rw [hc]
        intro p1 H1 x1 R1 v r
        cases r
        exact ⟨_, rfl, Post.ok (Q := QJ _ Q) h x1 R1 _ rfl⟩
      · refine .inl ⟨p, l, S, R, L, ?_⟩
        rw [hc]
        split at h
        · rename_i ds q
          intro p1 H1 x1 R1 v r
          obtain ⟨vs, hs, _⟩ := seqAt_V R1 q
          cases r
          exact ⟨_, rfl, ⟨_, hs⟩, Post.ok (Q := QJ _ Q) h x1 R1 _ ⟨seqAt_lt q, rfl⟩⟩
        · exact h.elim
      · exact h.elim
    · rw [hc] at h
      refine .inl ⟨p, l, S, R, L, ?_⟩
      rw [hc]
      exact h⟩
theorem i_rng1 {a : Expr} (hm : X.mg "range" = none) (ha : LM X E [a] g) (hg : Gl X "range" := by rfl) (hs : starEach [a] X.env = [(false, eval a X.env)] := by rfl) : IM X E tg (.Call (.Name "range" p0) [a] [] pos) (mRng1 g) :=
  ⟨(pi_range1 hg hm ha.pa hs).weak fun s H Q ⟨p, l, S, R, L, h⟩ => TL.of R L h fun p1 S1 H1 d v R1 x1 L1 r1 h1 => by
    unfold oRng1 at h1
    split at h1
    · split at h1
      · rename_i hb
        cases r1 with
        | cons r0 rs => cases rs; cases r0; exact ⟨_, rfl, hb.1, hb.2, Post.ok (Q := QJ _ Q) h1 Ext.refl R1 _ rfl⟩
      · exact h1.elim
    · exact h1.elim⟩
end
def fStep (j : J) (g : MG) (b : MS) (a : Nat × Ls × Hs) : Sum (Nat × Ls × Hs) (R F) := match itGo j a.1 a.2.2 with
  | none => .inr .bad
  | some none => .inr (.ok (.nx a.2.1) a.2.2)
  | some (some d) => match g d a.2.1 a.2.2 with
    | .ok l1 S1 => turnOf (b l1 S1) fun l2 S2 => (a.1 + 1, l2, S2)
    | .exc c fs l1 S1 => .inr (.exc c fs l1 S1)
    | .bad => .inr .bad
noncomputable def fLoop (j : J) (g : MG) (b : MS) (k : Nat) : MS := fun l S => runI (fStep j g b) (k, l, S)
noncomputable def mFor (it : MI) (g : MG) (b : MS) : MS := fun l S => (it l S).bind fun j S1 => fLoop j g b 0 l S1
theorem fLoop_eq (j : J) (g : MG) (b : MS) (k : Nat) (l : Ls) (S : Hs) : fLoop j g b k l S = match itGo j k S with
    | none => .bad
    | some none => .ok (.nx l) S
    | some (some d) => (g d l S).bind fun l1 S1 => (b l1 S1).bind fun r S2 => match r with
      | .nx l2 => fLoop j g b (k + 1) l2 S2
      | .ct l2 => fLoop j g b (k + 1) l2 S2
      | .bk l2 => .ok (.nx l2) S2
      | .rt d => .ok (.rt d) S2 := by
  unfold fLoop
  rw [runI_eq]
  unfold fStep turnOf
  simp only []
  cases itGo j k S with
  | none => rfl
  | some o =>
    cases o with
    | none => rfl
    | some d =>
      simp only []
      cases g d l S with
      | ok l1 S1 =>
        simp only [R.bind_ok]
        cases b l1 S1 with
        | ok r S2 => cases r <;> rfl
        | exc _ _ _ _ => rfl
        | bad => rfl
      | exc _ _ _ _ => rfl
      | bad => rfl
section
variable {X : Cx} {E : St → XK} {tg e : Expr} {it : MI} {g : MG} {b : MS} {pos : Pos} {body : List Stmt}
theorem s_for (hp : PassesOwn (model X.prog X.w) X.A X.env X.xe) (hc : X.calm = true) (hi : IM X E tg e it) (hg : GM X E tg g) (hb : SMs X E body b) (hs : ∀ x, foldedSetIterable e X.env x = pure x := by intro _; rfl) : SM X E (.For tg e body [] pos) (mFor it g b) :=
  ⟨(ps_for hp hc hi.pi hg.pg hb.ps hs).weak fun s H D0 ⟨p, l, S, R, L, h⟩ => by
    refine ⟨p, l, S, R, L, (Post.bind (r := it l S) h).mono fun j S1 p1 H1 _ x1 R1 q I hI => ?_⟩
    obtain ⟨n, hn, _⟩ := runI_ex (Post.ne q)
    rw [show fLoop j g b 0 l S1 = _ from hn.symm] at q
    refine ⟨fun k m s H => ∃ p l S, Real X.K p S H ∧ Sl X.K p S.length H l s ∧ JRel X.K p S.length H j I ∧ Post X.K E S.length p H (iter (fStep j g b) m (k, l, S)) (QF X.K D0), ⟨n, p1, l, S1, R1, L.ext x1, hI, q⟩, ?_⟩
    rintro k m s H ⟨p, l, S, R, L, hI, h⟩
    cases m with
    | zero => exact h.elim
    | succ m =>
      simp only [iter, fStep] at h
      cases e1 : itGo j k S with
      | none => rw [e1] at h; exact h.elim
      | some o =>
        cases o with
        | none => rw [e1] at h; exact .inl ⟨it_stop R hI e1, Post.nx h R L⟩
        | some d =>
          obtain ⟨g1, g2⟩ := it_go R hI e1
          rw [e1] at h
          simp only [] at h
          refine .inr ⟨g1, fun s H => ∃ p l S, Real X.K p S H ∧ Sl X.K p S.length H l s ∧ JRel X.K p S.length H j I ∧ Post X.K E S.length p H (iter (fStep j g b) m (k + 1, l, S)) (QF X.K D0), fun s' H' w => ⟨m, Nat.lt_succ_self m, w⟩, fun x H' y => ?_⟩
          obtain ⟨x2, R2, r2⟩ := g2 x H' y
          refine ⟨p, l, S, d, R2, L.ext x2, r2, ?_⟩
          have h2 := Post.ext h x2
          cases e2 : g d l S with
          | bad => rw [e2] at h2; exact h2
          | exc c fs l1 S1 => rw [e2] at h2; exact h2
          | ok l1 S3 =>
            rw [e2] at h2
            simp only [] at h2
            intro p3 H3 x3 R3 s3 L3
            refine ⟨p3, l1, S3, R3, L3, turn_post (Post.ext h2 x3) fun l2 S4 p4 H4 s4 x4 R4 L4 h4 => ⟨p4, l2, S4, R4, L4, hI.ext (x2.trans (x3.trans x4)), h4⟩⟩⟩
end
end Ly
set_option Elab.async false
set_option linter.all false
set_option maxRecDepth 100000
namespace Ly
open PySem PySem.Spec L2
open PyProof.Rows hiding St
def wipeL (l : Ls) : List Nat → Ls
  | [] => l
  | v :: vs => (wipeL l vs).set v none
theorem Sl.wipe {K : PySem.W.Frag} {p : Nat → Addr} {n : Nat} {H : Hp} {l : Ls} {s : St} (h : Sl K p n H l s) : ∀ vs, Sl K p n H (wipeL l vs) (L2.wipe s vs)
  | [] => h
  | v :: vs => (Sl.wipe h vs).skip v none
abbrev CG := D → Ls → Option Ls
def GOk (K : PySem.W.Frag) (vs : List Nat) (g : TG) (gl : CG) : Prop := ∀ (p : Nat → Addr) (n : Nat) (H : Hp) (d : D) (x : V) (l l1 : Ls) (s : St) (Q : St → Hp → Prop), Sl K p n H l (L2.wipe s vs) → Rep K p n H d x → gl d l = some l1 →
  (∀ s2, L2.wipe s2 vs = L2.wipe s vs → Sl K p n H l1 s2 → Q s2 H) → g x (L2.wipe s vs) H Q
def cN (i : Nat) : CG := fun d l => some (l.set i (some d))
theorem gok_n {K : PySem.W.Frag} {i : Nat} {vs : List Nat} (hv : vs = [i]) : GOk K vs (gName i) (cN i) := by
  subst hv
  intro p n H d x l l1 s Q L r e hq
  cases e
  refine hq _ ?_ (L.set i r)
  simp only [L2.wipe, List.set_set]
def mYes : MB := fun _ S => .ok true S
def cStep (j : J) (gl : CG) (tt : MB) (te : M) (l : Ls) (n : Nat) (a : Nat × Hs) : Sum (Nat × Hs) (R D) := match itGo j a.1 a.2 with
  | none => .inr .bad
  | some none => .inr (.ok (.ref n) a.2)
  | some (some d) => match gl d l with
    | none => .inr .bad
    | some l1 => match tt l1 a.2 with
      | .ok false S2 => .inl (a.1 + 1, S2)
      | .ok true S2 => (match te l1 S2 with
        | .ok y S3 => (match S3[n]? with
          | some (.lst acc) => if acc.length < sizeLine then .inl (a.1 + 1, S3.set n (.lst (acc ++ [y]))) else .inr .bad
          | _ => .inr .bad)
        | _ => .inr .bad)
      | _ => .inr .bad
noncomputable def cLoop (j : J) (gl : CG) (tt : MB) (te : M) (l : Ls) (n k : Nat) (S : Hs) : R D := runI (cStep j gl tt te l n) (k, S)
noncomputable def mLc (it : MI) (gl : CG) (tt : MB) (te : M) (vs : List Nat) : M := fun l S => (it l S).bind fun j S1 => cLoop j gl tt te (wipeL l vs) S1.length 0 (S1 ++ [.lst []])
theorem cLoop_eq (j : J) (gl : CG) (tt : MB) (te : M) (l : Ls) (n k : Nat) (S : Hs) : cLoop j gl tt te l n k S = match cStep j gl tt te l n (k, S) with
    | .inl a => cLoop j gl tt te l n a.1 a.2
    | .inr r => r := by
  unfold cLoop
  rw [runI_eq]
  cases cStep j gl tt te l n (k, S) <;> rfl
abbrev E00 : St → XK := fun _ => L2.E0
section
variable {X : Cx} {E : St → XK} {elt tg iter : Expr} {ifs : List Expr} {scope : Scope} {own : List (Str × Nat)} {pos : Pos} {it : MI} {g : TG} {gl : CG} {tm : MB} {te : M} {tt : TT}
structure CT (X : Cx) (ifs : List Expr) (tm : MB) : Prop where pts : PTs X ifs (TB X.K E00 tm)
theorem ct_nil : CT X [] mYes := ⟨⟨fun pins s σ H Q I ⟨p, l, S, R, L, h⟩ => pts_nil.run pins s σ H Q I (Post.ok (Q := QB Q) h Ext.refl R)⟩⟩
theorem ct_one {c : Expr} (h : BM X E00 c tm) : CT X [c] tm := ⟨pts_one h.pt⟩
theorem lc_reading {K : PySem.W.Frag} {vs : List Nat} (hgk : GOk K vs g gl) {s : St} {H : Hp} {Q : VK} {p : Nat → Addr} {l : Ls} {S : Hs} {j : J} {I : It} (R : Real K p S H) (L : Sl K p S.length H l s) (hI : JRel K p S.length H j I)
    (h : Post K E S.length p H (cLoop j gl tm te (wipeL l vs) S.length 0 (S ++ [.lst []])) (QD K Q)) : ∀ D0, H D0 = none → ∃ W : Nat → Nat → Hp → Prop, (∃ m, W 0 m (upd H D0 (.lst []))) ∧ ∀ i m H, W i m H →
      (I.stop i H ∧ Q (.ref D0) H) ∨ (I.go i H ∧ ∃ Nx : Hp → Prop, (∀ H', Nx H' → ∃ m', m' < m ∧ W (i + 1) m' H') ∧ ∀ x H', I.yld i H x H' → g x (L2.wipe s vs) H' fun s2 H2 => L2.wipe s2 vs = L2.wipe s vs ∧
        TB K E00 tm s2 H2 fun b H3 => if b = true then T K E00 te s2 H3 fun y H4 => ∃ acc, H4 D0 = some (.lst acc) ∧ acc.length < sizeLine ∧ Nx (upd H4 D0 (.lst (acc ++ [y]))) else Nx H3) := by
  intro D0 hD
  obtain ⟨m0, hm, _⟩ := runI_ex (Post.ne h)
  rw [show cLoop j gl tm te (wipeL l vs) S.length 0 (S ++ [.lst []]) = _ from hm.symm] at h
  have x0 := ext_new (S := S) (pi := p) (u := .lst []) hD
  have R0 := R.new (u := .lst []) (o := .lst []) hD ⟨[], upd_same, .nil⟩
  have e0 : (S ++ [O.lst []]).length = S.length + 1 := by simp
  refine ⟨fun k m H => ∃ q S1, S.length < S1.length ∧ q S.length = D0 ∧ Real K q S1 H ∧ Sl K q S1.length H (wipeL l vs) (L2.wipe s vs) ∧ JRel K q S1.length H j I ∧ Post K E S1.length q H (iter (cStep j gl tm te (wipeL l vs) S.length) m (k, S1)) (QD K Q),
    ⟨m0, piN p S.length D0, S ++ [.lst []], by omega, piN_same, R0, by rw [e0]; exact (L.wipe vs).ext x0, by rw [e0]; exact hI.ext x0, Post.ext h (by rw [e0]; exact x0)⟩, ?_⟩
  rintro k m H1 ⟨q, S1, hn, hq, R1, L1, hI1, h1⟩
  cases m with
  | zero => exact h1.elim
  | succ m =>
    simp only [iter, cStep] at h1
    cases e1 : itGo j k S1 with
    | none => rw [e1] at h1; exact h1.elim
    | some o =>
      cases o with
      | none =>
        rw [e1] at h1
        refine .inl ⟨it_stop R1 hI1 e1, ?_⟩
        have := Post.ok (Q := QD K Q) h1 Ext.refl R1 (.ref (q S.length)) (.ref hn)
        rwa [hq] at this
      | some d =>
        obtain ⟨g1, g2⟩ := it_go R1 hI1 e1
        rw [e1] at h1
        simp only [] at h1
        refine .inr ⟨g1, fun H => ∃ q S1, S.length < S1.length ∧ q S.length = D0 ∧ Real K q S1 H ∧ Sl K q S1.length H (wipeL l vs) (L2.wipe s vs) ∧ JRel K q S1.length H j I ∧ Post K E S1.length q H (iter (cStep j gl tm te (wipeL l vs) S.length) m (k + 1, S1)) (QD K Q),
          fun H' w => ⟨m, Nat.lt_succ_self m, w⟩, fun x H' y => ?_⟩
        obtain ⟨x2, R2, r2⟩ := g2 x H' y
        have h2 := Post.ext h1 x2
        cases e2 : gl d (wipeL l vs) with
        | none => rw [e2] at h2; exact h2.elim
        | some l1 =>
          rw [e2] at h2
          simp only [] at h2
          refine hgk q S1.length H' d x _ l1 s _ (L1.ext x2) r2 e2 fun s2 w2 L2' => ⟨w2, ?_⟩
          refine ⟨q, l1, S1, R2, L2', ?_⟩
          cases e3 : tm l1 S1 with
          | bad => rw [e3] at h2; exact h2.elim
          | exc _ _ _ _ => rw [e3] at h2; exact h2.elim
          | ok b S2 =>
            rw [e3] at h2
            intro q3 H3 x3 R3
            have h3 := Post.ext h2 x3
            cases b with
            | false => exact ⟨q3, S2, Nat.lt_of_lt_of_le hn x3.le, (x3.ag _ hn).trans hq, R3, (L1.ext x2).ext x3, (hI1.ext x2).ext x3, h3⟩
            | true =>
              show T K E00 te s2 H3 _
              refine ⟨q3, l1, S2, R3, L2'.ext x3, ?_⟩
              simp only [] at h3
              cases e4 : te l1 S2 with
              | bad => rw [e4] at h3; exact h3.elim
              | exc _ _ _ _ => rw [e4] at h3; exact h3.elim
              | ok y S3 =>
                rw [e4] at h3
                simp only [] at h3
                intro q4 H4 x4 R4 v r4
                have h4 := Post.ext h3 x4
                have hn4 : S.length < S3.length := Nat.lt_of_lt_of_le hn (Nat.le_trans x3.le x4.le)
                have hq4 : q4 S.length = D0 := (x4.ag _ (Nat.lt_of_lt_of_le hn x3.le)).trans ((x3.ag _ hn).trans hq)
                cases e5 : S3[S.length]? with
                | none => rw [e5] at h4; exact h4.elim
                | some ob =>
                  cases ob with
                  | lst acc =>
                    rw [e5] at h4
                    simp only [] at h4
                    split at h4
                    · rename_i hl
                      obtain ⟨us, h5, r5⟩ := R4.lst e5
                      have xu : ∀ u, Ext S3.length S3.length q4 q4 H4 (upd H4 (q4 S.length) u) := fun u => ext_upd (R4.notup hn4)
                      rw [hq4] at h5
                      refine ⟨us, h5, by rw [← r5.len]; exact hl, q4, S3.set S.length (.lst (acc ++ [y])), by rw [List.length_set]; exact hn4, hq4, ?_, ?_, ?_, ?_⟩
                      · rw [← hq4]
                        exact R4.put hn4 ⟨_, upd_same, (r5.ext (xu _) _ _).append (.cons (r4.ext (xu _) _ _) .nil)⟩
                      · rw [← hq4, List.length_set]; exact (((L1.ext x2).ext x3).ext x4).ext (xu _)
                      · rw [← hq4, List.length_set]; exact (((hI1.ext x2).ext x3).ext x4).ext (xu _)
                      · rw [← hq4, List.length_set]; exact Post.ext h4 (xu _)
                    · exact h4.elim
                  | _ => rw [e5] at h4; exact h4.elim
theorem e_lc (hc : X.calm = true) (hN : X.N.Nodup) (hi : IM X E tg iter it) (ok : BlkOk X.N X.env.scope scope own) (hgk : GOk X.K (own.map (·.2)) g gl)
    (hg : ∀ (s : Shared) (H : Hp) (C : Addr) (cl : List (Str × Addr)) (fp : List Addr), PG (X.blk s H scope (compEnvC scope cl C X.env) fp) tg g)
    (ht : ∀ (s : Shared) (H : Hp) (C : Addr) (cl : List (Str × Addr)) (fp : List Addr), CT (X.blk s H scope (compEnvC scope cl C X.env) fp) ifs tm)
    (he : ∀ (s : Shared) (H : Hp) (C : Addr) (cl : List (Str × Addr)) (fp : List Addr), EM (X.blk s H scope (compEnvC scope cl C X.env) fp) E00 elt te) (hs : ∀ x, foldedSetIterable iter X.env x = pure x := by intro _; rfl) :
    EM X E (.ListComp elt [⟨tg, iter, ifs, 0⟩] scope pos) (mLc it gl tm te (own.map (·.2))) :=
  ⟨(pe_lc hc hN hi.pi ok hg (fun s H C cl fp => (ht s H C cl fp).pts) (fun s H C cl fp => (he s H C cl fp).pe) hs).weak fun s H Q ⟨p, l, S, R, L, h⟩ =>
    ⟨p, l, S, R, L, (Post.bind (r := it l S) h).mono fun j S1 p1 H1 _ x1 R1 q I hI => lc_reading hgk R1 (L.ext x1) hI q⟩⟩
end
end Ly
set_option Elab.async false
set_option linter.all false
set_option maxRecDepth 100000
namespace Ly
open PySem PySem.Spec L2
open PyProof.Rows hiding St
section
variable {K : PySem.W.Frag} {E : St → XK} {X : Cx} {p : Nat → Addr} {S : Hs} {H : Hp}
end
abbrev MP := Ls → Hs → R (List (D × D))
def dpNil : MP := fun _ S => .ok [] S
def dpCons (f g : M) (h : MP) : MP := fun l S => (f l S).bind fun x S1 => (g l S1).bind fun y S2 => (h l S2).bind fun r S3 => .ok ((x, y) :: r) S3
def keysP : List (D × D) → Option (List (Key × D))
  | [] => some []
  | (x, y) :: r => match x.key, keysP r with
    | some k, some l => some ((k, y) :: l)
    | _, _ => none
def mergeD (kvs : List (Key × D)) (more : List (Key × D)) : List (Key × D) := more.foldl (fun acc kv => setK acc kv.1 kv.2) kvs
def mDisp (h : MP) : M := fun l S => (h l (S ++ [.dic []])).bind fun ps S1 => match keysP ps, S1[S.length]? with
  | some kvs, some (.dic []) => if kvs.length ≤ 15 then .ok (.ref S.length) (S1.set S.length (.dic (mergeD [] kvs))) else .bad
  | _, _ => .bad
structure DP (X : Cx) (E : St → XK) (pos : Pos) (keys : List (Option Expr)) (values : List Expr) (trs : List (TE × TE)) (f : MP) : Prop where
  pps : PPs X pos keys values trs
  rd : ∀ (s : St) (H : Hp) (p : Nat → Addr) (l : Ls) (S : Hs) (Q : List (V × V) → Hp → Prop), Real X.K p S H → Sl X.K p S.length H l s →
    Post X.K E S.length p H (f l S) (fun ps S1 p1 H1 => ∀ ks vs, Reps X.K p1 S1.length H1 (ps.map (·.1)) ks → Reps X.K p1 S1.length H1 (ps.map (·.2)) vs → Q (ks.zip vs) H1) → tPairs trs s H Q
section
variable {X : Cx} {E : St → XK} {pos : Pos} {keys : List (Option Expr)} {values : List Expr} {trs : List (TE × TE)} {f g : M} {h : MP} {k v : Expr}
theorem dp_nil : DP X E pos [] [] [] dpNil := ⟨pps_nil, fun s H p l S Q R L h => Post.ok h Ext.refl R [] [] .nil .nil⟩
theorem dp_cons (hk : EM X E k f) (hv : EM X E v g) (hr : DP X E pos keys values trs h) : DP X E pos (some k :: keys) (v :: values) ((T X.K E f, T X.K E g) :: trs) (dpCons f g h) :=
  ⟨pps_cons hk.pe hv.pe hr.pps, fun s H p l S Q R L q => T.of R L q fun p1 S1 H1 d1 v1 R1 x1 L1 r1 q1 => T.of R1 L1 q1 fun p2 S2 H2 d2 v2 R2 x2 L2 r2 q2 => hr.rd s H2 p2 l S2 _ R2 L2 (q2.bind.mono fun ps S3 p3 H3 _ x3 R3 q3 ks vs rk rv => by
    have := Post.ok q3 Ext.refl R3 (v1 :: ks) (v2 :: vs) (.cons ((r1.ext x2 _ _).ext x3 _ _) rk) (.cons (r2.ext x3 _ _) rv)
    exact this)⟩
theorem keysP_V {K : PySem.W.Frag} {p : Nat → Addr} {n : Nat} {H : Hp} {ps : List (D × D)} {kvs : List (Key × D)} {ks vs : List V} (h : keysP ps = some kvs) (rk : Reps K p n H (ps.map (·.1)) ks) (rv : Reps K p n H (ps.map (·.2)) vs) :
    ∃ ls : List (Key × V), ks.zip vs = ls.map (fun kv => (kV kv.1, kv.2)) ∧ ls.map (·.1) = kvs.map (·.1) ∧ Reps K p n H (kvs.map (·.2)) (ls.map (·.2)) := by
  induction ps generalizing kvs ks vs with
  | nil =>
    cases h; cases rk; cases rv
    exact ⟨[], rfl, rfl, .nil⟩
  | cons a ps ih =>
    obtain ⟨x, y⟩ := a
    simp only [List.map_cons] at rk rv
    cases rk with
    | cons r0 rs =>
    cases rv with
    | @cons _ _ v0 us s0 ss =>
    simp only [keysP] at h
    split at h
    · rename_i k l e1 e2
      cases h
      obtain ⟨ls, h1, h2, h3⟩ := ih e2 rs ss
      exact ⟨(k, v0) :: ls, by simp only [List.zip_cons_cons, List.map_cons, h1, key_V r0 e1], by simp only [List.map_cons, h2], .cons s0 h3⟩
    · cases h
theorem merge_V {K : PySem.W.Frag} {p : Nat → Addr} {n : Nat} {H : Hp} : ∀ (more : List (Key × D)) (ms : List (Key × V)) (kvs : List (Key × D)) (ks : List (Key × V)), ms.map (·.1) = more.map (·.1) → Reps K p n H (more.map (·.2)) (ms.map (·.2)) →
    ks.map (·.1) = kvs.map (·.1) → Reps K p n H (kvs.map (·.2)) (ks.map (·.2)) → (mergeK ks ms).map (·.1) = (mergeD kvs more).map (·.1) ∧ Reps K p n H ((mergeD kvs more).map (·.2)) ((mergeK ks ms).map (·.2))
  | [], ms, kvs, ks, e, _, e2, r2 => by
    cases ms with
    | nil => exact ⟨e2, r2⟩
    | cons a b => cases e
  | a :: more, ms, kvs, ks, e, r, e2, r2 => by
    cases ms with
    | nil => cases e
    | cons b ms =>
      simp only [List.map_cons, List.cons.injEq] at e
      cases r with
      | cons r0 rs =>
        have s := setK_V e2 r2 a.1 r0
        have := merge_V more ms (setK kvs a.1 a.2) (putK ks a.1 b.2) e.2 rs s.1 s.2
        show (mergeK (putK ks b.1 b.2) ms).map _ = _ ∧ Reps K p n H _ ((mergeK (putK ks b.1 b.2) ms).map _)
        rw [e.1]
        exact this
theorem e_disp (hd : DP X E pos keys values trs h) (hall : keys.all (·.isSome) = true := by rfl) (hl : keys.length = values.length := by rfl) (h0 : keys ≠ [] := by simp) (h15 : keys.length ≤ 15 := by decide) : EM X E (.Dict keys values pos) (mDisp h) :=
  ⟨(pe_disp hd.pps hall hl h0 h15).weak fun s H Q ⟨p, l, S, R, L, q⟩ => by
    intro a ha
    have x0 := ext_new (S := S) (pi := p) (u := .dK []) ha
    have R0 := R.new (u := .dK []) (o := .dic []) ha ⟨[], upd_same, rfl, .nil⟩
    have e0 : (S ++ [O.dic []]).length = S.length + 1 := by simp
    refine hd.rd s _ (piN p S.length a) l (S ++ [.dic []]) _ R0 (by rw [e0]; exact L.ext x0) ?_
    have q' := Post.ext q (show Ext S.length (S ++ [O.dic []]).length _ _ _ _ by rw [e0]; exact x0)
    refine Post.mono (Q' := fun (ps : List (D × D)) S1 p1 H1 => ∀ ks vs, Reps X.K p1 S1.length H1 (ps.map (·.1)) ks → Reps X.K p1 S1.length H1 (ps.map (·.2)) vs → _) (Post.bind (r := h l (S ++ [.dic []])) q') fun ps S1 p1 H1 _ x1 R1 q1 ks vs rk rv => ?_
    have hn : S.length < S1.length := Nat.lt_of_lt_of_le (by rw [e0]; exact Nat.lt_succ_self _) x1.le
    have hp : p1 S.length = a := (x1.ag _ (by rw [e0]; exact Nat.lt_succ_self _)).trans piN_same
    split at q1
    · rename_i kvs e1 e2
      split at q1
      · rename_i hlen
        obtain ⟨ls, h1, h2, h3⟩ := keysP_V e1 rk rv
        obtain ⟨zs, z1, z2, z3⟩ := R1.ob _ _ e2
        have : zs = [] := by cases zs with | nil => rfl | cons _ _ => cases z2
        subst this
        rw [hp] at z1
        have hll : ls.length = kvs.length := by simpa using congrArg List.length h2
        refine ⟨z1, ls, h1, by rw [hll]; exact hlen, ?_⟩
        have xu : Ext S1.length S1.length p1 p1 H1 (upd H1 (p1 S.length) (.dK (mergeK [] ls))) := ext_upd (R1.notup hn)
        have m := merge_V (K := X.K) (p := p1) (n := S1.length) (H := upd H1 (p1 S.length) (.dK (mergeK [] ls))) kvs ls [] [] h2 (h3.ext xu _ _) rfl .nil
        have := Post.put q1 R1 hn ⟨_, upd_same, m.1, m.2⟩ (.ref hn)
        rw [hp] at this
        exact this
      · exact q1.elim
    · exact q1.elim⟩
def mGet2 (f g h : M) : M := fun l S => (f l S).bind fun x S1 => if hasTy "dict" x S1 = true then (g l S1).bind fun y S2 => (h l S2).bind fun z S3 => match dGet x y S3 with
  | some (some d) => .ok d S3
  | some none => .ok z S3
  | none => .bad else .bad
theorem isD_V {K : PySem.W.Frag} {p : Nat → Addr} {S : Hs} {H : Hp} {x : D} {v : V} (R : Real K p S H) (r : Rep K p S.length H x v) (h : hasTy "dict" x S = true) : ∃ a, v = .ref a ∧ IsD H a := by
  unfold hasTy at h
  cases r with
  | str x => exact absurd (of_decide_eq_true h) (by decide)
  | int x => exact absurd (of_decide_eq_true h) (by decide)
  | ref hi =>
    simp only at h
    split at h
    · exact absurd (of_decide_eq_true h) (by decide)
    · exact absurd (of_decide_eq_true h) (by decide)
    · rename_i q
      obtain ⟨ks, h1, _⟩ := R.ob _ _ q
      exact ⟨_, rfl, .inl ⟨_, .inl h1⟩⟩
    · rename_i q
      obtain ⟨ks, h1, _⟩ := R.ob _ _ q
      exact ⟨_, rfl, .inr ⟨_, .inl h1⟩⟩
    · cases h
  | _ => cases h
def isDic (x : D) (S : Hs) : Bool := match x with
  | .ref i => match S[i]? with
    | some (.dic _) => true
    | some (.dit _) => true
    | _ => false
  | _ => false
def mAugI (op : D → D → Hs → R D) (f g h : M) : MS := fun l S => (f l S).bind fun x S1 => (g l S1).bind fun y S2 => match dGet x y S2 with
  | some (some z) => (h l S2).bind fun w S3 => (op z w S3).bind fun d S4 => if isDic x S4 = true then (oSet x y d S4).bind fun _ S5 => .ok (.nx l) S5 else .bad
  | _ => .bad
end
end Ly
set_option Elab.async false
set_option linter.all false
set_option maxRecDepth 100000
namespace Ly
open PySem PySem.Spec L2
open PyProof.Rows hiding St
structure DefAt (K : PySem.W.Frag) (mg : Str → Option Value) (x : Str) (st : Stmt) (ps : List Str) (f : Addr) (fd : FuncData) : Prop where
  F : Fun K x x st f fd
  g : mg x = some (.ref f)
  b : Binds K fd ps []
section
variable {X : Cx} {E : St → XK}
variable {k : Nat}
theorem or_inAll (hr : Room k X.A) : OpR X (compareOp .In) (rInAll X.K) :=
  OpR.or op_in_sign (OpR.or op_in_str (OpR.or op_in_seq (OpR.or (op_inD (by have := hr.un; omega)) (OpR.or (op_inDT (by have := hr.un; omega)) (or_din (hu_of hr))))))
theorem or_notinAll (hr : Room k X.A) : OpR X (compareOp .NotIn) (rNotInAll X.K) :=
  OpR.or op_notIn_sign (OpR.or op_notin_str (OpR.or op_notIn_seq (OpR.or (op_notInD (by have := hr.un; omega)) (OpR.or (op_notInDT (by have := hr.un; omega)) (or_dnotin (hu_of hr))))))
end
theorem or_eqA {X : Cx} {k : Nat} (hr : Room k X.A) : OpR X (compareOp .Eq) (orR rEq (rEqD X.K)) := OpR.or op_eq (op_eqD hr.units)
theorem or_neA {X : Cx} {k : Nat} (hr : Room k X.A) : OpR X (compareOp .NotEq) (orR rNe (rNeD X.K)) := OpR.or op_ne (op_neD hr.units)
theorem or_isA {X : Cx} : OpR X (compareOp .Is) (orR rIsNA rIsB) := OpR.or op_isN op_isBl
theorem reps_ints {K : PySem.W.Frag} {p : Nat → Addr} {n : Nat} {H : Hp} : ∀ xs : List Int, Reps K p n H (xs.map D.int) (xs.map V.int)
  | [] => .nil
  | x :: xs => .cons (.int x) (reps_ints xs)
def LawTrue (m : MD) : Prop := ∀ (ns : List Int) (x : D) (S : Hs), ns.length ≤ 63 → (∀ z ∈ ns, Builtin.Int.intBits z ≤ 1048576) → S.length ≤ 1 → Wf S → x.low S.length → seqD x S = some (ns.map D.int) → (∀ o ∈ S, o = .rol (ns.map D.int)) → ∃ S', m [x] S = .ok (.bl true) S'
theorem law_end {K : PySem.W.Frag} {m : MD} (hm : LawTrue m) {H : Hp} {a : Addr} {ns : List Int} (hl : ns.length ≤ 63) (hb : ∀ z ∈ ns, Builtin.Int.intBits z ≤ 1048576) (hO : Only H) (hS : SqL K H a (ns.map V.int)) : spM K 1 m [.ref a] H (fun v _ => v = .bl true) fun _ _ _ => False := by
  have fin : ∀ {p : Nat → Addr} {S : Hs} {S' : Hs} {H : Hp} {r : R D}, r = .ok (.bl true) S' → Post K (fun _ _ _ _ => False) S.length p H r (QD K fun v _ => v = .bl true) := fun {p S S' H r} e => by
    subst e
    intro p' H' x R v r
    cases r; rfl
  have h0 : (∃ o, H a = some (.frz o (.lst (ns.map V.int)))) ∨ Wl K a (ns.map V.int) := by
    rcases hS with hS | hS
    · rcases hS with hS | ⟨o, hS⟩
      · rcases hO a with q | ⟨o, xs, q⟩
        · rw [q] at hS; cases hS
        · rw [q] at hS; cases hS
      · exact .inl ⟨o, hS⟩
    · exact .inr hS
  rcases h0 with ⟨o, h0⟩ | h0
  · have R0 : Real K (fun _ => a) [.rol (ns.map D.int)] H := by
      refine ⟨fun i o' e => ?_, fun i j hi hj _ => by simp at hi hj; omega⟩
      cases i with
      | zero => simp at e; subst e; exact ⟨o, _, h0, reps_ints ns⟩
      | succ i => simp at e
    obtain ⟨S', e⟩ := hm ns (.ref 0) [.rol (ns.map D.int)] hl hb (by simp) R0.wf (by simp [D.low]) rfl (by simp)
    exact ⟨fun _ => a, [.rol (ns.map D.int)], [.ref 0], R0, .cons (.ref (by simp)) .nil, rfl, fin e⟩
  · have R0 : Real K (fun _ => a) [] H := ⟨fun i o' e => by simp at e, fun i j hi hj _ => by simp at hi⟩
    have r0 : Rep K (fun _ => a) 0 H (.wl (ns.map D.int)) (.ref a) := .wl h0 (reps_ints ns)
    obtain ⟨S', e⟩ := hm ns (.wl (ns.map D.int)) [] hl hb (by simp) R0.wf (r0.low) rfl (by simp)
    exact ⟨fun _ => a, [], [.wl (ns.map D.int)], R0, .cons r0 .nil, rfl, fin e⟩
theorem law_noexc {P : Program} {w : World} {l : List Env} {H : Hp} {s : Shared} {e : Value} {s' : Shared} (h : L2.CX P w l H s (fun _ _ _ => False) e s') : False := by
  obtain ⟨_, _, _, _, _, _, _, _, _, _, _, _, z⟩ := h
  exact z
end Ly
set_option Elab.async false
set_option linter.all false
set_option maxRecDepth 100000
namespace Ly
open PySem PySem.Spec L2
open PyProof.Rows hiding St
section
variable {X : Cx} {E : St → XK} {a b c : Expr} {f g h : M} {pos : Pos} {r r' : R2} {op op' : D → D → Hs → R D} {o o' : CmpOp}
end
section
variable {X : Cx} {E : St → XK} {e v1 v2 : Expr} {es rest : List Expr} {f f1 f2 : M} {fs : List M} {pos : Pos}
inductive JM (X : Cx) (E : St → XK) : List Expr → List M → Prop
  | nil : JM X E [] []
  | cons {e : Expr} {f : M} {es : List Expr} {fs : List M} (h : EM X E e f) (r : JM X E es fs) : JM X E (e :: es) (f :: fs)
theorem JM.pj (h : JM X E es fs) : PJ X es (fs.map (T X.K E)) := by
  induction h with
  | nil => exact .nil
  | cons h _ ih => exact .cons h.pe ih
end
def KV (K : PySem.W.Frag) (u : Value) (d : D) : Prop := ∃ v, RelV v u ∧ ∀ p n H, Rep K p n H d v
inductive KVs (K : PySem.W.Frag) : List Value → List (Str × D) → Prop
  | nil : KVs K [] []
  | cons {u : Value} {x : Str} {d : D} {us : List Value} {r : List (Str × D)} (h : KV K u d) (t : KVs K us r) : KVs K (u :: us) ((x, d) :: r)
def mIxK (tbl : List (Str × D)) (f : M) : M := fun l S => (f l S).bind fun x S1 => match x with
  | .str z => match tbl.lookup z with
    | some d => .ok d S1
    | none => .bad
  | _ => .bad
def mInK (tbl : List (Str × D)) (f : M) : M := fun l S => (f l S).bind fun x S1 => match x with
  | .str z => .ok (.bl (tbl.lookup z).isSome) S1
  | _ => .bad
def mNotInK (tbl : List (Str × D)) (f : M) : M := fun l S => (f l S).bind fun x S1 => match x with
  | .str z => .ok (.bl (!(tbl.lookup z).isSome)) S1
  | _ => .bad
def mInKB (tbl : List (Str × D)) (f : M) : MB := fun l S => (f l S).bind fun x S1 => match x with
  | .str z => .ok (tbl.lookup z).isSome S1
  | _ => .bad
def mNotInKB (tbl : List (Str × D)) (f : M) : MB := fun l S => (f l S).bind fun x S1 => match x with
  | .str z => .ok (!(tbl.lookup z).isSome) S1
  | _ => .bad
section
variable {X : Cx} {E : St → XK} {a : Expr} {f : M} {pos p2 : Pos} {x : Str} {tbl : List (Str × D)}
def mGetK2 (tbl : List (Str × D)) (f g : M) : M := fun l S => (f l S).bind fun x S1 => match x with
  | .str z => (g l S1).bind fun y S2 => (match tbl.lookup z with
    | some d => .ok d S2
    | none => .ok y S2)
  | _ => .bad
end
end Ly
set_option Elab.async false
set_option linter.all false
set_option maxRecDepth 100000
namespace Ly
open PySem PySem.Spec L2
open PyProof.Rows hiding St
def putD (f : Str) (d : D) : List (Str × D) → List (Str × D)
  | [] => [(f, d)]
  | (g, x) :: r => if g = f then (g, d) :: r else (g, x) :: putD f d r
section
variable {K : PySem.W.Frag} {p : Nat → Addr} {n : Nat} {H : Hp}
theorem fs_some {f : Str} : ∀ {fs : List (Str × D)} {ks : List (Str × V)} {d : D}, ks.map (·.1) = fs.map (·.1) → Reps K p n H (fs.map (·.2)) (ks.map (·.2)) → fs.lookup f = some d → ∃ v, ks.lookup f = some v ∧ Rep K p n H d v
  | [], _, _, _, _, e => by cases e
  | (g, x) :: fs, [], _, h, _, _ => by cases h
  | (g, x) :: fs, (g', y) :: ks, d, h, r, e => by
    simp only [List.map_cons, List.cons.injEq] at h
    cases r with
    | cons r0 rs =>
      have hg : g' = g := h.1
      subst hg
      simp only [List.lookup] at e ⊢
      split at e
      · cases e; exact ⟨y, rfl, r0⟩
      · exact fs_some h.2 rs e
theorem fs_none {f : Str} : ∀ {fs : List (Str × D)} {ks : List (Str × V)}, ks.map (·.1) = fs.map (·.1) → fs.lookup f = none → ks.lookup f = none
  | [], [], _, _ => rfl
  | [], _ :: _, h, _ => by cases h
  | _ :: _, [], h, _ => by cases h
  | (g, x) :: fs, (g', y) :: ks, h, e => by
    simp only [List.map_cons, List.cons.injEq] at h
    have hg : g' = g := h.1
    subst hg
    simp only [List.lookup] at e ⊢
    split at e
    · cases e
    · exact fs_none h.2 e
theorem fs_put {f : Str} {d : D} {v : V} (rv : Rep K p n H d v) : ∀ {fs : List (Str × D)} {ks : List (Str × V)}, ks.map (·.1) = fs.map (·.1) → Reps K p n H (fs.map (·.2)) (ks.map (·.2)) →
    (putF f v ks).map (·.1) = (putD f d fs).map (·.1) ∧ Reps K p n H ((putD f d fs).map (·.2)) ((putF f v ks).map (·.2))
  | [], [], _, _ => ⟨rfl, .cons rv .nil⟩
  | [], _ :: _, h, _ => by cases h
  | _ :: _, [], h, _ => by cases h
  | (g, x) :: fs, (g', y) :: ks, h, r => by
    simp only [List.map_cons, List.cons.injEq] at h
    have hg : g' = g := h.1
    subst hg
    cases r with
    | cons r0 rs =>
      obtain ⟨h1, h2⟩ := fs_put rv h.2 rs
      simp only [putF, putD]
      split
      · exact ⟨by simp [h.2], .cons rv rs⟩
      · exact ⟨by simp [h1], .cons r0 h2⟩
end
def mFld (cs : List Addr) (f : Str) (o : M) : M := fun l S => (o l S).bind fun x S1 => match x with
  | .ref i => match S1[i]? with
    | some (.ins C fs) => if C ∈ cs then (match fs.lookup f with
      | some d => .ok d S1
      | none => .bad) else .bad
    | _ => .bad
  | _ => .bad
def mFldSet (cs : List Addr) (f : Str) (e o : M) : MS := fun l S => (e l S).bind fun d S1 => (o l S1).bind fun x S2 => match x with
  | .ref i => match S2[i]? with
    | some (.ins C fs) => if C ∈ cs ∧ fs.length < 1000 then .ok (.nx l) (S2.set i (.ins C (putD f d fs))) else .bad
    | _ => .bad
  | _ => .bad
def FOk (K : PySem.W.Frag) (cs : List Addr) (f : Str) : Prop := ∀ C ∈ cs, Cls K C ∧ NoAttr K C f
section
variable {X : Cx} {E : St → XK} {e o : Expr} {eo ee : M} {cs : List Addr} {f : Str} {pos pos' : Pos}
theorem e_fld (k : FOk X.K cs f) (ho : EM X E o eo) (hb : attributeBase o f X.env (eval o X.env) = eval o X.env := by rfl) : EM X E (.Attribute o f pos) (mFld cs f eo) :=
  ⟨(pe_fld ho.pe hb).weak fun s H Q ⟨p, l, S, R, L, h⟩ => T.of R L h fun p1 S1 H1 d v R1 x1 L1 r1 h1 => by
    cases r1 with
    | ref hi =>
      dsimp only at h1
      split at h1
      · rename_i C fs q
        split at h1
        · rename_i hC
          split at h1
          · rename_i d e1
            obtain ⟨dx, ks, g1, g2, g3⟩ := R1.ob _ _ q
            obtain ⟨v, g4, g5⟩ := fs_some g2 g3 e1
            exact ⟨_, C, dx, ks, v, rfl, g1, (k C hC).1, (k C hC).2, g4, h1.val R1 g5⟩
          · exact h1.elim
        · exact h1.elim
      · exact h1.elim
    | _ => exact h1.elim⟩
theorem s_fldset (k : FOk X.K cs f) (he : EM X E e ee) (ho : EM X E o eo) (hs : swapsWith e (some (.Attribute o f pos')) pos.line X.env = pure false := by rfl) : SM X E (.Assign [.Attribute o f pos'] e pos) (mFldSet cs f ee eo) :=
  ⟨(ps_fld ho.pe he.pe hs).weak fun s H D0 ⟨p, l, S, R, L, h⟩ => T.of R L h fun p1 S1 H1 d v R1 x1 L1 r1 h1 => T.of R1 L1 h1 fun p2 S2 H2 d2 v2 R2 x2 L2 r2 h2 => by
    cases r2 with
    | ref hi =>
      dsimp only at h2
      split at h2
      · rename_i C fs q
        split at h2
        · rename_i hC
          obtain ⟨dx, ks, g1, g2, g3⟩ := R2.ob _ _ q
          have hlt := Real.lt q
          obtain ⟨k1, k2⟩ := fs_put (f := f) (r1.ext x2 _ _) g2 g3
          have hks : ks.length = fs.length := by have := congrArg List.length g2; simpa using this
          refine ⟨_, C, dx, ks, rfl, g1, (k C hC.1).1, (k C hC.1).2, by rw [hks]; exact hC.2, ?_⟩
          have xu : Ext S2.length S2.length p2 p2 H2 (upd H2 (p2 _) (.ins C dx (putF f v ks))) := ext_upd (R2.notup hlt)
          have R3 := R2.put hlt (o := .ins C (putD f d fs)) (u := .ins C dx (putF f v ks)) ⟨dx, _, upd_same, k1, k2.ext xu _ _⟩
          have L3 := L2.ext xu
          exact Post.ok (Q := QF _ D0) h2 (by rw [List.length_set]; exact xu) R3 s (by rw [List.length_set]; exact L3)
        · exact h2.elim
      · exact h2.elim
    | _ => exact h2.elim⟩
end
def mMake (C : Addr) (md : MD) (g : ML) : M := fun l S => (g l S).bind fun ds S1 => ((md (.ref S1.length :: ds) (S1 ++ [.ins C []])).at l).bind fun d S2 => match d with
  | .non => .ok (.ref S1.length) S2
  | _ => .bad
section
variable {X : Cx} {E0 : XK} {CX : CXT} {e o : Expr} {es : List Expr} {eo : M} {g : ML} {m x : Str} {k np : Nat} {f C : Addr} {fd : FuncData} {ps : List Str} {md : MD} {pos apos p0 : Pos}
theorem make_post {K : PySem.W.Frag} {q : Nat → Addr} {S : Hs} {H : Hp} {s : St} {l : Ls} {ds : List D} {vs : List V} {Q : VK} {C : Addr} (hl : ∀ ds S, ds.length ≠ np → md ds S = .bad) (R : Real K q S H) (L : Sl K q S.length H l s) (r : Reps K q S.length H ds vs)
    (h : Post K (fun _ => E0) S.length q H (((md (.ref S.length :: ds) (S ++ [.ins C []])).at l).bind fun d S2 => match d with
      | .non => .ok (.ref S.length) S2
      | _ => .bad) (QD K Q)) : ∀ a dx, H a = none → H dx = none → dx ≠ a → spM K np md (.ref a :: (vs ++ [])) (upd (upd H dx (.own a)) a (.ins C dx [])) (fun v H2 => v = .non ∧ Q (.ref a) H2) E0 := by
  intro a dx ha hd hne
  have hjunk := R.junk (u := .own a) hd
  have ha2 : upd H dx (.own a) a = none := by rw [upd_ne (Ne.symm hne)]; exact ha
  have R2 : Real K (piN q S.length a) (S ++ [.ins C []]) (upd (upd H dx (.own a)) a (.ins C dx [])) := hjunk.new ha2 ⟨dx, [], upd_same, rfl, .nil⟩
  have x2 : Ext S.length (S.length + 1) q (piN q S.length a) H (upd (upd H dx (.own a)) a (.ins C dx [])) := (ext_junk hd).trans (ext_new ha2)
  have e1 : (S ++ [O.ins C []]).length = S.length + 1 := by simp
  refine ⟨piN q S.length a, S ++ [.ins C []], .ref S.length :: ds, R2, ?_, ?_, ?_⟩
  · rw [List.append_nil, e1]
    refine .cons ?_ (r.ext x2 _ _)
    have h0 : Rep K (piN q S.length a) (S.length + 1) (upd (upd H dx (.own a)) a (.ins C dx [])) (.ref S.length) (.ref (piN q S.length a S.length)) := .ref (Nat.lt_succ_self _)
    rwa [piN_same] at h0
  · apply Classical.byContradiction
    intro hne
    rw [hl _ _ hne] at h
    exact h
  · have L2 := L.ext x2
    rw [e1]
    have h4 := fn_post (E := fun _ => E0) L2 (Post.ext h x2).bind
    refine h4.mono fun d S2 p2 H2 _ x3 R3 q v rv => ?_
    have hle := x3.le
    have hp : p2 S.length = a := (x3.ag _ (Nat.lt_succ_self _)).trans piN_same
    cases rv with
    | non =>
      refine ⟨rfl, Post.ok (Q := QD K Q) q Ext.refl R3 _ ?_⟩
      have h0 : Rep K p2 S2.length H2 (.ref S.length) (.ref (p2 S.length)) := .ref (by omega)
      rwa [hp] at h0
    | _ => exact q.elim
theorem e_make (M : Mk X.K C f) (F : FnOk X.prog X.w X.K X.mg X.base CX k f fd ps (spM X.K np md)) (hl : ∀ ds S, ds.length ≠ np → md ds S = .bad) (hr : Room (k + 1) X.A) (hg : Gl X x) (hm : X.mg x = some (.ref C)) (hb : Binds X.K fd ps []) (hx : Passes CX X E0)
    (ha : LM X (fun _ => E0) (e :: es) g) (hdb : (x == ("__debug__" : Str)) = false := by decide) (he : starEach (e :: es) X.env = (false, eval e X.env) :: starEach es X.env := by rfl) (hpl : (backTo pos (starEach es X.env)).any (·.1) = false := by rfl) :
    EM X (fun _ => E0) (.Call (.Name x p0) (e :: es) [] pos) (mMake C md g) :=
  ⟨(pe_make M F hr hg hm hb .nil hx ha.pa hdb he hpl).weak fun s H Q ⟨q, l, S, R, L, h⟩ => TL.of R L h fun p1 S1 H1 d v R1 x1 L1 r1 h1 => make_post hl R1 L1 r1 h1⟩
end
def mFldAug (cs : List Addr) (f : Str) (op : D → D → Hs → R D) (o e : M) : MS := fun l S => (o l S).bind fun x S1 => match x with
  | .ref i => match S1[i]? with
    | some (.ins C fs) => if C ∈ cs then (match fs.lookup f with
      | some d0 => (e l S1).bind fun d S2 => (op d0 d S2).bind fun z S3 => match S3[i]? with
        | some (.ins C' fs') => if C' = C ∧ fs'.length < 1000 then .ok (.nx l) (S3.set i (.ins C (putD f z fs'))) else .bad
        | _ => .bad
      | none => .bad) else .bad
    | _ => .bad
  | _ => .bad
section
variable {X : Cx} {E : St → XK} {e o : Expr} {eo ee : M} {cs : List Addr} {f : Str} {pos tpos : Pos} {r : R2} {op : D → D → Hs → R D} {ao : Operator}
theorem s_fldaug (k : FOk X.K cs f) (hop : OpR X (inplaceOp ao) r) (hk : OpOk X.K E r op) (ho : EM X E o eo) (he : EM X E e ee) : SM X E (.AugAssign (.Attribute o f tpos) ao e pos) (mFldAug cs f op eo ee) :=
  ⟨(ps_fldaug (rd := r) ho.pe he.pe (fun pins s σ H x y u v Q I rx ry q => hop pins s σ H x y u v Q I rx ry q)).weak fun s H D0 ⟨p, l, S, R, L, h⟩ => T.of R L h fun p1 S1 H1 d v R1 x1 L1 r1 h1 => by
    cases r1 with
    | @ref i hi =>
      dsimp only at h1
      split at h1
      · rename_i C fs q
        split at h1
        · rename_i hC
          split at h1
          · rename_i d0 e1
            obtain ⟨dx, ks, g1, g2, g3⟩ := R1.ob _ _ q
            obtain ⟨v0, g4, g5⟩ := fs_some g2 g3 e1
            refine ⟨_, C, dx, ks, v0, rfl, g1, (k C hC).1, (k C hC).2, g4, T.of R1 L1 h1 fun p2 S2 H2 d2 v2 R2 x2 L2 r2 h2 => ?_⟩
            refine hk p2 S2 H2 _ _ _ _ _ R2 (g5.ext x2 _ _) r2 (h2.bind.mono fun z S3 p3 H3 _ x3 R3 q3 w rw' => ?_)
            split at q3
            · rename_i C' fs' q4
              split at q3
              · rename_i hC'
                obtain ⟨dx', ks', k1, k2, k3⟩ := R3.ob _ _ q4
                have hp : p3 i = p1 i := ((x2.trans x3).ag i hi)
                have hlt := Real.lt q4
                have hks : ks'.length = fs'.length := by have := congrArg List.length k2; simpa using this
                obtain ⟨m1, m2⟩ := fs_put (f := f) rw' k2 k3
                have hCC := hC'.1
                subst hCC
                refine ⟨dx', ks', by rw [← hp]; exact k1, by rw [hks]; exact hC'.2, ?_⟩
                rw [← hp]
                have xu : Ext S3.length S3.length p3 p3 H3 (upd H3 (p3 i) (.ins C' dx' (putF f w ks'))) := ext_upd (R3.notup hlt)
                have R4 := R3.put hlt (o := .ins C' (putD f z fs')) (u := .ins C' dx' (putF f w ks')) ⟨dx', _, upd_same, m1, m2.ext xu _ _⟩
                have L4 := (L2.ext x3).ext xu
                exact Post.ok (Q := QF _ D0) q3 (by rw [List.length_set]; exact xu) R4 s (by rw [List.length_set]; exact L4)
              · exact q3.elim
            · exact q3.elim
          · exact h1.elim
        · exact h1.elim
      · exact h1.elim
    | _ => exact h1.elim⟩
theorem s_fldaddD (k : FOk X.K cs f) (ho : EM X E o eo) (he : EM X E e ee) : SM X E (.AugAssign (.Attribute o f tpos) .Add e pos) (mFldAug cs f oIAdd eo ee) := s_fldaug k (OpR.or iop_add iop_add_str) ok_iadd ho he
end
def mMeth (tbl : List (Addr × MD)) (m : Str) (o : M) (g : ML) : M := fun l S => (o l S).bind fun x S1 => match x with
  | .ref i => match S1[i]? with
    | some (.ins C fs) => (match tbl.lookup C with
      | some md => if (fs.lookup m).isNone then (g l S1).bind fun ds S2 => (md (.ref i :: ds) S2).at l else .bad
      | none => .bad)
    | _ => .bad
  | _ => .bad
def MOk (P : Program) (w : World) (K : PySem.W.Frag) (mg : Str → Option Value) (base : Heap) (CX : CXT) (k : Nat) (m : Str) (C : Addr) (md : MD) : Prop := ∃ (np : Nat) (f : Addr) (fd : FuncData) (ps : List Str), Cls K C ∧ Meth K C m f ∧ FnOk P w K mg base CX k f fd ps (spM K np md) ∧ Binds K fd ps [] ∧ ∀ ds S, ds.length ≠ np → md ds S = .bad
section
variable {P : Program} {w : World} {K : PySem.W.Frag} {mg : Str → Option Value} {base : Heap} {CX : CXT} {k : Nat} {m : Str}
inductive MOks (P : Program) (w : World) (K : PySem.W.Frag) (mg : Str → Option Value) (base : Heap) (CX : CXT) (k : Nat) (m : Str) : List (Addr × MD) → Prop
  | one {C : Addr} {md : MD} (h : MOk P w K mg base CX k m C md) : MOks P w K mg base CX k m [(C, md)]
  | cons {C : Addr} {md : MD} {r : List (Addr × MD)} (h : MOk P w K mg base CX k m C md) (t : MOks P w K mg base CX k m r) : MOks P w K mg base CX k m ((C, md) :: r)
theorem MOks.get {tbl : List (Addr × MD)} (h : MOks P w K mg base CX k m tbl) {C : Addr} {md : MD} (e : tbl.lookup C = some md) : MOk P w K mg base CX k m C md := by
  induction h with
  | one h =>
    simp only [List.lookup] at e
    split at e
    · cases e; rename_i q; rw [show C = _ from by simpa using q]; exact h
    · cases e
  | cons h t ih =>
    simp only [List.lookup] at e
    split at e
    · cases e; rename_i q; rw [show C = _ from by simpa using q]; exact h
    · exact ih e
theorem MOks.some {tbl : List (Addr × MD)} (h : MOks P w K mg base CX k m tbl) : ∃ C md, MOk P w K mg base CX k m C md := by
  cases h with
  | one h => exact ⟨_, _, h⟩
  | cons h _ => exact ⟨_, _, h⟩
theorem mok {C f : Addr} {fd : FuncData} {ps : List Str} {np j : Nat} {md : MD} (c : Cls K C) (hm : Meth K C m f) (F : FnOk P w K mg base CX j f fd ps (spM K np md)) (hj : j ≤ k) (hb : Binds K fd ps []) (hl : ∀ ds S, ds.length ≠ np → md ds S = .bad) : MOk P w K mg base CX k m C md :=
  ⟨np, f, fd, ps, c, hm, F.mono hj, hb, hl⟩
structure MetAt (K : PySem.W.Frag) (m qual : Str) (st : Stmt) (ps : List Str) (f : Addr) (fd : FuncData) : Prop where
  F : Fun K m qual st f fd
  b : Binds K fd ps []
end
section
variable {X : Cx} {E0 : XK} {CX : CXT} {e o : Expr} {es : List Expr} {eo : M} {g : ML} {m : Str} {k : Nat} {tbl : List (Addr × MD)} {pos apos : Pos} {pl : Sem Bool}
theorem meth_post {K : PySem.W.Frag} {q : Nat → Addr} {S : Hs} {H : Hp} {s : St} {l : Ls} {Q : VK} (R : Real K q S H) (L : Sl K q S.length H l s) (h : Post K (fun _ => E0) S.length q H (mMeth tbl m eo g l S) (QD K Q)) :
    (∃ C md, tbl.lookup C = some md ∧ T K (fun _ => E0) eo s H fun x H1 => ∃ a dx fs, x = .ref a ∧ H1 a = some (.ins C dx fs) ∧ fs.lookup m = none ∧ TL K (fun _ => E0) g s H1 fun vs H2 => ∃ p S2 ds, Real K p S2 H2 ∧ Reps K p S2.length H2 ds (x :: vs) ∧ Post K (fun _ => E0) S2.length p H2 (md ds S2) (QD K Q)) ∨
      ∀ Q', T K (fun _ => E0) eo s H Q' := by
  cases er : eo l S with
  | exc c fs l2 S2 => exact .inr fun Q' => ⟨q, l, S, R, L, by rw [er]; unfold mMeth at h; rw [er] at h; exact h⟩
  | bad => unfold mMeth at h; rw [er] at h; exact h.elim
  | ok x S1 =>
    have h0 := h
    unfold mMeth at h
    rw [er] at h
    simp only [Ly.R.bind_ok] at h
    split at h
    · rename_i i
      split at h
      · rename_i C fs q1
        split at h
        · rename_i md e1
          split at h
          · rename_i hn
            refine .inl ⟨C, md, e1, q, l, S, R, L, ?_⟩
            rw [er]
            intro p1 H1 x1 R1 v rv
            have h' := Post.ext h x1
            cases rv
            obtain ⟨dx, ks, g1, g2, g3⟩ := R1.ob _ _ q1
            have L1 := L.ext x1
            refine ⟨_, dx, ks, rfl, g1, fs_none g2 (Option.isNone_iff_eq_none.mp hn), TL.of R1 L1 h' fun p2 S2 H2 ds vs R2 x2 L2 r2 h2 => ?_⟩
            have hi := Real.lt q1
            refine ⟨p2, S2, .ref i :: ds, R2, .cons ?_ r2, fn_post (E := fun _ => E0) L2 h2⟩
            have h3 : Rep K p1 S1.length H1 (.ref i) (.ref (p1 i)) := .ref hi
            exact h3.ext x2 _ _
          · exact h.elim
        · exact h.elim
      · exact h.elim
    · exact h.elim
theorem e_meth (hM : MOks X.prog X.w X.K X.mg X.base CX k m tbl) (hr : Room k X.A) (hx : Passes CX X E0) (ho : EM X (fun _ => E0) o eo) (ha : LM X (fun _ => E0) (e :: es) g)
    (hpl : (backTo pos (starEach es X.env)).any (·.1) = false := by rfl) (hst : starEach (e :: es) X.env = (false, eval e X.env) :: starEach es X.env := by rfl)
    (ht : eval (.Call (.Attribute o m apos) (e :: es) [] pos) X.env = (do let ov ← eval o X.env; standAt apos.atName; let (f, first) ← holding [ov] (getMethod ov m pl); callWith pos f first (backTo pos (starEach (e :: es) X.env)) (backToKw pos (keywordEach [] X.env))) := by rfl) :
    EM X (fun _ => E0) (.Call (.Attribute o m apos) (e :: es) [] pos) (mMeth tbl m eo g) := by
  refine ⟨⟨fun pins s σ H Q I ⟨p, l, S, R, L, h⟩ => ?_⟩⟩
  rcases meth_post R L h with ⟨C, md, e1, hT⟩ | hT
  · obtain ⟨np, f, fd, ps, c, hm, F, hb, hl⟩ := hM.get e1
    refine (pe_meth (pl := pl) ho.pe c hm F hr hb .nil hx ha.pa hst hpl ht).run pins s σ H Q I ?_
    obtain ⟨q0, l0, S0, R0, L0, h0⟩ := hT
    refine ⟨q0, l0, S0, R0, L0, h0.mono fun x S1 p1 H1 _ x1 R1 hq v rv => ?_⟩
    obtain ⟨a, dx, fs, rfl, g1, g2, q2, l2, S2, R2, L2, h2⟩ := hq v rv
    refine ⟨a, dx, fs, rfl, g1, g2, q2, l2, S2, R2, L2, h2.mono fun ds S3 p3 H3 _ x3 R3 hq3 vs rvs => ?_⟩
    obtain ⟨p4, S4, ds4, R4, r4, h4⟩ := hq3 vs rvs
    rw [List.append_nil]
    refine ⟨p4, S4, ds4, R4, r4, ?_, h4⟩
    apply Classical.byContradiction
    intro hne
    rw [hl _ _ hne] at h4
    exact h4
  · obtain ⟨C, md, np, f, fd, ps, c, hm, F, hb, hl⟩ := hM.some
    exact (pe_meth (pl := pl) ho.pe c hm F hr hb .nil hx ha.pa hst hpl ht).run pins s σ H Q I (hT _)
theorem e_meth0 (hM : MOks X.prog X.w X.K X.mg X.base CX k m tbl) (hr : Room k X.A) (hx : Passes CX X E0) (ho : EM X (fun _ => E0) o eo)
    (ht : eval (.Call (.Attribute o m apos) [] [] pos) X.env = (do let ov ← eval o X.env; standAt apos.atName; let (f, first) ← holding [ov] (getMethod ov m pl); callWith pos f first (backTo pos (starEach [] X.env)) (backToKw pos (keywordEach [] X.env))) := by rfl) :
    EM X (fun _ => E0) (.Call (.Attribute o m apos) [] [] pos) (mMeth tbl m eo lNil) := by
  refine ⟨⟨fun pins s σ H Q I ⟨p, l, S, R, L, h⟩ => ?_⟩⟩
  rcases meth_post R L h with ⟨C, md, e1, hT⟩ | hT
  · obtain ⟨np, f, fd, ps, c, hm, F, hb, hl⟩ := hM.get e1
    refine (pe_meth0 (pl := pl) ho.pe c hm F hr hb .nil hx ht).run pins s σ H Q I ?_
    obtain ⟨q0, l0, S0, R0, L0, h0⟩ := hT
    refine ⟨q0, l0, S0, R0, L0, h0.mono fun x S1 p1 H1 _ x1 R1 hq v rv => ?_⟩
    obtain ⟨a, dx, fs, rfl, g1, g2, q2, l2, S2, R2, L2, h2⟩ := hq v rv
    refine ⟨a, dx, fs, rfl, g1, g2, ?_⟩
    obtain ⟨p4, S4, ds4, R4, r4, h4⟩ := Post.ok (Q := QL X.K _) h2 Ext.refl R2 [] .nil
    refine ⟨p4, S4, ds4, R4, r4, ?_, h4⟩
    apply Classical.byContradiction
    intro hne
    rw [hl _ _ hne] at h4
    exact h4
  · obtain ⟨C, md, np, f, fd, ps, c, hm, F, hb, hl⟩ := hM.some
    exact (pe_meth0 (pl := pl) ho.pe c hm F hr hb .nil hx ht).run pins s σ H Q I (hT _)
end
def oIndex (x : D) (ds : List D) (S : Hs) : R D := match x, ds with
  | .ref i, [y] => match S[i]? with
    | some (.lst zs) => if flatD y && zs.all flatD then (match zs.findIdx? (fun z => eqF z y) with
      | some j => .ok (.int (j : Int)) S
      | none => .bad) else .bad
    | _ => .bad
  | _, _ => .bad
theorem ok_index {K : PySem.W.Frag} {E : St → XK} : MtOk K E (rIndex K) oIndex := by
  intro p S H x v ds vs Q R rx r h
  unfold oIndex at h
  split at h
  · split at h
    · rename_i y _ zs q
      split at h
      · rename_i hf
        rw [Bool.and_eq_true] at hf
        split at h
        · rename_i j hj
          obtain ⟨us, h1, r1⟩ := R.lst q
          cases rx
          cases r with
          | cons r0 rs =>
          cases rs
          rw [List.findIdx?_eq_some_iff_getElem] at hj
          obtain ⟨hlt, hp, hn⟩ := hj
          obtain ⟨u, hu, ru⟩ := Reps.get r1 (List.getElem?_eq_getElem hlt)
          refine ⟨_, us, _, j, u, rfl, rfl, SqL.of h1, flat_V r0 hf.1, flats_V r1 hf.2, hu, by rw [← eqF_V ru r0 hf.1]; exact hp, fun m z' hm hz => ?_, h.val R (.int _)⟩
          have hm2 : m < zs.length := Nat.lt_trans hm hlt
          obtain ⟨u', hu', ru'⟩ := Reps.get r1 (List.getElem?_eq_getElem hm2)
          rw [hu'] at hz; cases hz
          rw [← eqF_V ru' r0 hf.1]
          simpa using hn m hm
        · exact h.elim
      · exact h.elim
    · exact h.elim
  · exact h.elim
end Ly
set_option Elab.async false
set_option linter.all false
set_option maxRecDepth 100000
namespace Ly
open PySem PySem.Spec L2
open PyProof.Rows hiding St
def dcStep (j : J) (gl : CG) (tt : MB) (tk tv : M) (l : Ls) (n : Nat) (a : Nat × Hs) : Sum (Nat × Hs) (R D) := match itGo j a.1 a.2 with
  | none => .inr .bad
  | some none => .inr (.ok (.ref n) a.2)
  | some (some d) => match gl d l with
    | none => .inr .bad
    | some l1 => match tt l1 a.2 with
      | .ok false S2 => .inl (a.1 + 1, S2)
      | .ok true S2 => (match tk l1 S2 with
        | .ok y S3 => (match tv l1 S3 with
          | .ok z S4 => (match S4[n]?, y.key with
            | some (.dic acc), some k => if acc.length < sizeLine then .inl (a.1 + 1, S4.set n (.dic (setK acc k z))) else .inr .bad
            | _, _ => .inr .bad)
          | _ => .inr .bad)
        | _ => .inr .bad)
      | _ => .inr .bad
noncomputable def dcLoop (j : J) (gl : CG) (tt : MB) (tk tv : M) (l : Ls) (n k : Nat) (S : Hs) : R D := runI (dcStep j gl tt tk tv l n) (k, S)
noncomputable def mDc (it : MI) (gl : CG) (tt : MB) (tk tv : M) (vs : List Nat) : M := fun l S => (it l S).bind fun j S1 => dcLoop j gl tt tk tv (wipeL l vs) S1.length 0 (S1 ++ [.dic []])
section
variable {X : Cx} {E : St → XK} {kx vx tg iter : Expr} {ifs : List Expr} {scope : Scope} {own : List (Str × Nat)} {pos : Pos} {it : MI} {g : TG} {gl : CG} {tm : MB} {tk tv : M} {tt : TT}
end
def oSetd (x y z : D) (S : Hs) : R D := match x with
  | .ref i => match S[i]?, y.key with
    | some (.dic kvs), some k => if kvs.length < sizeLine then (match getK kvs k with
      | some d => .ok d S
      | none => .ok z (S.set i (.dic (setK kvs k z)))) else .bad
    | _, _ => .bad
  | _ => .bad
def mSetd (f g h : M) : M := fun l S => (f l S).bind fun x S1 => if hasTy "dict" x S1 = true then (g l S1).bind fun y S2 => (h l S2).bind fun z S3 => oSetd x y z S3 else .bad
def mGet1 (f g : M) : M := fun l S => (f l S).bind fun x S1 => if hasTy "dict" x S1 = true then (g l S1).bind fun y S2 => match dGet x y S2 with
  | some (some d) => .ok d S2
  | some none => .ok .non S2
  | none => .bad else .bad
def dropD (kvs : List (Key × D)) (k : Key) : List (Key × D) := kvs.filter fun kv => decide (kv.1 ≠ k)
def oPop2 (x y z : D) (S : Hs) : R D := match x with
  | .ref i => match S[i]?, y.key with
    | some (.dic kvs), some k => (match getK kvs k with
      | some d => .ok d (S.set i (.dic (dropD kvs k)))
      | none => .ok z S)
    | _, _ => .bad
  | _ => .bad
def mPop2 (f g h : M) : M := fun l S => (f l S).bind fun x S1 => if hasTy "dict" x S1 = true then (g l S1).bind fun y S2 => (h l S2).bind fun z S3 => oPop2 x y z S3 else .bad
def oDel (x y : D) (S : Hs) : R Unit := match x with
  | .ref i => match S[i]?, y.key with
    | some (.dic kvs), some k => (match getK kvs k with
      | some _ => .ok () (S.set i (.dic (dropD kvs k)))
      | none => .bad)
    | _, _ => .bad
  | _ => .bad
def mDel (f g : M) : MS := fun l S => (f l S).bind fun x S1 => (g l S1).bind fun y S2 => (oDel x y S2).bind fun _ S3 => .ok (.nx l) S3
section
variable {K : PySem.W.Frag} {p : Nat → Addr} {n : Nat} {H : Hp}
theorem dropD_V {kvs : List (Key × D)} {ks : List (Key × V)} (h : ks.map (·.1) = kvs.map (·.1)) (r : Reps K p n H (kvs.map (·.2)) (ks.map (·.2))) (k : Key) :
    (dropK ks k).map (·.1) = (dropD kvs k).map (·.1) ∧ Reps K p n H ((dropD kvs k).map (·.2)) ((dropK ks k).map (·.2)) := by
  induction kvs generalizing ks with
  | nil => cases ks with | nil => exact ⟨rfl, .nil⟩ | cons a b => cases h
  | cons a kvs ih =>
    cases ks with
    | nil => cases h
    | cons b ks =>
      simp only [List.map_cons, List.cons.injEq] at h
      cases r with
      | cons r0 rs =>
        obtain ⟨e1, e2⟩ := ih h.2 rs
        unfold dropK dropD at *
        simp only [List.filter_cons, h.1]
        split
        · exact ⟨by simp only [List.map_cons, h.1, e1], .cons r0 e2⟩
        · exact ⟨e1, e2⟩
end
section
variable {X : Cx} {E : St → XK} {f g hh : M} {o e e2 : Expr} {apos cpos : Pos}
theorem s_del {tpos pos : Pos} (ho : EM X E o f) (he : EM X E e g) : SM X E (.Delete [.Subscript o e tpos] pos) (mDel f g) :=
  ⟨(ps_ddel ho.pe he.pe).weak fun s H D0 ⟨p, l, S, R, L, h⟩ => T.of R L h fun p1 S1 H1 d v R1 x1 L1 r1 h1 => T.of R1 L1 h1 fun p2 S2 H2 d2 v2 R2 x2 L2 r2 h2 => by
    have rd := r1.ext x2 _ _
    unfold oDel at h2
    split at h2
    · rename_i i
      cases rd with
      | ref hi =>
      split at h2
      · rename_i kvs k q ek
        obtain ⟨ks, h4, h5, h6⟩ := R2.ob _ _ q
        have gk := getK_V h5 h6 k
        split at h2
        · rename_i dd eg
          rw [eg] at gk
          obtain ⟨z, ez, rz⟩ := gk
          have xu : ∀ u, Ext S2.length S2.length p2 p2 H2 (upd H2 (p2 i) u) := fun u => ext_upd (R2.notup hi)
          obtain ⟨g1, g2⟩ := dropD_V h5 h6 k
          have R4 := R2.put hi (u := .dK (dropK ks k)) (o := .dic (dropD kvs k)) ⟨_, upd_same, g1, g2.ext (xu _) _ _⟩
          have h3 : Post X.K E S2.length p2 H2 (Ly.R.ok (F.nx l) (S2.set i (.dic (dropD kvs k)))) (QF X.K D0) := h2
          exact ⟨_, ks, k, rfl, h4, key_V r2 ek, by rw [ez]; rfl, Post.ok (Q := QF X.K D0) h3 (by rw [List.length_set]; exact xu _) R4 s (by rw [List.length_set]; exact L2.ext (xu _))⟩
        · exact h2.elim
      · exact h2.elim
    · exact h2.elim⟩
end
def rgD (a b : Int) : List D := (List.range (b - a).toNat).map fun i => D.int (a + (i : Nat))
theorem rg_reps {K : PySem.W.Frag} {p : Nat → Addr} {n : Nat} {H : Hp} (a b : Int) : Reps K p n H (rgD a b) (rgV a b) := by
  unfold rgD rgV
  generalize List.range (b - a).toNat = xs
  induction xs with
  | nil => exact .nil
  | cons x xs ih => exact .cons (.int _) ih
def oLRg (a b : Int) (S : Hs) : R D := if -(2 ^ 62) ≤ a ∧ a < 2 ^ 62 ∧ -(2 ^ 62) ≤ b ∧ b < 2 ^ 62 ∧ (b - a).toNat ≤ 2 ^ 24 then .ok (.ref S.length) (S ++ [.lst (rgD a b)]) else .bad
def rg1 (op : Int → Int → Hs → R D) : List D → Hs → R D := fun ds S => match ds with
  | [.int b] => op 0 b S
  | [.int a, .int b] => op a b S
  | _ => .bad
def mRg1 (op : Int → Int → Hs → R D) (f : M) : M := fun l S => (f l S).bind fun x S1 => rg1 op [x] S1
def mRg2 (op : Int → Int → Hs → R D) (f g : M) : M := fun l S => (f l S).bind fun x S1 => (g l S1).bind fun y S2 => rg1 op [x, y] S2
section
variable {X : Cx} {E : St → XK} {f g : M} {a b : Expr} {p p2 pos pos2 : Pos}
theorem post_lrg {K : PySem.W.Frag} {p : Nat → Addr} {S : Hs} {H : Hp} {i j : Int} {Q : VK} (R : Real K p S H) (h : Post K E S.length p H (oLRg i j S) (QD K Q)) : RgOk i j ∧ ∀ q, H q = none → Q (.ref q) (upd H q (.lst (rgV i j))) := by
  unfold oLRg at h
  split at h
  · rename_i hr
    exact ⟨hr, fun q hq => h.new R hq ⟨_, upd_same, rg_reps i j⟩⟩
  · exact h.elim
theorem c_listRg1 (hc : X.calm = true) (hm : X.mg "list" = none) (hm2 : X.mg "range" = none) (ha : EM X E a f) (hg : Gl X "list" := by rfl) (hg2 : Gl X "range" := by rfl) (na : starEach [a] X.env = (false, eval a X.env) :: starEach [] X.env := by rfl)
    (na2 : starEach [(.Call (.Name "range" p2) [a] [] pos2 : Expr)] X.env = (false, eval (.Call (.Name "range" p2) [a] [] pos2) X.env) :: starEach [] X.env := by rfl) :
    EM X E (.Call (.Name "list" p) [.Call (.Name "range" p2) [a] [] pos2] [] pos) (mRg1 oLRg f) :=
  ⟨(pe_listRg hc hg hm (prg_1 hg2 hm2 ha.pe na) na2).weak fun s H Q ⟨p, l, S, R, L, h⟩ => T.of (k := fun x S1 => rg1 oLRg [x] S1) R L h fun p1 S1 H1 d v R1 x1 L1 r1 h1 => by
    unfold rg1 at h1
    split at h1
    · rename_i e; cases e; cases r1; exact ⟨_, rfl, post_lrg R1 h1⟩
    · rename_i e; cases e
    · exact h1.elim⟩
end
def sortI (ns : List Int) : List Int := ns.mergeSort (fun a b => decide (a ≤ b))
theorem sortI_perm (ns : List Int) : (sortI ns).Perm ns := List.mergeSort_perm _ _
theorem sortI_pw (ns : List Int) : (sortI ns).Pairwise (· ≤ ·) := by
  have := List.pairwise_mergeSort (le := fun a b : Int => decide (a ≤ b)) (fun a b c h1 h2 => by simp at *; omega) (fun a b => by simp; omega) ns
  exact this.imp fun h => by simpa using h
theorem sortI_uniq {ns xs : List Int} (h : xs.Perm ns) (p : xs.Pairwise (· ≤ ·)) : xs = sortI ns :=
  List.Perm.eq_of_pairwise (fun a b _ _ h1 h2 => Int.le_antisymm h1 h2) p (sortI_pw ns) (h.trans (sortI_perm ns).symm)
def intKeys : List (Key × D) → Option (List Int)
  | [] => some []
  | (.inl i, _) :: r => (intKeys r).map (i :: ·)
  | _ => none
def bSorted : List D → Hs → R D
  | [x], S => match (seqD x S).bind intsD with
    | some ns => .ok (.ref S.length) (S ++ [.lst ((sortI ns).map D.int)])
    | none => match x with
      | .ref i => match S[i]? with
        | some (.dic kvs) => (match intKeys kvs with
          | some ns => if ns.length < 64 then .ok (.ref S.length) (S ++ [.lst ((sortI ns).map D.int)]) else .bad
          | none => .bad)
        | _ => .bad
      | _ => .bad
  | _, _ => .bad
section
variable {X : Cx} {E : St → XK} {e : Expr} {f : ML} {p pos : Pos}
abbrev rSortedA (K : PySem.W.Frag) : List V → Hp → VK → Prop := orC (rSortedI K) (fun xs H Q => ∃ (a : Addr) (kvs : List (Key × V)) (ks : List Int), xs = [.ref a] ∧ Rd H a (.dK kvs) ∧ kvs.map (·.1) = ks.map Sum.inl ∧ ks.length < 64 ∧
    ∀ (ys : List Int) (p : Addr), ys.Perm ks → ys.Pairwise (· ≤ ·) → H p = none → Q (.ref p) (upd H p (.lst (ys.map V.int))))
theorem intKeys_map {kvs : List (Key × D)} {ns : List Int} (h : intKeys kvs = some ns) : kvs.map (·.1) = ns.map Sum.inl := by
  induction kvs generalizing ns with
  | nil => cases h; rfl
  | cons a r ih =>
    obtain ⟨k, d⟩ := a
    cases k with
    | inl i =>
      simp only [intKeys, Option.map_eq_some_iff] at h
      obtain ⟨ms, h1, rfl⟩ := h
      simp [ih h1]
    | inr x => cases h
theorem ints_reps {K : PySem.W.Frag} {p : Nat → Addr} {n : Nat} {H : Hp} (ns : List Int) : Reps K p n H (ns.map D.int) (ns.map V.int) := by
  induction ns with
  | nil => exact .nil
  | cons x xs ih => exact .cons (.int _) ih
theorem ok_sorted {K : PySem.W.Frag} : CallOk K E (rSortedA K) bSorted := by
  intro p S H ds vs Q R r h
  unfold bSorted at h
  split at h
  · cases r with
    | cons r0 rs =>
    cases rs
    split at h
    · rename_i ns e
      rw [Option.bind_eq_some_iff] at e
      obtain ⟨xs, e1, e2⟩ := e
      obtain ⟨a, vs, rfl, hs, rv⟩ := seq_V R r0 e1
      refine .inl ⟨a, ns, rfl, by rw [← ints_V rv e2]; exact hs, fun ys q h1 h2 hq => ?_⟩
      rw [sortI_uniq h1 h2]
      exact h.new R hq ⟨_, upd_same, ints_reps _⟩
    · split at h
      · rename_i i
        cases r0 with
        | ref hi =>
        split at h
        · rename_i kvs q
          split at h
          · rename_i ns e
            split at h
            · rename_i hl
              obtain ⟨ks, h1, h2, h3⟩ := R.ob _ _ q
              refine .inr ⟨_, ks, ns, rfl, .inl h1, by rw [h2, intKeys_map e], hl, fun ys q h1 h2 hq => ?_⟩
              rw [sortI_uniq h1 h2]
              exact h.new R hq ⟨_, upd_same, ints_reps _⟩
            · exact h.elim
          · exact h.elim
        · exact h.elim
      · exact h.elim
  · exact h.elim
end
end Ly
set_option Elab.async false
set_option linter.all false
set_option maxRecDepth 100000
namespace Ly
open PySem PySem.Spec L2
open PyProof.Rows hiding St
def HOk (P : Program) (w : World) (K : PySem.W.Frag) (mg : Str → Option Value) (base : Heap) (CX : CXT) (k : Nat) (f : Addr) (md : MD) : Prop := ∃ (np : Nat) (fd : FuncData) (ps : List Str), FnOk P w K mg base CX k f fd ps (spM K np md) ∧ PySem.W.keepIn K (.ref f) = true ∧ Binds K fd ps [] ∧ ∀ ds S, ds.length ≠ np → md ds S = .bad
section
variable {P : Program} {w : World} {K : PySem.W.Frag} {mg : Str → Option Value} {base : Heap} {CX : CXT} {k : Nat}
inductive HOks (P : Program) (w : World) (K : PySem.W.Frag) (mg : Str → Option Value) (base : Heap) (CX : CXT) (k : Nat) : List (Addr × MD) → Prop
  | nil : HOks P w K mg base CX k []
  | cons {f : Addr} {md : MD} {r : List (Addr × MD)} (h : HOk P w K mg base CX k f md) (t : HOks P w K mg base CX k r) : HOks P w K mg base CX k ((f, md) :: r)
theorem HOks.get {tbl : List (Addr × MD)} (h : HOks P w K mg base CX k tbl) {f : Addr} {md : MD} (e : tbl.lookup f = some md) : HOk P w K mg base CX k f md := by
  induction h with
  | nil => cases e
  | cons h t ih =>
    simp only [List.lookup] at e
    split at e
    · cases e; rename_i q; rw [show f = _ from by simpa using q]; exact h
    · exact ih e
theorem hok {f c : Addr} {fd : FuncData} {ps : List Str} {np j : Nat} {md : MD} (e : c = f) (F : FnOk P w K mg base CX j f fd ps (spM K np md)) (hj : j ≤ k) (hk : PySem.W.keepIn K (.ref f) = true) (hb : Binds K fd ps []) (hl : ∀ ds S, ds.length ≠ np → md ds S = .bad) : HOk P w K mg base CX k c md := by
  subst e
  exact ⟨np, fd, ps, F.mono hj, hk, hb, hl⟩
end
section
variable {X : Cx} {E0 : XK} {CX : CXT} {e : Expr} {es : List Expr} {g : ML} {x : Str} {i k : Nat} {tbl : List (Addr × MD)} {p pos : Pos}
end
def Dst (a b : Nat) (cA : Nat → Addr) : Prop := ∀ i j, a ≤ i → i < b → a ≤ j → j < b → cA i = cA j → i = j
def spY (K : PySem.W.Frag) (a b : Nat) (np : Nat) (m : (Nat → Addr) → MD) : Sp := fun vs H Q E => ∀ cA, Dst a b cA → spM K np (m cA) vs H Q E
theorem law_endY {K : PySem.W.Frag} {a b : Nat} {m : (Nat → Addr) → MD} (hm : ∀ cA, Dst a b cA → LawTrue (m cA)) {H : Hp} {x : Addr} {ns : List Int} (hl : ns.length ≤ 63) (hb : ∀ z ∈ ns, Builtin.Int.intBits z ≤ 1048576) (hO : Only H) (hS : SqL K H x (ns.map V.int)) : spY K a b 1 m [.ref x] H (fun v _ => v = .bl true) fun _ _ _ => False :=
  fun cA h => law_end (hm cA h) hl hb hO hS
theorem dst_of {a b : Nat} {xs : List Addr} (h : ((xs.drop a).take (b - a)).Nodup) (hb : b ≤ xs.length) : Dst a b (fun i => xs.getD i 0) := by
  intro i j hi hi2 hj hj2 e
  have g : ∀ k, a ≤ k → k < b → ((xs.drop a).take (b - a))[k - a]? = some (xs.getD k 0) := by
    intro k h1 h2
    rw [List.getElem?_take_of_lt (by omega), List.getElem?_drop, show a + (k - a) = k by omega]
    have : k < xs.length := by omega
    simp [List.getD, List.getElem?_eq_getElem this]
  have e : xs.getD i 0 = xs.getD j 0 := e
  have e1 := g i hi hi2
  have e2 := g j hj hj2
  rw [e] at e1
  have := (List.getElem?_inj (by have := (List.getElem?_eq_some_iff.mp e1).1; omega) h).mp (e1.trans e2.symm)
  omega
end Ly
set_option Elab.async false
set_option linter.all false
set_option maxRecDepth 100000
namespace Ly
open PySem PySem.Spec L2
open PyProof.Rows hiding St
section
variable {X : Cx} {E : St → XK} {e : Expr} {f : M}
end
end Ly
set_option Elab.async false
set_option linter.all false
set_option maxRecDepth 100000
namespace Ly
open PySem PySem.Spec L2
open PyProof.Rows hiding St
structure FnR (P : Program) (w : World) (K : PySem.W.Frag) (mg : Str → Option Value) (base : Heap) (CX : CXT) (Rm : Around → Prop) (f : Addr) (fd : FuncData) (ps : List Str) (sp : Sp) : Prop where
  len : ∀ vs H Q E, sp vs H Q E → vs.length = ps.length
  run : ∀ (A : Around) (outer : List Env) (s : Shared) (H : Hp) (args : Args) (us : List Value) (vs : List V) (Q : VK) (E : XK), Rm A → Env0 P w K mg base A outer s H → BindsTo s fd args (ps.zip us) → Vals vs us → sp vs H Q E →
    codeAny (model P w) A (.call (.ref f) args) (CR CX outer P w H s Q E) s
structure Rn (j n : Nat) (A : Around) : Prop where
  hd : A.handled = none
  dp : A.depth + 3 * j + n + 5 < recursionLimit
  un : A.units + 16 * j + 5 * n + 200 < cLine
theorem Rn.of {j n k : Nat} {A : Around} (r : Room k A) (h : 3 * j + n ≤ 3 * k) : Rn j n A := ⟨r.hd, by have := r.dp; omega, by have := r.un; omega⟩
theorem Rn.deeper {j n : Nat} {A : Around} (r : Rn j (n + 1) A) (env : Env) : Rn j n (A.deeper env) :=
  ⟨r.hd, by have := r.dp; show A.depth + 1 + 3 * j + n + 5 < _; omega, by have := r.un; show A.units + 3 + 16 * j + 5 * n + 200 < _; omega⟩
section
variable {P : Program} {w : World} {K : PySem.W.Frag} {mg : Str → Option Value} {base : Heap} {CX : CXT} {f : Addr} {fd : FuncData} {ps : List Str} {sp : Sp}
theorem FnR.ok {j n k : Nat} (F : FnR P w K mg base CX (Rn j n) f fd ps sp) (h : 3 * j + n ≤ 3 * k) : FnOk P w K mg base CX k f fd ps sp :=
  ⟨F.len, fun A outer s H args us vs Q E hr => F.run A outer s H args us vs Q E (.of hr h)⟩
end
section
variable {X : Cx} {CX : CXT} {Rm : Around → Prop} {f C : Addr} {fd : FuncData} {ps : List Str} {sp : Sp} {E0 : XK} {E : St → XK} {x m : Str} {p pos apos : Pos} {e o : Expr} {es : List Expr} {t : TA} {ta : TE}
variable {eo : M} {g : ML} {C1 : Addr} {md1 : MD} {pl : Sem Bool}
end
section
variable {P : Program} {w : World} {K : PySem.W.Frag} {mg : Str → Option Value} {base : Heap} {Rm : Around → Prop}
end
section
variable {P : Program} {w : World} {K : PySem.W.Frag} {mg : Str → Option Value} {base : Heap} {Rm : Around → Prop} {CX : CXT} {m : Str}
end
end Ly
set_option Elab.async false
set_option linter.all false
set_option maxRecDepth 100000
namespace Ly
open PySem PySem.Spec L2
open PyProof.Rows hiding St
theorem mulok_r {i j : Int} (h : j.natAbs < 2 ^ 64) : IntMulOk i j := .of_right (intBits_le_64 (by omega) (by omega))
theorem mulok_l {i j : Int} (h : i.natAbs < 2 ^ 64) : IntMulOk i j := .of_left (intBits_le_64 (by omega) (by omega))
theorem kRA : ¬ (("row" : Str) = "at") := by decide +kernel
theorem kRS : ¬ (("row" : Str) = "seed") := by decide +kernel
theorem kAS : ¬ (("at" : Str) = "seed") := by decide +kernel
theorem kSA : ¬ (("seed" : Str) = "at") := by decide +kernel
theorem get_put {S : Hs} {i : Nat} {o u : O} (h : S[i]? = some o) : (S.set i u)[i]? = some u := List.getElem?_set_self (Real.lt h)
def drawsK (r a s : D) : List (Key × D) := [(.inr "row", r), (.inr "at", a), (.inr "seed", s)]
@[simp] theorem drawsK_row (r a s : D) : getK (drawsK r a s) (.inr "row") = some r := by simp [getK, drawsK]
@[simp] theorem drawsK_at (r a s : D) : getK (drawsK r a s) (.inr "at") = some a := by simp [getK, drawsK, kRA]
@[simp] theorem drawsK_seed (r a s : D) : getK (drawsK r a s) (.inr "seed") = some s := by simp [getK, drawsK, kRS, kAS]
@[simp] theorem drawsK_len (r a s : D) : (drawsK r a s).length = 3 := rfl
@[simp] theorem drawsK_set (r a s b : D) : setK (drawsK r a s) (.inr "at") b = drawsK r b s := by simp [setK, drawsK, kRA, kSA]
def drawsO (j : Nat) (a sd : Int) : O := .dic (drawsK (.ref j) (.int a) (.int sd))
structure Drw (S : Hs) (i j : Nat) (row : List Int) (a sd : Int) : Prop where
  d : S[i]? = some (drawsO j a sd)
  r : S[j]? = some (.lst (row.map D.int))
  ne : i ≠ j
  nn : 0 ≤ a
theorem atI_nat {α : Type} {xs : List α} {i : Int} (h0 : 0 ≤ i) (h1 : i < (xs.length : Int)) : L2.atI xs i = xs[i.toNat]? := by
  unfold L2.atI L2.ixN
  rw [if_pos h0, if_pos h1]; rfl
theorem get_end {S : Hs} {o : O} : (S ++ [o])[S.length]? = some o := by simp
theorem lenD_seq {x : D} {S : Hs} {ds : List D} (h : seqD x S = some ds) : lenD x S = some ds.length := by
  unfold seqD at h
  split at h
  · unfold lenD
    split at h <;> first | (rename_i q; cases h; simp [q]) | cases h
  · cases h; rfl
  · cases h
theorem seqD_more {x : D} {S g : Hs} {ds : List D} (h : seqD x S = some ds) : seqD x (S ++ g) = some ds := by
  unfold seqD at h ⊢
  split at h
  · rename_i i
    split at h
    · rename_i q; rw [List.getElem?_append_left (Real.lt q), q]; exact h
    · rename_i q; rw [List.getElem?_append_left (Real.lt q), q]; exact h
    · cases h
  · exact h
  · cases h
theorem oIx_seq {x : D} {S : Hs} {ds : List D} {i : Int} {d : D} (h : seqD x S = some ds) (h0 : 0 ≤ i) (h1 : i < (ds.length : Int)) (hd : ds[i.toNat]? = some d) : oIx x (.int i) S = .ok d S := by
  have ha : L2.atI ds i = some d := by rw [atI_nat h0 h1]; exact hd
  unfold seqD at h
  split at h
  · split at h <;> first | (rename_i q; cases h; simp [oIx, q, ha]) | cases h
  · cases h; simp [oIx, ha]
  · cases h
theorem line_big {n : Nat} (h : n ≤ 1000000) : n < sizeLine := Nat.lt_of_le_of_lt h (by decide)
theorem pow18 (S : Hs) : oPow (.int 10) (.int 18) S = .ok (.int 1000000000000000000) S := by
  have e : (10 : Int) ^ (18 : Int).toNat = 1000000000000000000 := by decide +kernel
  have h : 0 ≤ (18 : Int) ∧ (18 : Int) ≤ 1000000 ∧ (10 : Int).natAbs < 2 ^ 64 := by decide +kernel
  simp only [oPow]
  rw [if_pos h, e]
theorem rng1 {n : Int} (S : Hs) (h0 : -1000000000 ≤ n) (h1 : n ≤ 1000000000) : oRng1 [.int n] S = .ok (.rng 0 n.toNat) S := by
  have h : -(2 ^ 62) ≤ n ∧ n < 2 ^ 62 := ⟨Int.le_trans (by decide +kernel) h0, Int.lt_of_le_of_lt h1 (by decide +kernel)⟩
  simp only [oRng1]
  rw [if_pos h]
end Ly
set_option Elab.async false
set_option linter.all false
set_option maxRecDepth 100000
namespace Ly
open PySem PySem.Spec L2
open PyProof.Rows hiding St
def tx (cs : List Nat) : Str := ⟨⟨cs⟩⟩
@[simp] theorem tx_len (cs : List Nat) : (tx cs).length = cs.length := rfl
@[simp] theorem tx_list (cs : List Nat) : (tx cs).cps.toList = cs := rfl
theorem tx_inj {a b : List Nat} (h : tx a = tx b) : a = b := congrArg (fun z => z.cps.toList) h
@[simp] theorem tx_eq {a b : List Nat} : (tx a = tx b) = (a = b) := propext ⟨tx_inj, fun h => by rw [h]⟩
mutual
def D.plain : D → Bool
  | .non => true
  | .bl _ => true
  | .int _ => true
  | .str x => PyData.strOk x
  | .tup ds => D.plains ds
  | .wt ds => D.plains ds
  | _ => false
def D.plains : List D → Bool
  | [] => true
  | d :: ds => D.plain d && D.plains ds
end
mutual
def D.toP : D → PyData
  | .non => .none
  | .bl b => .bool b
  | .int i => .int i
  | .str x => .str x
  | .tup ds => .tuple (D.toPs ds)
  | .wt ds => .tuple (D.toPs ds)
  | _ => .none
def D.toPs : List D → List PyData
  | [] => []
  | d :: ds => D.toP d :: D.toPs ds
end
mutual
theorem D.pd_plain (S : Hs) : ∀ (d : D) (k : Nat), d.plain = true → 2 * d.toP.depth < k → D.pd S k d = some d.toP
  | d, 0, _, h => absurd h (Nat.not_lt_zero _)
  | .non, k + 1, _, _ => by rw [D.pd, D.toP]
  | .bl _, k + 1, _, _ => by rw [D.pd, D.toP]
  | .int _, k + 1, _, _ => by rw [D.pd, D.toP]
  | .str _, k + 1, _, _ => by rw [D.pd, D.toP]
  | .tup ds, k + 1, h, hk => by
    rw [D.pd, D.toP, D.pds_plain S ds k (by simpa [D.plain] using h) (by simp [D.toP, PyData.depth] at hk; omega)]; rfl
  | .wt ds, k + 1, h, hk => by
    rw [D.pd, D.toP, D.pds_plain S ds k (by simpa [D.plain] using h) (by simp [D.toP, PyData.depth] at hk; omega)]; rfl
  | .wl _, _ + 1, h, _ => by simp [D.plain] at h
  | .ref _, _ + 1, h, _ => by simp [D.plain] at h
  | .cst _, _ + 1, h, _ => by simp [D.plain] at h
theorem D.pds_plain (S : Hs) : ∀ (ds : List D) (k : Nat), D.plains ds = true → 2 * PyData.depthAll (D.toPs ds) + 1 < k → D.pds S k ds = some (D.toPs ds)
  | [], k, _, _ => by cases k <;> simp [D.pds, D.toPs]
  | d :: ds, 0, _, h => absurd h (Nat.not_lt_zero _)
  | d :: ds, k + 1, h, hk => by
    simp only [D.plains, Bool.and_eq_true] at h
    simp only [D.toPs, PyData.depthAll] at hk
    rw [D.pds, D.pd_plain S d k h.1 (by omega), D.pds_plain S ds (k + 1) h.2 (by omega), D.toPs]
end
mutual
theorem D.lay_plain : ∀ (d : D), d.plain = true → d.toP.canLay0 = true
  | .non, _ => by simp [D.toP, PyData.canLay0]
  | .bl _, _ => by simp [D.toP, PyData.canLay0]
  | .int _, _ => by simp [D.toP, PyData.canLay0]
  | .str x, h => by simpa [D.toP, PyData.canLay0, D.plain] using h
  | .tup ds, h => by
    rw [D.toP, PyData.canLay0]; exact D.lays_plain ds (by simpa [D.plain] using h)
  | .wt ds, h => by
    rw [D.toP, PyData.canLay0]; exact D.lays_plain ds (by simpa [D.plain] using h)
  | .wl _, h => by simp [D.plain] at h
  | .ref _, h => by simp [D.plain] at h
  | .cst _, h => by simp [D.plain] at h
theorem D.lays_plain : ∀ (ds : List D), D.plains ds = true → PyData.canLayAll0 (D.toPs ds) = true
  | [], _ => by simp [D.toPs, PyData.canLayAll0]
  | d :: ds, h => by
    simp only [D.plains, Bool.and_eq_true] at h
    simp [D.toPs, PyData.canLayAll0, D.lay_plain d h.1, D.lays_plain ds h.2]
end
theorem plains_mem : ∀ (xs : List D), D.plains xs = true ↔ ∀ x ∈ xs, D.plain x = true
  | [] => by simp [D.plains]
  | x :: xs => by simp [D.plains, plains_mem xs]
theorem depthAll_mem {n : Nat} : ∀ (xs : List D), (∀ x ∈ xs, x.toP.depth ≤ n) → PyData.depthAll (D.toPs xs) ≤ n
  | [], _ => by simp [D.toPs, PyData.depthAll]
  | x :: xs, h => by
    simp only [D.toPs, PyData.depthAll]
    have h1 := h x (List.mem_cons_self ..)
    have h2 := depthAll_mem xs (fun y m => h y (List.mem_cons_of_mem _ m))
    omega
theorem cEqD_same {x y : D} {S : Hs} {a : PyData} (e : cEqS x y = none) (hx : D.pd S 70 x = some a) (hy : D.pd S 70 y = some a) (hs : SeqAt.shaped a = true) : cEqD x y S = some true := by
  unfold cEqD
  rw [e, hx, hy]
  simp only []
  have h : a.canLay0 = true := by
    simp only [SeqAt.shaped, Bool.and_eq_true] at hs; exact hs.1
  rw [if_pos ⟨hs, hs⟩, PySem.SeqAt.eqv_refl a h]
theorem pd_lst {S : Hs} {i : Nat} {xs : List D} (h : S[i]? = some (.lst xs)) (hp : D.plains xs = true) (hd : PyData.depthAll (D.toPs xs) ≤ 30) : D.pd S 70 (.ref i) = some (.list (D.toPs xs)) ∧ SeqAt.shaped (.list (D.toPs xs)) = true := by
  refine ⟨?_, ?_⟩
  · rw [D.pd, h]
    simp only []
    rw [D.pds_plain S xs 69 hp (by omega)]; rfl
  · show (_ && _) = true
    rw [Bool.and_eq_true]
    refine ⟨by rw [PyData.canLay0]; exact D.lays_plain xs hp, decide_eq_true ?_⟩
    rw [PyData.depth]
    omega
theorem eq_lsts {S : Hs} {i j : Nat} {xs : List D} (hi : S[i]? = some (.lst xs)) (hj : S[j]? = some (.lst xs)) (hp : D.plains xs = true) (hd : PyData.depthAll (D.toPs xs) ≤ 30) : cEqD (.ref i) (.ref j) S = some true :=
  cEqD_same rfl (pd_lst hi hp hd).1 (pd_lst hj hp hd).1 (pd_lst hi hp hd).2
end Ly
set_option Elab.async false
set_option linter.all false
set_option maxRecDepth 100000
namespace Ly
open PySem PySem.Spec L2
open PyProof.Rows hiding St
theorem nr {α : Type} {a b : α} (h : a = b) : a = b := h.trans (Eq.refl _)
section
variable {f g h : M} {fl : ML} {fm : MO} {c c2 : MB} {b b2 : MS} {gg : MG} {gs : MGs} {l : Ls} {S : Hs} {i n : Nat} {d : D} {ds : List D} {md : MD} {op2 : D → D → Hs → R D} {op1 : D → Hs → R D} {opn : List D → Hs → R D} {opm : D → List D → Hs → R D} {T : String} {it : MI} {mp : MP} {lo hi : MO}
end
theorem set_same {S : Hs} {i : Nat} {o : O} (h : S[i]? = some o) : S.set i o = S := by
  obtain ⟨hlt, rfl⟩ := List.getElem?_eq_some_iff.mp h
  exact List.set_getElem_self hlt
def DrwA (S : Hs) (i j : Nat) (row : List Int) (sd : Int) : Prop := ∃ a, Drw S i j row a sd
def Upd (i j : Nat) (sd : Int) (S S' : Hs) : Prop := ∃ a g, 0 ≤ a ∧ S' = S.set i (drawsO j a sd) ++ g
section
variable {i j : Nat} {row : List Int} {sd : Int} {S S1 S2 g : Hs}
theorem Upd.refl (h : DrwA S i j row sd) : Upd i j sd S S := by
  obtain ⟨a, h⟩ := h
  exact ⟨a, [], h.nn, by rw [set_same h.d]; simp⟩
theorem Upd.trans (h : DrwA S i j row sd) (u : Upd i j sd S S1) (v : Upd i j sd S1 S2) : Upd i j sd S S2 := by
  obtain ⟨_, h⟩ := h
  obtain ⟨a, g, ha, rfl⟩ := u
  obtain ⟨b, g', hb, rfl⟩ := v
  have hi : i < S.length := Real.lt h.d
  refine ⟨b, g ++ g', hb, ?_⟩
  rw [List.set_append_left _ _ (by simpa using hi), List.set_set, List.append_assoc]
theorem Upd.app (u : Upd i j sd S S1) : Upd i j sd S (S1 ++ g) := by
  obtain ⟨a, g', ha, rfl⟩ := u
  exact ⟨a, g' ++ g, ha, by rw [List.append_assoc]⟩
theorem Upd.new (h : DrwA S i j row sd) : Upd i j sd S (S ++ g) := (Upd.refl h).app
theorem Upd.get (u : Upd i j sd S S1) {k : Nat} {o : O} (h : S[k]? = some o) (hk : k ≠ i) : S1[k]? = some o := by
  obtain ⟨a, g', ha, rfl⟩ := u
  have hl : k < S.length := Real.lt h
  rw [List.getElem?_append_left (by simpa using hl), List.getElem?_set_ne (Ne.symm hk), h]
theorem Upd.le (u : Upd i j sd S S1) : S.length ≤ S1.length := by
  obtain ⟨a, g', ha, rfl⟩ := u
  simp
theorem line_le {n : Nat} (h : n ≤ 1000000) : n ≤ sizeLine := Nat.le_trans h (by decide)
end
theorem oAdd_int {a b : Int} {S : Hs} : oAdd (.int a) (.int b) S = .ok (.int (a + b)) S := nr rfl
theorem oSub_int {a b : Int} {S : Hs} : oSub (.int a) (.int b) S = .ok (.int (a - b)) S := nr rfl
theorem oLt_int {a b : Int} {S : Hs} : oLt (.int a) (.int b) S = .ok (.bl (decide (a < b))) S := nr rfl
theorem oTru_bl {b : Bool} {S : Hs} : oTru (.bl b) S = .ok b S := nr rfl
theorem oEq_int {a b : Int} {S : Hs} : oEq (.int a) (.int b) S = .ok (.bl (decide (a = b))) S := nr rfl
theorem oNe_int {a b : Int} {S : Hs} : oNe (.int a) (.int b) S = .ok (.bl (!decide (a = b))) S := nr rfl
theorem oEq_str {a b : Str} {S : Hs} : oEq (.str a) (.str b) S = .ok (.bl (decide (a = b))) S := nr rfl
theorem oNe_str {a b : Str} {S : Hs} : oNe (.str a) (.str b) S = .ok (.bl (!decide (a = b))) S := nr rfl
end Ly
set_option Elab.async false
set_option linter.all false
set_option maxRecDepth 100000
namespace Ly
open PySem PySem.Spec L2
open PyProof.Rows hiding St
abbrev XP := V → Option (List (Str × D)) → Ls → Hs → Prop
def WpD {α : Type} (X : XP) (r : R α) (Q : α → Hs → Prop) : Prop := match r with
  | .ok a S => Q a S
  | .exc c fs l S => X c fs l S
  | .bad => False
structure Wp {α : Type} (X : XP) (r : R α) (Q : α → Hs → Prop) : Prop where
  un : WpD X r Q
def NoX : XP := fun _ _ _ _ => False
theorem Wp.mono {α : Type} {X X' : XP} {r : R α} {P Q : α → Hs → Prop} (h : Wp X r P) (hx : ∀ c fs l S, X c fs l S → X' c fs l S) (k : ∀ v S, P v S → Q v S) : Wp X' r Q := by
  cases r with
  | ok a S => exact ⟨k a S h.un⟩
  | exc c fs l S => exact ⟨hx c fs l S h.un⟩
  | bad => exact h.un.elim
theorem Wp.call {α : Type} {X : XP} {r : R α} {P Q : α → Hs → Prop} (h : Wp NoX r P) (k : ∀ v S, P v S → Q v S) : Wp X r Q := h.mono (fun _ _ _ _ h => h.elim) k
theorem Wp.ex {α : Type} {r : R α} {P : α → Hs → Prop} (h : Wp NoX r P) : ∃ v S, r = .ok v S ∧ P v S := by
  cases r with
  | ok a S => exact ⟨a, S, rfl, h.un⟩
  | exc c fs l S => exact h.un.elim
  | bad => exact h.un.elim
theorem Wp.of {α : Type} {X : XP} {r : R α} {P : α → Hs → Prop} {v : α} {S : Hs} (e : r = .ok v S) (h : P v S) : Wp X r P := by rw [e]; exact ⟨h⟩
def atX (X : XP) (l : Ls) : XP := fun c fs _ S => X c fs l S
section
variable {α β : Type} {X : XP}
theorem v_ok {a : α} {S : Hs} {Q : α → Hs → Prop} : Wp X (.ok a S) Q = Q a S := propext ⟨fun h => h.un, fun h => ⟨h⟩⟩
theorem v_bad {Q : α → Hs → Prop} : Wp X (.bad) Q = False := propext ⟨fun h => h.un, fun h => h.elim⟩
theorem v_exc {c : V} {fs : Option (List (Str × D))} {l : Ls} {S : Hs} {Q : α → Hs → Prop} : Wp X (.exc c fs l S) Q = X c fs l S := propext ⟨fun h => h.un, fun h => ⟨h⟩⟩
def bdK (X : XP) (k : α → Hs → R β) (Q : β → Hs → Prop) : α → Hs → Prop := fun a S => Wp X (k a S) Q
theorem v_bind {r : R α} {k : α → Hs → R β} {Q : β → Hs → Prop} : Wp X (r.bind k) Q = Wp X r (bdK X k Q) := by cases r <;> simp only [R.bind, v_ok, v_bad, v_exc] <;> rfl
theorem k_bd {k : α → Hs → R β} {Q : β → Hs → Prop} {a : α} {S : Hs} : bdK X k Q a S = Wp X (k a S) Q := nr rfl
theorem v_at {r : R α} {l : Ls} {Q : α → Hs → Prop} : Wp X (r.at l) Q = Wp (atX X l) r Q := by cases r <;> simp only [R.at, v_ok, v_bad, v_exc] <;> rfl
end
section
variable {X : XP} {f g h : M} {fl : ML} {c c2 : MB} {b b2 : MS} {gg : MG} {gs : MGs} {l : Ls} {S : Hs} {i n : Nat} {d x y : D} {ds : List D} {md : MD} {op2 : D → D → Hs → R D} {op1 : D → Hs → R D} {opn : List D → Hs → R D} {opm : D → List D → Hs → R D} {T : String} {it : MI} {lo hi : MO} {t : Bool}
section
variable {Q : D → Hs → Prop}
def biK (X : XP) (op : D → D → Hs → R D) (g : M) (l : Ls) (Q : D → Hs → Prop) : D → Hs → Prop := fun x S => Wp X (g l S) fun y S2 => Wp X (op x y S2) Q
def biK2 (X : XP) (op : D → D → Hs → R D) (x : D) (Q : D → Hs → Prop) : D → Hs → Prop := fun y S => Wp X (op x y S) Q
theorem v_bin : Wp X (mBin op2 f g l S) Q = Wp X (f l S) (biK X op2 g l Q) := by
  unfold mBin; rw [v_bind]; congr 1; funext x S1; unfold bdK biK; simp only [v_bind]; first | rfl | (congr 1; funext _ _; exact v_ok)
theorem k_bi : biK X op2 g l Q x S = Wp X (g l S) (biK2 X op2 x Q) := nr rfl
theorem k_bi2 : biK2 X op2 x Q y S = Wp X (op2 x y S) Q := nr rfl
theorem v_var : Wp X (mVar i l S) Q = match l[i]? with | some (some d) => Q d S | _ => False := by
  unfold mVar; cases l[i]? with
  | none => exact v_bad
  | some o =>
    cases o with
    | none => exact v_bad
    | some d => exact v_ok
theorem v_c : Wp X (mC d l S) Q = Q d S := v_ok
def unK (X : XP) (op : D → Hs → R D) (Q : D → Hs → Prop) : D → Hs → Prop := fun x S => Wp X (op x S) Q
theorem v_un : Wp X (mUn op1 f l S) Q = Wp X (f l S) (unK X op1 Q) := by unfold mUn; rw [v_bind]; first | rfl | (congr 1; funext _ _; exact v_ok)
theorem k_un : unK X op1 Q x S = Wp X (op1 x S) Q := nr rfl
def ifeK (X : XP) (f g : M) (l : Ls) (Q : D → Hs → Prop) : Bool → Hs → Prop := fun t S => if t = true then Wp X (f l S) Q else Wp X (g l S) Q
theorem v_if : Wp X (mIf c f g l S) Q = Wp X (c l S) (ifeK X f g l Q) := by
  unfold mIf; rw [v_bind]; congr 1; funext t S1; unfold bdK ifeK; cases t <;> first | rfl | exact v_bad | exact v_ok
theorem k_ife : ifeK X f g l Q t S = if t = true then Wp X (f l S) Q else Wp X (g l S) Q := nr rfl
def andK (X : XP) (g : M) (l : Ls) (Q : D → Hs → Prop) : D → Hs → Prop := fun x S => Wp X (oTru x S) fun t S1 => if t = true then Wp X (g l S1) Q else Q x S1
def andK2 (X : XP) (x : D) (g : M) (l : Ls) (Q : D → Hs → Prop) : Bool → Hs → Prop := fun t S1 => if t = true then Wp X (g l S1) Q else Q x S1
theorem v_and : Wp X (mAnd f g l S) Q = Wp X (f l S) (andK X g l Q) := by
  unfold mAnd; rw [v_bind]; congr 1; funext x S1; unfold bdK andK; simp only [v_bind]; congr 1; funext t S2; unfold bdK; cases t <;> first | rfl | exact v_bad | exact v_ok
theorem k_and : andK X g l Q x S = Wp X (oTru x S) (andK2 X x g l Q) := nr rfl
theorem k_and2 : andK2 X x g l Q t S = if t = true then Wp X (g l S) Q else Q x S := nr rfl
def orK (X : XP) (g : M) (l : Ls) (Q : D → Hs → Prop) : D → Hs → Prop := fun x S => Wp X (oTru x S) fun t S1 => if t = true then Q x S1 else Wp X (g l S1) Q
def orK2 (X : XP) (x : D) (g : M) (l : Ls) (Q : D → Hs → Prop) : Bool → Hs → Prop := fun t S1 => if t = true then Q x S1 else Wp X (g l S1) Q
theorem v_or : Wp X (mOr f g l S) Q = Wp X (f l S) (orK X g l Q) := by
  unfold mOr; rw [v_bind]; congr 1; funext x S1; unfold bdK orK; simp only [v_bind]; congr 1; funext t S2; unfold bdK; cases t <;> first | rfl | exact v_bad | exact v_ok
theorem k_or : orK X g l Q x S = Wp X (oTru x S) (orK2 X x g l Q) := nr rfl
theorem k_or2 : orK2 X x g l Q t S = if t = true then Q x S else Wp X (g l S) Q := nr rfl
def tupK (Q : D → Hs → Prop) : List D → Hs → Prop := fun ds S => ds.length ≤ sizeLine ∧ Q (.tup ds) S
theorem v_tup : Wp X (mTup fl l S) Q = Wp X (fl l S) (tupK Q) := by
  unfold mTup; rw [v_bind]; congr 1; funext ds S1; unfold bdK tupK; by_cases h : ds.length ≤ sizeLine
  · simp [h, v_ok]
  · simp [h, v_bad]
theorem k_tup : tupK Q ds S = (ds.length ≤ sizeLine ∧ Q (.tup ds) S) := nr rfl
def lstK (Q : D → Hs → Prop) : List D → Hs → Prop := fun ds S => ds.length ≤ sizeLine ∧ Q (.ref S.length) (S ++ [.lst ds])
theorem v_lst : Wp X (mLst fl l S) Q = Wp X (fl l S) (lstK Q) := by
  unfold mLst; rw [v_bind]; congr 1; funext ds S1; unfold bdK lstK; by_cases h : ds.length ≤ sizeLine
  · simp [h, v_ok]
  · simp [h, v_bad]
theorem k_lst : lstK Q ds S = (ds.length ≤ sizeLine ∧ Q (.ref S.length) (S ++ [.lst ds])) := nr rfl
def caK (X : XP) (op : List D → Hs → R D) (Q : D → Hs → Prop) : List D → Hs → Prop := fun ds S => Wp X (op ds S) Q
theorem v_call : Wp X (mCall opn fl l S) Q = Wp X (fl l S) (caK X opn Q) := by unfold mCall; rw [v_bind]; first | rfl | (congr 1; funext _ _; exact v_ok)
theorem k_ca : caK X opn Q ds S = Wp X (opn ds S) Q := nr rfl
def fnK (X : XP) (md : MD) (l : Ls) (Q : D → Hs → Prop) : List D → Hs → Prop := fun ds S => Wp (atX X l) (md ds S) Q
theorem v_fn : Wp X (mFn md fl l S) Q = Wp X (fl l S) (fnK X md l Q) := by
  unfold mFn; rw [v_bind]; congr 1; funext ds S1; unfold bdK fnK; rw [v_at]
theorem k_fn : fnK X md l Q ds S = Wp (atX X l) (md ds S) Q := nr rfl
def bmK (X : XP) (T : String) (op : D → List D → Hs → R D) (fl : ML) (l : Ls) (Q : D → Hs → Prop) : D → Hs → Prop := fun x S => hasTy T x S = true ∧ Wp X (fl l S) fun ds S1 => Wp X (op x ds S1) Q
def bmK2 (X : XP) (op : D → List D → Hs → R D) (x : D) (Q : D → Hs → Prop) : List D → Hs → Prop := fun ds S1 => Wp X (op x ds S1) Q
theorem v_bm : Wp X (mBM T opm f fl l S) Q = Wp X (f l S) (bmK X T opm fl l Q) := by
  unfold mBM; rw [v_bind]; congr 1; funext x S1; unfold bdK bmK
  by_cases h : hasTy T x S1 = true
  · simp only [h, true_and, if_true, v_bind]; rfl
  · simp [h, v_bad]
theorem k_bm : bmK X T opm fl l Q x S = (hasTy T x S = true ∧ Wp X (fl l S) (bmK2 X opm x Q)) := nr rfl
theorem k_bm2 : bmK2 X opm x Q ds S = Wp X (opm x ds S) Q := nr rfl
def slK (X : XP) (lo hi : MO) (l : Ls) (Q : D → Hs → Prop) : D → Hs → Prop := fun x S => Wp X (lo l S) fun a S1 => Wp X (hi l S1) fun b S2 => Wp X (oSl x a b S2) Q
def slK2 (X : XP) (x : D) (hi : MO) (l : Ls) (Q : D → Hs → Prop) : Option Int → Hs → Prop := fun a S1 => Wp X (hi l S1) fun b S2 => Wp X (oSl x a b S2) Q
def slK3 (X : XP) (x : D) (a : Option Int) (Q : D → Hs → Prop) : Option Int → Hs → Prop := fun b S2 => Wp X (oSl x a b S2) Q
theorem v_sl : Wp X (mSl f lo hi l S) Q = Wp X (f l S) (slK X lo hi l Q) := by
  unfold mSl; rw [v_bind]; congr 1; funext x S1; unfold bdK slK; rw [v_bind]; congr 1; funext a S2; unfold bdK; rw [v_bind]; first | rfl | (congr 1; funext _ _; exact v_ok)
theorem k_sl : slK X lo hi l Q x S = Wp X (lo l S) (slK2 X x hi l Q) := nr rfl
variable {oa ob : Option Int}
theorem k_sl2 : slK2 X x hi l Q oa S = Wp X (hi l S) (slK3 X x oa Q) := nr rfl
theorem k_sl3 : slK3 X x oa Q ob S = Wp X (oSl x oa ob S) Q := nr rfl
variable {tbl : List (Str × D)}
def ixkK (tbl : List (Str × D)) (Q : D → Hs → Prop) : D → Hs → Prop := fun x S => match x with
  | .str z => match tbl.lookup z with
    | some d => Q d S
    | none => False
  | _ => False
theorem v_ixK : Wp X (mIxK tbl f l S) Q = Wp X (f l S) (ixkK tbl Q) := by
  unfold mIxK; rw [v_bind]; congr 1; funext x S1; unfold bdK ixkK
  cases x <;> try (first | rfl | exact v_bad | exact v_ok)
  rename_i z
  simp only []
  cases tbl.lookup z <;> first | rfl | exact v_bad | exact v_ok
theorem k_ixk {z : Str} : ixkK tbl Q (.str z) S = match tbl.lookup z with | some d => Q d S | none => False := nr rfl
def inkK (tbl : List (Str × D)) (Q : D → Hs → Prop) : D → Hs → Prop := fun x S => match x with
  | .str z => Q (.bl (tbl.lookup z).isSome) S
  | _ => False
theorem v_inK : Wp X (mInK tbl f l S) Q = Wp X (f l S) (inkK tbl Q) := by
  unfold mInK; rw [v_bind]; congr 1; funext x S1; unfold bdK inkK; cases x <;> first | rfl | exact v_bad | exact v_ok
theorem k_ink {z : Str} : inkK tbl Q (.str z) S = Q (.bl (tbl.lookup z).isSome) S := nr rfl
def ninkK (tbl : List (Str × D)) (Q : D → Hs → Prop) : D → Hs → Prop := fun x S => match x with
  | .str z => Q (.bl (!(tbl.lookup z).isSome)) S
  | _ => False
theorem v_notinK : Wp X (mNotInK tbl f l S) Q = Wp X (f l S) (ninkK tbl Q) := by
  unfold mNotInK; rw [v_bind]; congr 1; funext x S1; unfold bdK ninkK; cases x <;> first | rfl | exact v_bad | exact v_ok
theorem k_nink {z : Str} : ninkK tbl Q (.str z) S = Q (.bl (!(tbl.lookup z).isSome)) S := nr rfl
def gk2K (X : XP) (tbl : List (Str × D)) (g : M) (l : Ls) (Q : D → Hs → Prop) : D → Hs → Prop := fun x S => match x with
  | .str z => Wp X (g l S) fun y S2 => (match tbl.lookup z with | some d => Q d S2 | none => Q y S2)
  | _ => False
theorem v_getK2 : Wp X (mGetK2 tbl f g l S) Q = Wp X (f l S) (gk2K X tbl g l Q) := by
  unfold mGetK2; rw [v_bind]; congr 1; funext x S1; unfold bdK gk2K; cases x <;> try (first | rfl | exact v_bad | exact v_ok)
  rename_i z
  simp only [v_bind]; congr 1; funext y S2; unfold bdK; cases tbl.lookup z <;> first | rfl | exact v_bad | exact v_ok
def gkK (tbl : List (Str × D)) (z : Str) (Q : D → Hs → Prop) : D → Hs → Prop := fun y S2 => match tbl.lookup z with | some d => Q d S2 | none => Q y S2
theorem k_gk2 {z : Str} : gk2K X tbl g l Q (.str z) S = Wp X (g l S) (gkK tbl z Q) := nr rfl
theorem k_gk {z : Str} : gkK tbl z Q y S = match tbl.lookup z with | some d => Q d S | none => Q y S := nr rfl
def g2K (X : XP) (g h : M) (l : Ls) (Q : D → Hs → Prop) : D → Hs → Prop := fun x S => hasTy "dict" x S = true ∧ Wp X (g l S) fun y S2 => Wp X (h l S2) fun z S3 => match dGet x y S3 with
  | some (some d) => Q d S3
  | some none => Q z S3
  | none => False
def g2K2 (X : XP) (x : D) (h : M) (l : Ls) (Q : D → Hs → Prop) : D → Hs → Prop := fun y S2 => Wp X (h l S2) fun z S3 => match dGet x y S3 with
  | some (some d) => Q d S3
  | some none => Q z S3
  | none => False
def g2K3 (x y : D) (Q : D → Hs → Prop) : D → Hs → Prop := fun z S3 => match dGet x y S3 with
  | some (some d) => Q d S3
  | some none => Q z S3
  | none => False
theorem v_get2 : Wp X (mGet2 f g h l S) Q = Wp X (f l S) (g2K X g h l Q) := by
  unfold mGet2; rw [v_bind]; congr 1; funext x S1; unfold bdK g2K
  by_cases hh : hasTy "dict" x S1 = true
  · simp only [hh, true_and, if_true, v_bind]; congr 1; funext y S2; unfold bdK; rw [v_bind]; congr 1; funext z S3; unfold bdK; simp only []
    cases dGet x y S3 with
    | none => first | rfl | exact v_bad | exact v_ok
    | some o => cases o <;> first | rfl | exact v_bad | exact v_ok
  · simp [hh, v_bad]
theorem k_g2 : g2K X g h l Q x S = (hasTy "dict" x S = true ∧ Wp X (g l S) (g2K2 X x h l Q)) := nr rfl
theorem k_g22 : g2K2 X x h l Q y S = Wp X (h l S) (g2K3 x y Q) := nr rfl
theorem k_g23 {z : D} : g2K3 x y Q z S = match dGet x y S with | some (some d) => Q d S | some none => Q z S | none => False := nr rfl
end
section
variable {Q : List D → Hs → Prop}
theorem v_nil : Wp X (lNil l S) Q = Q [] S := v_ok
def coK (X : XP) (fl : ML) (l : Ls) (Q : List D → Hs → Prop) : D → Hs → Prop := fun x S => Wp X (fl l S) fun xs S2 => Q (x :: xs) S2
def coK2 (x : D) (Q : List D → Hs → Prop) : List D → Hs → Prop := fun xs S2 => Q (x :: xs) S2
theorem v_cons : Wp X (lCons f fl l S) Q = Wp X (f l S) (coK X fl l Q) := by
  unfold lCons; rw [v_bind]; congr 1; funext x S1; unfold bdK coK; rw [v_bind]; first | rfl | (congr 1; funext _ _; exact v_ok)
theorem k_co : coK X fl l Q x S = Wp X (fl l S) (coK2 x Q) := nr rfl
theorem k_co2 : coK2 x Q ds S = Q (x :: ds) S := nr rfl
end
section
variable {Q : Option Int → Hs → Prop}
theorem v_no : Wp X (oNo l S) Q = Q none S := v_ok
def soK (Q : Option Int → Hs → Prop) : D → Hs → Prop := fun d S => match d with
  | .int i => Q (some i) S
  | _ => False
theorem v_some : Wp X (oSome f l S) Q = Wp X (f l S) (soK Q) := by
  unfold oSome; rw [v_bind]; congr 1; funext d S1; unfold bdK soK; cases d <;> first | rfl | exact v_bad | exact v_ok
theorem k_so {j : Int} : soK Q (.int j) S = Q (some j) S := nr rfl
end
section
variable {Q : Bool → Hs → Prop}
def cmK (Q : Bool → Hs → Prop) : D → Hs → Prop := fun d S => match d with
  | .bl b => Q b S
  | _ => False
theorem k_cm {b : Bool} : cmK Q (.bl b) S = Q b S := nr rfl
theorem v_cmp : Wp X (mCmp op2 f g l S) Q = Wp X (f l S) (biK X op2 g l (cmK Q)) := by
  unfold mCmp; rw [v_bind]; congr 1; funext x S1; unfold bdK biK; rw [v_bind]; congr 1; funext y S2; unfold bdK; rw [v_bind]; congr 1; funext d S3; unfold bdK cmK; cases d <;> first | rfl | exact v_bad | exact v_ok
def trK (X : XP) (Q : Bool → Hs → Prop) : D → Hs → Prop := fun d S => Wp X (oTru d S) Q
theorem v_tru : Wp X (mTru f l S) Q = Wp X (f l S) (trK X Q) := by unfold mTru; rw [v_bind]; first | rfl | (congr 1; funext _ _; exact v_ok)
theorem k_tr : trK X Q d S = Wp X (oTru d S) Q := nr rfl
def noK (Q : Bool → Hs → Prop) : Bool → Hs → Prop := fun b S => Q (!b) S
theorem v_notB : Wp X (mNotB c l S) Q = Wp X (c l S) (noK Q) := by unfold mNotB; rw [v_bind]; first | rfl | (congr 1; funext _ _; exact v_ok)
theorem k_no : noK Q t S = Q (!t) S := nr rfl
def anK (X : XP) (c2 : MB) (l : Ls) (Q : Bool → Hs → Prop) : Bool → Hs → Prop := fun b S => if b = true then Wp X (c2 l S) Q else Q false S
theorem v_andB : Wp X (mAndB c c2 l S) Q = Wp X (c l S) (anK X c2 l Q) := by
  unfold mAndB; rw [v_bind]; congr 1; funext b S1; unfold bdK anK; cases b <;> first | rfl | exact v_bad | exact v_ok
theorem k_an : anK X c2 l Q t S = if t = true then Wp X (c2 l S) Q else Q false S := nr rfl
def orbK (X : XP) (c2 : MB) (l : Ls) (Q : Bool → Hs → Prop) : Bool → Hs → Prop := fun b S => if b = true then Q true S else Wp X (c2 l S) Q
theorem v_orB : Wp X (mOrB c c2 l S) Q = Wp X (c l S) (orbK X c2 l Q) := by
  unfold mOrB; rw [v_bind]; congr 1; funext b S1; unfold bdK orbK; cases b <;> first | rfl | exact v_bad | exact v_ok
theorem k_orb : orbK X c2 l Q t S = if t = true then Q true S else Wp X (c2 l S) Q := nr rfl
theorem v_yes : Wp X (mYes l S) Q = Q true S := v_ok
variable {tbl : List (Str × D)}
def inkBK (tbl : List (Str × D)) (Q : Bool → Hs → Prop) : D → Hs → Prop := fun x S => match x with
  | .str z => Q (tbl.lookup z).isSome S
  | _ => False
theorem v_inKB : Wp X (mInKB tbl f l S) Q = Wp X (f l S) (inkBK tbl Q) := by
  unfold mInKB; rw [v_bind]; congr 1; funext x S1; unfold bdK inkBK; cases x <;> first | rfl | exact v_bad | exact v_ok
theorem k_inkB {z : Str} : inkBK tbl Q (.str z) S = Q (tbl.lookup z).isSome S := nr rfl
def ninkBK (tbl : List (Str × D)) (Q : Bool → Hs → Prop) : D → Hs → Prop := fun x S => match x with
  | .str z => Q (!(tbl.lookup z).isSome) S
  | _ => False
theorem v_notinKB : Wp X (mNotInKB tbl f l S) Q = Wp X (f l S) (ninkBK tbl Q) := by
  unfold mNotInKB; rw [v_bind]; congr 1; funext x S1; unfold bdK ninkBK; cases x <;> first | rfl | exact v_bad | exact v_ok
theorem k_ninkB {z : Str} : ninkBK tbl Q (.str z) S = Q (!(tbl.lookup z).isSome) S := nr rfl
end
section
variable {Q : F → Hs → Prop} {l1 : Ls}
def stK (i : Nat) (l : Ls) (Q : F → Hs → Prop) : D → Hs → Prop := fun d S => Q (.nx (l.set i (some d))) S
theorem v_set : Wp X (mSet i f l S) Q = Wp X (f l S) (stK i l Q) := by unfold mSet; rw [v_bind]; first | rfl | (congr 1; funext _ _; exact v_ok)
theorem k_st : stK i l Q d S = Q (.nx (l.set i (some d))) S := nr rfl
def exK (l : Ls) (Q : F → Hs → Prop) : D → Hs → Prop := fun _ S => Q (.nx l) S
theorem v_expr : Wp X (mExpr f l S) Q = Wp X (f l S) (exK l Q) := by unfold mExpr; rw [v_bind]; first | rfl | (congr 1; funext _ _; exact v_ok)
theorem k_ex : exK l Q d S = Q (.nx l) S := nr rfl
def reK (Q : F → Hs → Prop) : D → Hs → Prop := fun d S => Q (.rt d) S
theorem v_ret : Wp X (mRet f l S) Q = Wp X (f l S) (reK Q) := by unfold mRet; rw [v_bind]; first | rfl | (congr 1; funext _ _; exact v_ok)
theorem k_re : reK Q d S = Q (.rt d) S := nr rfl
theorem v_retN : Wp X (mRetN l S) Q = Q (.rt .non) S := v_ok
theorem v_pass : Wp X (mPass l S) Q = Q (.nx l) S := v_ok
theorem v_brk : Wp X (mBrk l S) Q = Q (.bk l) S := v_ok
theorem v_cnt : Wp X (mCnt l S) Q = Q (.ct l) S := v_ok
def sqK (X : XP) (b2 : MS) (Q : F → Hs → Prop) : F → Hs → Prop := fun r S => match r with
  | .nx l1 => Wp X (b2 l1 S) Q
  | r => Q r S
theorem v_seq : Wp X (mSeq b b2 l S) Q = Wp X (b l S) (sqK X b2 Q) := by
  unfold mSeq; rw [v_bind]; congr 1; funext r S1; unfold bdK sqK; cases r <;> first | rfl | exact v_bad | exact v_ok
theorem k_sq_nx : sqK X b2 Q (.nx l1) S = Wp X (b2 l1 S) Q := nr rfl
theorem k_sq_rt : sqK X b2 Q (.rt d) S = Q (.rt d) S := nr rfl
theorem k_sq_bk : sqK X b2 Q (.bk l1) S = Q (.bk l1) S := nr rfl
theorem k_sq_ct : sqK X b2 Q (.ct l1) S = Q (.ct l1) S := nr rfl
def ifsK (X : XP) (b b2 : MS) (l : Ls) (Q : F → Hs → Prop) : Bool → Hs → Prop := fun t S => if t = true then Wp X (b l S) Q else Wp X (b2 l S) Q
theorem v_ifS : Wp X (mIfS c b b2 l S) Q = Wp X (c l S) (ifsK X b b2 l Q) := by
  unfold mIfS; rw [v_bind]; congr 1; funext t S1; unfold bdK ifsK; cases t <;> first | rfl | exact v_bad | exact v_ok
theorem k_ifs : ifsK X b b2 l Q t S = if t = true then Wp X (b l S) Q else Wp X (b2 l S) Q := nr rfl
def asK (X : XP) (gg : MG) (l : Ls) (Q : F → Hs → Prop) : D → Hs → Prop := fun d S => Wp X (gg d l S) fun l1 S2 => Q (.nx l1) S2
def asK2 (Q : F → Hs → Prop) : Ls → Hs → Prop := fun l1 S2 => Q (.nx l1) S2
theorem v_asg : Wp X (mAsg f gg l S) Q = Wp X (f l S) (asK X gg l Q) := by
  unfold mAsg; rw [v_bind]; congr 1; funext d S1; unfold bdK asK; rw [v_bind]; first | rfl | (congr 1; funext _ _; exact v_ok)
theorem k_as : asK X gg l Q d S = Wp X (gg d l S) (asK2 Q) := nr rfl
theorem k_as2 : asK2 Q l1 S = Q (.nx l1) S := nr rfl
def auK (X : XP) (i : Nat) (l : Ls) (op : D → D → Hs → R D) (x : D) (Q : F → Hs → Prop) : D → Hs → Prop := fun y S => Wp X (op x y S) (stK i l Q)
theorem v_aug : Wp X (mAug i op2 f l S) Q = match l[i]? with | some (some x) => Wp X (f l S) (auK X i l op2 x Q) | _ => False := by
  unfold mAug; cases l[i]? with
  | none => first | rfl | exact v_bad | exact v_ok
  | some o =>
    cases o with
    | none => first | rfl | exact v_bad | exact v_ok
    | some x => simp only [v_bind]; congr 1; funext y S1; unfold bdK auK; simp only [v_bind]; first | rfl | (congr 1; funext _ _; exact v_ok)
theorem k_au : auK X i l op2 x Q y S = Wp X (op2 x y S) (stK i l Q) := nr rfl
def foK (X : XP) (gg : MG) (b : MS) (l : Ls) (Q : F → Hs → Prop) : J → Hs → Prop := fun j S => Wp X (fLoop j gg b 0 l S) Q
theorem v_for : Wp X (mFor it gg b l S) Q = Wp X (it l S) (foK X gg b l Q) := by unfold mFor; rw [v_bind]; first | rfl | (congr 1; funext _ _; exact v_ok)
theorem k_fo {j : J} : foK X gg b l Q j S = Wp X (fLoop j gg b 0 l S) Q := nr rfl
end
section
variable {Q : J → Hs → Prop}
def itK (X : XP) (Q : J → Hs → Prop) : D → Hs → Prop := fun d S => Wp X (oIt d S) Q
theorem v_it : Wp X (mIt f l S) Q = Wp X (f l S) (itK X Q) := by unfold mIt; rw [v_bind]; first | rfl | (congr 1; funext _ _; exact v_ok)
theorem k_it : itK X Q d S = Wp X (oIt d S) Q := nr rfl
variable {op : List D → Hs → R J}
def ijK (X : XP) (op : List D → Hs → R J) (Q : J → Hs → Prop) : List D → Hs → Prop := fun ds S => Wp X (op ds S) Q
theorem k_ij : ijK X op Q ds S = Wp X (op ds S) Q := nr rfl
theorem v_rng1 : Wp X (mRng1 fl l S) Q = Wp X (fl l S) (ijK X oRng1 Q) := by unfold mRng1; rw [v_bind]; first | rfl | (congr 1; funext _ _; exact v_ok)
theorem v_rng2 : Wp X (mRng2 fl l S) Q = Wp X (fl l S) (ijK X oRng2 Q) := by unfold mRng2; rw [v_bind]; first | rfl | (congr 1; funext _ _; exact v_ok)
theorem v_enum : Wp X (mEnum fl l S) Q = Wp X (fl l S) (ijK X oEnum Q) := by unfold mEnum; rw [v_bind]; first | rfl | (congr 1; funext _ _; exact v_ok)
theorem v_zip : Wp X (mZip fl l S) Q = Wp X (fl l S) (ijK X oZip Q) := by unfold mZip; rw [v_bind]; first | rfl | (congr 1; funext _ _; exact v_ok)
end
section
variable {Q : Ls → Hs → Prop}
theorem v_gN : Wp X (gN i d l S) Q = Q (l.set i (some d)) S := v_ok
theorem v_gsN : Wp X (gsN [] l S) Q = Q l S := v_ok
def gcK (X : XP) (gs : MGs) (ds : List D) (Q : Ls → Hs → Prop) : Ls → Hs → Prop := fun l1 S => Wp X (gs ds l1 S) Q
theorem v_gsC : Wp X (gsC gg gs (d :: ds) l S) Q = Wp X (gg d l S) (gcK X gs ds Q) := by show Wp X (R.bind _ _) Q = _; rw [v_bind]; first | rfl | (congr 1; funext _ _; exact v_ok)
theorem k_gc : gcK X gs ds Q l S = Wp X (gs ds l S) Q := nr rfl
theorem v_gT : Wp X (gT n gs (.tup ds) l S) Q = (ds.length = n ∧ Wp X (gs ds l S) Q) := by
  unfold gT; by_cases h : ds.length = n
  · simp [h]
  · simp [h, v_bad]
theorem v_gTw : Wp X (gT n gs (.wt ds) l S) Q = (ds.length = n ∧ Wp X (gs ds l S) Q) := by
  unfold gT; by_cases h : ds.length = n
  · simp [h]
  · simp [h, v_bad]
def gsbK (X : XP) (g : M) (d : D) (l : Ls) (Q : Ls → Hs → Prop) : D → Hs → Prop := fun x S => Wp X (g l S) fun y S2 => Wp X (oSet x y d S2) fun _ S3 => Q l S3
def gsbK2 (X : XP) (x d : D) (l : Ls) (Q : Ls → Hs → Prop) : D → Hs → Prop := fun y S2 => Wp X (oSet x y d S2) fun _ S3 => Q l S3
def gsbK3 (l : Ls) (Q : Ls → Hs → Prop) : Unit → Hs → Prop := fun _ S3 => Q l S3
theorem v_gSb : Wp X (gSb f g d l S) Q = Wp X (f l S) (gsbK X g d l Q) := by
  unfold gSb; rw [v_bind]; congr 1; funext x S1; unfold bdK gsbK; rw [v_bind]; congr 1; funext y S2; unfold bdK; rw [v_bind]; first | rfl | (congr 1; funext _ _; exact v_ok)
theorem k_gsb : gsbK X g d l Q x S = Wp X (g l S) (gsbK2 X x d l Q) := nr rfl
theorem k_gsb2 : gsbK2 X x d l Q y S = Wp X (oSet x y d S) (gsbK3 l Q) := nr rfl
theorem k_gsb3 {u : Unit} : gsbK3 l Q u S = Q l S := nr rfl
end
end
section
variable {X : XP} {f g h : M} {l : Ls} {S : Hs} {op2 : D → D → Hs → R D} {x y z : D} {it : MI} {gl : CG} {tt : MB} {tk tv : M} {vs : List Nat}
section
variable {Q : F → Hs → Prop}
def agK (X : XP) (op : D → D → Hs → R D) (g h : M) (l : Ls) (Q : F → Hs → Prop) : D → Hs → Prop := fun x S1 => Wp X (g l S1) fun y S2 => match dGet x y S2 with
  | some (some z) => Wp X (h l S2) fun w S3 => Wp X (op z w S3) fun d S4 => isDic x S4 = true ∧ Wp X (oSet x y d S4) fun _ S5 => Q (.nx l) S5
  | _ => False
def agK2 (X : XP) (op : D → D → Hs → R D) (h : M) (x : D) (l : Ls) (Q : F → Hs → Prop) : D → Hs → Prop := fun y S2 => match dGet x y S2 with
  | some (some z) => Wp X (h l S2) fun w S3 => Wp X (op z w S3) fun d S4 => isDic x S4 = true ∧ Wp X (oSet x y d S4) fun _ S5 => Q (.nx l) S5
  | _ => False
def agK3 (X : XP) (op : D → D → Hs → R D) (x y z : D) (l : Ls) (Q : F → Hs → Prop) : D → Hs → Prop := fun w S3 => Wp X (op z w S3) fun d S4 => isDic x S4 = true ∧ Wp X (oSet x y d S4) fun _ S5 => Q (.nx l) S5
def agK4 (X : XP) (x y : D) (l : Ls) (Q : F → Hs → Prop) : D → Hs → Prop := fun d S4 => isDic x S4 = true ∧ Wp X (oSet x y d S4) fun _ S5 => Q (.nx l) S5
def agK5 (l : Ls) (Q : F → Hs → Prop) : Unit → Hs → Prop := fun _ S5 => Q (.nx l) S5
theorem v_augI : Wp X (mAugI op2 f g h l S) Q = Wp X (f l S) (agK X op2 g h l Q) := by
  unfold mAugI; rw [v_bind]; congr 1; funext x S1; unfold bdK agK; simp only [v_bind]; congr 1; funext y S2; unfold bdK; simp only []
  cases dGet x y S2 with
  | none => first | rfl | exact v_bad | exact v_ok
  | some o =>
    cases o with
    | none => first | rfl | exact v_bad | exact v_ok
    | some z =>
      simp only [v_bind]; congr 1; funext w S3; unfold bdK; simp only [v_bind]; congr 1; funext d S4; unfold bdK; simp only []
      by_cases hh : isDic x S4 = true
      · simp only [hh, if_true, true_and, v_bind]; first | rfl | (congr 1; funext _ _; exact v_ok)
      · simp [hh, v_bad]
theorem k_ag : agK X op2 g h l Q x S = Wp X (g l S) (agK2 X op2 h x l Q) := nr rfl
theorem k_ag2 : agK2 X op2 h x l Q y S = match dGet x y S with | some (some z) => Wp X (h l S) (agK3 X op2 x y z l Q) | _ => False := nr rfl
theorem k_ag3 {w : D} : agK3 X op2 x y z l Q w S = Wp X (op2 z w S) (agK4 X x y l Q) := nr rfl
theorem k_ag4 {w : D} : agK4 X x y l Q w S = (isDic x S = true ∧ Wp X (oSet x y w S) (agK5 l Q)) := nr rfl
theorem k_ag5 {u : Unit} : agK5 l Q u S = Q (.nx l) S := nr rfl
def dlK (X : XP) (g : M) (l : Ls) (Q : F → Hs → Prop) : D → Hs → Prop := fun x S1 => Wp X (g l S1) fun y S2 => Wp X (oDel x y S2) fun _ S3 => Q (.nx l) S3
def dlK2 (X : XP) (x : D) (l : Ls) (Q : F → Hs → Prop) : D → Hs → Prop := fun y S2 => Wp X (oDel x y S2) fun _ S3 => Q (.nx l) S3
theorem v_del : Wp X (mDel f g l S) Q = Wp X (f l S) (dlK X g l Q) := by
  unfold mDel; rw [v_bind]; congr 1; funext x S1; unfold bdK dlK; rw [v_bind]; congr 1; funext y S2; unfold bdK; rw [v_bind]; first | rfl | (congr 1; funext _ _; exact v_ok)
theorem k_dl : dlK X g l Q x S = Wp X (g l S) (dlK2 X x l Q) := nr rfl
theorem k_dl2 : dlK2 X x l Q y S = Wp X (oDel x y S) (agK5 l Q) := nr rfl
end
variable {Q : D → Hs → Prop}
def d3K (X : XP) (op : D → D → D → Hs → R D) (g h : M) (l : Ls) (Q : D → Hs → Prop) : D → Hs → Prop := fun x S1 => hasTy "dict" x S1 = true ∧ Wp X (g l S1) fun y S2 => Wp X (h l S2) fun z S3 => Wp X (op x y z S3) Q
def d3K2 (X : XP) (op : D → D → D → Hs → R D) (h : M) (x : D) (l : Ls) (Q : D → Hs → Prop) : D → Hs → Prop := fun y S2 => Wp X (h l S2) fun z S3 => Wp X (op x y z S3) Q
def d3K3 (X : XP) (op : D → D → D → Hs → R D) (x y : D) (Q : D → Hs → Prop) : D → Hs → Prop := fun z S3 => Wp X (op x y z S3) Q
theorem v_setd : Wp X (mSetd f g h l S) Q = Wp X (f l S) (d3K X oSetd g h l Q) := by
  unfold mSetd; rw [v_bind]; congr 1; funext x S1; unfold bdK d3K
  by_cases hh : hasTy "dict" x S1 = true
  · simp only [hh, true_and, if_true, v_bind]; congr 1; funext y S2; unfold bdK; rw [v_bind]; first | rfl | (congr 1; funext _ _; exact v_ok)
  · simp [hh, v_bad]
theorem v_pop2 : Wp X (mPop2 f g h l S) Q = Wp X (f l S) (d3K X oPop2 g h l Q) := by
  unfold mPop2; rw [v_bind]; congr 1; funext x S1; unfold bdK d3K
  by_cases hh : hasTy "dict" x S1 = true
  · simp only [hh, true_and, if_true, v_bind]; congr 1; funext y S2; unfold bdK; rw [v_bind]; first | rfl | (congr 1; funext _ _; exact v_ok)
  · simp [hh, v_bad]
variable {op3 : D → D → D → Hs → R D}
theorem k_d3 : d3K X op3 g h l Q x S = (hasTy "dict" x S = true ∧ Wp X (g l S) (d3K2 X op3 h x l Q)) := nr rfl
theorem k_d32 : d3K2 X op3 h x l Q y S = Wp X (h l S) (d3K3 X op3 x y Q) := nr rfl
theorem k_d33 : d3K3 X op3 x y Q z S = Wp X (op3 x y z S) Q := nr rfl
def g1K (X : XP) (g : M) (l : Ls) (Q : D → Hs → Prop) : D → Hs → Prop := fun x S => hasTy "dict" x S = true ∧ Wp X (g l S) fun y S2 => match dGet x y S2 with
  | some (some d) => Q d S2
  | some none => Q .non S2
  | none => False
def g1K2 (x : D) (Q : D → Hs → Prop) : D → Hs → Prop := fun y S2 => match dGet x y S2 with
  | some (some d) => Q d S2
  | some none => Q .non S2
  | none => False
theorem v_get1 : Wp X (mGet1 f g l S) Q = Wp X (f l S) (g1K X g l Q) := by
  unfold mGet1; rw [v_bind]; congr 1; funext x S1; unfold bdK g1K
  by_cases hh : hasTy "dict" x S1 = true
  · simp only [hh, true_and, if_true, v_bind]; congr 1; funext y S2; unfold bdK; simp only []
    cases dGet x y S2 with
    | none => first | rfl | exact v_bad | exact v_ok
    | some o => cases o <;> first | rfl | exact v_bad | exact v_ok
  · simp [hh, v_bad]
theorem k_g1 : g1K X g l Q x S = (hasTy "dict" x S = true ∧ Wp X (g l S) (g1K2 x Q)) := nr rfl
theorem k_g12 : g1K2 x Q y S = match dGet x y S with | some (some d) => Q d S | some none => Q .non S | none => False := nr rfl
variable {opr : Int → Int → Hs → R D}
def rgK (X : XP) (op : Int → Int → Hs → R D) (Q : D → Hs → Prop) : D → Hs → Prop := fun x S => Wp X (rg1 op [x] S) Q
theorem v_rg1 : Wp X (mRg1 opr f l S) Q = Wp X (f l S) (rgK X opr Q) := by unfold mRg1; rw [v_bind]; first | rfl | (congr 1; funext _ _; exact v_ok)
theorem k_rg {n : Int} : rgK X opr Q (.int n) S = Wp X (opr 0 n S) Q := nr rfl
def rg2K (X : XP) (op : Int → Int → Hs → R D) (g : M) (l : Ls) (Q : D → Hs → Prop) : D → Hs → Prop := fun x S => Wp X (g l S) fun y S2 => Wp X (rg1 op [x, y] S2) Q
def rg2K2 (X : XP) (op : Int → Int → Hs → R D) (x : D) (Q : D → Hs → Prop) : D → Hs → Prop := fun y S2 => Wp X (rg1 op [x, y] S2) Q
theorem v_rg2 : Wp X (mRg2 opr f g l S) Q = Wp X (f l S) (rg2K X opr g l Q) := by
  unfold mRg2; rw [v_bind]; congr 1; funext x S1; unfold bdK rg2K; rw [v_bind]; first | rfl | (congr 1; funext _ _; exact v_ok)
theorem k_rg2 : rg2K X opr g l Q x S = Wp X (g l S) (rg2K2 X opr x Q) := nr rfl
theorem k_rg22 {m n : Int} : rg2K2 X opr (.int m) Q (.int n) S = Wp X (opr m n S) Q := nr rfl
theorem v_dicK : Wp X (mDicK l S) Q = Q (.ref S.length) (S ++ [.dic []]) := v_ok
theorem v_dicT : Wp X (mDicT l S) Q = Q (.ref S.length) (S ++ [.dit []]) := v_ok
def dcK (X : XP) (gl : CG) (tt : MB) (tk tv : M) (l : Ls) (Q : D → Hs → Prop) : J → Hs → Prop := fun j S1 => Wp X (dcLoop j gl tt tk tv l S1.length 0 (S1 ++ [.dic []])) Q
theorem v_dc : Wp X (mDc it gl tt tk tv vs l S) Q = Wp X (it l S) (dcK X gl tt tk tv (wipeL l vs) Q) := by unfold mDc; rw [v_bind]; first | rfl | (congr 1; funext _ _; exact v_ok)
theorem k_dc {j : J} : dcK X gl tt tk tv l Q j S = Wp X (dcLoop j gl tt tk tv l S.length 0 (S ++ [.dic []])) Q := nr rfl
end
theorem ofString_inj {a b : String} : (Str.ofString a = Str.ofString b) = (a = b) := by
  rw [Str.ofString_eq_toList, Str.ofString_eq_toList, Str.mk.injEq]
  apply propext
  constructor
  · intro h
    have h := List.toArray_inj h
    have h2 : ∀ {xs ys : List Char}, xs.map Char.toNat = ys.map Char.toNat → xs = ys := by
      intro xs
      induction xs with
      | nil => intro ys e; cases ys with | nil => rfl | cons _ _ => cases e
      | cons x xs ih =>
        intro ys e
        cases ys with
        | nil => cases e
        | cons y ys =>
          simp only [List.map_cons, List.cons.injEq] at e
          rw [Char.toNat_inj.mp e.1, ih e.2]
    exact String.toList_inj.mp (h2 h)
  · rintro rfl; rfl
theorem beq_lit {a b : String} : (Str.ofString a == Str.ofString b) = (a == b) := by
  rw [Bool.eq_iff_iff]; simp [ofString_inj]
def enK (Q : D → Hs → Prop) : F → Hs → Prop := fun r S => match r with
  | .nx _ => Q .non S
  | .rt d => Q d S
  | _ => False
theorem k_en_rt {Q : D → Hs → Prop} {d : D} {S : Hs} : enK Q (.rt d) S = Q d S := nr rfl
theorem k_en_nx {Q : D → Hs → Prop} {l : Ls} {S : Hs} : enK Q (.nx l) S = Q .non S := nr rfl
theorem wp_def {np nl : Nat} {b : MS} {ds : List D} {S : Hs} {X : XP} {Q : D → Hs → Prop} (hl : ds.length = np) (h : Wp (fun c fs _ S => X c fs [] S) (b (ds.map some ++ List.replicate nl none) S) (enK Q)) : Wp X (mDef np nl b ds S) Q := by
  unfold mDef
  rw [if_pos hl]
  generalize b (ds.map some ++ List.replicate nl none) S = r at h
  cases r with
  | ok f S1 => cases f <;> exact ⟨h.un⟩
  | exc c fs l S1 => exact ⟨h.un⟩
  | bad => exact ⟨h.un⟩
theorem wp_def0 {np nl : Nat} {b : MS} {ds : List D} {S : Hs} {Q : D → Hs → Prop} (hl : ds.length = np) (h : Wp NoX (b (ds.map some ++ List.replicate nl none) S) (enK Q)) : Wp NoX (mDef np nl b ds S) Q := wp_def hl h
theorem atX_no {l : Ls} : atX NoX l = NoX := nr rfl
def tuK (I : Ls → Hs → Prop) (Q : F → Hs → Prop) : F → Hs → Prop := fun r S => match r with
  | .nx l => I l S
  | .ct l => I l S
  | .bk l => Q (.nx l) S
  | .rt d => Q (.rt d) S
section
variable {X : XP} {I : Ls → Hs → Prop} {Q : F → Hs → Prop} {l : Ls} {S : Hs} {d : D}
theorem k_tu_nx : tuK I Q (.nx l) S = I l S := nr rfl
theorem k_tu_ct : tuK I Q (.ct l) S = I l S := nr rfl
theorem k_tu_bk : tuK I Q (.bk l) S = Q (.nx l) S := nr rfl
theorem k_tu_rt : tuK I Q (.rt d) S = Q (.rt d) S := nr rfl
theorem wp_fLoop {j : J} {gg : MG} {b : MS} (N : Nat) (Inv : Nat → Ls → Hs → Prop) (hend : ∀ l S, Inv N l S → itGo j N S = some none)
    (hs : ∀ k l S, k < N → Inv k l S → ∃ d, itGo j k S = some (some d) ∧ Wp X (gg d l S) fun l1 S1 => Wp X (b l1 S1) (tuK (Inv (k + 1)) Q))
    (hd : ∀ l S, Inv N l S → Q (.nx l) S) : ∀ m k l S, k + m = N → Inv k l S → Wp X (fLoop j gg b k l S) Q
  | 0, k, l, S, e, h => by
    have hk : k = N := by omega
    subst hk
    rw [fLoop_eq, hend l S h]
    exact ⟨hd l S h⟩
  | m + 1, k, l, S, e, h => by
    obtain ⟨d, e1, h1⟩ := hs k l S (by omega) h
    rw [fLoop_eq, e1]
    simp only [v_bind]
    refine h1.mono (fun _ _ _ _ h => h) fun l1 S1 h2 => ?_
    unfold bdK
    rw [v_bind]
    refine h2.mono (fun _ _ _ _ h => h) fun r S2 h3 => ?_
    cases r with
    | nx l2 => exact wp_fLoop N Inv hend hs hd m (k + 1) l2 S2 (by omega) h3
    | ct l2 => exact wp_fLoop N Inv hend hs hd m (k + 1) l2 S2 (by omega) h3
    | bk l2 => exact ⟨h3⟩
    | rt d => exact ⟨h3⟩
theorem wp_rng {lo : Int} {n : Nat} {gg : MG} {b : MS} (Inv : Nat → Ls → Hs → Prop) (h0 : Inv 0 l S)
    (hs : ∀ k l S, k < n → Inv k l S → Wp X (gg (.int (lo + k)) l S) fun l1 S1 => Wp X (b l1 S1) (tuK (Inv (k + 1)) Q)) (hd : ∀ l S, Inv n l S → Q (.nx l) S) : Wp X (fLoop (.rng lo n) gg b 0 l S) Q :=
  wp_fLoop n Inv (fun l S h => by simp [itGo]) (fun k l S hk h => ⟨_, by simp [itGo, hk], hs k l S hk h⟩) hd n 0 l S (by omega) h0
theorem split_at {α : Type} {ds : List α} {k : Nat} {d : α} (h : ds[k]? = some d) : ds = ds.take k ++ d :: ds.drop (k + 1) := by
  obtain ⟨hk, rfl⟩ := List.getElem?_eq_some_iff.mp h
  simp
theorem take_at {α : Type} {ds : List α} {k : Nat} {d : α} (h : ds[k]? = some d) : ds.take (k + 1) = ds.take k ++ [d] := by
  rw [List.take_add_one, h]; rfl
theorem wp_while {c : MB} {b : MS} (Inv : Nat → Ls → Hs → Prop)
    (hs : ∀ m l S, Inv m l S → Wp X (c l S) fun t S1 => if t = true then Wp X (b l S1) (tuK (fun l2 S2 => ∃ m', m' < m ∧ Inv m' l2 S2) Q) else Q (.nx l) S1) : ∀ m l S, Inv m l S → Wp X (mWhile c b l S) Q := by
  intro m
  induction m using Nat.strongRecOn with
  | _ m ih =>
    intro l S h
    rw [mWhile_eq, v_bind]
    refine (hs m l S h).mono (fun _ _ _ _ h => h) fun t S1 h1 => ?_
    unfold bdK
    cases t with
    | false => exact ⟨h1⟩
    | true =>
      simp only [if_true] at h1 ⊢
      rw [v_bind]
      refine h1.mono (fun _ _ _ _ h => h) fun r S2 h2 => ?_
      unfold bdK
      cases r with
      | nx l2 => obtain ⟨m', hm, h3⟩ := h2; exact ih m' hm l2 S2 h3
      | ct l2 => obtain ⟨m', hm, h3⟩ := h2; exact ih m' hm l2 S2 h3
      | bk l2 => exact ⟨h2⟩
      | rt d => exact ⟨h2⟩
end
section
variable {X : XP} {Q : D → Hs → Prop} {l : Ls} {S : Hs} {j : J} {gl : CG} {tt : MB} {te : M} {it : MI} {vs : List Nat}
def lcK (X : XP) (gl : CG) (tt : MB) (te : M) (l : Ls) (Q : D → Hs → Prop) : J → Hs → Prop := fun j S1 => Wp X (cLoop j gl tt te l S1.length 0 (S1 ++ [.lst []])) Q
theorem v_lc : Wp X (mLc it gl tt te vs l S) Q = Wp X (it l S) (lcK X gl tt te (wipeL l vs) Q) := by unfold mLc; rw [v_bind]; rfl
theorem k_lc : lcK X gl tt te l Q j S = Wp X (cLoop j gl tt te l S.length 0 (S ++ [.lst []])) Q := nr rfl
def CTurn (gl : CG) (tt : MB) (te : M) (l : Ls) (n : Nat) (d : D) (S : Hs) (acc : List D) (I : List D → Hs → Prop) : Prop :=
  ∃ l1, gl d l = some l1 ∧ Wp NoX (tt l1 S) fun t S2 => if t = true then Wp NoX (te l1 S2) fun y S3 => S3[n]? = some (.lst acc) ∧ acc.length < sizeLine ∧ I (acc ++ [y]) (S3.set n (.lst (acc ++ [y]))) else I acc S2
theorem wp_cLoop {n : Nat} (N : Nat) (Inv : Nat → List D → Hs → Prop) (hend : ∀ acc S, Inv N acc S → itGo j N S = some none)
    (hs : ∀ k acc S, k < N → Inv k acc S → ∃ d, itGo j k S = some (some d) ∧ CTurn gl tt te l n d S acc (Inv (k + 1)))
    (hd : ∀ acc S, Inv N acc S → Q (.ref n) S) : ∀ m k acc S, k + m = N → Inv k acc S → Wp X (cLoop j gl tt te l n k S) Q
  | 0, k, acc, S, e, h => by
    have hk : k = N := by omega
    subst hk
    rw [cLoop_eq]
    simp only [cStep, hend acc S h]
    exact ⟨hd acc S h⟩
  | m + 1, k, acc, S, e, h => by
    obtain ⟨d, e1, l1, e2, h1⟩ := hs k acc S (by omega) h
    obtain ⟨t, S2, e3, h2⟩ := h1.ex
    rw [cLoop_eq]
    cases t with
    | false =>
      simp only [cStep, e1, e2, e3]
      exact wp_cLoop N Inv hend hs hd m (k + 1) acc S2 (by omega) h2
    | true =>
      obtain ⟨y, S3, e4, e5, e6, h3⟩ := Wp.ex h2
      simp only [cStep, e1, e2, e3, e4, e5, e6, if_true]
      exact wp_cLoop N Inv hend hs hd m (k + 1) _ _ (by omega) h3
theorem wp_lcRng {n : Nat} {lo : Int} {m : Nat} (Inv : Nat → List D → Hs → Prop) (h0 : Inv 0 [] S) (hs : ∀ k acc S, k < m → Inv k acc S → CTurn gl tt te l n (.int (lo + k)) S acc (Inv (k + 1)))
    (hd : ∀ acc S, Inv m acc S → Q (.ref n) S) : Wp X (cLoop (.rng lo m) gl tt te l n 0 S) Q :=
  wp_cLoop m Inv (fun acc S h => by simp [itGo]) (fun k acc S hk h => ⟨_, by simp [itGo, hk], hs k acc S hk h⟩) hd m 0 [] S (by omega) h0
end
def Kp (X : List Nat) (S S' : Hs) : Prop := S.length ≤ S'.length ∧ ∀ i, i < S.length → i ∉ X → S'[i]? = S[i]?
section
variable {A B : List Nat} {S S1 S2 g : Hs} {i n : Nat} {o : O}
theorem Kp.refl : Kp A S S := ⟨Nat.le_refl _, fun _ _ _ => rfl⟩
theorem Kp.trans (a : Kp A S S1) (b : Kp A S1 S2) : Kp A S S2 := ⟨Nat.le_trans a.1 b.1, fun i h hn => (b.2 i (Nat.lt_of_lt_of_le h a.1) hn).trans (a.2 i h hn)⟩
theorem Kp.sub (a : Kp A S S1) (h : ∀ i ∈ A, i < S.length → i ∈ B) : Kp B S S1 := ⟨a.1, fun i hi hn => a.2 i hi fun hm => hn (h i hm hi)⟩
theorem Kp.le (a : Kp A S S1) : S.length ≤ S1.length := a.1
theorem Kp.get (a : Kp A S S1) (h : S[i]? = some o) (hn : i ∉ A) : S1[i]? = some o := (a.2 i (Real.lt h) hn).trans h
theorem Kp.new : Kp A S (S ++ g) := ⟨by simp, fun i h _ => List.getElem?_append_left h⟩
theorem Kp.app (a : Kp A S S1) : Kp A S (S1 ++ g) := a.trans Kp.new
theorem Kp.set (h : i ∈ A) : Kp A S (S.set i o) := ⟨by simp, fun k hk hn => List.getElem?_set_ne (fun e => by subst e; exact hn h)⟩
theorem Kp.setNew (a : Kp A S S1) (h : S.length ≤ i) : Kp A S (S1.set i o) := ⟨by rw [List.length_set]; exact a.1, fun k hk hn => (List.getElem?_set_ne (by omega)).trans (a.2 k hk hn)⟩
theorem Kp.setIn (a : Kp A S S1) (h : i ∈ A) : Kp A S (S1.set i o) := a.trans (Kp.set h)
theorem Kp.after (a : Kp A S S1) (b : Kp B S1 S2) (h : ∀ i ∈ B, i < S.length → i ∈ A) : Kp A S S2 := ⟨Nat.le_trans a.1 b.1, fun i hi hn => (b.2 i (Nat.lt_of_lt_of_le hi a.1) (fun hm => hn (h i hm hi))).trans (a.2 i hi hn)⟩
theorem Kp.seqAt (a : Kp A S S1) {ds : List D} (h : seqAt S i = some ds) (hn : i ∉ A) : Ly.seqAt S1 i = some ds := by
  unfold Ly.seqAt seqD at h ⊢
  simp only at h ⊢
  split at h
  · rename_i q; rw [a.get q hn]; exact h
  · rename_i q; rw [a.get q hn]; exact h
  · cases h
end
end Ly
set_option Elab.async false
set_option linter.all false
set_option maxRecDepth 100000
namespace Ly
open PySem PySem.Spec L2
open PyProof.Rows hiding St
section
variable {X : XP} {Q : F → Hs → Prop} {l : Ls} {S : Hs} {α : Type} (f : α → D) {xs : List α}
variable {P : D → Hs → Prop} {gl : CG} {tt : MB} {te : M}
theorem lc_pure {j : J} (g : α → Option D) (hj : ∀ S', Kp [] S S' → ∀ k, k ≤ xs.length → itGo j k S' = some ((xs[k]?).map f)) (hx : xs.length ≤ 1000000)
    (hs : ∀ x ∈ xs, ∀ S', Kp [] S S' → ∃ l1, gl (f x) l = some l1 ∧ Wp NoX (tt l1 S') fun t S2 => Kp [] S' S2 ∧ if t = true then Wp NoX (te l1 S2) fun y S3 => Kp [] S2 S3 ∧ g x = some y else g x = none)
    (hd : ∀ S', S'[S.length]? = some (.lst (xs.filterMap g)) → Kp [] S S' → P (.ref S.length) S') : Wp X (cLoop j gl tt te l S.length 0 (S ++ [.lst []])) P := by
  refine wp_cLoop xs.length (fun k acc S' => acc = (xs.take k).filterMap g ∧ S'[S.length]? = some (.lst acc) ∧ Kp [] S S') (fun acc S' h => ?_) (fun k acc S' hk h => ?_) (fun acc S' h => ?_) xs.length 0 [] _ (by omega) ⟨by simp, by simp, Kp.new⟩
  · rw [hj S' h.2.2 _ (Nat.le_refl _), List.getElem?_eq_none (Nat.le_refl _)]; rfl
  · obtain ⟨rfl, h1, h2⟩ := h
    have e : xs[k]? = some xs[k] := List.getElem?_eq_getElem hk
    obtain ⟨l1, e1, h3⟩ := hs xs[k] (List.getElem_mem hk) S' h2
    refine ⟨f xs[k], by rw [hj S' h2 _ (Nat.le_of_lt hk), e]; rfl, l1, e1, ?_⟩
    refine h3.mono (fun _ _ _ _ h => h) ?_
    rintro t S2 ⟨k1, h4⟩
    rw [take_at e, List.filterMap_append]
    have hb : ((xs.take k).filterMap g).length < sizeLine := by
      refine line_big (Nat.le_trans (List.length_filterMap_le _ _) ?_)
      simp; omega
    cases t with
    | false =>
      simp only [Bool.false_eq_true, if_false] at h4 ⊢
      simp only [List.filterMap_cons, h4, List.filterMap_nil, List.append_nil]
      exact ⟨trivial, k1.get h1 (by simp), h2.trans k1⟩
    | true =>
      simp only [if_true] at h4 ⊢
      refine h4.mono (fun _ _ _ _ h => h) ?_
      rintro y S3 ⟨k2, h5⟩
      have h6 := k2.get (k1.get h1 (by simp)) (by simp)
      simp only [List.filterMap_cons, h5, List.filterMap_nil]
      exact ⟨h6, hb, trivial, get_put h6, ((h2.trans k1).trans k2).setNew (Nat.le_refl _)⟩
  · obtain ⟨rfl, h1, h2⟩ := h
    exact hd S' (by simpa using h1) h2
end
end Ly
set_option Elab.async false
set_option linter.all false
set_option maxRecDepth 100000
namespace Ly
open PySem PySem.Spec L2
open PyProof.Rows hiding St
section
variable {X : XP} {Q : D → Hs → Prop} {h : MP} {l : Ls} {S : Hs}
def dsK (n : Nat) (Q : D → Hs → Prop) : List (D × D) → Hs → Prop := fun ps S1 => ∃ kvs, keysP ps = some kvs ∧ S1[n]? = some (.dic []) ∧ kvs.length ≤ 15 ∧ Q (.ref n) (S1.set n (.dic (mergeD [] kvs)))
theorem v_disp (H : Wp X (h l (S ++ [.dic []])) (dsK S.length Q)) : Wp X (mDisp h l S) Q := by
  unfold mDisp
  rw [v_bind]
  refine H.mono (fun _ _ _ _ h => h) ?_
  rintro ps S1 ⟨kvs, e1, e2, e3, e4⟩
  unfold bdK
  simp only [e1, e2, e3, if_true]
  exact ⟨e4⟩
variable {Q : List (D × D) → Hs → Prop} {f g : M}
theorem v_dpNil : Wp X (dpNil l S) Q = Q [] S := v_ok
def dpK (X : XP) (g : M) (h : MP) (l : Ls) (Q : List (D × D) → Hs → Prop) : D → Hs → Prop := fun x S1 => Wp X (g l S1) fun y S2 => Wp X (h l S2) fun r S3 => Q ((x, y) :: r) S3
def dpK2 (X : XP) (h : MP) (x : D) (l : Ls) (Q : List (D × D) → Hs → Prop) : D → Hs → Prop := fun y S2 => Wp X (h l S2) fun r S3 => Q ((x, y) :: r) S3
def dpK3 (x y : D) (Q : List (D × D) → Hs → Prop) : List (D × D) → Hs → Prop := fun r S3 => Q ((x, y) :: r) S3
theorem v_dpCons : Wp X (dpCons f g h l S) Q = Wp X (f l S) (dpK X g h l Q) := by
  unfold dpCons; rw [v_bind]; congr 1; funext x S1; unfold bdK dpK; rw [v_bind]; congr 1; funext y S2; unfold bdK; rw [v_bind]; congr 1; funext r S3; exact v_ok
theorem k_dp {x : D} : dpK X g h l Q x S = Wp X (g l S) (dpK2 X h x l Q) := nr rfl
theorem k_dp2 {x y : D} : dpK2 X h x l Q y S = Wp X (h l S) (dpK3 x y Q) := nr rfl
theorem k_dp3 {x y : D} {ps : List (D × D)} : dpK3 x y Q ps S = Q ((x, y) :: ps) S := nr rfl
end
theorem disp_end {ps : List (D × D)} {kvs : List (Key × D)} {Q : D → Hs → Prop} {S : Hs} (h1 : keysP ps = some kvs) (h2 : kvs.length ≤ 15) (h3 : mergeD [] kvs = kvs) (hQ : Q (.ref S.length) (S ++ [.dic kvs])) : dsK S.length Q ps (S ++ [.dic []]) := by
  refine ⟨kvs, h1, by simp, h2, ?_⟩
  have : (S ++ [O.dic []]).set S.length (.dic (mergeD [] kvs)) = S ++ [.dic kvs] := by
    rw [h3, List.set_append_right _ _ (Nat.le_refl _), Nat.sub_self]; rfl
  rw [this]; exact hQ
section
variable {X : XP} {cs : List Addr} {f m : Str} {o e : M} {l : Ls} {S S1 : Hs} {i : Nat} {C : Addr} {fs : List (Str × D)} {d x y : D} {ds : List D} {g : ML} {md : MD} {tbl : List (Addr × MD)} {op : D → D → Hs → R D}
section
variable {Q : D → Hs → Prop}
def flK (cs : List Addr) (f : Str) (Q : D → Hs → Prop) : D → Hs → Prop := fun x S1 => match x with
  | .ref i => match S1[i]? with
    | some (.ins C fs) => C ∈ cs ∧ (match fs.lookup f with
      | some d => Q d S1
      | none => False)
    | _ => False
  | _ => False
theorem v_fld : Wp X (mFld cs f o l S) Q = Wp X (o l S) (flK cs f Q) := by
  unfold mFld; rw [v_bind]; congr 1; funext x S1; unfold bdK flK
  cases x with
  | ref i =>
    simp only []
    cases S1[i]? with
    | none => exact v_bad
    | some u =>
      cases u with
      | ins C fs =>
        simp only []
        by_cases h : C ∈ cs
        · simp only [h, if_true, true_and]; cases fs.lookup f <;> first | exact v_ok | exact v_bad
        · simp only [h, if_false, false_and]; exact v_bad
      | _ => exact v_bad
  | _ => exact v_bad
theorem k_fl (h : S[i]? = some (.ins C fs)) : flK cs f Q (.ref i) S = (C ∈ cs ∧ (match fs.lookup f with | some d => Q d S | none => False)) := by simp only [flK, h]
def meK2 (X : XP) (md : MD) (i : Nat) (l : Ls) (Q : D → Hs → Prop) : List D → Hs → Prop := fun ds S2 => Wp (atX X l) (md (.ref i :: ds) S2) Q
def meK (X : XP) (tbl : List (Addr × MD)) (m : Str) (g : ML) (l : Ls) (Q : D → Hs → Prop) : D → Hs → Prop := fun x S1 => match x with
  | .ref i => match S1[i]? with
    | some (.ins C fs) => (match tbl.lookup C with
      | some md => fs.lookup m = none ∧ Wp X (g l S1) (meK2 X md i l Q)
      | none => False)
    | _ => False
  | _ => False
theorem v_meth : Wp X (mMeth tbl m o g l S) Q = Wp X (o l S) (meK X tbl m g l Q) := by
  unfold mMeth; rw [v_bind]; congr 1; funext x S1; unfold bdK meK
  cases x with
  | ref i =>
    simp only []
    cases S1[i]? with
    | none => exact v_bad
    | some u =>
      cases u with
      | ins C fs =>
        simp only []
        cases tbl.lookup C with
        | none => exact v_bad
        | some md =>
          simp only [Option.isNone_iff_eq_none]
          by_cases h : fs.lookup m = none
          · simp only [h, if_true, true_and]; rw [v_bind]; congr 1; funext ds S2; unfold bdK meK2; rw [v_at]
          · simp only [h, if_false, false_and]; exact v_bad
      | _ => exact v_bad
  | _ => exact v_bad
theorem k_me (h : S[i]? = some (.ins C fs)) : meK X tbl m g l Q (.ref i) S = (match tbl.lookup C with | some md => fs.lookup m = none ∧ Wp X (g l S) (meK2 X md i l Q) | none => False) := by simp only [meK, h]
theorem k_me2 : meK2 X md i l Q ds S = Wp (atX X l) (md (.ref i :: ds) S) Q := nr rfl
def mkK (X : XP) (C : Addr) (md : MD) (l : Ls) (Q : D → Hs → Prop) : List D → Hs → Prop := fun ds S1 => Wp (atX X l) (md (.ref S1.length :: ds) (S1 ++ [.ins C []])) fun d S2 => d = .non ∧ Q (.ref S1.length) S2
theorem v_make : Wp X (mMake C md g l S) Q = Wp X (g l S) (mkK X C md l Q) := by
  unfold mMake; rw [v_bind]; congr 1; funext ds S1; unfold bdK mkK; rw [v_bind, v_at]; congr 1; funext d S2; unfold bdK
  cases d with
  | non => simp only [v_ok, true_and]
  | _ => simp only [v_bad, reduceCtorEq, false_and]
theorem k_mk : mkK X C md l Q ds S = Wp (atX X l) (md (.ref S.length :: ds) (S ++ [.ins C []])) fun d S2 => d = .non ∧ Q (.ref S.length) S2 := nr rfl
theorem look1 {α β : Type} [BEq α] [LawfulBEq α] {a : α} {b : β} {r : List (α × β)} : ((a, b) :: r).lookup a = some b := by rw [List.lookup_cons, beq_self_eq_true]
end
section
variable {Q : F → Hs → Prop}
def fsK (X : XP) (cs : List Addr) (f : Str) (o : M) (l : Ls) (Q : F → Hs → Prop) : D → Hs → Prop := fun d S1 => Wp X (o l S1) fun x S2 => match x with
  | .ref i => match S2[i]? with
    | some (.ins C fs) => C ∈ cs ∧ fs.length < 1000 ∧ Q (.nx l) (S2.set i (.ins C (putD f d fs)))
    | _ => False
  | _ => False
def fsK2 (cs : List Addr) (f : Str) (d : D) (l : Ls) (Q : F → Hs → Prop) : D → Hs → Prop := fun x S2 => match x with
  | .ref i => match S2[i]? with
    | some (.ins C fs) => C ∈ cs ∧ fs.length < 1000 ∧ Q (.nx l) (S2.set i (.ins C (putD f d fs)))
    | _ => False
  | _ => False
theorem v_fldset : Wp X (mFldSet cs f e o l S) Q = Wp X (e l S) (fsK X cs f o l Q) := by
  unfold mFldSet; rw [v_bind]; congr 1; funext d S1; unfold bdK fsK; rw [v_bind]; congr 1; funext x S2; unfold bdK
  cases x with
  | ref i =>
    simp only []
    cases S2[i]? with
    | none => exact v_bad
    | some u =>
      cases u with
      | ins C fs =>
        simp only []
        by_cases h : C ∈ cs
        · by_cases h2 : fs.length < 1000
          · simp only [h, h2, and_self, if_true, true_and]; exact v_ok
          · simp only [h, h2, and_false, if_false, false_and]; exact v_bad
        · simp only [h, if_false, false_and]; exact v_bad
      | _ => exact v_bad
  | _ => exact v_bad
theorem k_fs : fsK X cs f o l Q d S = Wp X (o l S) (fsK2 cs f d l Q) := nr rfl
theorem k_fs2 (h : S[i]? = some (.ins C fs)) : fsK2 cs f d l Q (.ref i) S = (C ∈ cs ∧ fs.length < 1000 ∧ Q (.nx l) (S.set i (.ins C (putD f d fs)))) := by simp only [fsK2, h]
def faK3 (C : Addr) (f : Str) (i : Nat) (l : Ls) (Q : F → Hs → Prop) : D → Hs → Prop := fun z S3 => match S3[i]? with
  | some (.ins C' fs') => C' = C ∧ fs'.length < 1000 ∧ Q (.nx l) (S3.set i (.ins C (putD f z fs')))
  | _ => False
def faK2 (X : XP) (op : D → D → Hs → R D) (C : Addr) (f : Str) (i : Nat) (d0 : D) (l : Ls) (Q : F → Hs → Prop) : D → Hs → Prop := fun d S2 => Wp X (op d0 d S2) (faK3 C f i l Q)
def faK (X : XP) (cs : List Addr) (f : Str) (op : D → D → Hs → R D) (e : M) (l : Ls) (Q : F → Hs → Prop) : D → Hs → Prop := fun x S1 => match x with
  | .ref i => match S1[i]? with
    | some (.ins C fs) => C ∈ cs ∧ (match fs.lookup f with
      | some d0 => Wp X (e l S1) (faK2 X op C f i d0 l Q)
      | none => False)
    | _ => False
  | _ => False
theorem v_fldaug : Wp X (mFldAug cs f op o e l S) Q = Wp X (o l S) (faK X cs f op e l Q) := by
  unfold mFldAug; rw [v_bind]; congr 1; funext x S1; unfold bdK faK
  cases x with
  | ref i =>
    simp only []
    cases S1[i]? with
    | none => exact v_bad
    | some u =>
      cases u with
      | ins C fs =>
        simp only []
        by_cases h : C ∈ cs
        · simp only [h, if_true, true_and]
          cases fs.lookup f with
          | none => exact v_bad
          | some d0 =>
            simp only []
            rw [v_bind]; congr 1; funext d S2; unfold bdK faK2; rw [v_bind]; congr 1; funext z S3; unfold bdK faK3; dsimp only
            cases S3[i]? with
            | none => exact v_bad
            | some u =>
              cases u with
              | ins C' fs' =>
                simp only []
                by_cases h : C' = C
                · by_cases h2 : fs'.length < 1000
                  · simp only [h, h2, and_self, if_true, true_and]; exact v_ok
                  · simp only [h, h2, and_false, if_false, false_and, and_false]; exact v_bad
                · simp only [h, if_false, false_and]; exact v_bad
              | _ => exact v_bad
        · simp only [h, if_false, false_and]; exact v_bad
      | _ => exact v_bad
  | _ => exact v_bad
theorem k_fa (h : S[i]? = some (.ins C fs)) : faK X cs f op e l Q (.ref i) S = (C ∈ cs ∧ (match fs.lookup f with | some d0 => Wp X (e l S) (faK2 X op C f i d0 l Q) | none => False)) := by simp only [faK, h]
theorem k_fa2 {d0 : D} : faK2 X op C f i d0 l Q d S = Wp X (op d0 d S) (faK3 C f i l Q) := nr rfl
theorem k_fa3 {C' : Addr} (h : S[i]? = some (.ins C' fs)) : faK3 C f i l Q d S = (C' = C ∧ fs.length < 1000 ∧ Q (.nx l) (S.set i (.ins C (putD f d fs)))) := by simp only [faK3, h]
end
end
end Ly
set_option Elab.async false
set_option linter.all false
set_option maxRecDepth 100000
namespace Ly
open PySem PySem.Spec L2
open PyProof.Rows hiding St
section
variable {K : PySem.W.Frag} {E : St → XK}
end
section
variable {X : Cx} {E : St → XK} {e o : Expr} {f g : M} {fl : ML} {p pos apos cpos : Pos}
def oPop1 (x y : D) (S : Hs) : R D := match x with
  | .ref i => match S[i]?, y.key with
    | some (.dic kvs), some k => (match getK kvs k with
      | some d => .ok d (S.set i (.dic (dropD kvs k)))
      | none => .bad)
    | _, _ => .bad
  | _ => .bad
def mPop1 (f g : M) : M := fun l S => (f l S).bind fun x S1 => if hasTy "dict" x S1 = true then (g l S1).bind fun y S2 => oPop1 x y S2 else .bad
theorem e_pop1 (ho : EM X E o f) (he : EM X E e g) (m : M1 X o "pop" apos e cpos := by exact ⟨rfl, rfl, rfl, rfl⟩) : EM X E (.Call (.Attribute o "pop" apos) [e] [] cpos) (mPop1 f g) :=
  ⟨(pe_dpop1 ho.pe he.pe m).weak fun s H Q ⟨p, l, S, R, L, h⟩ => T.of R L h fun p1 S1 H1 d v R1 x1 L1 r1 h1 => by
    split at h1
    · rename_i ht
      obtain ⟨a, rfl, ia⟩ := isD_V R1 r1 ht
      refine ⟨a, rfl, ia, T.of R1 L1 h1 fun p3 S3 H3 d3 v3 R3 x3 L3 r3 h3 => ?_⟩
      have rd := r1.ext x3 _ _
      unfold oPop1 at h3
      split at h3
      · rename_i i
        cases rd with
        | ref hi =>
        split at h3
        · rename_i kvs k q ek
          obtain ⟨ks, h4, h5, h6⟩ := R3.ob _ _ q
          have gk := getK_V h5 h6 k
          split at h3
          · rename_i dd eg
            rw [eg] at gk
            cases hv : valV ks k with
            | none => rw [hv] at gk; obtain ⟨z, ez, _⟩ := gk; cases ez
            | some v =>
              rw [hv] at gk
              obtain ⟨z, ez, rz⟩ := gk
              cases ez
              have xu : ∀ u, Ext S3.length S3.length p3 p3 H3 (upd H3 (p3 i) u) := fun u => ext_upd (R3.notup hi)
              obtain ⟨g1, g2⟩ := dropD_V h5 h6 k
              have R4 := R3.put hi (u := .dK (dropK ks k)) (o := .dic (dropD kvs k)) ⟨_, upd_same, g1, g2.ext (xu _) _ _⟩
              exact ⟨ks, k, v, h4, key_V r3 ek, hv, Post.ok (Q := QD _ Q) h3 (by rw [List.length_set]; exact xu _) R4 _ (by rw [List.length_set]; exact rz.ext (xu _) _ _)⟩
          · exact h3.elim
        · exact h3.elim
      · exact h3.elim
    · exact h1.elim⟩
end
section
variable {X : XP} {f g : M} {l : Ls} {S : Hs} {x y : D} {Q : D → Hs → Prop}
def p1K2 (X : XP) (x : D) (Q : D → Hs → Prop) : D → Hs → Prop := fun y S => Wp X (oPop1 x y S) Q
def p1K (X : XP) (g : M) (l : Ls) (Q : D → Hs → Prop) : D → Hs → Prop := fun x S => hasTy "dict" x S = true ∧ Wp X (g l S) (p1K2 X x Q)
theorem v_pop1 : Wp X (mPop1 f g l S) Q = Wp X (f l S) (p1K X g l Q) := by
  unfold mPop1; rw [v_bind]; congr 1; funext x S1; unfold bdK p1K
  by_cases h : hasTy "dict" x S1 = true
  · simp only [h, true_and, if_true, v_bind]; rfl
  · simp [h, v_bad]
theorem k_p1 : p1K X g l Q x S = (hasTy "dict" x S = true ∧ Wp X (g l S) (p1K2 X x Q)) := nr rfl
theorem k_p12 : p1K2 X x Q y S = Wp X (oPop1 x y S) Q := nr rfl
end
end Ly
set_option Elab.async false
set_option linter.all false
set_option maxRecDepth 100000
set_option maxHeartbeats 4000000
namespace Ly
open PySem PySem.Spec L2
open PyProof.Rows hiding St
section
variable {X : Cx}
end
section
variable {X : Cx} {E : St → XK} {a b : Expr} {f g : M} {pos : Pos}
end
section
variable {X : XP} {op op' : D → D → Hs → R D} {f g h : M} {l : Ls} {S : Hs} {x y z d : D} {Q : Bool → Hs → Prop}
end
end Ly
set_option Elab.async false
set_option linter.all false
set_option maxRecDepth 100000
set_option maxHeartbeats 4000000
namespace Ly
open PySem PySem.Spec L2
open PyProof.Rows hiding St
section
variable {X : Cx}
end
section
variable {X : Cx} {E : St → XK} {e : Expr} {f : M} {p p2 pos pos2 : Pos}
end
end Ly
set_option Elab.async false
set_option linter.all false
set_option maxRecDepth 100000
namespace Ly
open PySem PySem.Spec L2
open PyProof.Rows hiding St
section
variable {X : Cx} {E : St → XK} {o : Expr} {eo : M} {to : TE} {f : Str} {cs : List Addr} {pos : Pos}
end
section
variable {X : XP} {cs : List Addr} {f : Str} {o : M} {l : Ls} {S : Hs} {i : Nat} {C : Addr} {fs : List (Str × D)} {d x : D} {Q : Ls → Hs → Prop}
end
theorem FOk.one {K : PySem.W.Frag} {cs : List Addr} {f : Str} {C : Addr} (h : FOk K cs f) (hc : C ∈ cs) : FOk K [C] f := fun C' h' => by
  rw [List.mem_singleton] at h'; subst h'; exact h _ hc
end Ly
set_option Elab.async false
set_option linter.all false
set_option maxRecDepth 100000
set_option maxHeartbeats 4000000
namespace Ly
open PySem PySem.Spec L2
open PyProof.Rows hiding St
section
variable {X : Cx}
end
end Ly
set_option Elab.async false
set_option linter.all false
set_option maxRecDepth 100000
namespace Ly
open PySem PySem.Spec L2
open PyProof.Rows hiding St
section
variable {K : PySem.W.Frag} {E : St → XK}
end
end Ly
set_option Elab.async false
set_option linter.all false
set_option maxRecDepth 100000
namespace Ly
open PySem PySem.Spec L2
open PyProof.Rows hiding St
open RZ
section
variable {X : Cx} {E : St → XK} {e : Expr} {f : M} {p p2 pos pos2 : Pos}
end
end Ly
set_option Elab.async false
set_option linter.all false
set_option maxRecDepth 100000
namespace Ly
open PySem PySem.Spec L2
open PyProof.Rows hiding St
section
variable {prog : Program} {w : World} {A : Around} {E : Value → Shared → Prop} {s : Shared}
abbrev colH (s : Shared) (L : List Value) : Heap := (s.heap.push (seqObj "list" #[] 0)).update s.heap.objs.size (Obj.mapSeq (· ++ L.toArray))
theorem colT {b : Addr} {L : List Value} {Q : List Value → Shared → Prop} (ht : s.heap.IsTuple b L.toArray) (hn : L.length ≤ sizeLine) (hq : Q L { s with heap := colH s L }) : wpAny (model prog w) A (collect (.ref b)) Q E s := by
  obtain ⟨o, go, co, n, dd⟩ := ht
  have g2 : (s.heap.push (seqObj "list" #[] 0)).get? b = some o := Heap.get?_push_of_some _ go
  have gN : (s.heap.push (seqObj "list" #[] 0)).get? s.heap.objs.size = some (seqObj "list" #[] 0) := Heap.get?_push_size _ rfl
  unfold collect
  refine wpAny_bind (wpAny_runValue (codeAny_builtin entry_proto_collect' ?step))
  case step =>
    show wpAny _ _ (do again (.builtin "list.__iadd__" ⟨[← newList [], .ref b], []⟩)) _ _ s
    refine wpAny_bind (wpAny_newList (wpAny_pure ⟨Code.quiet_builtin _ (by decide +kernel), codeAny_builtin entry_list_iadd' ?go⟩))
    show wpAny _ _ (Builtin.List.listExtendWith (.ref s.heap.objs.size) (.ref b) (.ref s.heap.objs.size)) _ _ { s with heap := s.heap.push (seqObj "list" #[] 0) }
    unfold Builtin.List.listExtendWith
    refine wpAny_bind (wpAny_typeOf (T := "tuple") ⟨o, g2, co⟩ ?_)
    rw [if_pos (show (_ || Value.type "tuple" == Value.type "list" || Value.type "tuple" == Value.type "tuple") = true by rw [show (Value.type "tuple" == Value.type "tuple") = true from rfl]; simp)]
    refine wpAny_bind (listItems_at g2 dd (wpAny_bind (listItems_at gN rfl ?_)))
    rw [if_neg (by simp)]
    have hz : (#[] ++ L.toArray : Array Value).size ≤ sizeLine + 1 := by simp; omega
    refine wpAny_bind (listUpdate_at gN rfl (wpAny_pure ?_) (Nat.zero_le _) hz)
    show wpAny (model prog w) A (do
        let o ← load s.heap.objs.size
        match o.data with
        | .seq xs _ => pure xs.toList
        | _ => unsupported "internal:collect") Q E { s with heap := colH s L }
    refine wpAny_bind (wpAny_load (get?_update_seq gN _) ?_)
    have hl : ((#[] : Array Value) ++ L.toArray).toList = L := by simp
    show wpAny _ _ (pure ((#[] : Array Value) ++ L.toArray).toList) Q E _
    rw [hl]; exact wpAny_pure hq
open SrtO in
theorem srtT {b : Addr} {L : List Value} {zs : List Int} {Q : Value → Shared → Prop} (ht : s.heap.IsTuple b L.toArray) (hn : L.length ≤ sizeLine) (hI : IntsAre L zs)
    (hq : ∀ out : List Value, Srtd ltIv out → Stb ltIv out L → Q (.ref (s.heap.objs.size + 1)) { s with heap := sortedAll s.heap L out.toArray }) : wpAny (model prog w) A (call (.builtin "sorted") [.ref b]) Q E s := by
  refine Calls.call_function_entry kind_sorted plain_sorted entry_sorted (args_sorted1 _) ?go
  case go =>
    unfold Builtin.«sorted»
    refine wpAny_bind (m := checkCount "sorted" 1 1 _) (wpAny_pure (wpAny_bind (colT ht hn (wpAny_bind (wpAny_newList ?nl hn)))))
    case nl =>
      have sz : (colH s L).objs.size = s.heap.objs.size + 1 := by unfold colH; rw [Heap.size_update, size_push']
      have gL : ((colH s L).push (seqObj "list" L.toArray 0)).get? (s.heap.objs.size + 1) = some (seqObj "list" L.toArray 0) := by rw [← sz]; exact Heap.get?_push_size _ rfl
      show wpAny _ _ _ _ _ { s with heap := (colH s L).push (seqObj "list" L.toArray 0) }
      rw [sz]
      refine wpAny_bind (wpAny_holding (wpAny_call_entry slot_list_sort ⟨_, gL, rfl⟩ entry_list_sort (list_sort_ord swo_int gL hn (fun h2 => ints_sortable hI h2) fun out hs hb => ⟨_, rfl, wpAny_pure ⟨_, rfl, hq out hs hb⟩⟩) (args_list_sort _)))
end
def rSrtT (K : PySem.W.Frag) : List V → Hp → VK → Prop := fun vs H Q => ∃ (b : Addr) (zs : List Int), vs = [V.ref b] ∧ SqT K H b (zs.map V.int) ∧
    ∀ (out : List Int) (p : Addr), out.Perm zs → out.Pairwise (· ≤ ·) → H p = none → Q (.ref p) (upd H p (.lst (out.map V.int)))
open SrtO in
theorem cr_srtT {X : Cx} : CallR X (.builtin "sorted") (rSrtT X.K) := by
  intro pins s σ H vs us Q I r h
  obtain ⟨b, zs, rfl, hT, q⟩ := h
  obtain ⟨its, rv, ht, hz⟩ := I.tuple hT
  have hI := rv.ints
  have hzl : its.length ≤ sizeLine := by rw [← rv.length]; exact hz
  rw [Vals.ref1 r]
  refine srtT ht hzl hI fun out h1 h2 => ?_
  obtain ⟨j1, j2, j3⟩ := ints_out hI h1 h2
  obtain ⟨e, he⟩ := PyProof.Rows.sortedAll_at s.heap its out.toArray
  have hl : ((out.map iv).map V.int).length ≤ sizeLine := by rw [List.length_map, j2.length_eq]; rw [List.length_map] at hz; exact hz
  refine ⟨.ref _, upd H (s.heap.objs.size + 1) (.lst ((out.map iv).map V.int)), ?_, rfl, q _ _ j2 j3 (I.hok.fresh (Nat.le_succ _))⟩
  exact I.laid (t' := s.toks) (fun _ _ => PyProof.Rows.sortedAll_old) (Nat.le_succ _) ⟨hl, out, e, vals_of_ints j1, he⟩
def bSortA (ds : List D) (S : Hs) : R D := match ds with
  | [.tup xs] => match intsD xs with
    | some ns => .ok (.ref S.length) (S ++ [.lst ((sortI ns).map D.int)])
    | none => .bad
  | ds => bSorted ds S
section
variable {X : Cx} {E : St → XK} {e : Expr} {f : ML} {p pos : Pos}
theorem ok_sortA {K : PySem.W.Frag} : CallOk K E (orC (rSortedA K) (rSrtT K)) bSortA := by
  intro p S H ds vs Q R r h
  unfold bSortA at h
  split at h
  · split at h
    · rename_i xs ns hn
      cases r with
      | cons r0 rs =>
      cases rs
      cases r0 with
      | @tup ta td tx t r2 =>
      refine .inr ⟨_, ns, rfl, by rw [← ints_V r2 hn]; exact SqT.of t, fun ys q h1 h2 hq => ?_⟩
      rw [sortI_uniq h1 h2]
      exact h.new R hq ⟨_, upd_same, ints_reps _⟩
    · exact h.elim
  · exact .inl (ok_sorted p S H _ vs Q R r h)
theorem c_sortA (hc : X.calm = true) (hm : X.mg "sorted" = none) (ha : LM X E [e] f) (hg : Gl X "sorted" := by rfl) (he : starEach [e] X.env = (false, eval e X.env) :: starEach [] X.env := by rfl) : EM X E (.Call (.Name "sorted" p) [e] [] pos) (mCall bSortA f) :=
  e_callB (CallR.or (CallR.or cr_sortedI (call_sortedDI hc)) cr_srtT) ok_sortA hg hm (by decide +kernel) ha (by decide) (by decide) he
end
end Ly
set_option Elab.async false
set_option linter.all false
set_option maxRecDepth 100000
namespace Ly
open PySem PySem.Spec L2
open PyProof.Rows hiding St
local macro_rules | `(tactic| simp_arith [$ls,*]) => `(tactic| simp only [Ly.line_le, Ly.atX_no, Ly.v_ok, Ly.v_bad, Ly.v_bind, Ly.k_bd, Ly.v_at, Ly.v_bin, Ly.k_bi, Ly.k_bi2, Ly.v_var, Ly.v_c, Ly.v_un, Ly.k_un, Ly.v_if, Ly.k_ife, Ly.v_and, Ly.k_and, Ly.k_and2, Ly.v_or, Ly.k_or, Ly.k_or2, Ly.v_tup, Ly.k_tup, Ly.v_lst, Ly.k_lst, Ly.v_call, Ly.k_ca, Ly.v_fn, Ly.k_fn, Ly.v_bm, Ly.k_bm, Ly.k_bm2, Ly.v_sl, Ly.k_sl, Ly.k_sl2, Ly.k_sl3, Ly.v_ixK, Ly.k_ixk, Ly.v_inK, Ly.k_ink, Ly.v_notinK, Ly.k_nink, Ly.v_getK2, Ly.k_gk2, Ly.k_gk, Ly.v_get2, Ly.k_g2, Ly.k_g22, Ly.k_g23, Ly.v_nil, Ly.v_cons, Ly.k_co, Ly.k_co2, Ly.v_no, Ly.v_some, Ly.k_so, Ly.k_cm, Ly.v_cmp, Ly.v_tru, Ly.k_tr, Ly.v_notB, Ly.k_no, Ly.v_andB, Ly.k_an, Ly.v_orB, Ly.k_orb, Ly.v_yes, Ly.v_inKB, Ly.k_inkB, Ly.v_notinKB, Ly.k_ninkB, Ly.v_set, Ly.k_st, Ly.v_expr, Ly.k_ex, Ly.v_ret, Ly.k_re, Ly.v_retN, Ly.v_pass, Ly.v_brk, Ly.v_cnt, Ly.v_seq, Ly.k_sq_nx, Ly.k_sq_rt, Ly.k_sq_bk, Ly.k_sq_ct, Ly.v_ifS, Ly.k_ifs, Ly.v_asg, Ly.k_as, Ly.k_as2, Ly.v_aug, Ly.k_au, Ly.v_for, Ly.k_fo, Ly.v_it, Ly.k_it, Ly.k_ij, Ly.v_rng1, Ly.v_rng2, Ly.v_enum, Ly.v_zip, Ly.v_gN, Ly.v_gsN, Ly.v_gsC, Ly.k_gc, Ly.v_gT, Ly.v_gTw, Ly.v_gSb, Ly.k_gsb, Ly.k_gsb2, Ly.k_gsb3, Ly.k_en_rt, Ly.k_en_nx, Ly.k_tu_nx, Ly.k_tu_ct, Ly.k_tu_bk, Ly.k_tu_rt, Ly.v_lc, Ly.k_lc, Ly.v_augI, Ly.k_ag, Ly.k_ag2, Ly.k_ag3, Ly.k_ag4, Ly.k_ag5, Ly.v_del, Ly.k_dl, Ly.k_dl2, Ly.v_setd, Ly.v_pop2, Ly.k_d3, Ly.k_d32, Ly.k_d33, Ly.v_get1, Ly.k_g1, Ly.k_g12, Ly.v_rg1, Ly.k_rg, Ly.v_rg2, Ly.k_rg2, Ly.k_rg22, Ly.v_dicK, Ly.v_dicT, Ly.v_dc, Ly.k_dc, List.getElem?_cons_zero, List.getElem?_cons_succ, List.set_cons_zero, List.set_cons_succ, List.length_cons, List.length_nil, List.map_cons, List.map_nil, List.cons_append, List.nil_append, List.replicate, if_true, if_false, Bool.false_eq_true, Bool.not_true, Bool.not_false, Bool.true_and, Bool.false_and, decide_true, decide_false, decide_eq_true_eq, Nat.zero_add, Nat.reduceAdd, Nat.reduceLeDiff, true_and, and_true, $ls,*])
def nxK (j : Nat) (a : Int) : List (Key × D) := [(.inr "draws", .ref j), (.inr "at", .int a)]
structure Nxt (S : Hs) (i j : Nat) (row : List Int) (a : Int) : Prop where
  d : S[i]? = some (.dic (nxK j a))
  r : S[j]? = some (.lst (row.map D.int))
  ne : i ≠ j
  nn : 0 ≤ a
def NxtA (S : Hs) (i j : Nat) (row : List Int) : Prop := ∃ a, Nxt S i j row a
theorem key_str {x : Str} : (D.str x).key = some (.inr x) := nr rfl
theorem key_int {x : Int} : (D.int x).key = some (.inl x) := nr rfl
theorem oIx_dic {S : Hs} {i : Nat} {kvs : List (Key × D)} {y d : D} {k : Key} (h : S[i]? = some (.dic kvs)) (hk : y.key = some k) (hg : getK kvs k = some d) : oIx (.ref i) y S = .ok d S := by
  simp [oIx, h, dGet, hk, hg]
theorem dGet_dic {S : Hs} {i : Nat} {kvs : List (Key × D)} {y : D} {k : Key} (h : S[i]? = some (.dic kvs)) (hk : y.key = some k) : dGet (.ref i) y S = some (getK kvs k) := by
  simp [h, dGet, hk]
theorem oSet_dic {S : Hs} {i : Nat} {kvs : List (Key × D)} {y d : D} {k : Key} (h : S[i]? = some (.dic kvs)) (hk : y.key = some k) (hl : kvs.length < sizeLine) : oSet (.ref i) y d S = .ok () (S.set i (.dic (setK kvs k d))) := by
  simp [oSet, h, hk, hl]
theorem bLen_lst {S : Hs} {i : Nat} {ds : List D} (h : S[i]? = some (.lst ds)) : bLen [.ref i] S = .ok (.int ds.length) S := by simp [bLen, lenD, h]
theorem bLen_tup {S : Hs} {ds : List D} : bLen [.tup ds] S = .ok (.int ds.length) S := nr rfl
theorem oIx_lst {S : Hs} {i : Nat} {ds : List D} {k : Int} {d : D} (h : S[i]? = some (.lst ds)) (h0 : 0 ≤ k) (h1 : k < (ds.length : Int)) (hd : ds[k.toNat]? = some d) : oIx (.ref i) (.int k) S = .ok d S :=
  oIx_seq (by simp [seqD, h]) h0 h1 hd
theorem oGt_int {a b : Int} {S : Hs} : oGt (.int a) (.int b) S = .ok (.bl (decide (b < a))) S := nr rfl
theorem oGe_int {a b : Int} {S : Hs} : oGe (.int a) (.int b) S = .ok (.bl (decide (b ≤ a))) S := nr rfl
theorem bInt_int {a : Int} {S : Hs} : bInt [.int a] S = .ok (.int a) S := nr rfl
theorem oMod_int {a b : Int} {S : Hs} (h : 0 < b) : oMod (.int a) (.int b) S = .ok (.int (a % b)) S := by simp [oMod, h]
def OutL (S0 : Hs) (q n : Nat) (S : Hs) : Prop := ∃ row : List Int, S[q]? = some (.lst (row.map D.int)) ∧ row.length ≤ n ∧ Kp [] S0 S ∧ S0.length ≤ q
theorem hasTy_lst {S : Hs} {i : Nat} {ds : List D} (h : S[i]? = some (.lst ds)) : hasTy "list" (.ref i) S = true := by simp [hasTy, h]
theorem oAppend_lst {S : Hs} {i : Nat} {ds : List D} {d : D} (h : S[i]? = some (.lst ds)) (hl : ds.length < sizeLine) : oAppend (.ref i) [d] S = .ok .non (S.set i (.lst (ds ++ [d]))) := by simp [oAppend, h, hl]
theorem OutL.push {S0 S : Hs} {q n : Nat} {row : List Int} {v : Int} (h : S[q]? = some (.lst (row.map D.int))) (hl : row.length ≤ n) (k : Kp [] S0 S) (hq : S0.length ≤ q) : OutL S0 q (n + 1) (S.set q (.lst (row.map D.int ++ [.int v]))) :=
  ⟨row ++ [v], by simp [get_put h], by simp; omega, k.setNew hq, hq⟩
theorem OutL.mono {S0 S : Hs} {q n m : Nat} (h : OutL S0 q n S) (hm : n ≤ m) : OutL S0 q m S := by
  obtain ⟨row, a, b, c, d⟩ := h; exact ⟨row, a, by omega, c, d⟩
theorem oFdiv_int {a b : Int} {S : Hs} (h : 0 < b) (h2 : b.natAbs.log2 < 9000) : oFdiv (.int a) (.int b) S = .ok (.int (a / b)) S := by simp [oFdiv, h, h2]
theorem oMul_int {a b : Int} {S : Hs} (h : IntMulOk a b) : oMul (.int a) (.int b) S = .ok (.int (a * b)) S := by simp [oMul, h]
theorem bAbs_int {a : Int} {S : Hs} : bAbs [.int a] S = .ok (.int (if a < 0 then -a else a)) S := nr rfl
inductive Row where
  | const (d : Nat) (n : Int) | copy (d a : Nat) | op (s : Str) (d a b : Nat) | select (d c a b : Nat) | load (d i a : Nat) | store (i a v : Nat) | out (a : Nat)
  | jump (t : Nat) | branch (a t u : Nat) | stop (a : Nat)
abbrev nD (n : Nat) : D := .int (n : Int)
def Row.D : Row → D
  | .const d n => .tup [.str "const", nD d, .int n]
  | .copy d a => .tup [.str "copy", nD d, nD a]
  | .op s d a b => .tup [.str "op", .str s, nD d, nD a, nD b]
  | .select d c a b => .tup [.str "select", nD d, nD c, nD a, nD b]
  | .load d i a => .tup [.str "load", nD d, nD i, nD a]
  | .store i a v => .tup [.str "store", nD i, nD a, nD v]
  | .out a => .tup [.str "out", nD a]
  | .jump t => .tup [.str "jump", nD t]
  | .branch a t u => .tup [.str "branch", nD a, nD t, nD u]
  | .stop a => .tup [.str "stop", nD a]
def signsL : List Str := ["+", "-", "*", "&", "|", "^", "<<", ">>", "==", "<", "<=", "div", "mod"]
def Row.ok (nr na nb : Nat) : Row → Prop
  | .const d n => d < nr ∧ 0 ≤ n ∧ n ≤ 4294967295
  | .copy d a => d < nr ∧ a < nr
  | .op s d a b => s ∈ signsL ∧ d < nr ∧ a < nr ∧ b < nr
  | .select d c a b => d < nr ∧ c < nr ∧ a < nr ∧ b < nr
  | .load d i a => d < nr ∧ i < na ∧ a < nr
  | .store i a v => i < na ∧ a < nr ∧ v < nr
  | .out a => a < nr
  | .jump t => t < nb
  | .branch a t u => a < nr ∧ t < nb ∧ u < nb
  | .stop a => a < nr
def Row.last : Row → Bool
  | .jump _ => true
  | .branch _ _ _ => true
  | .stop _ => true
  | _ => false
theorem wp_ix {X : XP} {S : Hs} {q : Nat} {ds : List D} {k : Int} {Q : D → Hs → Prop} (h : S[q]? = some (.lst ds)) (h0 : 0 ≤ k) (h1 : k < (ds.length : Int)) (H : ∀ d ∈ ds, Q d S) : Wp X (oIx (.ref q) (.int k) S) Q := by
  have hk : k.toNat < ds.length := by omega
  rw [oIx_lst h h0 h1 (List.getElem?_eq_getElem hk)]
  exact ⟨H _ (List.getElem_mem hk)⟩
theorem NxtA.new {S g : Hs} {i j : Nat} {row : List Int} (h : NxtA S i j row) : NxtA (S ++ g) i j row := by
  obtain ⟨a, h⟩ := h
  exact ⟨a, by rw [List.getElem?_append_left (Real.lt h.d)]; exact h.d, by rw [List.getElem?_append_left (Real.lt h.r)]; exact h.r, h.ne, h.nn⟩
theorem NxtA.lt {S : Hs} {i j : Nat} {row : List Int} (h : NxtA S i j row) : i < S.length := by obtain ⟨a, h⟩ := h; exact Real.lt h.d
theorem NxtA.ltj {S : Hs} {i j : Nat} {row : List Int} (h : NxtA S i j row) : j < S.length := by obtain ⟨a, h⟩ := h; exact Real.lt h.r
structure Arr where
  name : Str
  len : Nat
  label : Str
def Arr.D (a : Arr) : D := .tup [.str a.name, nD a.len, .str a.label]
def Arr.ok (a : Arr) : Prop := 1 ≤ a.len ∧ a.len ≤ 11 ∧ (a.label = "public" ∨ a.label = "secret") ∧ a.name.length ≤ 1000 ∧ PyData.strOk a.name = true
def blockOk (nr na nb : Nat) (b : List Row) : Prop := b.length ≤ 8 ∧ ∃ body r, b = body ++ [r] ∧ (∀ x ∈ body, x.ok nr na nb ∧ x.last = false) ∧ r.ok nr na nb ∧ r.last = true
structure ProgOk (nr : Nat) (arrs : List Arr) (params : Nat) (blocks : List (List Row)) : Prop where
  na : arrs.length ≤ 3
  ar : ∀ a ∈ arrs, a.ok
  np : params ≤ 4
  nb : 1 ≤ blocks.length ∧ blocks.length ≤ 5
  bl : ∀ b ∈ blocks, blockOk nr arrs.length blocks.length b
theorem bTuple_lst {S : Hs} {q : Nat} {ds : List D} (h : S[q]? = some (.lst ds)) : bTuple [.ref q] S = .ok (.tup ds) S := by simp [bTuple, seqD, h]
theorem oAdd_lst {S : Hs} {p q : Nat} {ds es : List D} (h : S[p]? = some (.lst ds)) (h' : S[q]? = some (.lst es)) (hl : ds.length + es.length ≤ sizeLine) : oAdd (.ref p) (.ref q) S = .ok (.ref S.length) (S ++ [.lst (ds ++ es)]) := by simp [oAdd, h, h', hl]
theorem wipe1 {l : Ls} {s : Nat} : wipeL l [s] = l.set s none := nr rfl
end Ly
set_option Elab.async false
set_option linter.all false
set_option maxRecDepth 100000
namespace Ly
open PySem PySem.Spec L2
open PyProof.Rows hiding St
local macro_rules | `(tactic| simp_arith [$ls,*]) => `(tactic| simp only [Ly.line_le, Ly.atX_no, Ly.v_ok, Ly.v_bad, Ly.v_bind, Ly.k_bd, Ly.v_at, Ly.v_bin, Ly.k_bi, Ly.k_bi2, Ly.v_var, Ly.v_c, Ly.v_un, Ly.k_un, Ly.v_if, Ly.k_ife, Ly.v_and, Ly.k_and, Ly.k_and2, Ly.v_or, Ly.k_or, Ly.k_or2, Ly.v_tup, Ly.k_tup, Ly.v_lst, Ly.k_lst, Ly.v_call, Ly.k_ca, Ly.v_fn, Ly.k_fn, Ly.v_bm, Ly.k_bm, Ly.k_bm2, Ly.v_sl, Ly.k_sl, Ly.k_sl2, Ly.k_sl3, Ly.v_ixK, Ly.k_ixk, Ly.v_inK, Ly.k_ink, Ly.v_notinK, Ly.k_nink, Ly.v_getK2, Ly.k_gk2, Ly.k_gk, Ly.v_get2, Ly.k_g2, Ly.k_g22, Ly.k_g23, Ly.v_nil, Ly.v_cons, Ly.k_co, Ly.k_co2, Ly.v_no, Ly.v_some, Ly.k_so, Ly.k_cm, Ly.v_cmp, Ly.v_tru, Ly.k_tr, Ly.v_notB, Ly.k_no, Ly.v_andB, Ly.k_an, Ly.v_orB, Ly.k_orb, Ly.v_yes, Ly.v_inKB, Ly.k_inkB, Ly.v_notinKB, Ly.k_ninkB, Ly.v_set, Ly.k_st, Ly.v_expr, Ly.k_ex, Ly.v_ret, Ly.k_re, Ly.v_retN, Ly.v_pass, Ly.v_brk, Ly.v_cnt, Ly.v_seq, Ly.k_sq_nx, Ly.k_sq_rt, Ly.k_sq_bk, Ly.k_sq_ct, Ly.v_ifS, Ly.k_ifs, Ly.v_asg, Ly.k_as, Ly.k_as2, Ly.v_aug, Ly.k_au, Ly.v_for, Ly.k_fo, Ly.v_it, Ly.k_it, Ly.k_ij, Ly.v_rng1, Ly.v_rng2, Ly.v_enum, Ly.v_zip, Ly.v_gN, Ly.v_gsN, Ly.v_gsC, Ly.k_gc, Ly.v_gT, Ly.v_gTw, Ly.v_gSb, Ly.k_gsb, Ly.k_gsb2, Ly.k_gsb3, Ly.k_en_rt, Ly.k_en_nx, Ly.k_tu_nx, Ly.k_tu_ct, Ly.k_tu_bk, Ly.k_tu_rt, Ly.v_lc, Ly.k_lc, Ly.v_augI, Ly.k_ag, Ly.k_ag2, Ly.k_ag3, Ly.k_ag4, Ly.k_ag5, Ly.v_del, Ly.k_dl, Ly.k_dl2, Ly.v_setd, Ly.v_pop2, Ly.k_d3, Ly.k_d32, Ly.k_d33, Ly.v_get1, Ly.k_g1, Ly.k_g12, Ly.v_rg1, Ly.k_rg, Ly.v_rg2, Ly.k_rg2, Ly.k_rg22, Ly.v_dicK, Ly.v_dicT, Ly.v_dc, Ly.k_dc, List.getElem?_cons_zero, List.getElem?_cons_succ, List.set_cons_zero, List.set_cons_succ, List.length_cons, List.length_nil, List.map_cons, List.map_nil, List.cons_append, List.nil_append, List.replicate, if_true, if_false, Bool.false_eq_true, Bool.not_true, Bool.not_false, Bool.true_and, Bool.false_and, decide_true, decide_false, decide_eq_true_eq, Nat.zero_add, Nat.reduceAdd, Nat.reduceLeDiff, true_and, and_true, $ls,*])
noncomputable def lb_dD0 : MS := (mIfS (mCmp oGt (mVar 3) (mC (.int 0))) (mSeq (mExpr (mBM "list" oAppend (mVar 1) (lCons (mBin oMod (mVar 3) (mC (.int 1000))) lNil)))
    (mSet 3 (mBin oFdiv (mVar 3) (mC (.int 1000))))) mPass)
noncomputable def lb_dD1 : MS := (mSeq (mSet 5 (mBin oMod (mCall bInt (lCons (mBin oAdd (mBin oAdd (mBin oMul (mVar 5) (mVar 5)) (mBin oMul (mVar 4) (mC (.int 7919)))) (mC (.int 17))) lNil)) (mC (.int 2147483629))))
    (mExpr (mBM "list" oAppend (mVar 1) (lCons (mBin oMod (mVar 5) (mC (.int 1000))) lNil))))
noncomputable def lb_dD2 : MS := (mSeq (mSet 3 (mCall bAbs (lCons (mBin oIx (mVar 0) (mVar 2)) lNil)))
    (mIfS (mCmp oGe (mVar 3) (mBin oPow (mC (.int 10)) (mC (.int 18)))) (mFor (mRng1 (lCons (mC (.int 20)) lNil)) (gN 4) lb_dD0) (mSeq (mSet 5 (mBin oMod (mCall bInt (lCons (mBin oAdd (mBin oAdd (mBin oMul (mBin oIx (mVar 0) (mVar 2)) (mC (.int 48271))) (mBin oMul (mVar 2) (mC (.int 69621)))) (mC (.int 12345))) lNil)) (mC (.int 2147483647))))
    (mFor (mRng1 (lCons (mC (.int 3)) lNil)) (gN 4) lb_dD1))))
noncomputable def b_drawsD : MS := (mSeq (mSet 1 (mLst lNil))
    (mSeq (mFor (mRng1 (lCons (mCall bMin (lCons (mCall bLen (lCons (mVar 0) lNil)) (lCons (mC (.int 63)) lNil))) lNil)) (gN 2) lb_dD2)
    (mRet (mVar 1))))
noncomputable def m_drawsD : MD := mDef 1 5 b_drawsD
noncomputable def b_readerD : MS := (mSeq (mSet 1 (mFn m_drawsD (lCons (mVar 0) lNil)))
    (mSeq (mSet 2 (mC (.int 5)))
    (mSeq (mIfS (mCmp oGt (mCall bLen (lCons (mVar 0) lNil)) (mC (.int 0))) (mSet 2 (mBin oMod (mCall bAbs (lCons (mBin oIx (mVar 0) (mUn oNeg (mC (.int 1)))) lNil)) (mC (.int 1000003)))) mPass)
    (mRet (mDisp (dpCons (mC (.str "row")) (mVar 1) (dpCons (mC (.str "at")) (mC (.int 0)) (dpCons (mC (.str "seed")) (mVar 2) dpNil))))))))
noncomputable def m_readerD : MD := mDef 1 2 b_readerD
noncomputable def b_nextD : MS := (mSeq (mSet 2 (mBin oIx (mVar 0) (mC (.str "at"))))
    (mSeq (mAsg (mBin oAdd (mVar 2) (mC (.int 1))) (gSb (mVar 0) (mC (.str "at"))))
    (mSeq (mIfS (mCmp oLt (mVar 2) (mCall bLen (lCons (mBin oIx (mVar 0) (mC (.str "row"))) lNil))) (mRet (mBin oMod (mCall bInt (lCons (mBin oIx (mBin oIx (mVar 0) (mC (.str "row"))) (mVar 2)) lNil)) (mVar 1))) mPass)
    (mSeq (mSet 3 (mBin oMod (mCall bInt (lCons (mBin oMul (mBin oAdd (mBin oAdd (mBin oIx (mVar 0) (mC (.str "seed"))) (mBin oMul (mC (.int 17)) (mVar 2))) (mC (.int 3))) (mC (.int 48271))) lNil)) (mC (.int 2147483647))))
    (mRet (mBin oMod (mBin oFdiv (mBin oMod (mCall bInt (lCons (mBin oAdd (mBin oMul (mVar 3) (mVar 3)) (mVar 2)) lNil)) (mC (.int 2147483629))) (mC (.int 7))) (mVar 1)))))))
noncomputable def m_nextD : MD := mDef 2 2 b_nextD
theorem oIx_at {x : D} {S : Hs} {ds : List D} {i : Int} {d : D} (h : seqD x S = some ds) (ha : L2.atI ds i = some d) : oIx x (.int i) S = .ok d S := by
  unfold seqD at h
  split at h
  · split at h <;> first | (rename_i q; cases h; simp [oIx, q, ha]) | cases h
  · cases h; simp [oIx, ha]
  · cases h
def DrwN (S : Hs) (i j : Nat) : Prop := ∃ row a sd, Drw S i j row a sd
section
variable {S S' g : Hs} {i j : Nat} {many : Int}
theorem DrwN.kp {A : List Nat} (h : DrwN S i j) (k : Kp A S S') (hi : i ∉ A) (hj : j ∉ A) : DrwN S' i j := by
  obtain ⟨row, a, sd, h⟩ := h
  exact ⟨row, a, sd, k.get h.d hi, k.get h.r hj, h.ne, h.nn⟩
theorem DrwN.kp0 (h : DrwN S i j) (k : Kp [] S S') : DrwN S' i j := h.kp k (by simp) (by simp)
theorem DrwN.new (h : DrwN S i j) : DrwN (S ++ g) i j := h.kp0 Kp.new
theorem DrwN.lt (h : DrwN S i j) : i < S.length := by obtain ⟨row, a, sd, h⟩ := h; exact Real.lt h.d
theorem DrwN.ltj (h : DrwN S i j) : j < S.length := by obtain ⟨row, a, sd, h⟩ := h; exact Real.lt h.r
theorem DrwN.ne (h : DrwN S i j) : i ≠ j := by obtain ⟨row, a, sd, h⟩ := h; exact h.ne
theorem nextD_ok (h : DrwN S i j) (hm : 0 < many) : Wp NoX (m_nextD [.ref i, .int many] S) fun v S' => ∃ x : Nat, v = nD x ∧ (x : Int) < many ∧ DrwN S' i j ∧ Kp [i] S S' ∧ S'.length = S.length := by
  obtain ⟨row, a, sd, h⟩ := h
  have nat : ∀ z : Int, 0 ≤ z → z < many → ∃ x : Nat, D.int z = nD x ∧ (x : Int) < many := fun z h0 h1 => ⟨z.toNat, by simp only [nD]; rw [Int.toNat_of_nonneg h0], by omega⟩
  have hd := h.d
  have d0 : S[i]? = some (.dic (drawsK (.ref j) (.int a) (.int sd))) := hd
  have nn := h.nn
  have h2 : (S.set i (drawsO j (a + 1) sd))[i]? = some (.dic (drawsK (.ref j) (.int (a + 1)) (.int sd))) := get_put hd
  have hr2 : (S.set i (drawsO j (a + 1) sd))[j]? = some (.lst (row.map D.int)) := by rw [List.getElem?_set_ne h.ne]; exact h.r
  have hK : Kp [i] S (S.set i (drawsO j (a + 1) sd)) := Kp.set (by simp)
  have hN : DrwN (S.set i (drawsO j (a + 1) sd)) i j := ⟨row, a + 1, sd, h2, hr2, h.ne, by omega⟩
  have hrest : (S.set i (drawsO j (a + 1) sd)).length = S.length := by simp
  have e3 : oSet (.ref i) (.str "at") (.int (a + 1)) S = .ok () (S.set i (drawsO j (a + 1) sd)) := by
    rw [oSet_dic d0 key_str (by rw [drawsK_len]; decide), drawsK_set]; rfl
  refine wp_def0 rfl ?_
  unfold b_nextD
  simp_arith [oIx_dic d0 key_str (drawsK_at _ _ _), oAdd_int, e3, oIx_dic h2 key_str (drawsK_row _ _ _), oIx_dic h2 key_str (drawsK_seed _ _ _), bLen_lst hr2, oLt_int, List.length_map]
  by_cases hl : a < (row.length : Int)
  · have hx : oIx (.ref j) (.int a) (S.set i (drawsO j (a + 1) sd)) = .ok (.int (row.getD a.toNat 0)) (S.set i (drawsO j (a + 1) sd)) := by
      have : a.toNat < row.length := by omega
      exact oIx_lst hr2 nn (by simpa using hl) (by simp [List.getD, List.getElem?_eq_getElem this])
    simp_arith [hl, hx, bInt_int, oMod_int hm]
    obtain ⟨x, e, hx⟩ := nat _ (Int.emod_nonneg _ (by omega)) (Int.emod_lt_of_pos _ hm)
    exact ⟨x, e, hx, hN, hK, hrest⟩
  · have m1 : IntMulOk 17 a := mulok_l (by decide)
    have m2 : ∀ c : Int, IntMulOk c 48271 := fun c => mulok_r (by decide)
    have m3 : ∀ c : Int, IntMulOk (c % 2147483647) (c % 2147483647) := fun c => mulok_r (by omega)
    simp_arith [hl, oMul_int m1, oMul_int (m2 _), oMod_int (show (0:Int) < 2147483647 by decide), bInt_int, oMul_int (m3 _), oMod_int (show (0:Int) < 2147483629 by decide), oFdiv_int (show (0:Int) < 7 by decide) (show Nat.log2 7 < 9000 by decide), oMod_int hm, oAdd_int]
    obtain ⟨x, e, hx⟩ := nat _ (Int.emod_nonneg _ (by omega)) (Int.emod_lt_of_pos _ hm)
    exact ⟨x, e, hx, hN, hK, hrest⟩
end
theorem dD0_ok {S0 : Hs} {q n : Nat} {x o2 o4 o5 : Option D} {rest : Int} {S : Hs} (hn : n ≤ 100000) (h : OutL S0 q n S) :
    Wp NoX (fLoop (.rng 0 20) (gN 4) lb_dD0 0 [x, some (.ref q), o2, some (.int rest), o4, o5] S) fun r S' => ∃ o3 o4, r = .nx [x, some (.ref q), o2, o3, o4, o5] ∧ OutL S0 q (n + 20) S' := by
  refine wp_rng (fun k l S' => ∃ (rest : Int) (o4 : Option D), l = [x, some (.ref q), o2, some (.int rest), o4, o5] ∧ OutL S0 q (n + k) S') ⟨rest, o4, rfl, h⟩ ?_ ?_
  · rintro k l S' hk ⟨rest, o4, rfl, h⟩
    unfold lb_dD0
    simp_arith [oGt_int]
    obtain ⟨row, h1, h2, h3, h4⟩ := h
    have hb : (row.map D.int).length < sizeLine := by simp only [List.length_map]; exact line_big (by omega)
    by_cases h0 : 0 < rest
    · simp_arith [h0, hasTy_lst h1, oMod_int (show (0:Int) < 1000 by decide), oAppend_lst h1 hb, oFdiv_int (show (0:Int) < 1000 by decide) (show Nat.log2 1000 < 9000 by decide)]
      exact ⟨_, _, rfl, OutL.push h1 h2 h3 h4⟩
    · simp_arith [h0]
      exact ⟨_, _, rfl, row, h1, by omega, h3, h4⟩
  · rintro l S' ⟨rest, o4, rfl, h⟩
    exact ⟨_, _, rfl, h⟩
theorem dD1_ok {S0 : Hs} {q n : Nat} {x o2 o3 o4 : Option D} {mixed : Int} {S : Hs} (hm : mixed.natAbs < 2 ^ 64) (hn : n ≤ 100000) (h : OutL S0 q n S) :
    Wp NoX (fLoop (.rng 0 3) (gN 4) lb_dD1 0 [x, some (.ref q), o2, o3, o4, some (.int mixed)] S) fun r S' => ∃ o4 o5, r = .nx [x, some (.ref q), o2, o3, o4, o5] ∧ OutL S0 q (n + 3) S' := by
  refine wp_rng (fun k l S' => ∃ (mixed : Int) (o4 : Option D), mixed.natAbs < 2 ^ 64 ∧ l = [x, some (.ref q), o2, o3, o4, some (.int mixed)] ∧ OutL S0 q (n + k) S') ⟨mixed, o4, hm, rfl, h⟩ ?_ ?_
  · rintro k l S' hk ⟨mixed, o4, hm, rfl, h⟩
    unfold lb_dD1
    obtain ⟨row, h1, h2, h3, h4⟩ := h
    have hb : (row.map D.int).length < sizeLine := by simp only [List.length_map]; exact line_big (by omega)
    have m1 : IntMulOk mixed mixed := mulok_r hm
    have m2 : ∀ c : Int, IntMulOk c 7919 := fun c => mulok_r (by decide)
    simp_arith [oMul_int m1, oMul_int (m2 _), oAdd_int, bInt_int, oMod_int (show (0:Int) < 2147483629 by decide), hasTy_lst h1, oMod_int (show (0:Int) < 1000 by decide), oAppend_lst h1 hb]
    exact ⟨_, _, by omega, rfl, OutL.push h1 h2 h3 h4⟩
  · rintro l S' ⟨mixed, o4, _, rfl, h⟩
    exact ⟨_, _, rfl, h⟩
theorem drawsD_ok {S : Hs} {x : D} {ns : List Int} (hx : seqD x S = some (ns.map D.int)) (hn : ns.length ≤ 63) :
    Wp NoX (m_drawsD [x] S) fun v S' => ∃ (q : Nat) (row : List Int), v = .ref q ∧ S'[q]? = some (.lst (row.map D.int)) ∧ S.length ≤ q ∧ Kp [] S S' := by
  refine wp_def0 rfl ?_
  unfold b_drawsD
  have hlen : bLen [x] (S ++ [.lst []]) = .ok (.int (ns.length : Int)) (S ++ [.lst []]) := by
    have := lenD_seq (seqD_more (g := [.lst []]) hx)
    simp [bLen, this]
  have hmin : bMin [.int (ns.length : Int), .int 63] (S ++ [.lst []]) = .ok (.int (ns.length : Int)) (S ++ [.lst []]) := by
    simp only [bMin]; rw [if_neg (by omega)]
  simp_arith [hlen, hmin, rng1 (n := (ns.length : Int)) (S ++ [.lst []]) (by omega) (by omega), Int.toNat_natCast]
  refine wp_rng (fun k l S' => (∃ (o2 o3 o4 o5 : Option D), l = [some x, some (.ref S.length), o2, o3, o4, o5]) ∧ OutL S S.length (20 * k) S') ⟨⟨_, _, _, _, rfl⟩, [], by simp, by simp, Kp.new, Nat.le_refl _⟩ ?_ ?_
  · rintro k l S' hk ⟨⟨o2, o3, o4, o5, rfl⟩, hO⟩
    obtain ⟨row, h1, h2, h3, h4⟩ := id hO
    have hxS : seqD x S' = some (ns.map D.int) := by
      unfold seqD at hx ⊢
      split at hx
      · split at hx <;> first | (rename_i z; rw [h3.get z (by simp)]; exact hx) | cases hx
      · exact hx
      · cases hx
    have hix : oIx x (.int (0 + (k : Int))) S' = .ok (.int ns[k]) S' := oIx_seq hxS (by omega) (by simp; omega) (by simp [List.getElem?_eq_getElem hk])
    have m1 : ∀ c : Int, IntMulOk c 48271 := fun c => mulok_r (by decide)
    have m2 : ∀ c : Int, IntMulOk c 69621 := fun c => mulok_r (by decide)
    unfold lb_dD2
    simp_arith [hix, bAbs_int, pow18, oGe_int]
    generalize hc : (if ns[k] < 0 then -ns[k] else ns[k]) = c
    by_cases h0 : 1000000000000000000 ≤ c
    · simp_arith [h0, rng1 S' (show (-1000000000:Int) ≤ 20 by decide) (show (20:Int) ≤ 1000000000 by decide)]
      refine (dD0_ok (n := 20 * k) (by omega) hO).mono (fun _ _ _ _ h => h) ?_
      rintro r S2 ⟨o3, o4, rfl, hO'⟩
      exact ⟨⟨_, _, _, _, rfl⟩, hO'.mono (by omega)⟩
    · simp_arith [h0, hix, oMul_int (m1 _), oMul_int (m2 _), oAdd_int, bInt_int, oMod_int (show (0:Int) < 2147483647 by decide), rng1 S' (show (-1000000000:Int) ≤ 3 by decide) (show (3:Int) ≤ 1000000000 by decide)]
      refine (dD1_ok (n := 20 * k) (by omega) (by omega) hO).mono (fun _ _ _ _ h => h) ?_
      rintro r S2 ⟨o4, o5, rfl, hO'⟩
      exact ⟨⟨_, _, _, _, rfl⟩, hO'.mono (by omega)⟩
  · rintro l S' ⟨⟨o2, o3, o4, o5, rfl⟩, row, e1, e2, e3, e4⟩
    simp_arith []
    exact ⟨_, row, rfl, e1, e4, e3⟩
theorem readerD_ok {S : Hs} {x : D} {ns : List Int} (hx : seqD x S = some (ns.map D.int)) (hn : ns.length ≤ 63) :
    Wp NoX (m_readerD [x] S) fun v S' => ∃ i j, v = .ref i ∧ DrwN S' i j ∧ S.length ≤ i ∧ S.length ≤ j ∧ Kp [] S S' := by
  refine wp_def0 rfl ?_
  unfold b_readerD
  simp_arith []
  refine Wp.call (drawsD_ok hx hn) ?_
  rintro _ S1 ⟨q, row, rfl, h1, h2, h3⟩
  have hxS : seqD x S1 = some (ns.map D.int) := by
    unfold seqD at hx ⊢
    split at hx
    · split at hx <;> first | (rename_i z; rw [h3.get z (by simp)]; exact hx) | cases hx
    · exact hx
    · cases hx
  have hlen : bLen [x] S1 = .ok (.int (ns.length : Int)) S1 := by
    have := lenD_seq hxS
    simp [bLen, this]
  have fin : ∀ (sd : Int), Wp NoX (mRet (mDisp (dpCons (mC (.str "row")) (mVar 1) (dpCons (mC (.str "at")) (mC (.int 0)) (dpCons (mC (.str "seed")) (mVar 2) dpNil)))) [some x, some (.ref q), some (.int sd)] S1) (enK fun v S' => ∃ i j, v = .ref i ∧ DrwN S' i j ∧ S.length ≤ i ∧ S.length ≤ j ∧ Kp [] S S') := by
    intro sd
    simp_arith []
    refine v_disp ?_
    simp_arith [v_dpCons, k_dp, k_dp2, v_dpNil, k_dp3]
    refine disp_end (kvs := drawsK (.ref q) (.int 0) (.int sd)) (by simp [keysP, D.key, drawsK]) (by simp) (by simp [mergeD, drawsK, setK, ofString_inj]) ?_
    simp_arith []
    refine ⟨_, q, rfl, ⟨row, 0, sd, by simp [drawsO], by rw [List.getElem?_append_left (Real.lt h1)]; exact h1, by have := Real.lt h1; omega, Int.le_refl _⟩, h3.le, h2, h3.app⟩
  simp_arith [hlen, oGt_int, -v_ret, -v_seq]
  rw [v_seq]
  by_cases h0 : (0 : Int) < (ns.length : Int)
  · have hix : oIx x (.int (-1)) S1 = .ok (.int (ns.getD (ns.length - 1) 0)) S1 := by
      refine oIx_at hxS ?_
      have e1 : ¬ (0 : Int) ≤ -1 := by decide
      have e2 : -((ns.map D.int).length : Int) ≤ -1 := by simp; omega
      have e3 : (-1 + ((ns.map D.int).length : Int)).toNat = ns.length - 1 := by simp; omega
      unfold L2.atI L2.ixN
      rw [if_neg e1, if_pos e2, e3]
      have : ns.length - 1 < ns.length := by omega
      simp [List.getD, List.getElem?_eq_getElem this]
    simp_arith [h0, hlen, oGt_int, show ∀ (z : Int) S, oNeg (.int z) S = .ok (.int (-z)) S from fun _ _ => rfl, hix, bAbs_int, oMod_int (show (0:Int) < 1000003 by decide), -v_ret]
    exact fin _
  · simp_arith [h0, hlen, oGt_int, -v_ret]
    exact fin _
end Ly
set_option Elab.async false
set_option linter.all false
set_option maxRecDepth 100000
namespace Ly
open PySem PySem.Spec L2
open PyProof.Rows hiding St
local macro_rules | `(tactic| simp_arith [$ls,*]) => `(tactic| simp only [Ly.line_le, Ly.atX_no, Ly.v_ok, Ly.v_bad, Ly.v_bind, Ly.k_bd, Ly.v_at, Ly.v_bin, Ly.k_bi, Ly.k_bi2, Ly.v_var, Ly.v_c, Ly.v_un, Ly.k_un, Ly.v_if, Ly.k_ife, Ly.v_and, Ly.k_and, Ly.k_and2, Ly.v_or, Ly.k_or, Ly.k_or2, Ly.v_tup, Ly.k_tup, Ly.v_lst, Ly.k_lst, Ly.v_call, Ly.k_ca, Ly.v_fn, Ly.k_fn, Ly.v_bm, Ly.k_bm, Ly.k_bm2, Ly.v_sl, Ly.k_sl, Ly.k_sl2, Ly.k_sl3, Ly.v_ixK, Ly.k_ixk, Ly.v_inK, Ly.k_ink, Ly.v_notinK, Ly.k_nink, Ly.v_getK2, Ly.k_gk2, Ly.k_gk, Ly.v_get2, Ly.k_g2, Ly.k_g22, Ly.k_g23, Ly.v_nil, Ly.v_cons, Ly.k_co, Ly.k_co2, Ly.v_no, Ly.v_some, Ly.k_so, Ly.k_cm, Ly.v_cmp, Ly.v_tru, Ly.k_tr, Ly.v_notB, Ly.k_no, Ly.v_andB, Ly.k_an, Ly.v_orB, Ly.k_orb, Ly.v_yes, Ly.v_inKB, Ly.k_inkB, Ly.v_notinKB, Ly.k_ninkB, Ly.v_set, Ly.k_st, Ly.v_expr, Ly.k_ex, Ly.v_ret, Ly.k_re, Ly.v_retN, Ly.v_pass, Ly.v_brk, Ly.v_cnt, Ly.v_seq, Ly.k_sq_nx, Ly.k_sq_rt, Ly.k_sq_bk, Ly.k_sq_ct, Ly.v_ifS, Ly.k_ifs, Ly.v_asg, Ly.k_as, Ly.k_as2, Ly.v_aug, Ly.k_au, Ly.v_for, Ly.k_fo, Ly.v_it, Ly.k_it, Ly.k_ij, Ly.v_rng1, Ly.v_rng2, Ly.v_enum, Ly.v_zip, Ly.v_gN, Ly.v_gsN, Ly.v_gsC, Ly.k_gc, Ly.v_gT, Ly.v_gTw, Ly.v_gSb, Ly.k_gsb, Ly.k_gsb2, Ly.k_gsb3, Ly.k_en_rt, Ly.k_en_nx, Ly.k_tu_nx, Ly.k_tu_ct, Ly.k_tu_bk, Ly.k_tu_rt, Ly.v_lc, Ly.k_lc, Ly.v_augI, Ly.k_ag, Ly.k_ag2, Ly.k_ag3, Ly.k_ag4, Ly.k_ag5, Ly.v_del, Ly.k_dl, Ly.k_dl2, Ly.v_setd, Ly.v_pop2, Ly.k_d3, Ly.k_d32, Ly.k_d33, Ly.v_get1, Ly.k_g1, Ly.k_g12, Ly.v_rg1, Ly.k_rg, Ly.v_rg2, Ly.k_rg2, Ly.k_rg22, Ly.v_dicK, Ly.v_dicT, Ly.v_dc, Ly.k_dc, List.getElem?_cons_zero, List.getElem?_cons_succ, List.set_cons_zero, List.set_cons_succ, List.length_cons, List.length_nil, List.map_cons, List.map_nil, List.cons_append, List.nil_append, List.replicate, if_true, if_false, Bool.false_eq_true, Bool.not_true, Bool.not_false, Bool.true_and, Bool.false_and, decide_true, decide_false, decide_eq_true_eq, Nat.zero_add, Nat.reduceAdd, Nat.reduceLeDiff, true_and, and_true, $ls,*])
def opN (s : Str) (a b : Nat) : Nat :=
  if s = "+" then (a + b) % 4294967296
  else if s = "-" then (a + 4294967296 - b) % 4294967296
  else if s = "*" then a * b % 4294967296
  else if s = "&" then a &&& b
  else if s = "|" then a ||| b
  else if s = "^" then a ^^^ b
  else if s = "<<" then a * 2 ^ (b % 32) % 4294967296
  else if s = ">>" then a / 2 ^ (b % 32)
  else if s = "==" then (if a = b then 1 else 0)
  else if s = "<" then (if a < b then 1 else 0)
  else if s = "<=" then (if a ≤ b then 1 else 0)
  else if s = "div" then a / b
  else a % b
theorem pow_big {n : Nat} : (2 : Nat) ^ 32 = 4294967296 := by decide +kernel
theorem opN_lt {s : Str} {a b : Nat} (ha : a < 4294967296) (hb : b < 4294967296) : opN s a b < 4294967296 := by
  have g : ∀ (c : Prop) [Decidable c] (x y : Nat), x < 4294967296 → y < 4294967296 → (if c then x else y) < 4294967296 := fun c _ x y hx hy => by
    by_cases h : c
    · rw [if_pos h]; exact hx
    · rw [if_neg h]; exact hy
  have m : ∀ x : Nat, x % 4294967296 < 4294967296 := fun x => Nat.mod_lt _ (by decide)
  have ha' : a < 2 ^ 32 := by rw [pow_big (n := 0)]; exact ha
  have hb' : b < 2 ^ 32 := by rw [pow_big (n := 0)]; exact hb
  have p : (2 : Nat) ^ 32 = 4294967296 := pow_big (n := 0)
  exact g _ _ _ (m _) (g _ _ _ (m _) (g _ _ _ (m _) (g _ _ _ (Nat.lt_of_le_of_lt Nat.and_le_left ha) (g _ _ _ (p ▸ Nat.or_lt_two_pow ha' hb') (g _ _ _ (p ▸ Nat.xor_lt_two_pow ha' hb') (g _ _ _ (m _) (g _ _ _ (Nat.lt_of_le_of_lt (Nat.div_le_self _ _) ha)
    (g _ _ _ (g _ _ _ (by decide) (by decide)) (g _ _ _ (g _ _ _ (by decide) (by decide)) (g _ _ _ (g _ _ _ (by decide) (by decide)) (g _ _ _ (Nat.lt_of_le_of_lt (Nat.div_le_self _ _) ha) (Nat.lt_of_le_of_lt (Nat.mod_le _ _) ha))))))))))))
abbrev gw : D := .int 4294967295
theorem oAnd_int {a b : Int} {S : Hs} : oAnd (.int a) (.int b) S = .ok (.int (Builtin.bitAnd a b)) S := nr rfl
theorem oShl_int {a b : Int} {S : Hs} (h : 0 ≤ b) (h2 : b ≤ 1000000) (h3 : a.natAbs < 2 ^ 64) : oShl (.int a) (.int b) S = .ok (.int (a * 2 ^ b.toNat)) S := by simp [oShl, h, h2, h3]
theorem nat64 {a : Nat} (h : a < 4294967296) : ((a : Nat) : Int).natAbs < 2 ^ 64 := by
  have : (2:Nat)^64 = 18446744073709551616 := by decide +kernel
  rw [this]; omega
section
variable {a b : Nat} {S : Hs}
end
end Ly
set_option Elab.async false
set_option linter.all false
set_option maxRecDepth 100000
namespace Ly
open PySem PySem.Spec L2
open PyProof.Rows hiding St
local macro_rules | `(tactic| simp_arith [$ls,*]) => `(tactic| simp only [Ly.line_le, Ly.atX_no, Ly.v_ok, Ly.v_bad, Ly.v_bind, Ly.k_bd, Ly.v_at, Ly.v_bin, Ly.k_bi, Ly.k_bi2, Ly.v_var, Ly.v_c, Ly.v_un, Ly.k_un, Ly.v_if, Ly.k_ife, Ly.v_and, Ly.k_and, Ly.k_and2, Ly.v_or, Ly.k_or, Ly.k_or2, Ly.v_tup, Ly.k_tup, Ly.v_lst, Ly.k_lst, Ly.v_call, Ly.k_ca, Ly.v_fn, Ly.k_fn, Ly.v_bm, Ly.k_bm, Ly.k_bm2, Ly.v_sl, Ly.k_sl, Ly.k_sl2, Ly.k_sl3, Ly.v_ixK, Ly.k_ixk, Ly.v_inK, Ly.k_ink, Ly.v_notinK, Ly.k_nink, Ly.v_getK2, Ly.k_gk2, Ly.k_gk, Ly.v_get2, Ly.k_g2, Ly.k_g22, Ly.k_g23, Ly.v_nil, Ly.v_cons, Ly.k_co, Ly.k_co2, Ly.v_no, Ly.v_some, Ly.k_so, Ly.k_cm, Ly.v_cmp, Ly.v_tru, Ly.k_tr, Ly.v_notB, Ly.k_no, Ly.v_andB, Ly.k_an, Ly.v_orB, Ly.k_orb, Ly.v_yes, Ly.v_inKB, Ly.k_inkB, Ly.v_notinKB, Ly.k_ninkB, Ly.v_set, Ly.k_st, Ly.v_expr, Ly.k_ex, Ly.v_ret, Ly.k_re, Ly.v_retN, Ly.v_pass, Ly.v_brk, Ly.v_cnt, Ly.v_seq, Ly.k_sq_nx, Ly.k_sq_rt, Ly.k_sq_bk, Ly.k_sq_ct, Ly.v_ifS, Ly.k_ifs, Ly.v_asg, Ly.k_as, Ly.k_as2, Ly.v_aug, Ly.k_au, Ly.v_for, Ly.k_fo, Ly.v_it, Ly.k_it, Ly.k_ij, Ly.v_rng1, Ly.v_rng2, Ly.v_enum, Ly.v_zip, Ly.v_gN, Ly.v_gsN, Ly.v_gsC, Ly.k_gc, Ly.v_gT, Ly.v_gTw, Ly.v_gSb, Ly.k_gsb, Ly.k_gsb2, Ly.k_gsb3, Ly.k_en_rt, Ly.k_en_nx, Ly.k_tu_nx, Ly.k_tu_ct, Ly.k_tu_bk, Ly.k_tu_rt, Ly.v_lc, Ly.k_lc, Ly.v_augI, Ly.k_ag, Ly.k_ag2, Ly.k_ag3, Ly.k_ag4, Ly.k_ag5, Ly.v_del, Ly.k_dl, Ly.k_dl2, Ly.v_setd, Ly.v_pop2, Ly.k_d3, Ly.k_d32, Ly.k_d33, Ly.v_get1, Ly.k_g1, Ly.k_g12, Ly.v_rg1, Ly.k_rg, Ly.v_rg2, Ly.k_rg2, Ly.k_rg22, Ly.v_dicK, Ly.v_dicT, Ly.v_dc, Ly.k_dc, List.getElem?_cons_zero, List.getElem?_cons_succ, List.set_cons_zero, List.set_cons_succ, List.length_cons, List.length_nil, List.map_cons, List.map_nil, List.cons_append, List.nil_append, List.replicate, if_true, if_false, Bool.false_eq_true, Bool.not_true, Bool.not_false, Bool.true_and, Bool.false_and, decide_true, decide_false, decide_eq_true_eq, Nat.zero_add, Nat.reduceAdd, Nat.reduceLeDiff, true_and, and_true, $ls,*])
abbrev nDs (L : List Nat) : List D := L.map nD
def natDic (L : List Nat) (v : D) : List (Key × D) := L.map fun n : Nat => ((Sum.inl (n : Int) : Key), v)
theorem nodup_len {L : List Nat} {n : Nat} (h : L.Nodup) (hb : ∀ x ∈ L, x < n) : L.length ≤ n := by
  have p : L.Perm ((List.range n).filter (fun x => decide (x ∈ L))) := by
    rw [List.perm_ext_iff_of_nodup h (List.Nodup.sublist List.filter_sublist List.nodup_range)]
    intro a
    simp only [List.mem_filter, List.mem_range, decide_eq_true_eq]
    exact ⟨fun ha => ⟨hb a ha, ha⟩, fun ha => ha.2⟩
  have := p.length_eq
  have h2 := List.length_filter_le (fun x => decide (x ∈ L)) (List.range n)
  simp at h2
  omega
theorem intsD_nat {L : List Nat} : intsD (nDs L) = some (L.map Int.ofNat) := by
  induction L with
  | nil => rfl
  | cons a L ih => simp only [List.map_cons, nDs, nD, intsD] at *; rw [ih]; rfl
def sortN (L : List Nat) : List Nat := L.mergeSort (fun a b => decide (a ≤ b))
theorem sortN_perm (L : List Nat) : (sortN L).Perm L := List.mergeSort_perm _ _
theorem sortN_pw (L : List Nat) : (sortN L).Pairwise (· ≤ ·) := by
  have := List.pairwise_mergeSort (le := fun a b : Nat => decide (a ≤ b)) (fun a b c h1 h2 => by simp at *; omega) (fun a b => by simp; omega) L
  exact this.imp fun h => by simpa using h
theorem sortI_nat {L : List Nat} : (sortI (L.map Int.ofNat)).map D.int = nDs (sortN L) := by
  have : sortI (L.map Int.ofNat) = (sortN L).map Int.ofNat := by
    symm
    refine sortI_uniq ((sortN_perm L).map _) ?_
    rw [List.pairwise_map]
    exact (sortN_pw L).imp fun h => Int.ofNat_le.mpr h
  rw [this, List.map_map]; rfl
theorem sortN_eq {L M : List Nat} (h : L.Nodup) (h' : M.Nodup) (e : ∀ x, x ∈ L ↔ x ∈ M) : sortN L = sortN M := by
  have p : L.Perm M := (List.perm_ext_iff_of_nodup h h').mpr e
  exact List.Perm.eq_of_pairwise (fun a b _ _ h1 h2 => Nat.le_antisymm h1 h2) (sortN_pw L) (sortN_pw M) (((sortN_perm L).trans p).trans (sortN_perm M).symm)
theorem bSorted_lst {S : Hs} {q : Nat} {L : List Nat} (h : S[q]? = some (.lst (nDs L))) : bSorted [.ref q] S = .ok (.ref S.length) (S ++ [.lst (nDs (sortN L))]) := by
  simp [bSorted, seqD, h, intsD_nat, sortI_nat]
theorem atI_lit {α : Type} {xs : List α} {n : Nat} {x : α} (h : xs[n]? = some x) : L2.atI xs (n : Int) = some x := by
  obtain ⟨h1, _⟩ := List.getElem?_eq_some_iff.mp h
  rw [atI_nat (by omega) (by omega)]; simpa using h
theorem oIx_tup {S : Hs} {ds : List D} {n : Nat} {d : D} (h : ds[n]? = some d) : oIx (.tup ds) (.int (n : Int)) S = .ok d S := by simp [oIx, atI_lit h]
def Row.wr : Row → Option Nat
  | .const d _ => some d
  | .copy d _ => some d
  | .op _ d _ _ => some d
  | .select d _ _ _ => some d
  | .load d _ _ => some d
  | _ => none
def Row.rd : Row → List Nat
  | .copy _ a => [a]
  | .op _ _ a b => [a, b]
  | .select _ c a b => [c, a, b]
  | .load _ _ a => [a]
  | .store _ a v => [a, v]
  | .out a => [a]
  | .branch a _ _ => [a]
  | .stop a => [a]
  | _ => []
theorem Row.ok.wr_lt {nr na nb : Nat} {r : Row} (h : r.ok nr na nb) {d : Nat} (e : r.wr = some d) : d < nr := by
  cases r <;> simp only [Row.wr, Option.some.injEq, reduceCtorEq] at e <;> subst e <;> first | exact h.1 | exact h.2.1
end Ly
set_option Elab.async false
set_option linter.all false
set_option maxRecDepth 100000
namespace Ly
open PySem PySem.Spec L2
open PyProof.Rows hiding St
local macro_rules | `(tactic| simp_arith [$ls,*]) => `(tactic| simp only [Ly.line_le, Ly.atX_no, Ly.v_ok, Ly.v_bad, Ly.v_bind, Ly.k_bd, Ly.v_at, Ly.v_bin, Ly.k_bi, Ly.k_bi2, Ly.v_var, Ly.v_c, Ly.v_un, Ly.k_un, Ly.v_if, Ly.k_ife, Ly.v_and, Ly.k_and, Ly.k_and2, Ly.v_or, Ly.k_or, Ly.k_or2, Ly.v_tup, Ly.k_tup, Ly.v_lst, Ly.k_lst, Ly.v_call, Ly.k_ca, Ly.v_fn, Ly.k_fn, Ly.v_bm, Ly.k_bm, Ly.k_bm2, Ly.v_sl, Ly.k_sl, Ly.k_sl2, Ly.k_sl3, Ly.v_ixK, Ly.k_ixk, Ly.v_inK, Ly.k_ink, Ly.v_notinK, Ly.k_nink, Ly.v_getK2, Ly.k_gk2, Ly.k_gk, Ly.v_get2, Ly.k_g2, Ly.k_g22, Ly.k_g23, Ly.v_nil, Ly.v_cons, Ly.k_co, Ly.k_co2, Ly.v_no, Ly.v_some, Ly.k_so, Ly.k_cm, Ly.v_cmp, Ly.v_tru, Ly.k_tr, Ly.v_notB, Ly.k_no, Ly.v_andB, Ly.k_an, Ly.v_orB, Ly.k_orb, Ly.v_yes, Ly.v_inKB, Ly.k_inkB, Ly.v_notinKB, Ly.k_ninkB, Ly.v_set, Ly.k_st, Ly.v_expr, Ly.k_ex, Ly.v_ret, Ly.k_re, Ly.v_retN, Ly.v_pass, Ly.v_brk, Ly.v_cnt, Ly.v_seq, Ly.k_sq_nx, Ly.k_sq_rt, Ly.k_sq_bk, Ly.k_sq_ct, Ly.v_ifS, Ly.k_ifs, Ly.v_asg, Ly.k_as, Ly.k_as2, Ly.v_aug, Ly.k_au, Ly.v_for, Ly.k_fo, Ly.v_it, Ly.k_it, Ly.k_ij, Ly.v_rng1, Ly.v_rng2, Ly.v_enum, Ly.v_zip, Ly.v_gN, Ly.v_gsN, Ly.v_gsC, Ly.k_gc, Ly.v_gT, Ly.v_gTw, Ly.v_gSb, Ly.k_gsb, Ly.k_gsb2, Ly.k_gsb3, Ly.k_en_rt, Ly.k_en_nx, Ly.k_tu_nx, Ly.k_tu_ct, Ly.k_tu_bk, Ly.k_tu_rt, Ly.v_lc, Ly.k_lc, Ly.v_augI, Ly.k_ag, Ly.k_ag2, Ly.k_ag3, Ly.k_ag4, Ly.k_ag5, Ly.v_del, Ly.k_dl, Ly.k_dl2, Ly.v_setd, Ly.v_pop2, Ly.k_d3, Ly.k_d32, Ly.k_d33, Ly.v_get1, Ly.k_g1, Ly.k_g12, Ly.v_rg1, Ly.k_rg, Ly.v_rg2, Ly.k_rg2, Ly.k_rg22, Ly.v_dicK, Ly.v_dicT, Ly.v_dc, Ly.k_dc, List.getElem?_cons_zero, List.getElem?_cons_succ, List.set_cons_zero, List.set_cons_succ, List.length_cons, List.length_nil, List.map_cons, List.map_nil, List.cons_append, List.nil_append, List.replicate, if_true, if_false, Bool.false_eq_true, Bool.not_true, Bool.not_false, Bool.true_and, Bool.false_and, decide_true, decide_false, decide_eq_true_eq, Nat.zero_add, Nat.reduceAdd, Nat.reduceLeDiff, true_and, and_true, $ls,*])
def secArr (arrs : List Arr) (i : Nat) : Bool := match arrs[i]? with
  | some a => decide (a.label = "secret")
  | none => false
def secLoad (arrs : List Arr) : Row → Bool
  | .load _ i _ => secArr arrs i
  | _ => false
inductive Sec (arrs : List Arr) (labels : List Str) (rows : List Row) : Nat → Prop
  | param {k : Nat} : labels[k]? = some ("secret" : Str) → Sec arrs labels rows k
  | load {r : Row} {d : Nat} : r ∈ rows → secLoad arrs r = true → r.wr = some d → Sec arrs labels rows d
  | dep {r : Row} {d x : Nat} : r ∈ rows → r.wr = some d → x ∈ r.rd → Sec arrs labels rows x → Sec arrs labels rows d
theorem Sec.lt {arrs : List Arr} {labels : List Str} {rows : List Row} {nr na nb n : Nat} (h : Sec arrs labels rows n) (hl : labels.length ≤ nr) (hr : ∀ r ∈ rows, r.ok nr na nb) : n < nr := by
  induction h with
  | param h => obtain ⟨h, _⟩ := List.getElem?_eq_some_iff.mp h; omega
  | load h1 h2 h3 => exact (hr _ h1).wr_lt h3
  | dep h1 h2 h3 h4 ih => exact (hr _ h1).wr_lt h2
def mkDic (ps : List (Nat × Nat)) : List (Key × D) := ps.map fun p => ((Sum.inl (p.1 : Int) : Key), D.ref p.2)
structure Mk (S : Hs) (m : Nat) (ps : List (Nat × Nat)) (f : Nat → List Nat) : Prop where
  d : S[m]? = some (.dic (mkDic ps))
  n1 : (ps.map (·.1)).Nodup
  n2 : (ps.map (·.2)).Nodup
  lo : ∀ p ∈ ps, m < p.2
  li : ∀ p ∈ ps, S[p.2]? = some (.lst (nDs (f p.1)))
  no : ∀ n, n ∉ ps.map (·.1) → f n = []
theorem mkDic_get {ps : List (Nat × Nat)} (h : (ps.map (·.1)).Nodup) {n r : Nat} (hm : (n, r) ∈ ps) : getK (mkDic ps) (.inl (n : Int)) = some (.ref r) := by
  induction ps with
  | nil => cases hm
  | cons a ps ih =>
    simp only [List.map_cons, List.nodup_cons] at h
    unfold mkDic getK at *
    simp only [List.map_cons, List.find?_cons]
    rcases List.mem_cons.mp hm with e | hm
    · subst e; simp
    · have h1 : a.1 ≠ n := fun e => h.1 (by rw [e]; exact List.mem_map.mpr ⟨_, hm, rfl⟩)
      have h2 : ¬ ((Sum.inl (a.1 : Int) : Key) = Sum.inl (n : Int)) := by simp; omega
      simp only [decide_eq_false h2]
      exact ih h.2 hm
theorem mkDic_none {ps : List (Nat × Nat)} {n : Nat} (h : n ∉ ps.map (·.1)) : getK (mkDic ps) (.inl (n : Int)) = none := by
  unfold mkDic getK
  rw [Option.map_eq_none_iff, List.find?_eq_none]
  intro x hx
  rw [List.mem_map] at hx
  obtain ⟨p, hp, rfl⟩ := hx
  simp only [decide_eq_true_eq, Sum.inl.injEq]
  intro e
  exact h (List.mem_map.mpr ⟨p, hp, by show p.1 = n; omega⟩)
def Kb (b : Nat) (S S' : Hs) : Prop := S.length ≤ S'.length ∧ ∀ i, i < b → S'[i]? = S[i]?
theorem Kb.trans {b : Nat} {S S1 S2 : Hs} (h : Kb b S S1) (h' : Kb b S1 S2) : Kb b S S2 := ⟨Nat.le_trans h.1 h'.1, fun i hi => (h'.2 i hi).trans (h.2 i hi)⟩
theorem Kb.of {b : Nat} {A : List Nat} {S S' : Hs} (h : Kp A S S') (hA : ∀ i ∈ A, b ≤ i) (hb : b ≤ S.length) : Kb b S S' := ⟨h.1, fun i hi => h.2 i (by omega) fun e => by have := hA i e; omega⟩
theorem Kb.refl {b : Nat} {S : Hs} : Kb b S S := ⟨Nat.le_refl _, fun _ _ => rfl⟩
theorem Kb.get {b i : Nat} {S S' : Hs} {o : O} (h : Kb b S S') (e : S[i]? = some o) (hi : i < b) : S'[i]? = some o := (h.2 i hi).trans e
theorem Kb.kp {b : Nat} {S0 S S' : Hs} (k : Kp [] S0 S) (h : Kb b S S') (hb : S0.length ≤ b) : Kp [] S0 S' := ⟨Nat.le_trans k.1 h.1, fun i hi hn => (h.2 i (by omega)).trans (k.2 i hi hn)⟩
section
variable {arrs : List Arr} {labels : List Str} {rows : List Row} {nr na nb : Nat}
structure Gath (arrs : List Arr) (labels : List Str) (done : List Row) (W : List Nat) (f : Nat → List Nat) : Prop where
  gw : ∀ x, x ∈ W ↔ labels[x]? = some ("secret" : Str) ∨ ∃ r ∈ done, secLoad arrs r = true ∧ r.wr = some x
  gf : ∀ x y, y ∈ f x ↔ ∃ r ∈ done, r.wr = some y ∧ x ∈ r.rd
  gwl : W.length ≤ labels.length + done.length
  gfl : ∀ x, (f x).length ≤ 3 * done.length
end
section
variable {arrs : List Arr} {labels : List Str} {nr nb : Nat}
theorem Mk.get {S : Hs} {m : Nat} {ps : List (Nat × Nat)} {f : Nat → List Nat} (h : Mk S m ps f) (n : Nat) : (∃ r, (n, r) ∈ ps ∧ dGet (.ref m) (nD n) S = some (some (.ref r)) ∧ S[r]? = some (.lst (nDs (f n)))) ∨ (dGet (.ref m) (nD n) S = some none ∧ f n = []) := by
  by_cases hn : n ∈ ps.map (·.1)
  · rw [List.mem_map] at hn
    obtain ⟨⟨n', r⟩, hm', rfl⟩ := hn
    exact .inl ⟨r, hm', by rw [dGet_dic h.d key_int, mkDic_get h.n1 hm'], h.li _ hm'⟩
  · exact .inr ⟨by rw [dGet_dic h.d key_int, mkDic_none hn], h.no n hn⟩
structure Wrk (arrs : List Arr) (labels : List Str) (rows : List Row) (f : Nat → List Nat) (nr : Nat) (L W : List Nat) : Prop where
  nd : L.Nodup
  lt : ∀ x ∈ L, x < nr
  so : ∀ x, x ∈ L ∨ x ∈ W → Sec arrs labels rows x
  ba : ∀ x : Nat, labels[x]? = some ("secret" : Str) ∨ (∃ r ∈ rows, secLoad arrs r = true ∧ r.wr = some x) → x ∈ L ∨ x ∈ W
  cl : ∀ x ∈ L, ∀ y ∈ f x, y ∈ L ∨ y ∈ W
  wl : W.length ≤ labels.length + rows.length + L.length * (3 * rows.length)
theorem Wrk.done {rows : List Row} {f : Nat → List Nat} {L W0 : List Nat} (h : Wrk arrs labels rows f nr L []) (hG : Gath arrs labels rows W0 f) (x : Nat) : x ∈ L ↔ Sec arrs labels rows x := by
  refine ⟨fun hx => h.so x (.inl hx), fun hx => ?_⟩
  have e : ∀ y, y ∈ L ∨ y ∈ ([] : List Nat) → y ∈ L := fun y hy => hy.elim id (by simp)
  induction hx with
  | param h1 => exact e _ (h.ba _ (.inl h1))
  | load h1 h2 h3 => exact e _ (h.ba _ (.inr ⟨_, h1, h2, h3⟩))
  | dep h1 h2 h3 h4 ih => exact e _ (h.cl _ ih _ ((hG.gf _ _).mpr ⟨_, h1, h2, h3⟩))
structure WhS (arrs : List Arr) (labels : List Str) (rows : List Row) (nr : Nat) (S0 : Hs) (q m s : Nat) (f : Nat → List Nat) (ps : List (Nat × Nat)) (L W : List Nat) (S : Hs) : Prop where
  wk : Wrk arrs labels rows f nr L W
  hq : S[q]? = some (.lst (nDs W))
  hs : S[s]? = some (.dic (natDic L (.bl true)))
  hm : Mk S m ps f
  ps : ∀ p ∈ ps, p.2 < s
  k : Kp [] S0 S
  q0 : S0.length ≤ q
  qm : q < m
  ms : m < s
end
end Ly
set_option Elab.async false
set_option linter.all false
set_option maxRecDepth 100000
namespace Ly
open PySem PySem.Spec L2
open PyProof.Rows hiding St
local macro_rules | `(tactic| simp_arith [$ls,*]) => `(tactic| simp only [Ly.line_le, Ly.atX_no, Ly.v_ok, Ly.v_bad, Ly.v_bind, Ly.k_bd, Ly.v_at, Ly.v_bin, Ly.k_bi, Ly.k_bi2, Ly.v_var, Ly.v_c, Ly.v_un, Ly.k_un, Ly.v_if, Ly.k_ife, Ly.v_and, Ly.k_and, Ly.k_and2, Ly.v_or, Ly.k_or, Ly.k_or2, Ly.v_tup, Ly.k_tup, Ly.v_lst, Ly.k_lst, Ly.v_call, Ly.k_ca, Ly.v_fn, Ly.k_fn, Ly.v_bm, Ly.k_bm, Ly.k_bm2, Ly.v_sl, Ly.k_sl, Ly.k_sl2, Ly.k_sl3, Ly.v_ixK, Ly.k_ixk, Ly.v_inK, Ly.k_ink, Ly.v_notinK, Ly.k_nink, Ly.v_getK2, Ly.k_gk2, Ly.k_gk, Ly.v_get2, Ly.k_g2, Ly.k_g22, Ly.k_g23, Ly.v_nil, Ly.v_cons, Ly.k_co, Ly.k_co2, Ly.v_no, Ly.v_some, Ly.k_so, Ly.k_cm, Ly.v_cmp, Ly.v_tru, Ly.k_tr, Ly.v_notB, Ly.k_no, Ly.v_andB, Ly.k_an, Ly.v_orB, Ly.k_orb, Ly.v_yes, Ly.v_inKB, Ly.k_inkB, Ly.v_notinKB, Ly.k_ninkB, Ly.v_set, Ly.k_st, Ly.v_expr, Ly.k_ex, Ly.v_ret, Ly.k_re, Ly.v_retN, Ly.v_pass, Ly.v_brk, Ly.v_cnt, Ly.v_seq, Ly.k_sq_nx, Ly.k_sq_rt, Ly.k_sq_bk, Ly.k_sq_ct, Ly.v_ifS, Ly.k_ifs, Ly.v_asg, Ly.k_as, Ly.k_as2, Ly.v_aug, Ly.k_au, Ly.v_for, Ly.k_fo, Ly.v_it, Ly.k_it, Ly.k_ij, Ly.v_rng1, Ly.v_rng2, Ly.v_enum, Ly.v_zip, Ly.v_gN, Ly.v_gsN, Ly.v_gsC, Ly.k_gc, Ly.v_gT, Ly.v_gTw, Ly.v_gSb, Ly.k_gsb, Ly.k_gsb2, Ly.k_gsb3, Ly.k_en_rt, Ly.k_en_nx, Ly.k_tu_nx, Ly.k_tu_ct, Ly.k_tu_bk, Ly.k_tu_rt, Ly.v_lc, Ly.k_lc, Ly.v_augI, Ly.k_ag, Ly.k_ag2, Ly.k_ag3, Ly.k_ag4, Ly.k_ag5, Ly.v_del, Ly.k_dl, Ly.k_dl2, Ly.v_setd, Ly.v_pop2, Ly.k_d3, Ly.k_d32, Ly.k_d33, Ly.v_get1, Ly.k_g1, Ly.k_g12, Ly.v_rg1, Ly.k_rg, Ly.v_rg2, Ly.k_rg2, Ly.k_rg22, Ly.v_dicK, Ly.v_dicT, Ly.v_dc, Ly.k_dc, List.getElem?_cons_zero, List.getElem?_cons_succ, List.set_cons_zero, List.set_cons_succ, List.length_cons, List.length_nil, List.map_cons, List.map_nil, List.cons_append, List.nil_append, List.replicate, if_true, if_false, Bool.false_eq_true, Bool.not_true, Bool.not_false, Bool.true_and, Bool.false_and, decide_true, decide_false, decide_eq_true_eq, Nat.zero_add, Nat.reduceAdd, Nat.reduceLeDiff, true_and, and_true, $ls,*])
def Row.regs (r : Row) : List Nat := r.wr.toList ++ r.rd
section
variable {arrs : List Arr} {labels : List Str} {nr nb : Nat}
structure NmS (S0 : Hs) (nr s : Nat) (P : Nat → Prop) (S : Hs) : Prop where
  ex : ∃ L : List Nat, S[s]? = some (.dic (natDic L (.bl true))) ∧ L.Nodup ∧ (∀ x ∈ L, x < nr) ∧ ∀ x, x ∈ L ↔ P x
  k : Kp [] S0 S
  lo : S0.length ≤ s
theorem NmS.mono {S0 S S' : Hs} {s : Nat} {P P' : Nat → Prop} (h : NmS S0 nr s P S) (k : Kp [] S S') (e : ∀ x, P x ↔ P' x) : NmS S0 nr s P' S' := by
  obtain ⟨L, h1, h2, h3, h4⟩ := h.ex
  exact ⟨⟨L, k.get h1 (by simp), h2, h3, fun x => (h4 x).trans (e x)⟩, h.k.trans k, h.lo⟩
theorem seqAt_lst {S : Hs} {i : Nat} {ds : List D} (h : S[i]? = some (.lst ds)) : seqAt S i = some ds := by simp [seqAt, seqD, h]
theorem oIt_lst {S : Hs} {i : Nat} {ds : List D} (h : S[i]? = some (.lst ds)) : oIt (.ref i) S = .ok (.lst i) S := by simp [oIt, seqAt_lst h]
end
section
variable {arrs : List Arr} {labels : List Str} {nr nb : Nat}
end
end Ly
set_option Elab.async false
set_option linter.all false
set_option maxRecDepth 100000
namespace Ly
open PySem PySem.Spec L2
open PyProof.Rows hiding St
theorem depth_nats {L : List Nat} : PyData.depthAll (D.toPs (nDs L)) ≤ 30 := by
  refine depthAll_mem _ fun y hy => ?_
  rw [List.mem_map] at hy; obtain ⟨n, _, rfl⟩ := hy
  simp [D.toP, PyData.depth]
theorem rg_nats {n : Nat} : rgD 0 (n : Int) = nDs (List.range n) := by simp [rgD, nDs, nD]
theorem oLRg_nat {n : Nat} {S : Hs} (h : n ≤ 1000000) : oLRg 0 (n : Int) S = .ok (.ref S.length) (S ++ [.lst (nDs (List.range n))]) := by
  have hc : -(2 ^ 62) ≤ (0 : Int) ∧ (0 : Int) < 2 ^ 62 ∧ -(2 ^ 62) ≤ (n : Int) ∧ (n : Int) < 2 ^ 62 ∧ ((n : Int) - 0).toNat ≤ 2 ^ 24 := by
    refine ⟨by decide +kernel, by decide +kernel, ?_, ?_, ?_⟩
    · exact Int.le_trans (by decide +kernel) (Int.natCast_nonneg n)
    · exact Int.lt_of_le_of_lt (Int.ofNat_le.mpr h) (by decide +kernel)
    · rw [Int.sub_zero, Int.toNat_natCast]; exact Nat.le_trans h (by decide +kernel)
  unfold oLRg
  rw [if_pos hc, rg_nats]
end Ly
set_option Elab.async false
set_option linter.all false
set_option maxRecDepth 100000
namespace Ly
open PySem PySem.Spec L2
open PyProof.Rows hiding St
local macro_rules | `(tactic| simp_arith [$ls,*]) => `(tactic| simp only [Ly.line_le, Ly.atX_no, Ly.v_ok, Ly.v_bad, Ly.v_bind, Ly.k_bd, Ly.v_at, Ly.v_bin, Ly.k_bi, Ly.k_bi2, Ly.v_var, Ly.v_c, Ly.v_un, Ly.k_un, Ly.v_if, Ly.k_ife, Ly.v_and, Ly.k_and, Ly.k_and2, Ly.v_or, Ly.k_or, Ly.k_or2, Ly.v_tup, Ly.k_tup, Ly.v_lst, Ly.k_lst, Ly.v_call, Ly.k_ca, Ly.v_fn, Ly.k_fn, Ly.v_bm, Ly.k_bm, Ly.k_bm2, Ly.v_sl, Ly.k_sl, Ly.k_sl2, Ly.k_sl3, Ly.v_ixK, Ly.k_ixk, Ly.v_inK, Ly.k_ink, Ly.v_notinK, Ly.k_nink, Ly.v_getK2, Ly.k_gk2, Ly.k_gk, Ly.v_get2, Ly.k_g2, Ly.k_g22, Ly.k_g23, Ly.v_nil, Ly.v_cons, Ly.k_co, Ly.k_co2, Ly.v_no, Ly.v_some, Ly.k_so, Ly.k_cm, Ly.v_cmp, Ly.v_tru, Ly.k_tr, Ly.v_notB, Ly.k_no, Ly.v_andB, Ly.k_an, Ly.v_orB, Ly.k_orb, Ly.v_yes, Ly.v_inKB, Ly.k_inkB, Ly.v_notinKB, Ly.k_ninkB, Ly.v_set, Ly.k_st, Ly.v_expr, Ly.k_ex, Ly.v_ret, Ly.k_re, Ly.v_retN, Ly.v_pass, Ly.v_brk, Ly.v_cnt, Ly.v_seq, Ly.k_sq_nx, Ly.k_sq_rt, Ly.k_sq_bk, Ly.k_sq_ct, Ly.v_ifS, Ly.k_ifs, Ly.v_asg, Ly.k_as, Ly.k_as2, Ly.v_aug, Ly.k_au, Ly.v_for, Ly.k_fo, Ly.v_it, Ly.k_it, Ly.k_ij, Ly.v_rng1, Ly.v_rng2, Ly.v_enum, Ly.v_zip, Ly.v_gN, Ly.v_gsN, Ly.v_gsC, Ly.k_gc, Ly.v_gT, Ly.v_gTw, Ly.v_gSb, Ly.k_gsb, Ly.k_gsb2, Ly.k_gsb3, Ly.k_en_rt, Ly.k_en_nx, Ly.k_tu_nx, Ly.k_tu_ct, Ly.k_tu_bk, Ly.k_tu_rt, Ly.v_lc, Ly.k_lc, Ly.v_augI, Ly.k_ag, Ly.k_ag2, Ly.k_ag3, Ly.k_ag4, Ly.k_ag5, Ly.v_del, Ly.k_dl, Ly.k_dl2, Ly.v_setd, Ly.v_pop2, Ly.k_d3, Ly.k_d32, Ly.k_d33, Ly.v_get1, Ly.k_g1, Ly.k_g12, Ly.v_rg1, Ly.k_rg, Ly.v_rg2, Ly.k_rg2, Ly.k_rg22, Ly.v_dicK, Ly.v_dicT, Ly.v_dc, Ly.k_dc, List.getElem?_cons_zero, List.getElem?_cons_succ, List.set_cons_zero, List.set_cons_succ, List.length_cons, List.length_nil, List.map_cons, List.map_nil, List.cons_append, List.nil_append, List.replicate, if_true, if_false, Bool.false_eq_true, Bool.not_true, Bool.not_false, Bool.true_and, Bool.false_and, decide_true, decide_false, decide_eq_true_eq, Nat.zero_add, Nat.reduceAdd, Nat.reduceLeDiff, true_and, and_true, $ls,*])
structure Tb (S : Hs) (t : Nat) (ads : List Nat) (xss : List (List D)) (lo hi : Nat) : Prop where
  t' : S[t]? = some (.lst (ads.map .ref))
  len : ads.length = xss.length
  at' : ∀ (k a : Nat) (x : List D), ads[k]? = some a → xss[k]? = some x → S[a]? = some (.lst x)
  nd : (t :: ads).Nodup
  bd : ∀ x ∈ t :: ads, lo ≤ x ∧ x < hi
section
variable {S S' : Hs} {t lo hi k a : Nat} {ads : List Nat} {xss : List (List D)} {x : List D} {B : List Nat}
theorem Tb.kp (h : Tb S t ads xss lo hi) (kp : Kp B S S') (hB : ∀ x ∈ t :: ads, x ∉ B) : Tb S' t ads xss lo hi :=
  ⟨kp.get h.t' (hB _ (by simp)), h.len, fun k a x h1 h2 => kp.get (h.at' k a x h1 h2) (hB _ (List.mem_cons_of_mem _ (List.mem_of_getElem? h1))), h.nd, h.bd⟩
theorem Tb.get (h : Tb S t ads xss lo hi) (hx : xss[k]? = some x) : ∃ a, ads[k]? = some a ∧ S[a]? = some (.lst x) ∧ a ∈ ads ∧ lo ≤ a ∧ a < hi ∧ oIx (.ref t) (nD k) S = .ok (.ref a) S := by
  have hk : k < ads.length := by rw [h.len]; exact (List.getElem?_eq_some_iff.mp hx).1
  have ea := List.getElem?_eq_getElem hk
  have hm := List.getElem_mem hk
  refine ⟨ads[k], ea, h.at' k _ x ea hx, hm, (h.bd _ (List.mem_cons_of_mem _ hm)).1, (h.bd _ (List.mem_cons_of_mem _ hm)).2, oIx_lst h.t' (by omega) (by simpa using hk) (by simp [ea])⟩
theorem Tb.set (h : Tb S t ads xss lo hi) (ha : ads[k]? = some a) {x' : List D} : Tb (S.set a (.lst x')) t ads (xss.set k x') lo hi := by
  have hm := List.mem_of_getElem? ha
  have nd := h.nd
  rw [List.nodup_cons] at nd
  refine ⟨by rw [List.getElem?_set_ne (show a ≠ t from fun e => nd.1 (by rw [← e]; exact hm))]; exact h.t', by simp [h.len], fun k' a' x h1 h2 => ?_, h.nd, h.bd⟩
  rw [List.getElem?_set] at h2
  by_cases hk : k = k'
  · subst hk
    rw [if_pos rfl] at h2
    split at h2
    · cases h2
      rw [ha] at h1; cases h1
      have hx : k < xss.length := by assumption
      exact get_put (h.at' k a _ ha (List.getElem?_eq_getElem hx))
    · cases h2
  · rw [if_neg hk] at h2
    have hne : a ≠ a' := by
      intro e; subst e
      have hkl := (List.getElem?_eq_some_iff.mp ha).1
      exact hk ((List.getElem?_inj hkl nd.2).mp (ha.trans h1.symm))
    rw [List.getElem?_set_ne hne]
    exact h.at' k' a' x h1 h2
end
end Ly
set_option Elab.async false
set_option linter.all false
set_option maxRecDepth 100000
namespace Ly
open PySem PySem.Spec L2
open PyProof.Rows hiding St
local macro_rules | `(tactic| simp_arith [$ls,*]) => `(tactic| simp only [Ly.line_le, Ly.atX_no, Ly.v_ok, Ly.v_bad, Ly.v_bind, Ly.k_bd, Ly.v_at, Ly.v_bin, Ly.k_bi, Ly.k_bi2, Ly.v_var, Ly.v_c, Ly.v_un, Ly.k_un, Ly.v_if, Ly.k_ife, Ly.v_and, Ly.k_and, Ly.k_and2, Ly.v_or, Ly.k_or, Ly.k_or2, Ly.v_tup, Ly.k_tup, Ly.v_lst, Ly.k_lst, Ly.v_call, Ly.k_ca, Ly.v_fn, Ly.k_fn, Ly.v_bm, Ly.k_bm, Ly.k_bm2, Ly.v_sl, Ly.k_sl, Ly.k_sl2, Ly.k_sl3, Ly.v_ixK, Ly.k_ixk, Ly.v_inK, Ly.k_ink, Ly.v_notinK, Ly.k_nink, Ly.v_getK2, Ly.k_gk2, Ly.k_gk, Ly.v_get2, Ly.k_g2, Ly.k_g22, Ly.k_g23, Ly.v_nil, Ly.v_cons, Ly.k_co, Ly.k_co2, Ly.v_no, Ly.v_some, Ly.k_so, Ly.k_cm, Ly.v_cmp, Ly.v_tru, Ly.k_tr, Ly.v_notB, Ly.k_no, Ly.v_andB, Ly.k_an, Ly.v_orB, Ly.k_orb, Ly.v_yes, Ly.v_inKB, Ly.k_inkB, Ly.v_notinKB, Ly.k_ninkB, Ly.v_set, Ly.k_st, Ly.v_expr, Ly.k_ex, Ly.v_ret, Ly.k_re, Ly.v_retN, Ly.v_pass, Ly.v_brk, Ly.v_cnt, Ly.v_seq, Ly.k_sq_nx, Ly.k_sq_rt, Ly.k_sq_bk, Ly.k_sq_ct, Ly.v_ifS, Ly.k_ifs, Ly.v_asg, Ly.k_as, Ly.k_as2, Ly.v_aug, Ly.k_au, Ly.v_for, Ly.k_fo, Ly.v_it, Ly.k_it, Ly.k_ij, Ly.v_rng1, Ly.v_rng2, Ly.v_enum, Ly.v_zip, Ly.v_gN, Ly.v_gsN, Ly.v_gsC, Ly.k_gc, Ly.v_gT, Ly.v_gTw, Ly.v_gSb, Ly.k_gsb, Ly.k_gsb2, Ly.k_gsb3, Ly.k_en_rt, Ly.k_en_nx, Ly.k_tu_nx, Ly.k_tu_ct, Ly.k_tu_bk, Ly.k_tu_rt, Ly.v_lc, Ly.k_lc, Ly.v_augI, Ly.k_ag, Ly.k_ag2, Ly.k_ag3, Ly.k_ag4, Ly.k_ag5, Ly.v_del, Ly.k_dl, Ly.k_dl2, Ly.v_setd, Ly.v_pop2, Ly.k_d3, Ly.k_d32, Ly.k_d33, Ly.v_get1, Ly.k_g1, Ly.k_g12, Ly.v_rg1, Ly.k_rg, Ly.v_rg2, Ly.k_rg2, Ly.k_rg22, Ly.v_dicK, Ly.v_dicT, Ly.v_dc, Ly.k_dc, List.getElem?_cons_zero, List.getElem?_cons_succ, List.set_cons_zero, List.set_cons_succ, List.length_cons, List.length_nil, List.map_cons, List.map_nil, List.cons_append, List.nil_append, List.replicate, if_true, if_false, Bool.false_eq_true, Bool.not_true, Bool.not_false, Bool.true_and, Bool.false_and, decide_true, decide_false, decide_eq_true_eq, Nat.zero_add, Nat.reduceAdd, Nat.reduceLeDiff, true_and, and_true, $ls,*])
def prF (j hs h : Nat) : List (Str × D) := [("counters", .ref j), ("histories", nD hs), ("history", nD h)]
structure Pr (S : Hs) (C : Addr) (p j hs h : Nat) (cs : List Nat) : Prop where
  o : S[p]? = some (.ins C (prF j hs h))
  c : S[j]? = some (.lst (cs.map nD))
  h1 : h < hs
  h2 : hs ≤ 64
  n : cs.length ≤ 64
  at' : cs.length = 0 ∨ (0 < cs.length ∧ ∀ r : Nat, (r % cs.length) ^^^ h < cs.length)
  kind : (hs = 1 ∨ (hs = cs.length ∧ ∃ b, cs.length = 2 ^ b))
theorem Pr.ne {S : Hs} {C : Addr} {p j hs h : Nat} {cs : List Nat} (a : Pr S C p j hs h cs) : p ≠ j := by
  intro e; have h1 := a.o; rw [e, a.c] at h1; cases h1
theorem Pr.kp {S S' : Hs} {C : Addr} {p j hs h : Nat} {cs : List Nat} {A : List Nat} (a : Pr S C p j hs h cs) (k : Kp A S S') (hp : p ∉ A) (hj : j ∉ A) : Pr S' C p j hs h cs :=
  { a with o := k.get a.o hp, c := k.get a.c hj }
theorem Pr.lt {S : Hs} {C : Addr} {p j hs h : Nat} {cs : List Nat} (a : Pr S C p j hs h cs) : p < S.length := Real.lt a.o
theorem Pr.ltj {S : Hs} {C : Addr} {p j hs h : Nat} {cs : List Nat} (a : Pr S C p j hs h cs) : j < S.length := Real.lt a.c
def stepC (c : Nat) (t : Bool) : Nat := if t = true then min (c + 1) 3 else c - 1
def prAt (n h r : Nat) : Nat := (r % n) ^^^ h
def b2n (t : Bool) : Nat := if t = true then 1 else 0
def prStep (cs : List Nat) (h r : Nat) (t : Bool) : List Nat := cs.set (prAt cs.length h r) (stepC (cs.getD (prAt cs.length h r) 0) t)
section
variable {S : Hs} {C : Addr} {p j hs h : Nat} {cs : List Nat} {r : Nat} {t : Bool} {X : XP}
end
end Ly
set_option Elab.async false
set_option linter.all false
set_option maxRecDepth 100000
namespace Ly
open PySem PySem.Spec L2
open PyProof.Rows hiding St
inductive Od where
  | ages (bt : Bool) (as : List Nat) (now : Nat)
  | ptrs (w : Nat) (ss : List Nat)
def ptNote (ss : List Nat) (node : Nat) : List Nat := if h : 1 < node then ptNote (ss.set (node / 2) (1 - node % 2)) (node / 2) else ss
termination_by node
def ptGo (w : Nat) (ss : List Nat) : Nat → Nat → Nat
  | 0, node => node - w
  | f + 1, node => if node < w then ptGo w ss f (2 * node + ss.getD node 0) else node - w
def vicA (as : List Nat) : Nat := as.findIdx fun a => as.all fun b => decide (a ≤ b)
def Od.note : Od → Nat → Bool → Od
  | .ages bt as now, p, ms => if (ms || bt) = true then .ages bt (as.set p (now + 1)) (now + 1) else .ages bt as now
  | .ptrs w ss, p, _ => .ptrs w (ptNote ss (w + p))
def Od.victim : Od → Nat
  | .ages _ as _ => vicA as
  | .ptrs w ss => ptGo w ss 4 1
def Od.wf (w : Nat) : Od → Prop
  | .ages _ as _ => as.length = w
  | .ptrs w' ss => w' = w ∧ ss.length = w ∧ ∀ s ∈ ss, s ≤ 1
def Od.pick {α : Type} (o : Od) (x y : α) : α := match o with
  | .ages _ _ _ => x
  | .ptrs _ _ => y
def WayOk (w : Nat) : Prop := ∃ e, e ≤ 3 ∧ w = 2 ^ e
theorem WayOk.pos {w : Nat} (h : WayOk w) : 0 < w := by obtain ⟨e, _, rfl⟩ := h; exact Nat.two_pow_pos e
theorem WayOk.le {w : Nat} (h : WayOk w) : w ≤ 8 := by obtain ⟨e, he, rfl⟩ := h; exact Nat.le_trans (Nat.pow_le_pow_right (by decide) he) (by decide)
theorem ptNote_len {ss : List Nat} {node : Nat} : (ptNote ss node).length = ss.length := by
  induction node using Nat.strongRecOn generalizing ss with
  | _ node ih =>
    rw [ptNote]
    split
    · rw [ih _ (by omega), List.length_set]
    · rfl
theorem ptNote_le {ss : List Nat} {node : Nat} (h : ∀ s ∈ ss, s ≤ 1) : ∀ s ∈ ptNote ss node, s ≤ 1 := by
  induction node using Nat.strongRecOn generalizing ss with
  | _ node ih =>
    rw [ptNote]
    split
    · refine ih _ (by omega) fun s hs => ?_
      rcases List.mem_or_eq_of_mem_set hs with h1 | h1
      · exact h s h1
      · omega
    · exact h
theorem getD_le1 {ss : List Nat} (h : ∀ s ∈ ss, s ≤ 1) (i : Nat) : ss.getD i 0 ≤ 1 := by
  by_cases hl : i < ss.length
  · have : ss.getD i 0 = ss[i] := by simp [List.getD, List.getElem?_eq_getElem hl]
    rw [this]; exact h _ (List.getElem_mem hl)
  · have : ss.getD i 0 = 0 := by simp [List.getD, List.getElem?_eq_none (Nat.le_of_not_lt hl)]
    rw [this]; omega
theorem ptGo_lt {e : Nat} {ss : List Nat} (h : ∀ s ∈ ss, s ≤ 1) : ∀ f i node, i + f = e + 1 → 2 ^ i ≤ node → node < 2 ^ (i + 1) → i ≤ e → ptGo (2 ^ e) ss f node < 2 ^ e
  | 0, i, node, h1, h2, h3, h4 => by omega
  | f + 1, i, node, h1, h2, h3, h4 => by
    rw [ptGo]
    have hs := getD_le1 h node
    split
    · rename_i hlt
      have hie : i < e := by
        rcases Nat.lt_or_ge i e with h5 | h5
        · exact h5
        · have : i = e := by omega
          subst this; omega
      refine ptGo_lt h f (i + 1) _ (by omega) ?_ ?_ hie
      · rw [Nat.pow_succ]; omega
      · rw [Nat.pow_succ] at h3 ⊢; rw [Nat.pow_succ]; omega
    · rename_i hge
      have : 2 ^ (i + 1) ≤ 2 ^ (e + 1) := Nat.pow_le_pow_right (by decide) (by omega)
      rw [Nat.pow_succ] at this h3
      have h6 := Nat.two_pow_pos e
      rw [Nat.pow_succ] at this
      omega
theorem ptGo_more {w : Nat} {ss : List Nat} {e : Nat} (h : ∀ s ∈ ss, s ≤ 1) (hw : w = 2 ^ e) : ∀ f f' i node, i + f = e + 1 → f ≤ f' → 2 ^ i ≤ node → ptGo w ss f' node = ptGo w ss f node
  | 0, f', i, node, h1, h2, h3 => by
    have : ¬ node < w := by
      rw [hw]; have : 2 ^ e ≤ 2 ^ i := Nat.pow_le_pow_right (by decide) (by omega)
      omega
    cases f' with
    | zero => rfl
    | succ f' => simp [ptGo, this]
  | f + 1, 0, i, node, h1, h2, h3 => by omega
  | f + 1, f' + 1, i, node, h1, h2, h3 => by
    rw [ptGo, ptGo]
    split
    · exact ptGo_more h hw f f' (i + 1) _ (by omega) (by omega) (by rw [Nat.pow_succ]; omega)
    · rfl
theorem vicA_spec {as : List Nat} (h : 0 < as.length) : ∃ hv : vicA as < as.length, (∀ b ∈ as, as[vicA as] ≤ b) ∧ ∀ j, j < vicA as → ∀ hj : j < as.length, ∃ b ∈ as, b < as[j] := by
  have hex : ∃ a ∈ as, (as.all fun b => decide (a ≤ b)) = true := by
    have : ∀ xs : List Nat, 0 < xs.length → ∃ a ∈ xs, ∀ b ∈ xs, a ≤ b := by
      intro xs
      induction xs with
      | nil => intro h; simp at h
      | cons x xs ih =>
        intro _
        rcases Nat.eq_zero_or_pos xs.length with h0 | h0
        · have := List.eq_nil_of_length_eq_zero h0
          subst this
          exact ⟨x, by simp, by simp⟩
        · obtain ⟨a, ha, hb⟩ := ih h0
          rcases Nat.le_total x a with h1 | h1
          · exact ⟨x, by simp, fun b hb' => by rcases List.mem_cons.mp hb' with rfl | h2; exact Nat.le_refl _; exact Nat.le_trans h1 (hb b h2)⟩
          · exact ⟨a, by simp [ha], fun b hb' => by rcases List.mem_cons.mp hb' with rfl | h2; exact h1; exact hb b h2⟩
    obtain ⟨a, ha, hb⟩ := this as h
    exact ⟨a, ha, by simpa using hb⟩
  have hv : vicA as < as.length := List.findIdx_lt_length_of_exists hex
  refine ⟨hv, ?_, ?_⟩
  · have := List.findIdx_getElem (w := hv)
    simp only [List.all_eq_true, decide_eq_true_eq] at this
    exact fun b hb => this b hb
  · intro j hj hjl
    have := List.not_of_lt_findIdx hj
    simpa using this
theorem Od.victim_lt {w : Nat} {o : Od} (hw : WayOk w) (h : o.wf w) : o.victim < w := by
  cases o with
  | ages bt as now =>
    have h : as.length = w := h
    obtain ⟨h1, _⟩ := vicA_spec (as := as) (by rw [h]; exact hw.pos)
    rw [← h]; exact h1
  | ptrs w' ss =>
    obtain ⟨e, he, rfl⟩ := hw
    obtain ⟨rfl, h2, h3⟩ := h
    show ptGo (2 ^ e) ss 4 1 < 2 ^ e
    rw [ptGo_more h3 rfl (e + 1) 4 0 1 (by omega) (by omega) (by decide)]
    exact ptGo_lt h3 (e + 1) 0 1 (by omega) (by decide) (by decide) (by omega)
theorem Od.note_wf {w p : Nat} {ms : Bool} {o : Od} (h : o.wf w) : (o.note p ms).wf w := by
  cases o with
  | ages bt as now =>
    have h : as.length = w := h
    show Od.wf w (if (ms || bt) = true then .ages bt (as.set p (now + 1)) (now + 1) else .ages bt as now)
    split
    · show (as.set p (now + 1)).length = w; rw [List.length_set, h]
    · exact h
  | ptrs w' ss =>
    obtain ⟨rfl, h2, h3⟩ := h
    exact ⟨rfl, by rw [ptNote_len, h2], ptNote_le h3⟩
structure PSet where
  pl : List (Option Nat)
  od : Od
instance : Inhabited PSet := ⟨⟨[], .ages false [] 0⟩⟩
def PSet.place (s : PSet) (l : Nat) : Nat := if some l ∈ s.pl then s.pl.idxOf (some l) else if none ∈ s.pl then s.pl.idxOf none else s.od.victim
def PSet.touch (s : PSet) (l : Nat) : PSet := ⟨if some l ∈ s.pl then s.pl else s.pl.set (s.place l) (some l), s.od.note (s.place l) (!decide (some l ∈ s.pl))⟩
def PSet.drop (s : PSet) (l : Nat) : PSet := ⟨if some l ∈ s.pl then s.pl.set (s.pl.idxOf (some l)) none else s.pl, s.od⟩
structure PSet.wf (w k sets : Nat) (s : PSet) : Prop where
  len : s.pl.length = w
  od : s.od.wf w
  inj : ∀ (p q l : Nat), s.pl[p]? = some (some l) → s.pl[q]? = some (some l) → p = q
  own : ∀ (p l : Nat), s.pl[p]? = some (some l) → l % sets = k
theorem idx_get {xs : List (Option Nat)} {x : Option Nat} (h : x ∈ xs) : xs[xs.idxOf x]? = some x ∧ xs.idxOf x < xs.length := by
  have hl := List.idxOf_lt_length_of_mem h
  exact ⟨by rw [List.getElem?_eq_getElem hl, List.getElem_idxOf], hl⟩
section
variable {w k sets l p : Nat} {s : PSet}
theorem PSet.place_lt (h : s.wf w k sets) (hw : WayOk w) : s.place l < w := by
  unfold PSet.place
  split
  · rename_i hm; rw [← h.len]; exact (idx_get hm).2
  · split
    · rename_i hm; rw [← h.len]; exact (idx_get hm).2
    · exact Od.victim_lt hw h.od
theorem PSet.touch_wf (h : s.wf w k sets) (hl : l % sets = k) : (s.touch l).wf w k sets := by
  refine ⟨?_, Od.note_wf h.od, ?_, ?_⟩
  · unfold PSet.touch; simp only []; split <;> simp [h.len]
  · intro p q l' h1 h2
    unfold PSet.touch at h1 h2
    by_cases hm : some l ∈ s.pl
    · simp only [hm, if_true] at h1 h2; exact h.inj p q l' h1 h2
    · simp only [hm, if_false] at h1 h2
      rw [List.getElem?_set] at h1 h2
      split at h1 <;> split at h2
      · omega
      · split at h1
        · cases h1; exact absurd (List.mem_of_getElem? h2) hm
        · cases h1
      · split at h2
        · cases h2; exact absurd (List.mem_of_getElem? h1) hm
        · cases h2
      · exact h.inj p q l' h1 h2
  · intro p l' h1
    unfold PSet.touch at h1
    by_cases hm : some l ∈ s.pl
    · simp only [hm, if_true] at h1; exact h.own p l' h1
    · simp only [hm, if_false] at h1
      rw [List.getElem?_set] at h1
      split at h1
      · split at h1
        · cases h1; exact hl
        · cases h1
      · exact h.own p l' h1
theorem PSet.drop_wf (h : s.wf w k sets) : (s.drop l).wf w k sets := by
  have key : ∀ (p l' : Nat), (s.drop l).pl[p]? = some (some l') → s.pl[p]? = some (some l') := by
    intro p l' h1
    unfold PSet.drop at h1
    simp only [] at h1
    split at h1
    · rw [List.getElem?_set] at h1
      split at h1
      · split at h1 <;> cases h1
      · exact h1
    · exact h1
  refine ⟨?_, h.od, fun p q l' h1 h2 => h.inj p q l' (key _ _ h1) (key _ _ h2), fun p l' h1 => h.own p l' (key _ _ h1)⟩
  unfold PSet.drop; simp only []; split <;> simp [h.len]
end
structure CM where
  sets : Nat
  ways : Nat
  line : Nat
  ps : List PSet
structure CM.wf (m : CM) : Prop where
  len : m.ps.length = m.sets
  s0 : 0 < m.sets
  s1 : m.sets ≤ 64
  w : WayOk m.ways
  l0 : 0 < m.line
  l1 : m.line ≤ 16
  ps : ∀ (k : Nat) (s : PSet), m.ps[k]? = some s → PSet.wf m.ways k m.sets s
def CM.st (m : CM) (l : Nat) : PSet := m.ps.getD (l % m.sets) default
def CM.touch (m : CM) (l : Nat) : CM := { m with ps := m.ps.set (l % m.sets) ((m.st l).touch l) }
def CM.drop (m : CM) (l : Nat) : CM := { m with ps := m.ps.set (l % m.sets) ((m.st l).drop l) }
def CM.has (m : CM) (l : Nat) : Bool := decide (some l ∈ (m.st l).pl)
def CM.At (m : CM) (l p : Nat) : Prop := (m.st l).pl[p]? = some (some l)
section
variable {m : CM} {l p : Nat}
theorem CM.wf.lt (h : m.wf) (l : Nat) : l % m.sets < m.ps.length := by rw [h.len]; exact Nat.mod_lt _ h.s0
theorem CM.wf.st (h : m.wf) (l : Nat) : m.ps[l % m.sets]? = some (m.st l) := by
  unfold CM.st; simp [List.getD, List.getElem?_eq_getElem (h.lt l)]
theorem CM.wf.stw (h : m.wf) (l : Nat) : (m.st l).wf m.ways (l % m.sets) m.sets := h.ps _ _ (h.st l)
theorem CM.wf.set (h : m.wf) {k : Nat} {s : PSet} (hs : PSet.wf m.ways k m.sets s) : CM.wf { m with ps := m.ps.set k s } := by
  refine ⟨by simp [h.len], h.s0, h.s1, h.w, h.l0, h.l1, fun k' s' e => ?_⟩
  simp only [] at e
  rw [List.getElem?_set] at e
  split at e
  · rename_i hk; subst hk
    split at e
    · cases e; exact hs
    · cases e
  · exact h.ps _ _ e
theorem CM.touch_wf (h : m.wf) (l : Nat) : (m.touch l).wf := h.set (PSet.touch_wf (h.stw l) rfl)
theorem CM.drop_wf (h : m.wf) (l : Nat) : (m.drop l).wf := h.set (PSet.drop_wf (h.stw l))
theorem st_set (h : m.wf) (k l : Nat) (s : PSet) : CM.st { m with ps := m.ps.set k s } l = if k = l % m.sets then s else m.st l := by
  unfold CM.st
  simp only []
  by_cases hk : k = l % m.sets
  · rw [if_pos hk, hk]
    have := h.lt l
    simp [List.getD, List.getElem?_set_self this]
  · rw [if_neg hk]; simp [List.getD, List.getElem?_set_ne hk]
end
end Ly
set_option Elab.async false
set_option linter.all false
set_option maxRecDepth 100000
namespace Ly
open PySem PySem.Spec L2
open PyProof.Rows hiding St
local macro_rules | `(tactic| simp_arith [$ls,*]) => `(tactic| simp only [Ly.line_le, Ly.atX_no, Ly.v_ok, Ly.v_bad, Ly.v_bind, Ly.k_bd, Ly.v_at, Ly.v_bin, Ly.k_bi, Ly.k_bi2, Ly.v_var, Ly.v_c, Ly.v_un, Ly.k_un, Ly.v_if, Ly.k_ife, Ly.v_and, Ly.k_and, Ly.k_and2, Ly.v_or, Ly.k_or, Ly.k_or2, Ly.v_tup, Ly.k_tup, Ly.v_lst, Ly.k_lst, Ly.v_call, Ly.k_ca, Ly.v_fn, Ly.k_fn, Ly.v_bm, Ly.k_bm, Ly.k_bm2, Ly.v_sl, Ly.k_sl, Ly.k_sl2, Ly.k_sl3, Ly.v_ixK, Ly.k_ixk, Ly.v_inK, Ly.k_ink, Ly.v_notinK, Ly.k_nink, Ly.v_getK2, Ly.k_gk2, Ly.k_gk, Ly.v_get2, Ly.k_g2, Ly.k_g22, Ly.k_g23, Ly.v_nil, Ly.v_cons, Ly.k_co, Ly.k_co2, Ly.v_no, Ly.v_some, Ly.k_so, Ly.k_cm, Ly.v_cmp, Ly.v_tru, Ly.k_tr, Ly.v_notB, Ly.k_no, Ly.v_andB, Ly.k_an, Ly.v_orB, Ly.k_orb, Ly.v_yes, Ly.v_inKB, Ly.k_inkB, Ly.v_notinKB, Ly.k_ninkB, Ly.v_set, Ly.k_st, Ly.v_expr, Ly.k_ex, Ly.v_ret, Ly.k_re, Ly.v_retN, Ly.v_pass, Ly.v_brk, Ly.v_cnt, Ly.v_seq, Ly.k_sq_nx, Ly.k_sq_rt, Ly.k_sq_bk, Ly.k_sq_ct, Ly.v_ifS, Ly.k_ifs, Ly.v_asg, Ly.k_as, Ly.k_as2, Ly.v_aug, Ly.k_au, Ly.v_for, Ly.k_fo, Ly.v_it, Ly.k_it, Ly.k_ij, Ly.v_rng1, Ly.v_rng2, Ly.v_enum, Ly.v_zip, Ly.v_gN, Ly.v_gsN, Ly.v_gsC, Ly.k_gc, Ly.v_gT, Ly.v_gTw, Ly.v_gSb, Ly.k_gsb, Ly.k_gsb2, Ly.k_gsb3, Ly.k_en_rt, Ly.k_en_nx, Ly.k_tu_nx, Ly.k_tu_ct, Ly.k_tu_bk, Ly.k_tu_rt, Ly.v_lc, Ly.k_lc, Ly.v_augI, Ly.k_ag, Ly.k_ag2, Ly.k_ag3, Ly.k_ag4, Ly.k_ag5, Ly.v_del, Ly.k_dl, Ly.k_dl2, Ly.v_setd, Ly.v_pop2, Ly.k_d3, Ly.k_d32, Ly.k_d33, Ly.v_get1, Ly.k_g1, Ly.k_g12, Ly.v_rg1, Ly.k_rg, Ly.v_rg2, Ly.k_rg2, Ly.k_rg22, Ly.v_dicK, Ly.v_dicT, Ly.v_dc, Ly.k_dc, List.getElem?_cons_zero, List.getElem?_cons_succ, List.set_cons_zero, List.set_cons_succ, List.length_cons, List.length_nil, List.map_cons, List.map_nil, List.cons_append, List.nil_append, List.replicate, if_true, if_false, Bool.false_eq_true, Bool.not_true, Bool.not_false, Bool.true_and, Bool.false_and, decide_true, decide_false, decide_eq_true_eq, Nat.zero_add, Nat.reduceAdd, Nat.reduceLeDiff, true_and, and_true, $ls,*])
noncomputable def ptB___init__ (A P C : Addr) : MS := (mSeq (mFldSet [P] "ways" (mVar 1) (mVar 0))
    (mFldSet [P] "sides" (mBin oMul (mLst (lCons (mC (.int 0)) lNil)) (mVar 1)) (mVar 0)))
noncomputable def ptM___init__ (A P C : Addr) : MD := mDef 2 0 (ptB___init__ A P C)
noncomputable def agB___init__ (A P C : Addr) : MS := (mSeq (mFldSet [A] "ages" (mBin oMul (mLst (lCons (mC (.int 0)) lNil)) (mVar 1)) (mVar 0))
    (mSeq (mFldSet [A] "by_touch" (mVar 2) (mVar 0))
    (mFldSet [A] "now" (mC (.int 0)) (mVar 0))))
noncomputable def agM___init__ (A P C : Addr) : MD := mDef 3 0 (agB___init__ A P C)
noncomputable def caB___init__ (A P C : Addr) : MS := (mSeq (mAsg (mVar 1) (gT 4 (gsC (gN 2) (gsC (gN 3) (gsC (gN 4) (gsC (gN 5) gsN))))))
    (mSeq (mFldSet [C] "sets" (mVar 2) (mVar 0))
    (mSeq (mFldSet [C] "line" (mVar 4) (mVar 0))
    (mSeq (mFldSet [C] "rows" (mLc (mRng1 (lCons (mVar 2) lNil)) (cN 6) mYes (mBin oMul (mLst (lCons (mC .non) lNil)) (mVar 3)) [6]) (mVar 0))
    (mSeq (mFldSet [C] "held" mDicK (mVar 0))
    (mIfS (mCmp oEq (mVar 5) (mC (.str "plru"))) (mFldSet [C] "orders" (mLc (mRng1 (lCons (mVar 2) lNil)) (cN 6) mYes (mMake (P) (ptM___init__ A P C) (lCons (mVar 3) lNil)) [6]) (mVar 0)) (mFldSet [C] "orders" (mLc (mRng1 (lCons (mVar 2) lNil)) (cN 6) mYes (mMake (A) (agM___init__ A P C) (lCons (mVar 3) (lCons (mBin oEq (mVar 5) (mC (.str "lru"))) lNil))) [6]) (mVar 0))))))))
noncomputable def caM___init__ (A P C : Addr) : MD := mDef 2 5 (caB___init__ A P C)
noncomputable def caB_places (A P C : Addr) : MS := (mRet (mCall bTuple (lCons (mBin oIx (mFld [C] "rows" (mVar 0)) (mVar 1)) lNil)))
noncomputable def caM_places (A P C : Addr) : MD := mDef 2 0 (caB_places A P C)
noncomputable def caB_drop (A P C : Addr) : MS := (mSeq (mSet 2 (mBin oFdiv (mVar 1) (mFld [C] "line" (mVar 0))))
    (mSeq (mIfS (mCmp oNotIn (mVar 2) (mFld [C] "held" (mVar 0))) (mRet (mC (.bl false))) mPass)
    (mSeq (mSet 3 (mPop1 (mFld [C] "held" (mVar 0)) (mVar 2)))
    (mSeq (mAsg (mC .non) (gSb (mBin oIx (mFld [C] "rows" (mVar 0)) (mBin oMod (mVar 2) (mFld [C] "sets" (mVar 0)))) (mVar 3)))
    (mRet (mC (.bl true)))))))
noncomputable def caM_drop (A P C : Addr) : MD := mDef 2 2 (caB_drop A P C)
noncomputable def agB_note (A P C : Addr) : MS := (mIfS (mOrB (mTru (mVar 2)) (mTru (mFld [A] "by_touch" (mVar 0)))) (mSeq (mFldAug [A] "now" oIAdd (mVar 0) (mC (.int 1)))
    (mAsg (mFld [A] "now" (mVar 0)) (gSb (mFld [A] "ages" (mVar 0)) (mVar 1)))) mPass)
noncomputable def agM_note (A P C : Addr) : MD := mDef 3 0 (agB_note A P C)
noncomputable def ptC_note_0 (A P C : Addr) : MB := (mCmp oGt (mVar 3) (mC (.int 1)))
noncomputable def ptLB_note_1 (A P C : Addr) : MS := (mSeq (mAsg (mBin oSub (mC (.int 1)) (mBin oAnd (mVar 3) (mC (.int 1)))) (gSb (mFld [P] "sides" (mVar 0)) (mBin oFdiv (mVar 3) (mC (.int 2)))))
    (mSet 3 (mBin oFdiv (mVar 3) (mC (.int 2)))))
noncomputable def ptB_note (A P C : Addr) : MS := (mSeq (mSet 3 (mBin oAdd (mFld [P] "ways" (mVar 0)) (mVar 1)))
    (mWhile (ptC_note_0 A P C) (ptLB_note_1 A P C)))
noncomputable def ptM_note (A P C : Addr) : MD := mDef 3 1 (ptB_note A P C)
noncomputable def agB_victim (A P C : Addr) : MS := (mRet (mBM "list" oIndex (mFld [A] "ages" (mVar 0)) (lCons (mCall bMin (lCons (mFld [A] "ages" (mVar 0)) lNil)) lNil)))
noncomputable def agM_victim (A P C : Addr) : MD := mDef 1 0 (agB_victim A P C)
noncomputable def ptC_victim_0 (A P C : Addr) : MB := (mCmp oLt (mVar 1) (mFld [P] "ways" (mVar 0)))
noncomputable def ptLB_victim_1 (A P C : Addr) : MS := (mSet 1 (mBin oAdd (mBin oMul (mC (.int 2)) (mVar 1)) (mBin oIx (mFld [P] "sides" (mVar 0)) (mVar 1))))
noncomputable def ptB_victim (A P C : Addr) : MS := (mSeq (mSet 1 (mC (.int 1)))
    (mSeq (mWhile (ptC_victim_0 A P C) (ptLB_victim_1 A P C))
    (mRet (mBin oSub (mVar 1) (mFld [P] "ways" (mVar 0))))))
noncomputable def ptM_victim (A P C : Addr) : MD := mDef 1 1 (ptB_victim A P C)
noncomputable def caB_put (A P C : Addr) : MS := (mSeq (mSet 3 (mBin oIx (mFld [C] "rows" (mVar 0)) (mBin oMod (mVar 1) (mFld [C] "sets" (mVar 0)))))
    (mSeq (mIfS (mCmp oIn (mC .non) (mVar 3)) (mSet 4 (mBM "list" oIndex (mVar 3) (lCons (mC .non) lNil))) (mSeq (mSet 4 (mMeth [(A, (agM_victim A P C)), (P, (ptM_victim A P C))] "victim" (mVar 2) lNil))
    (mDel (mFld [C] "held" (mVar 0)) (mBin oIx (mVar 3) (mVar 4)))))
    (mSeq (mAsg (mVar 1) (gSb (mVar 3) (mVar 4)))
    (mAsg (mVar 4) (gSb (mFld [C] "held" (mVar 0)) (mVar 1))))))
noncomputable def caM_put (A P C : Addr) : MD := mDef 3 2 (caB_put A P C)
noncomputable def caB_touch (A P C : Addr) : MS := (mSeq (mSet 2 (mBin oFdiv (mVar 1) (mFld [C] "line" (mVar 0))))
    (mSeq (mSet 3 (mBin oIx (mFld [C] "orders" (mVar 0)) (mBin oMod (mVar 2) (mFld [C] "sets" (mVar 0)))))
    (mSeq (mSet 4 (mBin oIn (mVar 2) (mFld [C] "held" (mVar 0))))
    (mSeq (mIfS (mNotB (mTru (mVar 4))) (mExpr (mMeth [(C, (caM_put A P C))] "put" (mVar 0) (lCons (mVar 2) (lCons (mVar 3) lNil)))) mPass)
    (mSeq (mExpr (mMeth [(A, (agM_note A P C)), (P, (ptM_note A P C))] "note" (mVar 3) (lCons (mBin oIx (mFld [C] "held" (mVar 0)) (mVar 2)) (lCons (mUn oNot (mVar 4)) lNil))))
    (mRet (mVar 4)))))))
noncomputable def caM_touch (A P C : Addr) : MD := mDef 2 3 (caB_touch A P C)
def plD : Option Nat → D
  | none => .non
  | some l => nD l
def agF (b : Nat) (bt : Bool) (now : Nat) : List (Str × D) := [("ages", .ref b), ("by_touch", .bl bt), ("now", nD now)]
def ptF (w b : Nat) : List (Str × D) := [("ways", nD w), ("sides", .ref b)]
def caF (sets line rr hh oo : Nat) : List (Str × D) := [("sets", nD sets), ("line", nD line), ("rows", .ref rr), ("held", .ref hh), ("orders", .ref oo)]
section
variable {b now w sets line rr hh oo : Nat} {bt : Bool}
theorem agF_ages : (agF b bt now).lookup ("ages" : Str) = some (.ref b) := by simp [agF, List.lookup, beq_lit]
theorem agF_bt : (agF b bt now).lookup ("by_touch" : Str) = some (.bl bt) := by simp [agF, List.lookup, beq_lit]
theorem agF_now : (agF b bt now).lookup ("now" : Str) = some (nD now) := by simp [agF, List.lookup, beq_lit]
theorem agF_set {x : Nat} : putD "now" (nD x) (agF b bt now) = agF b bt x := by simp [agF, putD, ofString_inj]
theorem agF_len : (agF b bt now).length < 1000 := by simp [agF]
theorem ptF_ways : (ptF w b).lookup ("ways" : Str) = some (nD w) := by simp [ptF, List.lookup, beq_lit]
theorem ptF_sides : (ptF w b).lookup ("sides" : Str) = some (.ref b) := by simp [ptF, List.lookup, beq_lit]
theorem caF_sets : (caF sets line rr hh oo).lookup ("sets" : Str) = some (nD sets) := by simp [caF, List.lookup, beq_lit]
theorem caF_line : (caF sets line rr hh oo).lookup ("line" : Str) = some (nD line) := by simp [caF, List.lookup, beq_lit]
theorem caF_rows : (caF sets line rr hh oo).lookup ("rows" : Str) = some (.ref rr) := by simp [caF, List.lookup, beq_lit]
theorem caF_held : (caF sets line rr hh oo).lookup ("held" : Str) = some (.ref hh) := by simp [caF, List.lookup, beq_lit]
theorem caF_orders : (caF sets line rr hh oo).lookup ("orders" : Str) = some (.ref oo) := by simp [caF, List.lookup, beq_lit]
end
def OdAt (S : Hs) (A P : Addr) (a b : Nat) : Od → Prop
  | .ages bt as now => S[a]? = some (.ins A (agF b bt now)) ∧ S[b]? = some (.lst (as.map nD))
  | .ptrs w ss => S[a]? = some (.ins P (ptF w b)) ∧ S[b]? = some (.lst (ss.map nD))
section
variable {S : Hs} {A P C : Addr} {a b p w : Nat} {o : Od} {ms : Bool} {X : XP}
theorem OdAt.kp {S' : Hs} {B : List Nat} (h : OdAt S A P a b o) (k : Kp B S S') (ha : a ∉ B) (hb : b ∉ B) : OdAt S' A P a b o := by
  cases o <;> exact ⟨k.get h.1 ha, k.get h.2 hb⟩
theorem OdAt.lt (h : OdAt S A P a b o) : a < S.length ∧ b < S.length := by cases o <;> exact ⟨Real.lt h.1, Real.lt h.2⟩
theorem OdAt.ne (h : OdAt S A P a b o) : a ≠ b := by
  intro e; subst e
  cases o <;> (have h1 := h.1; rw [h.2] at h1; cases h1)
theorem me_od (hAP : A ≠ P) (h : OdAt S A P a b o) {nm : String} (hn : nm = "note" ∨ nm = "victim") {m1 m2 : MD} {g : ML} {l : Ls} {Q : D → Hs → Prop} : meK X [(A, m1), (P, m2)] (Str.ofString nm) g l Q (.ref a) S = Wp X (g l S) (meK2 X (o.pick m1 m2) a l Q) := by
  cases o with
  | ages bt as now =>
    have e : (agF b bt now).lookup (Str.ofString nm) = none := by rcases hn with rfl | rfl <;> simp [agF, List.lookup, beq_lit]
    rw [k_me h.1, look1]; simp only [e, true_and, Od.pick]
  | ptrs w ss =>
    have e : (ptF w b).lookup (Str.ofString nm) = none := by rcases hn with rfl | rfl <;> simp [ptF, List.lookup, beq_lit]
    have e2 : (P == A) = false := by simpa using Ne.symm hAP
    rw [k_me h.1, List.lookup_cons, e2]; simp only [look1, e, true_and, Od.pick]
theorem set_lst {S : Hs} {q : Nat} {xs : List D} {k : Nat} {d : D} (h : S[q]? = some (.lst xs)) (hk : k < xs.length) : oSet (.ref q) (nD k) d S = .ok () (S.set q (.lst (xs.set k d))) := by
  have e1 : ixN xs.length (k : Int) = some k := by
    unfold ixN
    rw [if_pos (by omega), if_pos (by omega)]; rfl
  simp only [oSet, h, e1]
theorem note_ok (h : OdAt S A P a b o) (hw : o.wf w) (hp : p < w) : Wp NoX (o.pick (agM_note A P C) (ptM_note A P C) [.ref a, nD p, .bl ms] S) fun v S' => v = .non ∧ OdAt S' A P a b (o.note p ms) ∧ Kp [a, b] S S' ∧ S'.length = S.length := by
  have hne := h.ne
  cases o with
  | ages bt as now =>
    have hl : as.length = w := hw
    show Wp NoX (agM_note A P C [.ref a, nD p, .bl ms] S) _
    refine wp_def0 rfl ?_
    unfold agB_note
    have hfin : (ms || bt) = true → Wp NoX (mSeq (mFldAug [A] "now" oIAdd (mVar 0) (mC (.int 1))) (mAsg (mFld [A] "now" (mVar 0)) (gSb (mFld [A] "ages" (mVar 0)) (mVar 1))) [some (.ref a), some (nD p), some (.bl ms)] S) (enK fun v S' => v = .non ∧ OdAt S' A P a b (Od.note (.ages bt as now) p ms) ∧ Kp [a, b] S S' ∧ S'.length = S.length) := by
      intro hc
      have e1 : (now : Int) + 1 = ((now + 1 : Nat) : Int) := by omega
      have g1 : (S.set a (.ins A (agF b bt (now + 1))))[a]? = some (.ins A (agF b bt (now + 1))) := get_put h.1
      have g2 : (S.set a (.ins A (agF b bt (now + 1))))[b]? = some (.lst (as.map nD)) := by rw [List.getElem?_set_ne hne]; exact h.2
      simp_arith [Ly.v_fld, Ly.v_meth, Ly.k_me2, Ly.v_make, Ly.k_mk, Ly.v_fldset, Ly.k_fs, Ly.v_fldaug, Ly.k_fa2, Ly.look1, List.mem_cons, List.not_mem_nil, or_false, true_or, or_true, k_fa h.1, agF_now, show ∀ (x y : Int) S, oIAdd (.int x) (.int y) S = .ok (.int (x + y)) S from fun _ _ _ => rfl, e1, k_fa3 h.1, agF_len, agF_set, k_fl g1, agF_now, agF_ages, set_lst (k := p) g2 (by simp; omega)]
      refine ⟨?_, (Kp.set (by simp)).setIn (by simp), by simp⟩
      have e : Od.note (.ages bt as now) p ms = .ages bt (as.set p (now + 1)) (now + 1) := by simp only [Od.note]; rw [if_pos hc]
      rw [e]
      exact ⟨by rw [List.getElem?_set_ne (Ne.symm hne)]; exact g1, by rw [get_put g2, List.map_set]⟩
    cases ms with
    | true => simp_arith [Ly.v_fld, Ly.v_meth, Ly.k_me2, Ly.v_make, Ly.k_mk, Ly.v_fldset, Ly.k_fs, Ly.v_fldaug, Ly.k_fa2, Ly.look1, List.mem_cons, List.not_mem_nil, or_false, true_or, or_true, oTru_bl, -v_fldaug, -v_seq]; exact hfin rfl
    | false =>
      cases bt with
      | true => simp_arith [Ly.v_fld, Ly.v_meth, Ly.k_me2, Ly.v_make, Ly.k_mk, Ly.v_fldset, Ly.k_fs, Ly.v_fldaug, Ly.k_fa2, Ly.look1, List.mem_cons, List.not_mem_nil, or_false, true_or, or_true, oTru_bl, k_fl h.1, agF_bt, -v_fldaug, -v_seq]; exact hfin rfl
      | false =>
        simp_arith [Ly.v_fld, Ly.v_meth, Ly.k_me2, Ly.v_make, Ly.k_mk, Ly.v_fldset, Ly.k_fs, Ly.v_fldaug, Ly.k_fa2, Ly.look1, List.mem_cons, List.not_mem_nil, or_false, true_or, or_true, oTru_bl, k_fl h.1, agF_bt, -v_fldaug, -v_seq]
        exact ⟨h, Kp.refl⟩
  | ptrs w' ss =>
    obtain ⟨rfl, hl, hs⟩ := hw
    show Wp NoX (ptM_note A P C [.ref a, nD p, .bl ms] S) _
    refine wp_def0 rfl ?_
    unfold ptB_note
    have e1 : (w' : Int) + (p : Int) = ((w' + p : Nat) : Int) := by omega
    simp_arith [Ly.v_fld, Ly.v_meth, Ly.k_me2, Ly.v_make, Ly.k_mk, Ly.v_fldset, Ly.k_fs, Ly.v_fldaug, Ly.k_fa2, Ly.look1, List.mem_cons, List.not_mem_nil, or_false, true_or, or_true, k_fl h.1, ptF_ways, oAdd_int, e1]
    refine wp_while (fun m l S' => ∃ (node : Nat) (ss' : List Nat), l = [some (.ref a), some (nD p), some (.bl ms), some (nD node)] ∧ node < 2 * w' ∧ OdAt S' A P a b (.ptrs w' ss') ∧ ss'.length = w' ∧ ptNote ss' node = ptNote ss (w' + p) ∧ Kp [a, b] S S' ∧ S'.length = S.length ∧ m = node) ?_ _ _ _ ⟨w' + p, ss, rfl, by omega, h, hl, rfl, Kp.refl, rfl, rfl⟩
    rintro m l S' ⟨node, ss', rfl, hn, hO, hl', hE, hK, hL, hm⟩
    unfold ptC_note_0 ptLB_note_1
    by_cases hc : 1 < node
    · have b1 : Builtin.bitAnd (node : Int) 1 = ((node % 2 : Nat) : Int) := by
        have := PySem.W.os_band node 1
        simpa [Nat.and_one_is_mod] using this
      have e2 : (node : Int) / 2 = ((node / 2 : Nat) : Int) := by omega
      have e3 : (1 : Int) - ((node % 2 : Nat) : Int) = ((1 - node % 2 : Nat) : Int) := by omega
      simp_arith [Ly.v_fld, Ly.v_meth, Ly.k_me2, Ly.v_make, Ly.k_mk, Ly.v_fldset, Ly.k_fs, Ly.v_fldaug, Ly.k_fa2, Ly.look1, List.mem_cons, List.not_mem_nil, or_false, true_or, or_true, oGt_int, show (1 : Int) < (node : Int) by omega, oAnd_int, b1, oSub_int, e3, k_fl hO.1, ptF_sides, oFdiv_int (show (0:Int) < 2 by decide) (show Nat.log2 2 < 9000 by decide), e2, set_lst hO.2 (show node / 2 < (ss'.map nD).length by simp; omega)]
      refine ⟨node / 2, by omega, node / 2, ss'.set (node / 2) (1 - node % 2), rfl, by omega, ⟨by rw [List.getElem?_set_ne (Ne.symm hne)]; exact hO.1, by rw [get_put hO.2, List.map_set]⟩, by simp [hl'], ?_, hK.setIn (by simp), by simp [hL], rfl⟩
      rw [← hE]; conv => rhs; rw [ptNote]
      rw [dif_pos hc]
    · simp_arith [Ly.v_fld, Ly.v_meth, Ly.k_me2, Ly.v_make, Ly.k_mk, Ly.v_fldset, Ly.k_fs, Ly.v_fldaug, Ly.k_fa2, Ly.look1, List.mem_cons, List.not_mem_nil, or_false, true_or, or_true, oGt_int, show ¬ (1 : Int) < (node : Int) by omega]
      refine ⟨?_, hK, hL⟩
      have : ptNote ss (w' + p) = ss' := by rw [← hE, ptNote, dif_neg hc]
      show OdAt S' A P a b (.ptrs w' (ptNote ss (w' + p)))
      rw [this]; exact hO
end
section
variable {S : Hs} {A P C : Addr} {a b p w : Nat} {o : Od} {ms : Bool} {X : XP}
theorem ix_lst {α : Type} {f : α → D} {xs : List α} {x : α} {q k : Nat} (h : S[q]? = some (.lst (xs.map f))) (hk : xs[k]? = some x) : oIx (.ref q) (nD k) S = .ok (f x) S := by
  have hl := (List.getElem?_eq_some_iff.mp hk).1
  exact oIx_lst h (by omega) (by simpa using hl) (by simp [hk])
theorem leastI_spec : ∀ (x : Int) (xs : List Int), leastI x xs ∈ x :: xs ∧ ∀ y ∈ x :: xs, leastI x xs ≤ y
  | x, [] => by simp [leastI]
  | x, y :: ys => by
    have ih := leastI_spec (if y < x then y else x) ys
    have e : leastI x (y :: ys) = leastI (if y < x then y else x) ys := rfl
    rw [e]
    refine ⟨?_, fun z hz => ?_⟩
    · rcases List.mem_cons.mp ih.1 with h | h
      · rw [h]; split <;> simp
      · exact List.mem_cons_of_mem _ (List.mem_cons_of_mem _ h)
    · have h0 := ih.2 (if y < x then y else x) (by simp)
      have ih2 := ih.2
      clear ih e
      generalize leastI (if y < x then y else x) ys = L at h0 ih2 ⊢
      rcases List.mem_cons.mp hz with rfl | hz
      · split at h0 <;> omega
      · rcases List.mem_cons.mp hz with rfl | hz
        · split at h0 <;> omega
        · exact ih2 z (by simp [hz])
theorem bMin_nats {as : List Nat} (h : S[b]? = some (.lst (as.map nD))) (h0 : 0 < as.length) : ∃ m : Nat, bMin [.ref b] S = .ok (nD m) S ∧ m ∈ as ∧ ∀ z ∈ as, m ≤ z := by
  cases as with
  | nil => simp at h0
  | cons x xs =>
    have hi : ∀ ys : List Nat, intsD (ys.map nD) = some (ys.map fun (z : Nat) => (z : Int)) := by
      intro ys
      induction ys with
      | nil => rfl
      | cons y ys ih => simp [intsD, nD, ih]
    have hs := leastI_spec (x : Int) (xs.map fun (z : Nat) => (z : Int))
    generalize hm : leastI (x : Int) (xs.map fun (z : Nat) => (z : Int)) = m at hs
    have e1 : (seqD (.ref b) S).bind intsD = some ((x : Int) :: xs.map fun (z : Nat) => (z : Int)) := by
      simp only [seqD, h, Option.bind_some, hi]; rfl
    have hmem : m ∈ ((x :: xs).map fun (z : Nat) => (z : Int)) := by simpa using hs.1
    obtain ⟨mn, hmn, rfl⟩ := List.mem_map.mp hmem
    refine ⟨mn, ?_, hmn, fun z hz => ?_⟩
    · simp only [bMin, e1, hm]
    · have := hs.2 (z : Int) (by
        have : (z : Int) ∈ ((x :: xs).map fun (z : Nat) => (z : Int)) := List.mem_map.mpr ⟨z, hz, rfl⟩
        simpa using this)
      omega
theorem oIndex_nats {as : List Nat} {m j : Nat} (h : S[b]? = some (.lst (as.map nD))) (hj : as[j]? = some m) (hn : ∀ i, i < j → as[i]? ≠ some m) : oIndex (.ref b) [nD m] S = .ok (nD j) S := by
  have hf : (flatD (nD m) && (as.map nD).all flatD) = true := by
    simp only [List.all_map, Bool.and_eq_true]
    exact ⟨rfl, List.all_eq_true.mpr fun _ _ => rfl⟩
  have hix : (as.map nD).findIdx? (fun z => eqF z (nD m)) = some j := by
    rw [List.findIdx?_eq_some_iff_getElem]
    obtain ⟨hl, e⟩ := List.getElem?_eq_some_iff.mp hj
    refine ⟨by simpa using hl, by simp [eqF, nD, e], fun i hi => ?_⟩
    have hil : i < as.length := by omega
    have := hn i hi
    rw [List.getElem?_eq_getElem hil] at this
    simp [eqF, nD]
    intro e2
    exact this (by rw [show as[i] = m by omega])
  simp only [oIndex, h, hf, if_true, hix]
theorem victim_ok (h : OdAt S A P a b o) (hw : o.wf w) (hW : WayOk w) : Wp NoX (o.pick (agM_victim A P C) (ptM_victim A P C) [.ref a] S) fun v S' => v = nD o.victim ∧ S' = S := by
  cases o with
  | ages bt as now =>
    have hl : as.length = w := hw
    show Wp NoX (agM_victim A P C [.ref a] S) _
    refine wp_def0 rfl ?_
    unfold agB_victim
    obtain ⟨m, e1, e2, e3⟩ := bMin_nats h.2 (by rw [hl]; exact hW.pos)
    obtain ⟨hv, h4, h5⟩ := vicA_spec (as := as) (by rw [hl]; exact hW.pos)
    have e4 : as[vicA as] = m := Nat.le_antisymm (h4 m e2) (e3 _ (List.getElem_mem hv))
    have e5 := oIndex_nats (m := m) (j := vicA as) h.2 (by rw [List.getElem?_eq_getElem hv, e4]) (fun i hi => by
      have hil : i < as.length := by omega
      obtain ⟨z, hz, hlt⟩ := h5 i hi hil
      have := e3 z hz
      rw [List.getElem?_eq_getElem hil]
      intro e; cases e; omega)
    simp_arith [Ly.v_fld, Ly.v_meth, Ly.k_me2, Ly.v_make, Ly.k_mk, Ly.v_fldset, Ly.k_fs, Ly.v_fldaug, Ly.k_fa2, Ly.look1, List.mem_cons, List.not_mem_nil, or_false, true_or, or_true, k_fl h.1, agF_ages, hasTy_lst h.2, e1, e5]
    rfl
  | ptrs w' ss =>
    obtain ⟨rfl, hl, hs⟩ := hw
    obtain ⟨e, he, rfl⟩ := hW
    show Wp NoX (ptM_victim A P C [.ref a] S) _
    refine wp_def0 rfl ?_
    unfold ptB_victim
    simp_arith [Ly.v_fld, Ly.v_meth, Ly.k_me2, Ly.v_make, Ly.k_mk, Ly.v_fldset, Ly.k_fs, Ly.v_fldaug, Ly.k_fa2, Ly.look1, List.mem_cons, List.not_mem_nil, or_false, true_or, or_true]
    refine wp_while (fun m l S' => ∃ node i : Nat, l = [some (.ref a), some (nD node)] ∧ S' = S ∧ 2 ^ i ≤ node ∧ i + m = e + 1 ∧ (i ≤ e) ∧ ptGo (2 ^ e) ss 4 1 = ptGo (2 ^ e) ss m node) ?_ (e + 1) _ _ ⟨1, 0, rfl, rfl, by decide, by omega, by omega, ptGo_more hs rfl (e + 1) 4 0 1 (by omega) (by omega) (by decide)⟩
    rintro m l S' ⟨node, i, rfl, rfl, hn, hm, hi, hE⟩
    unfold ptC_victim_0 ptLB_victim_1
    cases m with
    | zero => omega
    | succ m =>
    by_cases hc : node < 2 ^ e
    · have hx : oIx (.ref b) (nD node) S' = .ok (nD (ss.getD node 0)) S' := ix_lst h.2 (by simp [List.getD, List.getElem?_eq_getElem (show node < ss.length by omega)])
      have e2 : (2 : Int) * (node : Int) + ((ss.getD node 0 : Nat) : Int) = ((2 * node + ss.getD node 0 : Nat) : Int) := by omega
      have hie : i < e := by
        rcases Nat.lt_or_ge i e with h5 | h5
        · exact h5
        · have : i = e := by omega
          subst this; omega
      simp_arith [Ly.v_fld, Ly.v_meth, Ly.k_me2, Ly.v_make, Ly.k_mk, Ly.v_fldset, Ly.k_fs, Ly.v_fldaug, Ly.k_fa2, Ly.look1, List.mem_cons, List.not_mem_nil, or_false, true_or, or_true, k_fl h.1, ptF_ways, oLt_int, show (node : Int) < ((2 ^ e : Nat) : Int) by omega, ptF_sides, hx, oMul_int (mulok_l (show Int.natAbs 2 < 2 ^ 64 by decide)), oAdd_int, e2]
      refine ⟨m, by omega, 2 * node + ss.getD node 0, i + 1, rfl, by rw [Nat.pow_succ]; omega, by omega, by omega, ?_⟩
      rw [hE, ptGo, if_pos hc]
    · have e3 : (node : Int) - ((2 ^ e : Nat) : Int) = ((node - 2 ^ e : Nat) : Int) := by omega
      simp_arith [Ly.v_fld, Ly.v_meth, Ly.k_me2, Ly.v_make, Ly.k_mk, Ly.v_fldset, Ly.k_fs, Ly.v_fldaug, Ly.k_fa2, Ly.look1, List.mem_cons, List.not_mem_nil, or_false, true_or, or_true, k_fl h.1, ptF_ways, oLt_int, show ¬ (node : Int) < ((2 ^ e : Nat) : Int) by omega, oSub_int, e3]
      show _ = nD (ptGo (2 ^ e) ss 4 1)
      rw [hE, ptGo, if_neg hc]
end
def kvD (x : Nat × Nat) : Key × D := (.inl (x.1 : Int), nD x.2)
section
variable {hl : List (Nat × Nat)} {l p : Nat}
theorem kv_get : getK (hl.map kvD) (.inl (l : Int)) = (hl.lookup l).map nD := by
  induction hl with
  | nil => rfl
  | cons x hl ih =>
    obtain ⟨x1, x2⟩ := x
    unfold getK at ih ⊢
    rw [List.map_cons, List.find?_cons, List.lookup_cons]
    by_cases h : x1 = l
    · have h1 : decide ((kvD (x1, x2)).1 = (Sum.inl (l : Int) : Key)) = true := by simp [kvD, h]
      have h2 : (l == x1) = true := by simp [h]
      rw [h1, h2]; rfl
    · have h1 : decide ((kvD (x1, x2)).1 = (Sum.inl (l : Int) : Key)) = false := by
        rw [decide_eq_false_iff_not]; intro e; have := Sum.inl.inj e; omega
      have h2 : (l == x1) = false := by simp; omega
      rw [h1, h2]; exact ih
theorem kv_set (h : ∀ q, (l, q) ∉ hl) : setK (hl.map kvD) (.inl (l : Int)) (nD p) = (hl ++ [(l, p)]).map kvD := by
  unfold setK
  rw [if_neg]
  · simp [kvD]
  · simp only [List.any_map, List.any_eq_true, not_exists, not_and]
    intro x hx
    simp only [kvD, Function.comp, decide_eq_true_eq]
    intro e
    have e2 : x.1 = l := by have := Sum.inl.inj (of_decide_eq_true e); omega
    exact h x.2 (by rw [← e2]; exact hx)
theorem kv_drop : dropD (hl.map kvD) (.inl (l : Int)) = (hl.filter fun x => decide (x.1 ≠ l)).map kvD := by
  unfold dropD
  rw [List.filter_map]
  congr 1
  refine List.filter_congr fun x _ => ?_
  refine decide_eq_decide.mpr ⟨fun h e => h (by simp only [kvD]; rw [e]), fun h e => h ?_⟩
  have := Sum.inl.inj e; omega
theorem look_mem (hn : (hl.map (·.1)).Nodup) : hl.lookup l = some p ↔ (l, p) ∈ hl := by
  induction hl with
  | nil => simp
  | cons x hl ih =>
    obtain ⟨x1, x2⟩ := x
    simp only [List.map_cons, List.nodup_cons] at hn
    rw [List.lookup_cons]
    by_cases h : l = x1
    · have h2 : (l == x1) = true := by simp [h]
      rw [h2]
      constructor
      · intro e; cases e; rw [h]; simp
      · intro e
        rcases List.mem_cons.mp e with e | e
        · cases e; rfl
        · exact absurd (List.mem_map.mpr ⟨(l, p), e, rfl⟩) (by rw [h]; exact hn.1)
    · have h2 : (l == x1) = false := by simpa using h
      rw [h2]
      show List.lookup l hl = some p ↔ _
      rw [ih hn.2]
      constructor
      · intro e; exact List.mem_cons_of_mem _ e
      · intro e
        rcases List.mem_cons.mp e with e | e
        · cases e; exact absurd rfl h
        · exact e
end
structure Held (hl : List (Nat × Nat)) (m : CM) : Prop where
  nd : (hl.map (·.1)).Nodup
  iff : ∀ l p, (l, p) ∈ hl ↔ m.At l p
theorem Held.len {hl : List (Nat × Nat)} {m : CM} (h : Held hl m) (w : m.wf) : hl.length ≤ 512 := by
  have hinj : (hl.map fun x => (x.1 % m.sets) * 8 + x.2).Nodup := by
    have hnd2 : hl.Nodup := by
      have := h.nd
      rw [List.nodup_iff_pairwise_ne, List.pairwise_map] at this
      exact this.imp fun hne e => hne (by rw [e])
    rw [List.nodup_iff_pairwise_ne, List.pairwise_map]
    rw [List.nodup_iff_pairwise_ne] at hnd2
    refine hnd2.imp_of_mem ?_
    intro a b ha hb hne e
    have h1 := (h.iff a.1 a.2).mp ha
    have h2 := (h.iff b.1 b.2).mp hb
    have l1 : a.2 < 8 := by
      have := (List.getElem?_eq_some_iff.mp h1).1
      rw [(w.stw a.1).len] at this
      have := w.w.le; omega
    have l2 : b.2 < 8 := by
      have := (List.getElem?_eq_some_iff.mp h2).1
      rw [(w.stw b.1).len] at this
      have := w.w.le; omega
    have e1 : a.1 % m.sets = b.1 % m.sets := by omega
    have e2 : a.2 = b.2 := by omega
    have e3 : m.st a.1 = m.st b.1 := by unfold CM.st; rw [e1]
    unfold CM.At at h1 h2
    rw [e3, e2, h2] at h1
    have e4 : a.1 = b.1 := by injection h1 with h1; injection h1 with h1; exact h1.symm
    exact hne (Prod.ext e4 e2)
  have := nodup_len hinj (n := 512) (by
    intro x hx
    obtain ⟨a, ha, rfl⟩ := List.mem_map.mp hx
    have h1 := (h.iff a.1 a.2).mp ha
    have l1 : a.2 < 8 := by
      have := (List.getElem?_eq_some_iff.mp h1).1
      rw [(w.stw a.1).len] at this
      have := w.w.le; omega
    have := Nat.mod_lt a.1 w.s0
    have := w.s1
    omega)
  simpa using this
structure CAd where
  c : Nat
  rr : Nat
  hh : Nat
  oo : Nat
  ra : List Nat
  oa : List Nat
  ob : List Nat
def CAd.fp (d : CAd) : List Nat := d.c :: d.rr :: d.hh :: d.oo :: (d.ra ++ (d.oa ++ d.ob))
structure Ca (S : Hs) (A P C : Addr) (m : CM) (d : CAd) : Prop where
  wf : m.wf
  ap : A ≠ P
  o : S[d.c]? = some (.ins C (caF m.sets m.line d.rr d.hh d.oo))
  rr : S[d.rr]? = some (.lst (d.ra.map .ref))
  oo : S[d.oo]? = some (.lst (d.oa.map .ref))
  la : d.ra.length = m.sets ∧ d.oa.length = m.sets ∧ d.ob.length = m.sets
  row : ∀ (k : Nat) (s : PSet), m.ps[k]? = some s → ∃ a, d.ra[k]? = some a ∧ S[a]? = some (.lst (s.pl.map plD))
  ord : ∀ (k : Nat) (s : PSet), m.ps[k]? = some s → ∃ a b, d.oa[k]? = some a ∧ d.ob[k]? = some b ∧ OdAt S A P a b s.od
  hd : ∃ hl, S[d.hh]? = some (.dic (hl.map kvD)) ∧ Held hl m
  nd : d.fp.Nodup
section
variable {S S' : Hs} {A P C : Addr} {m : CM} {d : CAd} {B : List Nat}
theorem Ca.lt (h : Ca S A P C m d) : d.c < S.length := Real.lt h.o
theorem fp_ne {i j x y : Nat} (nd : d.fp.Nodup) (hx : d.fp[i]? = some x) (hy : d.fp[j]? = some y) (h : i ≠ j) : x ≠ y := by
  intro e; subst e
  have hi := (List.getElem?_eq_some_iff.mp hx).1
  exact h ((List.getElem?_inj hi nd).mp (hx.trans hy.symm))
theorem fp_ra {k x : Nat} (h : d.ra[k]? = some x) : d.fp[4 + k]? = some x := by
  have hk := (List.getElem?_eq_some_iff.mp h).1
  rw [show 4 + k = k + 4 by omega]
  simp only [CAd.fp, List.getElem?_cons_succ]
  rw [List.getElem?_append_left hk, h]
theorem fp_oa {k x : Nat} (h : d.oa[k]? = some x) : d.fp[4 + d.ra.length + k]? = some x := by
  have hk := (List.getElem?_eq_some_iff.mp h).1
  rw [show 4 + d.ra.length + k = (d.ra.length + k) + 4 by omega]
  simp only [CAd.fp, List.getElem?_cons_succ]
  rw [List.getElem?_append_right (by omega), show d.ra.length + k - d.ra.length = k by omega, List.getElem?_append_left hk, h]
theorem fp_ob {k x : Nat} (h : d.ob[k]? = some x) : d.fp[4 + d.ra.length + d.oa.length + k]? = some x := by
  rw [show 4 + d.ra.length + d.oa.length + k = (d.ra.length + (d.oa.length + k)) + 4 by omega]
  simp only [CAd.fp, List.getElem?_cons_succ]
  rw [List.getElem?_append_right (by omega), List.getElem?_append_right (by omega), show d.ra.length + (d.oa.length + k) - d.ra.length - d.oa.length = k by omega, h]
theorem fp_mem {i x : Nat} (h : d.fp[i]? = some x) : x ∈ d.fp := List.mem_of_getElem? h
theorem Ca.kp (h : Ca S A P C m d) (k : Kp B S S') (hB : ∀ x ∈ d.fp, x ∉ B) : Ca S' A P C m d := by
  refine ⟨h.wf, h.ap, k.get h.o (hB _ (by simp [CAd.fp])), k.get h.rr (hB _ (by simp [CAd.fp])), k.get h.oo (hB _ (by simp [CAd.fp])), h.la, fun i s hs => ?_, fun i s hs => ?_, ?_, h.nd⟩
  · obtain ⟨a, e, g⟩ := h.row i s hs
    exact ⟨a, e, k.get g (hB _ (fp_mem (fp_ra e)))⟩
  · obtain ⟨a, b, e1, e2, g⟩ := h.ord i s hs
    exact ⟨a, b, e1, e2, g.kp k (hB _ (fp_mem (fp_oa e1))) (hB _ (fp_mem (fp_ob e2)))⟩
  · obtain ⟨hl, g, e⟩ := h.hd
    exact ⟨hl, k.get g (hB _ (by simp [CAd.fp])), e⟩
theorem Ca.upd (h : Ca S A P C m d) {k r a b : Nat} {s' : PSet} {hl : List (Nat × Nat)} (hw : s'.wf m.ways k m.sets) (e1 : d.ra[k]? = some r) (e2 : d.oa[k]? = some a) (e3 : d.ob[k]? = some b) (kp : Kp [r, d.hh, a, b] S S')
    (gr : S'[r]? = some (.lst (s'.pl.map plD))) (go : OdAt S' A P a b s'.od) (gh : S'[d.hh]? = some (.dic (hl.map kvD))) (hH : Held hl { m with ps := m.ps.set k s' }) : Ca S' A P C { m with ps := m.ps.set k s' } d := by
  obtain ⟨la, lb, lc⟩ := h.la
  have hk : k < m.sets := by rw [← la]; exact (List.getElem?_eq_some_iff.mp e1).1
  have nd := h.nd
  have f0 : d.fp[0]? = some d.c := rfl
  have f1 : d.fp[1]? = some d.rr := rfl
  have f2 : d.fp[2]? = some d.hh := rfl
  have f3 : d.fp[3]? = some d.oo := rfl
  have fr := fp_ra e1
  have fa := fp_oa e2
  have fb := fp_ob e3
  have out : ∀ i x, d.fp[i]? = some x → i ≠ 2 → i ≠ 4 + k → i ≠ 4 + d.ra.length + k → i ≠ 4 + d.ra.length + d.oa.length + k → x ∉ [r, d.hh, a, b] := by
    intro i x hx h1 h2 h3 h4
    simp only [List.mem_cons, List.not_mem_nil, or_false, not_or]
    exact ⟨fp_ne nd hx fr h2, fp_ne nd hx f2 h1, fp_ne nd hx fa h3, fp_ne nd hx fb h4⟩
  refine ⟨h.wf.set hw, h.ap, kp.get h.o (out 0 _ f0 (by omega) (by omega) (by omega) (by omega)), kp.get h.rr (out 1 _ f1 (by omega) (by omega) (by omega) (by omega)), kp.get h.oo (out 3 _ f3 (by omega) (by omega) (by omega) (by omega)), h.la, fun i s hs => ?_, fun i s hs => ?_, ⟨hl, gh, hH⟩, nd⟩
  · simp only [] at hs
    rw [List.getElem?_set] at hs
    split at hs
    · rename_i hik; subst hik
      split at hs
      · cases hs; exact ⟨r, e1, gr⟩
      · cases hs
    · rename_i hik
      obtain ⟨x, ex, gx⟩ := h.row i s hs
      have hil := (List.getElem?_eq_some_iff.mp ex).1
      exact ⟨x, ex, kp.get gx (out _ _ (fp_ra ex) (by omega) (by omega) (by omega) (by omega))⟩
  · simp only [] at hs
    rw [List.getElem?_set] at hs
    split at hs
    · rename_i hik; subst hik
      split at hs
      · cases hs; exact ⟨a, b, e2, e3, go⟩
      · cases hs
    · rename_i hik
      obtain ⟨x, y, ex, ey, gx⟩ := h.ord i s hs
      have hil := (List.getElem?_eq_some_iff.mp ex).1
      have hjl := (List.getElem?_eq_some_iff.mp ey).1
      exact ⟨x, y, ex, ey, gx.kp kp (out _ _ (fp_oa ex) (by omega) (by omega) (by omega) (by omega)) (out _ _ (fp_ob ey) (by omega) (by omega) (by omega) (by omega))⟩
theorem Held.after {hl : List (Nat × Nat)} (h : Held hl m) (w : m.wf) {k : Nat} {s' : PSet} {hl' : List (Nat × Nat)} (hn : (hl'.map (·.1)).Nodup)
    (hi : ∀ l p, l % m.sets = k → ((l, p) ∈ hl' ↔ s'.pl[p]? = some (some l))) (ho : ∀ l p, l % m.sets ≠ k → ((l, p) ∈ hl' ↔ (l, p) ∈ hl)) : Held hl' { m with ps := m.ps.set k s' } := by
  refine ⟨hn, fun l p => ?_⟩
  unfold CM.At
  rw [st_set w]
  by_cases hk : k = l % m.sets
  · rw [if_pos hk]; exact hi l p hk.symm
  · rw [if_neg hk, ho l p (Ne.symm hk)]; exact h.iff l p
end
section
variable {S : Hs} {A P C : Addr} {m : CM} {d : CAd} {l : Nat}
theorem pl_flat (pl : List (Option Nat)) : (pl.map plD).all flatD = true := by
  rw [List.all_map, List.all_eq_true]; intro x _; cases x <;> rfl
theorem pl_eq (x : Option Nat) : eqF (plD x) .non = x.isNone := by cases x <;> rfl
theorem pl_in {r : Nat} {pl : List (Option Nat)} (h : S[r]? = some (.lst (pl.map plD))) : oIn .non (.ref r) S = .ok (.bl (decide (none ∈ pl))) S := by
  have hf : (flatD .non && (pl.map plD).all flatD) = true := by rw [pl_flat]; rfl
  have e : ((pl.map plD).any fun z => eqF z .non) = decide (none ∈ pl) := by
    rw [List.any_map, Bool.eq_iff_iff, List.any_eq_true, decide_eq_true_eq]
    constructor
    · rintro ⟨x, hx, e⟩
      simp only [Function.comp, pl_eq, Option.isNone_iff_eq_none] at e
      rw [← e]; exact hx
    · intro hx; exact ⟨none, hx, rfl⟩
  simp only [oIn, cIn, h, hf, if_true, e]
theorem pl_index {r : Nat} {pl : List (Option Nat)} (h : S[r]? = some (.lst (pl.map plD))) (hn : none ∈ pl) : oIndex (.ref r) [.non] S = .ok (nD (pl.idxOf none)) S := by
  have hf : (flatD .non && (pl.map plD).all flatD) = true := by rw [pl_flat]; rfl
  have hix : (pl.map plD).findIdx? (fun z => eqF z .non) = some (pl.idxOf none) := by
    rw [List.findIdx?_map]
    have e : ((fun z => eqF z .non) ∘ plD) = fun x : Option Nat => x == none := by
      funext x; simp only [Function.comp, pl_eq]; cases x <;> rfl
    rw [e]; exact List.findIdx?_eq_some_of_exists ⟨none, hn, rfl⟩
  simp only [oIndex, h, hf, if_true, hix]
theorem Ca.parts (h : Ca S A P C m d) (l : Nat) : ∃ r a b, d.ra[l % m.sets]? = some r ∧ d.oa[l % m.sets]? = some a ∧ d.ob[l % m.sets]? = some b ∧ S[r]? = some (.lst ((m.st l).pl.map plD)) ∧ OdAt S A P a b (m.st l).od ∧ r ≠ d.hh ∧ r ≠ a ∧ r ≠ b ∧ d.hh ≠ a ∧ d.hh ≠ b ∧ d.c ∉ [r, d.hh, a, b] ∧ (∀ x, x = d.rr ∨ x = d.oo → x ∉ [r, d.hh, a, b]) ∧ r ∈ d.fp ∧ a ∈ d.fp ∧ b ∈ d.fp ∧ d.hh ∈ d.fp := by
  obtain ⟨r, e1, g1⟩ := h.row _ _ (h.wf.st l)
  obtain ⟨a, b, e2, e3, g2⟩ := h.ord _ _ (h.wf.st l)
  have nd := h.nd
  obtain ⟨la, lb, lc⟩ := h.la
  have hk : l % m.sets < m.sets := Nat.mod_lt _ h.wf.s0
  have f0 : d.fp[0]? = some d.c := rfl
  have f1 : d.fp[1]? = some d.rr := rfl
  have f2 : d.fp[2]? = some d.hh := rfl
  have f3 : d.fp[3]? = some d.oo := rfl
  have fr := fp_ra e1
  have fa := fp_oa e2
  have fb := fp_ob e3
  refine ⟨r, a, b, e1, e2, e3, g1, g2, fp_ne nd fr f2 (by omega), fp_ne nd fr fa (by omega), fp_ne nd fr fb (by omega), fp_ne nd f2 fa (by omega), fp_ne nd f2 fb (by omega), ?_, ?_, fp_mem fr, fp_mem fa, fp_mem fb, fp_mem f2⟩
  · simp only [List.mem_cons, List.not_mem_nil, or_false, not_or]
    exact ⟨fp_ne nd f0 fr (by omega), fp_ne nd f0 f2 (by omega), fp_ne nd f0 fa (by omega), fp_ne nd f0 fb (by omega)⟩
  · simp only [List.mem_cons, List.not_mem_nil, or_false, not_or]
    rintro x (rfl | rfl)
    · exact ⟨fp_ne nd f1 fr (by omega), fp_ne nd f1 f2 (by omega), fp_ne nd f1 fa (by omega), fp_ne nd f1 fb (by omega)⟩
    · exact ⟨fp_ne nd f3 fr (by omega), fp_ne nd f3 f2 (by omega), fp_ne nd f3 fa (by omega), fp_ne nd f3 fb (by omega)⟩
theorem kv_in {hl : List (Nat × Nat)} (h : S[d.hh]? = some (.dic (hl.map kvD))) (hH : Held hl m) (w : m.wf) : oIn (nD l) (.ref d.hh) S = .ok (.bl (m.has l)) S ∧ oNotIn (nD l) (.ref d.hh) S = .ok (.bl (!m.has l)) S := by
  have e : ((hl.lookup l).map nD).isSome = m.has l := by
    unfold CM.has
    rw [Option.isSome_map, Bool.eq_iff_iff, decide_eq_true_eq]
    constructor
    · intro h1
      obtain ⟨p, hp⟩ := Option.isSome_iff_exists.mp h1
      exact List.mem_of_getElem? ((hH.iff l p).mp ((look_mem hH.nd).mp hp))
    · intro h1
      have := (look_mem hH.nd).mpr ((hH.iff l _).mpr (idx_get h1).1)
      rw [this]; rfl
  have e2 : cIn (nD l) (.ref d.hh) S = some (m.has l) := by
    simp only [cIn, h, dGet_dic h key_int, kv_get, Option.map_some, e]
  exact ⟨by simp only [oIn, e2], by simp only [oNotIn, e2]⟩
theorem kv_ix {hl : List (Nat × Nat)} {p : Nat} (h : S[d.hh]? = some (.dic (hl.map kvD))) (hH : Held hl m) (hp : m.At l p) : oIx (.ref d.hh) (nD l) S = .ok (nD p) S :=
  oIx_dic h key_int (by rw [kv_get, (look_mem hH.nd).mpr ((hH.iff l p).mpr hp)]; rfl)
theorem places_ok {k : Nat} {s : PSet} (h : Ca S A P C m d) (hk : m.ps[k]? = some s) : Wp NoX (caM_places A P C [.ref d.c, nD k] S) fun v S' => v = .tup (s.pl.map plD) ∧ S' = S := by
  refine wp_def0 rfl ?_
  unfold caB_places
  obtain ⟨r, e1, g1⟩ := h.row _ _ hk
  simp_arith [Ly.v_fld, Ly.v_meth, Ly.k_me2, Ly.v_make, Ly.k_mk, Ly.v_fldset, Ly.k_fs, Ly.v_fldaug, Ly.k_fa2, Ly.look1, List.mem_cons, List.not_mem_nil, or_false, true_or, or_true, k_fl h.o, caF_rows, ix_lst h.rr e1, bTuple_lst g1]
theorem touch_pl (h : some l ∉ (m.st l).pl) : ((m.st l).touch l).pl = (m.st l).pl.set ((m.st l).place l) (some l) := by simp only [PSet.touch, if_neg h]
theorem put_ok {r a b : Nat} {hl : List (Nat × Nat)} (h : Ca S A P C m d) (hh : S[d.hh]? = some (.dic (hl.map kvD))) (hH : Held hl m) (hno : some l ∉ (m.st l).pl) (e1 : d.ra[l % m.sets]? = some r) (g1 : S[r]? = some (.lst ((m.st l).pl.map plD))) (g2 : OdAt S A P a b (m.st l).od) (hr : r ≠ d.hh) (hc : d.c ≠ r ∧ d.c ≠ d.hh) :
    Wp NoX (caM_put A P C [.ref d.c, nD l, .ref a] S) fun v S' => v = .non ∧ Kp [r, d.hh] S S' ∧ S'.length = S.length ∧ S'[r]? = some (.lst (((m.st l).touch l).pl.map plD)) ∧ ∃ hl', S'[d.hh]? = some (.dic (hl'.map kvD)) ∧ Held hl' (m.touch l) := by
  have w := h.wf
  have hs := w.stw l
  have hplace := PSet.place_lt (l := l) hs w.w
  have hs0 : (0 : Int) < (m.sets : Int) := by have := w.s0; omega
  have em : (l : Int) % (m.sets : Int) = ((l % m.sets : Nat) : Int) := by simp
  refine wp_def0 rfl ?_
  unfold caB_put
  have hAt : ∀ l' p', l' % m.sets = l % m.sets → ((l', p') ∈ hl ↔ (m.st l).pl[p']? = some (some l')) := fun l' p' e => by
    rw [hH.iff]; unfold CM.At
    have : m.st l' = m.st l := by unfold CM.st; rw [e]
    rw [this]
  have fin : ∀ (S1 : Hs) (hl1 : List (Nat × Nat)), Kp [r, d.hh] S S1 → S1.length = S.length → S1[r]? = some (.lst ((m.st l).pl.map plD)) → S1[d.hh]? = some (.dic (hl1.map kvD)) → (hl1.map (·.1)).Nodup → hl1.length ≤ 512 → (∀ l' p', (l', p') ∈ hl1 ↔ (l', p') ∈ hl ∧ ¬ (l' % m.sets = l % m.sets ∧ p' = (m.st l).place l)) →
      Wp NoX (mSeq (mAsg (mVar 1) (gSb (mVar 3) (mVar 4))) (mAsg (mVar 4) (gSb (mFld [C] "held" (mVar 0)) (mVar 1))) [some (.ref d.c), some (nD l), some (.ref a), some (.ref r), some (nD ((m.st l).place l))] S1) (enK fun v S' => v = .non ∧ Kp [r, d.hh] S S' ∧ S'.length = S.length ∧ S'[r]? = some (.lst (((m.st l).touch l).pl.map plD)) ∧ ∃ hl', S'[d.hh]? = some (.dic (hl'.map kvD)) ∧ Held hl' (m.touch l)) := by
    intro S1 hl1 k1 hlen1 gr gh hnd hl512 hx
    have o1 := k1.get h.o (by simp; exact hc)
    have hlt : (m.st l).place l < ((m.st l).pl.map plD).length := by rw [List.length_map, hs.len]; exact hplace
    have o2 : (S1.set r (.lst (((m.st l).pl.map plD).set ((m.st l).place l) (nD l))))[d.c]? = some (.ins C (caF m.sets m.line d.rr d.hh d.oo)) := by rw [List.getElem?_set_ne (Ne.symm hc.1)]; exact o1
    have gh2 : (S1.set r (.lst (((m.st l).pl.map plD).set ((m.st l).place l) (nD l))))[d.hh]? = some (.dic (hl1.map kvD)) := by rw [List.getElem?_set_ne hr]; exact gh
    have hfresh : ∀ q, (l, q) ∉ hl1 := fun q hq => by
      have := (hx l q).mp hq
      exact hno (List.mem_of_getElem? ((hH.iff l q).mp this.1))
    simp_arith [Ly.v_fld, Ly.v_meth, Ly.k_me2, Ly.v_make, Ly.k_mk, Ly.v_fldset, Ly.k_fs, Ly.v_fldaug, Ly.k_fa2, Ly.look1, List.mem_cons, List.not_mem_nil, or_false, true_or, or_true, set_lst (k := (m.st l).place l) gr hlt, k_fl o2, caF_held, oSet_dic gh2 key_int (show (hl1.map kvD).length < sizeLine by simp only [List.length_map]; exact line_big (by omega)), kv_set hfresh]
    refine ⟨(k1.setIn (by simp)).setIn (by simp), by simp [hlen1], ?_, hl1 ++ [(l, (m.st l).place l)], get_put gh2, ?_⟩
    · rw [List.getElem?_set_ne (Ne.symm hr), get_put gr, touch_pl hno, List.map_set]; rfl
    · refine hH.after w ?_ ?_ ?_
      · rw [List.map_append, List.nodup_append]
        refine ⟨hnd, by simp, fun x hx2 y hy e => ?_⟩
        simp only [List.map_cons, List.map_nil, List.mem_singleton] at hy
        obtain ⟨⟨z1, z2⟩, hz, e2⟩ := List.mem_map.mp hx2
        have e3 : z1 = l := by rw [← hy, ← e, ← e2]
        exact hfresh z2 (by rw [← e3]; exact hz)
      · intro l' p' hl'
        rw [touch_pl hno, List.mem_append, hx, hAt l' p' hl', List.getElem?_set]
        simp only [List.mem_singleton, Prod.mk.injEq]
        by_cases hp : (m.st l).place l = p'
        · have : (m.st l).place l < (m.st l).pl.length := by rw [hs.len]; exact hplace
          rw [if_pos hp, if_pos this]
          simp [hl', hp.symm, eq_comm]
        · rw [if_neg hp]
          have : ¬ p' = (m.st l).place l := fun e => hp e.symm
          simp [this]
      · intro l' p' hl'
        rw [List.mem_append, hx]
        simp only [List.mem_singleton, Prod.mk.injEq]
        constructor
        · rintro (h1 | ⟨rfl, _⟩)
          · exact h1.1
          · exact absurd rfl hl'
        · intro h1; exact .inl ⟨h1, fun e => hl' e.1⟩
  have hrow : oIx (.ref d.rr) (nD (l % m.sets)) S = .ok (.ref r) S := ix_lst h.rr e1
  by_cases hn : none ∈ (m.st l).pl
  · have ep : (m.st l).place l = (m.st l).pl.idxOf none := by simp only [PSet.place, if_neg hno, if_pos hn]
    simp_arith [Ly.v_fld, Ly.v_meth, Ly.k_me2, Ly.v_make, Ly.k_mk, Ly.v_fldset, Ly.k_fs, Ly.v_fldaug, Ly.k_fa2, Ly.look1, List.mem_cons, List.not_mem_nil, or_false, true_or, or_true, k_fl h.o, caF_rows, caF_sets, oMod_int hs0, em, hrow, pl_in g1, hn, hasTy_lst g1, pl_index g1 hn, -v_asg]
    rw [← ep, ← v_seq]
    refine fin S hl Kp.refl rfl g1 hh hH.nd (hH.len w) fun l' p' => ?_
    constructor
    · intro h1
      refine ⟨h1, fun e => ?_⟩
      have := (hAt l' p' e.1).mp h1
      rw [e.2, ep, (idx_get hn).1] at this
      cases this
    · exact fun h1 => h1.1
  · have ep : (m.st l).place l = (m.st l).od.victim := by simp only [PSet.place, if_neg hno, if_neg hn]
    have hvl : (m.st l).od.victim < (m.st l).pl.length := by rw [← ep, hs.len]; exact hplace
    obtain ⟨old, hold⟩ : ∃ old, (m.st l).pl[(m.st l).od.victim]? = some (some old) := by
      cases hx : (m.st l).pl[(m.st l).od.victim] with
      | none => exact absurd (hx ▸ List.getElem_mem hvl) hn
      | some z => exact ⟨z, by rw [List.getElem?_eq_getElem hvl, hx]⟩
    have hom := hs.own _ _ hold
    have hoAt : m.At old (m.st l).od.victim := (hH.iff _ _).mp ((hAt _ _ hom).mpr hold)
    simp_arith [Ly.v_fld, Ly.v_meth, Ly.k_me2, Ly.v_make, Ly.k_mk, Ly.v_fldset, Ly.k_fs, Ly.v_fldaug, Ly.k_fa2, Ly.look1, List.mem_cons, List.not_mem_nil, or_false, true_or, or_true, k_fl h.o, caF_rows, caF_sets, oMod_int hs0, em, hrow, pl_in g1, hn, me_od h.ap g2 (.inr rfl), -v_asg]
    refine Wp.call (victim_ok g2 hs.od w.w) ?_
    rintro _ S ⟨rfl, rfl⟩
    have hdel : oDel (.ref d.hh) (nD old) S = .ok () (S.set d.hh (.dic ((hl.filter fun x => decide (x.1 ≠ old)).map kvD))) := by
      have : getK (hl.map kvD) (.inl (old : Int)) = some (nD (m.st l).od.victim) := by rw [kv_get, (look_mem hH.nd).mpr ((hH.iff _ _).mpr hoAt)]; rfl
      simp only [oDel, hh, key_int, this, kv_drop]
    have hixo : oIx (.ref r) (nD (m.st l).od.victim) S = .ok (nD old) S := ix_lst (f := plD) g1 hold
    simp_arith [Ly.v_fld, Ly.v_meth, Ly.k_me2, Ly.v_make, Ly.k_mk, Ly.v_fldset, Ly.k_fs, Ly.v_fldaug, Ly.k_fa2, Ly.look1, List.mem_cons, List.not_mem_nil, or_false, true_or, or_true, k_fl h.o, caF_held, hixo, hdel, -v_asg]
    rw [← ep, ← v_seq]
    refine fin _ (hl.filter fun x => decide (x.1 ≠ old)) (Kp.set (by simp)) (by simp) (by rw [List.getElem?_set_ne (Ne.symm hr)]; exact g1) (get_put hh) ?_ (Nat.le_trans (List.length_filter_le _ _) (hH.len w)) fun l' p' => ?_
    · exact List.Nodup.sublist ((List.filter_sublist).map _) hH.nd
    · rw [List.mem_filter]
      simp only [decide_eq_true_eq]
      constructor
      · rintro ⟨h1, h2⟩
        refine ⟨h1, fun e => h2 ?_⟩
        have := (hAt l' p' e.1).mp h1
        rw [e.2, ep, hold] at this
        cases this; rfl
      · rintro ⟨h1, h2⟩
        refine ⟨h1, fun e => h2 ?_⟩
        subst e
        exact ⟨hom, by rw [ep]; exact hs.inj _ _ l' ((hAt l' p' hom).mp h1) hold⟩
end
section
variable {S : Hs} {A P C : Addr} {m : CM} {d : CAd} {l ad : Nat}
theorem div_line (h : m.wf) : ∀ S, oFdiv (nD ad) (nD m.line) S = .ok (nD (ad / m.line)) S := by
  intro S
  have h0 := h.l0
  have h1 := h.l1
  have hl : ((m.line : Int)).natAbs.log2 < 9000 := by
    rw [Int.natAbs_natCast]
    have : m.line.log2 < 5 := by
      by_cases hz : m.line = 0
      · omega
      · rw [Nat.log2_lt hz]; omega
    omega
  rw [oFdiv_int (show (0 : Int) < (m.line : Int) by omega) hl]
  simp [nD]
theorem mod_sets (h : m.wf) : ∀ S, oMod (nD l) (nD m.sets) S = .ok (nD (l % m.sets)) S := by
  intro S
  have h0 := h.s0
  rw [oMod_int (show (0 : Int) < (m.sets : Int) by omega)]
  simp [nD]
theorem kMethC (a : S[d.c]? = some (.ins C (caF m.sets m.line d.rr d.hh d.oo))) {nm : String} (h1 : nm ≠ "sets") (h2 : nm ≠ "line") (h3 : nm ≠ "rows") (h4 : nm ≠ "held") (h5 : nm ≠ "orders") {X : XP} {md : MD} {g : ML} {l : Ls} {Q : D → Hs → Prop} : meK X [(C, md)] (Str.ofString nm) g l Q (.ref d.c) S = Wp X (g l S) (meK2 X md d.c l Q) := by
  have e : (caF m.sets m.line d.rr d.hh d.oo).lookup (Str.ofString nm) = none := by simp [caF, List.lookup, beq_lit, beq_eq_false_iff_ne.mpr h1, beq_eq_false_iff_ne.mpr h2, beq_eq_false_iff_ne.mpr h3, beq_eq_false_iff_ne.mpr h4, beq_eq_false_iff_ne.mpr h5]
  rw [k_me a, look1]
  simp only [e, true_and]
theorem touch_ok (h : Ca S A P C m d) : Wp NoX (caM_touch A P C [.ref d.c, nD ad] S) fun v S' => v = .bl (m.has (ad / m.line)) ∧ Ca S' A P C (m.touch (ad / m.line)) d ∧ Kp d.fp S S' ∧ S'.length = S.length := by
  have w := h.wf
  obtain ⟨r, a, b, e1, e2, e3, g1, g2, n1, n2, n3, n4, n5, nc, nrr, f1, f2, f3, f4⟩ := h.parts (ad / m.line)
  obtain ⟨hl, gh, hH⟩ := h.hd
  have hs := w.stw (ad / m.line)
  have hin := kv_in (l := ad / m.line) gh hH w
  refine wp_def0 rfl ?_
  unfold caB_touch
  generalize hL : ad / m.line = l at *
  have hdiv : ∀ S, oFdiv (nD ad) (nD m.line) S = .ok (nD l) S := fun S => by rw [div_line w, hL]
  have hplace := PSet.place_lt (l := l) hs w.w
  have hoo : oIx (.ref d.oo) (nD (l % m.sets)) S = .ok (.ref a) S := ix_lst h.oo e2
  have sub : ∀ x ∈ [r, d.hh, a, b], x ∈ d.fp := by
    intro x hx
    simp only [List.mem_cons, List.not_mem_nil, or_false] at hx
    rcases hx with rfl | rfl | rfl | rfl <;> assumption
  have hnot : ∀ (t : Bool) S, oNot (.bl t) S = .ok (.bl (!t)) S := fun t S => by cases t <;> rfl
  by_cases hit : some l ∈ (m.st l).pl
  · have hb : m.has l = true := by simp [CM.has, hit]
    have ep : (m.st l).place l = (m.st l).pl.idxOf (some l) := by simp only [PSet.place, if_pos hit]
    have hAt : m.At l ((m.st l).place l) := by unfold CM.At; rw [ep]; exact (idx_get hit).1
    rw [hb] at hin
    simp_arith [Ly.v_fld, Ly.v_meth, Ly.k_me2, Ly.v_make, Ly.k_mk, Ly.v_fldset, Ly.k_fs, Ly.v_fldaug, Ly.k_fa2, Ly.look1, List.mem_cons, List.not_mem_nil, or_false, true_or, or_true, k_fl h.o, caF_line, hdiv, caF_orders, caF_sets, mod_sets w, hoo, caF_held, hin.1, oTru_bl, me_od h.ap g2 (.inl rfl), kv_ix gh hH hAt, hnot]
    refine Wp.call (note_ok (ms := false) g2 hs.od hplace) ?_
    rintro _ S2 ⟨rfl, go, k2, hlen⟩
    simp_arith [Ly.v_fld, Ly.v_meth, Ly.k_me2, Ly.v_make, Ly.k_mk, Ly.v_fldset, Ly.k_fs, Ly.v_fldaug, Ly.k_fa2, Ly.look1, List.mem_cons, List.not_mem_nil, or_false, true_or, or_true, hb]
    have k4 : Kp [r, d.hh, a, b] S S2 := k2.sub (by simp)
    have epl : ((m.st l).touch l).pl = (m.st l).pl := by simp only [PSet.touch, if_pos hit]
    have eod : ((m.st l).touch l).od = (m.st l).od.note ((m.st l).place l) false := by simp [PSet.touch, hit]
    refine ⟨h.upd (hl := hl) (PSet.touch_wf hs rfl) e1 e2 e3 k4 ?_ (by rw [eod]; exact go) (k2.get gh (by simp; exact ⟨n4, n5⟩)) ?_, k4.sub (fun x hx _ => sub x hx), hlen⟩
    · rw [epl]; exact k2.get g1 (by simp; exact ⟨n2, n3⟩)
    · refine hH.after w hH.nd (fun l' p' e => ?_) (fun _ _ _ => Iff.rfl)
      rw [hH.iff, epl]; unfold CM.At
      have : m.st l' = m.st l := by unfold CM.st; rw [e]
      rw [this]
  · have hb : m.has l = false := by simp [CM.has, hit]
    rw [hb] at hin
    simp_arith [Ly.v_fld, Ly.v_meth, Ly.k_me2, Ly.v_make, Ly.k_mk, Ly.v_fldset, Ly.k_fs, Ly.v_fldaug, Ly.k_fa2, Ly.look1, List.mem_cons, List.not_mem_nil, or_false, true_or, or_true, k_fl h.o, caF_line, hdiv, caF_orders, caF_sets, mod_sets w, hoo, caF_held, hin.1, oTru_bl, kMethC h.o (show "put" ≠ "sets" by decide) (by decide) (by decide) (by decide) (by decide)]
    simp only [List.mem_cons, List.not_mem_nil, or_false, not_or] at nc
    refine Wp.call (put_ok h gh hH hit e1 g1 g2 n1 ⟨nc.1, nc.2.1⟩) ?_
    rintro _ S1 ⟨rfl, k1, hlen1, gr1, hl1, gh1, hH1⟩
    have g21 := g2.kp k1 (by simp; exact ⟨n2.symm, n4.symm⟩) (by simp; exact ⟨n3.symm, n5.symm⟩)
    have o1 := k1.get h.o (by simp; exact ⟨nc.1, nc.2.1⟩)
    have hAt : (m.touch l).At l ((m.st l).place l) := by
      unfold CM.At
      have e : (m.touch l).st l = (m.st l).touch l := by
        have := st_set w (l % m.sets) l ((m.st l).touch l)
        rw [if_pos rfl] at this; exact this
      rw [e, touch_pl hit, List.getElem?_set_self (by rw [hs.len]; exact hplace)]
    have hix : oIx (.ref d.hh) (nD l) S1 = .ok (nD ((m.st l).place l)) S1 := oIx_dic gh1 key_int (by rw [kv_get, (look_mem hH1.nd).mpr ((hH1.iff l _).mpr hAt)]; rfl)
    simp_arith [Ly.v_fld, Ly.v_meth, Ly.k_me2, Ly.v_make, Ly.k_mk, Ly.v_fldset, Ly.k_fs, Ly.v_fldaug, Ly.k_fa2, Ly.look1, List.mem_cons, List.not_mem_nil, or_false, true_or, or_true, me_od h.ap g21 (.inl rfl), k_fl o1, caF_held, hix, hnot]
    refine Wp.call (note_ok (ms := true) g21 hs.od hplace) ?_
    rintro _ S2 ⟨rfl, go, k2, hlen⟩
    simp_arith [Ly.v_fld, Ly.v_meth, Ly.k_me2, Ly.v_make, Ly.k_mk, Ly.v_fldset, Ly.k_fs, Ly.v_fldaug, Ly.k_fa2, Ly.look1, List.mem_cons, List.not_mem_nil, or_false, true_or, or_true, hb]
    have k4 : Kp [r, d.hh, a, b] S S2 := (k1.sub (by simp)).trans (k2.sub (by simp))
    have eod : ((m.st l).touch l).od = (m.st l).od.note ((m.st l).place l) true := by simp [PSet.touch, hit]
    exact ⟨h.upd (hl := hl1) (PSet.touch_wf hs rfl) e1 e2 e3 k4 (k2.get gr1 (by simp; exact ⟨n2, n3⟩)) (by rw [eod]; exact go) (k2.get gh1 (by simp; exact ⟨n4, n5⟩)) hH1, k4.sub (fun x hx _ => sub x hx), by omega⟩
theorem drop_same (w : m.wf) (h : some l ∉ (m.st l).pl) : m.drop l = m := by
  have e : (m.st l).drop l = m.st l := by simp only [PSet.drop, if_neg h]
  unfold CM.drop
  rw [e]
  have : m.ps.set (l % m.sets) (m.st l) = m.ps := by
    have := w.st l
    obtain ⟨h1, h2⟩ := List.getElem?_eq_some_iff.mp this
    rw [← h2]; exact List.set_getElem_self h1
  rw [this]
theorem drop_ok (h : Ca S A P C m d) : Wp NoX (caM_drop A P C [.ref d.c, nD ad] S) fun v S' => v = .bl (m.has (ad / m.line)) ∧ Ca S' A P C (m.drop (ad / m.line)) d ∧ Kp d.fp S S' ∧ S'.length = S.length := by
  have w := h.wf
  obtain ⟨r, a, b, e1, e2, e3, g1, g2, n1, n2, n3, n4, n5, nc, nrr, f1, f2, f3, f4⟩ := h.parts (ad / m.line)
  obtain ⟨hl, gh, hH⟩ := h.hd
  have hs := w.stw (ad / m.line)
  have hin := kv_in (l := ad / m.line) gh hH w
  refine wp_def0 rfl ?_
  unfold caB_drop
  generalize hL : ad / m.line = l at *
  have hdiv : ∀ S, oFdiv (nD ad) (nD m.line) S = .ok (nD l) S := fun S => by rw [div_line w, hL]
  by_cases hit : some l ∈ (m.st l).pl
  · have hb : m.has l = true := by simp [CM.has, hit]
    rw [hb] at hin
    have hAt : m.At l ((m.st l).pl.idxOf (some l)) := by unfold CM.At; exact (idx_get hit).1
    have hpop : oPop1 (.ref d.hh) (nD l) S = .ok (nD ((m.st l).pl.idxOf (some l))) (S.set d.hh (.dic ((hl.filter fun x => decide (x.1 ≠ l)).map kvD))) := by
      have : getK (hl.map kvD) (.inl (l : Int)) = some (nD ((m.st l).pl.idxOf (some l))) := by rw [kv_get, (look_mem hH.nd).mpr ((hH.iff _ _).mpr hAt)]; rfl
      simp only [oPop1, gh, key_int, this, kv_drop]
    have hd' : hasTy "dict" (.ref d.hh) S = true := by simp [hasTy, gh]
    simp only [List.mem_cons, List.not_mem_nil, or_false, not_or] at nc
    have o1 : (S.set d.hh (.dic ((hl.filter fun x => decide (x.1 ≠ l)).map kvD)))[d.c]? = some (.ins C (caF m.sets m.line d.rr d.hh d.oo)) := by rw [List.getElem?_set_ne (Ne.symm nc.2.1)]; exact h.o
    have nr := nrr d.rr (.inl rfl)
    simp only [List.mem_cons, List.not_mem_nil, or_false, not_or] at nr
    have rr1 : (S.set d.hh (.dic ((hl.filter fun x => decide (x.1 ≠ l)).map kvD)))[d.rr]? = some (.lst (d.ra.map .ref)) := by rw [List.getElem?_set_ne (Ne.symm nr.2.1)]; exact h.rr
    have gr1 : (S.set d.hh (.dic ((hl.filter fun x => decide (x.1 ≠ l)).map kvD)))[r]? = some (.lst ((m.st l).pl.map plD)) := by rw [List.getElem?_set_ne (Ne.symm n1)]; exact g1
    simp_arith [Ly.v_fld, Ly.v_meth, Ly.k_me2, Ly.v_make, Ly.k_mk, Ly.v_fldset, Ly.k_fs, Ly.v_fldaug, Ly.k_fa2, Ly.look1, List.mem_cons, List.not_mem_nil, or_false, true_or, or_true, k_fl h.o, caF_line, hdiv, caF_held, hin.2, v_pop1, k_p1, k_p12, hd', hpop, k_fl o1, caF_rows, caF_sets, mod_sets w, ix_lst rr1 e1, set_lst (k := (m.st l).pl.idxOf (some l)) gr1 (by rw [List.length_map]; exact (idx_get hit).2)]
    have epl : ((m.st l).drop l).pl = (m.st l).pl.set ((m.st l).pl.idxOf (some l)) none := by simp only [PSet.drop, if_pos hit]
    have k4 : Kp [r, d.hh, a, b] S ((S.set d.hh (.dic ((hl.filter fun x => decide (x.1 ≠ l)).map kvD))).set r (.lst (((m.st l).pl.map plD).set ((m.st l).pl.idxOf (some l)) .non))) := (Kp.set (by simp)).setIn (by simp)
    have sub : ∀ x ∈ [r, d.hh, a, b], x ∈ d.fp := by
      intro x hx
      simp only [List.mem_cons, List.not_mem_nil, or_false] at hx
      rcases hx with rfl | rfl | rfl | rfl <;> assumption
    have k2 : Kp [r, d.hh] S ((S.set d.hh (.dic ((hl.filter fun x => decide (x.1 ≠ l)).map kvD))).set r (.lst (((m.st l).pl.map plD).set ((m.st l).pl.idxOf (some l)) .non))) := (Kp.set (by simp)).setIn (by simp)
    refine ⟨hb.symm ▸ rfl, h.upd (hl := hl.filter fun x => decide (x.1 ≠ l)) (PSet.drop_wf hs) e1 e2 e3 k4 ?_ (g2.kp k2 (by simp; exact ⟨n2.symm, n4.symm⟩) (by simp; exact ⟨n3.symm, n5.symm⟩)) ?_ ?_, k4.sub (fun x hx _ => sub x hx), by simp⟩
    · rw [get_put gr1, epl, List.map_set]; rfl
    · rw [List.getElem?_set_ne n1]; exact get_put gh
    · refine hH.after w (List.Nodup.sublist ((List.filter_sublist).map _) hH.nd) (fun l' p' e => ?_) (fun l' p' e => ?_)
      · rw [List.mem_filter, hH.iff, epl, List.getElem?_set]
        simp only [decide_eq_true_eq]
        have est : m.st l' = m.st l := by unfold CM.st; rw [e]
        unfold CM.At
        rw [est]
        by_cases hp : (m.st l).pl.idxOf (some l) = p'
        · have : (m.st l).pl.idxOf (some l) < (m.st l).pl.length := (idx_get hit).2
          rw [if_pos hp, if_pos this, ← hp, (idx_get hit).1]
          simp [eq_comm]
        · rw [if_neg hp]
          constructor
          · exact fun h1 => h1.1
          · intro h1
            refine ⟨h1, fun e2 => hp ?_⟩
            subst e2
            exact hs.inj _ _ l' (idx_get hit).1 h1
      · rw [List.mem_filter]
        simp only [decide_eq_true_eq]
        exact ⟨fun h1 => h1.1, fun h1 => ⟨h1, fun e2 => e (by rw [e2])⟩⟩
  · have hb : m.has l = false := by simp [CM.has, hit]
    rw [hb] at hin
    simp_arith [Ly.v_fld, Ly.v_meth, Ly.k_me2, Ly.v_make, Ly.k_mk, Ly.v_fldset, Ly.k_fs, Ly.v_fldaug, Ly.k_fa2, Ly.look1, List.mem_cons, List.not_mem_nil, or_false, true_or, or_true, k_fl h.o, caF_line, hdiv, caF_held, hin.2]
    rw [drop_same w hit]
    exact ⟨by rw [hb], h, Kp.refl⟩
end
def od0 (pol : Str) (w : Nat) : Od := if pol = "plru" then .ptrs w (List.replicate w 0) else .ages (decide (pol = "lru")) (List.replicate w 0) 0
def CM.new (sets ways line : Nat) (pol : Str) : CM := ⟨sets, ways, line, List.replicate sets ⟨List.replicate ways none, od0 pol ways⟩⟩
theorem CM.new_wf {sets ways line : Nat} {pol : Str} (h0 : 0 < sets) (h1 : sets ≤ 64) (hw : WayOk ways) (h2 : 0 < line) (h3 : line ≤ 16) : (CM.new sets ways line pol).wf := by
  refine ⟨by simp [CM.new], h0, h1, hw, h2, h3, fun k s e => ?_⟩
  have hs : s = ⟨List.replicate ways none, od0 pol ways⟩ := by
    have := List.mem_of_getElem? e
    exact List.eq_of_mem_replicate this
  subst hs
  have hno : ∀ p l : Nat, (List.replicate ways (none : Option Nat))[p]? = some (some l) → False := fun p l h => by
    have := List.mem_of_getElem? h
    have := List.eq_of_mem_replicate this
    cases this
  refine ⟨by simp [CM.new], ?_, fun p q l h => (hno p l h).elim, fun p l h => (hno p l h).elim⟩
  show Od.wf ways (od0 pol ways)
  unfold od0
  split
  · exact ⟨rfl, by simp, fun s hs => by rw [List.eq_of_mem_replicate hs]; omega⟩
  · show (List.replicate ways 0).length = ways; simp
section
variable {S : Hs} {A P C : Addr} {p w : Nat}
theorem rep_ok {q n : Nat} {d : D} (h : S[q]? = some (.lst [d])) (hn : n ≤ 100000) : oMul (.ref q) (nD n) S = .ok (.ref S.length) (S ++ [.lst (List.replicate n d)]) := by
  have h1 : -(2 ^ 63) ≤ (n : Int) ∧ (n : Int) < 2 ^ 63 ∧ [d].length * (n : Int).toNat ≤ sizeLine := by
    refine ⟨by omega, by omega, ?_⟩
    simp only [List.length_cons, List.length_nil, Int.toNat_natCast]
    exact Nat.le_of_lt (line_big (by omega))
  simp only [oMul, h]
  rw [if_pos h1]
  simp [List.flatten_replicate_singleton]
theorem agInit_ok {bt : Bool} (hS : S[p]? = some (.ins A [])) (hw : w ≤ 8) : Wp NoX (agM___init__ A P C [.ref p, nD w, .bl bt] S) fun v S' => v = .non ∧ ∃ b, OdAt S' A P p b (.ages bt (List.replicate w 0) 0) ∧ S.length ≤ b ∧ b < S'.length ∧ Kp [p] S S' := by
  have hp := Real.lt hS
  refine wp_def0 rfl ?_
  unfold agB___init__
  have g0 : (S ++ [O.lst [D.int 0]] ++ [O.lst (List.replicate w (D.int 0))])[p]? = some (.ins A []) := by rw [List.append_assoc, List.getElem?_append_left hp]; exact hS
  simp_arith [Ly.v_fld, Ly.v_meth, Ly.k_me2, Ly.v_make, Ly.k_mk, Ly.v_fldset, Ly.k_fs, Ly.v_fldaug, Ly.k_fa2, Ly.look1, List.mem_cons, List.not_mem_nil, or_false, true_or, or_true, rep_ok (S := S ++ [O.lst [D.int 0]]) (q := S.length) (n := w) (d := .int 0) (by simp) (by omega), k_fs2 g0, k_fs2 (get_put g0), k_fs2 (get_put (get_put g0)), List.set_set, putD, ofString_inj, String.reduceEq, Nat.zero_lt_succ, List.length_append, List.length_singleton]
  refine ⟨by decide, by decide, S.length + 1, ⟨?_, ?_⟩, by omega, by simp, (Kp.new.app).setIn (by simp)⟩
  · rw [List.getElem?_set_self (by simp; omega)]; rfl
  · rw [List.getElem?_set_ne (by omega)]; simp
theorem ptInit_ok (hS : S[p]? = some (.ins P [])) (hw : w ≤ 8) : Wp NoX (ptM___init__ A P C [.ref p, nD w] S) fun v S' => v = .non ∧ ∃ b, OdAt S' A P p b (.ptrs w (List.replicate w 0)) ∧ S.length ≤ b ∧ b < S'.length ∧ Kp [p] S S' := by
  have hp := Real.lt hS
  refine wp_def0 rfl ?_
  unfold ptB___init__
  have g0 : (S.set p (.ins P [("ways", nD w)]))[p]? = some (.ins P [("ways", nD w)]) := get_put hS
  have g1 : (S.set p (.ins P [("ways", nD w)]) ++ [O.lst [D.int 0]] ++ [O.lst (List.replicate w (D.int 0))])[p]? = some (.ins P [("ways", nD w)]) := by rw [List.append_assoc, List.getElem?_append_left (by simpa using hp)]; exact g0
  simp_arith [Ly.v_fld, Ly.v_meth, Ly.k_me2, Ly.v_make, Ly.k_mk, Ly.v_fldset, Ly.k_fs, Ly.v_fldaug, Ly.k_fa2, Ly.look1, List.mem_cons, List.not_mem_nil, or_false, true_or, or_true, k_fs2 hS, putD, rep_ok (S := S.set p (.ins P [("ways", nD w)]) ++ [O.lst [D.int 0]]) (q := (S.set p (.ins P [("ways", nD w)])).length) (n := w) (d := .int 0) (by simp) (by omega), k_fs2 g1, ofString_inj, String.reduceEq, Nat.zero_lt_succ, List.length_append, List.length_singleton]
  refine ⟨by decide, S.length + 1, ⟨?_, ?_⟩, by omega, by simp, ((Kp.set (by simp)).app.app).setIn (by simp)⟩
  · simp only [List.length_set]; rw [List.getElem?_set_self (by simp; omega)]; rfl
  · rw [List.getElem?_set_ne (by omega)]; simp
end
theorem nodup_two {xs ys : List Nat} {a b n : Nat} (h : (xs ++ ys).Nodup) (hx : ∀ x ∈ xs ++ ys, x < n) (ha : n ≤ a) (hb : n ≤ b) (hab : a ≠ b) : ((xs ++ [a]) ++ (ys ++ [b])).Nodup := by
  have p : ((xs ++ [a]) ++ (ys ++ [b])).Perm (a :: b :: (xs ++ ys)) := by
    have h1 : ((xs ++ [a]) ++ (ys ++ [b])).Perm ((a :: xs) ++ (b :: ys)) := List.Perm.append (List.perm_append_singleton a xs) (List.perm_append_singleton b ys)
    refine h1.trans ?_
    rw [List.cons_append]
    exact List.Perm.cons a List.perm_middle
  rw [p.nodup_iff, List.nodup_cons, List.nodup_cons]
  refine ⟨?_, ?_, h⟩
  · intro hm
    rcases List.mem_cons.mp hm with e | e
    · exact hab e
    · have := hx a e; omega
  · intro hm; have := hx b hm; omega
section
variable {S : Hs} {A P C : Addr} {c sets ways line : Nat} {pol : Str}
structure OdsAt (S0 S : Hs) (A P : Addr) (o : Od) (oa ob : List Nat) : Prop where
  len : ob.length = oa.length
  at' : ∀ (k a b : Nat), oa[k]? = some a → ob[k]? = some b → OdAt S A P a b o
  nd : (oa ++ ob).Nodup
  new : ∀ x ∈ oa ++ ob, S0.length < x ∧ x < S.length
theorem OdsAt.kp {S0 S S' : Hs} {o : Od} {oa ob : List Nat} (h : OdsAt S0 S A P o oa ob) {B : List Nat} (k : Kp B S S') (hB : ∀ x ∈ oa ++ ob, x ∉ B) : OdsAt S0 S' A P o oa ob :=
  ⟨h.len, fun i a b ha hb => (h.at' i a b ha hb).kp k (hB _ (List.mem_append_left _ (List.mem_of_getElem? ha))) (hB _ (List.mem_append_right _ (List.mem_of_getElem? hb))), h.nd, fun x hx => ⟨(h.new x hx).1, Nat.lt_of_lt_of_le (h.new x hx).2 k.le⟩⟩
theorem ods_ok {X : XP} {Q : D → Hs → Prop} {te : M} {l : Ls} {s : Nat} {o : Od} (hs : sets ≤ 64)
    (ht : ∀ k S', k < sets → Wp NoX (te (l.set s (some (.int (0 + k)))) S') fun v S2 => ∃ a b, v = .ref a ∧ OdAt S2 A P a b o ∧ S'.length ≤ a ∧ S'.length ≤ b ∧ Kp [] S' S2)
    (hd : ∀ (oa ob : List Nat) (S' : Hs), oa.length = sets → S'[S.length]? = some (.lst (oa.map .ref)) → OdsAt S S' A P o oa ob → Kp [] S S' → Q (.ref S.length) S') :
    Wp X (cLoop (.rng 0 sets) (cN s) mYes te l S.length 0 (S ++ [.lst []])) Q := by
  refine wp_lcRng (fun k acc S' => ∃ oa ob : List Nat, acc = oa.map .ref ∧ oa.length = k ∧ S'[S.length]? = some (.lst acc) ∧ OdsAt S S' A P o oa ob ∧ Kp [] S S') ⟨[], [], rfl, rfl, by simp, ⟨rfl, by simp, by simp, by simp⟩, Kp.new⟩ ?_ ?_
  · rintro k acc S' hk ⟨oa, ob, rfl, hl, hq, hO, hK⟩
    refine ⟨_, rfl, ?_⟩
    simp_arith []
    refine (ht k S' hk).mono (fun _ _ _ _ h => h) ?_
    rintro v S2 ⟨a, b, rfl, ho, ha, hb, k2⟩
    have hq2 := k2.get hq (by simp)
    have hql := Real.lt hq
    have hne := ho.ne
    have hlt := ho.lt
    have kp : Kp [S.length] S2 (S2.set S.length (.lst (oa.map .ref ++ [.ref a]))) := Kp.set (by simp)
    refine ⟨hq2, by simp only [List.length_map]; exact line_big (by omega), oa ++ [a], ob ++ [b], by simp, by simp [hl], get_put hq2, ?_, (hK.trans k2).setNew (Nat.le_refl _)⟩
    have hO2 := hO.kp k2 (by simp)
    refine OdsAt.kp (S := S2) ⟨by simp [hO.len], fun i x y hx hy => ?_, nodup_two hO.nd (fun x hx => (hO.new x hx).2) ha hb hne, fun x hx => ?_⟩ kp ?_
    · by_cases hi : i < oa.length
      · rw [List.getElem?_append_left hi] at hx
        rw [List.getElem?_append_left (by rw [hO.len]; exact hi)] at hy
        exact hO2.at' i x y hx hy
      · rw [List.getElem?_append_right (by omega)] at hx
        rw [List.getElem?_append_right (by rw [hO.len]; omega), hO.len] at hy
        have h0 : i - oa.length = 0 := by
          rcases Nat.eq_zero_or_pos (i - oa.length) with z | z
          · exact z
          · rw [List.getElem?_eq_none (by simp; omega)] at hx; cases hx
        rw [h0] at hx hy
        cases hx; cases hy
        exact ho
    · have hm : x ∈ oa ++ ob ∨ x = a ∨ x = b := by
        simp only [List.mem_append, List.mem_singleton] at hx ⊢
        rcases hx with (h | h) | (h | h) <;> simp [h]
      rcases hm with hm | rfl | rfl
      · have := hO2.new x hm; exact this
      · exact ⟨by omega, hlt.1⟩
      · exact ⟨by omega, hlt.2⟩
    · intro x hx
      have hm : x ∈ oa ++ ob ∨ x = a ∨ x = b := by
        simp only [List.mem_append, List.mem_singleton] at hx ⊢
        rcases hx with (h | h) | (h | h) <;> simp [h]
      simp only [List.mem_singleton]
      rcases hm with hm | rfl | rfl
      · have := (hO.new x hm).1; omega
      · omega
      · omega
  · rintro acc S' ⟨oa, ob, rfl, hl, hq, hO, hK⟩
    exact hd oa ob S' hl hq hO hK
theorem caInit_ok (hAP : A ≠ P) (hS : S[c]? = some (.ins C [])) (h0 : 0 < sets) (h1 : sets ≤ 64) (hw : WayOk ways) (h2 : 0 < line) (h3 : line ≤ 16) :
    Wp NoX (caM___init__ A P C [.ref c, .tup [nD sets, nD ways, nD line, .str pol]] S) fun v S' => v = .non ∧ ∃ d : CAd, d.c = c ∧ Ca S' A P C (CM.new sets ways line pol) d ∧ (∀ x ∈ d.fp, x = c ∨ (S.length ≤ x ∧ x < S'.length)) ∧ Kp [c] S S' := by
  have hc := Real.lt hS
  have hw8 := hw.le
  refine wp_def0 rfl ?_
  unfold caB___init__
  simp_arith [Ly.v_fld, Ly.v_meth, Ly.k_me2, Ly.v_make, Ly.k_mk, Ly.v_fldset, Ly.k_fs, Ly.v_fldaug, Ly.k_fa2, Ly.look1, List.mem_cons, List.not_mem_nil, or_false, true_or, or_true, v_gT, k_fs2 hS, k_fs2 (get_put hS), List.set_set, putD, ofString_inj, String.reduceEq, Nat.zero_lt_succ, List.length_append, List.length_singleton, rng1 (n := (sets : Int)) _ (by omega) (by omega), Int.toNat_natCast, wipe1]
  refine ⟨by decide, ?_⟩
  generalize hS1 : S.set c (.ins C [("sets", nD sets), ("line", nD line)]) = S1
  have l1 : S1.length = S.length := by rw [← hS1]; simp
  have c1 : S1[c]? = some (.ins C [("sets", nD sets), ("line", nD line)]) := by rw [← hS1]; exact get_put hS
  have k1 : Kp [c] S S1 := by rw [← hS1]; exact Kp.set (by simp)
  refine wp_lcRng (fun k acc S' => ∃ ra : List Nat, acc = ra.map .ref ∧ ra.length = k ∧ S'[S1.length]? = some (.lst acc) ∧ (∀ x ∈ ra, S1.length < x ∧ x < S'.length ∧ S'[x]? = some (.lst (List.replicate ways .non))) ∧ ra.Nodup ∧ Kp [] S1 S') ⟨[], rfl, rfl, by simp, by simp, by simp, Kp.new⟩ ?_ ?_
  · rintro k acc S' hk ⟨ra, rfl, hl, hq, hx, hnd, hK⟩
    refine ⟨_, rfl, ?_⟩
    have hql := Real.lt hq
    simp_arith [Ly.v_fld, Ly.v_meth, Ly.k_me2, Ly.v_make, Ly.k_mk, Ly.v_fldset, Ly.k_fs, Ly.v_fldaug, Ly.k_fa2, Ly.look1, List.mem_cons, List.not_mem_nil, or_false, true_or, or_true, rep_ok (S := S' ++ [O.lst [D.non]]) (q := S'.length) (n := ways) (d := .non) (by simp) (by omega), List.length_append, List.length_singleton]
    have hq2 : (S' ++ [O.lst [D.non]] ++ [O.lst (List.replicate ways D.non)])[S1.length]? = some (.lst (ra.map .ref)) := by rw [List.append_assoc, List.getElem?_append_left hql]; exact hq
    refine ⟨hq2, by simp only [List.length_map]; exact line_big (by omega), ra ++ [S'.length + 1], by simp, by simp [hl], get_put hq2, ?_, ?_, (hK.trans Kp.new.app).setNew (Nat.le_refl _)⟩
    · intro x hx'
      rcases List.mem_append.mp hx' with h | h
      · obtain ⟨h1, h2, h3⟩ := hx x h
        refine ⟨h1, by simp; omega, ?_⟩
        rw [List.getElem?_set_ne (by omega), List.append_assoc, List.getElem?_append_left h2]; exact h3
      · simp only [List.mem_singleton] at h; subst h
        refine ⟨by omega, by simp, ?_⟩
        rw [List.getElem?_set_ne (by omega)]; simp
    · rw [List.nodup_append]
      refine ⟨hnd, by simp, fun x hx' y hy e => ?_⟩
      simp only [List.mem_singleton] at hy
      have := (hx x hx').2.1
      omega
  · rintro acc S2 ⟨ra, rfl, hl, hq, hx, hnd, hK⟩
    have c2 := hK.get c1 (by simp)
    have hql := Real.lt hq
    have k2 : Kp [c] S S2 := k1.trans (hK.sub (by simp))
    simp_arith [Ly.v_fld, Ly.v_meth, Ly.k_me2, Ly.v_make, Ly.k_mk, Ly.v_fldset, Ly.k_fs, Ly.v_fldaug, Ly.k_fa2, Ly.look1, List.mem_cons, List.not_mem_nil, or_false, true_or, or_true, k_fs2 c2, putD, ofString_inj, String.reduceEq, Nat.zero_lt_succ]
    refine ⟨by decide, ?_⟩
    generalize hS3 : S2.set c (.ins C [("sets", nD sets), ("line", nD line), ("rows", .ref S1.length)]) = S3
    have l3 : S3.length = S2.length := by rw [← hS3]; simp
    have c3 : (S3 ++ [O.dic []])[c]? = some (.ins C [("sets", nD sets), ("line", nD line), ("rows", .ref S1.length)]) := by
      have := hK.le
      rw [List.getElem?_append_left (by omega), ← hS3]; exact get_put c2
    have k3 : Kp [c] S2 S3 := by rw [← hS3]; exact Kp.set (by simp)
    simp_arith [Ly.v_fld, Ly.v_meth, Ly.k_me2, Ly.v_make, Ly.k_mk, Ly.v_fldset, Ly.k_fs, Ly.v_fldaug, Ly.k_fa2, Ly.look1, List.mem_cons, List.not_mem_nil, or_false, true_or, or_true, k_fs2 c3, putD, ofString_inj, String.reduceEq, Nat.zero_lt_succ]
    refine ⟨by decide, ?_⟩
    have hle := hK.le
    generalize hS4 : (S3 ++ [O.dic []]).set c (.ins C [("sets", nD sets), ("line", nD line), ("rows", .ref S1.length), ("held", .ref S3.length)]) = S4
    have l4 : S4.length = S3.length + 1 := by rw [← hS4]; simp
    have c4 : S4[c]? = some (.ins C [("sets", nD sets), ("line", nD line), ("rows", .ref S1.length), ("held", .ref S3.length)]) := by rw [← hS4]; exact get_put c3
    have hh4 : S4[S3.length]? = some (.dic []) := by rw [← hS4, List.getElem?_set_ne (by omega)]; simp
    have k4 : Kp [c] S2 S4 := by rw [← hS4]; exact (k3.app).setIn (by simp)
    have fin : ∀ (oa ob : List Nat) (S5 : Hs), oa.length = sets → S5[S4.length]? = some (.lst (oa.map .ref)) → OdsAt S4 S5 A P (od0 pol ways) oa ob → Kp [] S4 S5 →
        ∃ d : CAd, d.c = c ∧ Ca (S5.set c (.ins C (caF sets line S1.length S3.length S4.length))) A P C (CM.new sets ways line pol) d ∧ (∀ x ∈ d.fp, x = c ∨ (S.length ≤ x ∧ x < (S5.set c (.ins C (caF sets line S1.length S3.length S4.length))).length)) ∧ Kp [c] S (S5.set c (.ins C (caF sets line S1.length S3.length S4.length))) := by
      intro oa ob S5 hoa hq5 hO k5
      have hle5 := k5.le
      have hq5l := Real.lt hq5
      have c5 := k5.get c4 (by simp)
      have kc : Kp [c] S5 (S5.set c (.ins C (caF sets line S1.length S3.length S4.length))) := Kp.set (by simp)
      have k25 : Kp [c] S2 (S5.set c (.ins C (caF sets line S1.length S3.length S4.length))) := (k4.trans (k5.sub (by simp))).trans kc
      refine ⟨⟨c, S1.length, S3.length, S4.length, ra, oa, ob⟩, rfl, ⟨CM.new_wf h0 h1 hw h2 h3, hAP, get_put c5, k25.get hq (by simp; omega), kc.get hq5 (by simp; omega), ⟨hl, hoa, by rw [hO.len, hoa]; rfl⟩, ?_, ?_, ⟨[], ?_, ?_⟩, ?_⟩, ?_, k2.trans k25⟩
      · intro k s hs
        have hk : k < sets := by
          have := (List.getElem?_eq_some_iff.mp hs).1
          simpa [CM.new] using this
        have e : s = ⟨List.replicate ways none, od0 pol ways⟩ := List.eq_of_mem_replicate (List.mem_of_getElem? hs)
        subst e
        have hka : k < ra.length := by omega
        refine ⟨ra[k], List.getElem?_eq_getElem hka, ?_⟩
        obtain ⟨h5, h6, h7⟩ := hx _ (List.getElem_mem hka)
        rw [k25.get h7 (by simp; omega), List.map_replicate]; rfl
      · intro k s hs
        have hk : k < sets := by
          have := (List.getElem?_eq_some_iff.mp hs).1
          simpa [CM.new] using this
        have e : s = ⟨List.replicate ways none, od0 pol ways⟩ := List.eq_of_mem_replicate (List.mem_of_getElem? hs)
        subst e
        have hka : k < oa.length := by omega
        have hkb : k < ob.length := by rw [hO.len]; exact hka
        have ea := List.getElem?_eq_getElem hka
        have eb := List.getElem?_eq_getElem hkb
        refine ⟨oa[k], ob[k], ea, eb, (hO.at' k _ _ ea eb).kp kc ?_ ?_⟩
        · have := hO.new _ (List.mem_append_left ob (List.getElem_mem hka)); simp; omega
        · have := hO.new _ (List.mem_append_right oa (List.getElem_mem hkb)); simp; omega
      · exact (kc.get (k5.get hh4 (by simp)) (by simp; omega))
      · refine ⟨by simp, fun l p => ?_⟩
        simp only [List.not_mem_nil, false_iff]
        unfold CM.At CM.st
        intro h
        have hm : ∀ s ∈ (CM.new sets ways line pol).ps, s = ⟨List.replicate ways none, od0 pol ways⟩ := fun s hs => List.eq_of_mem_replicate hs
        have hlt : l % (CM.new sets ways line pol).sets < (CM.new sets ways line pol).ps.length := (CM.new_wf h0 h1 hw h2 h3).lt l
        simp only [List.getD, List.getElem?_eq_getElem hlt, Option.getD_some] at h
        rw [hm _ (List.getElem_mem hlt)] at h
        have := List.eq_of_mem_replicate (List.mem_of_getElem? h)
        cases this
      · show (c :: S1.length :: S3.length :: S4.length :: (ra ++ (oa ++ ob))).Nodup
        have b1 : ∀ x ∈ ra, S1.length < x ∧ x < S2.length := fun x h => ⟨(hx x h).1, (hx x h).2.1⟩
        have b2 : ∀ x ∈ oa ++ ob, S4.length < x := fun x h => (hO.new x h).1
        simp only [List.nodup_cons, List.mem_cons, not_or]
        have out : ∀ x, (x ≤ S1.length ∨ S2.length ≤ x) → x ≤ S4.length → x ∉ ra ++ (oa ++ ob) := by
          intro x hx1 hx2 hm
          rcases List.mem_append.mp hm with h | h
          · have := b1 x h; omega
          · have := b2 x h; omega
        refine ⟨⟨by omega, by omega, by omega, out _ (by omega) (by omega)⟩, ⟨by omega, by omega, out _ (by omega) (by omega)⟩, ⟨by omega, out _ (by omega) (by omega)⟩, out _ (by omega) (by omega), ?_⟩
        rw [List.nodup_append]
        refine ⟨hnd, hO.nd, fun x h1 y h2 e => ?_⟩
        have h3 := b1 x h1
        have h4 := b2 y h2
        omega
      · intro x hxm
        have hxm : x ∈ c :: S1.length :: S3.length :: S4.length :: (ra ++ (oa ++ ob)) := hxm
        rw [List.length_set]
        simp only [List.mem_cons] at hxm
        rcases hxm with rfl | rfl | rfl | rfl | h
        · exact .inl rfl
        · right; omega
        · right; omega
        · right; omega
        · right
          rcases List.mem_append.mp h with h | h
          · have := hx x h; omega
          · have := hO.new x h; omega
    by_cases hp : pol = "plru"
    · subst hp
      simp_arith [Ly.v_fld, Ly.v_meth, Ly.k_me2, Ly.v_make, Ly.k_mk, Ly.v_fldset, Ly.k_fs, Ly.v_fldaug, Ly.k_fa2, Ly.look1, List.mem_cons, List.not_mem_nil, or_false, true_or, or_true, oEq_str, rng1 (n := (sets : Int)) _ (by omega) (by omega), Int.toNat_natCast, wipe1]
      refine ods_ok (A := A) (P := P) (o := od0 "plru" ways) h1 ?_ ?_
      · intro k S' hk
        simp_arith [Ly.v_fld, Ly.v_meth, Ly.k_me2, Ly.v_make, Ly.k_mk, Ly.v_fldset, Ly.k_fs, Ly.v_fldaug, Ly.k_fa2, Ly.look1, List.mem_cons, List.not_mem_nil, or_false, true_or, or_true]
        refine Wp.call (ptInit_ok (p := S'.length) (by simp) hw8) ?_
        rintro _ S6 ⟨rfl, b, ho, hb1, hb2, k6⟩
        refine ⟨rfl, S'.length, b, rfl, by rw [od0, if_pos rfl]; exact ho, Nat.le_refl _, by simp at hb1; omega, ?_⟩
        exact (Kp.new (A := []) (g := [O.ins P []])).after k6 (by simp)
      · intro oa ob S5 hoa hq5 hO k5
        have c5 := k5.get c4 (by simp)
        simp_arith [Ly.v_fld, Ly.v_meth, Ly.k_me2, Ly.v_make, Ly.k_mk, Ly.v_fldset, Ly.k_fs, Ly.v_fldaug, Ly.k_fa2, Ly.look1, List.mem_cons, List.not_mem_nil, or_false, true_or, or_true, k_fs2 c5, putD, ofString_inj, String.reduceEq, Nat.zero_lt_succ]
        exact ⟨by decide, fin oa ob S5 hoa hq5 hO k5⟩
    · simp_arith [Ly.v_fld, Ly.v_meth, Ly.k_me2, Ly.v_make, Ly.k_mk, Ly.v_fldset, Ly.k_fs, Ly.v_fldaug, Ly.k_fa2, Ly.look1, List.mem_cons, List.not_mem_nil, or_false, true_or, or_true, oEq_str, hp, rng1 (n := (sets : Int)) _ (by omega) (by omega), Int.toNat_natCast, wipe1]
      refine ods_ok (A := A) (P := P) (o := od0 pol ways) h1 ?_ ?_
      · intro k S' hk
        simp_arith [Ly.v_fld, Ly.v_meth, Ly.k_me2, Ly.v_make, Ly.k_mk, Ly.v_fldset, Ly.k_fs, Ly.v_fldaug, Ly.k_fa2, Ly.look1, List.mem_cons, List.not_mem_nil, or_false, true_or, or_true, oEq_str]
        refine Wp.call (agInit_ok (p := S'.length) (by simp) hw8) ?_
        rintro _ S6 ⟨rfl, b, ho, hb1, hb2, k6⟩
        refine ⟨rfl, S'.length, b, rfl, by rw [od0, if_neg hp]; exact ho, Nat.le_refl _, by simp at hb1; omega, ?_⟩
        exact (Kp.new (A := []) (g := [O.ins A []])).after k6 (by simp)
      · intro oa ob S5 hoa hq5 hO k5
        have c5 := k5.get c4 (by simp)
        simp_arith [Ly.v_fld, Ly.v_meth, Ly.k_me2, Ly.v_make, Ly.k_mk, Ly.v_fldset, Ly.k_fs, Ly.v_fldaug, Ly.k_fa2, Ly.look1, List.mem_cons, List.not_mem_nil, or_false, true_or, or_true, k_fs2 c5, putD, ofString_inj, String.reduceEq, Nat.zero_lt_succ]
        exact ⟨by decide, fin oa ob S5 hoa hq5 hO k5⟩
end
end Ly
set_option Elab.async false
set_option linter.all false
set_option maxRecDepth 100000
namespace Ly
open PySem PySem.Spec L2
open PyProof.Rows hiding St
local macro_rules | `(tactic| simp_arith [$ls,*]) => `(tactic| simp only [Ly.line_le, Ly.atX_no, Ly.v_ok, Ly.v_bad, Ly.v_bind, Ly.k_bd, Ly.v_at, Ly.v_bin, Ly.k_bi, Ly.k_bi2, Ly.v_var, Ly.v_c, Ly.v_un, Ly.k_un, Ly.v_if, Ly.k_ife, Ly.v_and, Ly.k_and, Ly.k_and2, Ly.v_or, Ly.k_or, Ly.k_or2, Ly.v_tup, Ly.k_tup, Ly.v_lst, Ly.k_lst, Ly.v_call, Ly.k_ca, Ly.v_fn, Ly.k_fn, Ly.v_bm, Ly.k_bm, Ly.k_bm2, Ly.v_sl, Ly.k_sl, Ly.k_sl2, Ly.k_sl3, Ly.v_ixK, Ly.k_ixk, Ly.v_inK, Ly.k_ink, Ly.v_notinK, Ly.k_nink, Ly.v_getK2, Ly.k_gk2, Ly.k_gk, Ly.v_get2, Ly.k_g2, Ly.k_g22, Ly.k_g23, Ly.v_nil, Ly.v_cons, Ly.k_co, Ly.k_co2, Ly.v_no, Ly.v_some, Ly.k_so, Ly.k_cm, Ly.v_cmp, Ly.v_tru, Ly.k_tr, Ly.v_notB, Ly.k_no, Ly.v_andB, Ly.k_an, Ly.v_orB, Ly.k_orb, Ly.v_yes, Ly.v_inKB, Ly.k_inkB, Ly.v_notinKB, Ly.k_ninkB, Ly.v_set, Ly.k_st, Ly.v_expr, Ly.k_ex, Ly.v_ret, Ly.k_re, Ly.v_retN, Ly.v_pass, Ly.v_brk, Ly.v_cnt, Ly.v_seq, Ly.k_sq_nx, Ly.k_sq_rt, Ly.k_sq_bk, Ly.k_sq_ct, Ly.v_ifS, Ly.k_ifs, Ly.v_asg, Ly.k_as, Ly.k_as2, Ly.v_aug, Ly.k_au, Ly.v_for, Ly.k_fo, Ly.v_it, Ly.k_it, Ly.k_ij, Ly.v_rng1, Ly.v_rng2, Ly.v_enum, Ly.v_zip, Ly.v_gN, Ly.v_gsN, Ly.v_gsC, Ly.k_gc, Ly.v_gT, Ly.v_gTw, Ly.v_gSb, Ly.k_gsb, Ly.k_gsb2, Ly.k_gsb3, Ly.k_en_rt, Ly.k_en_nx, Ly.k_tu_nx, Ly.k_tu_ct, Ly.k_tu_bk, Ly.k_tu_rt, Ly.v_lc, Ly.k_lc, Ly.v_augI, Ly.k_ag, Ly.k_ag2, Ly.k_ag3, Ly.k_ag4, Ly.k_ag5, Ly.v_del, Ly.k_dl, Ly.k_dl2, Ly.v_setd, Ly.v_pop2, Ly.k_d3, Ly.k_d32, Ly.k_d33, Ly.v_get1, Ly.k_g1, Ly.k_g12, Ly.v_rg1, Ly.k_rg, Ly.v_rg2, Ly.k_rg2, Ly.k_rg22, Ly.v_dicK, Ly.v_dicT, Ly.v_dc, Ly.k_dc, List.getElem?_cons_zero, List.getElem?_cons_succ, List.set_cons_zero, List.set_cons_succ, List.length_cons, List.length_nil, List.map_cons, List.map_nil, List.cons_append, List.nil_append, List.replicate, if_true, if_false, Bool.false_eq_true, Bool.not_true, Bool.not_false, Bool.true_and, Bool.false_and, decide_true, decide_false, decide_eq_true_eq, Nat.zero_add, Nat.reduceAdd, Nat.reduceLeDiff, true_and, and_true, $ls,*])
inductive MRow where
  | const (d n : Nat) | op (s : Str) (d a b : Nat) | select (d c a b : Nat) | load (d a base mask : Nat) | store (a base mask v : Nat) | out (a : Nat) | jump (t : Nat) | branch (a t : Nat) | stop (a : Nat)
def MRow.D : MRow → D
  | .const d n => .tup [.str "const", nD d, nD n]
  | .op s d a b => .tup [.str "op", .str s, nD d, nD a, nD b]
  | .select d c a b => .tup [.str "select", nD d, nD c, nD a, nD b]
  | .load d a base mask => .tup [.str "load", nD d, nD a, nD base, nD mask]
  | .store a base mask v => .tup [.str "store", nD a, nD base, nD mask, nD v]
  | .out a => .tup [.str "out", nD a]
  | .jump t => .tup [.str "jump", nD t]
  | .branch a t => .tup [.str "branch", nD a, nD t]
  | .stop a => .tup [.str "stop", nD a]
def MRow.ok (many : Nat) : MRow → Prop
  | .const d n => d < 16 ∧ n < 4294967296
  | .op s d a b => s ∈ signsL ∧ d < 16 ∧ a < 16 ∧ b < 16
  | .select d c a b => d < 16 ∧ c < 16 ∧ a < 16 ∧ b < 16
  | .load d a base mask => d < 16 ∧ a < 16 ∧ base ≤ 1000000 ∧ mask < 4294967296
  | .store a base mask v => a < 16 ∧ base ≤ 1000000 ∧ mask < 4294967296 ∧ v < 16
  | .out a => a < 16
  | .jump t => t < many
  | .branch a t => a < 16 ∧ t < many
  | .stop a => a < 16
def MRow.last : MRow → Bool
  | .jump _ => true
  | .stop _ => true
  | _ => false
structure Rg where
  base : Nat
  size : Nat
  label : Str
def Rg.D (r : Rg) : D := .tup [nD r.base, nD r.size, .str r.label]
def Contig : Nat → List Rg → Prop
  | _, [] => True
  | b, r :: rs => r.base = b ∧ 0 < r.size ∧ Contig (b + r.size) rs
def sizes (rs : List Rg) : Nat := (rs.map (·.size)).sum
structure CodeOk (regs : List Rg) (rows : List MRow) : Prop where
  cg : Contig 0 regs
  small : sizes regs ≤ 5000000
  ok : ∀ r ∈ rows, r.ok rows.length
  ne : 0 < rows.length
  len : rows.length ≤ 100000
  fin : ∀ r, rows[rows.length - 1]? = some r → r.last = true
structure ContOk (regs : List Rg) (cs : List (List Nat)) : Prop where
  len : cs.map (·.length) = regs.map (·.size)
  lt : ∀ c ∈ cs, ∀ w ∈ c, w < 4294967296
abbrev Mem := Nat → Option Nat
def Mem.get (f : Mem) (a : Nat) : Nat := (f a).getD 0
def Mem.put (f : Mem) (a v : Nat) : Mem := fun x => if x = a then some v else f x
def mem0 (cs : List (List Nat)) : Mem := fun a => cs.flatten[a]?
structure PS where
  held : List Nat
  mem : Mem
  outs : List Nat
  pc : Nat
def PS.h (s : PS) (a : Nat) : Nat := s.held.getD a 0
def MRow.addr (r : MRow) (h : Nat → Nat) : Nat := match r with
  | .load _ a base mask => base + (h a &&& mask)
  | .store a base mask _ => base + (h a &&& mask)
  | _ => 0
def MRow.word (r : MRow) (h : Nat → Nat) : Nat := match r with
  | .const _ n => n
  | .op s _ a b => opN s (h a) (h b)
  | .select _ c a b => if h c ≠ 0 then h a else h b
  | _ => 0
def PS.exec (s : PS) (r : MRow) : PS := match r with
  | .const d _ => { s with held := s.held.set d (r.word s.h), pc := s.pc + 1 }
  | .op _ d _ _ => { s with held := s.held.set d (r.word s.h), pc := s.pc + 1 }
  | .select d _ _ _ => { s with held := s.held.set d (r.word s.h), pc := s.pc + 1 }
  | .load d _ _ _ => { s with held := s.held.set d (s.mem.get (r.addr s.h)), pc := s.pc + 1 }
  | .store _ _ _ v => { s with mem := s.mem.put (r.addr s.h) (s.h v), pc := s.pc + 1 }
  | .out a => { s with outs := s.outs ++ [s.h a], pc := s.pc + 1 }
  | .jump t => { s with pc := t }
  | .branch a t => { s with pc := if s.h a ≠ 0 then t else s.pc + 1 }
  | .stop _ => s
def MRow.stops : MRow → Option Nat
  | .stop a => some a
  | _ => none
structure PSOk (many : Nat) (s : PS) : Prop where
  len : s.held.length = 16
  lt : ∀ w ∈ s.held, w < 4294967296
  mlt : ∀ a v, s.mem a = some v → v < 4294967296
  pc : s.pc < many
section
variable {s : PS} {r : MRow} {many : Nat} {rows : List MRow} {regs : List Rg}
theorem PSOk.h_lt (h : PSOk many s) (a : Nat) : s.h a < 4294967296 := by
  unfold PS.h
  by_cases hl : a < s.held.length
  · have : s.held.getD a 0 = s.held[a] := by simp [List.getD, List.getElem?_eq_getElem hl]
    rw [this]; exact h.lt _ (List.getElem_mem hl)
  · have : s.held.getD a 0 = 0 := by simp [List.getD, List.getElem?_eq_none (Nat.le_of_not_lt hl)]
    rw [this]; omega
theorem PSOk.word_lt (h : PSOk many s) (hr : r.ok many) : r.word s.h < 4294967296 := by
  cases r with
  | const d n => exact hr.2
  | op z d a b => exact opN_lt (h.h_lt a) (h.h_lt b)
  | select d c a b =>
    show (if s.h c ≠ 0 then s.h a else s.h b) < _
    split
    · exact h.h_lt a
    · exact h.h_lt b
  | _ => show (0 : Nat) < _; omega
theorem PSOk.get_lt (h : PSOk many s) (a : Nat) : s.mem.get a < 4294967296 := by
  unfold Mem.get
  cases e : s.mem a with
  | none => simp
  | some v => simp; exact h.mlt a v e
theorem PSOk.set (h : PSOk many s) {d w pc : Nat} (hw : w < 4294967296) (hp : pc < many) : PSOk many { s with held := s.held.set d w, pc := pc } :=
  ⟨by simp [h.len], fun x hx => by rcases List.mem_or_eq_of_mem_set hx with h1 | h1; exact h.lt x h1; omega, h.mlt, hp⟩
theorem PSOk.exec (h : PSOk many s) (hr : r.ok many) (hl : r.last = false → s.pc + 1 < many) : PSOk many (s.exec r) := by
  cases r with
  | const d n => exact h.set (h.word_lt hr) (hl rfl)
  | op z d a b => exact h.set (h.word_lt hr) (hl rfl)
  | select d c a b => exact h.set (h.word_lt hr) (hl rfl)
  | load d a base mask => exact h.set (h.get_lt _) (hl rfl)
  | store a base mask v =>
    refine ⟨h.len, h.lt, fun x y e => ?_, hl rfl⟩
    simp only [PS.exec, Mem.put] at e
    split at e
    · cases e; exact h.h_lt v
    · exact h.mlt x y e
  | out a => exact ⟨h.len, h.lt, h.mlt, hl rfl⟩
  | jump t => exact ⟨h.len, h.lt, h.mlt, hr⟩
  | branch a t =>
    refine ⟨h.len, h.lt, h.mlt, ?_⟩
    show (if s.h a ≠ 0 then t else s.pc + 1) < many
    split
    · exact hr.2
    · exact hl rfl
  | stop a => exact h
theorem CodeOk.row (c : CodeOk regs rows) {pc : Nat} (h : pc < rows.length) : rows[pc]? = some (rows.getD pc (.stop 0)) ∧ (rows.getD pc (.stop 0)).ok rows.length ∧ ((rows.getD pc (.stop 0)).last = false → pc + 1 < rows.length) := by
  have e : rows[pc]? = some (rows.getD pc (.stop 0)) := by simp [List.getD, List.getElem?_eq_getElem h]
  refine ⟨e, c.ok _ (List.mem_of_getElem? e), fun hl => ?_⟩
  apply Classical.byContradiction
  intro hc
  have : pc = rows.length - 1 := by omega
  subst this
  rw [c.fin _ e] at hl; cases hl
end
theorem getK_setK {kvs : List (Key × D)} {k k' : Key} {v : D} : getK (setK kvs k v) k' = if k' = k then some v else getK kvs k' := by
  unfold setK
  split
  · rename_i h
    induction kvs with
    | nil => simp at h
    | cons x kvs ih =>
      unfold getK at ih ⊢
      simp only [List.map_cons, List.find?_cons]
      by_cases hx : x.1 = k
      · rw [if_pos hx]
        by_cases hk : k' = k
        · have : decide (x.1 = k') = true := by simp [hx, hk]
          simp only [this, if_pos hk]; rfl
        · have h1 : decide (x.1 = k') = false := by simp [hx]; exact fun e => hk e.symm
          simp only [h1, if_neg hk]
          by_cases ha : (kvs.any fun kv => decide (kv.1 = k)) = true
          · have := ih ha
            rw [if_neg hk] at this; exact this
          · have e : kvs.map (fun kv => if kv.1 = k then (kv.1, v) else kv) = kvs := by
              have : ∀ kv ∈ kvs, ¬ kv.1 = k := fun kv hm e => ha (List.any_eq_true.mpr ⟨kv, hm, by simp [e]⟩)
              conv => rhs; rw [← List.map_id kvs]
              exact List.map_congr_left fun kv hm => by rw [if_neg (this kv hm)]; rfl
            rw [e]
      · rw [if_neg hx]
        have ha : (kvs.any fun kv => decide (kv.1 = k)) = true := by
          simp only [List.any_cons, Bool.or_eq_true, decide_eq_true_eq] at h
          exact h.resolve_left hx
        by_cases hk' : x.1 = k'
        · have : decide (x.1 = k') = true := by simp [hk']
          have hkk : ¬ k' = k := fun e => hx (hk'.trans e)
          simp only [this, if_neg hkk]
        · have : decide (x.1 = k') = false := by simp [hk']
          simp only [this]
          exact ih ha
  · rename_i h
    unfold getK
    rw [List.find?_append]
    by_cases hk : k' = k
    · rw [if_pos hk]
      have : kvs.find? (fun kv => decide (kv.1 = k')) = none := by
        rw [List.find?_eq_none]
        intro x hx e
        refine h (List.any_eq_true.mpr ⟨x, hx, ?_⟩)
        rw [← hk]; exact e
      rw [this]; simp [hk]
    · rw [if_neg hk]
      have : decide (k = k') = false := by simp; exact fun e => hk e.symm
      simp [this]
theorem setK_len {kvs : List (Key × D)} {k : Key} {v : D} : (setK kvs k v).length ≤ kvs.length + 1 := by
  unfold setK; split <;> simp
structure MemAt (S : Hs) (q : Nat) (f : Mem) (N : Nat) : Prop where
  ex : ∃ kvs : List (Key × D), S[q]? = some (.dic kvs) ∧ kvs.length ≤ N ∧ ∀ a : Nat, getK kvs (.inl (a : Int)) = (f a).map nD
section
variable {S S' : Hs} {q N : Nat} {f : Mem} {B : List Nat}
theorem MemAt.kp (h : MemAt S q f N) (k : Kp B S S') (hq : q ∉ B) : MemAt S' q f N := by
  obtain ⟨kvs, h1, h2⟩ := h.ex; exact ⟨kvs, k.get h1 hq, h2⟩
theorem MemAt.lt (h : MemAt S q f N) : q < S.length := by obtain ⟨kvs, h1, _⟩ := h.ex; exact Real.lt h1
theorem MemAt.put (h : MemAt S q f N) (hN : N ≤ 10000000) (a v : Nat) : ∃ o, oSet (.ref q) (nD a) (nD v) S = .ok () (S.set q o) ∧ MemAt (S.set q o) q (f.put a v) (N + 1) := by
  obtain ⟨kvs, h1, h2, h3⟩ := h.ex
  refine ⟨.dic (setK kvs (.inl (a : Int)) (nD v)), oSet_dic h1 key_int (Nat.lt_of_le_of_lt (Nat.le_trans h2 hN) (by decide)), ⟨_, get_put h1, Nat.le_trans setK_len (by omega), fun x => ?_⟩⟩
  rw [getK_setK, h3]
  unfold Mem.put
  by_cases hx : x = a
  · subst hx; simp
  · have : ¬ ((.inl (x : Int) : Key) = .inl (a : Int)) := by intro e; have := Sum.inl.inj e; omega
    rw [if_neg this, if_neg hx]
end
section
variable {S : Hs} {q N : Nat} {f : Mem} {regs : List Rg}
end
theorem held_ix {S : Hs} {q : Nat} {s : PS} {many a : Nat} (h : S[q]? = some (.lst (s.held.map nD))) (ok : PSOk many s) (ha : a < 16) : oIx (.ref q) (nD a) S = .ok (nD (s.h a)) S := by
  have hl : a < s.held.length := by rw [ok.len]; exact ha
  exact oIx_lst h (by omega) (by simpa using hl) (by simp [List.getElem?_eq_getElem hl, PS.h, List.getD])
section
variable {S : Hs} {q many : Nat} {s : PS} {r : MRow} {fA : Nat → Addr}
def MRow.wr : MRow → Nat
  | .const d _ => d
  | .op _ d _ _ => d
  | .select d _ _ _ => d
  | .load d _ _ _ => d
  | _ => 0
end
theorem ContOk.flat {cs : List (List Nat)} {regs : List Rg} (hc : ContOk regs cs) : cs.flatten.length = sizes regs := by
  rw [List.length_flatten, hc.len]; rfl
theorem ContOk.dom {cs : List (List Nat)} {regs : List Rg} (hc : ContOk regs cs) : ∀ a, a < sizes regs → (mem0 cs a).isSome = true := fun a ha => by
  unfold mem0; rw [List.getElem?_eq_getElem (by rw [hc.flat]; exact ha)]; rfl
structure Run (many : Nat) (regs : List Rg) (qm qh qo N k : Nat) (s : PS) (S : Hs) : Prop where
  ok : PSOk many s
  mem : MemAt S qm s.mem (N + k)
  held : S[qh]? = some (.lst (s.held.map nD))
  outs : S[qo]? = some (.lst (s.outs.map nD))
  short : s.outs.length ≤ k
  dom : ∀ a, a < sizes regs → (s.mem a).isSome = true
section
variable {S S' : Hs} {many qm qh qo N k : Nat} {s : PS} {r : MRow} {fA : Nat → Addr} {regs : List Rg} {rows : List MRow} {cs : List (List Nat)}
theorem Run.kp {B : List Nat} (h : Run many regs qm qh qo N k s S) (hk : Kp B S S') (b1 : qm ∉ B) (b2 : qh ∉ B) (b3 : qo ∉ B) : Run many regs qm qh qo N k s S' :=
  ⟨h.ok, h.mem.kp hk b1, hk.get h.held b2, hk.get h.outs b3, h.short, h.dom⟩
theorem MemAt.more {f : Mem} {M : Nat} (h : MemAt S qm f N) (hn : N ≤ M) : MemAt S qm f M := by
  obtain ⟨kvs, h1, h2, h3⟩ := h.ex; exact ⟨kvs, h1, by omega, h3⟩
theorem MemAt.set {f : Mem} {o : O} (h : MemAt S qm f N) (hn : qm ≠ qh) : MemAt (S.set qh o) qm f N :=
  h.kp (B := [qh]) (Kp.set (by simp)) (by simpa using hn)
theorem get_set_ne {o o' : O} {i j : Nat} (h : S[i]? = some o) (hn : i ≠ j) : (S.set j o')[i]? = some o := by
  rw [List.getElem?_set_ne (fun e => hn e.symm)]; exact h
theorem Run.pc (h : Run many regs qm qh qo N k s S) {pc : Nat} (hp : pc < many) : Run many regs qm qh qo N (k + 1) { s with pc := pc } S :=
  ⟨⟨h.ok.len, h.ok.lt, h.ok.mlt, hp⟩, h.mem.more (by omega), h.held, h.outs, by have := h.short; show s.outs.length ≤ k + 1; omega, h.dom⟩
theorem Run.out (h : Run many regs qm qh qo N k s S) (hd1 : qm ≠ qo) (hd2 : qh ≠ qo) {w pc : Nat} (hp : pc < many) :
    Run many regs qm qh qo N (k + 1) { s with outs := s.outs ++ [w], pc := pc } (S.set qo (.lst (s.outs.map nD ++ [nD w]))) :=
  ⟨⟨h.ok.len, h.ok.lt, h.ok.mlt, hp⟩, (h.mem.more (by omega)).set hd1, get_set_ne h.held hd2, by rw [get_put h.outs]; simp, by have := h.short; simp; omega, h.dom⟩
theorem Run.put (h : Run many regs qm qh qo N k s S) (hN : N + k ≤ 10000000) (hd1 : qh ≠ qm) (hd2 : qo ≠ qm) {a w pc : Nat} (hw : w < 4294967296) (hp : pc < many) :
    ∃ o, oSet (.ref qm) (nD a) (nD w) S = .ok () (S.set qm o) ∧ Run many regs qm qh qo N (k + 1) { s with mem := s.mem.put a w, pc := pc } (S.set qm o) := by
  obtain ⟨o, h1, h2⟩ := h.mem.put hN a w
  refine ⟨o, h1, ⟨⟨h.ok.len, h.ok.lt, fun x y e => ?_, hp⟩, h2.more (by omega), get_set_ne h.held hd1, get_set_ne h.outs hd2, by have := h.short; show s.outs.length ≤ k + 1; omega, fun x hx => ?_⟩⟩
  · simp only [Mem.put] at e
    split at e
    · cases e; exact hw
    · exact h.ok.mlt x y e
  · show (s.mem.put a w x).isSome = true
    unfold Mem.put
    split
    · rfl
    · exact h.dom x hx
end
end Ly
set_option Elab.async false
set_option linter.all false
set_option maxRecDepth 100000
namespace Ly
open PySem PySem.Spec L2
open PyProof.Rows hiding St
local macro_rules | `(tactic| simp_arith [$ls,*]) => `(tactic| simp only [Ly.line_le, Ly.atX_no, Ly.v_ok, Ly.v_bad, Ly.v_bind, Ly.k_bd, Ly.v_at, Ly.v_bin, Ly.k_bi, Ly.k_bi2, Ly.v_var, Ly.v_c, Ly.v_un, Ly.k_un, Ly.v_if, Ly.k_ife, Ly.v_and, Ly.k_and, Ly.k_and2, Ly.v_or, Ly.k_or, Ly.k_or2, Ly.v_tup, Ly.k_tup, Ly.v_lst, Ly.k_lst, Ly.v_call, Ly.k_ca, Ly.v_fn, Ly.k_fn, Ly.v_bm, Ly.k_bm, Ly.k_bm2, Ly.v_sl, Ly.k_sl, Ly.k_sl2, Ly.k_sl3, Ly.v_ixK, Ly.k_ixk, Ly.v_inK, Ly.k_ink, Ly.v_notinK, Ly.k_nink, Ly.v_getK2, Ly.k_gk2, Ly.k_gk, Ly.v_get2, Ly.k_g2, Ly.k_g22, Ly.k_g23, Ly.v_nil, Ly.v_cons, Ly.k_co, Ly.k_co2, Ly.v_no, Ly.v_some, Ly.k_so, Ly.k_cm, Ly.v_cmp, Ly.v_tru, Ly.k_tr, Ly.v_notB, Ly.k_no, Ly.v_andB, Ly.k_an, Ly.v_orB, Ly.k_orb, Ly.v_yes, Ly.v_inKB, Ly.k_inkB, Ly.v_notinKB, Ly.k_ninkB, Ly.v_set, Ly.k_st, Ly.v_expr, Ly.k_ex, Ly.v_ret, Ly.k_re, Ly.v_retN, Ly.v_pass, Ly.v_brk, Ly.v_cnt, Ly.v_seq, Ly.k_sq_nx, Ly.k_sq_rt, Ly.k_sq_bk, Ly.k_sq_ct, Ly.v_ifS, Ly.k_ifs, Ly.v_asg, Ly.k_as, Ly.k_as2, Ly.v_aug, Ly.k_au, Ly.v_for, Ly.k_fo, Ly.v_it, Ly.k_it, Ly.k_ij, Ly.v_rng1, Ly.v_rng2, Ly.v_enum, Ly.v_zip, Ly.v_gN, Ly.v_gsN, Ly.v_gsC, Ly.k_gc, Ly.v_gT, Ly.v_gTw, Ly.v_gSb, Ly.k_gsb, Ly.k_gsb2, Ly.k_gsb3, Ly.k_en_rt, Ly.k_en_nx, Ly.k_tu_nx, Ly.k_tu_ct, Ly.k_tu_bk, Ly.k_tu_rt, Ly.v_lc, Ly.k_lc, Ly.v_augI, Ly.k_ag, Ly.k_ag2, Ly.k_ag3, Ly.k_ag4, Ly.k_ag5, Ly.v_del, Ly.k_dl, Ly.k_dl2, Ly.v_setd, Ly.v_pop2, Ly.k_d3, Ly.k_d32, Ly.k_d33, Ly.v_get1, Ly.k_g1, Ly.k_g12, Ly.v_rg1, Ly.k_rg, Ly.v_rg2, Ly.k_rg2, Ly.k_rg22, Ly.v_dicK, Ly.v_dicT, Ly.v_dc, Ly.k_dc, List.getElem?_cons_zero, List.getElem?_cons_succ, List.set_cons_zero, List.set_cons_succ, List.length_cons, List.length_nil, List.map_cons, List.map_nil, List.cons_append, List.nil_append, List.replicate, if_true, if_false, Bool.false_eq_true, Bool.not_true, Bool.not_false, Bool.true_and, Bool.false_and, decide_true, decide_false, decide_eq_true_eq, Nat.zero_add, Nat.reduceAdd, Nat.reduceLeDiff, true_and, and_true, $ls,*])
section
variable {X : XP} {S : Hs} {i j : Nat}
theorem nx {many : Int} {Q : D → Hs → Prop} (d : DrwN S i j) (hm : 0 < many) (h : ∀ (x : Nat) S', (x : Int) < many → DrwN S' i j → Kp [i] S S' → S'.length = S.length → Q (nD x) S') : Wp X (m_nextD [.ref i, .int many] S) Q := by
  refine Wp.call (nextD_ok d hm) ?_
  rintro _ S' ⟨x, rfl, h1, h2, h3, h4⟩
  exact h x S' h1 h2 h3 h4
def Dw (i j : Nat) (S : Hs) (P : D → Prop) : D → Hs → Prop := fun v S' => P v ∧ DrwN S' i j ∧ Kp [i] S S'
structure CodeN (regs : List Rg) (rows : List MRow) : Prop where
  ok : CodeOk regs rows
  sz : sizes regs ≤ 150
  pos : 0 < regs.length
  few : regs.length ≤ 4
  short : rows.length ≤ 60
end
section
variable {S : Hs} {a b : Nat}
end
end Ly
set_option Elab.async false
set_option linter.all false
set_option maxRecDepth 100000
namespace Ly
open PySem PySem.Spec L2
open PyProof.Rows hiding St
local macro_rules | `(tactic| simp_arith [$ls,*]) => `(tactic| simp only [Ly.line_le, Ly.atX_no, Ly.v_ok, Ly.v_bad, Ly.v_bind, Ly.k_bd, Ly.v_at, Ly.v_bin, Ly.k_bi, Ly.k_bi2, Ly.v_var, Ly.v_c, Ly.v_un, Ly.k_un, Ly.v_if, Ly.k_ife, Ly.v_and, Ly.k_and, Ly.k_and2, Ly.v_or, Ly.k_or, Ly.k_or2, Ly.v_tup, Ly.k_tup, Ly.v_lst, Ly.k_lst, Ly.v_call, Ly.k_ca, Ly.v_fn, Ly.k_fn, Ly.v_bm, Ly.k_bm, Ly.k_bm2, Ly.v_sl, Ly.k_sl, Ly.k_sl2, Ly.k_sl3, Ly.v_ixK, Ly.k_ixk, Ly.v_inK, Ly.k_ink, Ly.v_notinK, Ly.k_nink, Ly.v_getK2, Ly.k_gk2, Ly.k_gk, Ly.v_get2, Ly.k_g2, Ly.k_g22, Ly.k_g23, Ly.v_nil, Ly.v_cons, Ly.k_co, Ly.k_co2, Ly.v_no, Ly.v_some, Ly.k_so, Ly.k_cm, Ly.v_cmp, Ly.v_tru, Ly.k_tr, Ly.v_notB, Ly.k_no, Ly.v_andB, Ly.k_an, Ly.v_orB, Ly.k_orb, Ly.v_yes, Ly.v_inKB, Ly.k_inkB, Ly.v_notinKB, Ly.k_ninkB, Ly.v_set, Ly.k_st, Ly.v_expr, Ly.k_ex, Ly.v_ret, Ly.k_re, Ly.v_retN, Ly.v_pass, Ly.v_brk, Ly.v_cnt, Ly.v_seq, Ly.k_sq_nx, Ly.k_sq_rt, Ly.k_sq_bk, Ly.k_sq_ct, Ly.v_ifS, Ly.k_ifs, Ly.v_asg, Ly.k_as, Ly.k_as2, Ly.v_aug, Ly.k_au, Ly.v_for, Ly.k_fo, Ly.v_it, Ly.k_it, Ly.k_ij, Ly.v_rng1, Ly.v_rng2, Ly.v_enum, Ly.v_zip, Ly.v_gN, Ly.v_gsN, Ly.v_gsC, Ly.k_gc, Ly.v_gT, Ly.v_gTw, Ly.v_gSb, Ly.k_gsb, Ly.k_gsb2, Ly.k_gsb3, Ly.k_en_rt, Ly.k_en_nx, Ly.k_tu_nx, Ly.k_tu_ct, Ly.k_tu_bk, Ly.k_tu_rt, Ly.v_lc, Ly.k_lc, Ly.v_augI, Ly.k_ag, Ly.k_ag2, Ly.k_ag3, Ly.k_ag4, Ly.k_ag5, Ly.v_del, Ly.k_dl, Ly.k_dl2, Ly.v_setd, Ly.v_pop2, Ly.k_d3, Ly.k_d32, Ly.k_d33, Ly.v_get1, Ly.k_g1, Ly.k_g12, Ly.v_rg1, Ly.k_rg, Ly.v_rg2, Ly.k_rg2, Ly.k_rg22, Ly.v_dicK, Ly.v_dicT, Ly.v_dc, Ly.k_dc, List.getElem?_cons_zero, List.getElem?_cons_succ, List.set_cons_zero, List.set_cons_succ, List.length_cons, List.length_nil, List.map_cons, List.map_nil, List.cons_append, List.nil_append, List.replicate, if_true, if_false, Bool.false_eq_true, Bool.not_true, Bool.not_false, Bool.true_and, Bool.false_and, decide_true, decide_false, decide_eq_true_eq, Nat.zero_add, Nat.reduceAdd, Nat.reduceLeDiff, true_and, and_true, $ls,*])
noncomputable def b_Vcache : MS := (mSeq (mSet 1 (mBin oIx (mLst (lCons (mC (.str "lru")) (lCons (mC (.str "fifo")) (lCons (mC (.str "plru")) lNil)))) (mFn m_nextD (lCons (mVar 0) (lCons (mC (.int 3)) lNil)))))
    (mRet (mTup (lCons (mBin oShl (mC (.int 1)) (mBin oIx (mLst (lCons (mC (.int 0)) (lCons (mC (.int 0)) (lCons (mC (.int 1)) (lCons (mC (.int 1)) (lCons (mC (.int 2)) (lCons (mC (.int 3)) (lCons (mC (.int 6)) lNil)))))))) (mFn m_nextD (lCons (mVar 0) (lCons (mC (.int 7)) lNil))))) (lCons (mBin oShl (mC (.int 1)) (mFn m_nextD (lCons (mVar 0) (lCons (mC (.int 4)) lNil)))) (lCons (mBin oShl (mC (.int 1)) (mFn m_nextD (lCons (mVar 0) (lCons (mC (.int 5)) lNil)))) (lCons (mVar 1) lNil)))))))
noncomputable def m_Vcache : MD := mDef 1 1 b_Vcache
def polsL : List Str := ["lru", "fifo", "plru"]
structure CS where
  e : Nat
  w : Nat
  l : Nat
  p : Str
def CS.D (c : CS) : D := .tup [nD (2 ^ c.e), nD (2 ^ c.w), nD (2 ^ c.l), .str c.p]
structure CS.ok (c : CS) : Prop where
  e : c.e ≤ 6
  w : c.w ≤ 3
  l : c.l ≤ 4
  p : c.p ∈ polsL
inductive PD where
  | taken | two (k : Nat) | hist (n : Nat)
def PD.D : PD → D
  | .taken => .tup [.str "taken"]
  | .two k => .tup [.str "two", nD (2 ^ k)]
  | .hist n => .tup [.str "history", nD n]
def PD.ok : PD → Prop
  | .taken => True
  | .two k => k ≤ 6
  | .hist n => 1 ≤ n ∧ n ≤ 6
inductive Prep where
  | data (a : Nat) | fetch (a : Nat) | branch (a : Nat) (t : Bool)
def Prep.D : Prep → D
  | .data a => .tup [.str "data", nD a]
  | .fetch a => .tup [.str "fetch", nD a]
  | .branch a t => .tup [.str "branch", nD a, .bl t]
def Prep.ok : Prep → Prop
  | .data a => a ≤ 10000
  | .fetch a => a ≤ 10000
  | .branch a _ => a ≤ 10000
structure Vis where
  n : Nat
  touch : Bool
  a : Nat
def Vis.D (v : Vis) : D := .tup [nD v.n, .str (if v.touch = true then "touch" else "drop"), nD v.a]
def Sorted : Nat → List Vis → Prop
  | _, [] => True
  | m, v :: vs => m ≤ v.n ∧ Sorted v.n vs
structure SS where
  data : CS
  fetch : CS
  pr : PD
  depth : Nat
  miss : Nat
  wrong : Nat
  before : List Prep
  visits : List Vis
def SS.D (s : SS) : D := .tup [s.data.D, s.fetch.D, s.pr.D, nD s.depth, .tup [nD s.miss, nD s.wrong], .tup (s.before.map Prep.D), .tup (s.visits.map Vis.D)]
structure SS.ok (s : SS) : Prop where
  data : s.data.ok
  fetch : s.fetch.ok
  pr : s.pr.ok
  depth : s.depth ≤ 64
  miss : s.miss ≤ 100
  wrong1 : 1 ≤ s.wrong
  wrong : s.wrong ≤ 100
  before : ∀ b ∈ s.before, b.ok
  beforeN : s.before.length ≤ 12
  visits : ∀ v ∈ s.visits, v.n ≤ 100 ∧ v.a ≤ 10000
  sorted : Sorted 0 s.visits
  visitsN : s.visits.length ≤ 10
section
variable {X : XP} {S : Hs} {i j : Nat}
theorem sh1 (b : Nat) (S : Hs) (hb : b ≤ 6) : oShl (.int 1) (nD b) S = .ok (nD (2 ^ b)) S := by
  rw [oShl_int (by omega) (by omega) (by decide)]
  simp [nD]
theorem Vcache_ok (d : DrwN S i j) : Wp NoX (m_Vcache [.ref i] S) (Dw i j S fun v => ∃ c : CS, v = c.D ∧ c.ok) := by
  refine wp_def0 rfl ?_
  unfold b_Vcache
  have hi := d.lt
  simp_arith [Ly.v_fld, Ly.v_meth, Ly.k_me2, Ly.v_make, Ly.k_mk, Ly.v_fldset, Ly.k_fs, Ly.v_fldaug, Ly.k_fa2, Ly.look1, List.mem_cons, List.not_mem_nil, or_false, true_or, or_true]
  refine nx d.new (by decide) fun c S1 hc d1 k1 _ => ?_
  refine wp_ix (k1.get get_end (by simp; omega)) (by omega) (by simpa using hc) ?_
  intro y hy
  obtain ⟨pol, rfl, hpol⟩ : ∃ pol : Str, y = .str pol ∧ pol ∈ polsL := by
    simp only [List.mem_cons, List.not_mem_nil, or_false] at hy
    rcases hy with rfl | rfl | rfl <;> exact ⟨_, rfl, by simp [polsL]⟩
  have k01 : Kp [i] S S1 := Kp.new.trans k1
  simp_arith [Ly.v_fld, Ly.v_meth, Ly.k_me2, Ly.v_make, Ly.k_mk, Ly.v_fldset, Ly.k_fs, Ly.v_fldaug, Ly.k_fa2, Ly.look1, List.mem_cons, List.not_mem_nil, or_false, true_or, or_true]
  refine nx d1.new (by decide) fun c2 S2 hc2 d2 k2 _ => ?_
  have hle := k01.le
  refine wp_ix (k2.get get_end (by simp; omega)) (by omega) (by simpa using hc2) ?_
  intro y hy
  obtain ⟨sh, rfl, hsh⟩ : ∃ sh : Nat, y = nD sh ∧ sh ≤ 6 := by
    simp only [List.mem_cons, List.not_mem_nil, or_false] at hy
    rcases hy with rfl | rfl | rfl | rfl | rfl | rfl | rfl
    · exact ⟨0, rfl, by omega⟩
    · exact ⟨0, rfl, by omega⟩
    · exact ⟨1, rfl, by omega⟩
    · exact ⟨1, rfl, by omega⟩
    · exact ⟨2, rfl, by omega⟩
    · exact ⟨3, rfl, by omega⟩
    · exact ⟨6, rfl, by omega⟩
  simp_arith [Ly.v_fld, Ly.v_meth, Ly.k_me2, Ly.v_make, Ly.k_mk, Ly.v_fldset, Ly.k_fs, Ly.v_fldaug, Ly.k_fa2, Ly.look1, List.mem_cons, List.not_mem_nil, or_false, true_or, or_true, sh1 sh _ hsh]
  refine nx d2 (by decide) fun w S3 hw d3 k3 _ => ?_
  simp_arith [Ly.v_fld, Ly.v_meth, Ly.k_me2, Ly.v_make, Ly.k_mk, Ly.v_fldset, Ly.k_fs, Ly.v_fldaug, Ly.k_fa2, Ly.look1, List.mem_cons, List.not_mem_nil, or_false, true_or, or_true, sh1 w _ (by omega)]
  refine nx d3 (by decide) fun l S4 hl d4 k4 _ => ?_
  simp_arith [Ly.v_fld, Ly.v_meth, Ly.k_me2, Ly.v_make, Ly.k_mk, Ly.v_fldset, Ly.k_fs, Ly.v_fldaug, Ly.k_fa2, Ly.look1, List.mem_cons, List.not_mem_nil, or_false, true_or, or_true, sh1 l _ (by omega)]
  exact ⟨⟨⟨sh, w, l, pol⟩, rfl, hsh, by show w ≤ 3; omega, by show l ≤ 4; omega, hpol⟩, d4, ((k01.trans Kp.new).trans k2).trans (k3.trans k4)⟩
end
end Ly
set_option Elab.async false
set_option linter.all false
set_option maxRecDepth 100000
namespace Ly
open PySem PySem.Spec L2
open PyProof.Rows hiding St
local macro_rules | `(tactic| simp_arith [$ls,*]) => `(tactic| simp only [Ly.line_le, Ly.atX_no, Ly.v_ok, Ly.v_bad, Ly.v_bind, Ly.k_bd, Ly.v_at, Ly.v_bin, Ly.k_bi, Ly.k_bi2, Ly.v_var, Ly.v_c, Ly.v_un, Ly.k_un, Ly.v_if, Ly.k_ife, Ly.v_and, Ly.k_and, Ly.k_and2, Ly.v_or, Ly.k_or, Ly.k_or2, Ly.v_tup, Ly.k_tup, Ly.v_lst, Ly.k_lst, Ly.v_call, Ly.k_ca, Ly.v_fn, Ly.k_fn, Ly.v_bm, Ly.k_bm, Ly.k_bm2, Ly.v_sl, Ly.k_sl, Ly.k_sl2, Ly.k_sl3, Ly.v_ixK, Ly.k_ixk, Ly.v_inK, Ly.k_ink, Ly.v_notinK, Ly.k_nink, Ly.v_getK2, Ly.k_gk2, Ly.k_gk, Ly.v_get2, Ly.k_g2, Ly.k_g22, Ly.k_g23, Ly.v_nil, Ly.v_cons, Ly.k_co, Ly.k_co2, Ly.v_no, Ly.v_some, Ly.k_so, Ly.k_cm, Ly.v_cmp, Ly.v_tru, Ly.k_tr, Ly.v_notB, Ly.k_no, Ly.v_andB, Ly.k_an, Ly.v_orB, Ly.k_orb, Ly.v_yes, Ly.v_inKB, Ly.k_inkB, Ly.v_notinKB, Ly.k_ninkB, Ly.v_set, Ly.k_st, Ly.v_expr, Ly.k_ex, Ly.v_ret, Ly.k_re, Ly.v_retN, Ly.v_pass, Ly.v_brk, Ly.v_cnt, Ly.v_seq, Ly.k_sq_nx, Ly.k_sq_rt, Ly.k_sq_bk, Ly.k_sq_ct, Ly.v_ifS, Ly.k_ifs, Ly.v_asg, Ly.k_as, Ly.k_as2, Ly.v_aug, Ly.k_au, Ly.v_for, Ly.k_fo, Ly.v_it, Ly.k_it, Ly.k_ij, Ly.v_rng1, Ly.v_rng2, Ly.v_enum, Ly.v_zip, Ly.v_gN, Ly.v_gsN, Ly.v_gsC, Ly.k_gc, Ly.v_gT, Ly.v_gTw, Ly.v_gSb, Ly.k_gsb, Ly.k_gsb2, Ly.k_gsb3, Ly.k_en_rt, Ly.k_en_nx, Ly.k_tu_nx, Ly.k_tu_ct, Ly.k_tu_bk, Ly.k_tu_rt, Ly.v_lc, Ly.k_lc, Ly.v_augI, Ly.k_ag, Ly.k_ag2, Ly.k_ag3, Ly.k_ag4, Ly.k_ag5, Ly.v_del, Ly.k_dl, Ly.k_dl2, Ly.v_setd, Ly.v_pop2, Ly.k_d3, Ly.k_d32, Ly.k_d33, Ly.v_get1, Ly.k_g1, Ly.k_g12, Ly.v_rg1, Ly.k_rg, Ly.v_rg2, Ly.k_rg2, Ly.k_rg22, Ly.v_dicK, Ly.v_dicT, Ly.v_dc, Ly.k_dc, List.getElem?_cons_zero, List.getElem?_cons_succ, List.set_cons_zero, List.set_cons_succ, List.length_cons, List.length_nil, List.map_cons, List.map_nil, List.cons_append, List.nil_append, List.replicate, if_true, if_false, Bool.false_eq_true, Bool.not_true, Bool.not_false, Bool.true_and, Bool.false_and, decide_true, decide_false, decide_eq_true_eq, Nat.zero_add, Nat.reduceAdd, Nat.reduceLeDiff, true_and, and_true, $ls,*])
theorem contig_base : ∀ {regs : List Rg} {b k : Nat} {r : Rg}, Contig b regs → regs[k]? = some r → r.base = b + sizes (regs.take k)
  | [], _, _, _, _, h => by simp at h
  | x :: xs, b, 0, r, ⟨h1, _, _⟩, h => by simp at h; subst h; simp [sizes, h1]
  | x :: xs, b, k + 1, r, ⟨h1, h2, h3⟩, h => by
    rw [contig_base h3 (by simpa using h)]; simp [sizes]; omega
theorem flat_at {cs : List (List Nat)} {c : List Nat} {k j : Nat} (h : cs[k]? = some c) (hj : j < c.length) : cs.flatten[(cs.take k).flatten.length + j]? = c[j]? := by
  have e := split_at h
  conv => lhs; rw [e]
  rw [List.flatten_append, List.flatten_cons]
  have e2 : (List.take k cs ++ c :: List.drop (k + 1) cs).take k = List.take k cs := by rw [← e]
  rw [List.getElem?_append_right (by simp [← e])]
  rw [← e, Nat.add_sub_cancel_left, List.getElem?_append_left hj]
section
variable {S S' : Hs} {regs : List Rg} {rows : List MRow} {cs : List (List Nat)}
theorem ContOk.at (hc : ContOk regs cs) (cg : Contig 0 regs) {k j : Nat} {r : Rg} (hr : regs[k]? = some r) (hj : j < r.size) : ∃ c w, cs[k]? = some c ∧ c.length = r.size ∧ c[j]? = some w ∧ mem0 cs (r.base + j) = some w := by
  have hl := congrArg (fun l => l[k]?) hc.len
  simp only [List.getElem?_map, hr, Option.map_some] at hl
  obtain ⟨c, hck, hcl⟩ := Option.map_eq_some_iff.mp hl
  have hjc : j < c.length := by omega
  have hb := contig_base cg hr
  have hf : (cs.take k).flatten.length = sizes (regs.take k) := by
    rw [List.length_flatten]
    unfold sizes
    rw [List.map_take, List.map_take, hc.len]
  refine ⟨c, c[j], hck, hcl, List.getElem?_eq_getElem hjc, ?_⟩
  unfold mem0
  have := flat_at hck hjc
  rw [hf] at this
  rw [hb, Nat.zero_add, this, List.getElem?_eq_getElem hjc]
end
section
variable {qh qm qo : Nat} {a b : Int}
end
section
variable {S S' : Hs} {many im qm qh qo N k : Nat} {s : PS} {r : MRow} {regs : List Rg} {rows : List MRow} {cs : List (List Nat)}
theorem plains_map {α : Type} {f : α → D} {xs : List α} (h : ∀ x, D.plain (f x) = true) : D.plains (xs.map f) = true := by
  rw [plains_mem]; intro y hy; obtain ⟨x, _, rfl⟩ := List.mem_map.mp hy; exact h x
end
end Ly
set_option Elab.async false
set_option linter.all false
set_option maxRecDepth 100000
namespace Ly
open PySem PySem.Spec L2
open PyProof.Rows hiding St
inductive Ev where
  | fetch (t l : Nat) (h : Bool) | data (t l : Nat) (h : Bool) | guess (t r : Nat) (g : Bool) | back (t r : Nat) | out (t w : Nat) | stop (t : Nat) | visit (touch : Bool) (t l : Nat) (f : Bool)
def Ev.D : Ev → D
  | .fetch t l h => .tup [.str "fetch", nD t, nD l, .bl h]
  | .data t l h => .tup [.str "data", nD t, nD l, .bl h]
  | .guess t r g => .tup [.str "guess", nD t, nD r, .bl g]
  | .back t r => .tup [.str "back", nD t, nD r]
  | .out t w => .tup [.str "out", nD t, nD w]
  | .stop t => .tup [.str "stop", nD t]
  | .visit touch t l f => .tup [.str (if touch = true then "touch" else "drop"), nD t, nD l, .bl f]
structure Cn where
  rows : List MRow
  depth : Nat
  miss : Nat
  wrong : Nat
  visits : List Vis
structure Mc where
  data : CM
  fetch : CM
  hs : Nat
  h : Nat
  cs : List Nat
  mem : Mem
  vm : Nat
  fe : Nat
  cl : Nat
  outs : List Nat
  tr : List Ev
structure Wy where
  held : List Nat
  ready : List Nat
  stored : Option Mem
def Wy.h (w : Wy) (a : Nat) : Nat := w.held.getD a 0
def Wy.r (w : Wy) (a : Nat) : Nat := w.ready.getD a 0
def Mc.visit (m : Mc) (v : Vis) : Mc := { m with data := if v.touch = true then m.data.touch (v.a / m.data.line) else m.data.drop (v.a / m.data.line), tr := m.tr ++ [.visit v.touch m.cl (v.a / m.data.line) (m.data.has (v.a / m.data.line))] }
def Mc.visits (K : Cn) : Nat → Mc → Mc
  | 0, m => m
  | f + 1, m => match K.visits[m.vm]? with
    | some v => if v.n ≤ m.fe then Mc.visits K f { m.visit v with vm := m.vm + 1 } else m
    | none => m
def Mc.guessed (m : Mc) (r : Nat) : Bool := decide (m.cs.length = 0 ∨ 2 ≤ m.cs.getD (prAt m.cs.length m.h r) 0)
def Mc.guess (m : Mc) (r : Nat) : Mc := { m with tr := m.tr ++ [.guess m.cl r (m.guessed r)], cl := m.cl + 1 }
def Mc.learn (m : Mc) (r : Nat) (t : Bool) : Mc := if m.cs.length = 0 then m else { m with h := (2 * m.h + b2n t) % m.hs, cs := prStep m.cs m.h r t }
structure QAd where
  q : Nat
  me : Nat
  ou : Nat
  tr : Nat
  pr : Nat
  pj : Nat
  d : CAd
  f : CAd
def QAd.sc (a : QAd) : List Nat := [a.q, a.me, a.ou, a.tr, a.pr, a.pj]
def QAd.fp (a : QAd) : List Nat := a.sc ++ (a.d.fp ++ a.f.fp)
structure QAd.ok (a : QAd) : Prop where
  sc : a.sc.Nodup
  sd : ∀ x ∈ a.sc, x ∉ a.d.fp
  sf : ∀ x ∈ a.sc, x ∉ a.f.fp
  df : ∀ x ∈ a.d.fp, x ∉ a.f.fp
def mcF (K : Cn) (a : QAd) (vm fe cl : Nat) : List (Str × D) := [("rows", .tup (K.rows.map MRow.D)), ("memory", .ref a.me), ("data_cache", .ref a.d.c), ("fetch_cache", .ref a.f.c), ("predictor", .ref a.pr), ("depth", nD K.depth), ("miss", nD K.miss), ("wrong", nD K.wrong), ("visits", .tup (K.visits.map Vis.D)), ("visits_made", nD vm), ("fetches", nD fe), ("clock", nD cl), ("outs", .ref a.ou), ("trace", .ref a.tr)]
section
variable {K : Cn} {a : QAd} {vm fe cl x : Nat}
end
structure MAt (S : Hs) (cA : Nat → Addr) (K : Cn) (m : Mc) (a : QAd) (B : Nat) : Prop where
  ok : a.ok
  o : S[a.q]? = some (.ins (cA 5) (mcF K a m.vm m.fe m.cl))
  mem : MemAt S a.me m.mem B
  ou : S[a.ou]? = some (.lst (m.outs.map nD))
  tr : S[a.tr]? = some (.lst (m.tr.map Ev.D))
  pr : Pr S (cA 3) a.pr a.pj m.hs m.h m.cs
  dc : Ca S (cA 0) (cA 1) (cA 2) m.data a.d
  fc : Ca S (cA 0) (cA 1) (cA 2) m.fetch a.f
  bo : m.outs.length ≤ B
  bt : m.tr.length ≤ B
  mlt : ∀ x v, m.mem x = some v → v < 4294967296
section
variable {S S' : Hs} {cA : Nat → Addr} {K : Cn} {m : Mc} {a : QAd} {B B' : Nat} {A : List Nat} {X : XP}
theorem QAd.mem_sc {x : Nat} (h : x ∈ a.sc) : x ∈ a.fp := List.mem_append_left _ h
theorem QAd.mem_d {x : Nat} (h : x ∈ a.d.fp) : x ∈ a.fp := List.mem_append_right _ (List.mem_append_left _ h)
theorem QAd.mem_f {x : Nat} (h : x ∈ a.f.fp) : x ∈ a.fp := List.mem_append_right _ (List.mem_append_right _ h)
theorem MAt.kp (h : MAt S cA K m a B) (k : Kp A S S') (hA : ∀ x ∈ a.fp, x ∉ A) : MAt S' cA K m a B := by
  have s : ∀ {x}, x ∈ a.sc → x ∉ A := fun hx => hA _ (QAd.mem_sc hx)
  exact { h with o := k.get h.o (s (by simp [QAd.sc])), mem := h.mem.kp k (s (by simp [QAd.sc])), ou := k.get h.ou (s (by simp [QAd.sc])), tr := k.get h.tr (s (by simp [QAd.sc])), pr := h.pr.kp k (s (by simp [QAd.sc])) (s (by simp [QAd.sc])), dc := h.dc.kp k fun x hx => hA x (QAd.mem_d hx), fc := h.fc.kp k fun x hx => hA x (QAd.mem_f hx) }
theorem MAt.more (h : MAt S cA K m a B) (hB : B ≤ B') : MAt S cA K m a B' := { h with mem := h.mem.more hB, bo := Nat.le_trans h.bo hB, bt := Nat.le_trans h.bt hB }
theorem QAd.ok.ne (h : a.ok) : a.q ≠ a.me ∧ a.q ≠ a.ou ∧ a.q ≠ a.tr ∧ a.q ≠ a.pr ∧ a.q ≠ a.pj ∧ a.me ≠ a.ou ∧ a.me ≠ a.tr ∧ a.me ≠ a.pr ∧ a.me ≠ a.pj ∧ a.ou ≠ a.tr ∧ a.ou ≠ a.pr ∧ a.ou ≠ a.pj ∧ a.tr ≠ a.pr ∧ a.tr ≠ a.pj ∧ a.pr ≠ a.pj := by
  have := h.sc
  simp only [QAd.sc, List.nodup_cons, List.mem_cons, List.not_mem_nil, or_false, not_or, not_false_eq_true, List.nodup_nil, and_true] at this
  obtain ⟨⟨h1, h2, h3, h4, h5⟩, ⟨h6, h7, h8, h9⟩, ⟨h10, h11, h12⟩, ⟨h13, h14⟩, h15⟩ := this
  exact ⟨h1, h2, h3, h4, h5, h6, h7, h8, h9, h10, h11, h12, h13, h14, h15⟩
theorem MAt.fld (h : MAt S cA K m a B) (vm fe cl : Nat) : MAt (S.set a.q (.ins (cA 5) (mcF K a vm fe cl))) cA K { m with vm := vm, fe := fe, cl := cl } a B := by
  obtain ⟨n1, n2, n3, n4, n5, -⟩ := h.ok.ne
  have k : Kp [a.q] S (S.set a.q (.ins (cA 5) (mcF K a vm fe cl))) := Kp.set (by simp)
  have q : a.q ∈ a.sc := by simp [QAd.sc]
  exact { h with o := get_put h.o, mem := h.mem.kp k (by simpa using n1.symm), ou := k.get h.ou (by simpa using n2.symm), tr := k.get h.tr (by simpa using n3.symm), pr := h.pr.kp k (by simpa using n4.symm) (by simpa using n5.symm), dc := h.dc.kp k (fun x hx hx2 => by rw [List.mem_singleton.mp hx2] at hx; exact h.ok.sd _ q hx), fc := h.fc.kp k (fun x hx hx2 => by rw [List.mem_singleton.mp hx2] at hx; exact h.ok.sf _ q hx) }
end
end Ly
set_option Elab.async false
set_option linter.all false
set_option maxRecDepth 100000
namespace Ly
open PySem PySem.Spec L2
open PyProof.Rows hiding St
local macro_rules | `(tactic| simp_arith [$ls,*]) => `(tactic| simp only [Ly.line_le, Ly.atX_no, Ly.v_ok, Ly.v_bad, Ly.v_bind, Ly.k_bd, Ly.v_at, Ly.v_bin, Ly.k_bi, Ly.k_bi2, Ly.v_var, Ly.v_c, Ly.v_un, Ly.k_un, Ly.v_if, Ly.k_ife, Ly.v_and, Ly.k_and, Ly.k_and2, Ly.v_or, Ly.k_or, Ly.k_or2, Ly.v_tup, Ly.k_tup, Ly.v_lst, Ly.k_lst, Ly.v_call, Ly.k_ca, Ly.v_fn, Ly.k_fn, Ly.v_bm, Ly.k_bm, Ly.k_bm2, Ly.v_sl, Ly.k_sl, Ly.k_sl2, Ly.k_sl3, Ly.v_ixK, Ly.k_ixk, Ly.v_inK, Ly.k_ink, Ly.v_notinK, Ly.k_nink, Ly.v_getK2, Ly.k_gk2, Ly.k_gk, Ly.v_get2, Ly.k_g2, Ly.k_g22, Ly.k_g23, Ly.v_nil, Ly.v_cons, Ly.k_co, Ly.k_co2, Ly.v_no, Ly.v_some, Ly.k_so, Ly.k_cm, Ly.v_cmp, Ly.v_tru, Ly.k_tr, Ly.v_notB, Ly.k_no, Ly.v_andB, Ly.k_an, Ly.v_orB, Ly.k_orb, Ly.v_yes, Ly.v_inKB, Ly.k_inkB, Ly.v_notinKB, Ly.k_ninkB, Ly.v_set, Ly.k_st, Ly.v_expr, Ly.k_ex, Ly.v_ret, Ly.k_re, Ly.v_retN, Ly.v_pass, Ly.v_brk, Ly.v_cnt, Ly.v_seq, Ly.k_sq_nx, Ly.k_sq_rt, Ly.k_sq_bk, Ly.k_sq_ct, Ly.v_ifS, Ly.k_ifs, Ly.v_asg, Ly.k_as, Ly.k_as2, Ly.v_aug, Ly.k_au, Ly.v_for, Ly.k_fo, Ly.v_it, Ly.k_it, Ly.k_ij, Ly.v_rng1, Ly.v_rng2, Ly.v_enum, Ly.v_zip, Ly.v_gN, Ly.v_gsN, Ly.v_gsC, Ly.k_gc, Ly.v_gT, Ly.v_gTw, Ly.v_gSb, Ly.k_gsb, Ly.k_gsb2, Ly.k_gsb3, Ly.k_en_rt, Ly.k_en_nx, Ly.k_tu_nx, Ly.k_tu_ct, Ly.k_tu_bk, Ly.k_tu_rt, Ly.v_lc, Ly.k_lc, Ly.v_augI, Ly.k_ag, Ly.k_ag2, Ly.k_ag3, Ly.k_ag4, Ly.k_ag5, Ly.v_del, Ly.k_dl, Ly.k_dl2, Ly.v_setd, Ly.v_pop2, Ly.k_d3, Ly.k_d32, Ly.k_d33, Ly.v_get1, Ly.k_g1, Ly.k_g12, Ly.v_rg1, Ly.k_rg, Ly.v_rg2, Ly.k_rg2, Ly.k_rg22, Ly.v_dicK, Ly.v_dicT, Ly.v_dc, Ly.k_dc, List.getElem?_cons_zero, List.getElem?_cons_succ, List.set_cons_zero, List.set_cons_succ, List.length_cons, List.length_nil, List.map_cons, List.map_nil, List.cons_append, List.nil_append, List.replicate, if_true, if_false, Bool.false_eq_true, Bool.not_true, Bool.not_false, Bool.true_and, Bool.false_and, decide_true, decide_false, decide_eq_true_eq, Nat.zero_add, Nat.reduceAdd, Nat.reduceLeDiff, true_and, and_true, $ls,*])
section
variable {S S' : Hs} {cA : Nat → Addr} {K : Cn} {m : Mc} {a : QAd} {B : Nat} {X : XP}
theorem MAt.kfp (h : MAt S cA K m a B) : a.q ∈ a.fp ∧ a.me ∈ a.fp ∧ a.ou ∈ a.fp ∧ a.tr ∈ a.fp ∧ a.pr ∈ a.fp ∧ a.pj ∈ a.fp := by
  refine ⟨?_, ?_, ?_, ?_, ?_, ?_⟩ <;> exact QAd.mem_sc (by simp [QAd.sc])
theorem kd (k : Kp a.d.fp S S') : Kp a.fp S S' := k.sub fun x hx _ => QAd.mem_d hx
end
end Ly
set_option Elab.async false
set_option linter.all false
set_option maxRecDepth 100000
namespace Ly
open PySem PySem.Spec L2
open PyProof.Rows hiding St
local macro_rules | `(tactic| simp_arith [$ls,*]) => `(tactic| simp only [Ly.line_le, Ly.atX_no, Ly.v_ok, Ly.v_bad, Ly.v_bind, Ly.k_bd, Ly.v_at, Ly.v_bin, Ly.k_bi, Ly.k_bi2, Ly.v_var, Ly.v_c, Ly.v_un, Ly.k_un, Ly.v_if, Ly.k_ife, Ly.v_and, Ly.k_and, Ly.k_and2, Ly.v_or, Ly.k_or, Ly.k_or2, Ly.v_tup, Ly.k_tup, Ly.v_lst, Ly.k_lst, Ly.v_call, Ly.k_ca, Ly.v_fn, Ly.k_fn, Ly.v_bm, Ly.k_bm, Ly.k_bm2, Ly.v_sl, Ly.k_sl, Ly.k_sl2, Ly.k_sl3, Ly.v_ixK, Ly.k_ixk, Ly.v_inK, Ly.k_ink, Ly.v_notinK, Ly.k_nink, Ly.v_getK2, Ly.k_gk2, Ly.k_gk, Ly.v_get2, Ly.k_g2, Ly.k_g22, Ly.k_g23, Ly.v_nil, Ly.v_cons, Ly.k_co, Ly.k_co2, Ly.v_no, Ly.v_some, Ly.k_so, Ly.k_cm, Ly.v_cmp, Ly.v_tru, Ly.k_tr, Ly.v_notB, Ly.k_no, Ly.v_andB, Ly.k_an, Ly.v_orB, Ly.k_orb, Ly.v_yes, Ly.v_inKB, Ly.k_inkB, Ly.v_notinKB, Ly.k_ninkB, Ly.v_set, Ly.k_st, Ly.v_expr, Ly.k_ex, Ly.v_ret, Ly.k_re, Ly.v_retN, Ly.v_pass, Ly.v_brk, Ly.v_cnt, Ly.v_seq, Ly.k_sq_nx, Ly.k_sq_rt, Ly.k_sq_bk, Ly.k_sq_ct, Ly.v_ifS, Ly.k_ifs, Ly.v_asg, Ly.k_as, Ly.k_as2, Ly.v_aug, Ly.k_au, Ly.v_for, Ly.k_fo, Ly.v_it, Ly.k_it, Ly.k_ij, Ly.v_rng1, Ly.v_rng2, Ly.v_enum, Ly.v_zip, Ly.v_gN, Ly.v_gsN, Ly.v_gsC, Ly.k_gc, Ly.v_gT, Ly.v_gTw, Ly.v_gSb, Ly.k_gsb, Ly.k_gsb2, Ly.k_gsb3, Ly.k_en_rt, Ly.k_en_nx, Ly.k_tu_nx, Ly.k_tu_ct, Ly.k_tu_bk, Ly.k_tu_rt, Ly.v_lc, Ly.k_lc, Ly.v_augI, Ly.k_ag, Ly.k_ag2, Ly.k_ag3, Ly.k_ag4, Ly.k_ag5, Ly.v_del, Ly.k_dl, Ly.k_dl2, Ly.v_setd, Ly.v_pop2, Ly.k_d3, Ly.k_d32, Ly.k_d33, Ly.v_get1, Ly.k_g1, Ly.k_g12, Ly.v_rg1, Ly.k_rg, Ly.v_rg2, Ly.k_rg2, Ly.k_rg22, Ly.v_dicK, Ly.v_dicT, Ly.v_dc, Ly.k_dc, List.getElem?_cons_zero, List.getElem?_cons_succ, List.set_cons_zero, List.set_cons_succ, List.length_cons, List.length_nil, List.map_cons, List.map_nil, List.cons_append, List.nil_append, List.replicate, if_true, if_false, Bool.false_eq_true, Bool.not_true, Bool.not_false, Bool.true_and, Bool.false_and, decide_true, decide_false, decide_eq_true_eq, Nat.zero_add, Nat.reduceAdd, Nat.reduceLeDiff, true_and, and_true, $ls,*])
def wyF (h r : Nat) (st : D) : List (Str × D) := [("held", .ref h), ("ready", .ref r), ("stored", st)]
structure WAd where
  q : Nat
  h : Nat
  r : Nat
  s : Nat
def WAd.fp (x : WAd) : List Nat := [x.q, x.h, x.r, x.s]
def stD (x : WAd) (o : Option Mem) : D := match o with
  | none => .non
  | some _ => .ref x.s
structure WAt (S : Hs) (cA : Nat → Addr) (w : Wy) (x : WAd) (B : Nat) : Prop where
  nd : x.fp.Nodup
  o : S[x.q]? = some (.ins (cA 4) (wyF x.h x.r (stD x w.stored)))
  held : S[x.h]? = some (.lst (w.held.map nD))
  ready : S[x.r]? = some (.lst (w.ready.map nD))
  st : ∀ f, w.stored = some f → MemAt S x.s f B
  lh : w.held.length = 16
  lr : w.ready.length = 16
  lt : ∀ v ∈ w.held, v < 4294967296
  slt : ∀ f, w.stored = some f → ∀ a v, f a = some v → v < 4294967296
section
variable {S S' : Hs} {cA : Nat → Addr} {K : Cn} {m : Mc} {a : QAd} {B B' : Nat} {X : XP} {w : Wy} {x : WAd} {A : List Nat}
theorem WAt.kp (h : WAt S cA w x B) (k : Kp A S S') (hA : ∀ y ∈ x.fp, y ∉ A) : WAt S' cA w x B := by
  have s : ∀ {y}, y ∈ x.fp → y ∉ A := fun hy => hA _ hy
  exact { h with o := k.get h.o (s (by simp [WAd.fp])), held := k.get h.held (s (by simp [WAd.fp])), ready := k.get h.ready (s (by simp [WAd.fp])), st := fun f hf => (h.st f hf).kp k (s (by simp [WAd.fp])) }
theorem WAt.more (h : WAt S cA w x B) (hB : B ≤ B') : WAt S cA w x B' := { h with st := fun f hf => (h.st f hf).more hB }
theorem WAt.ne (h : WAt S cA w x B) : x.q ≠ x.h ∧ x.q ≠ x.r ∧ x.q ≠ x.s ∧ x.h ≠ x.r ∧ x.h ≠ x.s ∧ x.r ≠ x.s := by
  have := h.nd
  simp only [WAd.fp, List.nodup_cons, List.mem_cons, List.not_mem_nil, or_false, not_or, not_false_eq_true, List.nodup_nil, and_true] at this
  obtain ⟨⟨h1, h2, h3⟩, ⟨h4, h5⟩, h6⟩ := this
  exact ⟨h1, h2, h3, h4, h5, h6⟩
def psOf (w : Wy) : PS := ⟨w.held, fun _ => none, [], 0⟩
theorem WAt.ps (h : WAt S cA w x B) : PSOk 1 (psOf w) := ⟨h.lh, h.lt, fun a v e => (by cases e), Nat.zero_lt_one⟩
theorem WAt.h_lt (h : WAt S cA w x B) (i : Nat) : w.h i < 4294967296 := h.ps.h_lt i
theorem WAt.hix (h : WAt S cA w x B) {i : Nat} (hi : i < 16) : oIx (.ref x.h) (nD i) S = .ok (nD (w.h i)) S := held_ix (s := psOf w) h.held h.ps hi
def MRow.pw : MRow → List (Nat × Nat)
  | .op _ _ a b => [(3, a), (4, b)]
  | .select _ c a b => [(2, c), (3, a), (4, b)]
  | .load _ a _ _ => [(2, a)]
  | .store a _ _ v => [(1, a), (4, v)]
  | .out a => [(1, a)]
  | .stop a => [(1, a)]
  | _ => []
def MRow.kind : MRow → Str
  | .const _ _ => "const"
  | .op _ _ _ _ => "op"
  | .select _ _ _ _ => "select"
  | .load _ _ _ _ => "load"
  | .store _ _ _ _ => "store"
  | .out _ => "out"
  | .jump _ => "jump"
  | .branch _ _ => "branch"
  | .stop _ => "stop"
end
end Ly
set_option Elab.async false
set_option linter.all false
set_option maxRecDepth 100000
namespace Ly
open PySem PySem.Spec L2
open PyProof.Rows hiding St
local macro_rules | `(tactic| simp_arith [$ls,*]) => `(tactic| simp only [Ly.line_le, Ly.atX_no, Ly.v_ok, Ly.v_bad, Ly.v_bind, Ly.k_bd, Ly.v_at, Ly.v_bin, Ly.k_bi, Ly.k_bi2, Ly.v_var, Ly.v_c, Ly.v_un, Ly.k_un, Ly.v_if, Ly.k_ife, Ly.v_and, Ly.k_and, Ly.k_and2, Ly.v_or, Ly.k_or, Ly.k_or2, Ly.v_tup, Ly.k_tup, Ly.v_lst, Ly.k_lst, Ly.v_call, Ly.k_ca, Ly.v_fn, Ly.k_fn, Ly.v_bm, Ly.k_bm, Ly.k_bm2, Ly.v_sl, Ly.k_sl, Ly.k_sl2, Ly.k_sl3, Ly.v_ixK, Ly.k_ixk, Ly.v_inK, Ly.k_ink, Ly.v_notinK, Ly.k_nink, Ly.v_getK2, Ly.k_gk2, Ly.k_gk, Ly.v_get2, Ly.k_g2, Ly.k_g22, Ly.k_g23, Ly.v_nil, Ly.v_cons, Ly.k_co, Ly.k_co2, Ly.v_no, Ly.v_some, Ly.k_so, Ly.k_cm, Ly.v_cmp, Ly.v_tru, Ly.k_tr, Ly.v_notB, Ly.k_no, Ly.v_andB, Ly.k_an, Ly.v_orB, Ly.k_orb, Ly.v_yes, Ly.v_inKB, Ly.k_inkB, Ly.v_notinKB, Ly.k_ninkB, Ly.v_set, Ly.k_st, Ly.v_expr, Ly.k_ex, Ly.v_ret, Ly.k_re, Ly.v_retN, Ly.v_pass, Ly.v_brk, Ly.v_cnt, Ly.v_seq, Ly.k_sq_nx, Ly.k_sq_rt, Ly.k_sq_bk, Ly.k_sq_ct, Ly.v_ifS, Ly.k_ifs, Ly.v_asg, Ly.k_as, Ly.k_as2, Ly.v_aug, Ly.k_au, Ly.v_for, Ly.k_fo, Ly.v_it, Ly.k_it, Ly.k_ij, Ly.v_rng1, Ly.v_rng2, Ly.v_enum, Ly.v_zip, Ly.v_gN, Ly.v_gsN, Ly.v_gsC, Ly.k_gc, Ly.v_gT, Ly.v_gTw, Ly.v_gSb, Ly.k_gsb, Ly.k_gsb2, Ly.k_gsb3, Ly.k_en_rt, Ly.k_en_nx, Ly.k_tu_nx, Ly.k_tu_ct, Ly.k_tu_bk, Ly.k_tu_rt, Ly.v_lc, Ly.k_lc, Ly.v_augI, Ly.k_ag, Ly.k_ag2, Ly.k_ag3, Ly.k_ag4, Ly.k_ag5, Ly.v_del, Ly.k_dl, Ly.k_dl2, Ly.v_setd, Ly.v_pop2, Ly.k_d3, Ly.k_d32, Ly.k_d33, Ly.v_get1, Ly.k_g1, Ly.k_g12, Ly.v_rg1, Ly.k_rg, Ly.v_rg2, Ly.k_rg2, Ly.k_rg22, Ly.v_dicK, Ly.v_dicT, Ly.v_dc, Ly.k_dc, List.getElem?_cons_zero, List.getElem?_cons_succ, List.set_cons_zero, List.set_cons_succ, List.length_cons, List.length_nil, List.map_cons, List.map_nil, List.cons_append, List.nil_append, List.replicate, if_true, if_false, Bool.false_eq_true, Bool.not_true, Bool.not_false, Bool.true_and, Bool.false_and, decide_true, decide_false, decide_eq_true_eq, Nat.zero_add, Nat.reduceAdd, Nat.reduceLeDiff, true_and, and_true, $ls,*])
def Mc.tick (m : Mc) : Mc := { m with cl := m.cl + 1 }
def MRow.next (r : MRow) (at' : Nat) : Nat := match r with
  | .jump t => t
  | _ => at' + 1
section
variable {S S' : Hs} {cA : Nat → Addr} {K : Cn} {m : Mc} {a : QAd} {B B' : Nat} {X : XP} {w : Wy} {x : WAd} {A : List Nat} {many : Nat} {r : MRow}
def Rp (cA : Nat → Addr) (K : Cn) (a : QAd) (x : WAd) (S : Hs) (p : Mc × Wy) (B : Nat) : D → Hs → Prop := fun _ S' => MAt S' cA K p.1 a B ∧ WAt S' cA p.2 x B ∧ Kp (a.fp ++ x.fp) S S' ∧ S'.length = S.length
theorem ka (k : Kp a.fp S S') : Kp (a.fp ++ x.fp) S S' := k.sub fun _ h _ => List.mem_append_left _ h
theorem kx (k : Kp x.fp S S') : Kp (a.fp ++ x.fp) S S' := k.sub fun _ h _ => List.mem_append_right _ h
end
end Ly
set_option Elab.async false
set_option linter.all false
set_option maxRecDepth 100000
namespace Ly
open PySem PySem.Spec L2
open PyProof.Rows hiding St
local macro_rules | `(tactic| simp_arith [$ls,*]) => `(tactic| simp only [Ly.line_le, Ly.atX_no, Ly.v_ok, Ly.v_bad, Ly.v_bind, Ly.k_bd, Ly.v_at, Ly.v_bin, Ly.k_bi, Ly.k_bi2, Ly.v_var, Ly.v_c, Ly.v_un, Ly.k_un, Ly.v_if, Ly.k_ife, Ly.v_and, Ly.k_and, Ly.k_and2, Ly.v_or, Ly.k_or, Ly.k_or2, Ly.v_tup, Ly.k_tup, Ly.v_lst, Ly.k_lst, Ly.v_call, Ly.k_ca, Ly.v_fn, Ly.k_fn, Ly.v_bm, Ly.k_bm, Ly.k_bm2, Ly.v_sl, Ly.k_sl, Ly.k_sl2, Ly.k_sl3, Ly.v_ixK, Ly.k_ixk, Ly.v_inK, Ly.k_ink, Ly.v_notinK, Ly.k_nink, Ly.v_getK2, Ly.k_gk2, Ly.k_gk, Ly.v_get2, Ly.k_g2, Ly.k_g22, Ly.k_g23, Ly.v_nil, Ly.v_cons, Ly.k_co, Ly.k_co2, Ly.v_no, Ly.v_some, Ly.k_so, Ly.k_cm, Ly.v_cmp, Ly.v_tru, Ly.k_tr, Ly.v_notB, Ly.k_no, Ly.v_andB, Ly.k_an, Ly.v_orB, Ly.k_orb, Ly.v_yes, Ly.v_inKB, Ly.k_inkB, Ly.v_notinKB, Ly.k_ninkB, Ly.v_set, Ly.k_st, Ly.v_expr, Ly.k_ex, Ly.v_ret, Ly.k_re, Ly.v_retN, Ly.v_pass, Ly.v_brk, Ly.v_cnt, Ly.v_seq, Ly.k_sq_nx, Ly.k_sq_rt, Ly.k_sq_bk, Ly.k_sq_ct, Ly.v_ifS, Ly.k_ifs, Ly.v_asg, Ly.k_as, Ly.k_as2, Ly.v_aug, Ly.k_au, Ly.v_for, Ly.k_fo, Ly.v_it, Ly.k_it, Ly.k_ij, Ly.v_rng1, Ly.v_rng2, Ly.v_enum, Ly.v_zip, Ly.v_gN, Ly.v_gsN, Ly.v_gsC, Ly.k_gc, Ly.v_gT, Ly.v_gTw, Ly.v_gSb, Ly.k_gsb, Ly.k_gsb2, Ly.k_gsb3, Ly.k_en_rt, Ly.k_en_nx, Ly.k_tu_nx, Ly.k_tu_ct, Ly.k_tu_bk, Ly.k_tu_rt, Ly.v_lc, Ly.k_lc, Ly.v_augI, Ly.k_ag, Ly.k_ag2, Ly.k_ag3, Ly.k_ag4, Ly.k_ag5, Ly.v_del, Ly.k_dl, Ly.k_dl2, Ly.v_setd, Ly.v_pop2, Ly.k_d3, Ly.k_d32, Ly.k_d33, Ly.v_get1, Ly.k_g1, Ly.k_g12, Ly.v_rg1, Ly.k_rg, Ly.v_rg2, Ly.k_rg2, Ly.k_rg22, Ly.v_dicK, Ly.v_dicT, Ly.v_dc, Ly.k_dc, List.getElem?_cons_zero, List.getElem?_cons_succ, List.set_cons_zero, List.set_cons_succ, List.length_cons, List.length_nil, List.map_cons, List.map_nil, List.cons_append, List.nil_append, List.replicate, if_true, if_false, Bool.false_eq_true, Bool.not_true, Bool.not_false, Bool.true_and, Bool.false_and, decide_true, decide_false, decide_eq_true_eq, Nat.zero_add, Nat.reduceAdd, Nat.reduceLeDiff, true_and, and_true, $ls,*])
section
variable {S S' : Hs} {cA : Nat → Addr} {K : Cn} {m : Mc} {a : QAd} {B B' : Nat} {X : XP} {w : Wy} {x : WAd} {A : List Nat} {many : Nat} {r : MRow}
theorem Rp.fin {p : Mc × Wy} {v : D} (h : MAt S cA K m a B) (dj : ∀ y ∈ x.fp, y ∉ a.fp) (h1 : MAt S' cA K p.1 a B') (w1 : WAt S' cA p.2 x B') (k1 : Kp (a.fp ++ x.fp) S S') (l1 : S'.length = S.length) :
    Rp cA K a x S (p.1.tick, p.2) B' v (S'.set a.q (.ins (cA 5) (mcF K a p.1.vm p.1.fe (p.1.cl + 1)))) := by
  have kk : Kp a.fp S' (S'.set a.q (.ins (cA 5) (mcF K a p.1.vm p.1.fe (p.1.cl + 1)))) := Kp.set h.kfp.1
  exact ⟨h1.fld _ _ _, w1.kp kk dj, k1.trans (ka kk), by rw [List.length_set]; exact l1⟩
end
end Ly
set_option Elab.async false
set_option linter.all false
set_option maxRecDepth 100000
namespace Ly
open PySem PySem.Spec L2
open PyProof.Rows hiding St
local macro_rules | `(tactic| simp_arith [$ls,*]) => `(tactic| simp only [Ly.line_le, Ly.atX_no, Ly.v_ok, Ly.v_bad, Ly.v_bind, Ly.k_bd, Ly.v_at, Ly.v_bin, Ly.k_bi, Ly.k_bi2, Ly.v_var, Ly.v_c, Ly.v_un, Ly.k_un, Ly.v_if, Ly.k_ife, Ly.v_and, Ly.k_and, Ly.k_and2, Ly.v_or, Ly.k_or, Ly.k_or2, Ly.v_tup, Ly.k_tup, Ly.v_lst, Ly.k_lst, Ly.v_call, Ly.k_ca, Ly.v_fn, Ly.k_fn, Ly.v_bm, Ly.k_bm, Ly.k_bm2, Ly.v_sl, Ly.k_sl, Ly.k_sl2, Ly.k_sl3, Ly.v_ixK, Ly.k_ixk, Ly.v_inK, Ly.k_ink, Ly.v_notinK, Ly.k_nink, Ly.v_getK2, Ly.k_gk2, Ly.k_gk, Ly.v_get2, Ly.k_g2, Ly.k_g22, Ly.k_g23, Ly.v_nil, Ly.v_cons, Ly.k_co, Ly.k_co2, Ly.v_no, Ly.v_some, Ly.k_so, Ly.k_cm, Ly.v_cmp, Ly.v_tru, Ly.k_tr, Ly.v_notB, Ly.k_no, Ly.v_andB, Ly.k_an, Ly.v_orB, Ly.k_orb, Ly.v_yes, Ly.v_inKB, Ly.k_inkB, Ly.v_notinKB, Ly.k_ninkB, Ly.v_set, Ly.k_st, Ly.v_expr, Ly.k_ex, Ly.v_ret, Ly.k_re, Ly.v_retN, Ly.v_pass, Ly.v_brk, Ly.v_cnt, Ly.v_seq, Ly.k_sq_nx, Ly.k_sq_rt, Ly.k_sq_bk, Ly.k_sq_ct, Ly.v_ifS, Ly.k_ifs, Ly.v_asg, Ly.k_as, Ly.k_as2, Ly.v_aug, Ly.k_au, Ly.v_for, Ly.k_fo, Ly.v_it, Ly.k_it, Ly.k_ij, Ly.v_rng1, Ly.v_rng2, Ly.v_enum, Ly.v_zip, Ly.v_gN, Ly.v_gsN, Ly.v_gsC, Ly.k_gc, Ly.v_gT, Ly.v_gTw, Ly.v_gSb, Ly.k_gsb, Ly.k_gsb2, Ly.k_gsb3, Ly.k_en_rt, Ly.k_en_nx, Ly.k_tu_nx, Ly.k_tu_ct, Ly.k_tu_bk, Ly.k_tu_rt, Ly.v_lc, Ly.k_lc, Ly.v_augI, Ly.k_ag, Ly.k_ag2, Ly.k_ag3, Ly.k_ag4, Ly.k_ag5, Ly.v_del, Ly.k_dl, Ly.k_dl2, Ly.v_setd, Ly.v_pop2, Ly.k_d3, Ly.k_d32, Ly.k_d33, Ly.v_get1, Ly.k_g1, Ly.k_g12, Ly.v_rg1, Ly.k_rg, Ly.v_rg2, Ly.k_rg2, Ly.k_rg22, Ly.v_dicK, Ly.v_dicT, Ly.v_dc, Ly.k_dc, List.getElem?_cons_zero, List.getElem?_cons_succ, List.set_cons_zero, List.set_cons_succ, List.length_cons, List.length_nil, List.map_cons, List.map_nil, List.cons_append, List.nil_append, List.replicate, if_true, if_false, Bool.false_eq_true, Bool.not_true, Bool.not_false, Bool.true_and, Bool.false_and, decide_true, decide_false, decide_eq_true_eq, Nat.zero_add, Nat.reduceAdd, Nat.reduceLeDiff, true_and, and_true, $ls,*])
def MRow.isStop : MRow → Bool
  | .stop _ => true
  | _ => false
section
variable {S S' : Hs} {cA : Nat → Addr} {K : Cn} {m : Mc} {a : QAd} {B B' : Nat} {X : XP} {w : Wy} {x : WAd} {A : List Nat} {many : Nat} {r : MRow} {regs : List Rg}
end
end Ly
set_option Elab.async false
set_option linter.all false
set_option maxRecDepth 100000
namespace Ly
open PySem PySem.Spec L2
open PyProof.Rows hiding St
local macro_rules | `(tactic| simp_arith [$ls,*]) => `(tactic| simp only [Ly.line_le, Ly.atX_no, Ly.v_ok, Ly.v_bad, Ly.v_bind, Ly.k_bd, Ly.v_at, Ly.v_bin, Ly.k_bi, Ly.k_bi2, Ly.v_var, Ly.v_c, Ly.v_un, Ly.k_un, Ly.v_if, Ly.k_ife, Ly.v_and, Ly.k_and, Ly.k_and2, Ly.v_or, Ly.k_or, Ly.k_or2, Ly.v_tup, Ly.k_tup, Ly.v_lst, Ly.k_lst, Ly.v_call, Ly.k_ca, Ly.v_fn, Ly.k_fn, Ly.v_bm, Ly.k_bm, Ly.k_bm2, Ly.v_sl, Ly.k_sl, Ly.k_sl2, Ly.k_sl3, Ly.v_ixK, Ly.k_ixk, Ly.v_inK, Ly.k_ink, Ly.v_notinK, Ly.k_nink, Ly.v_getK2, Ly.k_gk2, Ly.k_gk, Ly.v_get2, Ly.k_g2, Ly.k_g22, Ly.k_g23, Ly.v_nil, Ly.v_cons, Ly.k_co, Ly.k_co2, Ly.v_no, Ly.v_some, Ly.k_so, Ly.k_cm, Ly.v_cmp, Ly.v_tru, Ly.k_tr, Ly.v_notB, Ly.k_no, Ly.v_andB, Ly.k_an, Ly.v_orB, Ly.k_orb, Ly.v_yes, Ly.v_inKB, Ly.k_inkB, Ly.v_notinKB, Ly.k_ninkB, Ly.v_set, Ly.k_st, Ly.v_expr, Ly.k_ex, Ly.v_ret, Ly.k_re, Ly.v_retN, Ly.v_pass, Ly.v_brk, Ly.v_cnt, Ly.v_seq, Ly.k_sq_nx, Ly.k_sq_rt, Ly.k_sq_bk, Ly.k_sq_ct, Ly.v_ifS, Ly.k_ifs, Ly.v_asg, Ly.k_as, Ly.k_as2, Ly.v_aug, Ly.k_au, Ly.v_for, Ly.k_fo, Ly.v_it, Ly.k_it, Ly.k_ij, Ly.v_rng1, Ly.v_rng2, Ly.v_enum, Ly.v_zip, Ly.v_gN, Ly.v_gsN, Ly.v_gsC, Ly.k_gc, Ly.v_gT, Ly.v_gTw, Ly.v_gSb, Ly.k_gsb, Ly.k_gsb2, Ly.k_gsb3, Ly.k_en_rt, Ly.k_en_nx, Ly.k_tu_nx, Ly.k_tu_ct, Ly.k_tu_bk, Ly.k_tu_rt, Ly.v_lc, Ly.k_lc, Ly.v_augI, Ly.k_ag, Ly.k_ag2, Ly.k_ag3, Ly.k_ag4, Ly.k_ag5, Ly.v_del, Ly.k_dl, Ly.k_dl2, Ly.v_setd, Ly.v_pop2, Ly.k_d3, Ly.k_d32, Ly.k_d33, Ly.v_get1, Ly.k_g1, Ly.k_g12, Ly.v_rg1, Ly.k_rg, Ly.v_rg2, Ly.k_rg2, Ly.k_rg22, Ly.v_dicK, Ly.v_dicT, Ly.v_dc, Ly.k_dc, List.getElem?_cons_zero, List.getElem?_cons_succ, List.set_cons_zero, List.set_cons_succ, List.length_cons, List.length_nil, List.map_cons, List.map_nil, List.cons_append, List.nil_append, List.replicate, if_true, if_false, Bool.false_eq_true, Bool.not_true, Bool.not_false, Bool.true_and, Bool.false_and, decide_true, decide_false, decide_eq_true_eq, Nat.zero_add, Nat.reduceAdd, Nat.reduceLeDiff, true_and, and_true, $ls,*])
section
variable {S S' : Hs} {cA : Nat → Addr} {K : Cn} {m : Mc} {a : QAd} {B B' : Nat} {X : XP} {w : Wy} {x : WAd} {A : List Nat} {many : Nat} {r : MRow} {regs : List Rg}
theorem Ca.fp_lt {A P C : Addr} {c : CM} {d : CAd} (h : Ca S A P C c d) : ∀ y ∈ d.fp, y < S.length := by
  intro y hy
  have hps := h.wf.len
  have hla := h.la
  simp only [CAd.fp, List.mem_cons, List.mem_append] at hy
  have get : ∀ {l : List Nat}, l.length = c.sets → y ∈ l → ∃ k s, l[k]? = some y ∧ c.ps[k]? = some s := fun hl hm => by
    obtain ⟨k, hk⟩ := List.getElem?_of_mem hm
    have hk2 : k < c.ps.length := by have := (List.getElem?_eq_some_iff.mp hk).1; omega
    exact ⟨k, _, hk, List.getElem?_eq_getElem hk2⟩
  rcases hy with rfl | rfl | rfl | rfl | hy | hy | hy
  · exact Real.lt h.o
  · exact Real.lt h.rr
  · obtain ⟨hl, hh, _⟩ := h.hd; exact Real.lt hh
  · exact Real.lt h.oo
  · obtain ⟨k, s, hk, hs⟩ := get hla.1 hy
    obtain ⟨z, hz, hzS⟩ := h.row k s hs
    rw [hk] at hz; cases hz; exact Real.lt hzS
  · obtain ⟨k, s, hk, hs⟩ := get hla.2.1 hy
    obtain ⟨z, z2, hz, hz2, ho⟩ := h.ord k s hs
    rw [hk] at hz; cases hz; exact ho.lt.1
  · obtain ⟨k, s, hk, hs⟩ := get hla.2.2 hy
    obtain ⟨z, z2, hz, hz2, ho⟩ := h.ord k s hs
    rw [hk] at hz2; cases hz2; exact ho.lt.2
theorem MAt.fp_lt (h : MAt S cA K m a B) : ∀ y ∈ a.fp, y < S.length := by
  intro y hy
  simp only [QAd.fp, QAd.sc, List.mem_append, List.mem_cons, List.not_mem_nil, or_false] at hy
  rcases hy with (rfl | rfl | rfl | rfl | rfl | rfl) | hy | hy
  · exact Real.lt h.o
  · exact h.mem.lt
  · exact Real.lt h.ou
  · exact Real.lt h.tr
  · exact h.pr.lt
  · exact h.pr.ltj
  · exact h.dc.fp_lt y hy
  · exact h.fc.fp_lt y hy
end
end Ly
set_option Elab.async false
set_option linter.all false
set_option maxRecDepth 100000
namespace Ly
open PySem PySem.Spec L2
open PyProof.Rows hiding St
local macro_rules | `(tactic| simp_arith [$ls,*]) => `(tactic| simp only [Ly.line_le, Ly.atX_no, Ly.v_ok, Ly.v_bad, Ly.v_bind, Ly.k_bd, Ly.v_at, Ly.v_bin, Ly.k_bi, Ly.k_bi2, Ly.v_var, Ly.v_c, Ly.v_un, Ly.k_un, Ly.v_if, Ly.k_ife, Ly.v_and, Ly.k_and, Ly.k_and2, Ly.v_or, Ly.k_or, Ly.k_or2, Ly.v_tup, Ly.k_tup, Ly.v_lst, Ly.k_lst, Ly.v_call, Ly.k_ca, Ly.v_fn, Ly.k_fn, Ly.v_bm, Ly.k_bm, Ly.k_bm2, Ly.v_sl, Ly.k_sl, Ly.k_sl2, Ly.k_sl3, Ly.v_ixK, Ly.k_ixk, Ly.v_inK, Ly.k_ink, Ly.v_notinK, Ly.k_nink, Ly.v_getK2, Ly.k_gk2, Ly.k_gk, Ly.v_get2, Ly.k_g2, Ly.k_g22, Ly.k_g23, Ly.v_nil, Ly.v_cons, Ly.k_co, Ly.k_co2, Ly.v_no, Ly.v_some, Ly.k_so, Ly.k_cm, Ly.v_cmp, Ly.v_tru, Ly.k_tr, Ly.v_notB, Ly.k_no, Ly.v_andB, Ly.k_an, Ly.v_orB, Ly.k_orb, Ly.v_yes, Ly.v_inKB, Ly.k_inkB, Ly.v_notinKB, Ly.k_ninkB, Ly.v_set, Ly.k_st, Ly.v_expr, Ly.k_ex, Ly.v_ret, Ly.k_re, Ly.v_retN, Ly.v_pass, Ly.v_brk, Ly.v_cnt, Ly.v_seq, Ly.k_sq_nx, Ly.k_sq_rt, Ly.k_sq_bk, Ly.k_sq_ct, Ly.v_ifS, Ly.k_ifs, Ly.v_asg, Ly.k_as, Ly.k_as2, Ly.v_aug, Ly.k_au, Ly.v_for, Ly.k_fo, Ly.v_it, Ly.k_it, Ly.k_ij, Ly.v_rng1, Ly.v_rng2, Ly.v_enum, Ly.v_zip, Ly.v_gN, Ly.v_gsN, Ly.v_gsC, Ly.k_gc, Ly.v_gT, Ly.v_gTw, Ly.v_gSb, Ly.k_gsb, Ly.k_gsb2, Ly.k_gsb3, Ly.k_en_rt, Ly.k_en_nx, Ly.k_tu_nx, Ly.k_tu_ct, Ly.k_tu_bk, Ly.k_tu_rt, Ly.v_lc, Ly.k_lc, Ly.v_augI, Ly.k_ag, Ly.k_ag2, Ly.k_ag3, Ly.k_ag4, Ly.k_ag5, Ly.v_del, Ly.k_dl, Ly.k_dl2, Ly.v_setd, Ly.v_pop2, Ly.k_d3, Ly.k_d32, Ly.k_d33, Ly.v_get1, Ly.k_g1, Ly.k_g12, Ly.v_rg1, Ly.k_rg, Ly.v_rg2, Ly.k_rg2, Ly.k_rg22, Ly.v_dicK, Ly.v_dicT, Ly.v_dc, Ly.k_dc, List.getElem?_cons_zero, List.getElem?_cons_succ, List.set_cons_zero, List.set_cons_succ, List.length_cons, List.length_nil, List.map_cons, List.map_nil, List.cons_append, List.nil_append, List.replicate, if_true, if_false, Bool.false_eq_true, Bool.not_true, Bool.not_false, Bool.true_and, Bool.false_and, decide_true, decide_false, decide_eq_true_eq, Nat.zero_add, Nat.reduceAdd, Nat.reduceLeDiff, true_and, and_true, $ls,*])
section
variable {S S' : Hs} {cA : Nat → Addr} {K : Cn} {m : Mc} {a : QAd} {B B' : Nat} {X : XP} {w : Wy} {x : WAd} {A : List Nat} {many : Nat} {r : MRow} {regs : List Rg}
end
end Ly
set_option Elab.async false
set_option linter.all false
set_option maxRecDepth 100000
namespace Ly
open PySem PySem.Spec L2
open PyProof.Rows hiding St
local macro_rules | `(tactic| simp_arith [$ls,*]) => `(tactic| simp only [Ly.line_le, Ly.atX_no, Ly.v_ok, Ly.v_bad, Ly.v_bind, Ly.k_bd, Ly.v_at, Ly.v_bin, Ly.k_bi, Ly.k_bi2, Ly.v_var, Ly.v_c, Ly.v_un, Ly.k_un, Ly.v_if, Ly.k_ife, Ly.v_and, Ly.k_and, Ly.k_and2, Ly.v_or, Ly.k_or, Ly.k_or2, Ly.v_tup, Ly.k_tup, Ly.v_lst, Ly.k_lst, Ly.v_call, Ly.k_ca, Ly.v_fn, Ly.k_fn, Ly.v_bm, Ly.k_bm, Ly.k_bm2, Ly.v_sl, Ly.k_sl, Ly.k_sl2, Ly.k_sl3, Ly.v_ixK, Ly.k_ixk, Ly.v_inK, Ly.k_ink, Ly.v_notinK, Ly.k_nink, Ly.v_getK2, Ly.k_gk2, Ly.k_gk, Ly.v_get2, Ly.k_g2, Ly.k_g22, Ly.k_g23, Ly.v_nil, Ly.v_cons, Ly.k_co, Ly.k_co2, Ly.v_no, Ly.v_some, Ly.k_so, Ly.k_cm, Ly.v_cmp, Ly.v_tru, Ly.k_tr, Ly.v_notB, Ly.k_no, Ly.v_andB, Ly.k_an, Ly.v_orB, Ly.k_orb, Ly.v_yes, Ly.v_inKB, Ly.k_inkB, Ly.v_notinKB, Ly.k_ninkB, Ly.v_set, Ly.k_st, Ly.v_expr, Ly.k_ex, Ly.v_ret, Ly.k_re, Ly.v_retN, Ly.v_pass, Ly.v_brk, Ly.v_cnt, Ly.v_seq, Ly.k_sq_nx, Ly.k_sq_rt, Ly.k_sq_bk, Ly.k_sq_ct, Ly.v_ifS, Ly.k_ifs, Ly.v_asg, Ly.k_as, Ly.k_as2, Ly.v_aug, Ly.k_au, Ly.v_for, Ly.k_fo, Ly.v_it, Ly.k_it, Ly.k_ij, Ly.v_rng1, Ly.v_rng2, Ly.v_enum, Ly.v_zip, Ly.v_gN, Ly.v_gsN, Ly.v_gsC, Ly.k_gc, Ly.v_gT, Ly.v_gTw, Ly.v_gSb, Ly.k_gsb, Ly.k_gsb2, Ly.k_gsb3, Ly.k_en_rt, Ly.k_en_nx, Ly.k_tu_nx, Ly.k_tu_ct, Ly.k_tu_bk, Ly.k_tu_rt, Ly.v_lc, Ly.k_lc, Ly.v_augI, Ly.k_ag, Ly.k_ag2, Ly.k_ag3, Ly.k_ag4, Ly.k_ag5, Ly.v_del, Ly.k_dl, Ly.k_dl2, Ly.v_setd, Ly.v_pop2, Ly.k_d3, Ly.k_d32, Ly.k_d33, Ly.v_get1, Ly.k_g1, Ly.k_g12, Ly.v_rg1, Ly.k_rg, Ly.v_rg2, Ly.k_rg2, Ly.k_rg22, Ly.v_dicK, Ly.v_dicT, Ly.v_dc, Ly.k_dc, List.getElem?_cons_zero, List.getElem?_cons_succ, List.set_cons_zero, List.set_cons_succ, List.length_cons, List.length_nil, List.map_cons, List.map_nil, List.cons_append, List.nil_append, List.replicate, if_true, if_false, Bool.false_eq_true, Bool.not_true, Bool.not_false, Bool.true_and, Bool.false_and, decide_true, decide_false, decide_eq_true_eq, Nat.zero_add, Nat.reduceAdd, Nat.reduceLeDiff, true_and, and_true, $ls,*])
def CS.new (c : CS) : CM := CM.new (2 ^ c.e) (2 ^ c.w) (2 ^ c.l) c.p
def PD.hs0 : PD → Nat
  | .hist n => 2 ^ n
  | _ => 1
section
variable {S S' : Hs} {cA : Nat → Addr} {K : Cn} {m : Mc} {a : QAd} {B B' : Nat}
theorem csInit_ok {c : CS} {q : Nat} (h : c.ok) (hAP : cA 0 ≠ cA 1) (hS : S[q]? = some (.ins (cA 2) [])) : Wp NoX (caM___init__ (cA 0) (cA 1) (cA 2) [.ref q, c.D] S) fun v S' => v = .non ∧ ∃ d : CAd, d.c = q ∧ Ca S' (cA 0) (cA 1) (cA 2) c.new d ∧ (∀ x ∈ d.fp, x = q ∨ (S.length ≤ x ∧ x < S'.length)) ∧ Kp [q] S S' :=
  caInit_ok hAP hS (Nat.two_pow_pos _) (Nat.le_trans (Nat.pow_le_pow_right (by decide) h.e) (by decide)) ⟨c.w, h.w, rfl⟩ (Nat.two_pow_pos _) (Nat.le_trans (Nat.pow_le_pow_right (by decide) h.l) (by decide))
end
end Ly
set_option Elab.async false
set_option linter.all false
set_option maxRecDepth 100000
namespace Ly
open PySem PySem.Spec L2
open PyProof.Rows hiding St
structure Same (m m' : Mc) : Prop where
  mem : m'.mem = m.mem
  outs : m'.outs = m.outs
theorem Same.refl {m : Mc} : Same m m := ⟨rfl, rfl⟩
theorem Same.trans {m m' m2 : Mc} (a : Same m m') (b : Same m' m2) : Same m m2 := ⟨b.mem.trans a.mem, b.outs.trans a.outs⟩
section
variable {K : Cn} {m : Mc} {w : Wy}
structure Sim (m : Mc) (w : Wy) (s : PS) : Prop where
  mem : m.mem = s.mem
  outs : m.outs = s.outs
  held : w.held = s.held
  st : w.stored = none
theorem Sim.h {s : PS} (h : Sim m w s) (i : Nat) : w.h i = s.h i := by unfold Wy.h PS.h; rw [h.held]
theorem Sim.hf {s : PS} (h : Sim m w s) : w.h = s.h := funext fun i => h.h i
end
end Ly
set_option Elab.async false
set_option linter.all false
set_option maxRecDepth 100000
namespace Ly
open PySem PySem.Spec L2
open PyProof.Rows hiding St
local macro_rules | `(tactic| simp_arith [$ls,*]) => `(tactic| simp only [Ly.line_le, Ly.atX_no, Ly.v_ok, Ly.v_bad, Ly.v_bind, Ly.k_bd, Ly.v_at, Ly.v_bin, Ly.k_bi, Ly.k_bi2, Ly.v_var, Ly.v_c, Ly.v_un, Ly.k_un, Ly.v_if, Ly.k_ife, Ly.v_and, Ly.k_and, Ly.k_and2, Ly.v_or, Ly.k_or, Ly.k_or2, Ly.v_tup, Ly.k_tup, Ly.v_lst, Ly.k_lst, Ly.v_call, Ly.k_ca, Ly.v_fn, Ly.k_fn, Ly.v_bm, Ly.k_bm, Ly.k_bm2, Ly.v_sl, Ly.k_sl, Ly.k_sl2, Ly.k_sl3, Ly.v_ixK, Ly.k_ixk, Ly.v_inK, Ly.k_ink, Ly.v_notinK, Ly.k_nink, Ly.v_getK2, Ly.k_gk2, Ly.k_gk, Ly.v_get2, Ly.k_g2, Ly.k_g22, Ly.k_g23, Ly.v_nil, Ly.v_cons, Ly.k_co, Ly.k_co2, Ly.v_no, Ly.v_some, Ly.k_so, Ly.k_cm, Ly.v_cmp, Ly.v_tru, Ly.k_tr, Ly.v_notB, Ly.k_no, Ly.v_andB, Ly.k_an, Ly.v_orB, Ly.k_orb, Ly.v_yes, Ly.v_inKB, Ly.k_inkB, Ly.v_notinKB, Ly.k_ninkB, Ly.v_set, Ly.k_st, Ly.v_expr, Ly.k_ex, Ly.v_ret, Ly.k_re, Ly.v_retN, Ly.v_pass, Ly.v_brk, Ly.v_cnt, Ly.v_seq, Ly.k_sq_nx, Ly.k_sq_rt, Ly.k_sq_bk, Ly.k_sq_ct, Ly.v_ifS, Ly.k_ifs, Ly.v_asg, Ly.k_as, Ly.k_as2, Ly.v_aug, Ly.k_au, Ly.v_for, Ly.k_fo, Ly.v_it, Ly.k_it, Ly.k_ij, Ly.v_rng1, Ly.v_rng2, Ly.v_enum, Ly.v_zip, Ly.v_gN, Ly.v_gsN, Ly.v_gsC, Ly.k_gc, Ly.v_gT, Ly.v_gTw, Ly.v_gSb, Ly.k_gsb, Ly.k_gsb2, Ly.k_gsb3, Ly.k_en_rt, Ly.k_en_nx, Ly.k_tu_nx, Ly.k_tu_ct, Ly.k_tu_bk, Ly.k_tu_rt, Ly.v_lc, Ly.k_lc, Ly.v_augI, Ly.k_ag, Ly.k_ag2, Ly.k_ag3, Ly.k_ag4, Ly.k_ag5, Ly.v_del, Ly.k_dl, Ly.k_dl2, Ly.v_setd, Ly.v_pop2, Ly.k_d3, Ly.k_d32, Ly.k_d33, Ly.v_get1, Ly.k_g1, Ly.k_g12, Ly.v_rg1, Ly.k_rg, Ly.v_rg2, Ly.k_rg2, Ly.k_rg22, Ly.v_dicK, Ly.v_dicT, Ly.v_dc, Ly.k_dc, List.getElem?_cons_zero, List.getElem?_cons_succ, List.set_cons_zero, List.set_cons_succ, List.length_cons, List.length_nil, List.map_cons, List.map_nil, List.cons_append, List.nil_append, List.replicate, if_true, if_false, Bool.false_eq_true, Bool.not_true, Bool.not_false, Bool.true_and, Bool.false_and, decide_true, decide_false, decide_eq_true_eq, Nat.zero_add, Nat.reduceAdd, Nat.reduceLeDiff, true_and, and_true, $ls,*])
section
variable {S S' : Hs} {cA : Nat → Addr} {regs : List Rg} {rows : List MRow} {cs : List (List Nat)} {s : SS}
end
end Ly
set_option Elab.async false
set_option linter.all false
set_option maxRecDepth 100000
namespace Ly
open PySem PySem.Spec L2
open PyProof.Rows hiding St
def Ev.quiet : Ev → Bool
  | .out _ _ => false
  | .stop _ => false
  | _ => true
def outsOf (tr : List Ev) : List Nat := tr.filterMap fun e => match e with
  | .out _ w => some w
  | _ => none
def Ev.isStop : Ev → Bool
  | .stop _ => true
  | _ => false
structure TrOk (m : Mc) : Prop where
  outs : outsOf m.tr = m.outs
  run : ∀ e ∈ m.tr, e.isStop = false
structure Quiet (m m' : Mc) : Prop where
  ex : ∃ es, m'.tr = m.tr ++ es ∧ ∀ e ∈ es, e.quiet = true
theorem Quiet.refl {m : Mc} : Quiet m m := ⟨[], by simp, by simp⟩
theorem Quiet.trans {m m' m2 : Mc} (a : Quiet m m') (b : Quiet m' m2) : Quiet m m2 := by
  obtain ⟨e1, h1, q1⟩ := a.ex
  obtain ⟨e2, h2, q2⟩ := b.ex
  exact ⟨e1 ++ e2, by rw [h2, h1, List.append_assoc], fun e he => by
    rcases List.mem_append.mp he with h | h
    · exact q1 e h
    · exact q2 e h⟩
theorem Quiet.one {m m' : Mc} {e : Ev} (h : m'.tr = m.tr ++ [e]) (hq : e.quiet = true) : Quiet m m' := ⟨[e], h, fun x hx => by rw [List.mem_singleton.mp hx]; exact hq⟩
theorem Quiet.no {m m' : Mc} (h : m'.tr = m.tr) : Quiet m m' := ⟨[], by simp [h], by simp⟩
theorem outsOf_quiet {es : List Ev} (h : ∀ e ∈ es, e.quiet = true) : outsOf es = [] := by
  induction es with
  | nil => rfl
  | cons e es ih =>
    have h1 := h e (by simp)
    have h2 := ih fun x hx => h x (List.mem_cons_of_mem _ hx)
    unfold outsOf at h2 ⊢
    rw [List.filterMap_cons, h2]
    cases e <;> first | rfl | cases h1
theorem TrOk.quiet {m m' : Mc} (h : TrOk m) (q : Quiet m m') (ho : m'.outs = m.outs) : TrOk m' := by
  obtain ⟨es, he, hq⟩ := q.ex
  refine ⟨?_, fun e hm => ?_⟩
  · rw [he, ho]
    unfold outsOf
    rw [List.filterMap_append]
    have h1 := h.outs
    have h2 := outsOf_quiet hq
    unfold outsOf at h1 h2
    rw [h1, h2, List.append_nil]
  · rw [he] at hm
    rcases List.mem_append.mp hm with hm | hm
    · exact h.run e hm
    · have := hq e hm
      cases e <;> first | rfl | cases this
section
variable {K : Cn} {m : Mc} {w : Wy}
end
end Ly
set_option Elab.async false
set_option linter.all false
set_option maxRecDepth 100000
namespace Ly
open PySem PySem.Spec L2
open PyProof.Rows hiding St
def Ev.time : Ev → Nat
  | .fetch t _ _ => t
  | .data t _ _ => t
  | .guess t _ _ => t
  | .back t _ => t
  | .out t _ => t
  | .stop t => t
  | .visit _ t _ _ => t
def Ev.isVis : Ev → Bool
  | .visit _ _ _ _ => true
  | _ => false
def Ev.isFetch : Ev → Bool
  | .fetch _ _ _ => true
  | _ => false
def Ev.onWay : Ev → Bool
  | .fetch _ _ _ => true
  | .data _ _ _ => true
  | .guess _ _ _ => true
  | .visit _ _ _ _ => true
  | _ => false
structure Rs where
  data : CM
  fetch : CM
  hs : Nat
  h : Nat
  cs : List Nat
def Mc.rs (m : Mc) : Rs := ⟨m.data, m.fetch, m.hs, m.h, m.cs⟩
def Rs.guessed (s : Rs) (r : Nat) : Bool := decide (s.cs.length = 0 ∨ 2 ≤ s.cs.getD (prAt s.cs.length s.h r) 0)
def Rs.learn (s : Rs) (r : Nat) (t : Bool) : Rs := if s.cs.length = 0 then s else { s with h := (2 * s.h + b2n t) % s.hs, cs := prStep s.cs s.h r t }
def Rs.step (s : Rs) : Ev → Rs
  | .fetch _ l _ => { s with fetch := s.fetch.touch l }
  | .data _ l _ => { s with data := s.data.touch l }
  | .visit t _ l _ => { s with data := if t = true then s.data.touch l else s.data.drop l }
  | _ => s
def Rs.right (s : Rs) : Ev → Prop
  | .fetch _ l h => h = s.fetch.has l
  | .data _ l h => h = s.data.has l
  | .visit _ _ l f => f = s.data.has l
  | .guess _ r g => g = s.guessed r
  | _ => True
def RpN : Rs → List Ev → Rs → Prop
  | s, [], s' => s' = s
  | s, e :: es, s' => s.right e ∧ RpN (s.step e) es s'
theorem RpN.app : ∀ {a b : List Ev} {s s1 s2 : Rs}, RpN s a s1 → RpN s1 b s2 → RpN s (a ++ b) s2
  | [], b, s, s1, s2, h1, h2 => by cases h1; exact h2
  | e :: a, b, s, s1, s2, h1, h2 => ⟨h1.1, RpN.app h1.2 h2⟩
structure Gr (m m' : Mc) (es : List Ev) : Prop where
  tr : m'.tr = m.tr ++ es
  rp : RpN m.rs es m'.rs
  le : m.cl ≤ m'.cl
  lo : ∀ e ∈ es, m.cl ≤ e.time
  hi : ∀ e ∈ es, e.time ≤ m'.cl
  so : es.Pairwise fun a b => a.time ≤ b.time
theorem Gr.refl {m : Mc} : Gr m m [] := ⟨by simp, rfl, Nat.le_refl _, by simp, by simp, .nil⟩
theorem Gr.trans {m m1 m2 : Mc} {a b : List Ev} (h : Gr m m1 a) (k : Gr m1 m2 b) : Gr m m2 (a ++ b) := by
  refine ⟨by rw [k.tr, h.tr, List.append_assoc], h.rp.app k.rp, Nat.le_trans h.le k.le, fun e he => ?_, fun e he => ?_, ?_⟩
  · rcases List.mem_append.mp he with he | he
    · exact h.lo e he
    · exact Nat.le_trans h.le (k.lo e he)
  · rcases List.mem_append.mp he with he | he
    · exact Nat.le_trans (h.hi e he) k.le
    · exact k.hi e he
  · exact List.pairwise_append.mpr ⟨h.so, k.so, fun x hx y hy => Nat.le_trans (h.hi x hx) (k.lo y hy)⟩
theorem Gr.no {m m' : Mc} (h1 : m'.tr = m.tr) (h2 : m'.rs = m.rs) (h3 : m.cl ≤ m'.cl) : Gr m m' [] := ⟨by simp [h1], h2, h3, by simp, by simp, .nil⟩
theorem Gr.one {m m' : Mc} {e : Ev} (h1 : m'.tr = m.tr ++ [e]) (h2 : m.rs.right e) (h3 : m'.rs = m.rs.step e) (h4 : e.time = m.cl) (h5 : m.cl ≤ m'.cl) : Gr m m' [e] :=
  ⟨h1, ⟨h2, h3⟩, h5, fun x hx => by rw [List.mem_singleton.mp hx, h4]; exact Nat.le_refl _, fun x hx => by rw [List.mem_singleton.mp hx, h4]; exact h5, List.pairwise_singleton _ _⟩
section
variable {K : Cn} {m : Mc} {w : Wy}
def Body (r : MRow) (dl : Nat) (h : Nat → Nat) (real : Bool) (es : List Ev) : Prop := match r with
  | .load _ _ _ _ => ∃ t f, es = [.data t (r.addr h / dl) f]
  | .store _ _ _ _ => if real = true then ∃ t f, es = [.data t (r.addr h / dl) f] else es = []
  | .out i => if real = true then ∃ t, es = [.out t (h i)] else es = []
  | _ => es = []
structure Wv (fl n cl e at' : Nat) (es : List Ev) : Prop where
  lt : ∀ x ∈ es, x.time < e
  way : ∀ x ∈ es, x.onWay = true
  few : (es.filter Ev.isFetch).length ≤ n
  fst : ∀ f fs, es.filter Ev.isFetch = f :: fs → ∃ h, f = .fetch cl (at' / fl) h
theorem Wv.nil {fl n cl e at' : Nat} : Wv fl n cl e at' [] := ⟨by simp, by simp, by simp, by simp⟩
theorem Wv.cons {fl n cl cl2 e at' at2 h : Nat} {b : Bool} {vs mid es : List Ev} (hv : ∀ e ∈ vs, e.isVis = true) (hm : ∀ e ∈ mid, e.onWay = true ∧ e.isFetch = false) (h2 : Wv fl n cl2 e at2 es) (hl : ∀ x ∈ vs ++ [.fetch cl (at' / fl) b] ++ mid, x.time < e) : Wv fl (n + 1) cl e at' (vs ++ [.fetch cl (at' / fl) b] ++ mid ++ es) := by
  have fv : vs.filter Ev.isFetch = [] := List.filter_eq_nil_iff.mpr fun x hx => by have := hv x hx; cases x <;> first | (cases this; done) | simp [Ev.isFetch]
  have ff : [Ev.fetch cl (at' / fl) b].filter Ev.isFetch = [Ev.fetch cl (at' / fl) b] := rfl
  have fm : mid.filter Ev.isFetch = [] := List.filter_eq_nil_iff.mpr fun x hx => by simp [(hm x hx).2]
  refine ⟨fun x hx => ?_, fun x hx => ?_, ?_, fun f fs he => ?_⟩
  · rcases List.mem_append.mp hx with hx | hx
    · exact hl x hx
    · exact h2.lt x hx
  · rcases List.mem_append.mp hx with hx | hx
    · rcases List.mem_append.mp hx with hx | hx
      · rcases List.mem_append.mp hx with hx | hx
        · have := hv x hx; cases x <;> first | rfl | cases this
        · rw [List.mem_singleton.mp hx]; rfl
      · exact (hm x hx).1
    · exact h2.way x hx
  · simp only [List.filter_append, fv, fm, ff, List.nil_append, List.append_nil, List.length_append, List.length_singleton]
    have := h2.few
    omega
  · simp only [List.filter_append, fv, fm, ff, List.nil_append, List.append_nil, List.singleton_append, List.cons.injEq] at he
    exact ⟨b, he.1.symm⟩
theorem Wv.stop {fl n cl e at' : Nat} {b : Bool} {vs : List Ev} (hv : ∀ e ∈ vs, e.isVis = true) (hl : ∀ x ∈ vs ++ [.fetch cl (at' / fl) b], x.time < e) : Wv fl (n + 1) cl e at' (vs ++ [.fetch cl (at' / fl) b]) := by
  have := Wv.cons (fl := fl) (n := n) (cl := cl) (cl2 := 0) (e := e) (at' := at') (at2 := 0) (h := 0) (b := b) (vs := vs) (mid := []) (es := []) hv (by simp) Wv.nil (by simpa using hl)
  simpa using this
def Wr (K : Cn) (fl at' t t0 : Nat) (g taken : Bool) (es : List Ev) : Prop :=
  if g = taken then es = [] else ∃ way e, es = way ++ [.back e at'] ∧ t0 + K.wrong ≤ e ∧ Wv fl K.depth (t0 + 1) e (if g = true then t else at' + 1) way
inductive Shp (K : Cn) (dl fl : Nat) : Nat → Nat → PS → Rs → List Ev → List (Nat × Nat × Bool) → Prop
  | nil {k : Nat} {s : PS} {r : Rs} : Shp K dl fl 0 k s r [] []
  | stop {n k i t t2 : Nat} {s : PS} {r r' : Rs} {vs : List Ev} {h : Bool} : K.rows.getD s.pc (.stop 0) = .stop i → (∀ e ∈ vs, e.isVis = true) → RpN r (vs ++ [.fetch t (s.pc / fl) h, .stop t2]) r' → Shp K dl fl (n + 1) k s r (vs ++ [.fetch t (s.pc / fl) h, .stop t2]) []
  | row {n k t : Nat} {rw : MRow} {s : PS} {r r' : Rs} {vs body rest : List Ev} {h : Bool} {L : List (Nat × Nat × Bool)} : K.rows.getD s.pc (.stop 0) = rw → rw.stops = none → (∀ i t, rw ≠ .branch i t) → (∀ e ∈ vs, e.isVis = true) → Body rw dl s.h true body → RpN r (vs ++ .fetch t (s.pc / fl) h :: body) r' → Shp K dl fl n (k + (vs ++ .fetch t (s.pc / fl) h :: body).length) (s.exec rw) r' rest L → Shp K dl fl (n + 1) k s r ((vs ++ .fetch t (s.pc / fl) h :: body) ++ rest) L
  | branch {n k t i tg t0 : Nat} {s : PS} {r r' : Rs} {vs wr rest : List Ev} {h g : Bool} {L : List (Nat × Nat × Bool)} : K.rows.getD s.pc (.stop 0) = .branch i tg → (∀ e ∈ vs, e.isVis = true) → Wr K fl s.pc tg t0 g (decide (s.h i ≠ 0)) wr → RpN r (vs ++ .fetch t (s.pc / fl) h :: .guess t0 s.pc g :: wr) r' → Shp K dl fl n (k + (vs ++ .fetch t (s.pc / fl) h :: .guess t0 s.pc g :: wr).length) (s.exec (.branch i tg)) (r'.learn s.pc (decide (s.h i ≠ 0))) rest L → Shp K dl fl (n + 1) k s r ((vs ++ .fetch t (s.pc / fl) h :: .guess t0 s.pc g :: wr) ++ rest) ((k + (vs ++ .fetch t (s.pc / fl) h :: .guess t0 s.pc g :: wr).length, s.pc, decide (s.h i ≠ 0)) :: L)
structure Go (m m' : Mc) (es : List Ev) : Prop where
  tr : m'.tr = m.tr ++ es
  lo : ∀ e ∈ es, m.cl ≤ e.time
  so : es.Pairwise fun a b => a.time ≤ b.time
theorem Go.cons {m m1 m2 : Mc} {a b : List Ev} (h : Gr m m1 a) (k : Go m1 m2 b) : Go m m2 (a ++ b) := by
  refine ⟨by rw [k.tr, h.tr, List.append_assoc], fun e he => ?_, ?_⟩
  · rcases List.mem_append.mp he with he | he
    · exact h.lo e he
    · exact Nat.le_trans h.le (k.lo e he)
  · exact List.pairwise_append.mpr ⟨h.so, k.so, fun x hx y hy => Nat.le_trans (h.hi x hx) (k.lo y hy)⟩
end
end Ly
set_option Elab.async false
set_option linter.all false
set_option maxRecDepth 100000
namespace Ly
open PySem PySem.Spec L2
open PyProof.Rows hiding St
local macro_rules | `(tactic| simp_arith [$ls,*]) => `(tactic| simp only [Ly.line_le, Ly.atX_no, Ly.v_ok, Ly.v_bad, Ly.v_bind, Ly.k_bd, Ly.v_at, Ly.v_bin, Ly.k_bi, Ly.k_bi2, Ly.v_var, Ly.v_c, Ly.v_un, Ly.k_un, Ly.v_if, Ly.k_ife, Ly.v_and, Ly.k_and, Ly.k_and2, Ly.v_or, Ly.k_or, Ly.k_or2, Ly.v_tup, Ly.k_tup, Ly.v_lst, Ly.k_lst, Ly.v_call, Ly.k_ca, Ly.v_fn, Ly.k_fn, Ly.v_bm, Ly.k_bm, Ly.k_bm2, Ly.v_sl, Ly.k_sl, Ly.k_sl2, Ly.k_sl3, Ly.v_ixK, Ly.k_ixk, Ly.v_inK, Ly.k_ink, Ly.v_notinK, Ly.k_nink, Ly.v_getK2, Ly.k_gk2, Ly.k_gk, Ly.v_get2, Ly.k_g2, Ly.k_g22, Ly.k_g23, Ly.v_nil, Ly.v_cons, Ly.k_co, Ly.k_co2, Ly.v_no, Ly.v_some, Ly.k_so, Ly.k_cm, Ly.v_cmp, Ly.v_tru, Ly.k_tr, Ly.v_notB, Ly.k_no, Ly.v_andB, Ly.k_an, Ly.v_orB, Ly.k_orb, Ly.v_yes, Ly.v_inKB, Ly.k_inkB, Ly.v_notinKB, Ly.k_ninkB, Ly.v_set, Ly.k_st, Ly.v_expr, Ly.k_ex, Ly.v_ret, Ly.k_re, Ly.v_retN, Ly.v_pass, Ly.v_brk, Ly.v_cnt, Ly.v_seq, Ly.k_sq_nx, Ly.k_sq_rt, Ly.k_sq_bk, Ly.k_sq_ct, Ly.v_ifS, Ly.k_ifs, Ly.v_asg, Ly.k_as, Ly.k_as2, Ly.v_aug, Ly.k_au, Ly.v_for, Ly.k_fo, Ly.v_it, Ly.k_it, Ly.k_ij, Ly.v_rng1, Ly.v_rng2, Ly.v_enum, Ly.v_zip, Ly.v_gN, Ly.v_gsN, Ly.v_gsC, Ly.k_gc, Ly.v_gT, Ly.v_gTw, Ly.v_gSb, Ly.k_gsb, Ly.k_gsb2, Ly.k_gsb3, Ly.k_en_rt, Ly.k_en_nx, Ly.k_tu_nx, Ly.k_tu_ct, Ly.k_tu_bk, Ly.k_tu_rt, Ly.v_lc, Ly.k_lc, Ly.v_augI, Ly.k_ag, Ly.k_ag2, Ly.k_ag3, Ly.k_ag4, Ly.k_ag5, Ly.v_del, Ly.k_dl, Ly.k_dl2, Ly.v_setd, Ly.v_pop2, Ly.k_d3, Ly.k_d32, Ly.k_d33, Ly.v_get1, Ly.k_g1, Ly.k_g12, Ly.v_rg1, Ly.k_rg, Ly.v_rg2, Ly.k_rg2, Ly.k_rg22, Ly.v_dicK, Ly.v_dicT, Ly.v_dc, Ly.k_dc, List.getElem?_cons_zero, List.getElem?_cons_succ, List.set_cons_zero, List.set_cons_succ, List.length_cons, List.length_nil, List.map_cons, List.map_nil, List.cons_append, List.nil_append, List.replicate, if_true, if_false, Bool.false_eq_true, Bool.not_true, Bool.not_false, Bool.true_and, Bool.false_and, decide_true, decide_false, decide_eq_true_eq, Nat.zero_add, Nat.reduceAdd, Nat.reduceLeDiff, true_and, and_true, $ls,*])
def Ev.kind : Ev → Str
  | .fetch _ _ _ => "fetch"
  | .data _ _ _ => "data"
  | .guess _ _ _ => "guess"
  | .back _ _ => "back"
  | .out _ _ => "out"
  | .stop _ => "stop"
  | .visit touch _ _ _ => if touch = true then "touch" else "drop"
section
variable {S S' : Hs} {X : XP} {tr pre rest : List Ev} {s : SS} {rows : List MRow} {e : Ev} {c : CS}
theorem add1 {p : Nat} : ((p : Nat) : Int) + 1 = ((p + 1 : Nat) : Int) := rfl
end
section
variable {S S' : Hs} {X : XP} {tr pre rest : List Ev} {st : SS} {rows : List MRow} {many qm qh qo N k im : Nat} {regs : List Rg} {s : PS}
end
section
variable {S S' : Hs} {X : XP} {tr pre rest : List Ev} {st : SS} {rows : List MRow} {many qm qh qo N k im : Nat} {regs : List Rg} {s : PS}
end
end Ly
set_option Elab.async false
set_option linter.all false
set_option maxRecDepth 100000
namespace Ly
open PySem PySem.Spec L2
open PyProof.Rows hiding St
def At (s : PSet) (l p : Nat) : Prop := s.pl[p]? = some (some l)
section
variable {w k sets l l' p q : Nat} {s : PSet}
theorem at_touch (h : s.wf w k sets) (hw : WayOk w) : At (s.touch l) l' p ↔ (p = s.place l ∧ l' = l) ∨ (p ≠ s.place l ∧ At s l' p) := by
  have hp := PSet.place_lt (l := l) h hw
  unfold At PSet.touch
  by_cases hm : some l ∈ s.pl
  · have hpl : s.place l = s.pl.idxOf (some l) := by unfold PSet.place; rw [if_pos hm]
    have hg := (idx_get hm).1
    simp only [if_pos hm]
    rw [hpl]
    constructor
    · intro h1
      by_cases hpp : p = s.pl.idxOf (some l)
      · rw [hpp, hg] at h1; cases h1; exact .inl ⟨hpp, rfl⟩
      · exact .inr ⟨hpp, h1⟩
    · rintro (⟨rfl, rfl⟩ | ⟨_, h1⟩)
      · exact hg
      · exact h1
  · simp only [if_neg hm]
    rw [List.getElem?_set]
    by_cases hpp : s.place l = p
    · subst hpp
      rw [if_pos rfl, if_pos (by rw [h.len]; exact hp)]
      constructor
      · intro h1; cases h1; exact .inl ⟨rfl, rfl⟩
      · rintro (⟨_, rfl⟩ | ⟨h1, _⟩)
        · rfl
        · exact absurd rfl h1
    · rw [if_neg hpp]
      constructor
      · intro h1; exact .inr ⟨fun e => hpp e.symm, h1⟩
      · rintro (⟨rfl, _⟩ | ⟨_, h1⟩)
        · exact absurd rfl hpp
        · exact h1
theorem at_drop (h : s.wf w k sets) : At (s.drop l) l' p ↔ At s l' p ∧ l' ≠ l := by
  unfold At PSet.drop
  by_cases hm : some l ∈ s.pl
  · have hg := idx_get hm
    simp only [if_pos hm]
    rw [List.getElem?_set]
    by_cases hpp : s.pl.idxOf (some l) = p
    · rw [if_pos hpp]
      subst hpp
      rw [if_pos hg.2, hg.1]
      constructor
      · intro h1; cases h1
      · rintro ⟨h1, h2⟩; cases h1; exact absurd rfl h2
    · rw [if_neg hpp]
      constructor
      · intro h1
        refine ⟨h1, ?_⟩
        rintro rfl
        exact hpp (h.inj _ _ _ hg.1 h1)
      · exact fun h1 => h1.1
  · simp only [if_neg hm]
    constructor
    · intro h1
      refine ⟨h1, ?_⟩
      rintro rfl
      exact hm (List.mem_of_getElem? h1)
    · exact fun h1 => h1.1
theorem at_place (h : s.wf w k sets) (ha : At s l p) : s.place l = p := by
  have hm := List.mem_of_getElem? ha
  unfold PSet.place
  rw [if_pos hm]
  exact h.inj _ _ _ (idx_get hm).1 ha
theorem at_mem : some l ∈ s.pl ↔ ∃ p, At s l p := ⟨fun h => ⟨_, (idx_get h).1⟩, fun ⟨_, h⟩ => List.mem_of_getElem? h⟩
theorem at_lt (h : s.wf w k sets) (ha : At s l p) : p < w := by rw [← h.len]; exact (List.getElem?_eq_some_iff.mp ha).1
theorem at_victim (h : s.wf w k sets) {as : List Nat} {now : Nat} {bt : Bool} (ho : s.od = .ages bt as now) (ha : At s l' (s.place l)) (hne : l' ≠ l) : (∀ q, q < w → ∃ x, At s x q) ∧ ∀ q, q < w → as.getD (s.place l) 0 ≤ as.getD q 0 := by
  have hm : some l ∉ s.pl := by
    intro hm
    have : s.place l = s.pl.idxOf (some l) := by unfold PSet.place; rw [if_pos hm]
    rw [this] at ha
    have := (idx_get hm).1
    unfold At at ha
    rw [ha] at this
    cases this; exact hne rfl
  have hn : none ∉ s.pl := by
    intro hn
    have e : s.place l = s.pl.idxOf none := by unfold PSet.place; rw [if_neg hm, if_pos hn]
    rw [e] at ha
    have := (idx_get hn).1
    unfold At at ha
    rw [ha] at this
    cases this
  have e : s.place l = vicA as := by unfold PSet.place; rw [if_neg hm, if_neg hn, ho]; rfl
  have hal : as.length = w := by have := h.od; rw [ho] at this; exact this
  refine ⟨fun q hq => ?_, fun q hq => ?_⟩
  · have hq' : q < s.pl.length := by rw [h.len]; exact hq
    cases hx : s.pl[q] with
    | none => exact absurd (hx ▸ List.getElem_mem hq') hn
    | some x => exact ⟨x, by unfold At; rw [List.getElem?_eq_getElem hq', hx]⟩
  · have hpos : 0 < as.length := by omega
    obtain ⟨v1, v2⟩ := vicA_spec hpos
    rw [e]
    have e1 : as.getD (vicA as) 0 = as[vicA as] := by simp [List.getD, List.getElem?_eq_getElem v1]
    have hq' : q < as.length := by omega
    have e2 : as.getD q 0 = as[q] := by simp [List.getD, List.getElem?_eq_getElem hq']
    rw [e1, e2]
    exact v2.1 _ (List.getElem_mem hq')
end
theorem nodup_sub : ∀ {l m : List Nat}, l.Nodup → (∀ x ∈ l, x ∈ m) → l.length ≤ m.length
  | [], m, _, _ => Nat.zero_le _
  | x :: l, m, hn, h => by
    rw [List.nodup_cons] at hn
    have hx := h x (by simp)
    have := nodup_sub (l := l) (m := m.erase x) hn.2 fun y hy => by
      have hne : y ≠ x := fun e => hn.1 (e ▸ hy)
      exact (List.mem_erase_of_ne hne).mpr (h y (List.mem_cons_of_mem _ hy))
    rw [List.length_erase_of_mem hx] at this
    have : 0 < m.length := List.length_pos_of_mem hx
    simp only [List.length_cons]; omega
def linesOf (s : PSet) : List Nat := s.pl.filterMap id
theorem mem_lines {s : PSet} {l : Nat} : l ∈ linesOf s ↔ some l ∈ s.pl := by
  unfold linesOf
  rw [List.mem_filterMap]
  constructor
  · rintro ⟨a, h1, h2⟩; simp at h2; rw [← h2]; exact h1
  · intro h; exact ⟨_, h, rfl⟩
theorem lines_nodup {w k sets : Nat} {s : PSet} (h : s.wf w k sets) : (linesOf s).Nodup := by
  have hinj := h.inj
  unfold linesOf
  generalize s.pl = pl at hinj
  induction pl with
  | nil => simp
  | cons o pl ih =>
    have h2 : ∀ (p q l : Nat), pl[p]? = some (some l) → pl[q]? = some (some l) → p = q := fun p q l h3 h4 => by
      have := hinj (p + 1) (q + 1) l (by simpa using h3) (by simpa using h4); omega
    cases o with
    | none => exact ih h2
    | some x =>
      rw [List.filterMap_cons]
      simp only [id]
      refine List.nodup_cons.mpr ⟨fun hm => ?_, ih h2⟩
      rw [List.mem_filterMap] at hm
      obtain ⟨a, h3, h4⟩ := hm
      simp at h4
      subst h4
      obtain ⟨q, hq⟩ := List.getElem?_of_mem h3
      have := hinj 0 (q + 1) x (by simp) (by simpa using hq)
      omega
theorem lines_le {s : PSet} : (linesOf s).length ≤ s.pl.length := List.length_filterMap_le _ _
theorem lines_full {s : PSet} (h : ∀ q, q < s.pl.length → ∃ x, At s x q) : (linesOf s).length = s.pl.length := by
  unfold linesOf
  unfold At at h
  generalize s.pl = pl at h
  induction pl with
  | nil => rfl
  | cons o pl ih =>
    obtain ⟨x, hx⟩ := h 0 (by simp)
    simp at hx
    subst hx
    rw [List.filterMap_cons]
    simp only [id, List.length_cons]
    rw [ih fun q hq => by
      obtain ⟨y, hy⟩ := h (q + 1) (by simp; omega)
      exact ⟨y, by simpa using hy⟩]
structure Inc (s g : PSet) (as1 as2 : List Nat) (now : Nat) : Prop where
  o1 : s.od = .ages true as1 now
  o2 : g.od = .ages true as2 now
  b2 : ∀ a ∈ as2, a ≤ now
  sub : ∀ l p, At s l p → ∃ q, At g l q ∧ as1.getD p 0 = as2.getD q 0
  upp : ∀ l p l' q' q, At s l p → At g l q → At g l' q' → as2.getD q 0 ≤ as2.getD q' 0 → ∃ p', At s l' p'
  inj : ∀ l q l' q', At g l q → At g l' q' → as2.getD q 0 = as2.getD q' 0 → l = l'
theorem getD_set {as : List Nat} {i j v : Nat} (h : i < as.length) : (as.set i v).getD j 0 = if j = i then v else as.getD j 0 := by
  by_cases e : j = i
  · subst e; rw [if_pos rfl]; simp [List.getD, List.getElem?_set_self h]
  · rw [if_neg e]; simp [List.getD, List.getElem?_set_ne (Ne.symm e)]
theorem Inc.touch {s g : PSet} {as1 as2 : List Nat} {now w1 w2 k sets l : Nat} (h : Inc s g as1 as2 now) (hs : s.wf w1 k sets) (hg : g.wf w2 k sets) (hw1 : WayOk w1) (hw2 : WayOk w2) (hlt : w1 < w2) :
    Inc (s.touch l) (g.touch l) (as1.set (s.place l) (now + 1)) (as2.set (g.place l) (now + 1)) (now + 1) := by
  have hp := PSet.place_lt (l := l) hs hw1
  have hq := PSet.place_lt (l := l) hg hw2
  have l1 : as1.length = w1 := by have := hs.od; rw [h.o1] at this; exact this
  have l2 : as2.length = w2 := by have := hg.od; rw [h.o2] at this; exact this
  have g1 : ∀ j, (as1.set (s.place l) (now + 1)).getD j 0 = if j = s.place l then now + 1 else as1.getD j 0 := fun j => getD_set (by omega)
  have g2 : ∀ j, (as2.set (g.place l) (now + 1)).getD j 0 = if j = g.place l then now + 1 else as2.getD j 0 := fun j => getD_set (by omega)
  have b2 : ∀ q, q < w2 → as2.getD q 0 ≤ now := fun q hq => by
    have hq' : q < as2.length := by omega
    have e2 : as2.getD q 0 = as2[q] := by simp [List.getD, List.getElem?_eq_getElem hq']
    rw [e2]; exact h.b2 _ (List.getElem_mem hq')
  refine ⟨?_, ?_, ?_, ?_, ?_, ?_⟩
  · unfold PSet.touch; simp only [h.o1, Od.note, Bool.or_true, if_true]
  · unfold PSet.touch; simp only [h.o2, Od.note, Bool.or_true, if_true]
  · intro a ha
    rcases List.mem_or_eq_of_mem_set ha with ha | ha
    · have := h.b2 a ha; omega
    · omega
  · intro x p hx0
    rcases (at_touch hs hw1).mp hx0 with ⟨rfl, rfl⟩ | ⟨hne, hx⟩
    · exact ⟨g.place x, (at_touch hg hw2).mpr (.inl ⟨rfl, rfl⟩), by rw [g1, g2, if_pos rfl, if_pos rfl]⟩
    · have hxl : x ≠ l := by rintro rfl; exact hne (at_place hs hx).symm
      obtain ⟨q, hq1, hq2⟩ := h.sub x p hx
      have hqne : q ≠ g.place l := by
        rintro rfl
        obtain ⟨f1, f2⟩ := at_victim hg h.o2 hq1 hxl
        have hall : ∀ y ∈ linesOf g, y ∈ linesOf s := fun y hy => by
          obtain ⟨q', hy'⟩ := at_mem.mp (mem_lines.mp hy)
          obtain ⟨p', hp'⟩ := h.upp x p y q' _ hx hq1 hy' (f2 q' (at_lt hg hy'))
          exact mem_lines.mpr (at_mem.mpr ⟨p', hp'⟩)
        have n1 := nodup_sub (lines_nodup hg) hall
        have n2 := lines_full (s := g) fun q hq => f1 q (by rw [← hg.len]; exact hq)
        have n3 := lines_le (s := s)
        rw [hg.len] at n2
        rw [hs.len] at n3
        omega
      exact ⟨q, (at_touch hg hw2).mpr (.inr ⟨hqne, hq1⟩), by rw [g1, g2, if_neg hne, if_neg hqne]; exact hq2⟩
  · intro x p y q' q hx0 hxg0 hy0 hle
    by_cases hyl : y = l
    · subst hyl; exact ⟨s.place y, (at_touch hs hw1).mpr (.inl ⟨rfl, rfl⟩)⟩
    · rcases (at_touch hg hw2).mp hy0 with ⟨_, e⟩ | ⟨hq'ne, hy⟩
      · exact absurd e hyl
      · rw [g2, g2, if_neg hq'ne] at hle
        have hb := b2 q' (at_lt hg hy)
        rcases (at_touch hg hw2).mp hxg0 with ⟨rfl, rfl⟩ | ⟨hqne, hxg⟩
        · rw [if_pos rfl] at hle; omega
        · rw [if_neg hqne] at hle
          have hxl : x ≠ l := by rintro rfl; exact hqne (at_place hg hxg).symm
          rcases (at_touch hs hw1).mp hx0 with ⟨_, e⟩ | ⟨hpne, hx⟩
          · exact absurd e hxl
          · obtain ⟨p', hp'⟩ := h.upp x p y q' q hx hxg hy hle
            refine ⟨p', (at_touch hs hw1).mpr (.inr ⟨?_, hp'⟩)⟩
            rintro rfl
            obtain ⟨_, f2⟩ := at_victim hs h.o1 hp' hyl
            have h5 := f2 p (at_lt hs hx)
            obtain ⟨qx, hqx1, hqx2⟩ := h.sub x p hx
            obtain ⟨qy, hqy1, hqy2⟩ := h.sub y _ hp'
            have ex : qx = q := hg.inj _ _ _ hqx1 hxg
            have ey : qy = q' := hg.inj _ _ _ hqy1 hy
            subst ex ey
            have hxy := h.inj x qx y qy hxg hy (by omega)
            subst hxy
            exact hpne (hs.inj _ _ _ hx hp')
  · intro x q y q' hx0 hy0 he
    rw [g2, g2] at he
    rcases (at_touch hg hw2).mp hx0 with ⟨rfl, rfl⟩ | ⟨hqne, hx⟩
    · rcases (at_touch hg hw2).mp hy0 with ⟨rfl, rfl⟩ | ⟨hqne', hy⟩
      · rfl
      · rw [if_pos rfl, if_neg hqne'] at he
        have := b2 q' (at_lt hg hy); omega
    · rcases (at_touch hg hw2).mp hy0 with ⟨rfl, rfl⟩ | ⟨hqne', hy⟩
      · rw [if_neg hqne, if_pos rfl] at he
        have := b2 q (at_lt hg hx); omega
      · rw [if_neg hqne, if_neg hqne'] at he
        exact h.inj x q y q' hx hy he
theorem Inc.drop {s g : PSet} {as1 as2 : List Nat} {now w1 w2 k sets l : Nat} (h : Inc s g as1 as2 now) (hs : s.wf w1 k sets) (hg : g.wf w2 k sets) : Inc (s.drop l) (g.drop l) as1 as2 now := by
  refine ⟨h.o1, h.o2, h.b2, ?_, ?_, ?_⟩
  · intro x p hx
    obtain ⟨h1, h2⟩ := (at_drop hs).mp hx
    obtain ⟨q, h3, h4⟩ := h.sub x p h1
    exact ⟨q, (at_drop hg).mpr ⟨h3, h2⟩, h4⟩
  · intro x p y q' q hx hxg hy hle
    obtain ⟨h1, h2⟩ := (at_drop hs).mp hx
    obtain ⟨h3, h4⟩ := (at_drop hg).mp hxg
    obtain ⟨h5, h6⟩ := (at_drop hg).mp hy
    obtain ⟨p', h7⟩ := h.upp x p y q' q h1 h3 h5 hle
    exact ⟨p', (at_drop hs).mpr ⟨h7, h6⟩⟩
  · intro x q y q' hx hy he
    exact h.inj x q y q' ((at_drop hg).mp hx).1 ((at_drop hg).mp hy).1 he
structure Inc2 (m1 m2 : CM) : Prop where
  f1 : m1.wf
  f2 : m2.wf
  s : m2.sets = m1.sets
  l : m2.line = m1.line
  w : m1.ways < m2.ways
  inc : ∀ (k : Nat) (s g : PSet), m1.ps[k]? = some s → m2.ps[k]? = some g → ∃ as1 as2 now, Inc s g as1 as2 now
theorem Inc2.touch {m1 m2 : CM} (h : Inc2 m1 m2) (x : Nat) : Inc2 (m1.touch x) (m2.touch x) := by
  refine ⟨CM.touch_wf h.f1 x, CM.touch_wf h.f2 x, h.s, h.l, h.w, fun k s g e1 e2 => ?_⟩
  unfold CM.touch at e1 e2
  simp only [] at e1 e2
  rw [h.s] at e2
  by_cases hk : x % m1.sets = k
  · subst hk
    have a1 := h.f1.st x
    have a2 := h.f2.st x
    rw [h.s] at a2
    rw [List.getElem?_set_self (List.getElem?_eq_some_iff.mp a1).1] at e1
    rw [List.getElem?_set_self (List.getElem?_eq_some_iff.mp a2).1] at e2
    cases e1; cases e2
    obtain ⟨as1, as2, now, hi⟩ := h.inc _ _ _ a1 a2
    have w2 := h.f2.stw x
    rw [h.s] at w2
    exact ⟨_, _, _, hi.touch (h.f1.stw x) w2 h.f1.w h.f2.w h.w⟩
  · rw [List.getElem?_set_ne hk] at e1 e2
    exact h.inc k s g e1 e2
theorem Inc2.drop {m1 m2 : CM} (h : Inc2 m1 m2) (x : Nat) : Inc2 (m1.drop x) (m2.drop x) := by
  refine ⟨CM.drop_wf h.f1 x, CM.drop_wf h.f2 x, h.s, h.l, h.w, fun k s g e1 e2 => ?_⟩
  unfold CM.drop at e1 e2
  simp only [] at e1 e2
  rw [h.s] at e2
  by_cases hk : x % m1.sets = k
  · subst hk
    have a1 := h.f1.st x
    have a2 := h.f2.st x
    rw [h.s] at a2
    rw [List.getElem?_set_self (List.getElem?_eq_some_iff.mp a1).1] at e1
    rw [List.getElem?_set_self (List.getElem?_eq_some_iff.mp a2).1] at e2
    cases e1; cases e2
    obtain ⟨as1, as2, now, hi⟩ := h.inc _ _ _ a1 a2
    have w2 := h.f2.stw x
    rw [h.s] at w2
    exact ⟨_, _, _, hi.drop (h.f1.stw x) w2⟩
  · rw [List.getElem?_set_ne hk] at e1 e2
    exact h.inc k s g e1 e2
theorem Inc2.has {m1 m2 : CM} (h : Inc2 m1 m2) {x : Nat} (hx : m1.has x = true) : m2.has x = true := by
  unfold CM.has at hx ⊢
  have a1 := h.f1.st x
  have a2 := h.f2.st x
  rw [h.s] at a2
  obtain ⟨as1, as2, now, hi⟩ := h.inc _ _ _ a1 a2
  obtain ⟨p, hp⟩ := at_mem.mp (of_decide_eq_true hx)
  obtain ⟨q, hq, _⟩ := hi.sub x p hp
  exact decide_eq_true (at_mem.mpr ⟨q, hq⟩)
end Ly
set_option Elab.async false
set_option linter.all false
set_option maxRecDepth 100000
namespace Ly
open PySem PySem.Spec L2
open PyProof.Rows hiding St
def onext (o : Od) : Od := o.note o.victim true
def vseq : Nat → Od → List Nat
  | 0, _ => []
  | k + 1, o => o.victim :: vseq k (onext o)
def Od.bd : Od → Prop
  | .ages _ as now => ∀ a ∈ as, a ≤ now
  | .ptrs _ _ => True
theorem Od.note_bd {o : Od} {p : Nat} {ms : Bool} (h : o.bd) : (o.note p ms).bd := by
  cases o with
  | ages bt as now =>
    unfold Od.note
    simp only []
    split
    · intro a ha
      rcases List.mem_or_eq_of_mem_set ha with ha | ha
      · have := h a ha; omega
      · omega
    · exact h
  | ptrs w ss => trivial
theorem vseq_len : ∀ {k : Nat} {o : Od}, (vseq k o).length = k
  | 0, _ => rfl
  | k + 1, o => by simp [vseq, vseq_len]
theorem vseq_ages {bt : Bool} {w n0 : Nat} : ∀ {k : Nat} {as : List Nat} {now : Nat}, as.length = w → n0 ≤ now → k ≤ as.countP (fun a => decide (a ≤ n0)) → (vseq k (.ages bt as now)).Nodup ∧ ∀ p ∈ vseq k (.ages bt as now), p < w ∧ as.getD p 0 ≤ n0
  | 0, as, now, h1, h2, h3 => by simp [vseq]
  | k + 1, as, now, h1, h2, h3 => by
    have hne : as ≠ [] := by
      intro e; rw [e] at h3; simp at h3
    obtain ⟨v1, v2⟩ := vicA_spec (List.length_pos_iff.mpr hne)
    obtain ⟨a, ha, ha2⟩ : ∃ a ∈ as, a ≤ n0 := by
      have : 0 < as.countP (fun a => decide (a ≤ n0)) := by omega
      obtain ⟨a, h4, h5⟩ := List.countP_pos_iff.mp this
      exact ⟨a, h4, by simpa using h5⟩
    have hv : as.getD (vicA as) 0 ≤ n0 := by
      have e : as.getD (vicA as) 0 = as[vicA as] := by simp [List.getD, List.getElem?_eq_getElem v1]
      rw [e]; exact Nat.le_trans (v2.1 a ha) ha2
    have hn : onext (.ages bt as now) = .ages bt (as.set (vicA as) (now + 1)) (now + 1) := by simp [onext, Od.note, Od.victim]
    have hc : k ≤ (as.set (vicA as) (now + 1)).countP (fun a => decide (a ≤ n0)) := by
      rw [List.countP_set v1]
      have : decide (now + 1 ≤ n0) = false := by simp; omega
      rw [this]
      simp only [Bool.false_eq_true, if_false]
      split <;> omega
    obtain ⟨i1, i2⟩ := vseq_ages (bt := bt) (w := w) (n0 := n0) (k := k) (as := as.set (vicA as) (now + 1)) (now := now + 1) (by simp [h1]) (by omega) hc
    rw [vseq, hn]
    have key : ∀ p ∈ vseq k (.ages bt (as.set (vicA as) (now + 1)) (now + 1)), p ≠ vicA as ∧ as.getD p 0 ≤ n0 := fun p hp => by
      obtain ⟨_, h5⟩ := i2 p hp
      have hne2 : p ≠ vicA as := by
        rintro rfl
        have : (as.set (vicA as) (now + 1)).getD (vicA as) 0 = now + 1 := by simp [List.getD, List.getElem?_set_self v1]
        omega
      refine ⟨hne2, ?_⟩
      have : (as.set (vicA as) (now + 1)).getD p 0 = as.getD p 0 := by simp [List.getD, List.getElem?_set_ne (Ne.symm hne2)]
      omega
    refine ⟨List.nodup_cons.mpr ⟨fun hm => (key _ hm).1 rfl, i1⟩, fun p hp => ?_⟩
    rcases List.mem_cons.mp hp with rfl | hp
    · exact ⟨by rw [← h1]; exact v1, hv⟩
    · exact ⟨(i2 p hp).1, (key p hp).2⟩
def ptN : Nat → List Nat → Nat → List Nat
  | 0, ss, _ => ss
  | f + 1, ss, node => if 1 < node then ptN f (ss.set (node / 2) (1 - node % 2)) (node / 2) else ss
theorem ptN_eq : ∀ {f node : Nat} {ss : List Nat}, node < 2 ^ f → ptNote ss node = ptN f ss node
  | 0, node, ss, h => by rw [ptNote, dif_neg (by simp at h; omega)]; rfl
  | f + 1, node, ss, h => by
    rw [ptNote, ptN]
    by_cases hn : 1 < node
    · rw [dif_pos hn, if_pos hn, ptN_eq (f := f) (by rw [Nat.pow_succ] at h; omega)]
    · rw [dif_neg hn, if_neg hn]
def vptr (w : Nat) : Nat → List Nat → List Nat
  | 0, _ => []
  | k + 1, ss => ptGo w ss 4 1 :: vptr w k (ptN 4 ss (w + ptGo w ss 4 1))
def allBits : Nat → List (List Nat)
  | 0 => [[]]
  | k + 1 => (allBits k).flatMap fun t => [0 :: t, 1 :: t]
theorem allBits_mem : ∀ {ss : List Nat}, (∀ s ∈ ss, s ≤ 1) → ss ∈ allBits ss.length
  | [], _ => by simp [allBits]
  | s :: ss, h => by
    have h1 := h s (by simp)
    have h2 := allBits_mem (ss := ss) fun x hx => h x (List.mem_cons_of_mem _ hx)
    rw [List.length_cons, allBits, List.mem_flatMap]
    refine ⟨ss, h2, ?_⟩
    rcases (show s = 0 ∨ s = 1 by omega) with rfl | rfl <;> simp
theorem vptr_eq {e : Nat} (he : e ≤ 3) : ∀ {k : Nat} {ss : List Nat}, ss.length = 2 ^ e → (∀ s ∈ ss, s ≤ 1) → vseq k (.ptrs (2 ^ e) ss) = vptr (2 ^ e) k ss
  | 0, ss, _, _ => rfl
  | k + 1, ss, hl, h1 => by
    have hv := Od.victim_lt (w := 2 ^ e) (o := .ptrs (2 ^ e) ss) ⟨e, he, rfl⟩ ⟨rfl, hl, h1⟩
    have h8 : 2 ^ e ≤ 8 := Nat.le_trans (Nat.pow_le_pow_right (by decide) he) (by decide)
    have hn : onext (.ptrs (2 ^ e) ss) = .ptrs (2 ^ e) (ptN 4 ss (2 ^ e + ptGo (2 ^ e) ss 4 1)) := by
      show Od.ptrs _ (ptNote ss _) = _
      rw [ptN_eq (f := 4) (show 2 ^ e + (Od.ptrs (2 ^ e) ss).victim < 2 ^ 4 by omega)]; rfl
    rw [vseq, vptr, hn]
    have hw := Od.note_wf (w := 2 ^ e) (p := (Od.ptrs (2 ^ e) ss).victim) (ms := true) (o := .ptrs (2 ^ e) ss) ⟨rfl, hl, h1⟩
    have hn2 : (Od.ptrs (2 ^ e) ss).note (Od.ptrs (2 ^ e) ss).victim true = .ptrs (2 ^ e) (ptN 4 ss (2 ^ e + ptGo (2 ^ e) ss 4 1)) := hn
    rw [hn2] at hw
    rw [vptr_eq he hw.2.1 hw.2.2]; rfl
def okPtr (w : Nat) (ss : List Nat) : Bool := decide (vptr w w ss).Nodup && (vptr w w ss).all fun p => decide (p < w)
theorem okPtr_all : ∀ e, e ≤ 3 → ((allBits (2 ^ e)).all (okPtr (2 ^ e))) = true := by
  intro e he
  rcases (show e = 0 ∨ e = 1 ∨ e = 2 ∨ e = 3 by omega) with rfl | rfl | rfl | rfl <;> decide +kernel
theorem vseq_turn {w : Nat} {o : Od} (hw : WayOk w) (h : o.wf w) (hb : o.bd) : (vseq w o).Nodup ∧ ∀ p ∈ vseq w o, p < w := by
  cases o with
  | ages bt as now =>
    have hl : as.length = w := h
    have hc : as.countP (fun a => decide (a ≤ now)) = as.length := List.countP_eq_length.mpr fun a ha => by simpa using hb a ha
    obtain ⟨h1, h2⟩ := vseq_ages (bt := bt) (k := w) (n0 := now) (as := as) (now := now) hl (Nat.le_refl _) (by omega)
    exact ⟨h1, fun p hp => (h2 p hp).1⟩
  | ptrs w' ss =>
    obtain ⟨e, he, rfl⟩ := hw
    obtain ⟨rfl, h2, h3⟩ := h
    rw [vptr_eq he h2 h3]
    have hm := allBits_mem h3
    rw [h2] at hm
    have := List.all_eq_true.mp (okPtr_all e he) ss hm
    simp only [okPtr, Bool.and_eq_true, decide_eq_true_eq, List.all_eq_true] at this
    exact this
theorem nodup_lt_len : ∀ {w : Nat} {l : List Nat}, l.Nodup → (∀ x ∈ l, x < w) → l.length ≤ w
  | 0, l, _, h => by
    cases l with
    | nil => simp
    | cons x l => have := h x (by simp); omega
  | w + 1, l, hn, h => by
    by_cases hm : w ∈ l
    · have h1 := nodup_lt_len (w := w) (l := l.erase w) (hn.erase w) fun x hx => by
        have h2 := (hn.mem_erase_iff).mp hx
        have := h x h2.2; have := h2.1; omega
      rw [List.length_erase_of_mem hm] at h1; omega
    · have := nodup_lt_len (w := w) (l := l) hn fun x hx => by
        have := h x hx
        have : x ≠ w := fun e => hm (e ▸ hx)
        omega
      omega
theorem nodup_perm : ∀ {w : Nat} {l : List Nat}, l.Nodup → (∀ x ∈ l, x < w) → l.length = w → l.Perm (List.range w)
  | 0, l, _, h, hl => by
    have : l = [] := List.eq_nil_of_length_eq_zero hl
    rw [this]; exact List.Perm.refl _
  | w + 1, l, hn, h, hl => by
    have hm : w ∈ l := by
      apply Classical.byContradiction
      intro hm
      have := nodup_lt_len (w := w) (l := l) hn fun x hx => by
        have := h x hx
        have : x ≠ w := fun e => hm (e ▸ hx)
        omega
      omega
    have h1 := nodup_perm (w := w) (l := l.erase w) (hn.erase w) (fun x hx => by
        have h2 := (hn.mem_erase_iff).mp hx
        have := h x h2.2; have := h2.1; omega) (by rw [List.length_erase_of_mem hm]; omega)
    rw [List.range_succ]
    exact (List.perm_cons_erase hm).trans ((h1.cons w).trans (List.perm_append_comm (l₁ := [w]) (l₂ := List.range w)))
end Ly
set_option Elab.async false
set_option linter.all false
set_option maxRecDepth 100000
namespace Ly
open PySem PySem.Spec L2
open PyProof.Rows hiding St
theorem lines_lt {s : PSet} (h : none ∈ s.pl) : (Ly.linesOf s).length < s.pl.length := by
  unfold Ly.linesOf
  generalize s.pl = pl at h
  induction pl with
  | nil => cases h
  | cons o pl ih =>
    rw [List.filterMap_cons]
    cases o with
    | none => simp only [id, List.length_cons]; have := List.length_filterMap_le id pl; omega
    | some x =>
      have := ih (by simpa using h)
      simp only [id, List.length_cons]; omega
section
variable {w k sets l n : Nat} {s : PSet} {as L : List Nat} {now : Nat} {bt : Bool}
theorem all_placed (h : s.wf w k sets) (hn : L.Nodup) (hL : ∀ x ∈ L, some x ∈ s.pl) (hl : L.length = w) : ∀ q, q < w → ∃ x ∈ L, At s x q := by
  intro q hq
  have hq' : q < s.pl.length := by rw [h.len]; exact hq
  have hsub : ∀ x ∈ L, x ∈ Ly.linesOf s := fun x hx => mem_lines.mpr (hL x hx)
  have hle := lines_le (s := s)
  rw [h.len] at hle
  cases hx : s.pl[q] with
  | none =>
    have h1 := lines_lt (s := s) (hx ▸ List.getElem_mem hq')
    have h2 := nodup_sub hn hsub
    rw [h.len] at h1; omega
  | some x =>
    have hat : At s x q := by unfold At; rw [List.getElem?_eq_getElem hq', hx]
    by_cases hm : x ∈ L
    · exact ⟨x, hm, hat⟩
    · have h2 := nodup_sub (l := x :: L) (m := Ly.linesOf s) (List.nodup_cons.mpr ⟨hm, hn⟩) fun y hy => by
        rcases List.mem_cons.mp hy with rfl | hy
        · exact mem_lines.mpr (at_mem.mpr ⟨q, hat⟩)
        · exact hsub y hy
      simp only [List.length_cons] at h2; omega
theorem some_other (h : s.wf w k sets) (hl : L.length < w) : ∃ q, q < w ∧ ∀ x ∈ L, ¬ At s x q := by
  apply Classical.byContradiction
  intro hc
  have hall : ∀ q, q < w → ∃ x ∈ L, At s x q := fun q hq => by
    apply Classical.byContradiction
    intro h2
    exact hc ⟨q, hq, fun x hx ha => h2 ⟨x, hx, ha⟩⟩
  have hfull := lines_full (s := s) fun q hq => by
    obtain ⟨x, _, hx⟩ := hall q (by rw [← h.len]; exact hq)
    exact ⟨x, hx⟩
  have h2 := nodup_sub (lines_nodup h) (m := L) fun x hx => by
    obtain ⟨p, hp⟩ := at_mem.mp (mem_lines.mp hx)
    obtain ⟨y, hy, hy2⟩ := hall p (at_lt h hp)
    have : x = y := by unfold At at hp hy2; rw [hp] at hy2; cases hy2; rfl
    exact this ▸ hy
  rw [hfull, h.len] at h2; omega
structure Tl (s : PSet) (as : List Nat) (L : List Nat) (w : Nat) : Prop where
  nd : L.Nodup
  held : ∀ x ∈ L, some x ∈ s.pl
  pw : L.Pairwise fun x y => ∀ p q, At s x p → At s y q → as.getD p 0 < as.getD q 0
  old : ∀ x ∈ L, ∀ p q, At s x p → q < w → (∀ y ∈ L, ¬ At s y q) → as.getD q 0 < as.getD p 0
theorem miss_place (h : s.wf w k sets) (ho : s.od = .ages bt as now) (hm : some n ∉ s.pl) : s.pl[s.place n]? = some none ∨ ((∀ q, q < w → ∃ x, At s x q) ∧ s.place n = s.od.victim ∧ ∀ q, q < w → as.getD (s.place n) 0 ≤ as.getD q 0) := by
  by_cases hn : none ∈ s.pl
  · left
    have e : s.place n = s.pl.idxOf none := by unfold PSet.place; rw [if_neg hm, if_pos hn]
    rw [e]; exact (idx_get hn).1
  · right
    have e : s.place n = s.od.victim := by unfold PSet.place; rw [if_neg hm, if_neg hn]
    have e2 : s.place n = vicA as := by rw [e, ho]; rfl
    have hal : as.length = w := by have := h.od; rw [ho] at this; exact this
    refine ⟨fun q hq => ?_, e, fun q hq => ?_⟩
    · have hq' : q < s.pl.length := by rw [h.len]; exact hq
      cases hx : s.pl[q] with
      | none => exact absurd (hx ▸ List.getElem_mem hq') hn
      | some x => exact ⟨x, by unfold At; rw [List.getElem?_eq_getElem hq', hx]⟩
    · obtain ⟨v1, v2⟩ := vicA_spec (as := as) (by omega)
      rw [e2]
      have e3 : as.getD (vicA as) 0 = as[vicA as] := by simp [List.getD, List.getElem?_eq_getElem v1]
      have hq' : q < as.length := by omega
      have e4 : as.getD q 0 = as[q] := by simp [List.getD, List.getElem?_eq_getElem hq']
      rw [e3, e4]
      exact v2.1 _ (List.getElem_mem hq')
def tlNext (w : Nat) (L : List Nat) (n : Nat) : List Nat := (if L.length < w then L else L.tail) ++ [n]
theorem tl_miss (h : s.wf w k sets) (hw : WayOk w) (ho : s.od = .ages bt as now) (hb : ∀ a ∈ as, a ≤ now) (t : Tl s as L w) (hL : L.length ≤ w) (hm : some n ∉ s.pl) : Tl (s.touch n) (as.set (s.place n) (now + 1)) (tlNext w L n) w ∧ (L.length = w → ∃ x T, L = x :: T ∧ At s x (s.place n)) := by
  have hal : as.length = w := by have := h.od; rw [ho] at this; exact this
  have hp := PSet.place_lt (l := n) h hw
  have g1 : ∀ j, (as.set (s.place n) (now + 1)).getD j 0 = if j = s.place n then now + 1 else as.getD j 0 := fun j => getD_set (by omega)
  have bnd : ∀ q, q < w → as.getD q 0 ≤ now := fun q hq => by
    have hq' : q < as.length := by omega
    have e2 : as.getD q 0 = as[q] := by simp [List.getD, List.getElem?_eq_getElem hq']
    rw [e2]; exact hb _ (List.getElem_mem hq')
  have hnL : n ∉ L := fun hc => hm (t.held n hc)
  have hfree : (L.length < w → ∀ x ∈ L, ¬ At s x (s.place n)) ∧ (L.length = w → ∃ x T, L = x :: T ∧ At s x (s.place n)) := by
    rcases miss_place h ho hm with hnone | ⟨hfull, _, hmin⟩
    · refine ⟨fun _ x _ hx => ?_, fun hl => ?_⟩
      · unfold At at hx; rw [hnone] at hx; cases hx
      · obtain ⟨x, _, hx⟩ := all_placed h t.nd t.held hl _ hp
        unfold At at hx; rw [hnone] at hx; cases hx
    · refine ⟨fun hl x hx hat => ?_, fun hl => ?_⟩
      · obtain ⟨q, hq, hq2⟩ := some_other (L := L) h hl
        have := t.old x hx _ q hat hq hq2
        have := hmin q hq
        omega
      · have hw0 := hw.pos
        cases hLe : L with
        | nil => rw [hLe] at hl; simp at hl; omega
        | cons x T =>
          rw [hLe] at t hl
          obtain ⟨p, hpx⟩ := at_mem.mp (t.held x (by simp))
          obtain ⟨y, hy, hy2⟩ := all_placed h t.nd t.held hl _ hp
          refine ⟨x, T, rfl, ?_⟩
          rcases List.mem_cons.mp hy with rfl | hy
          · exact hy2
          · have h1 := (List.pairwise_cons.mp t.pw).1 y hy p _ hpx hy2
            have := hmin p (at_lt h hpx)
            omega
  refine ⟨?_, hfree.2⟩
  obtain ⟨L1, hL1⟩ : ∃ L1, L1 = (if L.length < w then L else L.tail) := ⟨_, rfl⟩
  have hsub : ∀ x ∈ L1, x ∈ L := by
    intro x hx
    rw [hL1] at hx
    split at hx
    · exact hx
    · exact List.mem_of_mem_tail hx
  have hpw1 : L1.Pairwise fun x y => ∀ p q, At s x p → At s y q → as.getD p 0 < as.getD q 0 := by
    rw [hL1]; split
    · exact t.pw
    · exact t.pw.tail
  have hnd1 : L1.Nodup := by
    rw [hL1]; split
    · exact t.nd
    · exact t.nd.tail
  have hoff : ∀ x ∈ L1, ¬ At s x (s.place n) := by
    intro x hx hat
    rw [hL1] at hx
    split at hx
    · rename_i hl; exact hfree.1 hl x hx hat
    · rename_i hl
      obtain ⟨y, T, hy, hy2⟩ := hfree.2 (by omega)
      have hxy : x = y := by unfold At at hat hy2; rw [hat] at hy2; cases hy2; rfl
      rw [hy] at hx
      have := t.nd
      rw [hy] at this
      exact (List.nodup_cons.mp this).1 (hxy ▸ hx)
  have hat1 : ∀ x ∈ L1, ∀ p, At (s.touch n) x p ↔ At s x p := by
    intro x hx p
    have hxn : x ≠ n := fun e => hnL (e ▸ hsub x hx)
    rw [at_touch h hw]
    constructor
    · rintro (⟨_, e⟩ | ⟨_, h1⟩)
      · exact absurd e hxn
      · exact h1
    · intro h1
      exact .inr ⟨fun e => hoff x hx (e ▸ h1), h1⟩
  have hne : ∀ x ∈ L1, ∀ p, At s x p → p ≠ s.place n := fun x hx p h1 e => hoff x hx (e ▸ h1)
  have hatn : ∀ p, At (s.touch n) n p ↔ p = s.place n := by
    intro p
    rw [at_touch h hw]
    constructor
    · rintro (⟨e, _⟩ | ⟨_, h1⟩)
      · exact e
      · exact absurd (at_mem.mpr ⟨p, h1⟩) hm
    · intro e; exact .inl ⟨e, rfl⟩
  show Tl _ _ ((if L.length < w then L else L.tail) ++ [n]) w
  rw [← hL1]
  refine ⟨?_, ?_, ?_, ?_⟩
  · rw [List.nodup_append]
    refine ⟨hnd1, by simp, fun x hx y hy => ?_⟩
    rw [List.mem_singleton.mp hy]
    intro e; exact hnL (e ▸ hsub x hx)
  · intro x hx
    rcases List.mem_append.mp hx with hx | hx
    · obtain ⟨p, hpx⟩ := at_mem.mp (t.held x (hsub x hx))
      exact at_mem.mpr ⟨p, (hat1 x hx p).mpr hpx⟩
    · rw [List.mem_singleton.mp hx]; exact at_mem.mpr ⟨_, (hatn _).mpr rfl⟩
  · rw [List.pairwise_append]
    refine ⟨hpw1.imp_of_mem fun {x y} hx hy h1 p q h2 h3 => ?_, by simp, fun x hx y hy p q h2 h3 => ?_⟩
    · have h2' := (hat1 x hx p).mp h2
      have h3' := (hat1 y hy q).mp h3
      rw [g1, g1, if_neg (hne x hx p h2'), if_neg (hne y hy q h3')]
      exact h1 p q h2' h3'
    · rw [List.mem_singleton.mp hy] at h3
      have h2' := (hat1 x hx p).mp h2
      rw [g1, g1, if_neg (hne x hx p h2'), if_pos ((hatn q).mp h3)]
      have := bnd p (at_lt h h2')
      omega
  · intro x hx p q h1 hq h2
    have hqne : q ≠ s.place n := fun e => h2 n (by simp) ((hatn q).mpr e)
    rw [g1, g1, if_neg hqne]
    rcases List.mem_append.mp hx with hx | hx
    · have h1' := (hat1 x hx p).mp h1
      rw [if_neg (hne x hx p h1')]
      by_cases hqL : ∃ y ∈ L, At s y q
      · obtain ⟨y, hy, hy2⟩ := hqL
        have hyL1 : y ∉ L1 := fun hc => h2 y (List.mem_append_left _ hc) ((hat1 y hc q).mpr hy2)
        exfalso
        by_cases hl : L.length < w
        · rw [hL1, if_pos hl] at hyL1; exact hyL1 hy
        · obtain ⟨z, T, hz, hz2⟩ := hfree.2 (by omega)
          rw [hL1, if_neg hl, hz] at hyL1
          rw [hz] at hy
          rcases List.mem_cons.mp hy with rfl | hy
          · exact hqne (h.inj _ _ _ hy2 hz2)
          · exact hyL1 hy
      · exact t.old x (hsub x hx) p q h1' hq fun y hy hc => hqL ⟨y, hy, hc⟩
    · rw [List.mem_singleton.mp hx] at h1
      rw [if_pos ((hatn p).mp h1)]
      have := bnd q hq
      omega
theorem tl_hit (h : s.wf w k sets) (hw : WayOk w) (ho : s.od = .ages true as now) (hb : ∀ a ∈ as, a ≤ now) (t : Tl s as L w) (hm : n ∈ L) : Tl (s.touch n) (as.set (s.place n) (now + 1)) (L.filter (fun x => decide (x ≠ n)) ++ [n]) w := by
  have hal : as.length = w := by have := h.od; rw [ho] at this; exact this
  have hp := PSet.place_lt (l := n) h hw
  have g1 : ∀ j, (as.set (s.place n) (now + 1)).getD j 0 = if j = s.place n then now + 1 else as.getD j 0 := fun j => getD_set (by omega)
  have bnd : ∀ q, q < w → as.getD q 0 ≤ now := fun q hq => by
    have hq' : q < as.length := by omega
    have e2 : as.getD q 0 = as[q] := by simp [List.getD, List.getElem?_eq_getElem hq']
    rw [e2]; exact hb _ (List.getElem_mem hq')
  obtain ⟨p0, hp0⟩ := at_mem.mp (t.held n hm)
  have hpl := at_place h hp0
  have hat : ∀ x p, At (s.touch n) x p ↔ At s x p := by
    intro x p
    rw [at_touch h hw, hpl]
    constructor
    · rintro (⟨rfl, rfl⟩ | ⟨_, h1⟩)
      · exact hp0
      · exact h1
    · intro h1
      by_cases e : p = p0
      · subst e
        unfold At at h1 hp0
        rw [hp0] at h1; cases h1
        exact .inl ⟨rfl, rfl⟩
      · exact .inr ⟨e, h1⟩
  have hne : ∀ x ∈ L.filter (fun x => decide (x ≠ n)), x ∈ L ∧ x ≠ n ∧ ∀ p, At s x p → p ≠ s.place n := fun x hx => by
    obtain ⟨h1, h2⟩ := List.mem_filter.mp hx
    have h2 : x ≠ n := by simpa using h2
    refine ⟨h1, h2, fun p h3 e => ?_⟩
    rw [e, hpl] at h3
    unfold At at h3 hp0
    rw [hp0] at h3; cases h3; exact h2 rfl
  refine ⟨?_, ?_, ?_, ?_⟩
  · rw [List.nodup_append]
    refine ⟨t.nd.filter _, by simp, fun x hx y hy => ?_⟩
    rw [List.mem_singleton.mp hy]; exact (hne x hx).2.1
  · intro x hx
    rcases List.mem_append.mp hx with hx | hx
    · obtain ⟨p, hpx⟩ := at_mem.mp (t.held x (hne x hx).1)
      exact at_mem.mpr ⟨p, (hat x p).mpr hpx⟩
    · rw [List.mem_singleton.mp hx]; exact at_mem.mpr ⟨p0, (hat n p0).mpr hp0⟩
  · rw [List.pairwise_append]
    refine ⟨(t.pw.filter _).imp_of_mem fun {x y} hx hy h1 p q h2 h3 => ?_, by simp, fun x hx y hy p q h2 h3 => ?_⟩
    · have h2' := (hat x p).mp h2
      have h3' := (hat y q).mp h3
      rw [g1, g1, if_neg ((hne x hx).2.2 p h2'), if_neg ((hne y hy).2.2 q h3')]
      exact h1 p q h2' h3'
    · rw [List.mem_singleton.mp hy] at h3
      have h2' := (hat x p).mp h2
      have h3' := (hat n q).mp h3
      have hq0 : q = s.place n := by rw [hpl]; exact h.inj _ _ _ h3' hp0
      rw [g1, g1, if_neg ((hne x hx).2.2 p h2'), if_pos hq0]
      have := bnd p (at_lt h h2')
      omega
  · intro x hx p q h1 hq h2
    have hqL : ∀ y ∈ L, ¬ At s y q := fun y hy hc => by
      by_cases e : y = n
      · exact h2 y (by rw [e]; simp) ((hat y q).mpr hc)
      · exact h2 y (List.mem_append_left _ (List.mem_filter.mpr ⟨hy, by simpa using e⟩)) ((hat y q).mpr hc)
    have hqne : q ≠ s.place n := fun e => hqL n hm (by rw [e, hpl]; exact hp0)
    rw [g1, g1, if_neg hqne]
    rcases List.mem_append.mp hx with hx | hx
    · have h1' := (hat x p).mp h1
      rw [if_neg ((hne x hx).2.2 p h1')]
      exact t.old x (hne x hx).1 p q h1' hq hqL
    · rw [List.mem_singleton.mp hx] at h1
      have hq0 : p = s.place n := by rw [hpl]; exact h.inj _ _ _ ((hat n p).mp h1) hp0
      rw [if_pos hq0]
      have := bnd q hq
      omega
end
end Ly
set_option Elab.async false
set_option linter.all false
set_option maxRecDepth 100000
namespace Ly
open PySem PySem.Spec L2
open PyProof.Rows hiding St
structure Trn (w : Nat) (pl0 : List (Option Nat)) (V ns : List Nat) (s : PSet) : Prop where
  le : ns.length ≤ w
  vs : vseq (w - ns.length) s.od = V.drop ns.length
  vn : V.Nodup
  vl : V.length = w
  vlt : ∀ p ∈ V, p < w
  new : ∀ (i x : Nat), ns[i]? = some x → ∃ p, V[i]? = some p ∧ s.pl[p]? = some (some x)
  old : ∀ (p : Nat), (∀ (i : Nat), i < ns.length → V[i]? ≠ some p) → s.pl[p]? = pl0[p]?
  full : none ∉ s.pl
section
variable {w k sets n : Nat} {s : PSet} {V ns : List Nat} {pl0 : List (Option Nat)}
theorem Trn.start (hw : WayOk w) (h : s.wf w k sets) (hb : s.od.bd) (hf : none ∉ s.pl) : Trn w s.pl (vseq w s.od) [] s := by
  obtain ⟨h1, h2⟩ := vseq_turn hw h.od hb
  exact ⟨Nat.zero_le _, rfl, h1, vseq_len, h2, fun i x hx => by simp at hx, fun p _ => rfl, hf⟩
theorem Trn.step (r : Trn w pl0 V ns s) (h : s.wf w k sets) (hl : ns.length < w) (hm : some n ∉ s.pl) : ∃ p, V[ns.length]? = some p ∧ s.place n = p ∧ s.pl[p]? = pl0[p]? ∧ Trn w pl0 V (ns ++ [n]) (s.touch n) := by
  obtain ⟨j, hj⟩ : ∃ j, w - ns.length = j + 1 := ⟨w - ns.length - 1, by omega⟩
  have hlV : ns.length < V.length := by rw [r.vl]; exact hl
  have hvs := r.vs
  rw [hj, vseq, List.drop_eq_getElem_cons hlV] at hvs
  obtain ⟨hv1, hv2⟩ := List.cons.inj hvs
  have hpl : s.place n = s.od.victim := by unfold PSet.place; rw [if_neg hm, if_neg r.full]
  have hVi : V[ns.length]? = some s.od.victim := by rw [List.getElem?_eq_getElem hlV, ← hv1]
  have hvw : s.od.victim < w := r.vlt _ (List.mem_of_getElem? hVi)
  have hoff : ∀ i, i < ns.length → V[i]? ≠ some s.od.victim := fun i hi e => by
    have := (List.getElem?_inj (by rw [r.vl]; omega) r.vn).mp (e.trans hVi.symm)
    omega
  have hold := r.old _ hoff
  have htp : (s.touch n).pl = s.pl.set s.od.victim (some n) := by unfold PSet.touch; simp only [if_neg hm, hpl]
  have hto : (s.touch n).od = onext s.od := by unfold PSet.touch onext; simp only [hpl, decide_eq_false hm, Bool.not_false]
  have hgs : ∀ p, (s.touch n).pl[p]? = if s.od.victim = p then some (some n) else s.pl[p]? := fun p => by
    rw [htp, List.getElem?_set]
    by_cases e : s.od.victim = p
    · rw [if_pos e, if_pos e, if_pos (by rw [h.len]; exact hvw)]
    · rw [if_neg e, if_neg e]
  refine ⟨_, hVi, hpl, hold, by simp; omega, ?_, r.vn, r.vl, r.vlt, fun i x hx => ?_, fun p hp => ?_, fun hc => ?_⟩
  · rw [hto, List.length_append, List.length_singleton, show w - (ns.length + 1) = j by omega]; exact hv2
  · by_cases hi : i < ns.length
    · rw [List.getElem?_append_left hi] at hx
      obtain ⟨p, h1, h2⟩ := r.new i x hx
      refine ⟨p, h1, ?_⟩
      rw [hgs, if_neg (fun e => hoff i hi (by rw [h1, e]))]; exact h2
    · have hi2 : i = ns.length := by
        have := (List.getElem?_eq_some_iff.mp hx).1; simp at this; omega
      subst hi2
      simp at hx
      subst hx
      exact ⟨_, hVi, by rw [hgs, if_pos rfl]⟩
  · have hne : s.od.victim ≠ p := fun e => hp ns.length (by simp) (by rw [hVi, e])
    rw [hgs, if_neg hne]
    exact r.old p fun i hi => hp i (by simp; omega)
  · rw [htp] at hc
    rcases List.mem_or_eq_of_mem_set hc with hc | hc
    · exact r.full hc
    · cases hc
theorem Trn.all (r : Trn w pl0 V ns s) (h : s.wf w k sets) (hl : ns.length = w) (l : Nat) : some l ∈ s.pl ↔ l ∈ ns := by
  constructor
  · intro hm
    obtain ⟨q, hq⟩ := List.getElem?_of_mem hm
    have hqw : q < w := by rw [← h.len]; exact (List.getElem?_eq_some_iff.mp hq).1
    have hqV : q ∈ V := (nodup_perm r.vn r.vlt r.vl).mem_iff.mpr (List.mem_range.mpr hqw)
    obtain ⟨i, hi⟩ := List.getElem?_of_mem hqV
    have hiw : i < ns.length := by rw [hl, ← r.vl]; exact (List.getElem?_eq_some_iff.mp hi).1
    obtain ⟨p, h1, h2⟩ := r.new i _ (List.getElem?_eq_getElem hiw)
    rw [hi] at h1
    cases h1
    rw [hq] at h2
    cases h2
    exact List.getElem_mem hiw
  · intro hm
    obtain ⟨i, hi⟩ := List.getElem?_of_mem hm
    obtain ⟨p, _, h2⟩ := r.new i l hi
    exact List.mem_of_getElem? h2
end
def Od.kd : Od → Option Bool
  | .ages bt _ _ => some bt
  | .ptrs _ _ => none
theorem Od.note_kd {o : Od} {p : Nat} {ms : Bool} : (o.note p ms).kd = o.kd := by
  cases o with
  | ages bt as now => unfold Od.note; simp only []; split <;> rfl
  | ptrs w ss => rfl
theorem touch_bd {s : PSet} {l : Nat} (h : s.od.bd) : (s.touch l).od.bd := Od.note_bd h
theorem touch_kd {s : PSet} {l : Nat} : (s.touch l).od.kd = s.od.kd := Od.note_kd
theorem nones_miss {w k sets n : Nat} {s : PSet} (h : s.wf w k sets) (hw : WayOk w) (hm : some n ∉ s.pl) (hn : none ∈ s.pl) : (s.touch n).pl.countP Option.isNone + 1 = s.pl.countP Option.isNone := by
  have hi := idx_get hn
  have htp : (s.touch n).pl = s.pl.set (s.pl.idxOf none) (some n) := by
    unfold PSet.touch PSet.place
    simp only [if_neg hm, if_pos hn]
  have hx : s.pl[s.pl.idxOf none]'hi.2 = none := by have := hi.1; rw [List.getElem?_eq_getElem hi.2] at this; exact Option.some.inj this
  have hpos : 0 < s.pl.countP Option.isNone := List.countP_pos_iff.mpr ⟨none, hn, rfl⟩
  rw [htp, List.countP_set hi.2, hx]
  simp
  omega
theorem full_miss {n : Nat} {s : PSet} (hm : some n ∉ s.pl) (hn : none ∉ s.pl) : none ∉ (s.touch n).pl := by
  unfold PSet.touch
  simp only [if_neg hm]
  intro hc
  rcases List.mem_or_eq_of_mem_set hc with hc | hc
  · exact hn hc
  · cases hc
theorem mem_touch {w k sets l x : Nat} {s : PSet} (h : s.wf w k sets) (hw : WayOk w) (hx : some x ∈ (s.touch l).pl) : x = l ∨ some x ∈ s.pl := by
  obtain ⟨p, hp⟩ := at_mem.mp hx
  rcases (at_touch h hw).mp hp with ⟨_, e⟩ | ⟨_, h1⟩
  · exact .inl e
  · exact .inr (at_mem.mpr ⟨p, h1⟩)
theorem tl_nil {s : PSet} {as : List Nat} {w : Nat} : Tl s as [] w := ⟨by simp, by simp, .nil, by simp⟩
end Ly
set_option Elab.async false
set_option linter.all false
set_option maxRecDepth 100000
namespace GK22
open PySem PySem.Spec L2 Ly
open PyProof.Rows hiding St
noncomputable def lb__law_draws_0 : MS := (mIfS (mCmp oGt (mVar 3) (mC (.int 0))) (mSeq (mExpr (mBM "list" oAppend (mVar 1) (lCons (mBin oMod (mVar 3) (mC (.int 1000))) lNil)))
    (mSet 3 (mBin oFdiv (mVar 3) (mC (.int 1000))))) mPass)
noncomputable def lb__law_draws_1 : MS := (mSeq (mSet 5 (mBin oMod (mCall bInt (lCons (mBin oAdd (mBin oAdd (mBin oMul (mVar 5) (mVar 5)) (mBin oMul (mVar 4) (mC (.int 7919)))) (mC (.int 17))) lNil)) (mC (.int 2147483629))))
    (mExpr (mBM "list" oAppend (mVar 1) (lCons (mBin oMod (mVar 5) (mC (.int 1000))) lNil))))
noncomputable def lb__law_draws_2 : MS := (mSeq (mSet 3 (mCall bAbs (lCons (mBin oIx (mVar 0) (mVar 2)) lNil)))
    (mIfS (mCmp oGe (mVar 3) (mBin oPow (mC (.int 10)) (mC (.int 18)))) (mFor (mRng1 (lCons (mC (.int 20)) lNil)) (gN 4) lb__law_draws_0) (mSeq (mSet 5 (mBin oMod (mCall bInt (lCons (mBin oAdd (mBin oAdd (mBin oMul (mBin oIx (mVar 0) (mVar 2)) (mC (.int 48271))) (mBin oMul (mVar 2) (mC (.int 69621)))) (mC (.int 12345))) lNil)) (mC (.int 2147483647))))
    (mFor (mRng1 (lCons (mC (.int 3)) lNil)) (gN 4) lb__law_draws_1))))
noncomputable def b__law_draws : MS := (mSeq (mSet 1 (mLst lNil))
    (mSeq (mFor (mRng1 (lCons (mCall bMin (lCons (mCall bLen (lCons (mVar 0) lNil)) (lCons (mC (.int 63)) lNil))) lNil)) (gN 2) lb__law_draws_2)
    (mRet (mVar 1))))
noncomputable def m__law_draws : MD := mDef 1 5 b__law_draws
theorem len__law_draws (ds : List D) (S : Hs) (h : ds.length ≠ 1) : m__law_draws ds S = .bad := mDef_len ds S h
noncomputable def b__law_reader : MS := (mSeq (mSet 1 (mFn m__law_draws (lCons (mVar 0) lNil)))
    (mSeq (mSet 2 (mC (.int 5)))
    (mSeq (mIfS (mCmp oGt (mCall bLen (lCons (mVar 0) lNil)) (mC (.int 0))) (mSet 2 (mBin oMod (mCall bAbs (lCons (mBin oIx (mVar 0) (mUn oNeg (mC (.int 1)))) lNil)) (mC (.int 1000003)))) mPass)
    (mRet (mDisp (dpCons (mC (.str "row")) (mVar 1) (dpCons (mC (.str "at")) (mC (.int 0)) (dpCons (mC (.str "seed")) (mVar 2) dpNil))))))))
noncomputable def m__law_reader : MD := mDef 1 2 b__law_reader
theorem len__law_reader (ds : List D) (S : Hs) (h : ds.length ≠ 1) : m__law_reader ds S = .bad := mDef_len ds S h
noncomputable def b__law_next : MS := (mSeq (mSet 2 (mBin oIx (mVar 0) (mC (.str "at"))))
    (mSeq (mAsg (mBin oAdd (mVar 2) (mC (.int 1))) (gSb (mVar 0) (mC (.str "at"))))
    (mSeq (mIfS (mCmp oLt (mVar 2) (mCall bLen (lCons (mBin oIx (mVar 0) (mC (.str "row"))) lNil))) (mRet (mBin oMod (mCall bInt (lCons (mBin oIx (mBin oIx (mVar 0) (mC (.str "row"))) (mVar 2)) lNil)) (mVar 1))) mPass)
    (mSeq (mSet 3 (mBin oMod (mCall bInt (lCons (mBin oMul (mBin oAdd (mBin oAdd (mBin oIx (mVar 0) (mC (.str "seed"))) (mBin oMul (mC (.int 17)) (mVar 2))) (mC (.int 3))) (mC (.int 48271))) lNil)) (mC (.int 2147483647))))
    (mRet (mBin oMod (mBin oFdiv (mBin oMod (mCall bInt (lCons (mBin oAdd (mBin oMul (mVar 3) (mVar 3)) (mVar 2)) lNil)) (mC (.int 2147483629))) (mC (.int 7))) (mVar 1)))))))
noncomputable def m__law_next : MD := mDef 2 2 b__law_next
theorem len__law_next (ds : List D) (S : Hs) (h : ds.length ≠ 2) : m__law_next ds S = .bad := mDef_len ds S h
noncomputable def b__law_cache : MS := (mSeq (mSet 1 (mBin oIx (mLst (lCons (mC (.str "lru")) (lCons (mC (.str "fifo")) (lCons (mC (.str "plru")) lNil)))) (mFn m__law_next (lCons (mVar 0) (lCons (mC (.int 3)) lNil)))))
    (mRet (mTup (lCons (mBin oShl (mC (.int 1)) (mBin oIx (mLst (lCons (mC (.int 0)) (lCons (mC (.int 0)) (lCons (mC (.int 1)) (lCons (mC (.int 1)) (lCons (mC (.int 2)) (lCons (mC (.int 3)) (lCons (mC (.int 6)) lNil)))))))) (mFn m__law_next (lCons (mVar 0) (lCons (mC (.int 7)) lNil))))) (lCons (mBin oShl (mC (.int 1)) (mFn m__law_next (lCons (mVar 0) (lCons (mC (.int 4)) lNil)))) (lCons (mBin oShl (mC (.int 1)) (mFn m__law_next (lCons (mVar 0) (lCons (mC (.int 5)) lNil)))) (lCons (mVar 1) lNil)))))))
noncomputable def m__law_cache : MD := mDef 1 1 b__law_cache
theorem len__law_cache (ds : List D) (S : Hs) (h : ds.length ≠ 1) : m__law_cache ds S = .bad := mDef_len ds S h
noncomputable def b_Pointers_m___init__ (cA : Nat → Addr) : MS := (mSeq (mFldSet [cA 1] "ways" (mVar 1) (mVar 0))
    (mFldSet [cA 1] "sides" (mBin oMul (mLst (lCons (mC (.int 0)) lNil)) (mVar 1)) (mVar 0)))
noncomputable def m_Pointers_m___init__ (cA : Nat → Addr) : MD := mDef 2 0 (b_Pointers_m___init__ cA)
theorem len_Pointers_m___init__ {cA : Nat → Addr} (ds : List D) (S : Hs) (h : ds.length ≠ 2) : (m_Pointers_m___init__ cA) ds S = .bad := mDef_len ds S h
noncomputable def b_Ages_m___init__ (cA : Nat → Addr) : MS := (mSeq (mFldSet [cA 0] "ages" (mBin oMul (mLst (lCons (mC (.int 0)) lNil)) (mVar 1)) (mVar 0))
    (mSeq (mFldSet [cA 0] "by_touch" (mVar 2) (mVar 0))
    (mFldSet [cA 0] "now" (mC (.int 0)) (mVar 0))))
noncomputable def m_Ages_m___init__ (cA : Nat → Addr) : MD := mDef 3 0 (b_Ages_m___init__ cA)
theorem len_Ages_m___init__ {cA : Nat → Addr} (ds : List D) (S : Hs) (h : ds.length ≠ 3) : (m_Ages_m___init__ cA) ds S = .bad := mDef_len ds S h
noncomputable def b_Cache_m___init__ (cA : Nat → Addr) : MS := (mSeq (mAsg (mVar 1) (gT 4 (gsC (gN 2) (gsC (gN 3) (gsC (gN 4) (gsC (gN 5) gsN))))))
    (mSeq (mFldSet [cA 2] "sets" (mVar 2) (mVar 0))
    (mSeq (mFldSet [cA 2] "line" (mVar 4) (mVar 0))
    (mSeq (mFldSet [cA 2] "rows" (mLc (mRng1 (lCons (mVar 2) lNil)) (cN 6) mYes (mBin oMul (mLst (lCons (mC .non) lNil)) (mVar 3)) [6]) (mVar 0))
    (mSeq (mFldSet [cA 2] "held" mDicK (mVar 0))
    (mIfS (mCmp oEq (mVar 5) (mC (.str "plru"))) (mFldSet [cA 2] "orders" (mLc (mRng1 (lCons (mVar 2) lNil)) (cN 6) mYes (mMake (cA 1) (m_Pointers_m___init__ cA) (lCons (mVar 3) lNil)) [6]) (mVar 0)) (mFldSet [cA 2] "orders" (mLc (mRng1 (lCons (mVar 2) lNil)) (cN 6) mYes (mMake (cA 0) (m_Ages_m___init__ cA) (lCons (mVar 3) (lCons (mBin oEq (mVar 5) (mC (.str "lru"))) lNil))) [6]) (mVar 0))))))))
noncomputable def m_Cache_m___init__ (cA : Nat → Addr) : MD := mDef 2 5 (b_Cache_m___init__ cA)
theorem len_Cache_m___init__ {cA : Nat → Addr} (ds : List D) (S : Hs) (h : ds.length ≠ 2) : (m_Cache_m___init__ cA) ds S = .bad := mDef_len ds S h
noncomputable def b_Cache_m_places (cA : Nat → Addr) : MS := (mRet (mCall bTuple (lCons (mBin oIx (mFld [cA 2] "rows" (mVar 0)) (mVar 1)) lNil)))
noncomputable def m_Cache_m_places (cA : Nat → Addr) : MD := mDef 2 0 (b_Cache_m_places cA)
theorem len_Cache_m_places {cA : Nat → Addr} (ds : List D) (S : Hs) (h : ds.length ≠ 2) : (m_Cache_m_places cA) ds S = .bad := mDef_len ds S h
noncomputable def b_Cache_m_drop (cA : Nat → Addr) : MS := (mSeq (mSet 2 (mBin oFdiv (mVar 1) (mFld [cA 2] "line" (mVar 0))))
    (mSeq (mIfS (mCmp oNotIn (mVar 2) (mFld [cA 2] "held" (mVar 0))) (mRet (mC (.bl false))) mPass)
    (mSeq (mSet 3 (mPop1 (mFld [cA 2] "held" (mVar 0)) (mVar 2)))
    (mSeq (mAsg (mC .non) (gSb (mBin oIx (mFld [cA 2] "rows" (mVar 0)) (mBin oMod (mVar 2) (mFld [cA 2] "sets" (mVar 0)))) (mVar 3)))
    (mRet (mC (.bl true)))))))
noncomputable def m_Cache_m_drop (cA : Nat → Addr) : MD := mDef 2 2 (b_Cache_m_drop cA)
theorem len_Cache_m_drop {cA : Nat → Addr} (ds : List D) (S : Hs) (h : ds.length ≠ 2) : (m_Cache_m_drop cA) ds S = .bad := mDef_len ds S h
noncomputable def b_Ages_m_note (cA : Nat → Addr) : MS := (mIfS (mOrB (mTru (mVar 2)) (mTru (mFld [cA 0] "by_touch" (mVar 0)))) (mSeq (mFldAug [cA 0] "now" oIAdd (mVar 0) (mC (.int 1)))
    (mAsg (mFld [cA 0] "now" (mVar 0)) (gSb (mFld [cA 0] "ages" (mVar 0)) (mVar 1)))) mPass)
noncomputable def m_Ages_m_note (cA : Nat → Addr) : MD := mDef 3 0 (b_Ages_m_note cA)
theorem len_Ages_m_note {cA : Nat → Addr} (ds : List D) (S : Hs) (h : ds.length ≠ 3) : (m_Ages_m_note cA) ds S = .bad := mDef_len ds S h
noncomputable def c_Pointers_m_note_0 (cA : Nat → Addr) : MB := (mCmp oGt (mVar 3) (mC (.int 1)))
noncomputable def lb_Pointers_m_note_1 (cA : Nat → Addr) : MS := (mSeq (mAsg (mBin oSub (mC (.int 1)) (mBin oAnd (mVar 3) (mC (.int 1)))) (gSb (mFld [cA 1] "sides" (mVar 0)) (mBin oFdiv (mVar 3) (mC (.int 2)))))
    (mSet 3 (mBin oFdiv (mVar 3) (mC (.int 2)))))
noncomputable def b_Pointers_m_note (cA : Nat → Addr) : MS := (mSeq (mSet 3 (mBin oAdd (mFld [cA 1] "ways" (mVar 0)) (mVar 1)))
    (mWhile (c_Pointers_m_note_0 cA) (lb_Pointers_m_note_1 cA)))
noncomputable def m_Pointers_m_note (cA : Nat → Addr) : MD := mDef 3 1 (b_Pointers_m_note cA)
theorem len_Pointers_m_note {cA : Nat → Addr} (ds : List D) (S : Hs) (h : ds.length ≠ 3) : (m_Pointers_m_note cA) ds S = .bad := mDef_len ds S h
noncomputable def b_Ages_m_victim (cA : Nat → Addr) : MS := (mRet (mBM "list" oIndex (mFld [cA 0] "ages" (mVar 0)) (lCons (mCall bMin (lCons (mFld [cA 0] "ages" (mVar 0)) lNil)) lNil)))
noncomputable def m_Ages_m_victim (cA : Nat → Addr) : MD := mDef 1 0 (b_Ages_m_victim cA)
theorem len_Ages_m_victim {cA : Nat → Addr} (ds : List D) (S : Hs) (h : ds.length ≠ 1) : (m_Ages_m_victim cA) ds S = .bad := mDef_len ds S h
noncomputable def c_Pointers_m_victim_0 (cA : Nat → Addr) : MB := (mCmp oLt (mVar 1) (mFld [cA 1] "ways" (mVar 0)))
noncomputable def lb_Pointers_m_victim_1 (cA : Nat → Addr) : MS := (mSet 1 (mBin oAdd (mBin oMul (mC (.int 2)) (mVar 1)) (mBin oIx (mFld [cA 1] "sides" (mVar 0)) (mVar 1))))
noncomputable def b_Pointers_m_victim (cA : Nat → Addr) : MS := (mSeq (mSet 1 (mC (.int 1)))
    (mSeq (mWhile (c_Pointers_m_victim_0 cA) (lb_Pointers_m_victim_1 cA))
    (mRet (mBin oSub (mVar 1) (mFld [cA 1] "ways" (mVar 0))))))
noncomputable def m_Pointers_m_victim (cA : Nat → Addr) : MD := mDef 1 1 (b_Pointers_m_victim cA)
theorem len_Pointers_m_victim {cA : Nat → Addr} (ds : List D) (S : Hs) (h : ds.length ≠ 1) : (m_Pointers_m_victim cA) ds S = .bad := mDef_len ds S h
noncomputable def b_Cache_m_put (cA : Nat → Addr) : MS := (mSeq (mSet 3 (mBin oIx (mFld [cA 2] "rows" (mVar 0)) (mBin oMod (mVar 1) (mFld [cA 2] "sets" (mVar 0)))))
    (mSeq (mIfS (mCmp oIn (mC .non) (mVar 3)) (mSet 4 (mBM "list" oIndex (mVar 3) (lCons (mC .non) lNil))) (mSeq (mSet 4 (mMeth [(cA 0, (m_Ages_m_victim cA)), (cA 1, (m_Pointers_m_victim cA))] "victim" (mVar 2) lNil))
    (mDel (mFld [cA 2] "held" (mVar 0)) (mBin oIx (mVar 3) (mVar 4)))))
    (mSeq (mAsg (mVar 1) (gSb (mVar 3) (mVar 4)))
    (mAsg (mVar 4) (gSb (mFld [cA 2] "held" (mVar 0)) (mVar 1))))))
noncomputable def m_Cache_m_put (cA : Nat → Addr) : MD := mDef 3 2 (b_Cache_m_put cA)
theorem len_Cache_m_put {cA : Nat → Addr} (ds : List D) (S : Hs) (h : ds.length ≠ 3) : (m_Cache_m_put cA) ds S = .bad := mDef_len ds S h
noncomputable def b_Cache_m_touch (cA : Nat → Addr) : MS := (mSeq (mSet 2 (mBin oFdiv (mVar 1) (mFld [cA 2] "line" (mVar 0))))
    (mSeq (mSet 3 (mBin oIx (mFld [cA 2] "orders" (mVar 0)) (mBin oMod (mVar 2) (mFld [cA 2] "sets" (mVar 0)))))
    (mSeq (mSet 4 (mBin oIn (mVar 2) (mFld [cA 2] "held" (mVar 0))))
    (mSeq (mIfS (mNotB (mTru (mVar 4))) (mExpr (mMeth [(cA 2, (m_Cache_m_put cA))] "put" (mVar 0) (lCons (mVar 2) (lCons (mVar 3) lNil)))) mPass)
    (mSeq (mExpr (mMeth [(cA 0, (m_Ages_m_note cA)), (cA 1, (m_Pointers_m_note cA))] "note" (mVar 3) (lCons (mBin oIx (mFld [cA 2] "held" (mVar 0)) (mVar 2)) (lCons (mUn oNot (mVar 4)) lNil))))
    (mRet (mVar 4)))))))
noncomputable def m_Cache_m_touch (cA : Nat → Addr) : MD := mDef 2 3 (b_Cache_m_touch cA)
theorem len_Cache_m_touch {cA : Nat → Addr} (ds : List D) (S : Hs) (h : ds.length ≠ 2) : (m_Cache_m_touch cA) ds S = .bad := mDef_len ds S h
noncomputable def lb__law_begun_0 (cA : Nat → Addr) : MS := (mSeq (mSet 9 (mFn m__law_next (lCons (mVar 0) (lCons (mBin oMul (mBin oMul (mBin oMul (mVar 4) (mVar 6)) (mVar 5)) (mC (.int 2))) lNil))))
    (mIfS (mCmp oEq (mFn m__law_next (lCons (mVar 0) (lCons (mC (.int 6)) lNil))) (mC (.int 0))) (mExpr (mMeth [(cA 2, (m_Cache_m_drop cA))] "drop" (mVar 1) (lCons (mVar 9) lNil))) (mExpr (mMeth [(cA 2, (m_Cache_m_touch cA))] "touch" (mVar 1) (lCons (mVar 9) lNil)))))
noncomputable def lb__law_begun_1 (cA : Nat → Addr) : MS := (mSeq (mSet 11 (mBin oAdd (mVar 3) (mBin oMul (mVar 4) (mBin oAdd (mBin oMul (mC (.int 2)) (mVar 5)) (mVar 8)))))
    (mIfS (mNotB (mTru (mMeth [(cA 2, (m_Cache_m_touch cA))] "touch" (mVar 1) (lCons (mBin oMul (mVar 11) (mVar 6)) lNil)))) (mExpr (mBM "list" oAppend (mVar 10) (lCons (mVar 11) lNil))) mPass))
noncomputable def lb__law_begun_2 (cA : Nat → Addr) : MS := (mSeq (mSet 11 (mBin oIx (mVar 12) (mFn m__law_next (lCons (mVar 0) (lCons (mVar 5) lNil)))))
    (mSeq (mIfS (mNotB (mTru (mMeth [(cA 2, (m_Cache_m_touch cA))] "touch" (mVar 1) (lCons (mBin oAdd (mBin oMul (mVar 11) (mVar 6)) (mFn m__law_next (lCons (mVar 0) (lCons (mVar 6) lNil)))) lNil)))) (mRet (mC .non)) mPass)
    (mSet 13 (mBin oAdd (mLc (mIt (mVar 13)) (cN 14) (mCmp oNe (mVar 14) (mVar 11)) (mVar 14) [14]) (mLst (lCons (mVar 11) lNil))))))
noncomputable def b__law_begun (cA : Nat → Addr) : MS := (mSeq (mAsg (mVar 2) (gT 4 (gsC (gN 4) (gsC (gN 5) (gsC (gN 6) (gsC (gN 7) gsN))))))
    (mSeq (mFor (mRng1 (lCons (mFn m__law_next (lCons (mVar 0) (lCons (mC (.int 40)) lNil))) lNil)) (gN 8) (lb__law_begun_0 cA))
    (mSeq (mSet 10 (mLst lNil))
    (mSeq (mFor (mRng1 (lCons (mBin oMul (mC (.int 3)) (mVar 5)) lNil)) (gN 8) (lb__law_begun_1 cA))
    (mSeq (mSet 12 (mMeth [(cA 2, (m_Cache_m_places cA))] "places" (mVar 1) (lCons (mVar 3) lNil)))
    (mSeq (mSet 13 (mCall bList (lCons (mVar 10) lNil)))
    (mSeq (mFor (mRng1 (lCons (mFn m__law_next (lCons (mVar 0) (lCons (mBin oAdd (mBin oMul (mC (.int 2)) (mVar 5)) (mC (.int 1))) lNil))) lNil)) (gN 8) (lb__law_begun_2 cA))
    (mSeq (mIfS (mCmp oEq (mVar 7) (mC (.str "fifo"))) (mRet (mLc (mIt (mVar 10)) (cN 14) (mCmp oIn (mVar 14) (mVar 12)) (mVar 14) [14])) mPass)
    (mRet (mLc (mIt (mVar 13)) (cN 14) (mCmp oIn (mVar 14) (mVar 12)) (mVar 14) [14]))))))))))
noncomputable def m__law_begun (cA : Nat → Addr) : MD := mDef 4 11 (b__law_begun cA)
theorem len__law_begun {cA : Nat → Addr} (ds : List D) (S : Hs) (h : ds.length ≠ 4) : (m__law_begun cA) ds S = .bad := mDef_len ds S h
noncomputable def b__law_changed : MS := (mRet (mLc (mRng1 (lCons (mCall bLen (lCons (mVar 0) lNil)) lNil)) (cN 2) (mCmp oNe (mBin oIx (mVar 0) (mVar 2)) (mBin oIx (mVar 1) (mVar 2))) (mVar 2) [2]))
noncomputable def m__law_changed : MD := mDef 2 1 b__law_changed
theorem len__law_changed (ds : List D) (S : Hs) (h : ds.length ≠ 2) : m__law_changed ds S = .bad := mDef_len ds S h
noncomputable def lb_law_0 (cA : Nat → Addr) : MS := (mSeq (mSet 12 (mMeth [(cA 2, (m_Cache_m_places cA))] "places" (mVar 7) (lCons (mVar 8) lNil)))
    (mSeq (mSet 13 (mBin oAdd (mVar 8) (mBin oMul (mVar 3) (mBin oAdd (mBin oAdd (mBin oMul (mC (.int 9)) (mVar 4)) (mVar 11)) (mBin oMul (mFn m__law_next (lCons (mVar 1) (lCons (mC (.int 2)) lNil))) (mC (.int 100)))))))
    (mSeq (mIfS (mTru (mMeth [(cA 2, (m_Cache_m_touch cA))] "touch" (mVar 7) (lCons (mBin oAdd (mBin oMul (mVar 13) (mVar 5)) (mFn m__law_next (lCons (mVar 1) (lCons (mVar 5) lNil)))) lNil))) (mRet (mC (.bl false))) mPass)
    (mSeq (mSet 14 (mFn m__law_changed (lCons (mVar 12) (lCons (mMeth [(cA 2, (m_Cache_m_places cA))] "places" (mVar 7) (lCons (mVar 8) lNil)) lNil))))
    (mSeq (mIfS (mOrB (mCmp oNe (mCall bLen (lCons (mVar 14) lNil)) (mC (.int 1))) (mCmp oNe (mBin oIx (mMeth [(cA 2, (m_Cache_m_places cA))] "places" (mVar 7) (lCons (mVar 8) lNil)) (mBin oIx (mVar 14) (mC (.int 0)))) (mVar 13))) (mRet (mC (.bl false))) mPass)
    (mSeq (mIfS (mAndB (mCmp oNe (mVar 6) (mC (.str "plru"))) (mCmp oNe (mBin oIx (mVar 12) (mBin oIx (mVar 14) (mC (.int 0)))) (mBin oIx (mVar 9) (mVar 11)))) (mRet (mC (.bl false))) mPass)
    (mExpr (mBM "list" oAppend (mVar 10) (lCons (mBin oIx (mVar 14) (mC (.int 0))) lNil)))))))))
noncomputable def b_law (cA : Nat → Addr) : MS := (mSeq (mSet 1 (mFn m__law_reader (lCons (mVar 0) lNil)))
    (mSeq (mSet 2 (mFn m__law_cache (lCons (mVar 1) lNil)))
    (mSeq (mAsg (mVar 2) (gT 4 (gsC (gN 3) (gsC (gN 4) (gsC (gN 5) (gsC (gN 6) gsN))))))
    (mSeq (mSet 7 (mMake (cA 2) (m_Cache_m___init__ cA) (lCons (mVar 2) lNil)))
    (mSeq (mSet 8 (mFn m__law_next (lCons (mVar 1) (lCons (mVar 3) lNil))))
    (mSeq (mSet 9 (mFn (m__law_begun cA) (lCons (mVar 1) (lCons (mVar 7) (lCons (mVar 2) (lCons (mVar 8) lNil))))))
    (mSeq (mIfS (mOrB (mCmp oIs (mVar 9) (mC .non)) (mCmp oNe (mCall bSortA (lCons (mVar 9) lNil)) (mCall bSortA (lCons (mMeth [(cA 2, (m_Cache_m_places cA))] "places" (mVar 7) (lCons (mVar 8) lNil)) lNil)))) (mRet (mC (.bl false))) mPass)
    (mSeq (mSet 10 (mLst lNil))
    (mSeq (mFor (mRng1 (lCons (mVar 4) lNil)) (gN 11) (lb_law_0 cA))
    (mRet (mBin oEq (mCall bSortA (lCons (mVar 10) lNil)) (mRg1 oLRg (mVar 4)))))))))))))
noncomputable def m_law (cA : Nat → Addr) : MD := mDef 1 14 (b_law cA)
end GK22
set_option Elab.async false
set_option linter.all false
set_option maxRecDepth 100000
set_option maxHeartbeats 4000000
namespace GK22
open PySem PySem.Spec L2 Ly
open PyProof.Rows hiding St
def top (i : Nat) : Stmt := PySem.Challenge.pw_sameclock_k22_misses_turn_a_set_over.main.body.getD i (.Pass ⟨0, 0, 0, 0⟩)
abbrev s__law_draws : Stmt := top 7
abbrev s__law_reader : Stmt := top 8
abbrev s__law_next : Stmt := top 9
abbrev s__law_cache : Stmt := top 10
abbrev s_Pointers_m___init__ : Stmt := (C8.clsBody (top 3)).getD 0 (.Pass ⟨0, 0, 0, 0⟩)
abbrev s_Ages_m___init__ : Stmt := (C8.clsBody (top 2)).getD 0 (.Pass ⟨0, 0, 0, 0⟩)
abbrev s_Cache_m___init__ : Stmt := (C8.clsBody (top 5)).getD 0 (.Pass ⟨0, 0, 0, 0⟩)
abbrev s_Cache_m_places : Stmt := (C8.clsBody (top 5)).getD 5 (.Pass ⟨0, 0, 0, 0⟩)
abbrev s_Cache_m_drop : Stmt := (C8.clsBody (top 5)).getD 4 (.Pass ⟨0, 0, 0, 0⟩)
abbrev s_Ages_m_note : Stmt := (C8.clsBody (top 2)).getD 1 (.Pass ⟨0, 0, 0, 0⟩)
abbrev s_Pointers_m_note : Stmt := (C8.clsBody (top 3)).getD 1 (.Pass ⟨0, 0, 0, 0⟩)
abbrev s_Ages_m_victim : Stmt := (C8.clsBody (top 2)).getD 2 (.Pass ⟨0, 0, 0, 0⟩)
abbrev s_Pointers_m_victim : Stmt := (C8.clsBody (top 3)).getD 2 (.Pass ⟨0, 0, 0, 0⟩)
abbrev s_Cache_m_put : Stmt := (C8.clsBody (top 5)).getD 3 (.Pass ⟨0, 0, 0, 0⟩)
abbrev s_Cache_m_touch : Stmt := (C8.clsBody (top 5)).getD 2 (.Pass ⟨0, 0, 0, 0⟩)
abbrev s__law_begun : Stmt := top 12
abbrev s__law_changed : Stmt := top 11
abbrev s_law : Stmt := top 13
section
variable {P : Program} {w : World} {K : PySem.W.Frag} {mg : Str → Option Value} {base : Heap}
theorem sc__law_draws : FnScope ["script", "draws", "k", "cell", "turn", "mixed"] ["script"] (defScope s__law_draws) := ⟨rfl, rfl, rfl, by decide +kernel, rfl, by decide +kernel, by decide +kernel⟩
theorem ok__law_draws {f__law_draws : Addr} {fd__law_draws : FuncData} (D__law_draws : DefAt K mg "_law_draws" s__law_draws ["script"] f__law_draws fd__law_draws) (z_range : mg "range" = none) (z_min : mg "min" = none) (z_len : mg "len" = none) (z_abs : mg "abs" = none) (z_int : mg "int" = none) : FnOk P w K mg base (L2.CX P w) 1 f__law_draws fd__law_draws ["script"] (spM K 1 (m__law_draws)) := by
  have sc := sc__law_draws
  refine fn_def (m := b__law_draws) D__law_draws.F sc rfl rfl fun cdv A outer s H E hr => ?_
  unfold b__law_draws
  exact (SMs.cons (s_set (i := 1) sc.nd (e_lst l_nil))
    (SMs.cons (s_for (passes_of rfl) rfl (i_rng1 z_range (l_cons (c_min rfl z_min (l_cons (c_len z_len (l_cons (e_v 0) l_nil)) (l_cons e_int l_nil))) l_nil)) (g_n (i := 2) sc.nd) (SMs.cons (s_set (i := 3) sc.nd (c_abs z_abs (l_cons (e_ix (hu_of hr) (e_v 0) (e_v 2)) l_nil)))
    (SMs.one (s_if (b_cmp op_ge ok_ge (e_v 3) (e_pow e_int e_int) (nomark _)) (SMs.one (s_for (passes_of rfl) rfl (i_rng1 z_range (l_cons e_int l_nil)) (g_n (i := 4) sc.nd) (SMs.one (s_if (b_cmp op_gt ok_gt (e_v 3) e_int (nomark _)) (SMs.cons (s_expr (e_bm PySem.F.plainAttrs_list PySem.F.slot_list_append PySem.F.type_list_append mt_append ok_append (e_v 1) (l_cons (e_mod (e_v 3) e_int) l_nil)))
    (SMs.one (s_set (i := 3) sc.nd (e_fdiv (e_v 3) e_int)))) SMs.nil)))) (SMs.cons (s_set (i := 5) sc.nd (e_mod (c_int z_int (l_cons (e_add (e_add (e_mul (e_ix (hu_of hr) (e_v 0) (e_v 2)) e_int) (e_mul (e_v 2) e_int)) e_int) l_nil)) e_int))
    (SMs.one (s_for (passes_of rfl) rfl (i_rng1 z_range (l_cons e_int l_nil)) (g_n (i := 4) sc.nd) (SMs.cons (s_set (i := 5) sc.nd (e_mod (c_int z_int (l_cons (e_add (e_add (e_mul (e_v 5) (e_v 5)) (e_mul (e_v 4) e_int)) e_int) l_nil)) e_int))
    (SMs.one (s_expr (e_bm PySem.F.plainAttrs_list PySem.F.slot_list_append PySem.F.type_list_append mt_append ok_append (e_v 1) (l_cons (e_mod (e_v 5) e_int) l_nil))))))))))))
    (SMs.one (s_ret (e_v 1)))))
theorem sc__law_reader : FnScope ["script", "row", "seed"] ["script"] (defScope s__law_reader) := ⟨rfl, rfl, rfl, by decide +kernel, rfl, by decide +kernel, by decide +kernel⟩
theorem ok__law_reader {f__law_reader : Addr} {fd__law_reader : FuncData} {f__law_draws : Addr} {fd__law_draws : FuncData} (D__law_reader : DefAt K mg "_law_reader" s__law_reader ["script"] f__law_reader fd__law_reader) (D__law_draws : DefAt K mg "_law_draws" s__law_draws ["script"] f__law_draws fd__law_draws) (G__law_draws : FnOk P w K mg base (L2.CX P w) 1 f__law_draws fd__law_draws ["script"] (spM K 1 m__law_draws)) (z_len : mg "len" = none) (z_abs : mg "abs" = none) : FnOk P w K mg base (L2.CX P w) 2 f__law_reader fd__law_reader ["script"] (spM K 1 (m__law_reader)) := by
  have sc := sc__law_reader
  refine fn_def (m := b__law_reader) D__law_reader.F sc rfl rfl fun cdv A outer s H E hr => ?_
  unfold b__law_reader
  exact (SMs.cons (s_set (i := 1) sc.nd (e_fn G__law_draws len__law_draws (hr.mono (by decide)) (by rfl) D__law_draws.g D__law_draws.F.kp D__law_draws.b (fun _ => Passes.at pass_def _) (l_cons (e_v 0) l_nil)))
    (SMs.cons (s_set (i := 2) sc.nd e_int)
    (SMs.cons (s_if (b_cmp op_gt ok_gt (c_len z_len (l_cons (e_v 0) l_nil)) e_int (nomark _)) (SMs.one (s_set (i := 2) sc.nd (e_mod (c_abs z_abs (l_cons (e_ix (hu_of hr) (e_v 0) (e_neg e_int)) l_nil)) e_int))) SMs.nil)
    (SMs.one (s_ret (e_disp (dp_cons e_str (e_v 1) (dp_cons e_str e_int (dp_cons e_str (e_v 2) dp_nil)))))))))
theorem sc__law_next : FnScope ["draws", "many", "at", "mixed"] ["draws", "many"] (defScope s__law_next) := ⟨rfl, rfl, rfl, by decide +kernel, rfl, by decide +kernel, by decide +kernel⟩
theorem ok__law_next {f__law_next : Addr} {fd__law_next : FuncData} (D__law_next : DefAt K mg "_law_next" s__law_next ["draws", "many"] f__law_next fd__law_next) (z_len : mg "len" = none) (z_int : mg "int" = none) : FnOk P w K mg base (L2.CX P w) 1 f__law_next fd__law_next ["draws", "many"] (spM K 2 (m__law_next)) := by
  have sc := sc__law_next
  refine fn_def (m := b__law_next) D__law_next.F sc rfl rfl fun cdv A outer s H E hr => ?_
  unfold b__law_next
  exact (SMs.cons (s_set (i := 2) sc.nd (e_ix (hu_of hr) (e_v 0) e_str))
    (SMs.cons (s_sub (hu_of hr) (e_add (e_v 2) e_int) (e_v 0) e_str)
    (SMs.cons (s_if (b_cmp op_lt ok_lt (e_v 2) (c_len z_len (l_cons (e_ix (hu_of hr) (e_v 0) e_str) l_nil)) (nomark _)) (SMs.one (s_ret (e_mod (c_int z_int (l_cons (e_ix (hu_of hr) (e_ix (hu_of hr) (e_v 0) e_str) (e_v 2)) l_nil)) (e_v 1)))) SMs.nil)
    (SMs.cons (s_set (i := 3) sc.nd (e_mod (c_int z_int (l_cons (e_mul (e_add (e_add (e_ix (hu_of hr) (e_v 0) e_str) (e_mul e_int (e_v 2))) e_int) e_int) l_nil)) e_int))
    (SMs.one (s_ret (e_mod (e_fdiv (e_mod (c_int z_int (l_cons (e_add (e_mul (e_v 3) (e_v 3)) (e_v 2)) l_nil)) e_int) e_int) (e_v 1))))))))
theorem sc__law_cache : FnScope ["draws", "policy"] ["draws"] (defScope s__law_cache) := ⟨rfl, rfl, rfl, by decide +kernel, rfl, by decide +kernel, by decide +kernel⟩
theorem ok__law_cache {f__law_cache : Addr} {fd__law_cache : FuncData} {f__law_next : Addr} {fd__law_next : FuncData} (D__law_cache : DefAt K mg "_law_cache" s__law_cache ["draws"] f__law_cache fd__law_cache) (D__law_next : DefAt K mg "_law_next" s__law_next ["draws", "many"] f__law_next fd__law_next) (G__law_next : FnOk P w K mg base (L2.CX P w) 1 f__law_next fd__law_next ["draws", "many"] (spM K 2 m__law_next)) : FnOk P w K mg base (L2.CX P w) 2 f__law_cache fd__law_cache ["draws"] (spM K 1 (m__law_cache)) := by
  have sc := sc__law_cache
  refine fn_def (m := b__law_cache) D__law_cache.F sc rfl rfl fun cdv A outer s H E hr => ?_
  unfold b__law_cache
  exact (SMs.cons (s_set (i := 1) sc.nd (e_ix (hu_of hr) (e_lst (l_cons e_str (l_cons e_str (l_cons e_str l_nil)))) (e_fn G__law_next len__law_next (hr.mono (by decide)) (by rfl) D__law_next.g D__law_next.F.kp D__law_next.b (fun _ => Passes.at pass_def _) (l_cons (e_v 0) (l_cons e_int l_nil)))))
    (SMs.one (s_ret (e_tup (l_cons (e_shl e_int (e_ix (hu_of hr) (e_lst (l_cons e_int (l_cons e_int (l_cons e_int (l_cons e_int (l_cons e_int (l_cons e_int (l_cons e_int l_nil)))))))) (e_fn G__law_next len__law_next (hr.mono (by decide)) (by rfl) D__law_next.g D__law_next.F.kp D__law_next.b (fun _ => Passes.at pass_def _) (l_cons (e_v 0) (l_cons e_int l_nil))))) (l_cons (e_shl e_int (e_fn G__law_next len__law_next (hr.mono (by decide)) (by rfl) D__law_next.g D__law_next.F.kp D__law_next.b (fun _ => Passes.at pass_def _) (l_cons (e_v 0) (l_cons e_int l_nil)))) (l_cons (e_shl e_int (e_fn G__law_next len__law_next (hr.mono (by decide)) (by rfl) D__law_next.g D__law_next.F.kp D__law_next.b (fun _ => Passes.at pass_def _) (l_cons (e_v 0) (l_cons e_int l_nil)))) (l_cons (e_v 1) l_nil))))))))
theorem sc_Pointers_m___init__ : FnScope ["self", "ways"] ["self", "ways"] (defScope s_Pointers_m___init__) := ⟨rfl, rfl, rfl, by decide +kernel, rfl, by decide +kernel, by decide +kernel⟩
theorem ok_Pointers_m___init__ {f_Pointers_m___init__ : Addr} {fd_Pointers_m___init__ : FuncData} {cA : Nat → Addr} (D_Pointers_m___init__ : MetAt K "__init__" "Pointers.__init__" s_Pointers_m___init__ ["self", "ways"] f_Pointers_m___init__ fd_Pointers_m___init__) (fo_ways : FOk K [cA 1] "ways") (fo_sides : FOk K [cA 1] "sides") : FnOk P w K mg base (L2.CX P w) 1 f_Pointers_m___init__ fd_Pointers_m___init__ ["self", "ways"] (spM K 2 (m_Pointers_m___init__ cA)) := by
  have sc := sc_Pointers_m___init__
  refine fn_def (m := b_Pointers_m___init__ cA) D_Pointers_m___init__.F sc rfl rfl fun cdv A outer s H E hr => ?_
  unfold b_Pointers_m___init__
  exact (SMs.cons (s_fldset fo_ways (e_v 1) (e_v 0))
    (SMs.one (s_fldset fo_sides (e_mul (e_lst (l_cons e_int l_nil)) (e_v 1)) (e_v 0))))
theorem sc_Ages_m___init__ : FnScope ["self", "ways", "by_touch"] ["self", "ways", "by_touch"] (defScope s_Ages_m___init__) := ⟨rfl, rfl, rfl, by decide +kernel, rfl, by decide +kernel, by decide +kernel⟩
theorem ok_Ages_m___init__ {f_Ages_m___init__ : Addr} {fd_Ages_m___init__ : FuncData} {cA : Nat → Addr} (D_Ages_m___init__ : MetAt K "__init__" "Ages.__init__" s_Ages_m___init__ ["self", "ways", "by_touch"] f_Ages_m___init__ fd_Ages_m___init__) (fo_ages : FOk K [cA 0] "ages") (fo_by_touch : FOk K [cA 0] "by_touch") (fo_now : FOk K [cA 0] "now") : FnOk P w K mg base (L2.CX P w) 1 f_Ages_m___init__ fd_Ages_m___init__ ["self", "ways", "by_touch"] (spM K 3 (m_Ages_m___init__ cA)) := by
  have sc := sc_Ages_m___init__
  refine fn_def (m := b_Ages_m___init__ cA) D_Ages_m___init__.F sc rfl rfl fun cdv A outer s H E hr => ?_
  unfold b_Ages_m___init__
  exact (SMs.cons (s_fldset fo_ages (e_mul (e_lst (l_cons e_int l_nil)) (e_v 1)) (e_v 0))
    (SMs.cons (s_fldset fo_by_touch (e_v 2) (e_v 0))
    (SMs.one (s_fldset fo_now e_int (e_v 0)))))
theorem sc_Cache_m___init__ : FnScope ["self", "settings", "sets", "ways", "line", "policy", "_"] ["self", "settings"] (defScope s_Cache_m___init__) := ⟨rfl, rfl, rfl, by decide +kernel, rfl, by decide +kernel, by decide +kernel⟩
theorem ok_Cache_m___init__ {f_Cache_m___init__ : Addr} {fd_Cache_m___init__ : FuncData} {f_Pointers_m___init__ : Addr} {fd_Pointers_m___init__ : FuncData} {f_Ages_m___init__ : Addr} {fd_Ages_m___init__ : FuncData} {cA : Nat → Addr} (D_Cache_m___init__ : MetAt K "__init__" "Cache.__init__" s_Cache_m___init__ ["self", "settings"] f_Cache_m___init__ fd_Cache_m___init__) (D_Pointers_m___init__ : MetAt K "__init__" "Pointers.__init__" s_Pointers_m___init__ ["self", "ways"] f_Pointers_m___init__ fd_Pointers_m___init__) (D_Ages_m___init__ : MetAt K "__init__" "Ages.__init__" s_Ages_m___init__ ["self", "ways", "by_touch"] f_Ages_m___init__ fd_Ages_m___init__) (G_Pointers_m___init__ : FnOk P w K mg base (L2.CX P w) 1 f_Pointers_m___init__ fd_Pointers_m___init__ ["self", "ways"] (spM K 2 (m_Pointers_m___init__ cA))) (G_Ages_m___init__ : FnOk P w K mg base (L2.CX P w) 1 f_Ages_m___init__ fd_Ages_m___init__ ["self", "ways", "by_touch"] (spM K 3 (m_Ages_m___init__ cA))) (z_range : mg "range" = none) (N_Pointers : mg "Pointers" = some (.ref (cA 1))) (M_Pointers : Mk K (cA 1) f_Pointers_m___init__) (N_Ages : mg "Ages" = some (.ref (cA 0))) (M_Ages : Mk K (cA 0) f_Ages_m___init__) (fo_sets : FOk K [cA 2] "sets") (fo_line : FOk K [cA 2] "line") (fo_rows : FOk K [cA 2] "rows") (fo_held : FOk K [cA 2] "held") (fo_orders : FOk K [cA 2] "orders") : FnOk P w K mg base (L2.CX P w) 3 f_Cache_m___init__ fd_Cache_m___init__ ["self", "settings"] (spM K 2 (m_Cache_m___init__ cA)) := by
  have sc := sc_Cache_m___init__
  refine fn_def (m := b_Cache_m___init__ cA) D_Cache_m___init__.F sc rfl rfl fun cdv A outer s H E hr => ?_
  unfold b_Cache_m___init__
  exact (SMs.cons (s_asg (e_v 1) (g_tup rfl (gs_cons (g_n (i := 2) sc.nd) (gs_cons (g_n (i := 3) sc.nd) (gs_cons (g_n (i := 4) sc.nd) (gs_cons (g_n (i := 5) sc.nd) gs_nil))))))
    (SMs.cons (s_fldset fo_sets (e_v 2) (e_v 0))
    (SMs.cons (s_fldset fo_line (e_v 4) (e_v 0))
    (SMs.cons (s_fldset fo_rows (e_lc rfl sc.nd (i_rng1 z_range (l_cons (e_v 2) l_nil)) (blkOk_by (own := [("_", 6)]) (by rfl)) (gok_n (i := 6) rfl) (fun _ _ _ _ _ => pg_name (i := 6) sc.nd rfl (by first | exact Or.inl rfl | exact Or.inr rfl)) (fun _ _ _ _ _ => ct_nil) (fun _ _ _ _ _ => (e_mul (e_lst (l_cons e_non l_nil)) (e_v 3)))) (e_v 0))
    (SMs.cons (s_fldset fo_held e_dicK (e_v 0))
    (SMs.one (s_if (b_cmp (or_eqA hr) ok_eq (e_v 5) e_str (nomark _)) (SMs.one (s_fldset fo_orders (e_lc rfl sc.nd (i_rng1 z_range (l_cons (e_v 2) l_nil)) (blkOk_by (own := [("_", 6)]) (by rfl)) (gok_n (i := 6) rfl) (fun _ _ _ _ _ => pg_name (i := 6) sc.nd rfl (by first | exact Or.inl rfl | exact Or.inr rfl)) (fun _ _ _ _ _ => ct_nil) (fun _ _ _ _ _ => (e_make M_Pointers G_Pointers_m___init__ len_Pointers_m___init__ (hr.mono (by decide)) (by rfl) N_Pointers D_Pointers_m___init__.b passL (l_cons (e_v 3) l_nil)))) (e_v 0))) (SMs.one (s_fldset fo_orders (e_lc rfl sc.nd (i_rng1 z_range (l_cons (e_v 2) l_nil)) (blkOk_by (own := [("_", 6)]) (by rfl)) (gok_n (i := 6) rfl) (fun _ _ _ _ _ => pg_name (i := 6) sc.nd rfl (by first | exact Or.inl rfl | exact Or.inr rfl)) (fun _ _ _ _ _ => ct_nil) (fun _ _ _ _ _ => (e_make M_Ages G_Ages_m___init__ len_Ages_m___init__ (hr.mono (by decide)) (by rfl) N_Ages D_Ages_m___init__.b passL (l_cons (e_v 3) (l_cons (e_cmp (or_eqA hr) ok_eq (e_v 5) e_str (nomark _)) l_nil))))) (e_v 0))))))))))
theorem sc_Cache_m_places : FnScope ["self", "number"] ["self", "number"] (defScope s_Cache_m_places) := ⟨rfl, rfl, rfl, by decide +kernel, rfl, by decide +kernel, by decide +kernel⟩
theorem ok_Cache_m_places {f_Cache_m_places : Addr} {fd_Cache_m_places : FuncData} {cA : Nat → Addr} (D_Cache_m_places : MetAt K "places" "Cache.places" s_Cache_m_places ["self", "number"] f_Cache_m_places fd_Cache_m_places) (z_tuple : mg "tuple" = none) (fo_rows : FOk K [cA 2] "rows") : FnOk P w K mg base (L2.CX P w) 1 f_Cache_m_places fd_Cache_m_places ["self", "number"] (spM K 2 (m_Cache_m_places cA)) := by
  have sc := sc_Cache_m_places
  refine fn_def (m := b_Cache_m_places cA) D_Cache_m_places.F sc rfl rfl fun cdv A outer s H E hr => ?_
  unfold b_Cache_m_places
  exact (SMs.one (s_ret (c_tuple z_tuple (l_cons (e_ix (hu_of hr) (e_fld fo_rows (e_v 0)) (e_v 1)) l_nil))))
theorem sc_Cache_m_drop : FnScope ["self", "address", "number", "place"] ["self", "address"] (defScope s_Cache_m_drop) := ⟨rfl, rfl, rfl, by decide +kernel, rfl, by decide +kernel, by decide +kernel⟩
theorem ok_Cache_m_drop {f_Cache_m_drop : Addr} {fd_Cache_m_drop : FuncData} {cA : Nat → Addr} (D_Cache_m_drop : MetAt K "drop" "Cache.drop" s_Cache_m_drop ["self", "address"] f_Cache_m_drop fd_Cache_m_drop) (fo_line : FOk K [cA 2] "line") (fo_held : FOk K [cA 2] "held") (fo_rows : FOk K [cA 2] "rows") (fo_sets : FOk K [cA 2] "sets") : FnOk P w K mg base (L2.CX P w) 1 f_Cache_m_drop fd_Cache_m_drop ["self", "address"] (spM K 2 (m_Cache_m_drop cA)) := by
  have sc := sc_Cache_m_drop
  refine fn_def (m := b_Cache_m_drop cA) D_Cache_m_drop.F sc rfl rfl fun cdv A outer s H E hr => ?_
  unfold b_Cache_m_drop
  exact (SMs.cons (s_set (i := 2) sc.nd (e_fdiv (e_v 1) (e_fld fo_line (e_v 0))))
    (SMs.cons (s_if (b_cmp (or_notinAll hr) ok_notin (e_v 2) (e_fld fo_held (e_v 0)) (by rfl)) (SMs.one (s_ret e_bl)) SMs.nil)
    (SMs.cons (s_set (i := 3) sc.nd (e_pop1 (e_fld fo_held (e_v 0)) (e_v 2)))
    (SMs.cons (s_sub (hu_of hr) e_non (e_ix (hu_of hr) (e_fld fo_rows (e_v 0)) (e_mod (e_v 2) (e_fld fo_sets (e_v 0)))) (e_v 3))
    (SMs.one (s_ret e_bl))))))
theorem sc_Ages_m_note : FnScope ["self", "place", "missed"] ["self", "place", "missed"] (defScope s_Ages_m_note) := ⟨rfl, rfl, rfl, by decide +kernel, rfl, by decide +kernel, by decide +kernel⟩
theorem ok_Ages_m_note {f_Ages_m_note : Addr} {fd_Ages_m_note : FuncData} {cA : Nat → Addr} (D_Ages_m_note : MetAt K "note" "Ages.note" s_Ages_m_note ["self", "place", "missed"] f_Ages_m_note fd_Ages_m_note) (fo_by_touch : FOk K [cA 0] "by_touch") (fo_now : FOk K [cA 0] "now") (fo_ages : FOk K [cA 0] "ages") : FnOk P w K mg base (L2.CX P w) 1 f_Ages_m_note fd_Ages_m_note ["self", "place", "missed"] (spM K 3 (m_Ages_m_note cA)) := by
  have sc := sc_Ages_m_note
  refine fn_def (m := b_Ages_m_note cA) D_Ages_m_note.F sc rfl rfl fun cdv A outer s H E hr => ?_
  unfold b_Ages_m_note
  exact (SMs.one (s_if (b_of (w_or (b_tru (e_v 2)) (w_or1 (b_tru (e_fld fo_by_touch (e_v 0)))))) (SMs.cons (s_fldaddD fo_now (e_v 0) e_int)
    (SMs.one (s_sub (hu_of hr) (e_fld fo_now (e_v 0)) (e_fld fo_ages (e_v 0)) (e_v 1)))) SMs.nil))
theorem sc_Pointers_m_note : FnScope ["self", "place", "_", "node"] ["self", "place", "_"] (defScope s_Pointers_m_note) := ⟨rfl, rfl, rfl, by decide +kernel, rfl, by decide +kernel, by decide +kernel⟩
theorem ok_Pointers_m_note {f_Pointers_m_note : Addr} {fd_Pointers_m_note : FuncData} {cA : Nat → Addr} (D_Pointers_m_note : MetAt K "note" "Pointers.note" s_Pointers_m_note ["self", "place", "_"] f_Pointers_m_note fd_Pointers_m_note) (fo_ways : FOk K [cA 1] "ways") (fo_sides : FOk K [cA 1] "sides") : FnOk P w K mg base (L2.CX P w) 1 f_Pointers_m_note fd_Pointers_m_note ["self", "place", "_"] (spM K 3 (m_Pointers_m_note cA)) := by
  have sc := sc_Pointers_m_note
  refine fn_def (m := b_Pointers_m_note cA) D_Pointers_m_note.F sc rfl rfl fun cdv A outer s H E hr => ?_
  unfold b_Pointers_m_note
  exact (SMs.cons (s_set (i := 3) sc.nd (e_add (e_fld fo_ways (e_v 0)) (e_v 1)))
    (SMs.one (s_while (passes_of rfl) (b_cmp op_gt ok_gt (e_v 3) e_int (nomark _)) (SMs.cons (s_sub (hu_of hr) (e_sub e_int (e_band (e_v 3) e_int)) (e_fld fo_sides (e_v 0)) (e_fdiv (e_v 3) e_int))
    (SMs.one (s_set (i := 3) sc.nd (e_fdiv (e_v 3) e_int)))))))
theorem sc_Ages_m_victim : FnScope ["self"] ["self"] (defScope s_Ages_m_victim) := ⟨rfl, rfl, rfl, by decide +kernel, rfl, by decide +kernel, by decide +kernel⟩
theorem ok_Ages_m_victim {f_Ages_m_victim : Addr} {fd_Ages_m_victim : FuncData} {cA : Nat → Addr} (D_Ages_m_victim : MetAt K "victim" "Ages.victim" s_Ages_m_victim ["self"] f_Ages_m_victim fd_Ages_m_victim) (z_min : mg "min" = none) (fo_ages : FOk K [cA 0] "ages") : FnOk P w K mg base (L2.CX P w) 1 f_Ages_m_victim fd_Ages_m_victim ["self"] (spM K 1 (m_Ages_m_victim cA)) := by
  have sc := sc_Ages_m_victim
  refine fn_def (m := b_Ages_m_victim cA) D_Ages_m_victim.F sc rfl rfl fun cdv A outer s H E hr => ?_
  unfold b_Ages_m_victim
  exact (SMs.one (s_ret (e_bm PySem.F.plainAttrs_list PySem.F.slot_list_index PySem.F.type_list_index mt_index ok_index (e_fld fo_ages (e_v 0)) (l_cons (c_min rfl z_min (l_cons (e_fld fo_ages (e_v 0)) l_nil)) l_nil))))
theorem sc_Pointers_m_victim : FnScope ["self", "node"] ["self"] (defScope s_Pointers_m_victim) := ⟨rfl, rfl, rfl, by decide +kernel, rfl, by decide +kernel, by decide +kernel⟩
theorem ok_Pointers_m_victim {f_Pointers_m_victim : Addr} {fd_Pointers_m_victim : FuncData} {cA : Nat → Addr} (D_Pointers_m_victim : MetAt K "victim" "Pointers.victim" s_Pointers_m_victim ["self"] f_Pointers_m_victim fd_Pointers_m_victim) (fo_ways : FOk K [cA 1] "ways") (fo_sides : FOk K [cA 1] "sides") : FnOk P w K mg base (L2.CX P w) 1 f_Pointers_m_victim fd_Pointers_m_victim ["self"] (spM K 1 (m_Pointers_m_victim cA)) := by
  have sc := sc_Pointers_m_victim
  refine fn_def (m := b_Pointers_m_victim cA) D_Pointers_m_victim.F sc rfl rfl fun cdv A outer s H E hr => ?_
  unfold b_Pointers_m_victim
  exact (SMs.cons (s_set (i := 1) sc.nd e_int)
    (SMs.cons (s_while (passes_of rfl) (b_cmp op_lt ok_lt (e_v 1) (e_fld fo_ways (e_v 0)) (nomark _)) (SMs.one (s_set (i := 1) sc.nd (e_add (e_mul e_int (e_v 1)) (e_ix (hu_of hr) (e_fld fo_sides (e_v 0)) (e_v 1))))))
    (SMs.one (s_ret (e_sub (e_v 1) (e_fld fo_ways (e_v 0)))))))
theorem sc_Cache_m_put : FnScope ["self", "number", "order", "row", "place"] ["self", "number", "order"] (defScope s_Cache_m_put) := ⟨rfl, rfl, rfl, by decide +kernel, rfl, by decide +kernel, by decide +kernel⟩
theorem ok_Cache_m_put {f_Cache_m_put : Addr} {fd_Cache_m_put : FuncData} {f_Ages_m_victim : Addr} {fd_Ages_m_victim : FuncData} {f_Pointers_m_victim : Addr} {fd_Pointers_m_victim : FuncData} {cA : Nat → Addr} (D_Cache_m_put : MetAt K "put" "Cache.put" s_Cache_m_put ["self", "number", "order"] f_Cache_m_put fd_Cache_m_put) (D_Ages_m_victim : MetAt K "victim" "Ages.victim" s_Ages_m_victim ["self"] f_Ages_m_victim fd_Ages_m_victim) (D_Pointers_m_victim : MetAt K "victim" "Pointers.victim" s_Pointers_m_victim ["self"] f_Pointers_m_victim fd_Pointers_m_victim) (G_Ages_m_victim : FnOk P w K mg base (L2.CX P w) 1 f_Ages_m_victim fd_Ages_m_victim ["self"] (spM K 1 (m_Ages_m_victim cA))) (G_Pointers_m_victim : FnOk P w K mg base (L2.CX P w) 1 f_Pointers_m_victim fd_Pointers_m_victim ["self"] (spM K 1 (m_Pointers_m_victim cA))) (X_Ages_victim : Cls K (cA 0) ∧ Meth K (cA 0) "victim" f_Ages_m_victim) (X_Pointers_victim : Cls K (cA 1) ∧ Meth K (cA 1) "victim" f_Pointers_m_victim) (fo_rows : FOk K [cA 2] "rows") (fo_sets : FOk K [cA 2] "sets") (fo_held : FOk K [cA 2] "held") : FnOk P w K mg base (L2.CX P w) 2 f_Cache_m_put fd_Cache_m_put ["self", "number", "order"] (spM K 3 (m_Cache_m_put cA)) := by
  have sc := sc_Cache_m_put
  refine fn_def (m := b_Cache_m_put cA) D_Cache_m_put.F sc rfl rfl fun cdv A outer s H E hr => ?_
  unfold b_Cache_m_put
  exact (SMs.cons (s_set (i := 3) sc.nd (e_ix (hu_of hr) (e_fld fo_rows (e_v 0)) (e_mod (e_v 1) (e_fld fo_sets (e_v 0)))))
    (SMs.cons (s_if (b_cmp (or_inAll hr) ok_in e_non (e_v 3) (by rfl)) (SMs.one (s_set (i := 4) sc.nd (e_bm PySem.F.plainAttrs_list PySem.F.slot_list_index PySem.F.type_list_index mt_index ok_index (e_v 3) (l_cons e_non l_nil)))) (SMs.cons (s_set (i := 4) sc.nd (e_meth0 (k := 1) (MOks.cons (mok X_Ages_victim.1 X_Ages_victim.2 G_Ages_m_victim (by decide) D_Ages_m_victim.b len_Ages_m_victim) (MOks.one (mok X_Pointers_victim.1 X_Pointers_victim.2 G_Pointers_m_victim (by decide) D_Pointers_m_victim.b len_Pointers_m_victim))) (hr.mono (by decide)) pass_def (e_v 2)))
    (SMs.one (s_del (e_fld fo_held (e_v 0)) (e_ix (hu_of hr) (e_v 3) (e_v 4))))))
    (SMs.cons (s_sub (hu_of hr) (e_v 1) (e_v 3) (e_v 4))
    (SMs.one (s_sub (hu_of hr) (e_v 4) (e_fld fo_held (e_v 0)) (e_v 1))))))
theorem sc_Cache_m_touch : FnScope ["self", "address", "number", "order", "hit"] ["self", "address"] (defScope s_Cache_m_touch) := ⟨rfl, rfl, rfl, by decide +kernel, rfl, by decide +kernel, by decide +kernel⟩
theorem ok_Cache_m_touch {f_Cache_m_touch : Addr} {fd_Cache_m_touch : FuncData} {f_Cache_m_put : Addr} {fd_Cache_m_put : FuncData} {f_Ages_m_note : Addr} {fd_Ages_m_note : FuncData} {f_Pointers_m_note : Addr} {fd_Pointers_m_note : FuncData} {cA : Nat → Addr} (D_Cache_m_touch : MetAt K "touch" "Cache.touch" s_Cache_m_touch ["self", "address"] f_Cache_m_touch fd_Cache_m_touch) (D_Cache_m_put : MetAt K "put" "Cache.put" s_Cache_m_put ["self", "number", "order"] f_Cache_m_put fd_Cache_m_put) (D_Ages_m_note : MetAt K "note" "Ages.note" s_Ages_m_note ["self", "place", "missed"] f_Ages_m_note fd_Ages_m_note) (D_Pointers_m_note : MetAt K "note" "Pointers.note" s_Pointers_m_note ["self", "place", "_"] f_Pointers_m_note fd_Pointers_m_note) (G_Cache_m_put : FnOk P w K mg base (L2.CX P w) 2 f_Cache_m_put fd_Cache_m_put ["self", "number", "order"] (spM K 3 (m_Cache_m_put cA))) (G_Ages_m_note : FnOk P w K mg base (L2.CX P w) 1 f_Ages_m_note fd_Ages_m_note ["self", "place", "missed"] (spM K 3 (m_Ages_m_note cA))) (G_Pointers_m_note : FnOk P w K mg base (L2.CX P w) 1 f_Pointers_m_note fd_Pointers_m_note ["self", "place", "_"] (spM K 3 (m_Pointers_m_note cA))) (X_Cache_put : Cls K (cA 2) ∧ Meth K (cA 2) "put" f_Cache_m_put) (X_Ages_note : Cls K (cA 0) ∧ Meth K (cA 0) "note" f_Ages_m_note) (X_Pointers_note : Cls K (cA 1) ∧ Meth K (cA 1) "note" f_Pointers_m_note) (fo_line : FOk K [cA 2] "line") (fo_orders : FOk K [cA 2] "orders") (fo_sets : FOk K [cA 2] "sets") (fo_held : FOk K [cA 2] "held") : FnOk P w K mg base (L2.CX P w) 3 f_Cache_m_touch fd_Cache_m_touch ["self", "address"] (spM K 2 (m_Cache_m_touch cA)) := by
  have sc := sc_Cache_m_touch
  refine fn_def (m := b_Cache_m_touch cA) D_Cache_m_touch.F sc rfl rfl fun cdv A outer s H E hr => ?_
  unfold b_Cache_m_touch
  exact (SMs.cons (s_set (i := 2) sc.nd (e_fdiv (e_v 1) (e_fld fo_line (e_v 0))))
    (SMs.cons (s_set (i := 3) sc.nd (e_ix (hu_of hr) (e_fld fo_orders (e_v 0)) (e_mod (e_v 2) (e_fld fo_sets (e_v 0)))))
    (SMs.cons (s_set (i := 4) sc.nd (e_cmp (or_inAll hr) ok_in (e_v 2) (e_fld fo_held (e_v 0)) (by rfl)))
    (SMs.cons (s_if (b_not (b_tru (e_v 4))) (SMs.one (s_expr (e_meth (k := 2) (MOks.one (mok X_Cache_put.1 X_Cache_put.2 G_Cache_m_put (by decide) D_Cache_m_put.b len_Cache_m_put)) (hr.mono (by decide)) pass_def (e_v 0) (l_cons (e_v 2) (l_cons (e_v 3) l_nil))))) SMs.nil)
    (SMs.cons (s_expr (e_meth (k := 1) (MOks.cons (mok X_Ages_note.1 X_Ages_note.2 G_Ages_m_note (by decide) D_Ages_m_note.b len_Ages_m_note) (MOks.one (mok X_Pointers_note.1 X_Pointers_note.2 G_Pointers_m_note (by decide) D_Pointers_m_note.b len_Pointers_m_note))) (hr.mono (by decide)) pass_def (e_v 3) (l_cons (e_ix (hu_of hr) (e_fld fo_held (e_v 0)) (e_v 2)) (l_cons (e_not (e_v 4)) l_nil))))
    (SMs.one (s_ret (e_v 4))))))))
theorem sc__law_begun : FnScope ["draws", "cache", "settings", "number", "sets", "ways", "size", "policy", "k", "address", "put", "line", "held", "touched", "one"] ["draws", "cache", "settings", "number"] (defScope s__law_begun) := ⟨rfl, rfl, rfl, by decide +kernel, rfl, by decide +kernel, by decide +kernel⟩
theorem ok__law_begun {f__law_begun : Addr} {fd__law_begun : FuncData} {f__law_next : Addr} {fd__law_next : FuncData} {f_Cache_m_drop : Addr} {fd_Cache_m_drop : FuncData} {f_Cache_m_touch : Addr} {fd_Cache_m_touch : FuncData} {f_Cache_m_places : Addr} {fd_Cache_m_places : FuncData} {cA : Nat → Addr} (D__law_begun : DefAt K mg "_law_begun" s__law_begun ["draws", "cache", "settings", "number"] f__law_begun fd__law_begun) (D__law_next : DefAt K mg "_law_next" s__law_next ["draws", "many"] f__law_next fd__law_next) (D_Cache_m_drop : MetAt K "drop" "Cache.drop" s_Cache_m_drop ["self", "address"] f_Cache_m_drop fd_Cache_m_drop) (D_Cache_m_touch : MetAt K "touch" "Cache.touch" s_Cache_m_touch ["self", "address"] f_Cache_m_touch fd_Cache_m_touch) (D_Cache_m_places : MetAt K "places" "Cache.places" s_Cache_m_places ["self", "number"] f_Cache_m_places fd_Cache_m_places) (G__law_next : FnOk P w K mg base (L2.CX P w) 1 f__law_next fd__law_next ["draws", "many"] (spM K 2 m__law_next)) (G_Cache_m_drop : FnOk P w K mg base (L2.CX P w) 1 f_Cache_m_drop fd_Cache_m_drop ["self", "address"] (spM K 2 (m_Cache_m_drop cA))) (G_Cache_m_touch : FnOk P w K mg base (L2.CX P w) 3 f_Cache_m_touch fd_Cache_m_touch ["self", "address"] (spM K 2 (m_Cache_m_touch cA))) (G_Cache_m_places : FnOk P w K mg base (L2.CX P w) 1 f_Cache_m_places fd_Cache_m_places ["self", "number"] (spM K 2 (m_Cache_m_places cA))) (z_range : mg "range" = none) (z_list : mg "list" = none) (X_Cache_drop : Cls K (cA 2) ∧ Meth K (cA 2) "drop" f_Cache_m_drop) (X_Cache_touch : Cls K (cA 2) ∧ Meth K (cA 2) "touch" f_Cache_m_touch) (X_Cache_places : Cls K (cA 2) ∧ Meth K (cA 2) "places" f_Cache_m_places) : FnOk P w K mg base (L2.CX P w) 4 f__law_begun fd__law_begun ["draws", "cache", "settings", "number"] (spM K 4 (m__law_begun cA)) := by
  have sc := sc__law_begun
  refine fn_def (m := b__law_begun cA) D__law_begun.F sc rfl rfl fun cdv A outer s H E hr => ?_
  unfold b__law_begun
  exact (SMs.cons (s_asg (e_v 2) (g_tup rfl (gs_cons (g_n (i := 4) sc.nd) (gs_cons (g_n (i := 5) sc.nd) (gs_cons (g_n (i := 6) sc.nd) (gs_cons (g_n (i := 7) sc.nd) gs_nil))))))
    (SMs.cons (s_for (passes_of rfl) rfl (i_rng1 z_range (l_cons (e_fn G__law_next len__law_next (hr.mono (by decide)) (by rfl) D__law_next.g D__law_next.F.kp D__law_next.b (fun _ => Passes.at pass_def _) (l_cons (e_v 0) (l_cons e_int l_nil))) l_nil)) (g_n (i := 8) sc.nd) (SMs.cons (s_set (i := 9) sc.nd (e_fn G__law_next len__law_next (hr.mono (by decide)) (by rfl) D__law_next.g D__law_next.F.kp D__law_next.b (fun _ => Passes.at pass_def _) (l_cons (e_v 0) (l_cons (e_mul (e_mul (e_mul (e_v 4) (e_v 6)) (e_v 5)) e_int) l_nil))))
    (SMs.one (s_if (b_cmp (or_eqA hr) ok_eq (e_fn G__law_next len__law_next (hr.mono (by decide)) (by rfl) D__law_next.g D__law_next.F.kp D__law_next.b (fun _ => Passes.at pass_def _) (l_cons (e_v 0) (l_cons e_int l_nil))) e_int (nomark _)) (SMs.one (s_expr (e_meth (k := 1) (MOks.one (mok X_Cache_drop.1 X_Cache_drop.2 G_Cache_m_drop (by decide) D_Cache_m_drop.b len_Cache_m_drop)) (hr.mono (by decide)) pass_def (e_v 1) (l_cons (e_v 9) l_nil)))) (SMs.one (s_expr (e_meth (k := 3) (MOks.one (mok X_Cache_touch.1 X_Cache_touch.2 G_Cache_m_touch (by decide) D_Cache_m_touch.b len_Cache_m_touch)) (hr.mono (by decide)) pass_def (e_v 1) (l_cons (e_v 9) l_nil))))))))
    (SMs.cons (s_set (i := 10) sc.nd (e_lst l_nil))
    (SMs.cons (s_for (passes_of rfl) rfl (i_rng1 z_range (l_cons (e_mul e_int (e_v 5)) l_nil)) (g_n (i := 8) sc.nd) (SMs.cons (s_set (i := 11) sc.nd (e_add (e_v 3) (e_mul (e_v 4) (e_add (e_mul e_int (e_v 5)) (e_v 8)))))
    (SMs.one (s_if (b_not (b_tru (e_meth (k := 3) (MOks.one (mok X_Cache_touch.1 X_Cache_touch.2 G_Cache_m_touch (by decide) D_Cache_m_touch.b len_Cache_m_touch)) (hr.mono (by decide)) pass_def (e_v 1) (l_cons (e_mul (e_v 11) (e_v 6)) l_nil)))) (SMs.one (s_expr (e_bm PySem.F.plainAttrs_list PySem.F.slot_list_append PySem.F.type_list_append mt_append ok_append (e_v 10) (l_cons (e_v 11) l_nil)))) SMs.nil))))
    (SMs.cons (s_set (i := 12) sc.nd (e_meth (k := 1) (MOks.one (mok X_Cache_places.1 X_Cache_places.2 G_Cache_m_places (by decide) D_Cache_m_places.b len_Cache_m_places)) (hr.mono (by decide)) pass_def (e_v 1) (l_cons (e_v 3) l_nil)))
    (SMs.cons (s_set (i := 13) sc.nd (c_list rfl z_list (l_cons (e_v 10) l_nil)))
    (SMs.cons (s_for (passes_of rfl) rfl (i_rng1 z_range (l_cons (e_fn G__law_next len__law_next (hr.mono (by decide)) (by rfl) D__law_next.g D__law_next.F.kp D__law_next.b (fun _ => Passes.at pass_def _) (l_cons (e_v 0) (l_cons (e_add (e_mul e_int (e_v 5)) e_int) l_nil))) l_nil)) (g_n (i := 8) sc.nd) (SMs.cons (s_set (i := 11) sc.nd (e_ix (hu_of hr) (e_v 12) (e_fn G__law_next len__law_next (hr.mono (by decide)) (by rfl) D__law_next.g D__law_next.F.kp D__law_next.b (fun _ => Passes.at pass_def _) (l_cons (e_v 0) (l_cons (e_v 5) l_nil)))))
    (SMs.cons (s_if (b_not (b_tru (e_meth (k := 3) (MOks.one (mok X_Cache_touch.1 X_Cache_touch.2 G_Cache_m_touch (by decide) D_Cache_m_touch.b len_Cache_m_touch)) (hr.mono (by decide)) pass_def (e_v 1) (l_cons (e_add (e_mul (e_v 11) (e_v 6)) (e_fn G__law_next len__law_next (hr.mono (by decide)) (by rfl) D__law_next.g D__law_next.F.kp D__law_next.b (fun _ => Passes.at pass_def _) (l_cons (e_v 0) (l_cons (e_v 6) l_nil)))) l_nil)))) (SMs.one (s_ret e_non)) SMs.nil)
    (SMs.one (s_set (i := 13) sc.nd (e_add (e_lc rfl sc.nd (i_it (e_v 13)) (blkOk_by (own := [("one", 14)]) (by rfl)) (gok_n (i := 14) rfl) (fun _ _ _ _ _ => pg_name (i := 14) sc.nd rfl (by first | exact Or.inl rfl | exact Or.inr rfl)) (fun _ _ _ _ _ => ct_one (b_cmp (or_neA hr) ok_ne (e_v 14) (e_v 11) (nomark _))) (fun _ _ _ _ _ => (e_v 14))) (e_lst (l_cons (e_v 11) l_nil))))))))
    (SMs.cons (s_if (b_cmp (or_eqA hr) ok_eq (e_v 7) e_str (nomark _)) (SMs.one (s_ret (e_lc rfl sc.nd (i_it (e_v 10)) (blkOk_by (own := [("one", 14)]) (by rfl)) (gok_n (i := 14) rfl) (fun _ _ _ _ _ => pg_name (i := 14) sc.nd rfl (by first | exact Or.inl rfl | exact Or.inr rfl)) (fun _ _ _ _ _ => ct_one (b_cmp (or_inAll hr) ok_in (e_v 14) (e_v 12) (by rfl))) (fun _ _ _ _ _ => (e_v 14))))) SMs.nil)
    (SMs.one (s_ret (e_lc rfl sc.nd (i_it (e_v 13)) (blkOk_by (own := [("one", 14)]) (by rfl)) (gok_n (i := 14) rfl) (fun _ _ _ _ _ => pg_name (i := 14) sc.nd rfl (by first | exact Or.inl rfl | exact Or.inr rfl)) (fun _ _ _ _ _ => ct_one (b_cmp (or_inAll hr) ok_in (e_v 14) (e_v 12) (by rfl))) (fun _ _ _ _ _ => (e_v 14)))))))))))))
theorem sc__law_changed : FnScope ["before", "after", "k"] ["before", "after"] (defScope s__law_changed) := ⟨rfl, rfl, rfl, by decide +kernel, rfl, by decide +kernel, by decide +kernel⟩
theorem ok__law_changed {f__law_changed : Addr} {fd__law_changed : FuncData} (D__law_changed : DefAt K mg "_law_changed" s__law_changed ["before", "after"] f__law_changed fd__law_changed) (z_range : mg "range" = none) (z_len : mg "len" = none) : FnOk P w K mg base (L2.CX P w) 1 f__law_changed fd__law_changed ["before", "after"] (spM K 2 (m__law_changed)) := by
  have sc := sc__law_changed
  refine fn_def (m := b__law_changed) D__law_changed.F sc rfl rfl fun cdv A outer s H E hr => ?_
  unfold b__law_changed
  exact (SMs.one (s_ret (e_lc rfl sc.nd (i_rng1 z_range (l_cons (c_len z_len (l_cons (e_v 0) l_nil)) l_nil)) (blkOk_by (own := [("k", 2)]) (by rfl)) (gok_n (i := 2) rfl) (fun _ _ _ _ _ => pg_name (i := 2) sc.nd rfl (by first | exact Or.inl rfl | exact Or.inr rfl)) (fun _ _ _ _ _ => ct_one (b_cmp (or_neA hr) ok_ne (e_ix (hu_of hr) (e_v 0) (e_v 2)) (e_ix (hu_of hr) (e_v 1) (e_v 2)) (nomark _))) (fun _ _ _ _ _ => (e_v 2)))))
theorem sc_law : FnScope ["script", "draws", "settings", "sets", "ways", "size", "policy", "cache", "number", "order", "taken", "k", "before", "line", "changed"] ["script"] (defScope s_law) := ⟨rfl, rfl, rfl, by decide +kernel, rfl, by decide +kernel, by decide +kernel⟩
theorem ok_law {f_law : Addr} {fd_law : FuncData} {f__law_reader : Addr} {fd__law_reader : FuncData} {f__law_cache : Addr} {fd__law_cache : FuncData} {f_Cache_m___init__ : Addr} {fd_Cache_m___init__ : FuncData} {f__law_next : Addr} {fd__law_next : FuncData} {f__law_begun : Addr} {fd__law_begun : FuncData} {f_Cache_m_places : Addr} {fd_Cache_m_places : FuncData} {f_Cache_m_touch : Addr} {fd_Cache_m_touch : FuncData} {f__law_changed : Addr} {fd__law_changed : FuncData} {cA : Nat → Addr} (D_law : DefAt K mg "law" s_law ["script"] f_law fd_law) (D__law_reader : DefAt K mg "_law_reader" s__law_reader ["script"] f__law_reader fd__law_reader) (D__law_cache : DefAt K mg "_law_cache" s__law_cache ["draws"] f__law_cache fd__law_cache) (D_Cache_m___init__ : MetAt K "__init__" "Cache.__init__" s_Cache_m___init__ ["self", "settings"] f_Cache_m___init__ fd_Cache_m___init__) (D__law_next : DefAt K mg "_law_next" s__law_next ["draws", "many"] f__law_next fd__law_next) (D__law_begun : DefAt K mg "_law_begun" s__law_begun ["draws", "cache", "settings", "number"] f__law_begun fd__law_begun) (D_Cache_m_places : MetAt K "places" "Cache.places" s_Cache_m_places ["self", "number"] f_Cache_m_places fd_Cache_m_places) (D_Cache_m_touch : MetAt K "touch" "Cache.touch" s_Cache_m_touch ["self", "address"] f_Cache_m_touch fd_Cache_m_touch) (D__law_changed : DefAt K mg "_law_changed" s__law_changed ["before", "after"] f__law_changed fd__law_changed) (G__law_reader : FnOk P w K mg base (L2.CX P w) 2 f__law_reader fd__law_reader ["script"] (spM K 1 m__law_reader)) (G__law_cache : FnOk P w K mg base (L2.CX P w) 2 f__law_cache fd__law_cache ["draws"] (spM K 1 m__law_cache)) (G_Cache_m___init__ : FnOk P w K mg base (L2.CX P w) 3 f_Cache_m___init__ fd_Cache_m___init__ ["self", "settings"] (spM K 2 (m_Cache_m___init__ cA))) (G__law_next : FnOk P w K mg base (L2.CX P w) 1 f__law_next fd__law_next ["draws", "many"] (spM K 2 m__law_next)) (G__law_begun : FnOk P w K mg base (L2.CX P w) 4 f__law_begun fd__law_begun ["draws", "cache", "settings", "number"] (spM K 4 (m__law_begun cA))) (G_Cache_m_places : FnOk P w K mg base (L2.CX P w) 1 f_Cache_m_places fd_Cache_m_places ["self", "number"] (spM K 2 (m_Cache_m_places cA))) (G_Cache_m_touch : FnOk P w K mg base (L2.CX P w) 3 f_Cache_m_touch fd_Cache_m_touch ["self", "address"] (spM K 2 (m_Cache_m_touch cA))) (G__law_changed : FnOk P w K mg base (L2.CX P w) 1 f__law_changed fd__law_changed ["before", "after"] (spM K 2 m__law_changed)) (z_sorted : mg "sorted" = none) (z_range : mg "range" = none) (z_len : mg "len" = none) (z_list : mg "list" = none) (N_Cache : mg "Cache" = some (.ref (cA 2))) (M_Cache : Mk K (cA 2) f_Cache_m___init__) (X_Cache_places : Cls K (cA 2) ∧ Meth K (cA 2) "places" f_Cache_m_places) (X_Cache_touch : Cls K (cA 2) ∧ Meth K (cA 2) "touch" f_Cache_m_touch) : FnOk P w K mg base (L2.CX P w) 5 f_law fd_law ["script"] (spM K 1 (m_law cA)) := by
  have sc := sc_law
  refine fn_def (m := b_law cA) D_law.F sc rfl rfl fun cdv A outer s H E hr => ?_
  unfold b_law
  exact (SMs.cons (s_set (i := 1) sc.nd (e_fn G__law_reader len__law_reader (hr.mono (by decide)) (by rfl) D__law_reader.g D__law_reader.F.kp D__law_reader.b (fun _ => Passes.at pass_def _) (l_cons (e_v 0) l_nil)))
    (SMs.cons (s_set (i := 2) sc.nd (e_fn G__law_cache len__law_cache (hr.mono (by decide)) (by rfl) D__law_cache.g D__law_cache.F.kp D__law_cache.b (fun _ => Passes.at pass_def _) (l_cons (e_v 1) l_nil)))
    (SMs.cons (s_asg (e_v 2) (g_tup rfl (gs_cons (g_n (i := 3) sc.nd) (gs_cons (g_n (i := 4) sc.nd) (gs_cons (g_n (i := 5) sc.nd) (gs_cons (g_n (i := 6) sc.nd) gs_nil))))))
    (SMs.cons (s_set (i := 7) sc.nd (e_make M_Cache G_Cache_m___init__ len_Cache_m___init__ (hr.mono (by decide)) (by rfl) N_Cache D_Cache_m___init__.b pass_def (l_cons (e_v 2) l_nil)))
    (SMs.cons (s_set (i := 8) sc.nd (e_fn G__law_next len__law_next (hr.mono (by decide)) (by rfl) D__law_next.g D__law_next.F.kp D__law_next.b (fun _ => Passes.at pass_def _) (l_cons (e_v 1) (l_cons (e_v 3) l_nil))))
    (SMs.cons (s_set (i := 9) sc.nd (e_fn G__law_begun len__law_begun (hr.mono (by decide)) (by rfl) D__law_begun.g D__law_begun.F.kp D__law_begun.b (fun _ => Passes.at pass_def _) (l_cons (e_v 1) (l_cons (e_v 7) (l_cons (e_v 2) (l_cons (e_v 8) l_nil))))))
    (SMs.cons (s_if (b_of (w_or (b_cmp or_isA ok_is (e_v 9) e_non (nomark _)) (w_or1 (b_cmp (or_neA hr) ok_ne (c_sortA rfl z_sorted (l_cons (e_v 9) l_nil)) (c_sortA rfl z_sorted (l_cons (e_meth (k := 1) (MOks.one (mok X_Cache_places.1 X_Cache_places.2 G_Cache_m_places (by decide) D_Cache_m_places.b len_Cache_m_places)) (hr.mono (by decide)) pass_def (e_v 7) (l_cons (e_v 8) l_nil)) l_nil)) (nomark _))))) (SMs.one (s_ret e_bl)) SMs.nil)
    (SMs.cons (s_set (i := 10) sc.nd (e_lst l_nil))
    (SMs.cons (s_for (passes_of rfl) rfl (i_rng1 z_range (l_cons (e_v 4) l_nil)) (g_n (i := 11) sc.nd) (SMs.cons (s_set (i := 12) sc.nd (e_meth (k := 1) (MOks.one (mok X_Cache_places.1 X_Cache_places.2 G_Cache_m_places (by decide) D_Cache_m_places.b len_Cache_m_places)) (hr.mono (by decide)) pass_def (e_v 7) (l_cons (e_v 8) l_nil)))
    (SMs.cons (s_set (i := 13) sc.nd (e_add (e_v 8) (e_mul (e_v 3) (e_add (e_add (e_mul e_int (e_v 4)) (e_v 11)) (e_mul (e_fn G__law_next len__law_next (hr.mono (by decide)) (by rfl) D__law_next.g D__law_next.F.kp D__law_next.b (fun _ => Passes.at pass_def _) (l_cons (e_v 1) (l_cons e_int l_nil))) e_int)))))
    (SMs.cons (s_if (b_tru (e_meth (k := 3) (MOks.one (mok X_Cache_touch.1 X_Cache_touch.2 G_Cache_m_touch (by decide) D_Cache_m_touch.b len_Cache_m_touch)) (hr.mono (by decide)) pass_def (e_v 7) (l_cons (e_add (e_mul (e_v 13) (e_v 5)) (e_fn G__law_next len__law_next (hr.mono (by decide)) (by rfl) D__law_next.g D__law_next.F.kp D__law_next.b (fun _ => Passes.at pass_def _) (l_cons (e_v 1) (l_cons (e_v 5) l_nil)))) l_nil))) (SMs.one (s_ret e_bl)) SMs.nil)
    (SMs.cons (s_set (i := 14) sc.nd (e_fn G__law_changed len__law_changed (hr.mono (by decide)) (by rfl) D__law_changed.g D__law_changed.F.kp D__law_changed.b (fun _ => Passes.at pass_def _) (l_cons (e_v 12) (l_cons (e_meth (k := 1) (MOks.one (mok X_Cache_places.1 X_Cache_places.2 G_Cache_m_places (by decide) D_Cache_m_places.b len_Cache_m_places)) (hr.mono (by decide)) pass_def (e_v 7) (l_cons (e_v 8) l_nil)) l_nil))))
    (SMs.cons (s_if (b_of (w_or (b_cmp (or_neA hr) ok_ne (c_len z_len (l_cons (e_v 14) l_nil)) e_int (nomark _)) (w_or1 (b_cmp (or_neA hr) ok_ne (e_ix (hu_of hr) (e_meth (k := 1) (MOks.one (mok X_Cache_places.1 X_Cache_places.2 G_Cache_m_places (by decide) D_Cache_m_places.b len_Cache_m_places)) (hr.mono (by decide)) pass_def (e_v 7) (l_cons (e_v 8) l_nil)) (e_ix (hu_of hr) (e_v 14) e_int)) (e_v 13) (nomark _))))) (SMs.one (s_ret e_bl)) SMs.nil)
    (SMs.cons (s_if (b_of (w_and (b_cmp (or_neA hr) ok_ne (e_v 6) e_str (nomark _)) (w_and1 (b_cmp (or_neA hr) ok_ne (e_ix (hu_of hr) (e_v 12) (e_ix (hu_of hr) (e_v 14) e_int)) (e_ix (hu_of hr) (e_v 9) (e_v 11)) (nomark _))))) (SMs.one (s_ret e_bl)) SMs.nil)
    (SMs.one (s_expr (e_bm PySem.F.plainAttrs_list PySem.F.slot_list_append PySem.F.type_list_append mt_append ok_append (e_v 10) (l_cons (e_ix (hu_of hr) (e_v 14) e_int) l_nil)))))))))))
    (SMs.one (s_ret (e_cmp (or_eqA hr) ok_eq (c_sortA rfl z_sorted (l_cons (e_v 10) l_nil)) (c_listRg1 rfl z_list z_range (e_v 4)) (nomark _)))))))))))))
end
end GK22
set_option Elab.async false
set_option linter.all false
set_option maxRecDepth 100000
namespace GK22
open PySem L2 Ly
open PySem.Spec hiding Row
open PyProof.Rows hiding St
local macro_rules | `(tactic| simp_arith [$ls,*]) => `(tactic| simp only [Ly.line_le, Ly.atX_no, Ly.v_ok, Ly.v_bad, Ly.v_bind, Ly.k_bd, Ly.v_at, Ly.v_bin, Ly.k_bi, Ly.k_bi2, Ly.v_var, Ly.v_c, Ly.v_un, Ly.k_un, Ly.v_if, Ly.k_ife, Ly.v_and, Ly.k_and, Ly.k_and2, Ly.v_or, Ly.k_or, Ly.k_or2, Ly.v_tup, Ly.k_tup, Ly.v_lst, Ly.k_lst, Ly.v_call, Ly.k_ca, Ly.v_fn, Ly.k_fn, Ly.v_bm, Ly.k_bm, Ly.k_bm2, Ly.v_sl, Ly.k_sl, Ly.k_sl2, Ly.k_sl3, Ly.v_ixK, Ly.k_ixk, Ly.v_inK, Ly.k_ink, Ly.v_notinK, Ly.k_nink, Ly.v_getK2, Ly.k_gk2, Ly.k_gk, Ly.v_get2, Ly.k_g2, Ly.k_g22, Ly.k_g23, Ly.v_nil, Ly.v_cons, Ly.k_co, Ly.k_co2, Ly.v_no, Ly.v_some, Ly.k_so, Ly.k_cm, Ly.v_cmp, Ly.v_tru, Ly.k_tr, Ly.v_notB, Ly.k_no, Ly.v_andB, Ly.k_an, Ly.v_orB, Ly.k_orb, Ly.v_yes, Ly.v_inKB, Ly.k_inkB, Ly.v_notinKB, Ly.k_ninkB, Ly.v_set, Ly.k_st, Ly.v_expr, Ly.k_ex, Ly.v_ret, Ly.k_re, Ly.v_retN, Ly.v_pass, Ly.v_brk, Ly.v_cnt, Ly.v_seq, Ly.k_sq_nx, Ly.k_sq_rt, Ly.k_sq_bk, Ly.k_sq_ct, Ly.v_ifS, Ly.k_ifs, Ly.v_asg, Ly.k_as, Ly.k_as2, Ly.v_aug, Ly.k_au, Ly.v_for, Ly.k_fo, Ly.v_it, Ly.k_it, Ly.k_ij, Ly.v_rng1, Ly.v_rng2, Ly.v_enum, Ly.v_zip, Ly.v_gN, Ly.v_gsN, Ly.v_gsC, Ly.k_gc, Ly.v_gT, Ly.v_gTw, Ly.v_gSb, Ly.k_gsb, Ly.k_gsb2, Ly.k_gsb3, Ly.k_en_rt, Ly.k_en_nx, Ly.k_tu_nx, Ly.k_tu_ct, Ly.k_tu_bk, Ly.k_tu_rt, Ly.v_lc, Ly.k_lc, Ly.v_augI, Ly.k_ag, Ly.k_ag2, Ly.k_ag3, Ly.k_ag4, Ly.k_ag5, Ly.v_del, Ly.k_dl, Ly.k_dl2, Ly.v_setd, Ly.v_pop2, Ly.k_d3, Ly.k_d32, Ly.k_d33, Ly.v_get1, Ly.k_g1, Ly.k_g12, Ly.v_rg1, Ly.k_rg, Ly.v_rg2, Ly.k_rg2, Ly.k_rg22, Ly.v_dicK, Ly.v_dicT, Ly.v_dc, Ly.k_dc, List.getElem?_cons_zero, List.getElem?_cons_succ, List.set_cons_zero, List.set_cons_succ, List.length_cons, List.length_nil, List.map_cons, List.map_nil, List.cons_append, List.nil_append, List.replicate, if_true, if_false, Bool.false_eq_true, Bool.not_true, Bool.not_false, Bool.true_and, Bool.false_and, decide_true, decide_false, decide_eq_true_eq, Nat.zero_add, Nat.reduceAdd, Nat.reduceLeDiff, true_and, and_true, $ls,*])
variable {cA : Nat → Addr}
theorem is_next : m__law_next = m_nextD := rfl
theorem is_reader : m__law_reader = m_readerD := rfl
theorem is_cache : m__law_cache = m_Vcache := rfl
theorem is_init : m_Cache_m___init__ cA = caM___init__ (cA 0) (cA 1) (cA 2) := rfl
theorem is_touch : m_Cache_m_touch cA = caM_touch (cA 0) (cA 1) (cA 2) := rfl
theorem is_drop : m_Cache_m_drop cA = caM_drop (cA 0) (cA 1) (cA 2) := rfl
theorem is_places : m_Cache_m_places cA = caM_places (cA 0) (cA 1) (cA 2) := rfl
section
variable {S S' : Hs} {i j k : Nat} {s : PSet}
theorem pl_inT {l : Nat} {pl : List (Option Nat)} : oIn (nD l) (.tup (pl.map plD)) S = .ok (.bl (decide (some l ∈ pl))) S := by
  have hf : (pl.map plD).all flatD = true := by
    rw [List.all_eq_true]
    intro x hx
    obtain ⟨o, _, rfl⟩ := List.mem_map.mp hx
    cases o <;> rfl
  have ha : ((pl.map plD).any fun z => eqF z (nD l)) = decide (some l ∈ pl) := by
    clear hf
    induction pl with
    | nil => simp
    | cons o pl ih =>
      rw [List.map_cons, List.any_cons, ih]
      cases o with
      | none =>
        have : eqF (plD none) (nD l) = false := rfl
        rw [this]; simp
      | some x =>
        have : eqF (plD (some x)) (nD l) = decide (x = l) := by
          show decide ((x : Int) = (l : Int)) = _
          by_cases h : x = l
          · simp [h]
          · have : ¬ (x : Int) = (l : Int) := by omega
            simp [h, this]
        rw [this]
        by_cases h : x = l
        · simp [h]
        · have : l ≠ x := fun e => h e.symm
          simp [h, this]
  simp only [oIn, cIn]
  have hx : flatD (nD l) = true := rfl
  rw [hx, hf]
  simp only [Bool.and_self, if_true, ha]
theorem mul_n {a b : Nat} (hb : b < 4294967296) : oMul (nD a) (nD b) S = .ok (nD (a * b)) S := by
  rw [oMul_int (mulok_r (nat64 hb))]; rfl
theorem add_n {a b : Nat} : ((a : Nat) : Int) + ((b : Nat) : Int) = ((a + b : Nat) : Int) := rfl
end
def ckd (c : CS) : Option Bool := if c.p = "plru" then none else some (decide (c.p = "lru"))
structure CK (E W Z : Nat) (m : CM) : Prop where
  wf : m.wf
  s : m.sets = E
  w : m.ways = W
  l : m.line = Z
structure CI (cA : Nat → Addr) (S : Hs) (i j : Nat) (d : CAd) (m : CM) : Prop where
  dr : DrwN S i j
  c : Ca S (cA 0) (cA 1) (cA 2) m d
  bi : ∀ x ∈ d.fp, x ≠ i ∧ x ≠ j
section
variable {S S' : Hs} {i j k E W Z : Nat} {kd : Option Bool} {s : PSet} {c : CS} {m : CM} {d : CAd} {x : Nat}
theorem CI.next (h : CI cA S i j d m) (dr : DrwN S' i j) (k : Kp [i] S S') : CI cA S' i j d m := ⟨dr, h.c.kp k fun x hx => by simpa using (h.bi x hx).1, h.bi⟩
theorem CI.kp (h : CI cA S i j d m) {B : List Nat} (k : Kp B S S') (hB : ∀ y ∈ B, y ≠ i ∧ y ≠ j ∧ y ∉ d.fp) : CI cA S' i j d m :=
  ⟨h.dr.kp k (fun hm => (hB _ hm).1 rfl) (fun hm => (hB _ hm).2.1 rfl), h.c.kp k fun x hx hm => (hB x hm).2.2 hx, h.bi⟩
theorem CI.new (h : CI cA S i j d m) (k : Kp [] S S') : CI cA S' i j d m := h.kp k (by simp)
theorem CI.upd {m' : CM} (h : CI cA S i j d m) (c : Ca S' (cA 0) (cA 1) (cA 2) m' d) (k : Kp d.fp S S') : CI cA S' i j d m' :=
  ⟨h.dr.kp k (fun hm => (h.bi _ hm).1 rfl) (fun hm => (h.bi _ hm).2 rfl), c, h.bi⟩
theorem CK.touch (h : CK E W Z m) : CK E W Z (m.touch x) := ⟨CM.touch_wf h.wf x, h.s, h.w, h.l⟩
theorem CK.drop (h : CK E W Z m) : CK E W Z (m.drop x) := ⟨CM.drop_wf h.wf x, h.s, h.w, h.l⟩
theorem ck_st (h : CK E W Z m) (hs : m.ps[k]? = some s) (hx : x % m.sets = k) : m.st x = s := by
  have := h.wf.st x
  rw [hx, hs] at this
  exact (Option.some.inj this).symm
theorem ck_touch (h : CK E W Z m) (hs : m.ps[k]? = some s) (hx : x % m.sets = k) : (m.touch x).ps[k]? = some (s.touch x) ∧ m.has x = decide (some x ∈ s.pl) := by
  have hst := ck_st h hs hx
  have hk := (List.getElem?_eq_some_iff.mp hs).1
  refine ⟨?_, by unfold CM.has; rw [hst]⟩
  unfold CM.touch
  simp only [hst, hx]
  exact List.getElem?_set_self hk
structure Low (kd : Option Bool) (E W : Nat) (m : CM) : Prop where
  bd : ∀ s ∈ m.ps, s.od.bd
  kd : ∀ s ∈ m.ps, s.od.kd = kd
  lo : ∀ s ∈ m.ps, ∀ l, some l ∈ s.pl → l < E * W * 2
theorem Low.touch (h : Low kd E W m) (hk : CK E W Z m) (hx : x < E * W * 2) : Low kd E W (m.touch x) := by
  have hm := List.mem_of_getElem? (hk.wf.st x)
  have hw := hk.wf.stw x
  refine ⟨fun s hs => ?_, fun s hs => ?_, fun s hs l hl => ?_⟩ <;> rcases List.mem_or_eq_of_mem_set hs with hs | rfl
  · exact h.bd s hs
  · exact touch_bd (h.bd _ hm)
  · exact h.kd s hs
  · rw [touch_kd]; exact h.kd _ hm
  · exact h.lo s hs l hl
  · rcases mem_touch hw hk.wf.w hl with rfl | hl
    · exact hx
    · exact h.lo _ hm l hl
theorem Low.drop (h : Low kd E W m) (hk : CK E W Z m) : Low kd E W (m.drop x) := by
  have hm := List.mem_of_getElem? (hk.wf.st x)
  have hw := hk.wf.stw x
  refine ⟨fun s hs => ?_, fun s hs => ?_, fun s hs l hl => ?_⟩ <;> rcases List.mem_or_eq_of_mem_set hs with hs | rfl
  · exact h.bd s hs
  · exact (show ((m.st x).drop x).od.bd from h.bd (m.st x) hm)
  · exact h.kd s hs
  · exact (show ((m.st x).drop x).od.kd = _ from h.kd (m.st x) hm)
  · exact h.lo s hs l hl
  · obtain ⟨p, hp⟩ := at_mem.mp hl
    exact h.lo _ hm l (at_mem.mpr ⟨p, ((at_drop hw).mp hp).1⟩)
def ln (k sets w t : Nat) : Nat := k + sets * (2 * w + t)
def Pt (k sets w t : Nat) : List Nat := (List.range t).map (ln k sets w)
theorem pt_succ {sets w t : Nat} : Pt k sets w (t + 1) = Pt k sets w t ++ [ln k sets w t] := by simp [Pt, List.range_succ]
theorem pt_len {sets w t : Nat} : (Pt k sets w t).length = t := by simp [Pt]
theorem ln_inj {sets w a b : Nat} (hs : 0 < sets) (h : ln k sets w a = ln k sets w b) : a = b := by
  unfold ln at h
  have := Nat.eq_of_mul_eq_mul_left hs (Nat.add_left_cancel h)
  omega
theorem ln_notin {sets w t : Nat} (hs : 0 < sets) : ln k sets w t ∉ Pt k sets w t := by
  intro hm
  obtain ⟨a, ha, he⟩ := List.mem_map.mp hm
  have := ln_inj hs he
  have := List.mem_range.mp ha
  omega
theorem pt_nodup {sets w t : Nat} (hs : 0 < sets) : (Pt k sets w t).Nodup := by
  induction t with
  | zero => simp [Pt]
  | succ t ih =>
    rw [pt_succ, List.nodup_append]
    refine ⟨ih, by simp, fun x hx y hy => ?_⟩
    rw [List.mem_singleton.mp hy]
    rintro rfl
    exact ln_notin hs hx
theorem ln_mod {sets w t : Nat} (hk : k < sets) : ln k sets w t % sets = k := by
  unfold ln; rw [Nat.add_mul_mod_self_left, Nat.mod_eq_of_lt hk]
theorem ln_ge {sets w t : Nat} : sets * w * 2 ≤ ln k sets w t := by
  have : sets * (2 * w + t) = sets * w * 2 + sets * t := by rw [Nat.mul_add, Nat.mul_comm 2 w, ← Nat.mul_assoc]
  unfold ln; omega
structure Fi (kd : Option Bool) (k sets w t : Nat) (s : PSet) : Prop where
  bd : s.od.bd
  kd : s.od.kd = kd
  mem : ∀ l, some l ∈ s.pl → l < sets * w * 2 ∨ l ∈ Pt k (sets) (w) t
  nn : none ∈ s.pl → s.pl.countP Option.isNone + t ≤ w
  tl : ∀ bt as now, s.od = .ages bt as now → Tl s as ((Pt k (sets) (w) t).drop (t - w)) (w)
  vr : 2 * w ≤ t → ∃ pl0 V, Trn (w) pl0 V ((Pt k (sets) (w) t).drop (2 * w)) s
theorem Fi.step {kd : Option Bool} {sets w t : Nat} (h : Fi kd k sets w t s) (hw : s.wf w k sets) (hk : k < sets) (hwo : WayOk w) (ht : t < 3 * w) : some (ln k (sets) (w) t) ∉ s.pl ∧ Fi kd k sets w (t + 1) (s.touch (ln k (sets) (w) t)) := by
  have hs0 : 0 < sets := by omega
  have hw0 := hwo.pos
  have hfresh : some (ln k sets w t) ∉ s.pl := by
    intro hm
    rcases h.mem _ hm with h1 | h1
    · have := ln_ge (k := k) (sets := sets) (w := w) (t := t); omega
    · exact ln_notin hs0 h1
  have hpl : (Pt k sets w t).length = t := pt_len
  have hn' : none ∈ (s.touch (ln k sets w t)).pl → (s.touch (ln k sets w t)).pl.countP Option.isNone + (t + 1) ≤ w := by
    intro hn
    have hns : none ∈ s.pl := by
      apply Classical.byContradiction
      intro hns
      exact full_miss hfresh hns hn
    have := nones_miss hw hwo hfresh hns
    have := h.nn hns
    omega
  refine ⟨hfresh, ⟨touch_bd h.bd, by rw [touch_kd]; exact h.kd, ?_, hn', ?_, ?_⟩⟩
  · intro l hl
    rcases mem_touch hw hwo hl with rfl | hl
    · right; rw [pt_succ]; simp
    · rcases h.mem l hl with h1 | h1
      · exact .inl h1
      · right; rw [pt_succ]; exact List.mem_append_left _ h1
  · intro bt as1 now1 ho1
    cases hod : s.od with
    | ptrs w' ss =>
      have : (s.touch (ln k sets w t)).od.kd = none := by rw [touch_kd, hod]; rfl
      rw [ho1] at this; cases this
    | ages bt0 as now =>
      have hto : (s.touch (ln k sets w t)).od = .ages bt0 (as.set (s.place (ln k sets w t)) (now + 1)) (now + 1) := by
        unfold PSet.touch; simp only [hod, decide_eq_false hfresh, Bool.not_false, Od.note, Bool.true_or, if_true]
      rw [hto] at ho1
      cases ho1
      have hbd : ∀ a ∈ as, a ≤ now := by have := h.bd; rw [hod] at this; exact this
      have hTl := h.tl _ _ _ hod
      have hlen : ((Pt k sets w t).drop (t - w)).length = t - (t - w) := by rw [List.length_drop, hpl]
      have hmiss := (tl_miss hw hwo hod hbd hTl (by rw [hlen]; omega) hfresh).1
      have he : tlNext w ((Pt k sets w t).drop (t - w)) (ln k sets w t) = (Pt k sets w (t + 1)).drop (t + 1 - w) := by
        unfold tlNext
        rw [pt_succ, hlen]
        by_cases hlt : t < w
        · rw [if_pos (by omega), show t - w = 0 by omega, show t + 1 - w = 0 by omega]; rfl
        · rw [if_neg (by omega), List.tail_drop, show t + 1 - w = t - w + 1 by omega, List.drop_append_of_le_length (by rw [hpl]; omega)]
      rw [he] at hmiss
      exact hmiss
  · intro h2
    by_cases heq : t + 1 = 2 * w
    · have hfull : none ∉ (s.touch (ln k sets w t)).pl := by
        intro hn
        have h3 := hn' hn
        have : 0 < (s.touch (ln k sets w t)).pl.countP Option.isNone := List.countP_pos_iff.mpr ⟨none, hn, rfl⟩
        omega
      have hd : (Pt k sets w (t + 1)).drop (2 * w) = [] := List.drop_of_length_le (by rw [pt_len]; omega)
      rw [hd]
      exact ⟨_, _, Trn.start hwo (PSet.touch_wf hw (ln_mod hk)) (touch_bd h.bd) hfull⟩
    · obtain ⟨pl0, V, hr⟩ := h.vr (by omega)
      have hlen : ((Pt k sets w t).drop (2 * w)).length = t - 2 * w := by rw [List.length_drop, hpl]
      obtain ⟨p, _, _, _, h5⟩ := hr.step hw (by rw [hlen]; omega) hfresh
      refine ⟨pl0, V, ?_⟩
      rw [pt_succ, List.drop_append_of_le_length (by rw [hpl]; omega)]
      exact h5
def BL (i : Nat) (cc : Nat) (dS : D) (k E W Z : Nat) (pol : Str) (o8 o9 o10 o11 o12 o13 o14 : Option D) : Ls :=
  [some (.ref i), some (.ref cc), some dS, some (nD k), some (nD E), some (nD W), some (nD Z), some (.str pol), o8, o9, o10, o11, o12, o13, o14]
theorem turn0 {dS : D} {pol : Str} {o8 o9 o10 o11 o12 o13 o14 : Option D} (h : CI cA S i j d m) (hk : CK E W Z m) (hl : Low kd E W m) (h1 : E ≤ 64) (h2 : W ≤ 8) (h3 : Z ≤ 16) (p1 : 0 < E) (p2 : 0 < W) (p3 : 0 < Z) :
    Wp NoX (lb__law_begun_0 cA (BL i d.c dS k E W Z pol o8 o9 o10 o11 o12 o13 o14) S) fun q S' => ∃ o9 m', q = .nx (BL i d.c dS k E W Z pol o8 o9 o10 o11 o12 o13 o14) ∧ CI cA S' i j d m' ∧ CK E W Z m' ∧ Low kd E W m' ∧ Kp (i :: d.fp) S S' := by
  unfold lb__law_begun_0 BL
  have e1 : E * Z ≤ 64 * 16 := Nat.mul_le_mul h1 h3
  have e2 : E * Z * W ≤ 64 * 16 * 8 := Nat.mul_le_mul e1 h2
  have e0 : 0 < E * Z * W := Nat.mul_pos (Nat.mul_pos p1 p3) p2
  rw [v_seq]
  simp_arith [Ly.v_fld, Ly.v_meth, Ly.k_me2, Ly.v_make, Ly.k_mk, Ly.v_fldset, Ly.k_fs, Ly.v_fldaug, Ly.k_fa2, Ly.look1, List.mem_cons, List.not_mem_nil, or_false, true_or, or_true, mul_n (show Z < 4294967296 by omega), mul_n (show W < 4294967296 by omega), oMul_int (mulok_r (i := ((E * Z * W : Nat) : Int)) (show (2 : Int).natAbs < 2 ^ 64 by decide)), is_next, -v_seq]
  refine nx h.dr (by omega) fun a S1 ha dr1 k1 _ => ?_
  have hI := h.next dr1 k1
  have hline : a / m.line < E * W * 2 := by
    rw [hk.l]
    refine Nat.div_lt_of_lt_mul ?_
    have : Z * (E * W * 2) = E * Z * W * 2 := by rw [← Nat.mul_assoc, ← Nat.mul_assoc, Nat.mul_comm Z E]
    omega
  simp_arith [Ly.v_fld, Ly.v_meth, Ly.k_me2, Ly.v_make, Ly.k_mk, Ly.v_fldset, Ly.k_fs, Ly.v_fldaug, Ly.k_fa2, Ly.look1, List.mem_cons, List.not_mem_nil, or_false, true_or, or_true, is_next]
  refine nx hI.dr (by decide) fun b S2 hb dr2 k2 _ => ?_
  have hI2 := hI.next dr2 k2
  by_cases hb0 : (b : Int) = 0
  · simp_arith [Ly.v_fld, Ly.v_meth, Ly.k_me2, Ly.v_make, Ly.k_mk, Ly.v_fldset, Ly.k_fs, Ly.v_fldaug, Ly.k_fa2, Ly.look1, List.mem_cons, List.not_mem_nil, or_false, true_or, or_true, oEq_int, hb0, kMethC hI2.c.o (show "drop" ≠ "sets" by decide) (by decide) (by decide) (by decide) (by decide), is_drop]
    refine Wp.call (drop_ok (ad := a) hI2.c) ?_
    rintro _ S3 ⟨rfl, c3, k3, _⟩
    simp_arith [Ly.v_fld, Ly.v_meth, Ly.k_me2, Ly.v_make, Ly.k_mk, Ly.v_fldset, Ly.k_fs, Ly.v_fldaug, Ly.k_fa2, Ly.look1, List.mem_cons, List.not_mem_nil, or_false, true_or, or_true]
    exact ⟨_, _, rfl, hI2.upd c3 k3, hk.drop, hl.drop hk, ((k1.trans k2).sub (by simp)).trans (k3.sub fun x hx _ => List.mem_cons_of_mem _ hx)⟩
  · simp_arith [Ly.v_fld, Ly.v_meth, Ly.k_me2, Ly.v_make, Ly.k_mk, Ly.v_fldset, Ly.k_fs, Ly.v_fldaug, Ly.k_fa2, Ly.look1, List.mem_cons, List.not_mem_nil, or_false, true_or, or_true, oEq_int, hb0, kMethC hI2.c.o (show "touch" ≠ "sets" by decide) (by decide) (by decide) (by decide) (by decide), is_touch]
    refine Wp.call (touch_ok (ad := a) hI2.c) ?_
    rintro _ S3 ⟨rfl, c3, k3, _⟩
    simp_arith [Ly.v_fld, Ly.v_meth, Ly.k_me2, Ly.v_make, Ly.k_mk, Ly.v_fldset, Ly.k_fs, Ly.v_fldaug, Ly.k_fa2, Ly.look1, List.mem_cons, List.not_mem_nil, or_false, true_or, or_true]
    exact ⟨_, _, rfl, hI2.upd c3 k3, hk.touch, hl.touch hk hline, ((k1.trans k2).sub (by simp)).trans (k3.sub fun x hx _ => List.mem_cons_of_mem _ hx)⟩
theorem turn1 {dS : D} {pol : Str} {o9 o11 o12 o13 o14 : Option D} {t qp : Nat} (h : CI cA S i j d m) (hk : CK E W Z m) (hs : m.ps[k]? = some s) (hF : Fi kd k E W t s) (hq : S[qp]? = some (.lst ((Pt k E W t).map nD))) (hqd : qp ≠ i ∧ qp ≠ j ∧ qp ∉ d.fp) (h1 : E ≤ 64) (h2 : W ≤ 8) (h3 : Z ≤ 16) (hkE : k < E) (ht : t < 3 * W) :
    Wp NoX (lb__law_begun_1 cA (BL i d.c dS k E W Z pol (some (nD t)) o9 (some (.ref qp)) o11 o12 o13 o14) S) fun q S' => ∃ o11 m' s', q = .nx (BL i d.c dS k E W Z pol (some (nD t)) o9 (some (.ref qp)) o11 o12 o13 o14) ∧ CI cA S' i j d m' ∧ CK E W Z m' ∧ m'.ps[k]? = some s' ∧ Fi kd k E W (t + 1) s' ∧ S'[qp]? = some (.lst ((Pt k E W (t + 1)).map nD)) ∧ Kp (qp :: d.fp) S S' := by
  unfold lb__law_begun_1 BL
  have hwf : s.wf W k E := by have := hk.wf.ps _ _ hs; rw [hk.s, hk.w] at this; exact this
  have hwo : WayOk W := by rw [← hk.w]; exact hk.wf.w
  obtain ⟨hfresh, hF'⟩ := hF.step hwf hkE hwo ht
  have hmod : ln k E W t % m.sets = k := by rw [hk.s]; exact ln_mod hkE
  obtain ⟨hps, hhas⟩ := ck_touch hk hs hmod
  have hp3 : 0 < Z := by rw [← hk.l]; exact hk.wf.l0
  have hdiv : ln k E W t * Z / m.line = ln k E W t := by rw [hk.l]; exact Nat.mul_div_cancel _ hp3
  have b1 : 2 * W + t ≤ 40 := by omega
  have b2 : E * (2 * W + t) ≤ 64 * 40 := Nat.mul_le_mul h1 b1
  have ea : ((k : Nat) : Int) + ((E * (2 * W + t) : Nat) : Int) = ((ln k E W t : Nat) : Int) := by unfold ln; omega
  have e2w : oMul (.int 2) (nD W) S = .ok (nD (2 * W)) S := mul_n (a := 2) (by omega)
  have hlen : ((Pt k E W t).map nD).length < sizeLine := by rw [List.length_map, pt_len]; exact line_big (by omega)
  rw [v_seq]
  simp_arith [Ly.v_fld, Ly.v_meth, Ly.k_me2, Ly.v_make, Ly.k_mk, Ly.v_fldset, Ly.k_fs, Ly.v_fldaug, Ly.k_fa2, Ly.look1, List.mem_cons, List.not_mem_nil, or_false, true_or, or_true, e2w, oAdd_int, add_n, mul_n (a := E) (b := 2 * W + t) (by omega), ea, -v_seq]
  simp_arith [Ly.v_fld, Ly.v_meth, Ly.k_me2, Ly.v_make, Ly.k_mk, Ly.v_fldset, Ly.k_fs, Ly.v_fldaug, Ly.k_fa2, Ly.look1, List.mem_cons, List.not_mem_nil, or_false, true_or, or_true, mul_n (a := ln k E W t) (show Z < 4294967296 by omega), kMethC h.c.o (show "touch" ≠ "sets" by decide) (by decide) (by decide) (by decide) (by decide), is_touch]
  refine Wp.call (touch_ok (ad := ln k E W t * Z) h.c) ?_
  rintro _ S1 ⟨rfl, c1, k1, _⟩
  rw [hdiv] at c1 ⊢
  rw [hhas, decide_eq_false hfresh]
  have hI := h.upd c1 k1
  have hq1 := k1.get hq hqd.2.2
  simp_arith [Ly.v_fld, Ly.v_meth, Ly.k_me2, Ly.v_make, Ly.k_mk, Ly.v_fldset, Ly.k_fs, Ly.v_fldaug, Ly.k_fa2, Ly.look1, List.mem_cons, List.not_mem_nil, or_false, true_or, or_true, oTru_bl, hasTy_lst hq1, oAppend_lst hq1 hlen]
  have k2 : Kp [qp] S1 (S1.set qp (.lst ((Pt k E W t).map nD ++ [nD (ln k E W t)]))) := Kp.set (by simp)
  refine ⟨_, _, _, rfl, hI.kp k2 (fun y hy => by rw [List.mem_singleton.mp hy]; exact hqd), hk.touch, hps, hF', ?_, (k1.sub fun x hx _ => List.mem_cons_of_mem _ hx).trans (k2.sub (by simp))⟩
  rw [get_put hq1, pt_succ]; simp
structure Hi (kd : Option Bool) (Q : List Nat) (w : Nat) (pl1 : List (Option Nat)) (s : PSet) (T : List Nat) : Prop where
  pl : s.pl = pl1
  bd : s.od.bd
  kd' : s.od.kd = kd
  perm : (T.filter fun y => decide (y ∈ Q)).Perm Q
  tl1 : ∀ as now, s.od = .ages true as now → Tl s as (T.filter fun y => decide (y ∈ Q)) w
  tl2 : ∀ as now, s.od = .ages false as now → Tl s as Q w
theorem Hi.hit {Q T : List Nat} {w sets x : Nat} {pl1 : List (Option Nat)} (h : Hi kd Q w pl1 s T) (hw : s.wf w k sets) (hwo : WayOk w) (hn : Q.Nodup) (hQ : ∀ l, some l ∈ pl1 ↔ l ∈ Q) (hx : x ∈ Q) : Hi kd Q w pl1 (s.touch x) (T.filter (fun y => decide (y ≠ x)) ++ [x]) := by
  have hm : some x ∈ s.pl := by rw [h.pl]; exact (hQ x).mpr hx
  have hpl : (s.touch x).pl = s.pl := by unfold PSet.touch; simp only [if_pos hm]
  have hfil : (T.filter (fun y => decide (y ≠ x)) ++ [x]).filter (fun y => decide (y ∈ Q)) = (T.filter fun y => decide (y ∈ Q)).filter (fun y => decide (y ≠ x)) ++ [x] := by
    rw [List.filter_append, List.filter_filter, List.filter_filter]
    congr 1
    · congr 1; funext y; exact Bool.and_comm _ _
    · simp [hx]
  have hxT : x ∈ T.filter fun y => decide (y ∈ Q) := h.perm.mem_iff.mpr hx
  have hnT : (T.filter fun y => decide (y ∈ Q)).Nodup := h.perm.nodup_iff.mpr hn
  refine ⟨hpl.trans h.pl, touch_bd h.bd, by rw [touch_kd]; exact h.kd', ?_, ?_, ?_⟩
  · rw [hfil]
    refine List.Perm.trans ?_ h.perm
    have e1 : (T.filter fun y => decide (y ∈ Q)).filter (fun y => decide (y ≠ x)) = (T.filter fun y => decide (y ∈ Q)).erase x := by
      rw [hnT.erase_eq_filter]
      congr 1; funext y; by_cases e : y = x <;> simp [e]
    rw [e1]
    exact (List.perm_append_comm (l₁ := _) (l₂ := [x])).trans (List.perm_cons_erase hxT).symm
  · intro as now ho
    rw [hfil]
    cases hod : s.od with
    | ptrs w' ss =>
      have : (s.touch x).od.kd = none := by rw [touch_kd, hod]; rfl
      rw [ho] at this; cases this
    | ages bt0 as0 now0 =>
      have hk : some bt0 = some true := by
        have : (s.touch x).od.kd = some bt0 := by rw [touch_kd, hod]; rfl
        rw [ho] at this; exact this.symm
      cases hk
      have hto : (s.touch x).od = .ages true (as0.set (s.place x) (now0 + 1)) (now0 + 1) := by
        unfold PSet.touch; simp only [hod, Od.note, Bool.or_true, if_true]
      rw [hto] at ho
      cases ho
      have hbd : ∀ a ∈ as0, a ≤ now0 := by have := h.bd; rw [hod] at this; exact this
      exact tl_hit hw hwo hod hbd (h.tl1 _ _ hod) hxT
  · intro as now ho
    cases hod : s.od with
    | ptrs w' ss =>
      have : (s.touch x).od.kd = none := by rw [touch_kd, hod]; rfl
      rw [ho] at this; cases this
    | ages bt0 as0 now0 =>
      have hk : some bt0 = some false := by
        have : (s.touch x).od.kd = some bt0 := by rw [touch_kd, hod]; rfl
        rw [ho] at this; exact this.symm
      cases hk
      have hto : (s.touch x).od = .ages false as0 now0 := by
        unfold PSet.touch; simp only [hod, decide_eq_true hm, Bool.not_true, Od.note, Bool.or_false, Bool.false_eq_true, if_false]
      rw [hto] at ho
      cases ho
      have := h.tl2 _ _ hod
      exact ⟨this.nd, by rw [hpl]; exact this.held, by unfold At; rw [hpl]; exact this.pw, by unfold At; rw [hpl]; exact this.old⟩
theorem turn2 {dS : D} {pol : Str} {o9 o11 o14 : Option D} {t qp qt N : Nat} {Q T : List Nat} {pl1 : List (Option Nat)} (h : CI cA S i j d m) (hk : CK E W Z m) (hs : m.ps[k]? = some s) (hH : Hi kd Q W pl1 s T) (hn : Q.Nodup) (hQ : ∀ l, some l ∈ pl1 ↔ l ∈ Q) (hfull : none ∉ pl1) (hlow : ∀ x ∈ Q, x < 4000000000) (hq : S[qt]? = some (.lst (T.map nD))) (hqd : qt ∉ d.fp ∧ qt ≠ i) (hTn : T.length ≤ N) (hN : N ≤ 1000) (h1 : E ≤ 64) (h2 : W ≤ 8) (h3 : Z ≤ 16) (hkE : k < E) (hqi : i ∉ d.fp) :
    Wp NoX (lb__law_begun_2 cA (BL i d.c dS k E W Z pol (some (nD t)) o9 (some (.ref qp)) o11 (some (.tup (pl1.map plD))) (some (.ref qt)) o14) S) fun q S' => ∃ o11 m' s' qt' T', q = .nx (BL i d.c dS k E W Z pol (some (nD t)) o9 (some (.ref qp)) o11 (some (.tup (pl1.map plD))) (some (.ref qt')) o14) ∧ CI cA S' i j d m' ∧ CK E W Z m' ∧ m'.ps[k]? = some s' ∧ Hi kd Q W pl1 s' T' ∧ S'[qt']? = some (.lst (T'.map nD)) ∧ (qt' ∉ d.fp ∧ qt' ≠ i) ∧ T'.length ≤ N + 1 ∧ Kp (i :: d.fp) S S' := by
  unfold lb__law_begun_2 BL
  have hwf : s.wf W k E := by have := hk.wf.ps _ _ hs; rw [hk.s, hk.w] at this; exact this
  have hwo : WayOk W := by rw [← hk.w]; exact hk.wf.w
  have hp3 : 0 < Z := by rw [← hk.l]; exact hk.wf.l0
  have hwp := hwo.pos
  have hpl1 : pl1.length = W := by rw [← hH.pl]; exact hwf.len
  rw [v_seq]
  simp_arith [Ly.v_fld, Ly.v_meth, Ly.k_me2, Ly.v_make, Ly.k_mk, Ly.v_fldset, Ly.k_fs, Ly.v_fldaug, Ly.k_fa2, Ly.look1, List.mem_cons, List.not_mem_nil, or_false, true_or, or_true, is_next, -v_seq]
  refine nx h.dr (by omega) fun p S1 hp dr1 k1 _ => ?_
  have hI := h.next dr1 k1
  have hpw : p < pl1.length := by omega
  obtain ⟨x, hx⟩ : ∃ x, pl1[p] = some x := by
    cases hx : pl1[p] with
    | none => exact absurd (hx ▸ List.getElem_mem hpw) hfull
    | some x => exact ⟨x, rfl⟩
  have hxm : some x ∈ pl1 := hx ▸ List.getElem_mem hpw
  have hxQ := (hQ x).mp hxm
  have hix : oIx (.tup (pl1.map plD)) (nD p) S1 = .ok (nD x) S1 := oIx_tup (by rw [List.getElem?_map, List.getElem?_eq_getElem hpw, hx]; rfl)
  have hmod : x % m.sets = k := by
    obtain ⟨q, hq2⟩ := at_mem.mp (by rw [hH.pl]; exact hxm : some x ∈ s.pl)
    rw [hk.s]; exact hwf.own q x hq2
  obtain ⟨hps, hhas⟩ := ck_touch hk hs hmod
  simp_arith [Ly.v_fld, Ly.v_meth, Ly.k_me2, Ly.v_make, Ly.k_mk, Ly.v_fldset, Ly.k_fs, Ly.v_fldaug, Ly.k_fa2, Ly.look1, List.mem_cons, List.not_mem_nil, or_false, true_or, or_true, hix, -v_seq]
  rw [v_seq]
  simp_arith [Ly.v_fld, Ly.v_meth, Ly.k_me2, Ly.v_make, Ly.k_mk, Ly.v_fldset, Ly.k_fs, Ly.v_fldaug, Ly.k_fa2, Ly.look1, List.mem_cons, List.not_mem_nil, or_false, true_or, or_true, kMethC hI.c.o (show "touch" ≠ "sets" by decide) (by decide) (by decide) (by decide) (by decide), mul_n (a := x) (show Z < 4294967296 by omega), is_next, -v_seq]
  refine nx (many := (Z : Int)) hI.dr (by omega) fun r S2 hr dr2 k2 _ => ?_
  have hI2 := hI.next dr2 k2
  have hdiv : (x * Z + r) / m.line = x := by
    rw [hk.l, Nat.mul_comm, Nat.mul_add_div hp3, Nat.div_eq_of_lt (by omega), Nat.add_zero]
  simp_arith [Ly.v_fld, Ly.v_meth, Ly.k_me2, Ly.v_make, Ly.k_mk, Ly.v_fldset, Ly.k_fs, Ly.v_fldaug, Ly.k_fa2, Ly.look1, List.mem_cons, List.not_mem_nil, or_false, true_or, or_true, oAdd_int, add_n, is_touch, -v_seq]
  refine Wp.call (touch_ok (ad := x * Z + r) hI2.c) ?_
  rintro _ S3 ⟨rfl, c3, k3, _⟩
  rw [hdiv] at c3 ⊢
  rw [hhas, decide_eq_true (by rw [hH.pl]; exact hxm)]
  have hI3 := hI2.upd c3 k3
  have hq3 := k3.get (k2.get (k1.get hq (by simpa using hqd.2)) (by simpa using hqd.2)) hqd.1
  have hq3l := Real.lt hq3
  simp_arith [Ly.v_fld, Ly.v_meth, Ly.k_me2, Ly.v_make, Ly.k_mk, Ly.v_fldset, Ly.k_fs, Ly.v_fldaug, Ly.k_fa2, Ly.look1, List.mem_cons, List.not_mem_nil, or_false, true_or, or_true, oTru_bl, oIt_lst hq3, wipe1]
  refine lc_pure nD (xs := T) (fun y => if y ≠ x then some (nD y) else none) ?_ (by omega) ?_ ?_
  · intro S' k' n hn
    have := k'.get hq3 (by simp)
    simp [itGo, seqAt, seqD, this]
  · intro y hy S' _
    refine ⟨_, rfl, ?_⟩
    by_cases hyx : y = x
    · simp_arith [Ly.v_fld, Ly.v_meth, Ly.k_me2, Ly.v_make, Ly.k_mk, Ly.v_fldset, Ly.k_fs, Ly.v_fldaug, Ly.k_fa2, Ly.look1, List.mem_cons, List.not_mem_nil, or_false, true_or, or_true, oNe_int, hyx]; exact ⟨Kp.refl, by simp⟩
    · have : ¬ ((y : Nat) : Int) = ((x : Nat) : Int) := by omega
      simp_arith [Ly.v_fld, Ly.v_meth, Ly.k_me2, Ly.v_make, Ly.k_mk, Ly.v_fldset, Ly.k_fs, Ly.v_fldaug, Ly.k_fa2, Ly.look1, List.mem_cons, List.not_mem_nil, or_false, true_or, or_true, oNe_int, this]; exact ⟨Kp.refl, Kp.refl, by simp [hyx]⟩
  intro S4 g4 k4
  have eT : (T.filterMap fun y => if y ≠ x then some (nD y) else none) = (T.filter fun y => decide (y ≠ x)).map nD := by
    clear hH hTn hq hq3 g4
    induction T with
    | nil => rfl
    | cons y T ih =>
      rw [List.filterMap_cons, List.filter_cons, ih]
      by_cases hyx : y = x <;> simp [hyx]
  rw [eT] at g4
  have hTl : (T.filter fun y => decide (y ≠ x)).length ≤ N := Nat.le_trans (List.length_filter_le _ _) hTn
  have g5 : (S4 ++ [O.lst [nD x]])[S3.length]? = some (.lst ((T.filter fun y => decide (y ≠ x)).map nD)) := by rw [List.getElem?_append_left (Real.lt g4)]; exact g4
  have hadd := oAdd_lst g5 (q := S4.length) (es := [nD x]) (by simp) (Nat.le_of_lt (line_big (by simp only [List.length_map, List.length_singleton]; omega)))
  simp_arith [Ly.v_fld, Ly.v_meth, Ly.k_me2, Ly.v_make, Ly.k_mk, Ly.v_fldset, Ly.k_fs, Ly.v_fldaug, Ly.k_fa2, Ly.look1, List.mem_cons, List.not_mem_nil, or_false, true_or, or_true, hadd]
  have hI4 := hI3.new k4
  have hI5 := (hI4.new (Kp.new : Kp [] S4 (S4 ++ [O.lst [nD x]]))).new (Kp.new : Kp [] _ ((S4 ++ [O.lst [nD x]]) ++ [O.lst ((T.filter fun y => decide (y ≠ x)).map nD ++ [nD x])]))
  have hH' := hH.hit hwf hwo hn hQ hxQ
  have hlt5 : ∀ y, y ∈ i :: d.fp → y < S3.length := by
    intro y hy
    rcases List.mem_cons.mp hy with rfl | hy
    · exact hI3.dr.lt
    · obtain ⟨n, hn⟩ := List.getElem?_of_mem hy
      exact hI3.c.fp_lt _ hy
  refine ⟨_, _, _, _, _, rfl, hI5, hk.touch, hps, hH', ?_, ?_, ?_, ?_⟩
  · rw [List.length_append, List.length_singleton]
    have : (S4 ++ [O.lst [nD x]]).length = S4.length + 1 := by simp
    rw [← this]
    simp
  · have hl4 := k4.le
    refine ⟨fun hm => ?_, fun e => ?_⟩
    · have := hlt5 _ (List.mem_cons_of_mem _ hm); simp at this; omega
    · have := hlt5 i (by simp); simp at e; omega
  · simp only [List.length_append, List.length_singleton]; omega
  · exact ((((k1.trans k2).sub (by simp)).trans (k3.sub fun x hx _ => List.mem_cons_of_mem _ hx)).trans (k4.sub (by simp))).app.app
theorem filt_lc {T : List Nat} {q : Nat} {pl1 : List (Option Nat)} {Q : List Nat} {o0 o1 o2 o3 o4 o5 o6 o7 o8 o9 o10 o11 o13 o14 : Option D} {P : D → Hs → Prop} (hq : S[q]? = some (.lst (T.map nD))) (hT : T.length ≤ 10000) (hQ : ∀ l, some l ∈ pl1 ↔ l ∈ Q) (hd : ∀ S', S'[S.length]? = some (.lst ((T.filter fun y => decide (y ∈ Q)).map nD)) → Kp [] S S' → P (.ref S.length) S') :
    Wp NoX (cLoop (.lst q) (cN 14) (mCmp oIn (mVar 14) (mVar 12)) (mVar 14) [o0, o1, o2, o3, o4, o5, o6, o7, o8, o9, o10, o11, some (.tup (pl1.map plD)), o13, o14] S.length 0 (S ++ [.lst []])) P := by
  refine lc_pure nD (xs := T) (fun y => if y ∈ Q then some (nD y) else none) ?_ (by omega) ?_ ?_
  · intro S' k' n hn
    have := k'.get hq (by simp)
    simp [itGo, seqAt, seqD, this]
  · intro y hy S' _
    refine ⟨_, rfl, ?_⟩
    by_cases hyx : y ∈ Q
    · simp_arith [Ly.v_fld, Ly.v_meth, Ly.k_me2, Ly.v_make, Ly.k_mk, Ly.v_fldset, Ly.k_fs, Ly.v_fldaug, Ly.k_fa2, Ly.look1, List.mem_cons, List.not_mem_nil, or_false, true_or, or_true, pl_inT, hQ, hyx]; exact ⟨Kp.refl, Kp.refl⟩
    · simp_arith [Ly.v_fld, Ly.v_meth, Ly.k_me2, Ly.v_make, Ly.k_mk, Ly.v_fldset, Ly.k_fs, Ly.v_fldaug, Ly.k_fa2, Ly.look1, List.mem_cons, List.not_mem_nil, or_false, true_or, or_true, pl_inT, hQ, hyx]; exact Kp.refl
  intro S4 g4 k4
  have eT : (T.filterMap fun y => if y ∈ Q then some (nD y) else none) = (T.filter fun y => decide (y ∈ Q)).map nD := by
    clear hT hq g4 hd
    induction T with
    | nil => rfl
    | cons y T ih =>
      rw [List.filterMap_cons, List.filter_cons, ih]
      by_cases hyx : y ∈ Q <;> simp [hyx]
  rw [eT] at g4
  exact hd S4 g4 k4
theorem pt_drop_filter (hE : 0 < E) : (Pt k E W (3 * W)).filter (fun y => decide (y ∈ (Pt k E W (3 * W)).drop (2 * W))) = (Pt k E W (3 * W)).drop (2 * W) := by
  have hn := pt_nodup (k := k) (w := W) (t := 3 * W) hE
  generalize Pt k E W (3 * W) = L at hn
  generalize 2 * W = n
  have e : L = L.take n ++ L.drop n := (List.take_append_drop n L).symm
  have hn2 := hn
  rw [e, List.nodup_append] at hn2
  conv => lhs; arg 2; rw [e]
  rw [List.filter_append]
  have h1 : (L.take n).filter (fun y => decide (y ∈ L.drop n)) = [] := by
    rw [List.filter_eq_nil_iff]
    intro x hx
    have := hn2.2.2 x hx
    simp only [decide_eq_true_eq]
    intro hc
    exact this x hc rfl
  have h2 : (L.drop n).filter (fun y => decide (y ∈ L.drop n)) = L.drop n := by
    rw [List.filter_eq_self]
    intro x hx; simpa using hx
  rw [h1, h2, List.nil_append]
structure Due (kd : Option Bool) (k E W : Nat) (s : PSet) (O : List Nat) : Prop where
  nd : O.Nodup
  len : O.length = W
  mem : ∀ l, some l ∈ s.pl ↔ l ∈ O
  full : none ∉ s.pl
  bd : s.od.bd
  kd' : s.od.kd = kd
  tl : ∀ bt as now, s.od = .ages bt as now → Tl s as O W
  form : ∀ x ∈ O, ∃ t, t < 3 * W ∧ x = ln k E W t
theorem begun_ok {dS : D} {pol : Str} (hdS : dS = .tup [nD E, nD W, nD Z, .str pol]) (h : CI cA S i j d m) (hk : CK E W Z m) (hl : Low kd E W m) (h1 : E ≤ 64) (h2 : W ≤ 8) (h3 : Z ≤ 16) (hkE : k < E) (hpol : (pol = "fifo" → kd = some false) ∧ (pol ≠ "fifo" → kd ≠ some false)) :
    Wp NoX (m__law_begun cA [.ref i, .ref d.c, dS, nD k] S) fun v S' => ∃ qo O m' s', v = .ref qo ∧ S'[qo]? = some (.lst (O.map nD)) ∧ CI cA S' i j d m' ∧ CK E W Z m' ∧ m'.ps[k]? = some s' ∧ Due kd k E W s' O ∧ (qo ∉ d.fp ∧ qo ≠ i ∧ qo ≠ j) ∧ Kp (i :: d.fp) S S' := by
  refine wp_def0 rfl ?_
  unfold b__law_begun
  have p1 : 0 < E := by omega
  have p2 : 0 < W := by rw [← hk.w]; exact hk.wf.w.pos
  have p3 : 0 < Z := by rw [← hk.l]; exact hk.wf.l0
  have hwo : WayOk W := by rw [← hk.w]; exact hk.wf.w
  rw [v_seq]
  simp_arith [Ly.v_fld, Ly.v_meth, Ly.k_me2, Ly.v_make, Ly.k_mk, Ly.v_fldset, Ly.k_fs, Ly.v_fldaug, Ly.k_fa2, Ly.look1, List.mem_cons, List.not_mem_nil, or_false, true_or, or_true, hdS, v_gT, -v_seq]
  rw [v_seq, ← hdS]
  simp_arith [Ly.v_fld, Ly.v_meth, Ly.k_me2, Ly.v_make, Ly.k_mk, Ly.v_fldset, Ly.k_fs, Ly.v_fldaug, Ly.k_fa2, Ly.look1, List.mem_cons, List.not_mem_nil, or_false, true_or, or_true, is_next, -v_seq]
  refine nx (many := (40 : Int)) h.dr (by decide) fun n0 S1 hn0 dr1 k1 _ => ?_
  have hI := h.next dr1 k1
  simp_arith [Ly.v_fld, Ly.v_meth, Ly.k_me2, Ly.v_make, Ly.k_mk, Ly.v_fldset, Ly.k_fs, Ly.v_fldaug, Ly.k_fa2, Ly.look1, List.mem_cons, List.not_mem_nil, or_false, true_or, or_true, rng1 (n := (n0 : Int)) _ (by omega) (by omega), Int.toNat_natCast, -v_seq]
  refine wp_rng (fun t lv S' => ∃ o8 o9 o11 o12 o13 o14 m', lv = BL i d.c dS k E W Z pol o8 o9 none o11 o12 o13 o14 ∧ CI cA S' i j d m' ∧ CK E W Z m' ∧ Low kd E W m' ∧ Kp (i :: d.fp) S S') ⟨none, none, none, none, none, none, m, rfl, hI, hk, hl, k1.sub (by simp)⟩ ?_ ?_
  · rintro t lv S2 ht ⟨o8, o9, o11, o12, o13, o14, m2, rfl, hI2, hk2, hl2, kk⟩
    have := turn0 (k := k) (dS := dS) (pol := pol) (o8 := some (.int (0 + (t : Int)))) (o9 := o9) (o10 := none) (o11 := o11) (o12 := o12) (o13 := o13) (o14 := o14) hI2 hk2 hl2 h1 h2 h3 p1 p2 p3
    unfold BL at this ⊢
    simp_arith [Ly.v_fld, Ly.v_meth, Ly.k_me2, Ly.v_make, Ly.k_mk, Ly.v_fldset, Ly.k_fs, Ly.v_fldaug, Ly.k_fa2, Ly.look1, List.mem_cons, List.not_mem_nil, or_false, true_or, or_true]
    refine this.mono (fun _ _ _ _ h => h) ?_
    rintro q S3 ⟨o9', m3, rfl, hI3, hk3, hl3, k3⟩
    rw [k_tu_nx]
    exact ⟨_, _, _, _, _, _, m3, rfl, hI3, hk3, hl3, kk.trans k3⟩
  rintro lv S2 ⟨o8, o9, o11, o12, o13, o14, m2, rfl, hI2, hk2, hl2, kk2⟩
  unfold BL
  simp_arith [Ly.v_fld, Ly.v_meth, Ly.k_me2, Ly.v_make, Ly.k_mk, Ly.v_fldset, Ly.k_fs, Ly.v_fldaug, Ly.k_fa2, Ly.look1, List.mem_cons, List.not_mem_nil, or_false, true_or, or_true, -v_seq]
  rw [v_seq]
  simp_arith [Ly.v_fld, Ly.v_meth, Ly.k_me2, Ly.v_make, Ly.k_mk, Ly.v_fldset, Ly.k_fs, Ly.v_fldaug, Ly.k_fa2, Ly.look1, List.mem_cons, List.not_mem_nil, or_false, true_or, or_true, -v_seq]
  rw [v_seq]
  have hlt2 : ∀ y ∈ d.fp, y < S2.length := fun y hy => hI2.c.fp_lt _ hy
  have hilt := hI2.dr.lt
  have hjlt := hI2.dr.ltj
  have e3 : oMul (.int 3) (nD W) (S2 ++ [O.lst []]) = .ok (nD (3 * W)) (S2 ++ [O.lst []]) := mul_n (a := 3) (by omega)
  simp_arith [Ly.v_fld, Ly.v_meth, Ly.k_me2, Ly.v_make, Ly.k_mk, Ly.v_fldset, Ly.k_fs, Ly.v_fldaug, Ly.k_fa2, Ly.look1, List.mem_cons, List.not_mem_nil, or_false, true_or, or_true, e3, rng1 (n := ((3 * W : Nat) : Int)) _ (by omega) (by omega), Int.toNat_natCast, -v_seq]
  have hkl : k < m2.ps.length := by rw [hk2.wf.len, hk2.s]; exact hkE
  have hs2 := List.getElem?_eq_getElem hkl
  have hsm := List.getElem_mem hkl
  generalize m2.ps[k] = s2 at hs2 hsm
  have hF0 : Fi kd k E W 0 s2 := by
    have hwf : s2.wf W k E := by have := hk2.wf.ps _ _ hs2; rw [hk2.s, hk2.w] at this; exact this
    refine ⟨hl2.bd _ hsm, hl2.kd _ hsm, fun l hl => .inl (hl2.lo _ hsm l hl), fun _ => ?_, fun bt as now _ => by simpa [Pt] using tl_nil, fun hc => by omega⟩
    rw [Nat.add_zero, ← hwf.len]; exact List.countP_le_length
  have hqd : S2.length ≠ i ∧ S2.length ≠ j ∧ S2.length ∉ d.fp := ⟨by omega, by omega, fun hm => by have := hlt2 _ hm; omega⟩
  refine wp_rng (fun t lv S' => ∃ o8 o9 o11 o12 o13 o14 m' s', lv = BL i d.c dS k E W Z pol o8 o9 (some (.ref S2.length)) o11 o12 o13 o14 ∧ CI cA S' i j d m' ∧ CK E W Z m' ∧ m'.ps[k]? = some s' ∧ Fi kd k E W t s' ∧ S'[S2.length]? = some (.lst ((Pt k E W t).map nD)) ∧ Kp (i :: d.fp) S S') ⟨o8, o9, o11, o12, o13, o14, m2, s2, rfl, hI2.new Kp.new, hk2, hs2, hF0, by simp [Pt], kk2.app⟩ ?_ ?_
  · rintro t lv S3 ht ⟨o8, o9, o11, o12, o13, o14, m3, s3, rfl, hI3, hk3, hs3, hF3, hq3, kk⟩
    have e0 : (0 : Int) + (t : Int) = ((t : Nat) : Int) := by omega
    have := turn1 (dS := dS) (pol := pol) (o9 := o9) (o11 := o11) (o12 := o12) (o13 := o13) (o14 := o14) hI3 hk3 hs3 hF3 hq3 hqd h1 h2 h3 hkE ht
    unfold BL at this ⊢
    rw [e0]
    simp_arith [Ly.v_fld, Ly.v_meth, Ly.k_me2, Ly.v_make, Ly.k_mk, Ly.v_fldset, Ly.k_fs, Ly.v_fldaug, Ly.k_fa2, Ly.look1, List.mem_cons, List.not_mem_nil, or_false, true_or, or_true]
    refine this.mono (fun _ _ _ _ h => h) ?_
    rintro q S4 ⟨o11', m4, s4, rfl, hI4, hk4, hs4, hF4, hq4, k4⟩
    rw [k_tu_nx]
    refine ⟨_, _, _, _, _, _, m4, s4, rfl, hI4, hk4, hs4, hF4, hq4, kk.after k4 fun y hy hl => ?_⟩
    rcases List.mem_cons.mp hy with rfl | hy
    · exact absurd hl (by have := kk2.le; omega)
    · exact List.mem_cons_of_mem _ hy
  rintro lv S3 ⟨o8, o9, o11, o12, o13, o14, m3, s3, rfl, hI3, hk3, hs3, hF3, hq3, kk3⟩
  have hwf3 : s3.wf W k E := by have := hk3.wf.ps _ _ hs3; rw [hk3.s, hk3.w] at this; exact this
  unfold BL
  simp_arith [Ly.v_fld, Ly.v_meth, Ly.k_me2, Ly.v_make, Ly.k_mk, Ly.v_fldset, Ly.k_fs, Ly.v_fldaug, Ly.k_fa2, Ly.look1, List.mem_cons, List.not_mem_nil, or_false, true_or, or_true, -v_seq]
  rw [v_seq]
  simp_arith [Ly.v_fld, Ly.v_meth, Ly.k_me2, Ly.v_make, Ly.k_mk, Ly.v_fldset, Ly.k_fs, Ly.v_fldaug, Ly.k_fa2, Ly.look1, List.mem_cons, List.not_mem_nil, or_false, true_or, or_true, kMethC hI3.c.o (show "places" ≠ "sets" by decide) (by decide) (by decide) (by decide) (by decide), is_places, -v_seq]
  refine Wp.call (places_ok hI3.c hs3) ?_
  rintro _ S3 ⟨rfl, rfl⟩
  obtain ⟨pl0, V, hR⟩ := hF3.vr (by omega)
  have hQlen : ((Pt k E W (3 * W)).drop (2 * W)).length = W := by rw [List.length_drop, pt_len]; omega
  have hQmem := hR.all hwf3 hQlen
  have hQn : ((Pt k E W (3 * W)).drop (2 * W)).Nodup := (pt_nodup p1).sublist (List.drop_sublist _ _)
  have hform : ∀ x ∈ (Pt k E W (3 * W)).drop (2 * W), ∃ t, t < 3 * W ∧ x = ln k E W t := fun x hx => by
    obtain ⟨t, ht, rfl⟩ := List.mem_map.mp (List.mem_of_mem_drop hx)
    exact ⟨t, List.mem_range.mp ht, rfl⟩
  have hlow : ∀ x ∈ (Pt k E W (3 * W)).drop (2 * W), x < 4000000000 := fun x hx => by
    obtain ⟨t, ht, rfl⟩ := hform x hx
    have : E * (2 * W + t) ≤ 64 * 40 := Nat.mul_le_mul h1 (by omega)
    unfold ln; omega
  have htl3 : ∀ bt as now, s3.od = .ages bt as now → Tl s3 as ((Pt k E W (3 * W)).drop (2 * W)) W := fun bt as now ho => by
    have := hF3.tl bt as now ho
    rw [show 3 * W - W = 2 * W by omega] at this
    exact this
  have hfil := pt_drop_filter (k := k) (W := W) p1
  simp_arith [Ly.v_fld, Ly.v_meth, Ly.k_me2, Ly.v_make, Ly.k_mk, Ly.v_fldset, Ly.k_fs, Ly.v_fldaug, Ly.k_fa2, Ly.look1, List.mem_cons, List.not_mem_nil, or_false, true_or, or_true, -v_seq]
  rw [v_seq]
  have hb : bList [.ref S2.length] S3 = .ok (.ref S3.length) (S3 ++ [O.lst ((Pt k E W (3 * W)).map nD)]) := by simp only [bList, hq3]
  simp_arith [Ly.v_fld, Ly.v_meth, Ly.k_me2, Ly.v_make, Ly.k_mk, Ly.v_fldset, Ly.k_fs, Ly.v_fldaug, Ly.k_fa2, Ly.look1, List.mem_cons, List.not_mem_nil, or_false, true_or, or_true, hb, -v_seq]
  rw [v_seq]
  have e2w : oMul (.int 2) (nD W) (S3 ++ [O.lst ((Pt k E W (3 * W)).map nD)]) = .ok (nD (2 * W)) (S3 ++ [O.lst ((Pt k E W (3 * W)).map nD)]) := mul_n (a := 2) (by omega)
  have hI3' := hI3.new (Kp.new : Kp [] S3 (S3 ++ [O.lst ((Pt k E W (3 * W)).map nD)]))
  simp_arith [Ly.v_fld, Ly.v_meth, Ly.k_me2, Ly.v_make, Ly.k_mk, Ly.v_fldset, Ly.k_fs, Ly.v_fldaug, Ly.k_fa2, Ly.look1, List.mem_cons, List.not_mem_nil, or_false, true_or, or_true, e2w, oAdd_int, add1, is_next, -v_seq]
  refine nx (many := ((2 * W + 1 : Nat) : Int)) hI3'.dr (by omega) fun n2 S4 hn2 dr4 k4 _ => ?_
  have hI4 := hI3'.next dr4 k4
  simp_arith [Ly.v_fld, Ly.v_meth, Ly.k_me2, Ly.v_make, Ly.k_mk, Ly.v_fldset, Ly.k_fs, Ly.v_fldaug, Ly.k_fa2, Ly.look1, List.mem_cons, List.not_mem_nil, or_false, true_or, or_true, rng1 (n := (n2 : Int)) _ (by omega) (by omega), Int.toNat_natCast, -v_seq]
  have hilt3 := hI3.dr.lt
  have hjlt3 := hI3.dr.ltj
  have hlt3 : ∀ y ∈ d.fp, y < S3.length := fun y hy => hI3.c.fp_lt _ hy
  have hg4 : S4[S3.length]? = some (.lst ((Pt k E W (3 * W)).map nD)) := k4.get get_end (by simp; omega)
  have hp4 : S4[S2.length]? = some (.lst ((Pt k E W (3 * W)).map nD)) := k4.get ((Kp.new : Kp [] S3 _).get hq3 (by simp)) (by simp; exact hqd.1)
  have hH0 : Hi kd ((Pt k E W (3 * W)).drop (2 * W)) W s3.pl s3 (Pt k E W (3 * W)) :=
    ⟨rfl, hF3.bd, hF3.kd, by rw [hfil], fun as now ho => by rw [hfil]; exact htl3 _ _ _ ho, fun as now ho => htl3 _ _ _ ho⟩
  generalize hQd : (Pt k E W (3 * W)).drop (2 * W) = Q at *
  have hfull3 := hR.full
  generalize hpl3 : s3.pl = pl1 at *
  refine wp_rng (fun t lv S' => ∃ o8 o9 o11 o14 qt m' s' T, lv = BL i d.c dS k E W Z pol o8 o9 (some (.ref S2.length)) o11 (some (.tup (pl1.map plD))) (some (.ref qt)) o14 ∧ CI cA S' i j d m' ∧ CK E W Z m' ∧ m'.ps[k]? = some s' ∧ Hi kd Q W pl1 s' T ∧ S'[qt]? = some (.lst (T.map nD)) ∧ (qt ∉ d.fp ∧ qt ≠ i) ∧ T.length ≤ 3 * W + t ∧ S'[S2.length]? = some (.lst ((Pt k E W (3 * W)).map nD)) ∧ Kp (i :: d.fp) S S') ⟨o8, o9, o11, o14, S3.length, m3, s3, Pt k E W (3 * W), rfl, hI4, hk3, hs3, hH0, hg4, ⟨fun hm => by have := hlt3 _ hm; omega, by omega⟩, by rw [pt_len]; omega, hp4, (kk3.app).trans (k4.sub (by simp))⟩ ?_ ?_
  · rintro t lv S5 ht ⟨o8, o9, o11, o14, qt, m5, s5, T, rfl, hI5, hk5, hs5, hH5, hq5, hqd5, hTn, hp5, kk⟩
    have e0 : (0 : Int) + (t : Int) = ((t : Nat) : Int) := by omega
    have := turn2 (dS := dS) (pol := pol) (t := t) (o9 := o9) (o11 := o11) (o14 := o14) (qp := S2.length) hI5 hk5 hs5 hH5 hQn hQmem hfull3 hlow hq5 hqd5 hTn (by omega) h1 h2 h3 hkE (fun hm => (hI5.bi _ hm).1 rfl)
    unfold BL at this ⊢
    rw [e0]
    simp_arith [Ly.v_fld, Ly.v_meth, Ly.k_me2, Ly.v_make, Ly.k_mk, Ly.v_fldset, Ly.k_fs, Ly.v_fldaug, Ly.k_fa2, Ly.look1, List.mem_cons, List.not_mem_nil, or_false, true_or, or_true]
    refine this.mono (fun _ _ _ _ h => h) ?_
    rintro q S6 ⟨o11', m6, s6, qt', T', rfl, hI6, hk6, hs6, hH6, hq6, hqd6, hTn6, k6⟩
    rw [k_tu_nx]
    exact ⟨_, _, _, _, _, m6, s6, T', rfl, hI6, hk6, hs6, hH6, hq6, hqd6, by omega, k6.get hp5 (fun hm => by
      rcases List.mem_cons.mp hm with hm | hm
      · exact hqd.1 hm
      · exact hqd.2.2 hm), kk.trans k6⟩
  rintro lv S5 ⟨o8, o9, o11, o14, qt, m5, s5, T, rfl, hI5, hk5, hs5, hH5, hq5, hqd5, hTn, hp5, kk⟩
  have hlt5 : ∀ y ∈ d.fp, y < S5.length := fun y hy => hI5.c.fp_lt _ hy
  have hilt5 := hI5.dr.lt
  have hjlt5 := hI5.dr.ltj
  have hend : S5.length ∉ d.fp ∧ S5.length ≠ i ∧ S5.length ≠ j := ⟨fun hm => by have := hlt5 _ hm; omega, by omega, by omega⟩
  unfold BL
  simp_arith [Ly.v_fld, Ly.v_meth, Ly.k_me2, Ly.v_make, Ly.k_mk, Ly.v_fldset, Ly.k_fs, Ly.v_fldaug, Ly.k_fa2, Ly.look1, List.mem_cons, List.not_mem_nil, or_false, true_or, or_true, -v_seq]
  rw [v_seq]
  by_cases hf : pol = "fifo"
  · have hkd := hpol.1 hf
    simp_arith [Ly.v_fld, Ly.v_meth, Ly.k_me2, Ly.v_make, Ly.k_mk, Ly.v_fldset, Ly.k_fs, Ly.v_fldaug, Ly.k_fa2, Ly.look1, List.mem_cons, List.not_mem_nil, or_false, true_or, or_true, hf, oEq_str, oIt_lst hp5, wipe1]
    refine filt_lc hp5 (by rw [pt_len]; omega) hQmem fun S6 g6 k6 => ?_
    rw [hfil] at g6
    refine ⟨_, _, m5, s5, rfl, g6, hI5.new k6, hk5, hs5, ⟨hQn, hQlen, by rw [hH5.pl]; exact hQmem, by rw [hH5.pl]; exact hfull3, hH5.bd, hH5.kd', fun bt as now ho => ?_, hform⟩, hend, kk.trans (k6.sub (by simp))⟩
    have hb2 : bt = false := by
      have := hH5.kd'
      rw [ho, hkd] at this
      exact Option.some.inj this
    subst hb2
    exact hH5.tl2 _ _ ho
  · have hkd := hpol.2 hf
    simp_arith [Ly.v_fld, Ly.v_meth, Ly.k_me2, Ly.v_make, Ly.k_mk, Ly.v_fldset, Ly.k_fs, Ly.v_fldaug, Ly.k_fa2, Ly.look1, List.mem_cons, List.not_mem_nil, or_false, true_or, or_true, hf, oEq_str, oIt_lst hq5, wipe1]
    refine filt_lc hq5 (by omega) hQmem fun S6 g6 k6 => ?_
    have hpm := hH5.perm
    refine ⟨_, _, m5, s5, rfl, g6, hI5.new k6, hk5, hs5, ⟨hpm.nodup_iff.mpr hQn, by rw [hpm.length_eq]; exact hQlen, fun l => by rw [hH5.pl, hQmem l]; exact hpm.mem_iff.symm, by rw [hH5.pl]; exact hfull3, hH5.bd, hH5.kd', fun bt as now ho => ?_, fun x hx => hform x (hpm.mem_iff.mp hx)⟩, hend, kk.trans (k6.sub (by simp))⟩
    have hb2 : bt = true := by
      have h9 := hH5.kd'
      rw [ho] at h9
      cases bt with
      | true => rfl
      | false => exact absurd h9.symm hkd
    subst hb2
    exact hH5.tl1 _ _ ho
theorem only_one {p0 : Nat} : ∀ {n : Nat}, (List.range n).filterMap (fun p => if p = p0 then some (nD p) else none) = if p0 < n then [nD p0] else []
  | 0 => by simp
  | n + 1 => by
    rw [List.range_succ, List.filterMap_append, only_one (n := n)]
    by_cases h : p0 < n
    · rw [if_pos h, if_pos (by omega)]
      have : ¬ n = p0 := by omega
      simp [this]
    · rw [if_neg h]
      by_cases h2 : n = p0
      · subst h2; simp
      · rw [if_neg (by omega)]; simp [h2]
theorem changed_ok {pl pl' : List (Option Nat)} {p0 : Nat} (hl : pl.length = W) (hl' : pl'.length = W) (hW : W ≤ 8) (hf : none ∉ pl) (hf' : none ∉ pl') (hp0 : p0 < W) (hd : ∀ p, p < W → (pl[p]? = pl'[p]? ↔ p ≠ p0)) :
    Wp NoX (m__law_changed [.tup (pl.map plD), .tup (pl'.map plD)] S) fun v S' => v = .ref S.length ∧ S'[S.length]? = some (.lst [nD p0]) ∧ Kp [] S S' := by
  refine wp_def0 rfl ?_
  unfold b__law_changed
  simp_arith [Ly.v_fld, Ly.v_meth, Ly.k_me2, Ly.v_make, Ly.k_mk, Ly.v_fldset, Ly.k_fs, Ly.v_fldaug, Ly.k_fa2, Ly.look1, List.mem_cons, List.not_mem_nil, or_false, true_or, or_true, bLen_tup, List.length_map, hl, rng1 (n := (W : Int)) _ (by omega) (by omega), Int.toNat_natCast, wipe1]
  refine lc_pure nD (xs := List.range W) (fun p => if p = p0 then some (nD p) else none) ?_ (by simp; omega) ?_ ?_
  · intro S' _ n hn
    simp only [List.length_range] at hn
    simp only [itGo]
    by_cases h : n < W
    · simp [h, nD]
    · simp [h]
  · intro p hp S' _
    have hp' := List.mem_range.mp hp
    refine ⟨_, rfl, ?_⟩
    have e1 := List.getElem?_eq_getElem (show p < pl.length by omega)
    have e2 := List.getElem?_eq_getElem (show p < pl'.length by omega)
    have m1 : pl[p]'(by omega) ∈ pl := List.getElem_mem _
    have m2 : pl'[p]'(by omega) ∈ pl' := List.getElem_mem _
    have hd' := hd p hp'
    rw [e1, e2] at hd'
    generalize pl[p]'(by omega) = a at *
    generalize pl'[p]'(by omega) = b at *
    cases a with
    | none => exact absurd m1 hf
    | some x =>
      cases b with
      | none => exact absurd m2 hf'
      | some y =>
        have i1 : oIx (.tup (pl.map plD)) (nD p) S' = .ok (nD x) S' := oIx_tup (by rw [List.getElem?_map, e1]; rfl)
        have i2 : oIx (.tup (pl'.map plD)) (nD p) S' = .ok (nD y) S' := oIx_tup (by rw [List.getElem?_map, e2]; rfl)
        by_cases hpp : p = p0
        · have hxy : ¬ ((x : Nat) : Int) = ((y : Nat) : Int) := by
            intro e
            have : x = y := by omega
            subst this
            exact (hd'.mp rfl) hpp
          simp_arith [Ly.v_fld, Ly.v_meth, Ly.k_me2, Ly.v_make, Ly.k_mk, Ly.v_fldset, Ly.k_fs, Ly.v_fldaug, Ly.k_fa2, Ly.look1, List.mem_cons, List.not_mem_nil, or_false, true_or, or_true, i1, i2, oNe_int, hxy]
          exact ⟨Kp.refl, Kp.refl, by simp [hpp]⟩
        · have hxy : x = y := by
            have := hd'.mpr hpp
            cases this; rfl
          subst hxy
          simp_arith [Ly.v_fld, Ly.v_meth, Ly.k_me2, Ly.v_make, Ly.k_mk, Ly.v_fldset, Ly.k_fs, Ly.v_fldaug, Ly.k_fa2, Ly.look1, List.mem_cons, List.not_mem_nil, or_false, true_or, or_true, i1, i2, oNe_int]
          exact ⟨Kp.refl, by simp [hpp]⟩
  · intro S1 g1 k1
    rw [only_one, if_pos hp0] at g1
    exact ⟨rfl, g1, k1⟩
def LL (o0 : Option D) (i cc : Nat) (dS : D) (k E W Z : Nat) (pol : Str) (qo qk : Nat) (o11 o12 o13 o14 : Option D) : Ls :=
  [o0, some (.ref i), some dS, some (nD E), some (nD W), some (nD Z), some (.str pol), some (.ref cc), some (nD k), some (.ref qo), some (.ref qk), o11, o12, o13, o14]
structure Ov (kd : Option Bool) (k E W : Nat) (O V : List Nat) (pl1 : List (Option Nat)) (ns : List Nat) (s : PSet) : Prop where
  r : Trn W pl1 V ns s
  bd : s.od.bd
  kd' : s.od.kd = kd
  tl : ∀ bt as now, s.od = .ages bt as now → Tl s as (O.drop ns.length ++ ns) W
  mem : ∀ l, some l ∈ s.pl → l ∈ O ∨ l ∈ ns
  form : ∀ x ∈ ns, ∃ a b, a < ns.length ∧ b ≤ 1 ∧ x = k + E * (9 * W + a + b * 100)
theorem turn3 {o0 o12 o13 o14 : Option D} {dS : D} {pol : Str} {t qo qk : Nat} {O V ns : List Nat} {pl1 : List (Option Nat)} (h : CI cA S i j d m) (hk : CK E W Z m) (hs : m.ps[k]? = some s) (hV : Ov kd k E W O V pl1 ns s) (hOn : O.Nodup) (hOl : O.length = W) (hOf : ∀ x ∈ O, ∃ t, t < 3 * W ∧ x = ln k E W t) (hq : S[qo]? = some (.lst (O.map nD))) (hqd : qo ∉ d.fp ∧ qo ≠ i ∧ qo ≠ qk) (hq2 : S[qk]? = some (.lst ((V.take t).map nD))) (hqd2 : qk ∉ d.fp ∧ qk ≠ i ∧ qk ≠ j) (h1 : E ≤ 64) (h2 : W ≤ 8) (h3 : Z ≤ 16) (hkE : k < E) (ht : ns.length = t) (htW : t < W) (hpol : pol ≠ "plru" → ∃ bt, kd = some bt) :
    Wp NoX (lb_law_0 cA (LL o0 i d.c dS k E W Z pol qo qk (some (nD t)) o12 o13 o14) S) fun q S' => ∃ o12 o13 o14 m' s' n, q = .nx (LL o0 i d.c dS k E W Z pol qo qk (some (nD t)) o12 o13 o14) ∧ CI cA S' i j d m' ∧ CK E W Z m' ∧ m'.ps[k]? = some s' ∧ Ov kd k E W O V pl1 (ns ++ [n]) s' ∧ S'[qo]? = some (.lst (O.map nD)) ∧ S'[qk]? = some (.lst ((V.take (t + 1)).map nD)) := by
  unfold lb_law_0 LL
  have hwf : s.wf W k E := by have := hk.wf.ps _ _ hs; rw [hk.s, hk.w] at this; exact this
  have hwo : WayOk W := by rw [← hk.w]; exact hk.wf.w
  have hp3 : 0 < Z := by rw [← hk.l]; exact hk.wf.l0
  have hW0 := hwo.pos
  have hE0 : 0 < E := by omega
  rw [v_seq]
  simp_arith [Ly.v_fld, Ly.v_meth, Ly.k_me2, Ly.v_make, Ly.k_mk, Ly.v_fldset, Ly.k_fs, Ly.v_fldaug, Ly.k_fa2, Ly.look1, List.mem_cons, List.not_mem_nil, or_false, true_or, or_true, kMethC h.c.o (show "places" ≠ "sets" by decide) (by decide) (by decide) (by decide) (by decide), is_places, -v_seq]
  refine Wp.call (places_ok h.c hs) ?_
  rintro _ S ⟨rfl, rfl⟩
  simp_arith [Ly.v_fld, Ly.v_meth, Ly.k_me2, Ly.v_make, Ly.k_mk, Ly.v_fldset, Ly.k_fs, Ly.v_fldaug, Ly.k_fa2, Ly.look1, List.mem_cons, List.not_mem_nil, or_false, true_or, or_true, -v_seq]
  rw [v_seq]
  have e9 : oMul (.int 9) (nD W) S = .ok (nD (9 * W)) S := mul_n (a := 9) (by omega)
  simp_arith [Ly.v_fld, Ly.v_meth, Ly.k_me2, Ly.v_make, Ly.k_mk, Ly.v_fldset, Ly.k_fs, Ly.v_fldaug, Ly.k_fa2, Ly.look1, List.mem_cons, List.not_mem_nil, or_false, true_or, or_true, e9, oAdd_int, add_n, is_next, -v_seq]
  refine nx (many := (2 : Int)) h.dr (by decide) fun b S1 hb dr1 k1 _ => ?_
  have hI := h.next dr1 k1
  have eb : oMul (nD b) (.int 100) S1 = .ok (nD (b * 100)) S1 := mul_n (b := 100) (by decide)
  have hb1 : b ≤ 1 := by omega
  have b2 : E * (9 * W + t + b * 100) ≤ 64 * 300 := Nat.mul_le_mul h1 (by omega)
  obtain ⟨n, hn⟩ : ∃ n, n = k + E * (9 * W + t + b * 100) := ⟨_, rfl⟩
  have hnb : n < 4000000000 := by omega
  have ea : ((k : Nat) : Int) + ((E * (9 * W + t + b * 100) : Nat) : Int) = ((n : Nat) : Int) := by omega
  have hmodE : n % E = k := by rw [hn, Nat.add_mul_mod_self_left, Nat.mod_eq_of_lt hkE]
  have hmod : n % m.sets = k := by rw [hk.s]; exact hmodE
  have hnO : n ∉ O := fun hc => by
    obtain ⟨t', ht', he⟩ := hOf n hc
    unfold ln at he
    rw [hn] at he
    have := Nat.eq_of_mul_eq_mul_left hE0 (Nat.add_left_cancel he)
    omega
  have hnn : n ∉ ns := fun hc => by
    obtain ⟨a, b', ha, hb', he⟩ := hV.form n hc
    rw [hn] at he
    have := Nat.eq_of_mul_eq_mul_left hE0 (Nat.add_left_cancel he)
    omega
  have hfresh : some n ∉ s.pl := fun hc => by
    rcases hV.mem n hc with h5 | h5
    · exact hnO h5
    · exact hnn h5
  obtain ⟨hps, hhas⟩ := ck_touch hk hs hmod
  obtain ⟨p, hVp, hplace, hpl0, hR'⟩ := hV.r.step hwf (by omega) hfresh
  have hpw : p < W := hV.r.vlt _ (List.mem_of_getElem? hVp)
  simp_arith [Ly.v_fld, Ly.v_meth, Ly.k_me2, Ly.v_make, Ly.k_mk, Ly.v_fldset, Ly.k_fs, Ly.v_fldaug, Ly.k_fa2, Ly.look1, List.mem_cons, List.not_mem_nil, or_false, true_or, or_true, eb, oAdd_int, add_n, mul_n (a := E) (b := 9 * W + t + b * 100) (by omega), ea, -v_seq]
  rw [v_seq]
  simp_arith [Ly.v_fld, Ly.v_meth, Ly.k_me2, Ly.v_make, Ly.k_mk, Ly.v_fldset, Ly.k_fs, Ly.v_fldaug, Ly.k_fa2, Ly.look1, List.mem_cons, List.not_mem_nil, or_false, true_or, or_true, kMethC hI.c.o (show "touch" ≠ "sets" by decide) (by decide) (by decide) (by decide) (by decide), mul_n (a := n) (show Z < 4294967296 by omega), is_next, -v_seq]
  refine nx (many := (Z : Int)) hI.dr (by omega) fun r S2 hr dr2 k2 _ => ?_
  have hI2 := hI.next dr2 k2
  have hdiv : (n * Z + r) / m.line = n := by
    rw [hk.l, Nat.mul_comm, Nat.mul_add_div hp3, Nat.div_eq_of_lt (by omega), Nat.add_zero]
  simp_arith [Ly.v_fld, Ly.v_meth, Ly.k_me2, Ly.v_make, Ly.k_mk, Ly.v_fldset, Ly.k_fs, Ly.v_fldaug, Ly.k_fa2, Ly.look1, List.mem_cons, List.not_mem_nil, or_false, true_or, or_true, oAdd_int, add_n, is_touch, -v_seq]
  refine Wp.call (touch_ok (ad := n * Z + r) hI2.c) ?_
  rintro _ S3 ⟨rfl, c3, k3, _⟩
  rw [hdiv] at c3 ⊢
  rw [hhas, decide_eq_false hfresh]
  have hI3 := hI2.upd c3 k3
  have hqo3 := k3.get (k2.get (k1.get hq (by simpa using hqd.2.1)) (by simpa using hqd.2.1)) hqd.1
  have hqk3 := k3.get (k2.get (k1.get hq2 (by simpa using hqd2.2.1)) (by simpa using hqd2.2.1)) hqd2.1
  have hwf' : (s.touch n).wf W k E := PSet.touch_wf hwf hmodE
  simp_arith [Ly.v_fld, Ly.v_meth, Ly.k_me2, Ly.v_make, Ly.k_mk, Ly.v_fldset, Ly.k_fs, Ly.v_fldaug, Ly.k_fa2, Ly.look1, List.mem_cons, List.not_mem_nil, or_false, true_or, or_true, oTru_bl, -v_seq]
  rw [v_seq]
  simp_arith [Ly.v_fld, Ly.v_meth, Ly.k_me2, Ly.v_make, Ly.k_mk, Ly.v_fldset, Ly.k_fs, Ly.v_fldaug, Ly.k_fa2, Ly.look1, List.mem_cons, List.not_mem_nil, or_false, true_or, or_true, kMethC hI3.c.o (show "places" ≠ "sets" by decide) (by decide) (by decide) (by decide) (by decide), is_places, -v_seq]
  refine Wp.call (places_ok hI3.c hps) ?_
  rintro _ S3 ⟨rfl, rfl⟩
  have hatp : (s.touch n).pl[p]? = some (some n) := by
    have := (at_touch hwf hwo (l := n) (l' := n) (p := p)).mpr (.inl ⟨hplace.symm, rfl⟩)
    exact this
  obtain ⟨x, hx⟩ : ∃ x, s.pl[p]? = some (some x) := by
    have hlt : p < s.pl.length := by rw [hwf.len]; exact hpw
    cases hx : s.pl[p] with
    | none => exact absurd (hx ▸ List.getElem_mem hlt) hV.r.full
    | some x => exact ⟨x, by rw [List.getElem?_eq_getElem hlt, hx]⟩
  have htp : (s.touch n).pl = s.pl.set p (some n) := by unfold PSet.touch; simp only [if_neg hfresh, hplace]
  have hch := changed_ok (S := S3) (pl := s.pl) (pl' := (s.touch n).pl) (p0 := p) hwf.len hwf'.len h2 hV.r.full hR'.full hpw (fun q hq => by
    by_cases e : q = p
    · subst e
      rw [hx, hatp]
      constructor
      · intro h9; cases h9; exact absurd (List.mem_of_getElem? hx) hfresh
      · intro h9; exact absurd rfl h9
    · rw [htp, List.getElem?_set_ne (Ne.symm e)]
      exact ⟨fun _ => e, fun _ => rfl⟩)
  simp_arith [Ly.v_fld, Ly.v_meth, Ly.k_me2, Ly.v_make, Ly.k_mk, Ly.v_fldset, Ly.k_fs, Ly.v_fldaug, Ly.k_fa2, Ly.look1, List.mem_cons, List.not_mem_nil, or_false, true_or, or_true, -v_seq]
  refine Wp.call hch ?_
  rintro _ S4 ⟨rfl, g4, k4⟩
  have hI4 := hI3.new k4
  simp_arith [Ly.v_fld, Ly.v_meth, Ly.k_me2, Ly.v_make, Ly.k_mk, Ly.v_fldset, Ly.k_fs, Ly.v_fldaug, Ly.k_fa2, Ly.look1, List.mem_cons, List.not_mem_nil, or_false, true_or, or_true, -v_seq]
  rw [v_seq]
  have i14 : oIx (.ref S3.length) (.int 0) S4 = .ok (nD p) S4 := oIx_lst g4 (by decide) (by simp) rfl
  have ip' : oIx (.tup ((s.touch n).pl.map plD)) (nD p) S4 = .ok (nD n) S4 := oIx_tup (by rw [List.getElem?_map, hatp]; rfl)
  have ipb : oIx (.tup (s.pl.map plD)) (nD p) S4 = .ok (nD x) S4 := oIx_tup (by rw [List.getElem?_map, hx]; rfl)
  have hqo4 := k4.get hqo3 (by simp)
  have hqk4 := k4.get hqk3 (by simp)
  simp_arith [Ly.v_fld, Ly.v_meth, Ly.k_me2, Ly.v_make, Ly.k_mk, Ly.v_fldset, Ly.k_fs, Ly.v_fldaug, Ly.k_fa2, Ly.look1, List.mem_cons, List.not_mem_nil, or_false, true_or, or_true, bLen_lst g4, List.length_singleton, oNe_int, kMethC hI4.c.o (show "places" ≠ "sets" by decide) (by decide) (by decide) (by decide) (by decide), is_places, -v_seq]
  have one : ¬ ¬ (((1 : Nat) : Int) = 1) := by decide
  refine Wp.call (places_ok hI4.c hps) ?_
  rintro _ S4 ⟨rfl, rfl⟩
  simp_arith [Ly.v_fld, Ly.v_meth, Ly.k_me2, Ly.v_make, Ly.k_mk, Ly.v_fldset, Ly.k_fs, Ly.v_fldaug, Ly.k_fa2, Ly.look1, List.mem_cons, List.not_mem_nil, or_false, true_or, or_true, i14, ip', oNe_int, -v_seq]
  rw [v_seq]
  have hO : oIx (.ref qo) (nD t) S4 = .ok (nD (O.getD t 0)) S4 := by
    have htO : t < O.length := by omega
    exact oIx_lst hqo4 (by omega) (by simpa using htO) (by simp [List.getElem?_eq_getElem htO, List.getD])
  have hcmp : pol ≠ "plru" → x = O.getD t 0 := fun hp => by
    obtain ⟨bt, hbt⟩ := hpol hp
    cases hod : s.od with
    | ptrs w' ss => have := hV.kd'; rw [hod, hbt] at this; cases this
    | ages bt0 as now =>
      have hbd : ∀ a ∈ as, a ≤ now := by have := hV.bd; rw [hod] at this; exact this
      have hL : (O.drop ns.length ++ ns).length = W := by rw [List.length_append, List.length_drop, hOl]; omega
      obtain ⟨y, T, hyT, hyp⟩ := (tl_miss hwf hwo hod hbd (hV.tl _ _ _ hod) (by omega) hfresh).2 hL
      have htO : t < O.length := by omega
      rw [ht, List.drop_eq_getElem_cons htO] at hyT
      have hy : O[t] = y := (List.cons.inj hyT).1
      unfold At at hyp
      rw [hplace, hx] at hyp
      cases hyp
      rw [← hy]; simp [List.getD, List.getElem?_eq_getElem htO]
  have hlen : ((V.take t).map nD).length < sizeLine := by rw [List.length_map]; exact line_big (by rw [List.length_take]; omega)
  have kk : Kp [qk] S4 (S4.set qk (.lst ((V.take t).map nD ++ [nD p]))) := Kp.set (by simp)
  have hI5 := hI4.kp kk fun y hy => by rw [List.mem_singleton.mp hy]; exact ⟨hqd2.2.1, hqd2.2.2, hqd2.1⟩
  have g5 := kk.get hqo4 (by simpa using hqd.2.2)
  have g6 : (S4.set qk (.lst ((V.take t).map nD ++ [nD p])))[qk]? = some (.lst ((V.take (t + 1)).map nD)) := by
    rw [get_put hqk4]
    rw [ht] at hVp
    have hVl : t < V.length := by rw [hV.r.vl]; exact htW
    have e5 : V.take (t + 1) = V.take t ++ [p] := by
      rw [List.take_succ, hVp]; rfl
    rw [e5]; simp
  have hOv : Ov kd k E W O V pl1 (ns ++ [n]) (s.touch n) := by
    refine ⟨hR', touch_bd hV.bd, by rw [touch_kd]; exact hV.kd', fun bt as now ho => ?_, fun l hl => ?_, fun y hy => ?_⟩
    · cases hod : s.od with
      | ptrs w' ss =>
        have : (s.touch n).od.kd = none := by rw [touch_kd, hod]; rfl
        rw [ho] at this; cases this
      | ages bt0 as0 now0 =>
        have hto : (s.touch n).od = .ages bt0 (as0.set (s.place n) (now0 + 1)) (now0 + 1) := by
          unfold PSet.touch; simp only [hod, decide_eq_false hfresh, Bool.not_false, Od.note, Bool.true_or, if_true]
        rw [hto] at ho
        cases ho
        have hbd : ∀ a ∈ as0, a ≤ now0 := by have := hV.bd; rw [hod] at this; exact this
        have hL : (O.drop ns.length ++ ns).length = W := by rw [List.length_append, List.length_drop, hOl]; omega
        have hmiss := (tl_miss hwf hwo hod hbd (hV.tl _ _ _ hod) (by omega) hfresh).1
        have htO : ns.length < O.length := by omega
        have e6 : tlNext W (O.drop ns.length ++ ns) n = O.drop (ns ++ [n]).length ++ (ns ++ [n]) := by
          unfold tlNext
          rw [if_neg (by omega), List.drop_eq_getElem_cons htO, List.cons_append, List.tail_cons, List.append_assoc, List.length_append, List.length_singleton]
        rw [e6] at hmiss
        exact hmiss
    · rcases mem_touch hwf hwo hl with rfl | hl
      · right; simp
      · rcases hV.mem l hl with h5 | h5
        · exact .inl h5
        · right; exact List.mem_append_left _ h5
    · rcases List.mem_append.mp hy with hy | hy
      · obtain ⟨a, b', ha, hb', he⟩ := hV.form y hy
        exact ⟨a, b', by simp; omega, hb', he⟩
      · rw [List.mem_singleton.mp hy]
        exact ⟨t, b, by simp; omega, hb1, hn⟩
  by_cases hp : pol = "plru"
  · simp_arith [Ly.v_fld, Ly.v_meth, Ly.k_me2, Ly.v_make, Ly.k_mk, Ly.v_fldset, Ly.k_fs, Ly.v_fldaug, Ly.k_fa2, Ly.look1, List.mem_cons, List.not_mem_nil, or_false, true_or, or_true, oNe_str, hp, hasTy_lst hqk4, i14, oAppend_lst hqk4 hlen]
    rw [← hp]
    exact ⟨_, _, _, _, _, n, rfl, hI5, hk.touch, hps, hOv, g5, g6⟩
  · have hx2 : ((x : Nat) : Int) = ((O.getD t 0 : Nat) : Int) := by rw [hcmp hp]
    simp_arith [Ly.v_fld, Ly.v_meth, Ly.k_me2, Ly.v_make, Ly.k_mk, Ly.v_fldset, Ly.k_fs, Ly.v_fldaug, Ly.k_fa2, Ly.look1, List.mem_cons, List.not_mem_nil, or_false, true_or, or_true, oNe_str, hp, i14, ipb, hO, oNe_int, hx2, hasTy_lst hqk4, oAppend_lst hqk4 hlen]
    exact ⟨_, _, _, _, _, n, rfl, hI5, hk.touch, hps, hOv, g5, g6⟩
end
theorem pl_some {pl : List (Option Nat)} (h : none ∉ pl) : ∃ X : List Nat, pl = X.map some := by
  induction pl with
  | nil => exact ⟨[], rfl⟩
  | cons o pl ih =>
    obtain ⟨X, rfl⟩ := ih fun hm => h (List.mem_cons_of_mem _ hm)
    cases o with
    | none => exact absurd List.mem_cons_self h
    | some x => exact ⟨x :: X, rfl⟩
theorem sortA_lst {S : Hs} {q : Nat} {L : List Nat} (h : S[q]? = some (.lst (nDs L))) : bSortA [.ref q] S = .ok (.ref S.length) (S ++ [.lst (nDs (sortN L))]) := by
  show bSorted [.ref q] S = _
  exact bSorted_lst h
theorem sortA_tup {S : Hs} {X : List Nat} : bSortA [.tup (nDs X)] S = .ok (.ref S.length) (S ++ [.lst (nDs (sortN X))]) := by
  simp only [bSortA, intsD_nat, sortI_nat]
theorem law_wp (hA : cA 0 ≠ cA 1) {S : Hs} {x : D} {ns : List Int} (hx : seqD x S = some (ns.map D.int)) (hn : ns.length ≤ 63) : Wp NoX (m_law cA [x] S) fun v _ => v = .bl true := by
  refine wp_def0 rfl ?_
  unfold b_law
  simp_arith [Ly.v_fld, Ly.v_meth, Ly.k_me2, Ly.v_make, Ly.k_mk, Ly.v_fldset, Ly.k_fs, Ly.v_fldaug, Ly.k_fa2, Ly.look1, List.mem_cons, List.not_mem_nil, or_false, true_or, or_true, is_reader]
  refine Wp.call (readerD_ok hx hn) ?_
  rintro _ S1 ⟨i, j, rfl, dr1, hi, hj, k1⟩
  simp_arith [Ly.v_fld, Ly.v_meth, Ly.k_me2, Ly.v_make, Ly.k_mk, Ly.v_fldset, Ly.k_fs, Ly.v_fldaug, Ly.k_fa2, Ly.look1, List.mem_cons, List.not_mem_nil, or_false, true_or, or_true, -v_seq]
  rw [v_seq]
  simp_arith [Ly.v_fld, Ly.v_meth, Ly.k_me2, Ly.v_make, Ly.k_mk, Ly.v_fldset, Ly.k_fs, Ly.v_fldaug, Ly.k_fa2, Ly.look1, List.mem_cons, List.not_mem_nil, or_false, true_or, or_true, is_cache, -v_seq]
  refine Wp.call (Vcache_ok dr1) ?_
  rintro _ S2 ⟨⟨c, rfl, hc⟩, dr2, k2⟩
  have p1 : 2 ^ c.e ≤ 64 := Nat.le_trans (Nat.pow_le_pow_right (by decide) hc.e) (by decide)
  have p2 : 2 ^ c.w ≤ 8 := Nat.le_trans (Nat.pow_le_pow_right (by decide) hc.w) (by decide)
  have p3 : 2 ^ c.l ≤ 16 := Nat.le_trans (Nat.pow_le_pow_right (by decide) hc.l) (by decide)
  have q1 := Nat.two_pow_pos c.e
  have q2 := Nat.two_pow_pos c.w
  have q3 := Nat.two_pow_pos c.l
  have hi2 := dr2.lt
  have hj2 := dr2.ltj
  simp_arith [Ly.v_fld, Ly.v_meth, Ly.k_me2, Ly.v_make, Ly.k_mk, Ly.v_fldset, Ly.k_fs, Ly.v_fldaug, Ly.k_fa2, Ly.look1, List.mem_cons, List.not_mem_nil, or_false, true_or, or_true, -v_seq]
  rw [v_seq]
  simp_arith [Ly.v_fld, Ly.v_meth, Ly.k_me2, Ly.v_make, Ly.k_mk, Ly.v_fldset, Ly.k_fs, Ly.v_fldaug, Ly.k_fa2, Ly.look1, List.mem_cons, List.not_mem_nil, or_false, true_or, or_true, CS.D, v_gT, -v_seq]
  rw [v_seq]
  simp_arith [Ly.v_fld, Ly.v_meth, Ly.k_me2, Ly.v_make, Ly.k_mk, Ly.v_fldset, Ly.k_fs, Ly.v_fldaug, Ly.k_fa2, Ly.look1, List.mem_cons, List.not_mem_nil, or_false, true_or, or_true, v_make, k_mk, is_init, -v_seq]
  refine Wp.call (csInit_ok (q := S2.length) hc hA (by simp)) ?_
  rintro _ S3 ⟨rfl, d, hd, c3, f3, k3⟩
  refine ⟨rfl, ?_⟩
  have n3 := k3.le
  simp only [List.length_append, List.length_cons, List.length_nil, Nat.zero_add] at n3 f3
  have k23 : Kp [] S2 S3 := Kp.new.after k3 (by intro y hy hl; simp at hy; omega)
  have dr3 := dr2.kp0 k23
  have f3' : ∀ y ∈ d.fp, S2.length ≤ y ∧ y < S3.length := fun y hy => by rcases f3 y hy with h | h <;> omega
  have I3 : CI cA S3 i j d c.new := ⟨dr3, c3, fun y hy => by have := f3' y hy; omega⟩
  have K3 : CK (2 ^ c.e) (2 ^ c.w) (2 ^ c.l) c.new := ⟨c3.wf, rfl, rfl, rfl⟩
  have hnew : ∀ s ∈ c.new.ps, s = ⟨List.replicate (2 ^ c.w) none, od0 c.p (2 ^ c.w)⟩ := fun s hs => List.eq_of_mem_replicate hs
  have L3 : Low (ckd c) (2 ^ c.e) (2 ^ c.w) c.new := by
    refine ⟨fun s hs => ?_, fun s hs => ?_, fun s hs l hl => ?_⟩
    · rw [hnew s hs]
      unfold od0
      split
      · trivial
      · intro a ha; rw [List.eq_of_mem_replicate ha]; exact Nat.le_refl _
    · rw [hnew s hs]
      unfold od0 ckd
      split <;> rfl
    · rw [hnew s hs] at hl
      cases List.eq_of_mem_replicate hl
  have hpl : (c.p = "fifo" → ckd c = some false) ∧ (c.p ≠ "fifo" → ckd c ≠ some false) ∧ (c.p ≠ "plru" → ∃ bt, ckd c = some bt) := by
    have := hc.p
    simp only [polsL, List.mem_cons, List.not_mem_nil, or_false] at this
    rcases this with h | h | h <;> simp [ckd, h, ofString_inj]
  rw [← hd]
  rw [v_seq]
  simp_arith [Ly.v_fld, Ly.v_meth, Ly.k_me2, Ly.v_make, Ly.k_mk, Ly.v_fldset, Ly.k_fs, Ly.v_fldaug, Ly.k_fa2, Ly.look1, List.mem_cons, List.not_mem_nil, or_false, true_or, or_true, is_next, -v_seq]
  refine nx (many := ((2 ^ c.e : Nat) : Int)) dr3 (by omega) fun k S4 hk dr4 k4 _ => ?_
  have I4 := I3.next dr4 k4
  have hkE : k < 2 ^ c.e := by omega
  simp_arith [Ly.v_fld, Ly.v_meth, Ly.k_me2, Ly.v_make, Ly.k_mk, Ly.v_fldset, Ly.k_fs, Ly.v_fldaug, Ly.k_fa2, Ly.look1, List.mem_cons, List.not_mem_nil, or_false, true_or, or_true, -v_seq]
  rw [v_seq]
  simp_arith [Ly.v_fld, Ly.v_meth, Ly.k_me2, Ly.v_make, Ly.k_mk, Ly.v_fldset, Ly.k_fs, Ly.v_fldaug, Ly.k_fa2, Ly.look1, List.mem_cons, List.not_mem_nil, or_false, true_or, or_true, -v_seq]
  refine Wp.call (begun_ok (dS := .tup [nD (2 ^ c.e), nD (2 ^ c.w), nD (2 ^ c.l), .str c.p]) rfl I4 K3 L3 p1 p2 p3 hkE ⟨hpl.1, hpl.2.1⟩) ?_
  rintro _ S5 ⟨qo, O, m5, s5, rfl, g5, I5, K5, hs5, hD, hqo, k5⟩
  have hwf : s5.wf (2 ^ c.w) k (2 ^ c.e) := by have := K5.wf.ps _ _ hs5; rw [K5.s, K5.w] at this; exact this
  have hwo : WayOk (2 ^ c.w) := ⟨c.w, hc.w, rfl⟩
  obtain ⟨X, hX⟩ := pl_some hD.full
  have hXD : s5.pl.map plD = nDs X := by rw [hX, List.map_map]; rfl
  have hXn : X.Nodup := by
    refine List.pairwise_iff_getElem.mpr fun a b ha hb hab e => ?_
    have e1 : s5.pl[a]? = some (some X[a]) := by rw [hX, List.getElem?_map, List.getElem?_eq_getElem ha]; rfl
    have e2 : s5.pl[b]? = some (some X[a]) := by rw [hX, List.getElem?_map, List.getElem?_eq_getElem hb, e]; rfl
    have := hwf.inj a b _ e1 e2
    omega
  have hXO : sortN O = sortN X := sortN_eq hD.nd hXn fun l => by
    rw [← hD.mem l, hX]; simp
  have hqlt := (List.getElem?_eq_some_iff.mp g5).1
  simp_arith [Ly.v_fld, Ly.v_meth, Ly.k_me2, Ly.v_make, Ly.k_mk, Ly.v_fldset, Ly.k_fs, Ly.v_fldaug, Ly.k_fa2, Ly.look1, List.mem_cons, List.not_mem_nil, or_false, true_or, or_true, -v_seq]
  rw [v_seq]
  have I6 : CI cA (S5 ++ [Ly.O.lst (nDs (sortN O))]) i j d m5 := I5.new Kp.new
  have hb : ∀ y ∈ nDs (sortN X), True := fun _ _ => trivial
  simp_arith [Ly.v_fld, Ly.v_meth, Ly.k_me2, Ly.v_make, Ly.k_mk, Ly.v_fldset, Ly.k_fs, Ly.v_fldaug, Ly.k_fa2, Ly.look1, List.mem_cons, List.not_mem_nil, or_false, true_or, or_true, oIs, D.isNon, sortA_lst g5, kMethC I6.c.o (show "places" ≠ "sets" by decide) (by decide) (by decide) (by decide) (by decide), is_places, -v_seq]
  refine Wp.call (places_ok I6.c hs5) ?_
  rintro _ S6 ⟨rfl, rfl⟩
  rw [hXD]
  have g6 : (S5 ++ [Ly.O.lst (nDs (sortN X))])[S5.length]? = some (.lst (nDs (sortN X))) := get_end
  rw [hXO] at I6 ⊢
  have n6 : (S5 ++ [Ly.O.lst (nDs (sortN X))] ++ [Ly.O.lst (nDs (sortN X))])[S5.length]? = some (.lst (nDs (sortN X))) := (Kp.new : Kp [] (S5 ++ [Ly.O.lst (nDs (sortN X))]) _).get get_end (by simp)
  have n7 : (S5 ++ [Ly.O.lst (nDs (sortN X))] ++ [Ly.O.lst (nDs (sortN X))])[(S5 ++ [Ly.O.lst (nDs (sortN X))]).length]? = some (.lst (nDs (sortN X))) := get_end
  have hne : oNe (.ref S5.length) (.ref (S5 ++ [Ly.O.lst (nDs (sortN X))]).length) (S5 ++ [Ly.O.lst (nDs (sortN X))] ++ [Ly.O.lst (nDs (sortN X))]) = .ok (.bl false) (S5 ++ [Ly.O.lst (nDs (sortN X))] ++ [Ly.O.lst (nDs (sortN X))]) := by
    have hp : D.plains (nDs (sortN X)) = true := plains_map fun x => rfl
    simp only [oNe, eq_lsts n6 n7 hp depth_nats]; rfl
  have b6 : bSortA [.tup (nDs X)] (S5 ++ [Ly.O.lst (nDs (sortN X))]) = .ok (.ref (S5 ++ [Ly.O.lst (nDs (sortN X))]).length) (S5 ++ [Ly.O.lst (nDs (sortN X))] ++ [Ly.O.lst (nDs (sortN X))]) := sortA_tup
  simp only [v_no, v_nil, k_co, k_co2, v_ok, v_call, k_ca, b6, hne]
  simp_arith [Ly.v_fld, Ly.v_meth, Ly.k_me2, Ly.v_make, Ly.k_mk, Ly.v_fldset, Ly.k_fs, Ly.v_fldaug, Ly.k_fa2, Ly.look1, List.mem_cons, List.not_mem_nil, or_false, true_or, or_true, b6, hne, -v_seq]
  rw [v_seq]
  simp_arith [Ly.v_fld, Ly.v_meth, Ly.k_me2, Ly.v_make, Ly.k_mk, Ly.v_fldset, Ly.k_fs, Ly.v_fldaug, Ly.k_fa2, Ly.look1, List.mem_cons, List.not_mem_nil, or_false, true_or, or_true, -v_seq]
  rw [v_seq]
  have hwl : (2 ^ c.w : Nat) ≤ 1000000 := by omega
  generalize hSS : S5 ++ [Ly.O.lst (nDs (sortN X))] ++ [Ly.O.lst (nDs (sortN X))] = SS at *
  have I7 : CI cA SS i j d m5 := hSS ▸ I6.new Kp.new
  have k57 : Kp [] S5 SS := hSS ▸ Kp.new.trans Kp.new
  have g7 := k57.get g5 (by simp)
  have hilt := I7.dr.lt
  have hjlt := I7.dr.ltj
  have hlt7 : ∀ y ∈ d.fp, y < SS.length := fun y hy => I7.c.fp_lt _ hy
  have hqlt7 := (List.getElem?_eq_some_iff.mp g7).1
  have I8 : CI cA (SS ++ [Ly.O.lst []]) i j d m5 := I7.new Kp.new
  have hV0 : Ov (ckd c) k (2 ^ c.e) (2 ^ c.w) O (vseq (2 ^ c.w) s5.od) s5.pl [] s5 :=
    ⟨Trn.start hwo hwf hD.bd hD.full, hD.bd, hD.kd', fun bt as now ho => by simpa using hD.tl bt as now ho, fun l hl => .inl ((hD.mem l).mp hl), fun x hx => by cases hx⟩
  simp_arith [Ly.v_fld, Ly.v_meth, Ly.k_me2, Ly.v_make, Ly.k_mk, Ly.v_fldset, Ly.k_fs, Ly.v_fldaug, Ly.k_fa2, Ly.look1, List.mem_cons, List.not_mem_nil, or_false, true_or, or_true, rng1 (n := ((2 ^ c.w : Nat) : Int)) _ (by omega) (by omega), Int.toNat_natCast, wipe1, -v_seq]
  refine wp_rng (fun t lv S' => ∃ o11 o12 o13 o14 m' s' ns, lv = LL (some x) i d.c (.tup [nD (2 ^ c.e), nD (2 ^ c.w), nD (2 ^ c.l), .str c.p]) k (2 ^ c.e) (2 ^ c.w) (2 ^ c.l) c.p qo SS.length o11 o12 o13 o14 ∧ ns.length = t ∧ CI cA S' i j d m' ∧ CK (2 ^ c.e) (2 ^ c.w) (2 ^ c.l) m' ∧ m'.ps[k]? = some s' ∧ Ov (ckd c) k (2 ^ c.e) (2 ^ c.w) O (vseq (2 ^ c.w) s5.od) s5.pl ns s' ∧ S'[qo]? = some (.lst (O.map nD)) ∧ S'[SS.length]? = some (.lst (((vseq (2 ^ c.w) s5.od).take t).map nD))) ⟨none, none, none, none, m5, s5, [], rfl, rfl, I8, K5, hs5, hV0, (Kp.new : Kp [] SS _).get g7 (by simp), get_end⟩ ?_ ?_
  · rintro t lv S' ht ⟨o11, o12, o13, o14, m', s', ns', rfl, hns, I', K', hs', hV', g', g2'⟩
    have e0 : (0 : Int) + (t : Int) = ((t : Nat) : Int) := by omega
    have := turn3 (o0 := some x) (o12 := o12) (o13 := o13) (o14 := o14) (t := t) (dS := .tup [nD (2 ^ c.e), nD (2 ^ c.w), nD (2 ^ c.l), .str c.p]) (pol := c.p) I' K' hs' hV' hD.nd hD.len hD.form g' ⟨hqo.1, hqo.2.1, by omega⟩ g2' ⟨fun hm => by have := hlt7 _ hm; omega, by omega, by omega⟩ p1 p2 p3 hkE hns (by omega) hpl.2.2
    unfold LL at this ⊢
    rw [e0]
    simp_arith [Ly.v_fld, Ly.v_meth, Ly.k_me2, Ly.v_make, Ly.k_mk, Ly.v_fldset, Ly.k_fs, Ly.v_fldaug, Ly.k_fa2, Ly.look1, List.mem_cons, List.not_mem_nil, or_false, true_or, or_true]
    refine this.mono (fun _ _ _ _ h => h) ?_
    rintro q S2 ⟨o12', o13', o14', m2, s2, n2, rfl, I2, K2, hs2, hV2, gq, gk⟩
    rw [k_tu_nx]
    exact ⟨_, _, _, _, m2, s2, _, rfl, by simp [hns], I2, K2, hs2, hV2, gq, gk⟩
  · rintro lv S' ⟨o11, o12, o13, o14, m', s', ns', rfl, hns, I', K', hs', hV', g', g2'⟩
    unfold LL
    obtain ⟨hv1, hv2⟩ := vseq_turn hwo hwf.od hD.bd
    have hvl : (vseq (2 ^ c.w) s5.od).length = 2 ^ c.w := vseq_len
    have hpm := nodup_perm hv1 hv2 hvl
    have hst : sortN (vseq (2 ^ c.w) s5.od) = List.range (2 ^ c.w) :=
      List.Perm.eq_of_pairwise (fun a b _ _ h1 h2 => Nat.le_antisymm h1 h2) (sortN_pw _) (by
        refine List.pairwise_lt_range.imp fun h => Nat.le_of_lt h) ((sortN_perm _).trans hpm)
    rw [List.take_of_length_le (Nat.le_of_eq hvl)] at g2'
    have b9 := sortA_lst g2'
    rw [hst] at b9
    have n8 : (S' ++ [Ly.O.lst (nDs (List.range (2 ^ c.w)))] ++ [Ly.O.lst (nDs (List.range (2 ^ c.w)))])[S'.length]? = some (.lst (nDs (List.range (2 ^ c.w)))) := (Kp.new : Kp [] (S' ++ [Ly.O.lst (nDs (List.range (2 ^ c.w)))]) _).get get_end (by simp)
    have n9 : (S' ++ [Ly.O.lst (nDs (List.range (2 ^ c.w)))] ++ [Ly.O.lst (nDs (List.range (2 ^ c.w)))])[(S' ++ [Ly.O.lst (nDs (List.range (2 ^ c.w)))]).length]? = some (.lst (nDs (List.range (2 ^ c.w)))) := get_end
    have heq : oEq (.ref S'.length) (.ref (S' ++ [Ly.O.lst (nDs (List.range (2 ^ c.w)))]).length) (S' ++ [Ly.O.lst (nDs (List.range (2 ^ c.w)))] ++ [Ly.O.lst (nDs (List.range (2 ^ c.w)))]) = .ok (.bl true) (S' ++ [Ly.O.lst (nDs (List.range (2 ^ c.w)))] ++ [Ly.O.lst (nDs (List.range (2 ^ c.w)))]) := by
      have hp : D.plains (nDs (List.range (2 ^ c.w))) = true := plains_map fun x => rfl
      simp only [oEq, eq_lsts n8 n9 hp depth_nats]
    simp_arith [Ly.v_fld, Ly.v_meth, Ly.k_me2, Ly.v_make, Ly.k_mk, Ly.v_fldset, Ly.k_fs, Ly.v_fldaug, Ly.k_fa2, Ly.look1, List.mem_cons, List.not_mem_nil, or_false, true_or, or_true, b9, rg1, oLRg_nat hwl, heq]
theorem law_true (cA : Nat → Addr) (h : Dst 0 2 cA) : LawTrue (m_law cA) := by
  intro ns x S h1 _ _ _ _ h5 _
  obtain ⟨v, S', e, rfl⟩ := (law_wp (cA := cA) (fun e => by have := h 0 1 (by omega) (by omega) (by omega) (by omega) e; omega) h5 h1).ex
  exact ⟨S', e⟩
end GK22
set_option Elab.async false
set_option linter.all false
set_option maxRecDepth 100000
set_option maxHeartbeats 4000000
namespace GK22
open PySem PySem.Spec L2 Ly
open PyProof.Rows hiding St
theorem all_mk {l : PySem.W.OpenLaw} {w : World} {K : PySem.W.Frag} {h : Heap} {mg : Str → Option Value} {fa : Addr} (X : K.In h) (G : h.Ns mainGlobals mg) (hfa : mg "law" = some (.ref fa))
    {k_Ages : Addr} {k_Pointers : Addr} {k_Cache : Addr} {f__law_draws : Addr} {od__law_draws an__law_draws : Option Addr} {sl__law_draws : Array (Option Value)} {oc__law_draws kV__law_draws dc__law_draws pm__law_draws cd__law_draws ct__law_draws : Value} {f__law_reader : Addr} {od__law_reader an__law_reader : Option Addr} {sl__law_reader : Array (Option Value)} {oc__law_reader kV__law_reader dc__law_reader pm__law_reader cd__law_reader ct__law_reader : Value} {f__law_next : Addr} {od__law_next an__law_next : Option Addr} {sl__law_next : Array (Option Value)} {oc__law_next kV__law_next dc__law_next pm__law_next cd__law_next ct__law_next : Value} {f__law_cache : Addr} {od__law_cache an__law_cache : Option Addr} {sl__law_cache : Array (Option Value)} {oc__law_cache kV__law_cache dc__law_cache pm__law_cache cd__law_cache ct__law_cache : Value} {f_Pointers_m___init__ : Addr} {od_Pointers_m___init__ an_Pointers_m___init__ : Option Addr} {sl_Pointers_m___init__ : Array (Option Value)} {oc_Pointers_m___init__ kV_Pointers_m___init__ dc_Pointers_m___init__ pm_Pointers_m___init__ cd_Pointers_m___init__ ct_Pointers_m___init__ : Value} {f_Ages_m___init__ : Addr} {od_Ages_m___init__ an_Ages_m___init__ : Option Addr} {sl_Ages_m___init__ : Array (Option Value)} {oc_Ages_m___init__ kV_Ages_m___init__ dc_Ages_m___init__ pm_Ages_m___init__ cd_Ages_m___init__ ct_Ages_m___init__ : Value} {f_Cache_m___init__ : Addr} {od_Cache_m___init__ an_Cache_m___init__ : Option Addr} {sl_Cache_m___init__ : Array (Option Value)} {oc_Cache_m___init__ kV_Cache_m___init__ dc_Cache_m___init__ pm_Cache_m___init__ cd_Cache_m___init__ ct_Cache_m___init__ : Value} {f_Cache_m_places : Addr} {od_Cache_m_places an_Cache_m_places : Option Addr} {sl_Cache_m_places : Array (Option Value)} {oc_Cache_m_places kV_Cache_m_places dc_Cache_m_places pm_Cache_m_places cd_Cache_m_places ct_Cache_m_places : Value} {f_Cache_m_drop : Addr} {od_Cache_m_drop an_Cache_m_drop : Option Addr} {sl_Cache_m_drop : Array (Option Value)} {oc_Cache_m_drop kV_Cache_m_drop dc_Cache_m_drop pm_Cache_m_drop cd_Cache_m_drop ct_Cache_m_drop : Value} {f_Ages_m_note : Addr} {od_Ages_m_note an_Ages_m_note : Option Addr} {sl_Ages_m_note : Array (Option Value)} {oc_Ages_m_note kV_Ages_m_note dc_Ages_m_note pm_Ages_m_note cd_Ages_m_note ct_Ages_m_note : Value} {f_Pointers_m_note : Addr} {od_Pointers_m_note an_Pointers_m_note : Option Addr} {sl_Pointers_m_note : Array (Option Value)} {oc_Pointers_m_note kV_Pointers_m_note dc_Pointers_m_note pm_Pointers_m_note cd_Pointers_m_note ct_Pointers_m_note : Value} {f_Ages_m_victim : Addr} {od_Ages_m_victim an_Ages_m_victim : Option Addr} {sl_Ages_m_victim : Array (Option Value)} {oc_Ages_m_victim kV_Ages_m_victim dc_Ages_m_victim pm_Ages_m_victim cd_Ages_m_victim ct_Ages_m_victim : Value} {f_Pointers_m_victim : Addr} {od_Pointers_m_victim an_Pointers_m_victim : Option Addr} {sl_Pointers_m_victim : Array (Option Value)} {oc_Pointers_m_victim kV_Pointers_m_victim dc_Pointers_m_victim pm_Pointers_m_victim cd_Pointers_m_victim ct_Pointers_m_victim : Value} {f_Cache_m_put : Addr} {od_Cache_m_put an_Cache_m_put : Option Addr} {sl_Cache_m_put : Array (Option Value)} {oc_Cache_m_put kV_Cache_m_put dc_Cache_m_put pm_Cache_m_put cd_Cache_m_put ct_Cache_m_put : Value} {f_Cache_m_touch : Addr} {od_Cache_m_touch an_Cache_m_touch : Option Addr} {sl_Cache_m_touch : Array (Option Value)} {oc_Cache_m_touch kV_Cache_m_touch dc_Cache_m_touch pm_Cache_m_touch cd_Cache_m_touch ct_Cache_m_touch : Value} {f__law_begun : Addr} {od__law_begun an__law_begun : Option Addr} {sl__law_begun : Array (Option Value)} {oc__law_begun kV__law_begun dc__law_begun pm__law_begun cd__law_begun ct__law_begun : Value} {f__law_changed : Addr} {od__law_changed an__law_changed : Option Addr} {sl__law_changed : Array (Option Value)} {oc__law_changed kV__law_changed dc__law_changed pm__law_changed cd__law_changed ct__law_changed : Value} {f_law : Addr} {od_law an_law : Option Addr} {sl_law : Array (Option Value)} {oc_law kV_law dc_law pm_law cd_law ct_law : Value}
    (a_Ages : PySem.W.nsIn K mainGlobals "Ages" = some (some (.ref k_Ages)))
    (q1_Ages : PySem.W.plainGet K k_Ages Str.empty = true)
    (q2_Ages : PySem.W.hasDictIn K k_Ages = true)
    (q3_Ages : PySem.W.plainOver K k_Ages = true)
    (q4_Ages : PySem.W.findIn K (.ref k_Ages) "__setattr__" = some (some (.builtin "object.__setattr__")))
    (a_Pointers : PySem.W.nsIn K mainGlobals "Pointers" = some (some (.ref k_Pointers)))
    (q1_Pointers : PySem.W.plainGet K k_Pointers Str.empty = true)
    (q2_Pointers : PySem.W.hasDictIn K k_Pointers = true)
    (q3_Pointers : PySem.W.plainOver K k_Pointers = true)
    (q4_Pointers : PySem.W.findIn K (.ref k_Pointers) "__setattr__" = some (some (.builtin "object.__setattr__")))
    (a_Cache : PySem.W.nsIn K mainGlobals "Cache" = some (some (.ref k_Cache)))
    (q1_Cache : PySem.W.plainGet K k_Cache Str.empty = true)
    (q2_Cache : PySem.W.hasDictIn K k_Cache = true)
    (q3_Cache : PySem.W.plainOver K k_Cache = true)
    (q4_Cache : PySem.W.findIn K (.ref k_Cache) "__setattr__" = some (some (.builtin "object.__setattr__")))
    (a__law_draws : PySem.W.nsIn K mainGlobals "_law_draws" = some (some (.ref f__law_draws)))
    (l__law_draws : K.lookup f__law_draws = some ⟨oc__law_draws, od__law_draws, .func (PySem.W.fnOf "_law_draws" "_law_draws" (defArgs s__law_draws) (defBody s__law_draws) (defScope s__law_draws) .none kV__law_draws dc__law_draws pm__law_draws an__law_draws cd__law_draws ct__law_draws), sl__law_draws⟩)
    (c__law_draws : PySem.W.codeIn K cd__law_draws "_law_draws" = true)
    (k__law_draws : PySem.W.keepIn K (.ref f__law_draws) = true)
    (a__law_reader : PySem.W.nsIn K mainGlobals "_law_reader" = some (some (.ref f__law_reader)))
    (l__law_reader : K.lookup f__law_reader = some ⟨oc__law_reader, od__law_reader, .func (PySem.W.fnOf "_law_reader" "_law_reader" (defArgs s__law_reader) (defBody s__law_reader) (defScope s__law_reader) .none kV__law_reader dc__law_reader pm__law_reader an__law_reader cd__law_reader ct__law_reader), sl__law_reader⟩)
    (c__law_reader : PySem.W.codeIn K cd__law_reader "_law_reader" = true)
    (k__law_reader : PySem.W.keepIn K (.ref f__law_reader) = true)
    (a__law_next : PySem.W.nsIn K mainGlobals "_law_next" = some (some (.ref f__law_next)))
    (l__law_next : K.lookup f__law_next = some ⟨oc__law_next, od__law_next, .func (PySem.W.fnOf "_law_next" "_law_next" (defArgs s__law_next) (defBody s__law_next) (defScope s__law_next) .none kV__law_next dc__law_next pm__law_next an__law_next cd__law_next ct__law_next), sl__law_next⟩)
    (c__law_next : PySem.W.codeIn K cd__law_next "_law_next" = true)
    (k__law_next : PySem.W.keepIn K (.ref f__law_next) = true)
    (a__law_cache : PySem.W.nsIn K mainGlobals "_law_cache" = some (some (.ref f__law_cache)))
    (l__law_cache : K.lookup f__law_cache = some ⟨oc__law_cache, od__law_cache, .func (PySem.W.fnOf "_law_cache" "_law_cache" (defArgs s__law_cache) (defBody s__law_cache) (defScope s__law_cache) .none kV__law_cache dc__law_cache pm__law_cache an__law_cache cd__law_cache ct__law_cache), sl__law_cache⟩)
    (c__law_cache : PySem.W.codeIn K cd__law_cache "_law_cache" = true)
    (k__law_cache : PySem.W.keepIn K (.ref f__law_cache) = true)
    (a_Pointers_m___init__ : PySem.W.findIn K (.ref k_Pointers) "__init__" = some (some (.ref f_Pointers_m___init__)))
    (l_Pointers_m___init__ : K.lookup f_Pointers_m___init__ = some ⟨oc_Pointers_m___init__, od_Pointers_m___init__, .func (PySem.W.fnOf "__init__" "Pointers.__init__" (defArgs s_Pointers_m___init__) (defBody s_Pointers_m___init__) (defScope s_Pointers_m___init__) .none kV_Pointers_m___init__ dc_Pointers_m___init__ pm_Pointers_m___init__ an_Pointers_m___init__ cd_Pointers_m___init__ ct_Pointers_m___init__), sl_Pointers_m___init__⟩)
    (c_Pointers_m___init__ : PySem.W.codeIn K cd_Pointers_m___init__ "Pointers.__init__" = true)
    (k_Pointers_m___init__ : PySem.W.keepIn K (.ref f_Pointers_m___init__) = true)
    (i_Pointers_m___init__ : PySem.W.isFn K (.ref f_Pointers_m___init__) = true)
    (a_Ages_m___init__ : PySem.W.findIn K (.ref k_Ages) "__init__" = some (some (.ref f_Ages_m___init__)))
    (l_Ages_m___init__ : K.lookup f_Ages_m___init__ = some ⟨oc_Ages_m___init__, od_Ages_m___init__, .func (PySem.W.fnOf "__init__" "Ages.__init__" (defArgs s_Ages_m___init__) (defBody s_Ages_m___init__) (defScope s_Ages_m___init__) .none kV_Ages_m___init__ dc_Ages_m___init__ pm_Ages_m___init__ an_Ages_m___init__ cd_Ages_m___init__ ct_Ages_m___init__), sl_Ages_m___init__⟩)
    (c_Ages_m___init__ : PySem.W.codeIn K cd_Ages_m___init__ "Ages.__init__" = true)
    (k_Ages_m___init__ : PySem.W.keepIn K (.ref f_Ages_m___init__) = true)
    (i_Ages_m___init__ : PySem.W.isFn K (.ref f_Ages_m___init__) = true)
    (a_Cache_m___init__ : PySem.W.findIn K (.ref k_Cache) "__init__" = some (some (.ref f_Cache_m___init__)))
    (l_Cache_m___init__ : K.lookup f_Cache_m___init__ = some ⟨oc_Cache_m___init__, od_Cache_m___init__, .func (PySem.W.fnOf "__init__" "Cache.__init__" (defArgs s_Cache_m___init__) (defBody s_Cache_m___init__) (defScope s_Cache_m___init__) .none kV_Cache_m___init__ dc_Cache_m___init__ pm_Cache_m___init__ an_Cache_m___init__ cd_Cache_m___init__ ct_Cache_m___init__), sl_Cache_m___init__⟩)
    (c_Cache_m___init__ : PySem.W.codeIn K cd_Cache_m___init__ "Cache.__init__" = true)
    (k_Cache_m___init__ : PySem.W.keepIn K (.ref f_Cache_m___init__) = true)
    (i_Cache_m___init__ : PySem.W.isFn K (.ref f_Cache_m___init__) = true)
    (a_Cache_m_places : PySem.W.findIn K (.ref k_Cache) "places" = some (some (.ref f_Cache_m_places)))
    (l_Cache_m_places : K.lookup f_Cache_m_places = some ⟨oc_Cache_m_places, od_Cache_m_places, .func (PySem.W.fnOf "places" "Cache.places" (defArgs s_Cache_m_places) (defBody s_Cache_m_places) (defScope s_Cache_m_places) .none kV_Cache_m_places dc_Cache_m_places pm_Cache_m_places an_Cache_m_places cd_Cache_m_places ct_Cache_m_places), sl_Cache_m_places⟩)
    (c_Cache_m_places : PySem.W.codeIn K cd_Cache_m_places "Cache.places" = true)
    (k_Cache_m_places : PySem.W.keepIn K (.ref f_Cache_m_places) = true)
    (i_Cache_m_places : PySem.W.isFn K (.ref f_Cache_m_places) = true)
    (a_Cache_m_drop : PySem.W.findIn K (.ref k_Cache) "drop" = some (some (.ref f_Cache_m_drop)))
    (l_Cache_m_drop : K.lookup f_Cache_m_drop = some ⟨oc_Cache_m_drop, od_Cache_m_drop, .func (PySem.W.fnOf "drop" "Cache.drop" (defArgs s_Cache_m_drop) (defBody s_Cache_m_drop) (defScope s_Cache_m_drop) .none kV_Cache_m_drop dc_Cache_m_drop pm_Cache_m_drop an_Cache_m_drop cd_Cache_m_drop ct_Cache_m_drop), sl_Cache_m_drop⟩)
    (c_Cache_m_drop : PySem.W.codeIn K cd_Cache_m_drop "Cache.drop" = true)
    (k_Cache_m_drop : PySem.W.keepIn K (.ref f_Cache_m_drop) = true)
    (i_Cache_m_drop : PySem.W.isFn K (.ref f_Cache_m_drop) = true)
    (a_Ages_m_note : PySem.W.findIn K (.ref k_Ages) "note" = some (some (.ref f_Ages_m_note)))
    (l_Ages_m_note : K.lookup f_Ages_m_note = some ⟨oc_Ages_m_note, od_Ages_m_note, .func (PySem.W.fnOf "note" "Ages.note" (defArgs s_Ages_m_note) (defBody s_Ages_m_note) (defScope s_Ages_m_note) .none kV_Ages_m_note dc_Ages_m_note pm_Ages_m_note an_Ages_m_note cd_Ages_m_note ct_Ages_m_note), sl_Ages_m_note⟩)
    (c_Ages_m_note : PySem.W.codeIn K cd_Ages_m_note "Ages.note" = true)
    (k_Ages_m_note : PySem.W.keepIn K (.ref f_Ages_m_note) = true)
    (i_Ages_m_note : PySem.W.isFn K (.ref f_Ages_m_note) = true)
    (a_Pointers_m_note : PySem.W.findIn K (.ref k_Pointers) "note" = some (some (.ref f_Pointers_m_note)))
    (l_Pointers_m_note : K.lookup f_Pointers_m_note = some ⟨oc_Pointers_m_note, od_Pointers_m_note, .func (PySem.W.fnOf "note" "Pointers.note" (defArgs s_Pointers_m_note) (defBody s_Pointers_m_note) (defScope s_Pointers_m_note) .none kV_Pointers_m_note dc_Pointers_m_note pm_Pointers_m_note an_Pointers_m_note cd_Pointers_m_note ct_Pointers_m_note), sl_Pointers_m_note⟩)
    (c_Pointers_m_note : PySem.W.codeIn K cd_Pointers_m_note "Pointers.note" = true)
    (k_Pointers_m_note : PySem.W.keepIn K (.ref f_Pointers_m_note) = true)
    (i_Pointers_m_note : PySem.W.isFn K (.ref f_Pointers_m_note) = true)
    (a_Ages_m_victim : PySem.W.findIn K (.ref k_Ages) "victim" = some (some (.ref f_Ages_m_victim)))
    (l_Ages_m_victim : K.lookup f_Ages_m_victim = some ⟨oc_Ages_m_victim, od_Ages_m_victim, .func (PySem.W.fnOf "victim" "Ages.victim" (defArgs s_Ages_m_victim) (defBody s_Ages_m_victim) (defScope s_Ages_m_victim) .none kV_Ages_m_victim dc_Ages_m_victim pm_Ages_m_victim an_Ages_m_victim cd_Ages_m_victim ct_Ages_m_victim), sl_Ages_m_victim⟩)
    (c_Ages_m_victim : PySem.W.codeIn K cd_Ages_m_victim "Ages.victim" = true)
    (k_Ages_m_victim : PySem.W.keepIn K (.ref f_Ages_m_victim) = true)
    (i_Ages_m_victim : PySem.W.isFn K (.ref f_Ages_m_victim) = true)
    (a_Pointers_m_victim : PySem.W.findIn K (.ref k_Pointers) "victim" = some (some (.ref f_Pointers_m_victim)))
    (l_Pointers_m_victim : K.lookup f_Pointers_m_victim = some ⟨oc_Pointers_m_victim, od_Pointers_m_victim, .func (PySem.W.fnOf "victim" "Pointers.victim" (defArgs s_Pointers_m_victim) (defBody s_Pointers_m_victim) (defScope s_Pointers_m_victim) .none kV_Pointers_m_victim dc_Pointers_m_victim pm_Pointers_m_victim an_Pointers_m_victim cd_Pointers_m_victim ct_Pointers_m_victim), sl_Pointers_m_victim⟩)
    (c_Pointers_m_victim : PySem.W.codeIn K cd_Pointers_m_victim "Pointers.victim" = true)
    (k_Pointers_m_victim : PySem.W.keepIn K (.ref f_Pointers_m_victim) = true)
    (i_Pointers_m_victim : PySem.W.isFn K (.ref f_Pointers_m_victim) = true)
    (a_Cache_m_put : PySem.W.findIn K (.ref k_Cache) "put" = some (some (.ref f_Cache_m_put)))
    (l_Cache_m_put : K.lookup f_Cache_m_put = some ⟨oc_Cache_m_put, od_Cache_m_put, .func (PySem.W.fnOf "put" "Cache.put" (defArgs s_Cache_m_put) (defBody s_Cache_m_put) (defScope s_Cache_m_put) .none kV_Cache_m_put dc_Cache_m_put pm_Cache_m_put an_Cache_m_put cd_Cache_m_put ct_Cache_m_put), sl_Cache_m_put⟩)
    (c_Cache_m_put : PySem.W.codeIn K cd_Cache_m_put "Cache.put" = true)
    (k_Cache_m_put : PySem.W.keepIn K (.ref f_Cache_m_put) = true)
    (i_Cache_m_put : PySem.W.isFn K (.ref f_Cache_m_put) = true)
    (a_Cache_m_touch : PySem.W.findIn K (.ref k_Cache) "touch" = some (some (.ref f_Cache_m_touch)))
    (l_Cache_m_touch : K.lookup f_Cache_m_touch = some ⟨oc_Cache_m_touch, od_Cache_m_touch, .func (PySem.W.fnOf "touch" "Cache.touch" (defArgs s_Cache_m_touch) (defBody s_Cache_m_touch) (defScope s_Cache_m_touch) .none kV_Cache_m_touch dc_Cache_m_touch pm_Cache_m_touch an_Cache_m_touch cd_Cache_m_touch ct_Cache_m_touch), sl_Cache_m_touch⟩)
    (c_Cache_m_touch : PySem.W.codeIn K cd_Cache_m_touch "Cache.touch" = true)
    (k_Cache_m_touch : PySem.W.keepIn K (.ref f_Cache_m_touch) = true)
    (i_Cache_m_touch : PySem.W.isFn K (.ref f_Cache_m_touch) = true)
    (a__law_begun : PySem.W.nsIn K mainGlobals "_law_begun" = some (some (.ref f__law_begun)))
    (l__law_begun : K.lookup f__law_begun = some ⟨oc__law_begun, od__law_begun, .func (PySem.W.fnOf "_law_begun" "_law_begun" (defArgs s__law_begun) (defBody s__law_begun) (defScope s__law_begun) .none kV__law_begun dc__law_begun pm__law_begun an__law_begun cd__law_begun ct__law_begun), sl__law_begun⟩)
    (c__law_begun : PySem.W.codeIn K cd__law_begun "_law_begun" = true)
    (k__law_begun : PySem.W.keepIn K (.ref f__law_begun) = true)
    (a__law_changed : PySem.W.nsIn K mainGlobals "_law_changed" = some (some (.ref f__law_changed)))
    (l__law_changed : K.lookup f__law_changed = some ⟨oc__law_changed, od__law_changed, .func (PySem.W.fnOf "_law_changed" "_law_changed" (defArgs s__law_changed) (defBody s__law_changed) (defScope s__law_changed) .none kV__law_changed dc__law_changed pm__law_changed an__law_changed cd__law_changed ct__law_changed), sl__law_changed⟩)
    (c__law_changed : PySem.W.codeIn K cd__law_changed "_law_changed" = true)
    (k__law_changed : PySem.W.keepIn K (.ref f__law_changed) = true)
    (a_law : PySem.W.nsIn K mainGlobals "law" = some (some (.ref f_law)))
    (l_law : K.lookup f_law = some ⟨oc_law, od_law, .func (PySem.W.fnOf "law" "law" (defArgs s_law) (defBody s_law) (defScope s_law) .none kV_law dc_law pm_law an_law cd_law ct_law), sl_law⟩)
    (c_law : PySem.W.codeIn K cd_law "law" = true)
    (k_law : PySem.W.keepIn K (.ref f_law) = true)
    (n_Pointers_ways : PySem.W.findIn K (.ref k_Pointers) "ways" = some none)
    (n_Pointers_sides : PySem.W.findIn K (.ref k_Pointers) "sides" = some none)
    (n_Ages_ages : PySem.W.findIn K (.ref k_Ages) "ages" = some none)
    (n_Ages_by_touch : PySem.W.findIn K (.ref k_Ages) "by_touch" = some none)
    (n_Ages_now : PySem.W.findIn K (.ref k_Ages) "now" = some none)
    (q5_Pointers : PySem.W.makesIn K k_Pointers = true)
    (q6_Pointers : PySem.W.findIn K (.ref k_Pointers) "__init__" = some (some (.ref f_Pointers_m___init__)))
    (q7_Pointers : PySem.W.keepIn K (.ref k_Pointers) = true)
    (q5_Ages : PySem.W.makesIn K k_Ages = true)
    (q6_Ages : PySem.W.findIn K (.ref k_Ages) "__init__" = some (some (.ref f_Ages_m___init__)))
    (q7_Ages : PySem.W.keepIn K (.ref k_Ages) = true)
    (n_Cache_sets : PySem.W.findIn K (.ref k_Cache) "sets" = some none)
    (n_Cache_line : PySem.W.findIn K (.ref k_Cache) "line" = some none)
    (n_Cache_rows : PySem.W.findIn K (.ref k_Cache) "rows" = some none)
    (n_Cache_held : PySem.W.findIn K (.ref k_Cache) "held" = some none)
    (n_Cache_orders : PySem.W.findIn K (.ref k_Cache) "orders" = some none)
    (x_Ages_victim : PySem.W.findIn K (.ref k_Ages) "victim" = some (some (.ref f_Ages_m_victim)))
    (x_Pointers_victim : PySem.W.findIn K (.ref k_Pointers) "victim" = some (some (.ref f_Pointers_m_victim)))
    (x_Cache_put : PySem.W.findIn K (.ref k_Cache) "put" = some (some (.ref f_Cache_m_put)))
    (x_Ages_note : PySem.W.findIn K (.ref k_Ages) "note" = some (some (.ref f_Ages_m_note)))
    (x_Pointers_note : PySem.W.findIn K (.ref k_Pointers) "note" = some (some (.ref f_Pointers_m_note)))
    (x_Cache_drop : PySem.W.findIn K (.ref k_Cache) "drop" = some (some (.ref f_Cache_m_drop)))
    (x_Cache_touch : PySem.W.findIn K (.ref k_Cache) "touch" = some (some (.ref f_Cache_m_touch)))
    (x_Cache_places : PySem.W.findIn K (.ref k_Cache) "places" = some (some (.ref f_Cache_m_places)))
    (q5_Cache : PySem.W.makesIn K k_Cache = true)
    (q6_Cache : PySem.W.findIn K (.ref k_Cache) "__init__" = some (some (.ref f_Cache_m___init__)))
    (q7_Cache : PySem.W.keepIn K (.ref k_Cache) = true)
    (u_dst : (([k_Ages, k_Pointers, k_Cache] : List Addr).drop 0 |>.take (2 - 0)).Nodup)
    (z_range : PySem.W.nsIn K mainGlobals "range" = some none)
    (z_min : PySem.W.nsIn K mainGlobals "min" = some none)
    (z_len : PySem.W.nsIn K mainGlobals "len" = some none)
    (z_abs : PySem.W.nsIn K mainGlobals "abs" = some none)
    (z_int : PySem.W.nsIn K mainGlobals "int" = some none)
    (z_tuple : PySem.W.nsIn K mainGlobals "tuple" = some none)
    (z_list : PySem.W.nsIn K mainGlobals "list" = some none)
    (z_sorted : PySem.W.nsIn K mainGlobals "sorted" = some none) :
    ∃ fd : FuncData, (∀ (s : Shared) (v : Value), BindsTo s fd ⟨[v], []⟩ [("script", v)]) ∧ ∀ base : Heap, K.In base → base.Ns mainGlobals mg → FnOk l.prog w K mg base (L2.CX l.prog w) 5 fa fd ["script"] (spY K 0 2 1 (fun cA => m_law cA)) := by
  have e := hfa.symm.trans (PySem.W.mg_of X G a_law)
  cases e
  have F__law_draws := fun_mk (st := s__law_draws) l__law_draws c__law_draws k__law_draws
  have D__law_draws : DefAt K mg "_law_draws" s__law_draws ["script"] _ _ := ⟨F__law_draws, PySem.W.mg_of X G a__law_draws, F__law_draws.binds fun _ _ _ _ _ _ us hl => match us, hl with | [_], _ => rfl⟩
  have F__law_reader := fun_mk (st := s__law_reader) l__law_reader c__law_reader k__law_reader
  have D__law_reader : DefAt K mg "_law_reader" s__law_reader ["script"] _ _ := ⟨F__law_reader, PySem.W.mg_of X G a__law_reader, F__law_reader.binds fun _ _ _ _ _ _ us hl => match us, hl with | [_], _ => rfl⟩
  have F__law_next := fun_mk (st := s__law_next) l__law_next c__law_next k__law_next
  have D__law_next : DefAt K mg "_law_next" s__law_next ["draws", "many"] _ _ := ⟨F__law_next, PySem.W.mg_of X G a__law_next, F__law_next.binds fun _ _ _ _ _ _ us hl => match us, hl with | [_, _], _ => rfl⟩
  have F__law_cache := fun_mk (st := s__law_cache) l__law_cache c__law_cache k__law_cache
  have D__law_cache : DefAt K mg "_law_cache" s__law_cache ["draws"] _ _ := ⟨F__law_cache, PySem.W.mg_of X G a__law_cache, F__law_cache.binds fun _ _ _ _ _ _ us hl => match us, hl with | [_], _ => rfl⟩
  have F_Pointers_m___init__ := fun_mk (st := s_Pointers_m___init__) l_Pointers_m___init__ c_Pointers_m___init__ k_Pointers_m___init__
  have D_Pointers_m___init__ : MetAt K "__init__" "Pointers.__init__" s_Pointers_m___init__ ["self", "ways"] _ _ := ⟨F_Pointers_m___init__, F_Pointers_m___init__.binds fun _ _ _ _ _ _ us hl => match us, hl with | [_, _], _ => rfl⟩
  have F_Ages_m___init__ := fun_mk (st := s_Ages_m___init__) l_Ages_m___init__ c_Ages_m___init__ k_Ages_m___init__
  have D_Ages_m___init__ : MetAt K "__init__" "Ages.__init__" s_Ages_m___init__ ["self", "ways", "by_touch"] _ _ := ⟨F_Ages_m___init__, F_Ages_m___init__.binds fun _ _ _ _ _ _ us hl => match us, hl with | [_, _, _], _ => rfl⟩
  have F_Cache_m___init__ := fun_mk (st := s_Cache_m___init__) l_Cache_m___init__ c_Cache_m___init__ k_Cache_m___init__
  have D_Cache_m___init__ : MetAt K "__init__" "Cache.__init__" s_Cache_m___init__ ["self", "settings"] _ _ := ⟨F_Cache_m___init__, F_Cache_m___init__.binds fun _ _ _ _ _ _ us hl => match us, hl with | [_, _], _ => rfl⟩
  have F_Cache_m_places := fun_mk (st := s_Cache_m_places) l_Cache_m_places c_Cache_m_places k_Cache_m_places
  have D_Cache_m_places : MetAt K "places" "Cache.places" s_Cache_m_places ["self", "number"] _ _ := ⟨F_Cache_m_places, F_Cache_m_places.binds fun _ _ _ _ _ _ us hl => match us, hl with | [_, _], _ => rfl⟩
  have F_Cache_m_drop := fun_mk (st := s_Cache_m_drop) l_Cache_m_drop c_Cache_m_drop k_Cache_m_drop
  have D_Cache_m_drop : MetAt K "drop" "Cache.drop" s_Cache_m_drop ["self", "address"] _ _ := ⟨F_Cache_m_drop, F_Cache_m_drop.binds fun _ _ _ _ _ _ us hl => match us, hl with | [_, _], _ => rfl⟩
  have F_Ages_m_note := fun_mk (st := s_Ages_m_note) l_Ages_m_note c_Ages_m_note k_Ages_m_note
  have D_Ages_m_note : MetAt K "note" "Ages.note" s_Ages_m_note ["self", "place", "missed"] _ _ := ⟨F_Ages_m_note, F_Ages_m_note.binds fun _ _ _ _ _ _ us hl => match us, hl with | [_, _, _], _ => rfl⟩
  have F_Pointers_m_note := fun_mk (st := s_Pointers_m_note) l_Pointers_m_note c_Pointers_m_note k_Pointers_m_note
  have D_Pointers_m_note : MetAt K "note" "Pointers.note" s_Pointers_m_note ["self", "place", "_"] _ _ := ⟨F_Pointers_m_note, F_Pointers_m_note.binds fun _ _ _ _ _ _ us hl => match us, hl with | [_, _, _], _ => rfl⟩
  have F_Ages_m_victim := fun_mk (st := s_Ages_m_victim) l_Ages_m_victim c_Ages_m_victim k_Ages_m_victim
  have D_Ages_m_victim : MetAt K "victim" "Ages.victim" s_Ages_m_victim ["self"] _ _ := ⟨F_Ages_m_victim, F_Ages_m_victim.binds fun _ _ _ _ _ _ us hl => match us, hl with | [_], _ => rfl⟩
  have F_Pointers_m_victim := fun_mk (st := s_Pointers_m_victim) l_Pointers_m_victim c_Pointers_m_victim k_Pointers_m_victim
  have D_Pointers_m_victim : MetAt K "victim" "Pointers.victim" s_Pointers_m_victim ["self"] _ _ := ⟨F_Pointers_m_victim, F_Pointers_m_victim.binds fun _ _ _ _ _ _ us hl => match us, hl with | [_], _ => rfl⟩
  have F_Cache_m_put := fun_mk (st := s_Cache_m_put) l_Cache_m_put c_Cache_m_put k_Cache_m_put
  have D_Cache_m_put : MetAt K "put" "Cache.put" s_Cache_m_put ["self", "number", "order"] _ _ := ⟨F_Cache_m_put, F_Cache_m_put.binds fun _ _ _ _ _ _ us hl => match us, hl with | [_, _, _], _ => rfl⟩
  have F_Cache_m_touch := fun_mk (st := s_Cache_m_touch) l_Cache_m_touch c_Cache_m_touch k_Cache_m_touch
  have D_Cache_m_touch : MetAt K "touch" "Cache.touch" s_Cache_m_touch ["self", "address"] _ _ := ⟨F_Cache_m_touch, F_Cache_m_touch.binds fun _ _ _ _ _ _ us hl => match us, hl with | [_, _], _ => rfl⟩
  have F__law_begun := fun_mk (st := s__law_begun) l__law_begun c__law_begun k__law_begun
  have D__law_begun : DefAt K mg "_law_begun" s__law_begun ["draws", "cache", "settings", "number"] _ _ := ⟨F__law_begun, PySem.W.mg_of X G a__law_begun, F__law_begun.binds fun _ _ _ _ _ _ us hl => match us, hl with | [_, _, _, _], _ => rfl⟩
  have F__law_changed := fun_mk (st := s__law_changed) l__law_changed c__law_changed k__law_changed
  have D__law_changed : DefAt K mg "_law_changed" s__law_changed ["before", "after"] _ _ := ⟨F__law_changed, PySem.W.mg_of X G a__law_changed, F__law_changed.binds fun _ _ _ _ _ _ us hl => match us, hl with | [_, _], _ => rfl⟩
  have F_law := fun_mk (st := s_law) l_law c_law k_law
  have D_law : DefAt K mg "law" s_law ["script"] _ _ := ⟨F_law, PySem.W.mg_of X G a_law, F_law.binds fun _ _ _ _ _ _ us hl => match us, hl with | [_], _ => rfl⟩
  have C_Ages : Cls K k_Ages := ⟨q1_Ages, q2_Ages, q3_Ages, q4_Ages⟩
  have C_Pointers : Cls K k_Pointers := ⟨q1_Pointers, q2_Pointers, q3_Pointers, q4_Pointers⟩
  have C_Cache : Cls K k_Cache := ⟨q1_Cache, q2_Cache, q3_Cache, q4_Cache⟩
  have fo_ways : FOk K [k_Pointers] "ways" := fun C h => by
    simp only [List.mem_cons, List.not_mem_nil, or_false] at h
    rcases h with rfl
    · exact ⟨C_Pointers, n_Pointers_ways⟩
  have fo_sides : FOk K [k_Pointers] "sides" := fun C h => by
    simp only [List.mem_cons, List.not_mem_nil, or_false] at h
    rcases h with rfl
    · exact ⟨C_Pointers, n_Pointers_sides⟩
  have fo_ages : FOk K [k_Ages] "ages" := fun C h => by
    simp only [List.mem_cons, List.not_mem_nil, or_false] at h
    rcases h with rfl
    · exact ⟨C_Ages, n_Ages_ages⟩
  have fo_by_touch : FOk K [k_Ages] "by_touch" := fun C h => by
    simp only [List.mem_cons, List.not_mem_nil, or_false] at h
    rcases h with rfl
    · exact ⟨C_Ages, n_Ages_by_touch⟩
  have fo_now : FOk K [k_Ages] "now" := fun C h => by
    simp only [List.mem_cons, List.not_mem_nil, or_false] at h
    rcases h with rfl
    · exact ⟨C_Ages, n_Ages_now⟩
  have N_Pointers : mg "Pointers" = some (.ref k_Pointers) := PySem.W.mg_of X G a_Pointers
  have M_Pointers : Mk K k_Pointers f_Pointers_m___init__ := ⟨q5_Pointers, q6_Pointers, i_Pointers_m___init__, q7_Pointers⟩
  have N_Ages : mg "Ages" = some (.ref k_Ages) := PySem.W.mg_of X G a_Ages
  have M_Ages : Mk K k_Ages f_Ages_m___init__ := ⟨q5_Ages, q6_Ages, i_Ages_m___init__, q7_Ages⟩
  have fo_sets : FOk K [k_Cache] "sets" := fun C h => by
    simp only [List.mem_cons, List.not_mem_nil, or_false] at h
    rcases h with rfl
    · exact ⟨C_Cache, n_Cache_sets⟩
  have fo_line : FOk K [k_Cache] "line" := fun C h => by
    simp only [List.mem_cons, List.not_mem_nil, or_false] at h
    rcases h with rfl
    · exact ⟨C_Cache, n_Cache_line⟩
  have fo_rows : FOk K [k_Cache] "rows" := fun C h => by
    simp only [List.mem_cons, List.not_mem_nil, or_false] at h
    rcases h with rfl
    · exact ⟨C_Cache, n_Cache_rows⟩
  have fo_held : FOk K [k_Cache] "held" := fun C h => by
    simp only [List.mem_cons, List.not_mem_nil, or_false] at h
    rcases h with rfl
    · exact ⟨C_Cache, n_Cache_held⟩
  have fo_orders : FOk K [k_Cache] "orders" := fun C h => by
    simp only [List.mem_cons, List.not_mem_nil, or_false] at h
    rcases h with rfl
    · exact ⟨C_Cache, n_Cache_orders⟩
  have X_Ages_victim : Cls K k_Ages ∧ Meth K k_Ages "victim" f_Ages_m_victim := ⟨C_Ages, x_Ages_victim, i_Ages_m_victim, k_Ages_m_victim⟩
  have X_Pointers_victim : Cls K k_Pointers ∧ Meth K k_Pointers "victim" f_Pointers_m_victim := ⟨C_Pointers, x_Pointers_victim, i_Pointers_m_victim, k_Pointers_m_victim⟩
  have X_Cache_put : Cls K k_Cache ∧ Meth K k_Cache "put" f_Cache_m_put := ⟨C_Cache, x_Cache_put, i_Cache_m_put, k_Cache_m_put⟩
  have X_Ages_note : Cls K k_Ages ∧ Meth K k_Ages "note" f_Ages_m_note := ⟨C_Ages, x_Ages_note, i_Ages_m_note, k_Ages_m_note⟩
  have X_Pointers_note : Cls K k_Pointers ∧ Meth K k_Pointers "note" f_Pointers_m_note := ⟨C_Pointers, x_Pointers_note, i_Pointers_m_note, k_Pointers_m_note⟩
  have X_Cache_drop : Cls K k_Cache ∧ Meth K k_Cache "drop" f_Cache_m_drop := ⟨C_Cache, x_Cache_drop, i_Cache_m_drop, k_Cache_m_drop⟩
  have X_Cache_touch : Cls K k_Cache ∧ Meth K k_Cache "touch" f_Cache_m_touch := ⟨C_Cache, x_Cache_touch, i_Cache_m_touch, k_Cache_m_touch⟩
  have X_Cache_places : Cls K k_Cache ∧ Meth K k_Cache "places" f_Cache_m_places := ⟨C_Cache, x_Cache_places, i_Cache_m_places, k_Cache_m_places⟩
  have N_Cache : mg "Cache" = some (.ref k_Cache) := PySem.W.mg_of X G a_Cache
  have M_Cache : Mk K k_Cache f_Cache_m___init__ := ⟨q5_Cache, q6_Cache, i_Cache_m___init__, q7_Cache⟩
  refine ⟨PySem.W.fnOf "law" "law" (defArgs s_law) (defBody s_law) (defScope s_law) .none kV_law dc_law pm_law an_law cd_law ct_law, fun s v => .of_eq rfl, fun base _ _ => ?_⟩
  have G__law_draws := (ok__law_draws (P := l.prog) (w := w) (mg := mg) (base := base) D__law_draws (PySem.W.mg_none_of X G z_range) (PySem.W.mg_none_of X G z_min) (PySem.W.mg_none_of X G z_len) (PySem.W.mg_none_of X G z_abs) (PySem.W.mg_none_of X G z_int))
  have G__law_reader := (ok__law_reader (P := l.prog) (w := w) (mg := mg) (base := base) D__law_reader D__law_draws G__law_draws (PySem.W.mg_none_of X G z_len) (PySem.W.mg_none_of X G z_abs))
  have G__law_next := (ok__law_next (P := l.prog) (w := w) (mg := mg) (base := base) D__law_next (PySem.W.mg_none_of X G z_len) (PySem.W.mg_none_of X G z_int))
  have G__law_cache := (ok__law_cache (P := l.prog) (w := w) (mg := mg) (base := base) D__law_cache D__law_next G__law_next)
  have G_Pointers_m___init__ := (ok_Pointers_m___init__ (P := l.prog) (w := w) (mg := mg) (base := base) (cA := fun i => ([k_Ages, k_Pointers, k_Cache] : List Addr).getD i 0) D_Pointers_m___init__ fo_ways fo_sides)
  have G_Ages_m___init__ := (ok_Ages_m___init__ (P := l.prog) (w := w) (mg := mg) (base := base) (cA := fun i => ([k_Ages, k_Pointers, k_Cache] : List Addr).getD i 0) D_Ages_m___init__ fo_ages fo_by_touch fo_now)
  have G_Cache_m___init__ := (ok_Cache_m___init__ (P := l.prog) (w := w) (mg := mg) (base := base) (cA := fun i => ([k_Ages, k_Pointers, k_Cache] : List Addr).getD i 0) D_Cache_m___init__ D_Pointers_m___init__ D_Ages_m___init__ G_Pointers_m___init__ G_Ages_m___init__ (PySem.W.mg_none_of X G z_range) N_Pointers M_Pointers N_Ages M_Ages fo_sets fo_line fo_rows fo_held fo_orders)
  have G_Cache_m_places := (ok_Cache_m_places (P := l.prog) (w := w) (mg := mg) (base := base) (cA := fun i => ([k_Ages, k_Pointers, k_Cache] : List Addr).getD i 0) D_Cache_m_places (PySem.W.mg_none_of X G z_tuple) fo_rows)
  have G_Cache_m_drop := (ok_Cache_m_drop (P := l.prog) (w := w) (mg := mg) (base := base) (cA := fun i => ([k_Ages, k_Pointers, k_Cache] : List Addr).getD i 0) D_Cache_m_drop fo_line fo_held fo_rows fo_sets)
  have G_Ages_m_note := (ok_Ages_m_note (P := l.prog) (w := w) (mg := mg) (base := base) (cA := fun i => ([k_Ages, k_Pointers, k_Cache] : List Addr).getD i 0) D_Ages_m_note fo_by_touch fo_now fo_ages)
  have G_Pointers_m_note := (ok_Pointers_m_note (P := l.prog) (w := w) (mg := mg) (base := base) (cA := fun i => ([k_Ages, k_Pointers, k_Cache] : List Addr).getD i 0) D_Pointers_m_note fo_ways fo_sides)
  have G_Ages_m_victim := (ok_Ages_m_victim (P := l.prog) (w := w) (mg := mg) (base := base) (cA := fun i => ([k_Ages, k_Pointers, k_Cache] : List Addr).getD i 0) D_Ages_m_victim (PySem.W.mg_none_of X G z_min) fo_ages)
  have G_Pointers_m_victim := (ok_Pointers_m_victim (P := l.prog) (w := w) (mg := mg) (base := base) (cA := fun i => ([k_Ages, k_Pointers, k_Cache] : List Addr).getD i 0) D_Pointers_m_victim fo_ways fo_sides)
  have G_Cache_m_put := (ok_Cache_m_put (P := l.prog) (w := w) (mg := mg) (base := base) (cA := fun i => ([k_Ages, k_Pointers, k_Cache] : List Addr).getD i 0) D_Cache_m_put D_Ages_m_victim D_Pointers_m_victim G_Ages_m_victim G_Pointers_m_victim X_Ages_victim X_Pointers_victim fo_rows fo_sets fo_held)
  have G_Cache_m_touch := (ok_Cache_m_touch (P := l.prog) (w := w) (mg := mg) (base := base) (cA := fun i => ([k_Ages, k_Pointers, k_Cache] : List Addr).getD i 0) D_Cache_m_touch D_Cache_m_put D_Ages_m_note D_Pointers_m_note G_Cache_m_put G_Ages_m_note G_Pointers_m_note X_Cache_put X_Ages_note X_Pointers_note fo_line fo_orders fo_sets fo_held)
  have G__law_begun := (ok__law_begun (P := l.prog) (w := w) (mg := mg) (base := base) (cA := fun i => ([k_Ages, k_Pointers, k_Cache] : List Addr).getD i 0) D__law_begun D__law_next D_Cache_m_drop D_Cache_m_touch D_Cache_m_places G__law_next G_Cache_m_drop G_Cache_m_touch G_Cache_m_places (PySem.W.mg_none_of X G z_range) (PySem.W.mg_none_of X G z_list) X_Cache_drop X_Cache_touch X_Cache_places)
  have G__law_changed := (ok__law_changed (P := l.prog) (w := w) (mg := mg) (base := base) D__law_changed (PySem.W.mg_none_of X G z_range) (PySem.W.mg_none_of X G z_len))
  have G_law := (ok_law (P := l.prog) (w := w) (mg := mg) (base := base) (cA := fun i => ([k_Ages, k_Pointers, k_Cache] : List Addr).getD i 0) D_law D__law_reader D__law_cache D_Cache_m___init__ D__law_next D__law_begun D_Cache_m_places D_Cache_m_touch D__law_changed G__law_reader G__law_cache G_Cache_m___init__ G__law_next G__law_begun G_Cache_m_places G_Cache_m_touch G__law_changed (PySem.W.mg_none_of X G z_sorted) (PySem.W.mg_none_of X G z_range) (PySem.W.mg_none_of X G z_len) (PySem.W.mg_none_of X G z_list) N_Cache M_Cache X_Cache_places X_Cache_touch)
  exact G_law.imp fun vs H Q E h => h _ (dst_of u_dst (by simp))
end GK22
open PySem PySem.W
open PyProof.Rows hiding St
set_option maxHeartbeats 0 in
theorem PySem.Challenge.cw_sameclock_k22_misses_turn_a_set_over_holds : PySem.Challenge.rw_sameclock_k22_misses_turn_a_set_over.Holds := by
  w_on; o_law; k_head; (case hw => w_witness2)
  k_fill
  refine L2.walk_ofB (l := PySem.Challenge.rw_sameclock_k22_misses_turn_a_set_over) (n := 63) (k := 5) (x := "script") (CX := fun w => L2.CX (PySem.Challenge.rw_sameclock_k22_misses_turn_a_set_over).prog w) (sp := fun w => Ly.spY _ 0 2 1 (fun cA => GK22.m_law cA)) rfl (by decide) rfl ⟨rfl, by decide, by decide⟩ (fun w h Y => PySem.W.kIn_of Y) ?F (fun w H a ns hl hb hO hS => Ly.law_endY (m := fun cA => GK22.m_law cA) GK22.law_true hl hb hO hS) (fun w H s e s' => Ly.law_noexc)
  case F =>
    intro w mg fa h KX G hmg
    refine' GK22.all_mk KX G hmg ?a_Ages ?q1_Ages ?q2_Ages ?q3_Ages ?q4_Ages ?a_Pointers ?q1_Pointers ?q2_Pointers ?q3_Pointers ?q4_Pointers ?a_Cache ?q1_Cache ?q2_Cache ?q3_Cache ?q4_Cache ?a__law_draws ?l__law_draws ?c__law_draws ?k__law_draws ?a__law_reader ?l__law_reader ?c__law_reader ?k__law_reader ?a__law_next ?l__law_next ?c__law_next ?k__law_next ?a__law_cache ?l__law_cache ?c__law_cache ?k__law_cache ?a_Pointers_m___init__ ?l_Pointers_m___init__ ?c_Pointers_m___init__ ?k_Pointers_m___init__ ?i_Pointers_m___init__ ?a_Ages_m___init__ ?l_Ages_m___init__ ?c_Ages_m___init__ ?k_Ages_m___init__ ?i_Ages_m___init__ ?a_Cache_m___init__ ?l_Cache_m___init__ ?c_Cache_m___init__ ?k_Cache_m___init__ ?i_Cache_m___init__ ?a_Cache_m_places ?l_Cache_m_places ?c_Cache_m_places ?k_Cache_m_places ?i_Cache_m_places ?a_Cache_m_drop ?l_Cache_m_drop ?c_Cache_m_drop ?k_Cache_m_drop ?i_Cache_m_drop ?a_Ages_m_note ?l_Ages_m_note ?c_Ages_m_note ?k_Ages_m_note ?i_Ages_m_note ?a_Pointers_m_note ?l_Pointers_m_note ?c_Pointers_m_note ?k_Pointers_m_note ?i_Pointers_m_note ?a_Ages_m_victim ?l_Ages_m_victim ?c_Ages_m_victim ?k_Ages_m_victim ?i_Ages_m_victim ?a_Pointers_m_victim ?l_Pointers_m_victim ?c_Pointers_m_victim ?k_Pointers_m_victim ?i_Pointers_m_victim ?a_Cache_m_put ?l_Cache_m_put ?c_Cache_m_put ?k_Cache_m_put ?i_Cache_m_put ?a_Cache_m_touch ?l_Cache_m_touch ?c_Cache_m_touch ?k_Cache_m_touch ?i_Cache_m_touch ?a__law_begun ?l__law_begun ?c__law_begun ?k__law_begun ?a__law_changed ?l__law_changed ?c__law_changed ?k__law_changed ?a_law ?l_law ?c_law ?k_law ?n_Pointers_ways ?n_Pointers_sides ?n_Ages_ages ?n_Ages_by_touch ?n_Ages_now ?q5_Pointers ?q6_Pointers ?q7_Pointers ?q5_Ages ?q6_Ages ?q7_Ages ?n_Cache_sets ?n_Cache_line ?n_Cache_rows ?n_Cache_held ?n_Cache_orders ?x_Ages_victim ?x_Pointers_victim ?x_Cache_put ?x_Ages_note ?x_Pointers_note ?x_Cache_drop ?x_Cache_touch ?x_Cache_places ?q5_Cache ?q6_Cache ?q7_Cache ?u_dst ?z_range ?z_min ?z_len ?z_abs ?z_int ?z_tuple ?z_list ?z_sorted
    (case a_Ages => k_is)
    (case q1_Ages => k_is)
    (case q2_Ages => k_is)
    (case q3_Ages => k_is)
    (case q4_Ages => k_is)
    (case a_Pointers => k_is)
    (case q1_Pointers => k_is)
    (case q2_Pointers => k_is)
    (case q3_Pointers => k_is)
    (case q4_Pointers => k_is)
    (case a_Cache => k_is)
    (case q1_Cache => k_is)
    (case q2_Cache => k_is)
    (case q3_Cache => k_is)
    (case q4_Cache => k_is)
    (case a__law_draws => k_is)
    (case l__law_draws => k_is)
    (case c__law_draws => k_is)
    (case k__law_draws => k_is)
    (case a__law_reader => k_is)
    (case l__law_reader => k_is)
    (case c__law_reader => k_is)
    (case k__law_reader => k_is)
    (case a__law_next => k_is)
    (case l__law_next => k_is)
    (case c__law_next => k_is)
    (case k__law_next => k_is)
    (case a__law_cache => k_is)
    (case l__law_cache => k_is)
    (case c__law_cache => k_is)
    (case k__law_cache => k_is)
    (case a_Pointers_m___init__ => k_is)
    (case l_Pointers_m___init__ => k_is)
    (case c_Pointers_m___init__ => k_is)
    (case k_Pointers_m___init__ => k_is)
    (case i_Pointers_m___init__ => k_is)
    (case a_Ages_m___init__ => k_is)
    (case l_Ages_m___init__ => k_is)
    (case c_Ages_m___init__ => k_is)
    (case k_Ages_m___init__ => k_is)
    (case i_Ages_m___init__ => k_is)
    (case a_Cache_m___init__ => k_is)
    (case l_Cache_m___init__ => k_is)
    (case c_Cache_m___init__ => k_is)
    (case k_Cache_m___init__ => k_is)
    (case i_Cache_m___init__ => k_is)
    (case a_Cache_m_places => k_is)
    (case l_Cache_m_places => k_is)
    (case c_Cache_m_places => k_is)
    (case k_Cache_m_places => k_is)
    (case i_Cache_m_places => k_is)
    (case a_Cache_m_drop => k_is)
    (case l_Cache_m_drop => k_is)
    (case c_Cache_m_drop => k_is)
    (case k_Cache_m_drop => k_is)
    (case i_Cache_m_drop => k_is)
    (case a_Ages_m_note => k_is)
    (case l_Ages_m_note => k_is)
    (case c_Ages_m_note => k_is)
    (case k_Ages_m_note => k_is)
    (case i_Ages_m_note => k_is)
    (case a_Pointers_m_note => k_is)
    (case l_Pointers_m_note => k_is)
    (case c_Pointers_m_note => k_is)
    (case k_Pointers_m_note => k_is)
    (case i_Pointers_m_note => k_is)
    (case a_Ages_m_victim => k_is)
    (case l_Ages_m_victim => k_is)
    (case c_Ages_m_victim => k_is)
    (case k_Ages_m_victim => k_is)
    (case i_Ages_m_victim => k_is)
    (case a_Pointers_m_victim => k_is)
    (case l_Pointers_m_victim => k_is)
    (case c_Pointers_m_victim => k_is)
    (case k_Pointers_m_victim => k_is)
    (case i_Pointers_m_victim => k_is)
    (case a_Cache_m_put => k_is)
    (case l_Cache_m_put => k_is)
    (case c_Cache_m_put => k_is)
    (case k_Cache_m_put => k_is)
    (case i_Cache_m_put => k_is)
    (case a_Cache_m_touch => k_is)
    (case l_Cache_m_touch => k_is)
    (case c_Cache_m_touch => k_is)
    (case k_Cache_m_touch => k_is)
    (case i_Cache_m_touch => k_is)
    (case a__law_begun => k_is)
    (case l__law_begun => k_is)
    (case c__law_begun => k_is)
    (case k__law_begun => k_is)
    (case a__law_changed => k_is)
    (case l__law_changed => k_is)
    (case c__law_changed => k_is)
    (case k__law_changed => k_is)
    (case a_law => k_is)
    (case l_law => k_is)
    (case c_law => k_is)
    (case k_law => k_is)
    (case n_Pointers_ways => k_is)
    (case n_Pointers_sides => k_is)
    (case n_Ages_ages => k_is)
    (case n_Ages_by_touch => k_is)
    (case n_Ages_now => k_is)
    (case q5_Pointers => k_is)
    (case q6_Pointers => k_is)
    (case q7_Pointers => k_is)
    (case q5_Ages => k_is)
    (case q6_Ages => k_is)
    (case q7_Ages => k_is)
    (case n_Cache_sets => k_is)
    (case n_Cache_line => k_is)
    (case n_Cache_rows => k_is)
    (case n_Cache_held => k_is)
    (case n_Cache_orders => k_is)
    (case x_Ages_victim => k_is)
    (case x_Pointers_victim => k_is)
    (case x_Cache_put => k_is)
    (case x_Ages_note => k_is)
    (case x_Pointers_note => k_is)
    (case x_Cache_drop => k_is)
    (case x_Cache_touch => k_is)
    (case x_Cache_places => k_is)
    (case q5_Cache => k_is)
    (case q6_Cache => k_is)
    (case q7_Cache => k_is)
    (case u_dst => decide)
    (case z_range => k_is)
    (case z_min => k_is)
    (case z_len => k_is)
    (case z_abs => k_is)
    (case z_int => k_is)
    (case z_tuple => k_is)
    (case z_list => k_is)
    (case z_sorted => k_is)
