import PyProof.Rows.All
import Wide.All
import OpenK.AllK
import Wide.FinOn
import HandS.ForMost
import HandS.ForExc
import HandS.TupAny
import HandS.Wide
import HandS.Codes
import HandS.StrMore
import HandS.RaiseMore
import HandS.FStr
import HandS.More
import HandS.IsInst
import HandS.Style
import HandS.Deep
import HandS.Text
import HandS.TupLen
import HandS.Flow
import HandS.Iter
import HandS.Comp
import HandS.Exc
import HandS.CallSlots
import HandS.Words
import HandS.WordsExc
import HandS.Zip
import KE.GoesMore
import KE.GoesEnum
import KE.GoesZip
import HandS.Rev
import HandS.EndBits
import HandS.HeadHook3
import HandS.DictComp
import HandS.SetKeys
import HandS.Conv
import HandS.SortInts
import HandS.CallLocal
import PyProof.StrLawsIn
import HandS.WideBits
import HandS.TupMul
import KE.KDictZip
import KE.KDictPairs
import KE.KDictKeyed
import HandS.SetFor
import HandS.Strs
import HandS.SortKw
import KE.DataMinMax
import HandS.List
import HandS.RevRange
import HandS.RevTup
import HandS.ExcOwn
import HandS.ExcInit
import HandS.ExcIs
import HandS.ExcField
import HandS.TryMany
import HandS.TryOnly
import HandS.Small
import KE.KExcSuper
import KE.KSuper
import HandS.ExcSuper
import HandS.ClsMeth
import KE.KExcIs
import HandS.Head0
import HandS.Head1
import HandS.Head2
import HandS.HeadHook1
import Wide.Once
import HandS.NoneIn
import HandS.DictTup
import KE.KeyNested
import PySem.Challenge.RW_sameclock_k45_common_values
set_option Elab.async false
set_option linter.all false
set_option maxRecDepth 100000
namespace Ly
open PySem PySem.Spec L2
open PyProof.Rows hiding St
inductive D where
  | non | bl (b : Bool) | int (i : Int) | str (x : Str) | tup (xs : List D) | wt (xs : List D) | wl (xs : List D) | ref (i : Nat) | cst (a : Addr)
inductive O where
  | lst (xs : List D) | rol (xs : List D) | dic (kvs : List (Key × D)) | dit (kvs : List (List Key × D)) | ins (C : Addr) (fs : List (Str × D))
  | fdc (kvs : List (Key × D)) | fdt (kvs : List (List Key × D))
def O.fz : O → Bool | .rol _ => true | .fdc _ => true | .fdt _ => true | _ => false
abbrev Hs := List O
abbrev Ls := List (Option D)
def Wt (K : PySem.W.Frag) (a : Addr) (xs : List V) : Prop :=
  ∃ (o : Obj) (its : Array Value) (n : Nat), K.lookup a = some o ∧ o.cls = .type "tuple" ∧ o.data = .seq its n ∧ its.size ≤ sizeLine ∧ Vals xs its.toList
def Wl (K : PySem.W.Frag) (a : Addr) (xs : List V) : Prop :=
  ∃ (o : Obj) (its : Array Value) (n : Nat), K.lookup a = some o ∧ o.cls = .type "list" ∧ o.dict = none ∧ o.data = .seq its n ∧ its.size ≤ sizeLine ∧ Vals xs its.toList
theorem Wl.sq {K : PySem.W.Frag} {H : Hp} {a : Addr} {xs : List V} (h : Wl K a xs) : SqL K H a xs := .inr h
theorem Wt.sq {K : PySem.W.Frag} {H : Hp} {a : Addr} {xs : List V} (h : Wt K a xs) : SqT K H a xs := .inr h
section
variable (K : PySem.W.Frag) (pi : Nat → Addr) (n : Nat) (H : Hp)
mutual
inductive Rep : D → V → Prop
  | non : Rep .non .non
  | bl (b : Bool) : Rep (.bl b) (.bl b)
  | int (i : Int) : Rep (.int i) (.int i)
  | str (x : Str) : Rep (.str x) (.str x)
  | tup {a : Addr} {ds : List D} {xs : List V} : H a = some (.tup xs) → Reps ds xs → Rep (.tup ds) (.ref a)
  | wt {a : Addr} {ds : List D} {xs : List V} : Wt K a xs → Reps ds xs → Rep (.wt ds) (.ref a)
  | wl {a : Addr} {ds : List D} {xs : List V} : Wl K a xs → Reps ds xs → Rep (.wl ds) (.ref a)
  | ref {i : Nat} : i < n → Rep (.ref i) (.ref (pi i))
  | cst (a : Addr) : Rep (.cst a) (.ref a)
inductive Reps : List D → List V → Prop
  | nil : Reps [] []
  | cons {d : D} {ds : List D} {v : V} {vs : List V} : Rep d v → Reps ds vs → Reps (d :: ds) (v :: vs)
end
inductive Sl : Ls → St → Prop
  | nil : Sl [] []
  | no {l : Ls} {s : St} (o : Option V) : Sl l s → Sl (none :: l) (o :: s)
  | yes {l : Ls} {s : St} {d : D} {v : V} : Rep K pi n H d v → Sl l s → Sl (some d :: l) (some v :: s)
def RO (a : Addr) : O → Prop
  | .lst ds => ∃ xs, H a = some (.lst xs) ∧ Reps K pi n H ds xs
  | .rol ds => ∃ o xs, H a = some (.frz o (.lst xs)) ∧ Reps K pi n H ds xs
  | .dic kvs => ∃ ks, H a = some (.dK ks) ∧ ks.map (·.1) = kvs.map (·.1) ∧ Reps K pi n H (kvs.map (·.2)) (ks.map (·.2))
  | .dit kvs => ∃ ks, H a = some (.dT ks) ∧ ks.map (·.1) = kvs.map (·.1) ∧ Reps K pi n H (kvs.map (·.2)) (ks.map (·.2))
  | .ins C fs => ∃ dx ks, H a = some (.ins C dx ks) ∧ ks.map (·.1) = fs.map (·.1) ∧ Reps K pi n H (fs.map (·.2)) (ks.map (·.2))
  | .fdc kvs => ∃ ob ks, H a = some (.frz ob (.dK ks)) ∧ ks.map (·.1) = kvs.map (·.1) ∧ Reps K pi n H (kvs.map (·.2)) (ks.map (·.2))
  | .fdt kvs => ∃ ob ks, H a = some (.frz ob (.dT ks)) ∧ ks.map (·.1) = kvs.map (·.1) ∧ Reps K pi n H (kvs.map (·.2)) (ks.map (·.2))
end
def NF (S : Hs) (i : Nat) : Prop := ∃ o, S[i]? = some o ∧ o.fz = false
structure Real (K : PySem.W.Frag) (pi : Nat → Addr) (S : Hs) (H : Hp) : Prop where
  ob : ∀ i o, S[i]? = some o → RO K pi S.length H (pi i) o
  inj : ∀ i j, i < S.length → j < S.length → pi i = pi j → i = j
structure Ext (n m : Nat) (pi pi' : Nat → Addr) (H H' : Hp) : Prop where
  le : n ≤ m
  ag : ∀ i, i < n → pi' i = pi i
  tp : ∀ a xs, H a = some (.tup xs) → H' a = some (.tup xs)
  fz : ∀ a ob u, H a = some (.frz ob u) → H' a = some (.frz ob u)
theorem Ext.refl {n : Nat} {pi : Nat → Addr} {H : Hp} : Ext n n pi pi H H := ⟨Nat.le_refl _, fun _ _ => rfl, fun _ _ h => h, fun _ _ _ h => h⟩
theorem Ext.trans {n m k : Nat} {p q r : Nat → Addr} {H H1 H2 : Hp} (a : Ext n m p q H H1) (b : Ext m k q r H1 H2) : Ext n k p r H H2 :=
  ⟨Nat.le_trans a.le b.le, fun i h => (b.ag i (Nat.lt_of_lt_of_le h a.le)).trans (a.ag i h), fun x xs h => b.tp x xs (a.tp x xs h), fun x ob u h => b.fz x ob u (a.fz x ob u h)⟩
section
variable {K : PySem.W.Frag} {pi pi' : Nat → Addr} {n m : Nat} {H H' : Hp}
mutual
theorem Rep.ext (x : Ext n m pi pi' H H') : ∀ (d : D) (v : V), Rep K pi n H d v → Rep K pi' m H' d v
  | .non, _, .non => .non
  | .bl _, _, .bl _ => .bl _
  | .int _, _, .int _ => .int _
  | .str _, _, .str _ => .str _
  | .tup ds, _, .tup t r => .tup (x.tp _ _ t) (Reps.ext x ds _ r)
  | .wt ds, _, .wt t r => .wt t (Reps.ext x ds _ r)
  | .wl ds, _, .wl t r => .wl t (Reps.ext x ds _ r)
  | .ref i, _, .ref h => by rw [← x.ag i h]; exact .ref (Nat.lt_of_lt_of_le h x.le)
  | .cst _, _, .cst _ => .cst _
theorem Reps.ext (x : Ext n m pi pi' H H') : ∀ (d : List D) (v : List V), Reps K pi n H d v → Reps K pi' m H' d v
  | [], _, .nil => .nil
  | d :: ds, _, .cons r s => .cons (Rep.ext x d _ r) (Reps.ext x ds _ s)
end
theorem Sl.ext (x : Ext n m pi pi' H H') {l : Ls} {s : St} (h : Sl K pi n H l s) : Sl K pi' m H' l s := by
  induction h with
  | nil => exact .nil
  | no o _ ih => exact .no o ih
  | yes r _ ih => exact .yes (r.ext x _ _) ih
theorem RO.ext (x : Ext n m pi pi' H H') {a : Addr} {o : O} (h : RO K pi n H a o) (e : H' a = H a) : RO K pi' m H' a o := by
  cases o with
  | lst ds => obtain ⟨xs, h1, h2⟩ := h; exact ⟨xs, e.trans h1, h2.ext x _ _⟩
  | rol ds => obtain ⟨o, xs, h1, h2⟩ := h; exact ⟨o, xs, e.trans h1, h2.ext x _ _⟩
  | dic kvs => obtain ⟨ks, h1, h2, h3⟩ := h; exact ⟨ks, e.trans h1, h2, h3.ext x _ _⟩
  | dit kvs => obtain ⟨ks, h1, h2, h3⟩ := h; exact ⟨ks, e.trans h1, h2, h3.ext x _ _⟩
  | ins C fs => obtain ⟨dx, ks, h1, h2, h3⟩ := h; exact ⟨dx, ks, e.trans h1, h2, h3.ext x _ _⟩
  | fdc kvs => obtain ⟨ob, ks, h1, h2, h3⟩ := h; exact ⟨ob, ks, e.trans h1, h2, h3.ext x _ _⟩
  | fdt kvs => obtain ⟨ob, ks, h1, h2, h3⟩ := h; exact ⟨ob, ks, e.trans h1, h2, h3.ext x _ _⟩
theorem RO.some {a : Addr} {o : O} (h : RO K pi n H a o) : ∃ u, H a = some u ∧ ∀ xs, u ≠ .tup xs := by
  cases o with
  | lst ds => obtain ⟨xs, h1, h2⟩ := h; exact ⟨_, h1, fun _ => nofun⟩
  | rol ds => obtain ⟨o, xs, h1, h2⟩ := h; exact ⟨_, h1, fun _ => nofun⟩
  | dic kvs => obtain ⟨ks, h1, h2, h3⟩ := h; exact ⟨_, h1, fun _ => nofun⟩
  | dit kvs => obtain ⟨ks, h1, h2, h3⟩ := h; exact ⟨_, h1, fun _ => nofun⟩
  | ins C fs => obtain ⟨dx, ks, h1, h2, h3⟩ := h; exact ⟨_, h1, fun _ => nofun⟩
  | fdc kvs => obtain ⟨ob, ks, h1, h2, h3⟩ := h; exact ⟨_, h1, fun _ => nofun⟩
  | fdt kvs => obtain ⟨ob, ks, h1, h2, h3⟩ := h; exact ⟨_, h1, fun _ => nofun⟩
theorem ro_nofz {a : Addr} {o : O} (h : RO K pi n H a o) (f : O.fz o = false) : ∀ (ob : Obj) (u : HO), H a ≠ some (HO.frz ob u) := by
  intro ob u e
  cases o with
  | lst ds => obtain ⟨xs, h1, _⟩ := h; rw [e] at h1; cases h1
  | rol ds => cases f
  | dic kvs => obtain ⟨ks, h1, _⟩ := h; rw [e] at h1; cases h1
  | dit kvs => obtain ⟨ks, h1, _⟩ := h; rw [e] at h1; cases h1
  | ins C fs => obtain ⟨dx, ks, h1, _⟩ := h; rw [e] at h1; cases h1
  | fdc kvs => cases f
  | fdt kvs => cases f
theorem Reps.len {ds : List D} {vs : List V} (h : Reps K pi n H ds vs) : ds.length = vs.length := by
  induction ds generalizing vs with
  | nil => cases h; rfl
  | cons d ds ih => cases h with | cons r s => rw [List.length_cons, List.length_cons, ih s]
theorem Reps.append {ds es : List D} {vs us : List V} (h : Reps K pi n H ds vs) (g : Reps K pi n H es us) : Reps K pi n H (ds ++ es) (vs ++ us) := by
  induction ds generalizing vs with
  | nil => cases h; exact g
  | cons d ds ih => cases h with | cons r s => exact .cons r (ih s)
theorem Reps.get {ds : List D} {vs : List V} (h : Reps K pi n H ds vs) {i : Nat} {d : D} (e : ds[i]? = some d) : ∃ v, vs[i]? = some v ∧ Rep K pi n H d v := by
  induction ds generalizing vs i with
  | nil => simp at e
  | cons d ds ih =>
    cases h with
    | cons r s =>
      cases i with
      | zero => simp at e; subst e; exact ⟨_, rfl, r⟩
      | succ i => simpa using ih s (by simpa using e)
theorem Reps.take {ds : List D} {vs : List V} (h : Reps K pi n H ds vs) (i : Nat) : Reps K pi n H (ds.take i) (vs.take i) := by
  induction ds generalizing vs i with
  | nil => cases h; simp; exact .nil
  | cons d ds ih => cases h with | cons r s => cases i with | zero => exact .nil | succ i => exact .cons r (ih s i)
theorem Reps.drop {ds : List D} {vs : List V} (h : Reps K pi n H ds vs) (i : Nat) : Reps K pi n H (ds.drop i) (vs.drop i) := by
  induction ds generalizing vs i with
  | nil => cases h; simp; exact .nil
  | cons d ds ih => cases h with | cons r s => cases i with | zero => exact .cons r s | succ i => exact ih s i
theorem Reps.set {ds : List D} {vs : List V} (h : Reps K pi n H ds vs) (i : Nat) {d : D} {v : V} (r : Rep K pi n H d v) : Reps K pi n H (ds.set i d) (vs.set i v) := by
  induction ds generalizing vs i with
  | nil => cases h; exact .nil
  | cons d ds ih => cases h with | cons r s => cases i with | zero => exact .cons (by assumption) s | succ i => exact .cons r (ih s i)
theorem Sl.len {l : Ls} {s : St} (h : Sl K pi n H l s) : l.length = s.length := by
  induction h with
  | nil => rfl
  | no _ _ ih => simp [ih]
  | yes _ _ ih => simp [ih]
theorem Sl.get {l : Ls} {s : St} (h : Sl K pi n H l s) {i : Nat} {d : D} (e : l[i]? = some (some d)) : ∃ v, s[i]? = some (some v) ∧ Rep K pi n H d v := by
  induction h generalizing i with
  | nil => simp at e
  | no o _ ih =>
    cases i with
    | zero => simp at e
    | succ i => simpa using ih (by simpa using e)
  | yes r _ ih =>
    cases i with
    | zero => simp at e; subst e; exact ⟨_, rfl, r⟩
    | succ i => simpa using ih (by simpa using e)
theorem Sl.set {l : Ls} {s : St} (h : Sl K pi n H l s) (i : Nat) {d : D} {v : V} (r : Rep K pi n H d v) : Sl K pi n H (l.set i (some d)) (s.set i (some v)) := by
  induction h generalizing i with
  | nil => exact .nil
  | no o t ih => cases i with | zero => exact .yes r t | succ i => exact .no o (ih i)
  | yes q t ih => cases i with | zero => exact .yes r t | succ i => exact .yes q (ih i)
theorem Sl.skip {l : Ls} {s : St} (h : Sl K pi n H l s) (i : Nat) (o : Option V) : Sl K pi n H (l.set i none) (s.set i o) := by
  induction h generalizing i with
  | nil => exact .nil
  | no o t ih => cases i with | zero => exact .no _ t | succ i => exact .no _ (ih i)
  | yes q t ih => cases i with | zero => exact .no _ t | succ i => exact .yes q (ih i)
def piN (pi : Nat → Addr) (n : Nat) (p : Addr) : Nat → Addr := fun i => if i = n then p else pi i
theorem piN_same {p : Addr} : piN pi n p n = p := if_pos rfl
theorem piN_ne {p : Addr} {i : Nat} (h : i ≠ n) : piN pi n p i = pi i := if_neg h
theorem Real.at {S : Hs} (R : Real K pi S H) {i : Nat} (h : i < S.length) : ∃ u, H (pi i) = some u ∧ ∀ xs, u ≠ .tup xs := (R.ob i _ (List.getElem?_eq_getElem h)).some
theorem ext_new {S : Hs} {p : Addr} {u : HO} (hp : H p = none) : Ext S.length (S.length + 1) pi (piN pi S.length p) H (upd H p u) :=
  ⟨Nat.le_succ _, fun i h => piN_ne (Nat.ne_of_lt h), fun a xs h => by rw [upd_ne (ne_of_none h hp)]; exact h, fun a ob u h => by rw [upd_ne (ne_of_none h hp)]; exact h⟩
theorem Real.new {S : Hs} {p : Addr} {u : HO} {o : O} (R : Real K pi S H) (hp : H p = none) (h : RO K (piN pi S.length p) (S.length + 1) (upd H p u) p o) : Real K (piN pi S.length p) (S ++ [o]) (upd H p u) := by
  have hn : ∀ i, i < S.length → pi i ≠ p := fun i hi => by obtain ⟨u, e, _⟩ := R.at hi; exact ne_of_none e hp
  refine ⟨fun i o' e => ?_, fun i j hi hj e => ?_⟩
  · rw [List.length_append, List.length_singleton]
    by_cases hi : i < S.length
    · rw [List.getElem?_append_left hi] at e
      rw [piN_ne (Nat.ne_of_lt hi)]
      exact (R.ob i o' e).ext (ext_new hp) (upd_ne (hn i hi))
    · rw [List.getElem?_append_right (Nat.le_of_not_lt hi)] at e
      have : i = S.length := by
        have := (List.getElem?_eq_some_iff.mp e).1
        simp at this; omega
      subst this
      simp at e; subst e
      rw [piN_same]; exact h
  · simp at hi hj
    by_cases h1 : i = S.length <;> by_cases h2 : j = S.length
    · omega
    · subst h1; rw [piN_same, piN_ne h2] at e; exact absurd e.symm (hn j (by omega))
    · subst h2; rw [piN_same, piN_ne h1] at e; exact absurd e (hn i (by omega))
    · rw [piN_ne h1, piN_ne h2] at e; exact R.inj i j (by omega) (by omega) e
theorem ext_upd {a : Addr} {u : HO} (h : (∀ xs, H a ≠ some (.tup xs)) ∧ ∀ ob u, H a ≠ some (.frz ob u)) : Ext n n pi pi H (upd H a u) :=
  ⟨Nat.le_refl _, fun _ _ => rfl, fun b xs e => by
    by_cases hb : b = a
    · subst hb; exact absurd e (h.1 xs)
    · rw [upd_ne hb]; exact e, fun b ob u' e => by
    by_cases hb : b = a
    · subst hb; exact absurd e (h.2 ob u')
    · rw [upd_ne hb]; exact e⟩
theorem Real.notup {S : Hs} (R : Real K pi S H) {i : Nat} (h : i < S.length) (nf : NF S i := by (constructor; constructor; assumption; rfl)) : (∀ xs, H (pi i) ≠ some (.tup xs)) ∧ ∀ ob u, H (pi i) ≠ some (.frz ob u) := ⟨fun xs e => by
  obtain ⟨u, e1, e2⟩ := R.at h
  rw [e] at e1; exact e2 xs (Option.some.inj e1).symm, fun ob u => by
  obtain ⟨o, e1, e2⟩ := nf
  exact ro_nofz (R.ob i o e1) e2 ob u⟩
theorem Real.put {S : Hs} {i : Nat} {u : HO} {o : O} (R : Real K pi S H) (hi : i < S.length) (h : RO K pi S.length (upd H (pi i) u) (pi i) o) (nf : NF S i := by (constructor; constructor; assumption; rfl)) : Real K pi (S.set i o) (upd H (pi i) u) := by
  refine ⟨fun j o' e => ?_, fun j k hj hk e => R.inj j k (by simpa using hj) (by simpa using hk) e⟩
  rw [List.length_set]
  by_cases hj : j = i
  · subst hj
    rw [List.getElem?_set_self hi] at e
    cases e; exact h
  · rw [List.getElem?_set_ne (Ne.symm hj)] at e
    have hl := (List.getElem?_eq_some_iff.mp e).1
    exact (R.ob j o' e).ext (ext_upd (R.notup hi nf)) (upd_ne fun z => hj (R.inj j i hl hi z))
end
inductive R (α : Type) where
  | ok (a : α) (S : Hs)
  | exc (c : V) (fs : Option (List (Str × D))) (l : Ls) (S : Hs)
  | bad
def R.bind {α β : Type} (r : R α) (k : α → Hs → R β) : R β :=
  match r with
  | .ok a S => k a S
  | .exc c fs l S => .exc c fs l S
  | .bad => .bad
@[simp] theorem R.bind_ok {α β : Type} (a : α) (S : Hs) (k : α → Hs → R β) : (R.ok a S).bind k = k a S := (show (R.ok a S).bind k = k a S from rfl).trans (Eq.refl _)
@[simp] theorem R.bind_exc {α β : Type} (c fs l S) (k : α → Hs → R β) : (R.exc c fs l S : R α).bind k = .exc c fs l S := (show (R.exc c fs l S : R α).bind k = .exc c fs l S from rfl).trans (Eq.refl _)
@[simp] theorem R.bind_bad {α β : Type} (k : α → Hs → R β) : (R.bad : R α).bind k = .bad := (show (R.bad : R α).bind k = .bad from rfl).trans (Eq.refl _)
def XFs (K : PySem.W.Frag) (pi : Nat → Addr) (n : Nat) (H : Hp) : Option Addr → Option (List (Str × D)) → Prop
  | none, none => True
  | some d, some fs => ∃ ks, H d = some (.xd ks) ∧ ks.map (·.1) = fs.map (·.1) ∧ Reps K pi n H (fs.map (·.2)) (ks.map (·.2))
  | _, _ => False
def Post {α : Type} (K : PySem.W.Frag) (E : St → XK) (n : Nat) (pi : Nat → Addr) (H : Hp) (r : R α) (Q : α → Hs → (Nat → Addr) → Hp → Prop) : Prop :=
  match r with
  | .ok a S => ∀ pi' H', Ext n S.length pi pi' H H' → Real K pi' S H' → Q a S pi' H'
  | .exc c fs l S => ∀ pi' H' u d s, Ext n S.length pi pi' H H' → Real K pi' S H' → RelV c u → XFs K pi' S.length H' d fs → Sl K pi' S.length H' l s → E s u d H'
  | .bad => False
section
variable {α β : Type} {K : PySem.W.Frag} {E : St → XK} {n m : Nat} {pi pi' : Nat → Addr} {H H' : Hp}
theorem Post.ext {r : R α} {Q : α → Hs → (Nat → Addr) → Hp → Prop} (h : Post K E n pi H r Q) (x : Ext n m pi pi' H H') : Post K E m pi' H' r Q := by
  cases r with
  | ok a S => exact fun p2 H2 y R => h p2 H2 (x.trans y) R
  | exc c fs l S => exact fun p2 H2 u d s y R r f => h p2 H2 u d s (x.trans y) R r f
  | bad => exact h
theorem Post.mono {r : R α} {Q Q' : α → Hs → (Nat → Addr) → Hp → Prop} (h : Post K E n pi H r Q)
    (w : ∀ a S p2 H2, r = .ok a S → Ext n S.length pi p2 H H2 → Real K p2 S H2 → Q a S p2 H2 → Q' a S p2 H2) : Post K E n pi H r Q' := by
  cases r with
  | ok a S => exact fun p2 H2 y R => w a S p2 H2 rfl y R (h p2 H2 y R)
  | exc c fs l S => exact h
  | bad => exact h
theorem Post.bind {r : R α} {k : α → Hs → R β} {Q : β → Hs → (Nat → Addr) → Hp → Prop} (h : Post K E n pi H (r.bind k) Q) :
    Post K E n pi H r (fun a S1 p1 H1 => Post K E S1.length p1 H1 (k a S1) Q) := by
  cases r with
  | ok a S => exact fun p2 H2 y R => Post.ext (show Post K E n pi H (k a S) Q from h) y
  | exc c fs l S => exact h
  | bad => exact h
theorem Post.ok {a : α} {S : Hs} {Q : α → Hs → (Nat → Addr) → Hp → Prop} (h : Post K E n pi H (.ok a S) Q) (x : Ext n S.length pi pi' H H') (R : Real K pi' S H') : Q a S pi' H' := h pi' H' x R
end
abbrev M := Ls → Hs → R D
abbrev MB := Ls → Hs → R Bool
abbrev ML := Ls → Hs → R (List D)
inductive F where
  | nx (l : Ls) | rt (d : D) | bk (l : Ls) | ct (l : Ls)
abbrev MS := Ls → Hs → R F
abbrev QD (K : PySem.W.Frag) (Q : VK) : D → Hs → (Nat → Addr) → Hp → Prop := fun d S p H => ∀ v, Rep K p S.length H d v → Q v H
abbrev QL (K : PySem.W.Frag) (Q : List V → Hp → Prop) : List D → Hs → (Nat → Addr) → Hp → Prop := fun d S p H => ∀ v, Reps K p S.length H d v → Q v H
abbrev QB (Q : Bool → Hp → Prop) : Bool → Hs → (Nat → Addr) → Hp → Prop := fun d _ _ H => Q d H
def QF (K : PySem.W.Frag) (D0 : Ends) : F → Hs → (Nat → Addr) → Hp → Prop := fun f S p H =>
  match f with
  | .nx l => ∀ s, Sl K p S.length H l s → D0.nx s H
  | .rt d => ∀ v, Rep K p S.length H d v → D0.rt v H
  | .bk l => ∀ s, Sl K p S.length H l s → D0.bk s H
  | .ct l => ∀ s, Sl K p S.length H l s → D0.ct s H
def T (K : PySem.W.Frag) (E : St → XK) (f : M) : TE := fun s H Q => ∃ p l S, Real K p S H ∧ Sl K p S.length H l s ∧ Post K E S.length p H (f l S) (QD K Q)
def TB (K : PySem.W.Frag) (E : St → XK) (f : MB) : TT := fun s H Q => ∃ p l S, Real K p S H ∧ Sl K p S.length H l s ∧ Post K E S.length p H (f l S) (QB Q)
def TL (K : PySem.W.Frag) (E : St → XK) (f : ML) : TA := fun s H Q => ∃ p l S, Real K p S H ∧ Sl K p S.length H l s ∧ Post K E S.length p H (f l S) (QL K Q)
def TSt (K : PySem.W.Frag) (E : St → XK) (f : MS) : TS := fun D0 s H => ∃ p l S, Real K p S H ∧ Sl K p S.length H l s ∧ Post K E S.length p H (f l S) (QF K D0)
structure EM (X : Cx) (E : St → XK) (e : Expr) (f : M) : Prop where pe : PE X e (T X.K E f)
structure BM (X : Cx) (E : St → XK) (e : Expr) (f : MB) : Prop where pt : PT X e (TB X.K E f)
structure BW (X : Cx) (E : St → XK) (e : Expr) (f : MB) : Prop where pw : PW X e (TB X.K E f)
structure LM (X : Cx) (E : St → XK) (es : List Expr) (f : ML) : Prop where pa : PA X es (TL X.K E f)
structure SM (X : Cx) (E : St → XK) (st : Stmt) (f : MS) : Prop where ps : PS X st (TSt X.K E f)
structure SMs (X : Cx) (E : St → XK) (st : List Stmt) (f : MS) : Prop where ps : PSs X st (TSt X.K E f)
section
variable {X : Cx} {t t' : TE}
theorem _root_.L2.PE.weak {e : Expr} (h : PE X e t) (w : ∀ s H Q, t' s H Q → t s H Q) : PE X e t' := ⟨fun pins s σ H Q I q => h.run pins s σ H Q I (w σ H Q q)⟩
theorem _root_.L2.PT.weak {e : Expr} {t t' : TT} (h : PT X e t) (w : ∀ s H Q, t' s H Q → t s H Q) : PT X e t' := ⟨fun pins s σ H Q I q => h.run pins s σ H Q I (w σ H Q q)⟩
theorem _root_.L2.PW.weak {e : Expr} {t t' : TT} (h : PW X e t) (w : ∀ s H Q, t' s H Q → t s H Q) : PW X e t' := ⟨fun wh pins s σ H Q I q => h.run wh pins s σ H Q I (w σ H Q q)⟩
theorem _root_.L2.PA.weak {e : List Expr} {t t' : TA} (h : PA X e t) (w : ∀ s H Q, t' s H Q → t s H Q) : PA X e t' := ⟨fun pos pins s σ H Q I q => h.run pos pins s σ H Q I (w σ H Q q)⟩
theorem _root_.L2.PS.weak {e : Stmt} {t t' : TS} (h : PS X e t) (w : ∀ s H Q, t' Q s H → t Q s H) : PS X e t' := ⟨fun pins s σ H Q I q => h.run pins s σ H Q I (w σ H Q q)⟩
theorem _root_.L2.PSs.weak {e : List Stmt} {t t' : TS} (h : PSs X e t) (w : ∀ s H Q, t' Q s H → t Q s H) : PSs X e t' := ⟨fun pins s σ H Q I q => h.run pins s σ H Q I (w σ H Q q)⟩
end
section
variable {K : PySem.W.Frag} {E : St → XK} {s : St} {H : Hp} {β : Type} {QQ : β → Hs → (Nat → Addr) → Hp → Prop}
theorem T.of {f : M} {k : D → Hs → R β} {p : Nat → Addr} {l : Ls} {S : Hs} {Q' : VK} (R : Real K p S H) (L : Sl K p S.length H l s) (h : Post K E S.length p H ((f l S).bind k) QQ)
    (st : ∀ p1 S1 H1 d v, Real K p1 S1 H1 → Ext S.length S1.length p p1 H H1 → Sl K p1 S1.length H1 l s → Rep K p1 S1.length H1 d v → Post K E S1.length p1 H1 (k d S1) QQ → Q' v H1) : T K E f s H Q' :=
  ⟨p, l, S, R, L, h.bind.mono fun a S1 p1 H1 _ x R1 q v r => st p1 S1 H1 a v R1 x (L.ext x) r q⟩
theorem TB.of {f : MB} {k : Bool → Hs → R β} {p : Nat → Addr} {l : Ls} {S : Hs} {Q' : Bool → Hp → Prop} (R : Real K p S H) (L : Sl K p S.length H l s) (h : Post K E S.length p H ((f l S).bind k) QQ)
    (st : ∀ p1 S1 H1 b, Real K p1 S1 H1 → Ext S.length S1.length p p1 H H1 → Sl K p1 S1.length H1 l s → Post K E S1.length p1 H1 (k b S1) QQ → Q' b H1) : TB K E f s H Q' :=
  ⟨p, l, S, R, L, h.bind.mono fun a S1 p1 H1 _ x R1 q => st p1 S1 H1 a R1 x (L.ext x) q⟩
theorem TL.of {f : ML} {k : List D → Hs → R β} {p : Nat → Addr} {l : Ls} {S : Hs} {Q' : List V → Hp → Prop} (R : Real K p S H) (L : Sl K p S.length H l s) (h : Post K E S.length p H ((f l S).bind k) QQ)
    (st : ∀ p1 S1 H1 d v, Real K p1 S1 H1 → Ext S.length S1.length p p1 H H1 → Sl K p1 S1.length H1 l s → Reps K p1 S1.length H1 d v → Post K E S1.length p1 H1 (k d S1) QQ → Q' v H1) : TL K E f s H Q' :=
  ⟨p, l, S, R, L, h.bind.mono fun a S1 p1 H1 _ x R1 q v r => st p1 S1 H1 a v R1 x (L.ext x) r q⟩
theorem T.last {f : M} {p : Nat → Addr} {l : Ls} {S : Hs} {Q : VK} (R : Real K p S H) (L : Sl K p S.length H l s) (h : Post K E S.length p H (f l S) (QD K Q)) : T K E f s H Q := ⟨p, l, S, R, L, h⟩
end
end Ly
set_option Elab.async false
set_option linter.all false
set_option maxRecDepth 100000
namespace Ly
open PySem PySem.Spec L2
open PyProof.Rows hiding St
section
variable {K : PySem.W.Frag} {E : St → XK} {p : Nat → Addr} {S : Hs} {H : Hp} {Q : VK}
theorem ext_junk {n : Nat} {q : Addr} {u : HO} (hq : H q = none) : Ext n n p p H (upd H q u) :=
  ⟨Nat.le_refl _, fun _ _ => rfl, fun a xs h => by rw [upd_ne (ne_of_none h hq)]; exact h, fun a ob u h => by rw [upd_ne (ne_of_none h hq)]; exact h⟩
theorem Real.junk {q : Addr} {u : HO} (R : Real K p S H) (hq : H q = none) : Real K p S (upd H q u) :=
  ⟨fun i o e => (R.ob i o e).ext (ext_junk hq) (by
    obtain ⟨z, e1, _⟩ := (R.ob i o e).some
    exact upd_ne (ne_of_none e1 hq)), R.inj⟩
theorem Post.val {d : D} (h : Post K E S.length p H (.ok d S) (QD K Q)) (R : Real K p S H) {v : V} (r : Rep K p S.length H d v) : Q v H := Post.ok h Ext.refl R v r
theorem Post.valT {ds : List D} {xs : List V} (h : Post K E S.length p H (.ok (.tup ds) S) (QD K Q)) (R : Real K p S H) (r : Reps K p S.length H ds xs) {q : Addr} (hq : H q = none) : Q (.ref q) (upd H q (.tup xs)) :=
  Post.ok h (ext_junk hq) (R.junk hq) _ (.tup upd_same (r.ext (ext_junk hq) _ _))
theorem Post.new {o : O} {u : HO} (h : Post K E S.length p H (.ok (.ref S.length) (S ++ [o])) (QD K Q)) (R : Real K p S H) {q : Addr} (hq : H q = none)
    (ro : RO K (piN p S.length q) (S.length + 1) (upd H q u) q o) : Q (.ref q) (upd H q u) := by
  have e : (S ++ [o]).length = S.length + 1 := by simp
  have := Post.ok h (by rw [e]; exact ext_new hq) (R.new hq ro) (.ref (piN p S.length q S.length)) (.ref (by rw [e]; exact Nat.lt_succ_self _))
  rwa [piN_same] at this
theorem Post.newL {ds : List D} {xs : List V} (h : Post K E S.length p H (.ok (.ref S.length) (S ++ [.lst ds])) (QD K Q)) (R : Real K p S H) (r : Reps K p S.length H ds xs) {q : Addr} (hq : H q = none) : Q (.ref q) (upd H q (.lst xs)) :=
  h.new R hq ⟨xs, upd_same, r.ext (ext_new hq) _ _⟩
theorem Post.put {d : D} {i : Nat} {o : O} {u : HO} (h : Post K E S.length p H (.ok d (S.set i o)) (QD K Q)) (R : Real K p S H) (hi : i < S.length) (ro : RO K p S.length (upd H (p i) u) (p i) o) {v : V} (r : Rep K p S.length (upd H (p i) u) d v) (nf : NF S i := by (constructor; constructor; assumption; rfl)) : Q v (upd H (p i) u) := by
  have e : (S.set i o).length = S.length := by simp
  exact Post.ok h (by rw [e]; exact ext_upd (R.notup hi nf)) (R.put hi ro nf) v (by rw [e]; exact r)
theorem Real.lst {i : Nat} {ds : List D} (R : Real K p S H) (e : S[i]? = some (.lst ds)) : ∃ xs, H (p i) = some (.lst xs) ∧ Reps K p S.length H ds xs := R.ob i _ e
theorem Real.lt {i : Nat} {o : O} (e : S[i]? = some o) : i < S.length := (List.getElem?_eq_some_iff.mp e).1
end
def OpOk (K : PySem.W.Frag) (E : St → XK) (r : R2) (op : D → D → Hs → R D) : Prop :=
  ∀ p S H x y v u Q, Real K p S H → Rep K p S.length H x v → Rep K p S.length H y u → Post K E S.length p H (op x y S) (QD K Q) → r v u H Q
def mBin (op : D → D → Hs → R D) (f g : M) : M := fun l S => (f l S).bind fun x S1 => (g l S1).bind fun y S2 => op x y S2
instance (i j : Int) : Decidable (IntMulOk i j) := inferInstanceAs (Decidable (¬ _))
def oAdd : D → D → Hs → R D
  | .int i, .int j, S => .ok (.int (i + j)) S
  | .str x, .str y, S => if x.length + y.length ≤ sizeLine then .ok (.str (x ++ y)) S else .bad
  | .tup xs, .tup ys, S => if xs.length + ys.length ≤ sizeLine then .ok (.tup (xs ++ ys)) S else .bad
  | .ref i, .ref j, S => match S[i]?, S[j]? with
    | some (.lst xs), some (.lst ys) => if xs.length + ys.length ≤ sizeLine then .ok (.ref S.length) (S ++ [.lst (xs ++ ys)]) else .bad
    | _, _ => .bad
  | _, _, _ => .bad
def oSub : D → D → Hs → R D
  | .int i, .int j, S => .ok (.int (i - j)) S
  | _, _, _ => .bad
def oMul : D → D → Hs → R D
  | .int i, .int j, S => if IntMulOk i j then .ok (.int (i * j)) S else .bad
  | .ref i, .int k, S => match S[i]? with
    | some (.lst xs) => if -(2 ^ 63) ≤ k ∧ k < 2 ^ 63 ∧ xs.length * k.toNat ≤ sizeLine then .ok (.ref S.length) (S ++ [.lst (List.replicate k.toNat xs).flatten]) else .bad
    | _ => .bad
  | _, _, _ => .bad
def oFdiv : D → D → Hs → R D
  | .int i, .int j, S => if 0 < j ∧ j.natAbs.log2 < 9000 then .ok (.int (i / j)) S else .bad
  | _, _, _ => .bad
def oMod : D → D → Hs → R D
  | .int i, .int j, S => if 0 < j then .ok (.int (i % j)) S else .bad
  | _, _, _ => .bad
def oPow : D → D → Hs → R D
  | .int i, .int j, S => if 0 ≤ j ∧ j ≤ 1000000 ∧ i.natAbs < 2 ^ 64 then .ok (.int (i ^ j.toNat)) S else .bad
  | _, _, _ => .bad
abbrev orR (r r' : R2) : R2 := fun x y H Q => r x y H Q ∨ r' x y H Q
section
variable {X : Cx} {E : St → XK} {a b : Expr} {f g : M} {pos : Pos}
theorem e_bin {o : Operator} {r : R2} {op : D → D → Hs → R D} (ho : OpR X (binaryOp o) r) (hk : OpOk X.K E r op) (ha : EM X E a f) (hb : EM X E b g) : EM X E (.BinOp a o b pos) (mBin op f g) :=
  ⟨(pe_op ho ha.pe hb.pe).weak fun s H Q ⟨p, l, S, R, L, h⟩ => T.of R L h fun p1 S1 H1 d v R1 x1 L1 r1 h1 => T.of R1 L1 h1 fun p2 S2 H2 d2 v2 R2 x2 L2 r2 h2 => hk p2 S2 H2 _ _ _ _ Q R2 (r1.ext x2 _ _) r2 h2⟩
abbrev rAddAll (K : PySem.W.Frag) : R2 := orR (rI0 fun i j => .int (i + j)) (orR (fun x y H Q => ∃ i j, x = V.str i ∧ y = V.str j ∧ i.length + j.length ≤ sizeLine ∧ Q (V.str (i ++ j)) H) (orR (rCatA K) rCat))
theorem or_add : OpR X (binaryOp .Add) (rAddAll X.K) := .or op_add (.or op_add_str (.or op_catA op_cat))
theorem ok_add {K : PySem.W.Frag} {E : St → XK} : OpOk K E (rAddAll K) oAdd := by
  intro p S H x y v u Q R rx ry h
  unfold oAdd at h
  split at h
  · cases rx; cases ry; exact .inl ⟨_, _, rfl, rfl, h.val R (.int _)⟩
  · split at h
    · rename_i hl; cases rx; cases ry; exact .inr (.inl ⟨_, _, rfl, rfl, hl, h.val R (.str _)⟩)
    · exact h.elim
  · split at h
    · rename_i xs ys _ hl
      cases rx with
      | @tup a ds vs t r =>
      cases ry with
      | @tup b es us t' r' =>
      refine .inr (.inr (.inl ⟨a, b, vs, us, rfl, rfl, SqT.of t, SqT.of t', by rw [← r.len, ← r'.len]; exact hl, fun e => ?_, fun e e' => ?_, fun e e' q hq => ?_⟩))
      · subst e; cases r; exact h.val R (.tup t' r')
      · subst e'; cases r'; rw [List.append_nil] at h; exact h.val R (.tup t r)
      · exact h.valT R (r.append r') hq
    · exact h.elim
  · split at h
    · rename_i i j _ _ _ xs ys e1 e2
      split at h
      · rename_i hl
        obtain ⟨vs, h1, r1⟩ := R.lst e1
        obtain ⟨us, h2, r2⟩ := R.lst e2
        cases rx; cases ry
        exact .inr (.inr (.inr ⟨_, _, vs, us, rfl, rfl, h1, h2, by rw [← r1.len, ← r2.len]; exact hl, fun q hq => h.newL R (r1.append r2) hq⟩))
      · exact h.elim
    · exact h.elim
  · exact h.elim
theorem e_add (ha : EM X E a f) (hb : EM X E b g) : EM X E (.BinOp a .Add b pos) (mBin oAdd f g) := e_bin or_add ok_add ha hb
theorem ok_I {K : PySem.W.Frag} {E : St → XK} {op : D → D → Hs → R D} {C : Int → Int → Prop} [∀ i j, Decidable (C i j)] {gg : Int → Int → Int}
    (h1 : ∀ i j S, op (.int i) (.int j) S = if C i j then .ok (.int (gg i j)) S else .bad) (h2 : ∀ x y S, (∀ i j, x = .int i → y = .int j → False) → op x y S = .bad) : OpOk K E (rI C fun i j => .int (gg i j)) op := by
  intro p S H x y v u Q R rx ry h
  by_cases e : ∃ i j, x = .int i ∧ y = .int j
  · obtain ⟨i, j, rfl, rfl⟩ := e
    rw [h1] at h
    cases rx; cases ry
    split at h
    · rename_i c; exact ⟨i, j, rfl, rfl, c, h.val R (.int _)⟩
    · exact h.elim
  · rw [h2 x y S fun i j a b => e ⟨i, j, a, b⟩] at h; exact h.elim
theorem ok_I0 {K : PySem.W.Frag} {E : St → XK} {op : D → D → Hs → R D} {gg : Int → Int → Int}
    (h1 : ∀ i j S, op (.int i) (.int j) S = .ok (.int (gg i j)) S) (h2 : ∀ x y S, (∀ i j, x = .int i → y = .int j → False) → op x y S = .bad) : OpOk K E (rI0 fun i j => .int (gg i j)) op := by
  intro p S H x y v u Q R rx ry h
  by_cases e : ∃ i j, x = .int i ∧ y = .int j
  · obtain ⟨i, j, rfl, rfl⟩ := e
    rw [h1] at h
    cases rx; cases ry
    exact ⟨i, j, rfl, rfl, h.val R (.int _)⟩
  · rw [h2 x y S fun i j a b => e ⟨i, j, a, b⟩] at h; exact h.elim
theorem e_sub (ha : EM X E a f) (hb : EM X E b g) : EM X E (.BinOp a .Sub b pos) (mBin oSub f g) :=
  e_bin op_sub (ok_I0 (fun _ _ _ => rfl) fun x y S h => by unfold oSub; split <;> first | rfl | exact (h _ _ rfl rfl).elim) ha hb
theorem op_mulA : OpR X (binaryOp .Mult) (rI IntMulOk fun i j => .int (i * j)) := opI fun _ _ _ _ _ _ _ hc q => mul_int q hc
theorem ok_mul {K : PySem.W.Frag} {E : St → XK} : OpOk K E (orR (rI IntMulOk fun i j => .int (i * j)) rRep) oMul := by
  intro p S H x y v u Q R rx ry h
  unfold oMul at h
  split at h
  · split at h
    · rename_i c; cases rx; cases ry; exact .inl ⟨_, _, rfl, rfl, c, h.val R (.int _)⟩
    · exact h.elim
  · split at h
    · rename_i e1
      split at h
      · rename_i hl
        obtain ⟨vs, h1, r1⟩ := R.lst e1
        cases rx; cases ry
        refine .inr ⟨_, _, vs, rfl, rfl, h1, hl.1, hl.2.1, by rw [← r1.len]; exact hl.2.2, fun q hq => h.newL R ?_ hq⟩
        generalize Int.toNat _ = n
        clear h hl
        induction n with
        | zero => exact .nil
        | succ n ih => rw [List.replicate_succ, List.replicate_succ, List.flatten_cons, List.flatten_cons]; exact r1.append ih
      · exact h.elim
    · exact h.elim
  · exact h.elim
theorem e_mul (ha : EM X E a f) (hb : EM X E b g) : EM X E (.BinOp a .Mult b pos) (mBin oMul f g) := e_bin (OpR.or op_mulA op_rep) ok_mul ha hb
theorem e_fdiv (ha : EM X E a f) (hb : EM X E b g) : EM X E (.BinOp a .FloorDiv b pos) (mBin oFdiv f g) :=
  e_bin op_fdivW (ok_I (C := fun _ j => 0 < j ∧ j.natAbs.log2 < 9000) (fun _ _ _ => rfl) fun x y S h => by unfold oFdiv; split <;> first | rfl | exact (h _ _ rfl rfl).elim) ha hb
theorem e_mod (ha : EM X E a f) (hb : EM X E b g) : EM X E (.BinOp a .Mod b pos) (mBin oMod f g) :=
  e_bin op_mod (ok_I (fun _ _ _ => rfl) fun x y S h => by unfold oMod; split <;> first | rfl | exact (h _ _ rfl rfl).elim) ha hb
theorem e_pow (ha : EM X E a f) (hb : EM X E b g) : EM X E (.BinOp a .Pow b pos) (mBin oPow f g) :=
  e_bin op_pow (ok_I (C := fun i j => 0 ≤ j ∧ j ≤ 1000000 ∧ i.natAbs < 2 ^ 64) (fun _ _ _ => rfl) fun x y S h => by unfold oPow; split <;> first | rfl | exact (h _ _ rfl rfl).elim) ha hb
def mVar (i : Nat) : M := fun l S => match l[i]? with
  | some (some d) => .ok d S
  | _ => .bad
def mC (d : D) : M := fun _ S => .ok d S
theorem e_of_var {e : Expr} {i : Nat} (h : PE X e (tVar i)) : EM X E e (mVar i) := ⟨h.weak fun s H Q ⟨p, l, S, R, L, h⟩ => by
  unfold mVar at h
  split at h
  · rename_i d e
    obtain ⟨v, h1, r⟩ := L.get e
    exact ⟨v, h1, h.val R r⟩
  · exact h.elim⟩
theorem e_of_c {e : Expr} {d : D} {v : V} (h : PE X e (tC v)) (hr : ∀ p n H, Rep X.K p n H d v) : EM X E e (mC d) := ⟨h.weak fun s H Q ⟨p, l, S, R, L, h⟩ => h.val R (hr _ _ _)⟩
theorem e_v (i : Nat) {x : Str} {pos : Pos} (hN : X.N[i]? = some x := by rfl) (hv : Vis X.env.scope x := by first | exact Or.inl rfl | exact Or.inr (Or.inl rfl) | exact Or.inr (Or.inr rfl)) (hd : (x == ("__debug__" : Str)) = false := by decide)
    (hcd : (x == ("__classdict__" : Str)) = false := by decide) : EM X E (.Name x pos) (mVar i) := e_of_var (pe_var hN hv hd hcd)
theorem e_int {i j pos} : EM X E (.Constant (.int i) j pos) (mC (.int i)) := e_of_c pe_int fun _ _ _ => .int _
theorem e_str {i j pos} : EM X E (.Constant (.str i) j pos) (mC (.str i)) := e_of_c pe_str fun _ _ _ => .str _
theorem e_bl {i j pos} : EM X E (.Constant (.bool i) j pos) (mC (.bl i)) := e_of_c pe_bl fun _ _ _ => .bl _
theorem e_non {j pos} : EM X E (.Constant .none j pos) (mC .non) := e_of_c pe_non fun _ _ _ => .non
def oNeg : D → Hs → R D
  | .int i, S => .ok (.int (-i)) S
  | _, _ => .bad
def mUn (op : D → Hs → R D) (f : M) : M := fun l S => (f l S).bind op
theorem e_neg (ha : EM X E a f) : EM X E (.UnaryOp .USub a pos) (mUn oNeg f) := ⟨(pe_un un_neg ha.pe).weak fun s H Q ⟨p, l, S, R, L, h⟩ => T.of R L h fun p1 S1 H1 d v R1 x1 L1 r1 h1 => by
  unfold oNeg at h1
  split at h1
  · cases r1; exact ⟨_, rfl, h1.val R1 (.int _)⟩
  · exact h1.elim⟩
end
end Ly
set_option Elab.async false
set_option linter.all false
set_option maxRecDepth 100000
namespace Ly
open PySem PySem.Spec L2
open PyProof.Rows hiding St
mutual
def D.pd (S : Hs) : Nat → D → Option PyData
  | 0, _ => none
  | _ + 1, .non => some .none
  | _ + 1, .bl b => some (.bool b)
  | _ + 1, .int i => some (.int i)
  | _ + 1, .str x => some (.str x)
  | k + 1, .tup ds => (D.pds S k ds).map .tuple
  | k + 1, .wt ds => (D.pds S k ds).map .tuple
  | k + 1, .ref i => match S[i]? with
    | some (.lst ds) => (D.pds S k ds).map .list
    | some (.rol ds) => (D.pds S k ds).map .list
    | _ => none
  | _ + 1, .cst _ => none
  | _ + 1, .wl _ => none
def D.pds (S : Hs) : Nat → List D → Option (List PyData)
  | _, [] => some []
  | 0, _ :: _ => none
  | k + 1, d :: ds => match D.pd S k d, D.pds S (k + 1) ds with
    | some a, some b => some (a :: b)
    | _, _ => none
end
section
variable {K : PySem.W.Frag} {p : Nat → Addr} {S : Hs} {H : Hp}
mutual
theorem D.pd_dp (R : Real K p S H) : ∀ (k : Nat) (d : D) (v : V) (x : PyData), Rep K p S.length H d v → D.pd S k d = some x → Dp K H v x
  | 0, d, _, _, _, e => by simp [D.pd] at e
  | k + 1, .non, _, _, .non, e => by simp [D.pd] at e; subst e; exact .non
  | k + 1, .bl b, _, _, .bl _, e => by simp [D.pd] at e; subst e; exact .bl _
  | k + 1, .int b, _, _, .int _, e => by simp [D.pd] at e; subst e; exact .int _
  | k + 1, .str b, _, _, .str _, e => by simp [D.pd] at e; subst e; exact .str _
  | k + 1, .tup ds, _, _, .tup t r, e => by
    simp only [D.pd, Option.map_eq_some_iff] at e
    obtain ⟨xs, e, rfl⟩ := e
    exact .tup (SqT.of t) (D.pds_dp R k ds _ _ r e)
  | k + 1, .wt ds, _, _, .wt t r, e => by
    simp only [D.pd, Option.map_eq_some_iff] at e
    obtain ⟨xs, e, rfl⟩ := e
    exact .tup t.sq (D.pds_dp R k ds _ _ r e)
  | k + 1, .ref i, _, _, .ref h, e => by
    simp only [D.pd] at e
    split at e
    · rename_i ds q
      simp only [Option.map_eq_some_iff] at e
      obtain ⟨xs, e, rfl⟩ := e
      obtain ⟨vs, h1, r⟩ := R.lst q
      exact .lst (SqL.of h1) (D.pds_dp R k ds _ _ r e)
    · rename_i ds q
      simp only [Option.map_eq_some_iff] at e
      obtain ⟨xs, e, rfl⟩ := e
      obtain ⟨o, vs, h1, r⟩ := R.ob i _ q
      exact .lst (.inl (.inr ⟨o, h1⟩)) (D.pds_dp R k ds _ _ r e)
    · cases e
  | k + 1, .cst a, _, _, _, e => by simp [D.pd] at e
  | k + 1, .wl a, _, _, _, e => by simp [D.pd] at e
theorem D.pds_dp (R : Real K p S H) : ∀ (k : Nat) (d : List D) (v : List V) (x : List PyData), Reps K p S.length H d v → D.pds S k d = some x → DpAll K H v x
  | k, [], _, _, .nil, e => by cases k <;> (simp [D.pds] at e; subst e; exact .nil)
  | 0, d :: ds, _, _, _, e => by simp [D.pds] at e
  | k + 1, d :: ds, _, _, .cons r s, e => by
    simp only [D.pds] at e
    split at e
    · rename_i a b e1 e2
      cases e
      exact .cons (D.pd_dp R k d _ _ r e1) (D.pds_dp R (k + 1) ds _ _ s e2)
    · cases e
end
end
def cEqS : D → D → Option Bool
  | .int i, .int j => some (decide (i = j))
  | .str i, .str j => some (decide (i = j))
  | .bl i, .bl j => some (decide (i = j))
  | .non, .non => some true
  | .non, .int _ => some false
  | .int _, .non => some false
  | .non, .bl _ => some false
  | .bl _, .non => some false
  | .non, .str _ => some false
  | .str _, .non => some false
  | .int _, .str _ => some false
  | .str _, .int _ => some false
  | .bl _, .str _ => some false
  | .str _, .bl _ => some false
  | _, _ => none
def cEqD (x y : D) (S : Hs) : Option Bool :=
  match cEqS x y with
  | some b => some b
  | none => match D.pd S 70 x, D.pd S 70 y with
    | some a, some b => if SeqAt.shaped a = true ∧ SeqAt.shaped b = true then some (PyData.eqv a b) else none
    | _, _ => none
def oEq (x y : D) (S : Hs) : R D := match cEqD x y S with
  | some b => .ok (.bl b) S
  | none => .bad
def oNe (x y : D) (S : Hs) : R D := match cEqD x y S with
  | some b => .ok (.bl (!b)) S
  | none => .bad
def oLt : D → D → Hs → R D
  | .int i, .int j, S => .ok (.bl (decide (i < j))) S
  | _, _, _ => .bad
def oGt : D → D → Hs → R D
  | .int i, .int j, S => .ok (.bl (decide (j < i))) S
  | _, _, _ => .bad
def oGe : D → D → Hs → R D
  | .int i, .int j, S => .ok (.bl (decide (j ≤ i))) S
  | _, _, _ => .bad
def D.isNon : D → Bool
  | .non => true
  | _ => false
def oIsNot : D → D → Hs → R D
  | x, .non, S => .ok (.bl (!x.isNon)) S
  | .bl a, .bl b, S => .ok (.bl (!decide (a = b))) S
  | _, _, _ => .bad
def eqF : D → D → Bool
  | .non, .non => true
  | .bl a, .bl b => a == b
  | .bl a, .int b => (if a then 1 else 0) == b
  | .int a, .bl b => a == (if b then 1 else 0)
  | .int a, .int b => a == b
  | .str a, .str b => a == b
  | _, _ => false
def flatD : D → Bool
  | .non => true
  | .bl _ => true
  | .int _ => true
  | .str _ => true
  | _ => false
def inS (i j : Str) : Bool := match i with
  | ⟨⟨[c]⟩⟩ => decide (c ∈ j.cps.toList)
  | _ => !(Builtin.Str.occurrences j i 0 j.length 1).isEmpty
def D.key : D → Option Key
  | .int i => some (.inl i)
  | .str x => some (.inr x)
  | _ => none
def D.keys : List D → Option (List Key)
  | [] => some []
  | d :: ds => match d.key, D.keys ds with
    | some k, some l => some (k :: l)
    | _, _ => none
def D.tkey : D → Option (List Key)
  | .tup ds => D.keys ds
  | _ => none
def getK {κ : Type} [DecidableEq κ] (kvs : List (κ × D)) (k : κ) : Option D := (kvs.find? fun kv => decide (kv.1 = k)).map (·.2)
def setK {κ : Type} [DecidableEq κ] (kvs : List (κ × D)) (k : κ) (v : D) : List (κ × D) :=
  if (kvs.any fun kv => decide (kv.1 = k)) = true then kvs.map fun kv => if kv.1 = k then (kv.1, v) else kv else kvs ++ [(k, v)]
def dGet (x y : D) (S : Hs) : Option (Option D) := match x with
  | .ref i => match S[i]? with
    | some (.dic kvs) => match y.key with
      | some k => some (getK kvs k)
      | none => none
    | some (.dit kvs) => match y.tkey with
      | some k => some (getK kvs k)
      | none => none
    | some (.fdc kvs) => match y.key with
      | some k => some (getK kvs k)
      | none => none
    | some (.fdt kvs) => match y.tkey with
      | some k => some (getK kvs k)
      | none => none
    | _ => none
  | _ => none
def cIn (x y : D) (S : Hs) : Option Bool := match x, y with
  | .str i, .str j => some (inS i j)
  | x, .tup ds => if flatD x && ds.all flatD then some (ds.any fun z => eqF z x) else
    match D.pd S 70 x, D.pd S 70 (.tup ds) with
    | some a, some (.tuple b) => if SeqAt.shaped a = true ∧ SeqAt.shaped (.tuple b) = true then some (b.any fun z => z.eqv a) else none
    | _, _ => none
  | x, .wt ds => if flatD x && ds.all flatD then some (ds.any fun z => eqF z x) else
    match D.pd S 70 x, D.pd S 70 (.wt ds) with
    | some a, some (.tuple b) => if SeqAt.shaped a = true ∧ SeqAt.shaped (.tuple b) = true then some (b.any fun z => z.eqv a) else none
    | _, _ => none
  | x, .ref i => match S[i]? with
    | some (.lst ds) => if flatD x && ds.all flatD then some (ds.any fun z => eqF z x) else
      match D.pd S 70 x, D.pd S 70 (.ref i) with
      | some a, some (.list b) => if SeqAt.shaped a = true ∧ SeqAt.shaped (.list b) = true then some (b.any fun z => z.eqv a) else none
      | _, _ => none
    | some (.dic kvs) => (dGet (.ref i) x S).map (·.isSome)
    | some (.dit kvs) => (dGet (.ref i) x S).map (·.isSome)
    | some (.fdc kvs) => (dGet (.ref i) x S).map (·.isSome)
    | some (.fdt kvs) => (dGet (.ref i) x S).map (·.isSome)
    | _ => none
  | _, _ => none
def oIn (x y : D) (S : Hs) : R D := match cIn x y S with
  | some b => .ok (.bl b) S
  | none => .bad
def oNotIn (x y : D) (S : Hs) : R D := match cIn x y S with
  | some b => .ok (.bl (!b)) S
  | none => .bad
section
variable {K : PySem.W.Frag} {E : St → XK} {p : Nat → Addr} {S : Hs} {H : Hp} {n : Nat} {pi : Nat → Addr}
theorem cEqS_V {x y : D} {v u : V} {b : Bool} (rx : Rep K pi n H x v) (ry : Rep K pi n H y u) (h : cEqS x y = some b) : scal v u = true ∧ decide (v = u) = b := by
  unfold cEqS at h
  split at h <;> first | (cases h; done) | (cases rx; cases ry; cases h; exact ⟨rfl, by simp⟩)
theorem ok_eq : OpOk K E (orR rEq (rEqD K)) oEq := by
  intro p S H x y v u Q R rx ry h
  unfold oEq at h
  split at h
  · rename_i b e
    unfold cEqD at e
    split at e
    · rename_i c e1
      cases e
      obtain ⟨h1, h2⟩ := cEqS_V rx ry e1
      exact .inl ⟨h1, by rw [h2]; exact h.val R (.bl _)⟩
    · split at e
      · rename_i a c e1 e2
        split at e
        · rename_i hs
          cases e
          exact .inr ⟨a, c, D.pd_dp R _ _ _ _ rx e1, D.pd_dp R _ _ _ _ ry e2, hs.1, hs.2, h.val R (.bl _)⟩
        · cases e
      · cases e
  · exact h.elim
theorem ok_ne : OpOk K E (orR rNe (rNeD K)) oNe := by
  intro p S H x y v u Q R rx ry h
  unfold oNe at h
  split at h
  · rename_i b e
    unfold cEqD at e
    split at e
    · rename_i c e1
      cases e
      obtain ⟨h1, h2⟩ := cEqS_V rx ry e1
      exact .inl ⟨h1, by rw [h2]; exact h.val R (.bl _)⟩
    · split at e
      · rename_i a c e1 e2
        split at e
        · rename_i hs
          cases e
          exact .inr ⟨a, c, D.pd_dp R _ _ _ _ rx e1, D.pd_dp R _ _ _ _ ry e2, hs.1, hs.2, h.val R (.bl _)⟩
        · cases e
      · cases e
  · exact h.elim
theorem ok_B0 {op : D → D → Hs → R D} {gg : Int → Int → Bool} (h1 : ∀ i j S, op (.int i) (.int j) S = .ok (.bl (gg i j)) S) (h2 : ∀ x y S, (∀ i j, x = .int i → y = .int j → False) → op x y S = .bad) : OpOk K E (rI0 fun i j => .bl (gg i j)) op := by
  intro p S H x y v u Q R rx ry h
  by_cases e : ∃ i j, x = .int i ∧ y = .int j
  · obtain ⟨i, j, rfl, rfl⟩ := e
    rw [h1] at h
    cases rx; cases ry
    exact ⟨i, j, rfl, rfl, h.val R (.bl _)⟩
  · rw [h2 x y S fun i j a b => e ⟨i, j, a, b⟩] at h; exact h.elim
theorem ok_lt : OpOk K E (rI0 fun i j => .bl (decide (i < j))) oLt := ok_B0 (fun _ _ _ => rfl) fun x y S h => by unfold oLt; split <;> first | rfl | exact (h _ _ rfl rfl).elim
theorem ok_gt : OpOk K E (rI0 fun i j => .bl (decide (j < i))) oGt := ok_B0 (fun _ _ _ => rfl) fun x y S h => by unfold oGt; split <;> first | rfl | exact (h _ _ rfl rfl).elim
theorem ok_ge : OpOk K E (rI0 fun i j => .bl (decide (j ≤ i))) oGe := ok_B0 (fun _ _ _ => rfl) fun x y S h => by unfold oGe; split <;> first | rfl | exact (h _ _ rfl rfl).elim
theorem isNon_V {x : D} {v : V} (rx : Rep K pi n H x v) : x.isNon = decide (v = .non) := by cases rx <;> rfl
abbrev rNotNA : R2 := fun x y H Q => y = .non ∧ Q (.bl (!decide (x = .non))) H
theorem ok_isnot : OpOk K E (orR rNotNA rNotB) oIsNot := by
  intro p S H x y v u Q R rx ry h
  unfold oIsNot at h
  split at h
  · cases ry; exact .inl ⟨rfl, by rw [← isNon_V rx]; exact h.val R (.bl _)⟩
  · cases rx; cases ry; exact .inr ⟨_, _, rfl, rfl, h.val R (.bl _)⟩
  · exact h.elim
theorem flat_V {x : D} {v : V} (rx : Rep K pi n H x v) (h : flatD x = true) : flatV v = true := by cases rx <;> first | rfl | cases h
theorem eqF_V {x y : D} {v u : V} (rx : Rep K pi n H x v) (ry : Rep K pi n H y u) (h : flatD y = true) : eqF x y = eqV v u := by cases rx <;> cases ry <;> first | rfl | cases h
theorem flats_V {ds : List D} {vs : List V} (r : Reps K pi n H ds vs) (h : ds.all flatD = true) : vs.all flatV = true := by
  induction ds generalizing vs with
  | nil => cases r; rfl
  | cons d ds ih =>
    cases r with
    | cons r s =>
      rw [List.all_cons, Bool.and_eq_true] at h ⊢
      exact ⟨flat_V r h.1, ih s h.2⟩
theorem any_V {ds : List D} {vs : List V} {x : D} {v : V} (r : Reps K pi n H ds vs) (rx : Rep K pi n H x v) (h : flatD x = true) : (ds.any fun z => eqF z x) = inV v vs := by
  unfold inV
  induction ds generalizing vs with
  | nil => cases r; rfl
  | cons d ds ih =>
    cases r with
    | cons r s => rw [List.any_cons, List.any_cons, eqF_V r rx h, ih s]
theorem key_V {y : D} {u : V} {k : Key} (ry : Rep K pi n H y u) (h : y.key = some k) : u = kV k := by
  unfold D.key at h
  split at h <;> first | (cases ry; cases h; rfl) | cases h
theorem keys_V {ds : List D} {vs : List V} {k : List Key} (r : Reps K pi n H ds vs) (h : D.keys ds = some k) : vs = k.map kV := by
  induction ds generalizing vs k with
  | nil => cases r; cases h; rfl
  | cons d ds ih =>
    cases r with
    | cons r s =>
      simp only [D.keys] at h
      split at h
      · rename_i a b e1 e2
        cases h
        rw [key_V r e1, ih s e2]; rfl
      · cases h
def GetRel (K : PySem.W.Frag) (p : Nat → Addr) (n : Nat) (H : Hp) (o : Option D) (w : Option V) : Prop := match o with
  | some d => ∃ z, w = some z ∧ Rep K p n H d z
  | none => w = none
theorem getK_V {κ : Type} [DecidableEq κ] {kvs : List (κ × D)} {ks : List (κ × V)} (h : ks.map (·.1) = kvs.map (·.1)) (r : Reps K pi n H (kvs.map (·.2)) (ks.map (·.2))) (k : κ) : GetRel K pi n H (getK kvs k) (valV ks k) := by
  induction kvs generalizing ks with
  | nil => cases ks with | nil => exact rfl | cons a b => cases h
  | cons a kvs ih =>
    cases ks with
    | nil => cases h
    | cons b ks =>
      simp only [List.map_cons, List.cons.injEq] at h
      cases r with
      | cons r s =>
        have := ih h.2 s
        unfold getK valV at this ⊢
        by_cases e : a.1 = k
        · rw [List.find?_cons_of_pos (by simpa using e)]
          refine ⟨b.2, ?_, r⟩
          rw [List.find?_cons_of_pos (by simpa [h.1] using e)]; rfl
        · rw [List.find?_cons_of_neg (by simpa using e), List.find?_cons_of_neg (by simpa [h.1] using e)]
          exact this
theorem dGet_V {x y : D} {v u : V} {o : Option D} (R : Real K p S H) (rx : Rep K p S.length H x v) (ry : Rep K p S.length H y u) (h : dGet x y S = some o) :
    ∃ a w, v = .ref a ∧ DGet H a u w ∧ GetRel K p S.length H o w := by
  cases x with
  | ref i =>
    cases rx
    simp only [dGet] at h
    split at h
    · rename_i kvs q
      obtain ⟨ks, h1, h2, h3⟩ := R.ob i _ q
      split at h
      · rename_i k ek
        cases h
        exact ⟨_, _, rfl, .inl ⟨ks, k, .inl h1, key_V ry ek, rfl⟩, getK_V h2 h3 k⟩
      · cases h
    · rename_i kvs q
      obtain ⟨ks, h1, h2, h3⟩ := R.ob i _ q
      split at h
      · rename_i k ek
        cases h
        unfold D.tkey at ek
        split at ek
        · cases ry with
          | @tup b _ vs t r =>
          exact ⟨_, _, rfl, .inr ⟨ks, k, b, .inl h1, rfl, by rw [← keys_V r ek]; exact t, rfl⟩, getK_V h2 h3 k⟩
        · cases ek
      · cases h
    · rename_i kvs q
      obtain ⟨ob, ks, h1, h2, h3⟩ := R.ob i _ q
      split at h
      · rename_i k ek
        cases h
        exact ⟨_, _, rfl, .inl ⟨ks, k, .inr ⟨ob, h1⟩, key_V ry ek, rfl⟩, getK_V h2 h3 k⟩
      · cases h
    · rename_i kvs q
      obtain ⟨ob, ks, h1, h2, h3⟩ := R.ob i _ q
      split at h
      · rename_i k ek
        cases h
        unfold D.tkey at ek
        split at ek
        · cases ry with
          | @tup b _ vs t r =>
          exact ⟨_, _, rfl, .inr ⟨ks, k, b, .inr ⟨ob, h1⟩, rfl, by rw [← keys_V r ek]; exact t, rfl⟩, getK_V h2 h3 k⟩
        · cases ek
      · cases h
    · cases h
  | _ => cases h
abbrev rDIn : R2 := fun x y H Q => ∃ a o, y = .ref a ∧ DGet H a x o ∧ Q (.bl o.isSome) H
abbrev rDNotIn : R2 := fun x y H Q => ∃ a o, y = .ref a ∧ DGet H a x o ∧ Q (.bl (!o.isSome)) H
abbrev rInStr : R2 := fun x y H Q => ∃ i j, x = V.str i ∧ y = V.str j ∧ Q (V.bl !(Builtin.Str.occurrences j i 0 j.length 1).isEmpty) H
abbrev rInSign : R2 := fun x y H Q => ∃ (c : Nat) (z : Str), x = .str ⟨#[c]⟩ ∧ y = .str z ∧ Q (.bl (decide (c ∈ z.cps.toList))) H
def rInDT (K : PySem.W.Frag) : R2 := fun x y H Q => ∃ d ds, Dp K H x d ∧ Dp K H y (.tuple ds) ∧ SeqAt.shaped d = true ∧ SeqAt.shaped (.tuple ds) = true ∧ Q (.bl (ds.any fun z => PyData.eqv z d)) H
def rNotInDT (K : PySem.W.Frag) : R2 := fun x y H Q => ∃ d ds, Dp K H x d ∧ Dp K H y (.tuple ds) ∧ SeqAt.shaped d = true ∧ SeqAt.shaped (.tuple ds) = true ∧ Q (.bl (!ds.any fun z => PyData.eqv z d)) H
theorem op_inDT {X : Cx} (hu : X.A.units + 65 < cLine) : OpR X (compareOp .In) (rInDT X.K) := by
  intro pins s σ H x y v u Q I rx ry h
  obtain ⟨d, ds, hd, he, sd, se, q⟩ := h
  obtain ⟨as, r1⟩ := Dp.reads I d x v hd rx
  obtain ⟨bs, r2⟩ := Dp.reads I (.tuple ds) y u he ry
  exact SeqAt.in_tuple_reads r2 r1 (SeqAt.canLay_of_shaped se) (SeqAt.canLay_of_shaped sd) (room_in_shaped sd hu) ⟨.bl _, H, I, rfl, q⟩
theorem op_notInDT {X : Cx} (hu : X.A.units + 65 < cLine) : OpR X (compareOp .NotIn) (rNotInDT X.K) := by
  intro pins s σ H x y v u Q I rx ry h
  obtain ⟨d, ds, hd, he, sd, se, q⟩ := h
  obtain ⟨as, r1⟩ := Dp.reads I d x v hd rx
  obtain ⟨bs, r2⟩ := Dp.reads I (.tuple ds) y u he ry
  exact SeqAt.notIn_tuple_reads r2 r1 (SeqAt.canLay_of_shaped se) (SeqAt.canLay_of_shaped sd) (room_in_shaped sd hu) ⟨.bl _, H, I, rfl, q⟩
abbrev rInAll (K : PySem.W.Frag) : R2 := orR rInSign (orR rInStr (orR (rIn K false) (orR (rInD K) (orR (rInDT K) rDIn))))
abbrev rNotInStr : R2 := fun x y H Q => ∃ i j, x = V.str i ∧ y = V.str j ∧ Q (V.bl !(!(Builtin.Str.occurrences j i 0 j.length 1).isEmpty)) H
abbrev rNotInSign : R2 := fun x y H Q => ∃ (c : Nat) (z : Str), x = .str ⟨#[c]⟩ ∧ y = .str z ∧ Q (.bl (!decide (c ∈ z.cps.toList))) H
abbrev rNotInAll (K : PySem.W.Frag) : R2 := orR rNotInSign (orR rNotInStr (orR (rIn K true) (orR (rNotInD K) (orR (rNotInDT K) rDNotIn))))
theorem or_din {X : Cx} (hu : X.A.units + 1 < cLine) : OpR X (compareOp .In) rDIn := by
  intro pins s σ H x y v u Q I rx ry h
  obtain ⟨a, o, rfl, g, q⟩ := h
  obtain rfl : u = Value.ref a := ry
  exact d_in hu I g rx fun s3 I3 => ⟨.bl o.isSome, H, I3, rfl, q⟩
theorem or_dnotin {X : Cx} (hu : X.A.units + 1 < cLine) : OpR X (compareOp .NotIn) rDNotIn := by
  intro pins s σ H x y v u Q I rx ry h
  obtain ⟨a, o, rfl, g, q⟩ := h
  obtain rfl : u = Value.ref a := ry
  exact d_notIn hu I g rx fun s3 I3 => ⟨.bl (!o.isSome), H, I3, rfl, q⟩
theorem cIn_V {x y : D} {v u : V} {b : Bool} (R : Real K p S H) (rx : Rep K p S.length H x v) (ry : Rep K p S.length H y u) (h : cIn x y S = some b) :
    (∃ (c : Nat) (z : Str), v = .str ⟨#[c]⟩ ∧ u = .str z ∧ b = decide (c ∈ z.cps.toList)) ∨ (∃ i j, v = V.str i ∧ u = V.str j ∧ b = !(Builtin.Str.occurrences j i 0 j.length 1).isEmpty) ∨
    (∃ q xs, u = .ref q ∧ (SqL K H q xs ∨ SqT K H q xs) ∧ flatV v = true ∧ xs.all flatV = true ∧ b = inV v xs) ∨
    (∃ d ds, Dp K H v d ∧ Dp K H u (.list ds) ∧ SeqAt.shaped d = true ∧ SeqAt.shaped (.list ds) = true ∧ b = ds.any fun z => z.eqv d) ∨
    (∃ d ds, Dp K H v d ∧ Dp K H u (.tuple ds) ∧ SeqAt.shaped d = true ∧ SeqAt.shaped (.tuple ds) = true ∧ b = ds.any fun z => z.eqv d) ∨
    (∃ a o, u = .ref a ∧ DGet H a v o ∧ b = o.isSome) := by
  have dic : ∀ i, y = .ref i → ((dGet (.ref i) x S).map (·.isSome)) = some b → ∃ a o, u = .ref a ∧ DGet H a v o ∧ b = o.isSome := fun i e hh => by
    subst e
    rw [Option.map_eq_some_iff] at hh
    obtain ⟨o, hh, rfl⟩ := hh
    obtain ⟨a, w, e1, g, m⟩ := dGet_V R ry rx hh
    refine ⟨a, w, e1, g, ?_⟩
    cases o with
    | none => rw [m]; rfl
    | some d => obtain ⟨z, e, _⟩ := m; rw [e]; rfl
  unfold cIn at h
  split at h
  · rename_i i j
    cases h; cases rx; cases ry
    unfold inS
    split
    · exact .inl ⟨_, _, rfl, rfl, rfl⟩
    · exact .inr (.inl ⟨_, _, rfl, rfl, rfl⟩)
  · split at h
    · rename_i hf
      rw [Bool.and_eq_true] at hf
      cases h
      cases ry with
      | tup t r => exact .inr (.inr (.inl ⟨_, _, rfl, .inr (SqT.of t), flat_V rx hf.1, flats_V r hf.2, any_V r rx hf.1⟩))
    · split at h
      · rename_i a c e1 e2
        split at h
        · rename_i hs
          cases h
          exact .inr (.inr (.inr (.inr (.inl ⟨a, c, D.pd_dp R _ _ _ _ rx e1, D.pd_dp R _ _ _ _ ry e2, hs.1, hs.2, rfl⟩))))
        · cases h
      · cases h
  · split at h
    · rename_i hf
      rw [Bool.and_eq_true] at hf
      cases h
      cases ry with
      | wt t r => exact .inr (.inr (.inl ⟨_, _, rfl, .inr t.sq, flat_V rx hf.1, flats_V r hf.2, any_V r rx hf.1⟩))
    · split at h
      · rename_i a c e1 e2
        split at h
        · rename_i hs
          cases h
          exact .inr (.inr (.inr (.inr (.inl ⟨a, c, D.pd_dp R _ _ _ _ rx e1, D.pd_dp R _ _ _ _ ry e2, hs.1, hs.2, rfl⟩))))
        · cases h
      · cases h
  · rename_i i
    split at h
    · rename_i ds q
      obtain ⟨vs, h1, r⟩ := R.lst q
      split at h
      · rename_i hf
        rw [Bool.and_eq_true] at hf
        cases h
        cases ry
        exact .inr (.inr (.inl ⟨_, _, rfl, .inl (SqL.of h1), flat_V rx hf.1, flats_V r hf.2, any_V r rx hf.1⟩))
      · split at h
        · rename_i a c e1 e2
          split at h
          · rename_i hs
            cases h
            exact .inr (.inr (.inr (.inl ⟨a, c, D.pd_dp R _ _ _ _ rx e1, D.pd_dp R _ _ _ _ ry e2, hs.1, hs.2, rfl⟩)))
          · cases h
        · cases h
    · exact .inr (.inr (.inr (.inr (.inr (dic i rfl h)))))
    · exact .inr (.inr (.inr (.inr (.inr (dic i rfl h)))))
    · exact .inr (.inr (.inr (.inr (.inr (dic i rfl h)))))
    · exact .inr (.inr (.inr (.inr (.inr (dic i rfl h)))))
    · cases h
  · cases h
theorem ok_in : OpOk K E (rInAll K) oIn := by
  intro p S H x y v u Q R rx ry h
  unfold oIn at h
  split at h
  · rename_i b e
    have hq : Q (.bl b) H := h.val R (.bl _)
    rcases cIn_V R rx ry e with ⟨c, z, h1, h2, rfl⟩ | ⟨i, j, h1, h2, rfl⟩ | ⟨q, xs, h1, h2, h3, h4, rfl⟩ | ⟨d, ds, h1, h2, h3, h4, rfl⟩ | ⟨d, ds, h1, h2, h3, h4, rfl⟩ | ⟨a, o, h1, h2, rfl⟩
    · exact .inl ⟨c, z, h1, h2, hq⟩
    · exact .inr (.inl ⟨i, j, h1, h2, hq⟩)
    · exact .inr (.inr (.inl ⟨q, xs, h1, h2, h3, h4, hq⟩))
    · exact .inr (.inr (.inr (.inl ⟨d, ds, h1, h2, h3, h4, hq⟩)))
    · exact .inr (.inr (.inr (.inr (.inl ⟨d, ds, h1, h2, h3, h4, hq⟩))))
    · exact .inr (.inr (.inr (.inr (.inr ⟨a, o, h1, h2, hq⟩))))
  · exact h.elim
theorem ok_notin : OpOk K E (rNotInAll K) oNotIn := by
  intro p S H x y v u Q R rx ry h
  unfold oNotIn at h
  split at h
  · rename_i b e
    have hq : Q (.bl (!b)) H := h.val R (.bl _)
    rcases cIn_V R rx ry e with ⟨c, z, h1, h2, rfl⟩ | ⟨i, j, h1, h2, rfl⟩ | ⟨q, xs, h1, h2, h3, h4, rfl⟩ | ⟨d, ds, h1, h2, h3, h4, rfl⟩ | ⟨d, ds, h1, h2, h3, h4, rfl⟩ | ⟨a, o, h1, h2, rfl⟩
    · exact .inl ⟨c, z, h1, h2, hq⟩
    · exact .inr (.inl ⟨i, j, h1, h2, hq⟩)
    · exact .inr (.inr (.inl ⟨q, xs, h1, h2, h3, h4, hq⟩))
    · exact .inr (.inr (.inr (.inl ⟨d, ds, h1, h2, h3, h4, hq⟩)))
    · exact .inr (.inr (.inr (.inr (.inl ⟨d, ds, h1, h2, h3, h4, hq⟩))))
    · exact .inr (.inr (.inr (.inr (.inr ⟨a, o, h1, h2, hq⟩))))
  · exact h.elim
end
def mCmp (op : D → D → Hs → R D) (f g : M) : MB := fun l S => (f l S).bind fun x S1 => (g l S1).bind fun y S2 => (op x y S2).bind fun d S3 => match d with
  | .bl b => .ok b S3
  | _ => .bad
section
variable {X : Cx} {E : St → XK} {a b : Expr} {f g : M} {pos : Pos} {r : R2} {op : D → D → Hs → R D} {o : CmpOp}
theorem e_cmp (ho : OpR X (compareOp o) r) (hk : OpOk X.K E r op) (ha : EM X E a f) (hb : EM X E b g) (h1 : behindInMarks o b = false) : EM X E (.Compare a [o] [b] pos) (mBin op f g) :=
  ⟨(pe_cmpR ho ha.pe hb.pe h1).weak fun s H Q ⟨p, l, S, R, L, h⟩ => T.of R L h fun p1 S1 H1 d v R1 x1 L1 r1 h1 => T.of R1 L1 h1 fun p2 S2 H2 d2 v2 R2 x2 L2 r2 h2 => hk p2 S2 H2 _ _ _ _ Q R2 (r1.ext x2 _ _) r2 h2⟩
theorem OpOk.test (hk : OpOk X.K E r op) {p : Nat → Addr} {S : Hs} {H : Hp} {x y : D} {v u : V} {Q : Bool → Hp → Prop} (R : Real X.K p S H) (rx : Rep X.K p S.length H x v) (ry : Rep X.K p S.length H y u)
    (h : Post X.K E S.length p H ((op x y S).bind fun d S3 => match d with | .bl b => Ly.R.ok b S3 | _ => Ly.R.bad) (QB Q)) : r v u H fun x H' => ∃ k, x = .bl k ∧ Q k H' := by
  refine hk p S H x y v u _ R rx ry (h.bind.mono fun d S3 p3 H3 _ x3 R3 q w rw' => ?_)
  cases rw' with
  | bl b => exact ⟨b, rfl, Post.ok (Q := QB Q) q Ext.refl R3⟩
  | _ => exact q.elim
theorem b_cmp (ho : OpR X (compareOp o) r) (hk : OpOk X.K E r op) (ha : EM X E a f) (hb : EM X E b g) (h1 : behindInMarks o b = false) : BM X E (.Compare a [o] [b] pos) (mCmp op f g) :=
  ⟨(pt_cmpR ho ha.pe hb.pe h1).weak fun s H Q ⟨p, l, S, R, L, h⟩ => T.of R L h fun p1 S1 H1 d v R1 x1 L1 r1 h1 => T.of R1 L1 h1 fun p2 S2 H2 d2 v2 R2 x2 L2 r2 h2 => hk.test R2 (r1.ext x2 _ _) r2 h2⟩
end
end Ly
set_option Elab.async false
set_option linter.all false
set_option maxRecDepth 100000
namespace Ly
open PySem PySem.Spec L2
open PyProof.Rows hiding St
def lNil : ML := fun _ S => .ok [] S
def lCons (f : M) (g : ML) : ML := fun l S => (f l S).bind fun x S1 => (g l S1).bind fun xs S2 => .ok (x :: xs) S2
section
variable {X : Cx} {E : St → XK} {e : Expr} {es : List Expr} {f : M} {g : ML} {pos : Pos}
theorem l_nil : LM X E [] lNil := ⟨pa_nil.weak fun s H Q ⟨p, l, S, R, L, h⟩ => Post.ok h Ext.refl R _ .nil⟩
theorem l_cons (ha : EM X E e f) (hb : LM X E es g) (hs : starEach (e :: es) X.env = (false, eval e X.env) :: starEach es X.env := by rfl) : LM X E (e :: es) (lCons f g) :=
  ⟨(pa_cons ha.pe hb.pa hs).weak fun s H Q ⟨p, l, S, R, L, h⟩ => T.of R L h fun p1 S1 H1 d v R1 x1 L1 r1 h1 => TL.of R1 L1 h1 fun p2 S2 H2 d2 v2 R2 x2 L2 r2 h2 => Post.ok h2 Ext.refl R2 _ (.cons (r1.ext x2 _ _) r2)⟩
def tru (x : D) (S : Hs) : Option Bool := match x with
  | .non => some false
  | .bl b => some b
  | .int i => some (i != 0)
  | .str x => if x.length ≤ sizeLine then some ((x.length : Int) != 0) else none
  | .tup xs => some (!xs.isEmpty)
  | .wt xs => some (!xs.isEmpty)
  | .ref i => match S[i]? with
    | some (.lst xs) => some (!xs.isEmpty)
    | some (.rol xs) => some (!xs.isEmpty)
    | some (.dic xs) => some (!xs.isEmpty)
    | _ => none
  | .wl xs => some (!xs.isEmpty)
  | .cst _ => none
def oTru (x : D) (S : Hs) : R Bool := match tru x S with
  | some b => .ok b S
  | none => .bad
theorem empty_len {α β : Type} {xs : List α} {ys : List β} (h : xs.length = ys.length) : xs.isEmpty = ys.isEmpty := by cases xs <;> cases ys <;> first | rfl | simp at h
theorem tru_V {K : PySem.W.Frag} {p : Nat → Addr} {S : Hs} {H : Hp} {x : D} {v : V} {b : Bool} (R : Real K p S H) (rx : Rep K p S.length H x v) (h : tru x S = some b) : TruV K v H b := by
  unfold tru at h
  cases rx with
  | non => cases h; rfl
  | bl b => cases h; rfl
  | int i => cases h; rfl
  | str x => simp only at h; split at h <;> cases h; exact ⟨by assumption, rfl⟩
  | tup t r => cases h; exact .inr (.inl ⟨_, SqT.of t, by rw [empty_len r.len]⟩)
  | wt t r => cases h; exact .inr (.inl ⟨_, t.sq, by rw [empty_len r.len]⟩)
  | wl t r => cases h; exact .inl ⟨_, t.sq, by rw [empty_len r.len]⟩
  | ref hi =>
    simp only at h
    split at h
    · rename_i q
      obtain ⟨vs, h1, r⟩ := R.lst q
      cases h; exact .inl ⟨_, SqL.of h1, by rw [empty_len r.len]⟩
    · rename_i q
      obtain ⟨o, vs, h1, r⟩ := R.ob _ _ q
      cases h; exact .inl ⟨_, .inl (.inr ⟨o, h1⟩), by rw [empty_len r.len]⟩
    · rename_i q
      obtain ⟨ks, h1, h2, h3⟩ := R.ob _ _ q
      cases h; exact .inr (.inr ⟨_, h1, by rw [empty_len (show ks.length = _ from by simpa using congrArg List.length h2)]⟩)
    · cases h
  | cst a => cases h
def mTru (f : M) : MB := fun l S => (f l S).bind oTru
theorem oTru_of {K : PySem.W.Frag} {p : Nat → Addr} {S : Hs} {H : Hp} {x : D} {v : V} {Q : Bool → Hp → Prop} (R : Real K p S H) (rx : Rep K p S.length H x v) (h : Post K E S.length p H (oTru x S) (QB Q)) : ∃ k, TruV K v H k ∧ Q k H := by
  unfold oTru at h
  split at h
  · rename_i b e; exact ⟨b, tru_V R rx e, Post.ok (Q := QB Q) h Ext.refl R⟩
  · exact h.elim
theorem b_tru {a : Expr} (ha : EM X E a f) (he : ∀ whole, isTrue a X.env whole = (do let v ← whole; standAt a.pos; holding [v] (truthy v)) := by intro _; rfl) : BM X E a (mTru f) :=
  ⟨(pt_truth ha.pe he).weak fun s H Q ⟨p, l, S, R, L, h⟩ => T.of R L h fun p1 S1 H1 d v R1 x1 L1 r1 h1 => oTru_of R1 r1 h1⟩
def mNotB (f : MB) : MB := fun l S => (f l S).bind fun b S1 => .ok (!b) S1
def mAndB (f g : MB) : MB := fun l S => (f l S).bind fun b S1 => if b = true then g l S1 else .ok false S1
def mOrB (f g : MB) : MB := fun l S => (f l S).bind fun b S1 => if b = true then .ok true S1 else g l S1
theorem TB.last {K : PySem.W.Frag} {s : St} {H : Hp} {f : MB} {p : Nat → Addr} {l : Ls} {S : Hs} {Q : Bool → Hp → Prop} (R : Real K p S H) (L : Sl K p S.length H l s) (h : Post K E S.length p H (f l S) (QB Q)) : TB K E f s H Q := ⟨p, l, S, R, L, h⟩
variable {a b : Expr} {rest : List Expr} {fb gb : MB}
theorem w_and1 (ha : BM X E a fb) : BW X E (.BoolOp .And [a] pos) fb := ⟨pw_and1 ha.pt⟩
theorem w_or1 (ha : BM X E a fb) : BW X E (.BoolOp .Or [a] pos) fb := ⟨pw_or1 ha.pt⟩
theorem w_and (ha : BM X E a fb) (hb : BW X E (.BoolOp .And (b :: rest) pos) gb) : BW X E (.BoolOp .And (a :: b :: rest) pos) (mAndB fb gb) :=
  ⟨(pw_and ha.pt hb.pw).weak fun s H Q ⟨p, l, S, R, L, h⟩ => TB.of R L h fun p1 S1 H1 b R1 x1 L1 h1 => by
    cases b with
    | true => exact TB.last R1 L1 h1
    | false => exact Post.ok (Q := QB Q) h1 Ext.refl R1⟩
theorem w_or (ha : BM X E a fb) (hb : BW X E (.BoolOp .Or (b :: rest) pos) gb) : BW X E (.BoolOp .Or (a :: b :: rest) pos) (mOrB fb gb) :=
  ⟨(pw_or ha.pt hb.pw).weak fun s H Q ⟨p, l, S, R, L, h⟩ => TB.of R L h fun p1 S1 H1 b R1 x1 L1 h1 => by
    cases b with
    | false => exact TB.last R1 L1 h1
    | true => exact Post.ok (Q := QB Q) h1 Ext.refl R1⟩
theorem b_of {e : Expr} (h : BW X E e fb) : BM X E e fb := ⟨h.pw.pt⟩
def mAnd (f g : M) : M := fun l S => (f l S).bind fun x S1 => (oTru x S1).bind fun b S2 => if b = true then g l S2 else .ok x S2
def mOr (f g : M) : M := fun l S => (f l S).bind fun x S1 => (oTru x S1).bind fun b S2 => if b = true then .ok x S2 else g l S2
def mIf (c : MB) (f g : M) : M := fun l S => (c l S).bind fun b S1 => if b = true then f l S1 else g l S1
variable {h' : M} {t : List Expr}
theorem oTru_bind {β : Type} {K : PySem.W.Frag} {p : Nat → Addr} {S : Hs} {H : Hp} {x : D} {v : V} {k : Bool → Hs → R β} {QQ : β → Hs → (Nat → Addr) → Hp → Prop} (R : Real K p S H) (rx : Rep K p S.length H x v)
    (h : Post K E S.length p H ((oTru x S).bind k) QQ) : ∃ b, TruV K v H b ∧ Post K E S.length p H (k b S) QQ := by
  unfold oTru at h
  split at h
  · rename_i b e; exact ⟨b, tru_V R rx e, h⟩
  · exact h.elim
theorem e_one {op : BoolOp} (ha : EM X E a f) : EM X E (.BoolOp op [a] pos) f := ⟨pe_one ha.pe⟩
theorem e_and {g : M} (ha : EM X E a f) (hb : EM X E (.BoolOp .And (b :: rest) pos) g) : EM X E (.BoolOp .And (a :: b :: rest) pos) (mAnd f g) :=
  ⟨(pe_andT ha.pe hb.pe).weak fun s H Q ⟨p, l, S, R, L, h⟩ => T.of R L h fun p1 S1 H1 d v R1 x1 L1 r1 h1 => by
    obtain ⟨k, hk, h2⟩ := oTru_bind R1 r1 h1
    refine ⟨k, hk, ?_⟩
    cases k with
    | true => exact T.last R1 L1 h2
    | false => exact Post.val h2 R1 r1⟩
theorem e_or {g : M} (ha : EM X E a f) (hb : EM X E (.BoolOp .Or (b :: rest) pos) g) : EM X E (.BoolOp .Or (a :: b :: rest) pos) (mOr f g) :=
  ⟨(pe_orT ha.pe hb.pe).weak fun s H Q ⟨p, l, S, R, L, h⟩ => T.of R L h fun p1 S1 H1 d v R1 x1 L1 r1 h1 => by
    obtain ⟨k, hk, h2⟩ := oTru_bind R1 r1 h1
    refine ⟨k, hk, ?_⟩
    cases k with
    | false => exact T.last R1 L1 h2
    | true => exact Post.val h2 R1 r1⟩
theorem e_if {c : Expr} {g : M} (hc : BM X E c fb) (ha : EM X E a f) (hb : EM X E b g) : EM X E (.IfExp c a b pos) (mIf fb f g) :=
  ⟨(pe_ifExp hc.pt ha.pe hb.pe).weak fun s H Q ⟨p, l, S, R, L, h⟩ => TB.of R L h fun p1 S1 H1 b R1 x1 L1 h1 => by
    cases b with
    | true => exact T.last R1 L1 h1
    | false => exact T.last R1 L1 h1⟩
end
def oIx (x y : D) (S : Hs) : R D := match x, y with
  | .str z, .int i => if z.length ≤ sizeLine then (match atI z.cps.toList i with
    | some c => .ok (.str ⟨#[c]⟩) S
    | none => .bad) else .bad
  | .tup xs, .int i => match atI xs i with
    | some d => .ok d S
    | none => .bad
  | .wt xs, .int i => match atI xs i with
    | some d => .ok d S
    | none => .bad
  | .wl xs, .int i => match atI xs i with
    | some d => .ok d S
    | none => .bad
  | .ref j, y => match S[j]? with
    | some (.lst xs) => (match y with
      | .int i => (match atI xs i with
        | some d => .ok d S
        | none => .bad)
      | _ => .bad)
    | some (.rol xs) => (match y with
      | .int i => (match atI xs i with
        | some d => .ok d S
        | none => .bad)
      | _ => .bad)
    | some (.dic _) => (match dGet x y S with
      | some (some d) => .ok d S
      | _ => .bad)
    | some (.dit _) => (match dGet x y S with
      | some (some d) => .ok d S
      | _ => .bad)
    | some (.fdc _) => (match dGet x y S with
      | some (some d) => .ok d S
      | _ => .bad)
    | some (.fdt _) => (match dGet x y S with
      | some (some d) => .ok d S
      | _ => .bad)
    | _ => .bad
  | _, _ => .bad
abbrev rIxDic : R2 := fun x y H Q => ∃ a v, x = .ref a ∧ DGet H a y (some v) ∧ Q v H
theorem ix_dic {X : Cx} (hu : X.A.units + 1 < cLine) : IxR X rIxDic := by
  intro value slice pins s σ H x y v u Q I rx ry h hs
  obtain ⟨a, w, rfl, g, q⟩ := h
  obtain rfl : v = Value.ref a := rx
  exact tail_any (dict_typeIs I g) PySem.F.slot_dict_getitem.lookup (d_getItem hu I g ry fun w' s3 I3 rw' => ⟨w, H, I3, rw', q⟩) hs
abbrev rIxAll (K : PySem.W.Frag) : R2 := orR rIxS (orR (rIxL K) (orR (rIxT K) rIxDic))
theorem ix_all {X : Cx} (hu : X.A.units + 1 < cLine) : IxR X (rIxAll X.K) := IxR.or ix_str (IxR.or ix_list (IxR.or ix_tup (ix_dic hu)))
section
variable {K : PySem.W.Frag} {E : St → XK} {p : Nat → Addr} {S : Hs} {H : Hp} {n : Nat} {pi : Nat → Addr}
theorem Reps.atI {ds : List D} {vs : List V} (h : Reps K pi n H ds vs) {i : Int} {d : D} (e : atI ds i = some d) : ∃ v, L2.atI vs i = some v ∧ Rep K pi n H d v := by
  unfold L2.atI at e ⊢
  rw [← h.len]
  cases q : ixN ds.length i with
  | none => rw [q] at e; cases e
  | some j =>
    rw [q] at e
    exact h.get e
theorem ok_ix : OpOk K E (rIxAll K) oIx := by
  intro p S H x y v u Q R rx ry h
  unfold oIx at h
  split at h
  · split at h
    · rename_i hl
      split at h
      · rename_i c e; cases rx; cases ry; exact .inl ⟨_, _, c, rfl, rfl, hl, e, h.val R (.str _)⟩
      · exact h.elim
    · exact h.elim
  · split at h
    · rename_i d e
      cases ry
      cases rx with
      | tup t r =>
      obtain ⟨w, e2, r2⟩ := r.atI e
      exact .inr (.inr (.inl ⟨_, _, _, w, rfl, rfl, SqT.of t, e2, h.val R r2⟩))
    · exact h.elim
  · split at h
    · rename_i d e
      cases ry
      cases rx with
      | wt t r =>
      obtain ⟨w, e2, r2⟩ := r.atI e
      exact .inr (.inr (.inl ⟨_, _, _, w, rfl, rfl, t.sq, e2, h.val R r2⟩))
    · exact h.elim
  · split at h
    · rename_i d e
      cases ry
      cases rx with
      | wl t r =>
      obtain ⟨w, e2, r2⟩ := r.atI e
      exact .inr (.inl ⟨_, _, _, w, rfl, rfl, t.sq, e2, h.val R r2⟩)
    · exact h.elim
  · split at h
    · rename_i q
      split at h
      · split at h
        · rename_i d e
          obtain ⟨vs, h1, r⟩ := R.lst q
          obtain ⟨w, e2, r2⟩ := r.atI e
          cases rx; cases ry
          exact .inr (.inl ⟨_, _, _, w, rfl, rfl, SqL.of h1, e2, h.val R r2⟩)
        · exact h.elim
      · exact h.elim
    · rename_i q
      split at h
      · split at h
        · rename_i d e
          obtain ⟨o, vs, h1, r⟩ := R.ob _ _ q
          obtain ⟨w, e2, r2⟩ := r.atI e
          cases rx; cases ry
          exact .inr (.inl ⟨_, _, _, w, rfl, rfl, .inl (.inr ⟨o, h1⟩), e2, h.val R r2⟩)
        · exact h.elim
      · exact h.elim
    · split at h
      · rename_i d e
        obtain ⟨a, w, e1, g, m⟩ := dGet_V R rx ry e
        obtain ⟨z, e3, r3⟩ := m
        subst e3
        exact .inr (.inr (.inr ⟨a, z, e1, g, h.val R r3⟩))
      · exact h.elim
    · split at h
      · rename_i d e
        obtain ⟨a, w, e1, g, m⟩ := dGet_V R rx ry e
        obtain ⟨z, e3, r3⟩ := m
        subst e3
        exact .inr (.inr (.inr ⟨a, z, e1, g, h.val R r3⟩))
      · exact h.elim
    · split at h
      · rename_i d e
        obtain ⟨a, w, e1, g, m⟩ := dGet_V R rx ry e
        obtain ⟨z, e3, r3⟩ := m
        subst e3
        exact .inr (.inr (.inr ⟨a, z, e1, g, h.val R r3⟩))
      · exact h.elim
    · split at h
      · rename_i d e
        obtain ⟨a, w, e1, g, m⟩ := dGet_V R rx ry e
        obtain ⟨z, e3, r3⟩ := m
        subst e3
        exact .inr (.inr (.inr ⟨a, z, e1, g, h.val R r3⟩))
      · exact h.elim
    · exact h.elim
  · exact h.elim
end
abbrev MO := Ls → Hs → R (Option Int)
def oNo : MO := fun _ S => .ok none S
def oSome (f : M) : MO := fun l S => (f l S).bind fun d S1 => match d with
  | .int i => .ok (some i) S1
  | _ => .bad
def cutD (xs : List D) (lo hi : Option Int) : List D := (xs.drop (HT.sIx xs.length 0 lo)).take (HT.sIx xs.length xs.length hi - HT.sIx xs.length 0 lo)
def oSl (x : D) (lo hi : Option Int) (S : Hs) : R D := match x with
  | .str z => if z.length ≤ sizeLine then .ok (.str (cutS z lo hi)) S else .bad
  | .tup xs => .ok (.tup (cutD xs lo hi)) S
  | .ref i => match S[i]? with
    | some (.lst xs) => .ok (.ref S.length) (S ++ [.lst (cutD xs lo hi)])
    | some (.rol xs) => .ok (.ref S.length) (S ++ [.lst (cutD xs lo hi)])
    | _ => .bad
  | _ => .bad
def mSl (f : M) (lo hi : MO) : M := fun l S => (f l S).bind fun x S1 => (lo l S1).bind fun a S2 => (hi l S2).bind fun b S3 => oSl x a b S3
def TO' (K : PySem.W.Frag) (E : St → XK) (f : MO) : TO := fun s H Q => ∃ p l S, Real K p S H ∧ Sl K p S.length H l s ∧ Post K E S.length p H (f l S) (fun d _ _ H => Q d H)
structure OM (X : Cx) (E : St → XK) (e : Option Expr) (f : MO) : Prop where po : PO X e (TO' X.K E f)
section
variable {X : Cx} {E : St → XK} {e a b : Expr} {f g : M} {pos p2 : Pos} {lo hi : Option Expr} {fl fh : MO}
theorem _root_.L2.PO.weak {X : Cx} {e : Option Expr} {t t' : TO} (h : PO X e t) (w : ∀ s H Q, t' s H Q → t s H Q) : PO X e t' := ⟨fun pins s σ H Q I q => h.run pins s σ H Q I (w σ H Q q)⟩
theorem o_no : OM X E none oNo := ⟨po_none.weak fun s H Q ⟨p, l, S, R, L, h⟩ => Post.ok (Q := fun d _ _ H => Q d H) h Ext.refl R⟩
theorem o_some (ha : EM X E a f) : OM X E (some a) (oSome f) := ⟨(po_some ha.pe).weak fun s H Q ⟨p, l, S, R, L, h⟩ => T.of R L h fun p1 S1 H1 d v R1 x1 L1 r1 h1 => by
  split at h1
  · cases r1; exact ⟨_, rfl, Post.ok (Q := fun d _ _ H => Q d H) h1 Ext.refl R1⟩
  · exact h1.elim⟩
theorem OM.of {K : PySem.W.Frag} {s : St} {H : Hp} {β : Type} {QQ : β → Hs → (Nat → Addr) → Hp → Prop} {f : MO} {k : Option Int → Hs → R β} {p : Nat → Addr} {l : Ls} {S : Hs} {Q' : Option Int → Hp → Prop} (R : Real K p S H) (L : Sl K p S.length H l s) (h : Post K E S.length p H ((f l S).bind k) QQ)
    (st : ∀ p1 S1 H1 b, Real K p1 S1 H1 → Ext S.length S1.length p p1 H H1 → Sl K p1 S1.length H1 l s → Post K E S1.length p1 H1 (k b S1) QQ → Q' b H1) : TO' K E f s H Q' :=
  ⟨p, l, S, R, L, h.bind.mono fun a S1 p1 H1 _ x R1 q => st p1 S1 H1 a R1 x (L.ext x) q⟩
theorem Reps.cut {K : PySem.W.Frag} {pi : Nat → Addr} {n : Nat} {H : Hp} {ds : List D} {vs : List V} (h : Reps K pi n H ds vs) (a b : Option Int) : Reps K pi n H (cutD ds a b) (cutV vs a b) := by
  unfold cutD cutV
  rw [← h.len]
  exact (h.drop _).take _
theorem cut_whole {vs : List V} {a b : Option Int} (h : HT.sIx vs.length 0 a = 0 ∧ HT.sIx vs.length vs.length b = vs.length) : cutV vs a b = vs := by
  unfold cutV
  rw [h.1, h.2, List.drop_zero, Nat.sub_zero, List.take_length]
theorem e_slice (ha : EM X E a f) (hl : OM X E lo fl) (hu : OM X E hi fh) : EM X E (.Subscript a (.Slice lo hi none p2) pos) (mSl f fl fh) :=
  ⟨(pe_slice (SlR.or sl_str (SlR.or sl_list sl_tupA)) ha.pe hl.po hu.po).weak fun s H Q ⟨p, l, S, R, L, h⟩ => T.of R L h fun p1 S1 H1 d v R1 x1 L1 r1 h1 => OM.of R1 L1 h1 fun p2 S2 H2 ba R2 x2 L2 h2 => OM.of R2 L2 h2 fun p3 S3 H3 bb R3 x3 L3 h3 => by
    have r3 := r1.ext (x2.trans x3) _ _
    unfold oSl at h3
    split at h3
    · split at h3
      · rename_i hl; cases r3; exact .inl ⟨_, rfl, hl, h3.val R3 (.str _)⟩
      · exact h3.elim
    · cases r3 with
      | @tup q _ vs t r =>
      refine .inr (.inr ⟨q, vs, rfl, SqT.of t, fun w => ?_, fun _ z hz => h3.valT R3 (r.cut ba bb) hz⟩)
      have := r.cut ba bb
      rw [cut_whole w] at this
      exact h3.val R3 (.tup t this)
    · split at h3
      · rename_i q
        obtain ⟨vs, e1, r⟩ := R3.lst q
        cases r3
        exact .inr (.inl ⟨_, vs, rfl, SqL.of e1, fun z hz => h3.newL R3 (r.cut ba bb) hz⟩)
      · rename_i q
        obtain ⟨o, vs, e1, r⟩ := R3.ob _ _ q
        cases r3
        exact .inr (.inl ⟨_, vs, rfl, .inl (.inr ⟨o, e1⟩), fun z hz => h3.newL R3 (r.cut ba bb) hz⟩)
      · exact h3.elim
    · exact h3.elim⟩
theorem e_ix (hu : X.A.units + 1 < cLine) (ha : EM X E a f) (hb : EM X E b g) (hs : PlainIx b := by intro _ _; rfl) : EM X E (.Subscript a b pos) (mBin oIx f g) :=
  ⟨(pe_ix (ix_all hu) ha.pe hb.pe hs).weak fun s H Q ⟨p, l, S, R, L, h⟩ => T.of R L h fun p1 S1 H1 d v R1 x1 L1 r1 h1 => T.of R1 L1 h1 fun p2 S2 H2 d2 v2 R2 x2 L2 r2 h2 => ok_ix p2 S2 H2 _ _ _ _ Q R2 (r1.ext x2 _ _) r2 h2⟩
def mTup (f : ML) : M := fun l S => (f l S).bind fun ds S1 => if ds.length ≤ sizeLine then .ok (.tup ds) S1 else .bad
def mLst (f : ML) : M := fun l S => (f l S).bind fun ds S1 => if ds.length ≤ sizeLine then .ok (.ref S1.length) (S1 ++ [.lst ds]) else .bad
theorem e_tup {es : List Expr} {fl : ML} {x1 : Nat} (h : LM X E es fl) : EM X E (.Tuple es x1 pos) (mTup fl) :=
  ⟨(pe_tup h.pa).weak fun s H Q ⟨p, l, S, R, L, h⟩ => TL.of R L h fun p1 S1 H1 d v R1 x1 L1 r1 h1 => by
    split at h1
    · rename_i hl; exact ⟨by rw [← r1.len]; exact hl, fun q hq => h1.valT R1 r1 hq⟩
    · exact h1.elim⟩
theorem e_lst {es : List Expr} {fl : ML} (h : LM X E es fl) : EM X E (.List es pos) (mLst fl) :=
  ⟨(pe_lst h.pa).weak fun s H Q ⟨p, l, S, R, L, h⟩ => TL.of R L h fun p1 S1 H1 d v R1 x1 L1 r1 h1 => by
    split at h1
    · rename_i hl; exact ⟨by rw [← r1.len]; exact hl, fun q hq => h1.newL R1 r1 hq⟩
    · exact h1.elim⟩
def mDicK : M := fun _ S => .ok (.ref S.length) (S ++ [.dic []])
def mDicT : M := fun _ S => .ok (.ref S.length) (S ++ [.dit []])
theorem e_dicK : EM X E (.Dict [] [] pos) mDicK := ⟨pe_dnewK.weak fun s H Q ⟨p, l, S, R, L, h⟩ q hq => Post.new h R hq ⟨[], upd_same, rfl, .nil⟩⟩
theorem e_dicT : EM X E (.Dict [] [] pos) mDicT := ⟨pe_dnewT.weak fun s H Q ⟨p, l, S, R, L, h⟩ q hq => Post.new h R hq ⟨[], upd_same, rfl, .nil⟩⟩
end
end Ly
set_option Elab.async false
set_option linter.all false
set_option maxRecDepth 100000
namespace Ly
open PySem PySem.Spec L2
open PyProof.Rows hiding St
def mCall (op : List D → Hs → R D) (f : ML) : M := fun l S => (f l S).bind op
def CallOk (K : PySem.W.Frag) (E : St → XK) (r : List V → Hp → VK → Prop) (op : List D → Hs → R D) : Prop :=
  ∀ p S H ds vs Q, Real K p S H → Reps K p S.length H ds vs → Post K E S.length p H (op ds S) (QD K Q) → r vs H Q
abbrev orC (r r' : List V → Hp → VK → Prop) : List V → Hp → VK → Prop := fun xs H Q => r xs H Q ∨ r' xs H Q
section
variable {X : Cx} {E : St → XK} {e : Expr} {es : List Expr} {f : ML} {x : Str} {p pos : Pos} {id T : String} {r : List V → Hp → VK → Prop} {op : List D → Hs → R D}
theorem e_callB (hc : CallR X (.builtin id) r) (hk : CallOk X.K E r op) (hg : Gl X x) (hm : X.mg x = none) (hv : bootBuiltins x = some (.builtin id)) (ha : LM X E (e :: es) f) (hn : x ≠ "__name__" := by decide) (hdb : (x == ("__debug__" : Str)) = false := by decide)
    (he : starEach (e :: es) X.env = (false, eval e X.env) :: starEach es X.env := by rfl) (hpl : (backTo pos (starEach es X.env)).any (·.1) = false := by rfl) : EM X E (.Call (.Name x p) (e :: es) [] pos) (mCall op f) :=
  ⟨(pe_callB hc hg hm hv ha.pa hn hdb he hpl).weak fun s H Q ⟨p, l, S, R, L, h⟩ => TL.of R L h fun p1 S1 H1 d v R1 x1 L1 r1 h1 => hk p1 S1 H1 _ _ Q R1 r1 h1⟩
theorem e_callT (hc : CallR X (.type T) r) (hk : CallOk X.K E r op) (hg : Gl X x) (hm : X.mg x = none) (hv : bootBuiltins x = some (.type T)) (ha : LM X E (e :: es) f) (hn : x ≠ "__name__" := by decide) (hdb : (x == ("__debug__" : Str)) = false := by decide)
    (he : starEach (e :: es) X.env = (false, eval e X.env) :: starEach es X.env := by rfl) (hpl : (backTo pos (starEach es X.env)).any (·.1) = false := by rfl) : EM X E (.Call (.Name x p) (e :: es) [] pos) (mCall op f) :=
  ⟨(pe_callTy hc hg hm hv ha.pa hn hdb he hpl).weak fun s H Q ⟨p, l, S, R, L, h⟩ => TL.of R L h fun p1 S1 H1 d v R1 x1 L1 r1 h1 => hk p1 S1 H1 _ _ Q R1 r1 h1⟩
end
def lenD (x : D) (S : Hs) : Option Nat := match x with
  | .str y => if y.length ≤ sizeLine then some y.length else none
  | .tup xs => some xs.length
  | .wt xs => some xs.length
  | .wl xs => some xs.length
  | .ref i => match S[i]? with
    | some (.lst xs) => some xs.length
    | some (.rol xs) => some xs.length
    | some (.dic xs) => some xs.length
    | _ => none
  | _ => none
def bLen : List D → Hs → R D
  | [x], S => match lenD x S with
    | some n => .ok (.int (n : Int)) S
    | none => .bad
  | _, _ => .bad
def bInt : List D → Hs → R D
  | [.int i], S => .ok (.int i) S
  | [.bl b], S => .ok (.int (b2i b)) S
  | [.str x], S => match intText? x with
    | some n => if x.length ≤ 640 then .ok (.int n) S else .bad
    | none => .bad
  | _, _ => .bad
def bAbs : List D → Hs → R D
  | [.int i], S => .ok (.int (if i < 0 then -i else i)) S
  | _, _ => .bad
def seqD (x : D) (S : Hs) : Option (List D) := match x with
  | .ref i => match S[i]? with
    | some (.lst xs) => some xs
    | some (.rol xs) => some xs
    | _ => none
  | .wl xs => some xs
  | _ => none
def bTuple : List D → Hs → R D
  | [.tup xs], S => .ok (.tup xs) S
  | [.wt xs], S => .ok (.wt xs) S
  | [.ref i], S => match seqD (.ref i) S with
    | some xs => .ok (.tup xs) S
    | none => .bad
  | _, _ => .bad
def keyD : Key → D
  | .inl i => .int i
  | .inr x => .str x
def bList : List D → Hs → R D
  | [.tup xs], S => .ok (.ref S.length) (S ++ [.lst xs])
  | [.wt xs], S => .ok (.ref S.length) (S ++ [.lst xs])
  | [.ref i], S => match S[i]? with
    | some (.lst xs) => .ok (.ref S.length) (S ++ [.lst xs])
    | some (.rol xs) => .ok (.ref S.length) (S ++ [.lst xs])
    | some (.dic kvs) => .ok (.ref S.length) (S ++ [.lst (kvs.map fun kv => keyD kv.1)])
    | _ => .bad
  | _, _ => .bad
section
variable {K : PySem.W.Frag} {E : St → XK} {X : Cx}
abbrev rLenAll (K : PySem.W.Frag) : List V → Hp → VK → Prop := orC (fun xs H Q => ∃ x n, xs = [x] ∧ LenV K x H n ∧ Q (V.int ((n : Nat) : Int)) H) (fun xs H Q => ∃ a kvs, xs = [V.ref a] ∧ H a = some (.dK kvs) ∧ Q (V.int ((kvs.length : Nat) : Int)) H)
theorem cr_lenA : CallR X (.builtin "len") (rLenAll X.K) := CallR.or call_len call_lenD
theorem ok_len : CallOk K E (rLenAll K) bLen := by
  intro p S H ds vs Q R r h
  unfold bLen at h
  split at h
  · cases r with
    | cons r0 rs =>
    cases rs
    split at h
    · rename_i n e
      have hq : Q (V.int ((n : Nat) : Int)) H := h.val R (.int _)
      unfold lenD at e
      split at e
      · split at e
        · cases e; cases r0; exact .inl ⟨_, _, rfl, ⟨by assumption, rfl⟩, hq⟩
        · cases e
      · cases e
        cases r0 with
        | tup t r => exact .inl ⟨_, _, rfl, .inr ⟨_, SqT.of t, r.len⟩, hq⟩
      · cases e
        cases r0 with
        | wt t r => exact .inl ⟨_, _, rfl, .inr ⟨_, t.sq, r.len⟩, hq⟩
      · cases e
        cases r0 with
        | wl t r => exact .inl ⟨_, _, rfl, .inl ⟨_, t.sq, r.len⟩, hq⟩
      · split at e
        · rename_i q
          obtain ⟨vs, h1, r⟩ := R.lst q
          cases e; cases r0; exact .inl ⟨_, _, rfl, .inl ⟨_, SqL.of h1, r.len⟩, hq⟩
        · rename_i q
          obtain ⟨o, vs, h1, r⟩ := R.ob _ _ q
          cases e; cases r0; exact .inl ⟨_, _, rfl, .inl ⟨_, .inl (.inr ⟨o, h1⟩), r.len⟩, hq⟩
        · rename_i zs q
          obtain ⟨ks, h1, h2, h3⟩ := R.ob _ _ q
          cases e; cases r0
          have hl : ks.length = zs.length := by simpa using congrArg List.length h2
          exact .inr ⟨_, _, rfl, h1, by rw [hl]; exact hq⟩
        · cases e
      · cases e
    · exact h.elim
  · exact h.elim
abbrev rIntAll : List V → Hp → VK → Prop := orC (fun xs H Q => (∃ i, xs = [.int i] ∧ Q (.int i) H) ∨ ∃ k, xs = [.bl k] ∧ Q (.int (b2i k)) H) (fun xs H Q => ∃ a n, xs = [V.str a] ∧ intText? a = some n ∧ a.length ≤ 640 ∧ Q (V.int n) H)
theorem cr_intA : CallR X (.type "int") rIntAll := CallR.or call_int1 call_int_str
theorem ok_int : CallOk K E rIntAll bInt := by
  intro p S H ds vs Q R r h
  unfold bInt at h
  split at h
  · cases r with
    | cons r0 rs => cases rs; cases r0; exact .inl (.inl ⟨_, rfl, h.val R (.int _)⟩)
  · cases r with
    | cons r0 rs => cases rs; cases r0; exact .inl (.inr ⟨_, rfl, h.val R (.int _)⟩)
  · cases r with
    | cons r0 rs =>
    cases rs; cases r0
    split at h
    · rename_i n e
      split at h
      · rename_i hl; exact .inr ⟨_, _, rfl, e, hl, h.val R (.int _)⟩
      · exact h.elim
    · exact h.elim
  · exact h.elim
theorem ok_abs : CallOk K E (fun xs H Q => ∃ i, xs = [.int i] ∧ Q (.int (if i < 0 then -i else i)) H) bAbs := by
  intro p S H ds vs Q R r h
  unfold bAbs at h
  split at h
  · cases r with
    | cons r0 rs => cases rs; cases r0; exact ⟨_, rfl, h.val R (.int _)⟩
  · exact h.elim
theorem seq_V {p : Nat → Addr} {S : Hs} {H : Hp} {x : D} {v : V} {ds : List D} (R : Real K p S H) (r : Rep K p S.length H x v) (h : seqD x S = some ds) : ∃ a vs, v = .ref a ∧ SqL K H a vs ∧ Reps K p S.length H ds vs := by
  unfold seqD at h
  split at h
  · split at h
    · rename_i q
      cases h; cases r
      obtain ⟨vs, h1, r⟩ := R.lst q
      exact ⟨_, vs, rfl, SqL.of h1, r⟩
    · rename_i q
      cases h; cases r
      obtain ⟨o, vs, h1, r⟩ := R.ob _ _ q
      exact ⟨_, vs, rfl, .inl (.inr ⟨o, h1⟩), r⟩
    · cases h
  · cases h
    cases r with
    | wl t r => exact ⟨_, _, rfl, t.sq, r⟩
  · cases h
abbrev rTupleOf (K : PySem.W.Frag) : List V → Hp → VK → Prop := fun xs H Q => ∃ p ys, xs = [V.ref p] ∧ ((SqL K H p ys ∧ ∀ l, H l = none → Q (V.ref l) (upd H l (.tup ys))) ∨ SqT K H p ys ∧ Q (V.ref p) H)
theorem ok_tuple : CallOk K E (rTupleOf K) bTuple := by
  intro p S H ds vs Q R r h
  unfold bTuple at h
  split at h
  · cases r with
    | cons r0 rs =>
    cases rs
    cases r0 with
    | tup t r => exact ⟨_, _, rfl, .inr ⟨SqT.of t, h.val R (.tup t r)⟩⟩
  · cases r with
    | cons r0 rs =>
    cases rs
    cases r0 with
    | wt t r => exact ⟨_, _, rfl, .inr ⟨t.sq, h.val R (.wt t r)⟩⟩
  · split at h
    · rename_i e
      cases r with
      | cons r0 rs =>
      cases rs
      obtain ⟨a, vs, rfl, hs, r⟩ := seq_V R r0 e
      exact ⟨a, vs, rfl, .inl ⟨hs, fun q hq => h.valT R r hq⟩⟩
    · exact h.elim
  · exact h.elim
abbrev rListOf (K : PySem.W.Frag) : List V → Hp → VK → Prop := fun xs H Q => ∃ p ys, xs = [V.ref p] ∧ (SqL K H p ys ∨ SqT K H p ys) ∧ ∀ l, H l = none → Q (V.ref l) (upd H l (.lst ys))
abbrev rListD : List V → Hp → VK → Prop := fun xs H Q => ∃ (a : Addr) (kvs : List (Key × V)), xs = [.ref a] ∧ Rd H a (.dK kvs) ∧ ∀ p, H p = none → Q (.ref p) (upd H p (.lst (kvs.map fun kv => kV kv.1)))
theorem cr_listA (hc : X.calm = true) : CallR X (.type "list") (orC (rListOf X.K) rListD) := CallR.or call_list_of (call_listD hc)
theorem keyD_V {pi : Nat → Addr} {n : Nat} {H : Hp} (k : Key) : Rep K pi n H (keyD k) (kV k) := by cases k <;> constructor
theorem keysD_V {pi : Nat → Addr} {n : Nat} {H : Hp} {kvs : List (Key × D)} {ks : List (Key × V)} (h : ks.map (·.1) = kvs.map (·.1)) : Reps K pi n H (kvs.map fun kv => keyD kv.1) (ks.map fun kv => kV kv.1) := by
  induction kvs generalizing ks with
  | nil => cases ks with | nil => exact .nil | cons a b => cases h
  | cons a kvs ih =>
    cases ks with
    | nil => cases h
    | cons b ks =>
      simp only [List.map_cons, List.cons.injEq] at h
      simp only [List.map_cons]
      exact .cons (by rw [h.1]; exact keyD_V _) (ih h.2)
theorem ok_list : CallOk K E (orC (rListOf K) rListD) bList := by
  intro p S H ds vs Q R r h
  unfold bList at h
  split at h
  · cases r with
    | cons r0 rs =>
    cases rs
    cases r0 with
    | tup t r => exact .inl ⟨_, _, rfl, .inr (SqT.of t), fun q hq => h.newL R r hq⟩
  · cases r with
    | cons r0 rs =>
    cases rs
    cases r0 with
    | wt t r => exact .inl ⟨_, _, rfl, .inr t.sq, fun q hq => h.newL R r hq⟩
  · cases r with
    | cons r0 rs =>
    cases rs
    split at h
    · rename_i q
      obtain ⟨vs, h1, r⟩ := R.lst q
      cases r0
      exact .inl ⟨_, _, rfl, .inl (SqL.of h1), fun q hq => h.newL R r hq⟩
    · rename_i q
      obtain ⟨o, vs, h1, r⟩ := R.ob _ _ q
      cases r0
      exact .inl ⟨_, _, rfl, .inl (.inl (.inr ⟨o, h1⟩)), fun q hq => h.newL R r hq⟩
    · rename_i q
      obtain ⟨ks, h1, h2, h3⟩ := R.ob _ _ q
      cases r0
      exact .inr ⟨_, _, rfl, .inl h1, fun q hq => h.newL R (keysD_V h2) hq⟩
    · exact h.elim
  · exact h.elim
end
section
variable {X : Cx} {E : St → XK} {e : Expr} {f : ML} {p pos : Pos} {es : List Expr}
theorem c_len (hm : X.mg "len" = none) (ha : LM X E [e] f) (hg : Gl X "len" := by rfl) (he : starEach [e] X.env = (false, eval e X.env) :: starEach [] X.env := by rfl) : EM X E (.Call (.Name "len" p) [e] [] pos) (mCall bLen f) := e_callB cr_lenA ok_len hg hm (by decide +kernel) ha (by decide) (by decide) he (by rfl)
theorem c_int (hm : X.mg "int" = none) (ha : LM X E [e] f) (hg : Gl X "int" := by rfl) (he : starEach [e] X.env = (false, eval e X.env) :: starEach [] X.env := by rfl) : EM X E (.Call (.Name "int" p) [e] [] pos) (mCall bInt f) := e_callT cr_intA ok_int hg hm (by decide +kernel) ha (by decide) (by decide) he (by rfl)
theorem c_abs (hm : X.mg "abs" = none) (ha : LM X E [e] f) (hg : Gl X "abs" := by rfl) (he : starEach [e] X.env = (false, eval e X.env) :: starEach [] X.env := by rfl) : EM X E (.Call (.Name "abs" p) [e] [] pos) (mCall bAbs f) := e_callB call_abs ok_abs hg hm (by decide +kernel) ha (by decide) (by decide) he (by rfl)
theorem c_tuple (hm : X.mg "tuple" = none) (ha : LM X E [e] f) (hg : Gl X "tuple" := by rfl) (he : starEach [e] X.env = (false, eval e X.env) :: starEach [] X.env := by rfl) : EM X E (.Call (.Name "tuple" p) [e] [] pos) (mCall bTuple f) := e_callT call_tuple_of ok_tuple hg hm (by decide +kernel) ha (by decide) (by decide) he (by rfl)
theorem c_list (hc : X.calm = true) (hm : X.mg "list" = none) (ha : LM X E [e] f) (hg : Gl X "list" := by rfl) (he : starEach [e] X.env = (false, eval e X.env) :: starEach [] X.env := by rfl) : EM X E (.Call (.Name "list" p) [e] [] pos) (mCall bList f) := e_callT (cr_listA hc) ok_list hg hm (by decide +kernel) ha (by decide) (by decide) he (by rfl)
end
end Ly
set_option Elab.async false
set_option linter.all false
set_option maxRecDepth 100000
namespace Ly
open PySem PySem.Spec L2
open PyProof.Rows hiding St
def hasTy (T : String) (x : D) (S : Hs) : Bool := match x with
  | .str _ => decide (T = "str")
  | .int _ => decide (T = "int")
  | .ref i => match S[i]? with
    | some (.lst _) => decide (T = "list")
    | some (.rol _) => decide (T = "list")
    | some (.dic _) => decide (T = "dict")
    | some (.dit _) => decide (T = "dict")
    | _ => false
  | _ => false
theorem hasTy_V {K : PySem.W.Frag} {T : String} {p : Nat → Addr} {S : Hs} {H : Hp} {x : D} {v : V} (R : Real K p S H) (r : Rep K p S.length H x v) (h : hasTy T x S = true) : tyV K T v H := by
  unfold hasTy at h
  cases r with
  | str x => exact of_decide_eq_true (p := T = "str") h
  | int x => exact of_decide_eq_true (p := T = "int") h
  | ref hi =>
    simp only at h
    split at h
    · rename_i q
      obtain ⟨vs, h1, r⟩ := R.lst q
      exact .inl ⟨of_decide_eq_true h, _, SqL.of h1⟩
    · rename_i q
      obtain ⟨o, vs, h1, r⟩ := R.ob _ _ q
      exact .inl ⟨of_decide_eq_true h, _, .inl (.inr ⟨o, h1⟩)⟩
    · rename_i q
      obtain ⟨ks, h1, _⟩ := R.ob _ _ q
      exact .inr (.inr (.inl ⟨of_decide_eq_true h, .inl ⟨_, h1⟩⟩))
    · rename_i q
      obtain ⟨ks, h1, _⟩ := R.ob _ _ q
      exact .inr (.inr (.inl ⟨of_decide_eq_true h, .inr ⟨_, h1⟩⟩))
    · cases h
  | _ => cases h
def mBM (Tn : String) (op : D → List D → Hs → R D) (f : M) (g : ML) : M := fun l S => (f l S).bind fun x S1 => if hasTy Tn x S1 = true then (g l S1).bind fun ds S2 => op x ds S2 else .bad
def MtOk (K : PySem.W.Frag) (E : St → XK) (r : V → List V → Hp → VK → Prop) (op : D → List D → Hs → R D) : Prop :=
  ∀ p S H x v ds vs Q, Real K p S H → Rep K p S.length H x v → Reps K p S.length H ds vs → Post K E S.length p H (op x ds S) (QD K Q) → r v vs H Q
section
variable {X : Cx} {E : St → XK} {o e : Expr} {es : List Expr} {f : M} {g : ML} {name : Str} {apos cpos : Pos} {Tn id : String} {r : V → List V → Hp → VK → Prop} {op : D → List D → Hs → R D}
theorem e_bm (pa : PlainAttrs Tn) (slot : Slot Tn name id) (hty : typeOf (.builtin id) = pure (.type "method_descriptor")) (hm : MtR X id r) (hk : MtOk X.K E r op) (ho : EM X E o f) (ha : LM X E (e :: es) g)
    (hbase : attributeBase o name X.env (eval o X.env) = eval o X.env := by rfl)
    (hfew : ((backTo cpos (starEach (e :: es) X.env)).all (fun x => !x.1) && (backToKw cpos (keywordEach [] X.env)).all (fun x => x.1.isSome)
      && decide ((e :: es).length + ([] : List Keyword).length + (if ([] : List Keyword).isEmpty then 0 else 1) < 30)) = true := by rfl)
    (hline : (apos.endLine == cpos.line) = true := by rfl) (hs : starEach (e :: es) X.env = (false, eval e X.env) :: starEach es X.env := by rfl) (hplain : (backTo cpos (starEach es X.env)).any (·.1) = false := by rfl) :
    EM X E (.Call (.Attribute o name apos) (e :: es) [] cpos) (mBM Tn op f g) :=
  ⟨(pe_bm pa slot hty hm ho.pe ha.pa hbase hfew hline hs hplain).weak fun s H Q ⟨p, l, S, R, L, h⟩ => T.of R L h fun p1 S1 H1 d v R1 x1 L1 r1 h1 => by
    split at h1
    · rename_i ht
      exact ⟨hasTy_V R1 r1 ht, TL.of R1 L1 h1 fun p2 S2 H2 d2 v2 R2 x2 L2 r2 h2 => hk p2 S2 H2 _ _ _ _ Q R2 (r1.ext x2 _ _) r2 h2⟩
    · exact h1.elim⟩
end
def oAppend (x : D) (ds : List D) (S : Hs) : R D := match x, ds with
  | .ref i, [y] => match S[i]? with
    | some (.lst xs) => if xs.length < sizeLine then .ok .non (S.set i (.lst (xs ++ [y]))) else .bad
    | _ => .bad
  | _, _ => .bad
def oExtend (x : D) (ds : List D) (S : Hs) : R D := match x, ds with
  | .ref i, [.ref j] => match S[i]?, S[j]? with
    | some (.lst xs), some (.lst ys) => if xs.length + ys.length ≤ sizeLine then .ok .non (S.set i (.lst (xs ++ ys))) else .bad
    | _, _ => .bad
  | _, _ => .bad
def oPop (x : D) (ds : List D) (S : Hs) : R D := match x, ds with
  | .ref i, [] => match S[i]? with
    | some (.lst xs) => (match xs[xs.length - 1]? with
      | some y => .ok y (S.set i (.lst xs.dropLast))
      | none => .bad)
    | _ => .bad
  | _, _ => .bad
section
variable {K : PySem.W.Frag} {E : St → XK} {X : Cx}
theorem ok_append : MtOk K E rAppend oAppend := by
  intro p S H x v ds vs Q R rx r h
  unfold oAppend at h
  split at h
  · split at h
    · rename_i y _ xs q
      split at h
      · rename_i hl
        obtain ⟨us, h1, r1⟩ := R.lst q
        cases rx
        cases r with
        | cons r0 rs =>
        cases rs
        have hi := Real.lt q
        refine ⟨_, us, _, rfl, rfl, h1, by rw [← r1.len]; exact hl, h.put R hi ⟨_, upd_same, ?_⟩ .non⟩
        exact (r1.ext (ext_upd (R.notup hi)) _ _).append (.cons (r0.ext (ext_upd (R.notup hi)) _ _) .nil)
      · exact h.elim
    · exact h.elim
  · exact h.elim
theorem Reps.dropLast {pi : Nat → Addr} {n : Nat} {H : Hp} {ds : List D} {vs : List V} (r : Reps K pi n H ds vs) : Reps K pi n H ds.dropLast vs.dropLast := by
  rw [List.dropLast_eq_take, List.dropLast_eq_take, ← r.len]; exact r.take _
end
def mSet (i : Nat) (f : M) : MS := fun l S => (f l S).bind fun d S1 => .ok (.nx (l.set i (some d))) S1
def mExpr (f : M) : MS := fun l S => (f l S).bind fun _ S1 => .ok (.nx l) S1
def mRet (f : M) : MS := fun l S => (f l S).bind fun d S1 => .ok (.rt d) S1
def mRetN : MS := fun _ S => .ok (.rt .non) S
def mPass : MS := fun l S => .ok (.nx l) S
def mBrk : MS := fun l S => .ok (.bk l) S
def mCnt : MS := fun l S => .ok (.ct l) S
def mSeq (f g : MS) : MS := fun l S => (f l S).bind fun r S1 => match r with
  | .nx l1 => g l1 S1
  | r => .ok r S1
def mIfS (c : MB) (f g : MS) : MS := fun l S => (c l S).bind fun b S1 => if b = true then f l S1 else g l S1
section
variable {X : Cx} {E : St → XK} {st : Stmt} {sts : List Stmt} {f g : MS} {e : Expr} {m : M} {pos : Pos}
theorem Post.nx {K : PySem.W.Frag} {D0 : Ends} {p : Nat → Addr} {S : Hs} {H : Hp} {l : Ls} {s : St} (h : Post K E S.length p H (.ok (.nx l) S) (QF K D0)) (R : Real K p S H) (L : Sl K p S.length H l s) : D0.nx s H := Post.ok (Q := QF K D0) h Ext.refl R s L
theorem SMs.nil : SMs X E [] mPass := ⟨pss_nil.weak fun s H D0 ⟨p, l, S, R, L, h⟩ => Post.nx h R L⟩
theorem SMs.cons (h1 : SM X E st f) (h2 : SMs X E sts g) : SMs X E (st :: sts) (mSeq f g) := ⟨(pss_cons h1.ps h2.ps).weak fun s H D0 ⟨p, l, S, R, L, h⟩ => by
  refine ⟨p, l, S, R, L, (Post.bind (r := f l S) h).mono fun a S1 p1 H1 _ x R1 q => ?_⟩
  cases a with
  | nx l1 => exact fun s1 L1 => ⟨p1, l1, S1, R1, L1, q⟩
  | rt d => exact fun v r => Post.ok (Q := QF _ D0) q Ext.refl R1 v r
  | bk l1 => exact fun v r => Post.ok (Q := QF _ D0) q Ext.refl R1 v r
  | ct l1 => exact fun v r => Post.ok (Q := QF _ D0) q Ext.refl R1 v r⟩
theorem SMs.one (h1 : SM X E st f) : SMs X E [st] f := ⟨pss_one h1.ps⟩
theorem s_cnt : SM X E (.Continue pos) mCnt := ⟨ps_continue.weak fun s H D0 ⟨p, l, S, R, L, h⟩ => Post.ok (Q := QF _ D0) h Ext.refl R s L⟩
theorem s_set {i : Nat} {x : Str} {pos' : Pos} (hN : X.N.Nodup) (he : EM X E e m) (hi : X.N[i]? = some x := by rfl) (hx : L2.Loc X.env.scope x := by first | exact Or.inl rfl | exact Or.inr rfl)
    (hs : swapsWith e (some (.Name x pos')) pos.line X.env = pure false := by rfl) (hf : X.fn x = true ∨ X.env.scope.names.lookup x = some .local := by first | exact .inl rfl | exact .inr rfl | assumption) :
    SM X E (.Assign [.Name x pos'] e pos) (mSet i m) :=
  ⟨(ps_set hN hi hx he.pe hs hf).weak fun s H D0 ⟨p, l, S, R, L, h⟩ => T.of R L h fun p1 S1 H1 d v R1 x1 L1 r1 h1 => Post.nx h1 R1 (L1.set i r1)⟩
theorem s_expr (he : EM X E e m) (hs : swapsWith e none pos.line X.env = pure false := by rfl) : SM X E (.Expr e pos) (mExpr m) :=
  ⟨(ps_expr he.pe hs).weak fun s H D0 ⟨p, l, S, R, L, h⟩ => T.of R L h fun p1 S1 H1 d v R1 x1 L1 r1 h1 => Post.nx h1 R1 L1⟩
theorem s_ret (he : EM X E e m) : SM X E (.Return (some e) pos) (mRet m) :=
  ⟨(ps_ret he.pe).weak fun s H D0 ⟨p, l, S, R, L, h⟩ => T.of R L h fun p1 S1 H1 d v R1 x1 L1 r1 h1 => Post.ok (Q := QF _ D0) h1 Ext.refl R1 v r1⟩
theorem TSt.last {K : PySem.W.Frag} {s : St} {H : Hp} {D0 : Ends} {p : Nat → Addr} {l : Ls} {S : Hs} (R : Real K p S H) (L : Sl K p S.length H l s) (h : Post K E S.length p H (f l S) (QF K D0)) : TSt K E f D0 s H := ⟨p, l, S, R, L, h⟩
theorem s_if {c : Expr} {a b : List Stmt} {cm : MB} (hc : BM X E c cm) (ha : SMs X E a f) (hb : SMs X E b g) : SM X E (.If c a b pos) (mIfS cm f g) :=
  ⟨(ps_if hc.pt ha.ps hb.ps).weak fun s H D0 ⟨p, l, S, R, L, h⟩ => TB.of R L h fun p1 S1 H1 b R1 x1 L1 h1 => by
    cases b with
    | true => exact TSt.last R1 L1 h1
    | false => exact TSt.last R1 L1 h1⟩
end
def iter {A β : Type} (step : A → Sum A (R β)) : Nat → A → R β
  | 0, _ => .bad
  | n + 1, a => Sum.elim (iter step n) id (step a)
theorem iter_succ {A β : Type} (step : A → Sum A (R β)) : ∀ n a, iter step n a ≠ .bad → iter step (n + 1) a = iter step n a
  | 0, a, h => absurd rfl h
  | n + 1, a, h => by
    simp only [iter] at h ⊢
    cases e : step a with
    | inl a' => rw [e] at h; exact iter_succ step n a' h
    | inr r => rfl
theorem iter_le {A β : Type} (step : A → Sum A (R β)) {n m : Nat} (hnm : n ≤ m) {a : A} (h : iter step n a ≠ .bad) : iter step m a = iter step n a := by
  induction hnm with
  | refl => rfl
  | step _ ih => rw [iter_succ step _ a (by rw [ih]; exact h), ih]
open Classical in
noncomputable def runI {A β : Type} (step : A → Sum A (R β)) (a : A) : R β := if h : ∃ n, iter step n a ≠ .bad then iter step h.choose a else .bad
theorem runI_of {A β : Type} {step : A → Sum A (R β)} {n : Nat} {a : A} (h : iter step n a ≠ .bad) : runI step a = iter step n a := by
  have hx : ∃ n, iter step n a ≠ .bad := ⟨n, h⟩
  unfold runI
  rw [dif_pos hx]
  rcases Nat.le_total n hx.choose with q | q
  · exact iter_le step q h
  · exact (iter_le step q hx.choose_spec).symm
theorem runI_ex {A β : Type} {step : A → Sum A (R β)} {a : A} (h : runI step a ≠ .bad) : ∃ n, iter step n a = runI step a ∧ iter step n a ≠ .bad := by
  apply Classical.byContradiction
  intro hx
  refine h ?_
  have : ¬ ∃ n, iter step n a ≠ .bad := fun ⟨n, hn⟩ => hx ⟨n, (runI_of hn).symm, hn⟩
  unfold runI; rw [dif_neg this]
theorem runI_eq {A β : Type} (step : A → Sum A (R β)) (a : A) : runI step a = match step a with
    | .inl a' => runI step a'
    | .inr r => r := by
  cases e : step a with
  | inr r =>
    show runI step a = r
    by_cases hr : r = .bad
    · subst hr
      apply Classical.byContradiction
      intro h
      obtain ⟨n, _, hn⟩ := runI_ex h
      cases n with
      | zero => exact hn rfl
      | succ n => simp only [iter, e] at hn; exact hn rfl
    · have : iter step 1 a = r := by simp only [iter, e]; rfl
      rw [runI_of (n := 1) (by rw [this]; exact hr), this]
  | inl a' =>
    show runI step a = runI step a'
    by_cases h : runI step a' = .bad
    · rw [h]
      apply Classical.byContradiction
      intro h2
      obtain ⟨n, _, hn⟩ := runI_ex h2
      cases n with
      | zero => exact hn rfl
      | succ n =>
        simp only [iter, e] at hn
        exact hn (by rw [Sum.elim_inl, ← runI_of hn]; exact h)
    · obtain ⟨n, e1, hn⟩ := runI_ex h
      have : iter step (n + 1) a = iter step n a' := by simp only [iter, e]; rfl
      rw [runI_of (n := n + 1) (by rw [this]; exact hn), this, e1]
def turnOf {A : Type} (r : R F) (next : Ls → Hs → A) : Sum A (R F) := match r with
  | .ok (.nx l) S => .inl (next l S)
  | .ok (.ct l) S => .inl (next l S)
  | .ok (.bk l) S => .inr (.ok (.nx l) S)
  | .ok (.rt d) S => .inr (.ok (.rt d) S)
  | .exc c fs l S => .inr (.exc c fs l S)
  | .bad => .inr .bad
def wStep (c : MB) (b : MS) (a : Ls × Hs) : Sum (Ls × Hs) (R F) := match c a.1 a.2 with
  | .ok t S1 => if t = true then turnOf (b a.1 S1) Prod.mk else .inr (.ok (.nx a.1) S1)
  | .exc c fs l S => .inr (.exc c fs l S)
  | .bad => .inr .bad
noncomputable def mWhile (c : MB) (b : MS) : MS := fun l S => runI (wStep c b) (l, S)
theorem mWhile_eq (c : MB) (b : MS) (l : Ls) (S : Hs) : mWhile c b l S = (c l S).bind fun t S1 => if t = true then (b l S1).bind fun r S2 => match r with
    | .nx l2 => mWhile c b l2 S2
    | .ct l2 => mWhile c b l2 S2
    | .bk l2 => .ok (.nx l2) S2
    | .rt d => .ok (.rt d) S2
    else .ok (.nx l) S1 := by
  unfold mWhile
  rw [runI_eq]
  unfold wStep turnOf
  simp only []
  cases c l S with
  | ok t S1 =>
    cases t with
    | false => rfl
    | true =>
      simp only [if_true, R.bind_ok]
      cases b l S1 with
      | ok r S2 => cases r <;> rfl
      | exc _ _ _ _ => rfl
      | bad => rfl
  | exc _ _ _ _ => rfl
  | bad => rfl
theorem Post.ne {α : Type} {K : PySem.W.Frag} {E : St → XK} {n : Nat} {p : Nat → Addr} {H : Hp} {r : R α} {Q : α → Hs → (Nat → Addr) → Hp → Prop} (h : Post K E n p H r Q) : r ≠ .bad := fun e => by subst e; exact h
section
variable {X : Cx} {E : St → XK} {g : MS} {pos : Pos}
theorem turn_post {K : PySem.W.Frag} {A : Type} {step : A → Sum A (R F)} {m : Nat} {p : Nat → Addr} {S : Hs} {H : Hp} {D0 : Ends} {r : R F} {next : Ls → Hs → A} {N : St → Hp → Prop}
    (h : Post K E S.length p H (Sum.elim (iter step m) id (turnOf r next)) (QF K D0))
    (hN : ∀ l S2 p2 H2 s, Ext S.length S2.length p p2 H H2 → Real K p2 S2 H2 → Sl K p2 S2.length H2 l s → Post K E S2.length p2 H2 (iter step m (next l S2)) (QF K D0) → N s H2) :
    Post K E S.length p H r (QF K { D0 with nx := N, ct := N, bk := D0.nx }) := by
  unfold turnOf at h
  cases r with
  | ok f S2 =>
    intro p2 H2 x R2
    cases f with
    | nx l => exact fun s L => hN l S2 p2 H2 s x R2 L (Post.ext h x)
    | ct l => exact fun s L => hN l S2 p2 H2 s x R2 L (Post.ext h x)
    | bk l => exact fun s L => Post.nx (Post.ext h x) R2 L
    | rt d => exact fun v r => Post.ok (Q := QF _ D0) (Post.ext h x) Ext.refl R2 v r
  | exc c fs l S2 => exact h
  | bad => exact h
end
end Ly
set_option Elab.async false
set_option linter.all false
set_option maxRecDepth 100000
namespace Ly
open PySem PySem.Spec L2
open PyProof.Rows hiding St
def R.at {α : Type} (r : R α) (l : Ls) : R α := match r with
  | .exc c fs _ S => .exc c fs l S
  | r => r
@[simp] theorem R.at_ok {α : Type} (a : α) (S : Hs) (l : Ls) : (R.ok a S).at l = .ok a S := (show (R.ok a S).at l = .ok a S from rfl).trans (Eq.refl _)
@[simp] theorem R.at_exc {α : Type} (c fs l2) (S : Hs) (l : Ls) : (R.exc c fs l2 S : R α).at l = .exc c fs l S := (show (R.exc c fs l2 S : R α).at l = .exc c fs l S from rfl).trans (Eq.refl _)
@[simp] theorem R.at_bad {α : Type} (l : Ls) : (R.bad : R α).at l = .bad := rfl
abbrev MD := List D → Hs → R D
def endOf (r : R F) : R D := match r with
  | .ok (.nx _) S => .ok .non S
  | .ok (.rt d) S => .ok d S
  | .ok _ _ => .bad
  | .exc c fs _ S => .exc c fs [] S
  | .bad => .bad
def mDef (np nl : Nat) (body : MS) : MD := fun ds S => if ds.length = np then endOf (body (ds.map some ++ List.replicate nl none) S) else .bad
def spM (K : PySem.W.Frag) (np : Nat) (m : MD) : Sp := fun vs H Q E => ∃ p S ds, Real K p S H ∧ Reps K p S.length H ds vs ∧ ds.length = np ∧ Post K (fun _ => E) S.length p H (m ds S) (QD K Q)
theorem spM_len {K : PySem.W.Frag} {np : Nat} {m : MD} {vs : List V} {H : Hp} {Q : VK} {E : XK} (h : spM K np m vs H Q E) : vs.length = np := by
  obtain ⟨p, S, ds, R, r, hl, _⟩ := h
  rw [← r.len]; exact hl
theorem Reps.sl {K : PySem.W.Frag} {p : Nat → Addr} {n : Nat} {H : Hp} {ds : List D} {vs : List V} (r : Reps K p n H ds vs) (m : Nat) : Sl K p n H (ds.map some ++ List.replicate m none) (vs.map some ++ List.replicate m none) := by
  induction ds generalizing vs with
  | nil =>
    cases r
    simp only [List.map_nil, List.nil_append]
    induction m with
    | zero => exact .nil
    | succ m ih => exact .no _ ih
  | cons d ds ih => cases r with | cons r s => exact .yes r (ih s)
section
variable {P : Program} {w : World} {K : PySem.W.Frag} {mg : Str → Option Value} {base : Heap}
theorem fn_def {x qual : Str} {st : Stmt} {f : Addr} {fd : FuncData} {N ps : List Str} {k : Nat} {np nl : Nat} {m : MS} (F : Fun K x qual st f fd) (S : FnScope N ps (defScope st)) (hp : ps.length = np) (hn : N.length = np + nl)
    (hb : ∀ (cdv : Value) (A : Around) (outer : List Env) (s : Shared) (H : Hp) (E : XK), Room k (A.deeper (PyProof.Rows.envOfC qual (defScope st) s.heap.objs.size f cdv)) →
      SMs (cxOf (L2.CX P w) P w K mg base N qual (defScope st) f cdv A outer s H E) (fun _ => E) (defBody st) m) : FnOk P w K mg base (L2.CX P w) (k + 1) f fd ps (spM K np (mDef np nl m)) := by
  refine F.okX S (fun vs H Q E h => (spM_len h).trans hp.symm) fun cdv A outer s H vs Q E hr h => ⟨_, (hb cdv A outer s H E hr).ps, ?_⟩
  obtain ⟨p, S0, ds, R, r, hl, h⟩ := h
  have e : L2.start N vs = vs.map some ++ List.replicate nl none := by
    unfold L2.start
    rw [hn, ← r.len, hl, Nat.add_sub_cancel_left]
  refine ⟨p, ds.map some ++ List.replicate nl none, S0, R, by rw [e]; exact r.sl nl, ?_⟩
  unfold mDef at h
  rw [if_pos hl] at h
  revert h
  generalize m _ S0 = res
  intro h
  cases res with
  | ok a S1 =>
    intro p1 H1 x1 R1
    cases a with
    | nx l1 => exact fun s1 L1 => Post.ok (Q := QD K Q) h x1 R1 _ .non
    | rt d => exact fun v r => Post.ok (Q := QD K Q) h x1 R1 v r
    | bk l1 => exact h.elim
    | ct l1 => exact h.elim
  | exc c fs l S1 => exact fun p1 H1 u d s1 x1 R1 rc rf L1 => h p1 H1 u d [] x1 R1 rc rf .nil
  | bad => exact h
theorem pass_def {N : List Str} {qual : Str} {scope : Scope} {f : Addr} {cdv : Value} {A : Around} {outer : List Env} {s : Shared} {H : Hp} {E : XK} :
    Passes (L2.CX P w) (cxOf (L2.CX P w) P w K mg base N qual scope f cdv A outer s H E) E :=
  passes_call (takes_of rfl rfl rfl rfl) fun _ _ _ _ h => h
end
section
variable {X : Cx} {E : St → XK} {CX : CXT} {k : Nat} {f C : Addr} {fd : FuncData} {ps : List Str} {np : Nat} {md : MD} {x m : Str} {p pos apos : Pos} {e o : Expr} {es : List Expr} {g : ML} {E0 : XK}
def mFn (md : MD) (g : ML) : M := fun l S => (g l S).bind fun ds S1 => (md ds S1).at l
theorem fn_post {α : Type} {K : PySem.W.Frag} {n : Nat} {q : Nat → Addr} {H : Hp} {r : R α} {l : Ls} {s : St} {Q : α → Hs → (Nat → Addr) → Hp → Prop} (L : Sl K q n H l s) (h : Post K E n q H (r.at l) Q) : Post K (fun _ => E s) n q H r Q := by
  cases r with
  | ok a S => exact h
  | exc c fs l2 S => exact fun p1 H1 u d s1 x1 R1 rc rf L1 => h p1 H1 u d s x1 R1 rc rf (L.ext x1)
  | bad => exact h
theorem e_fn (F : FnOk X.prog X.w X.K X.mg X.base CX k f fd ps (spM X.K np md)) (hp : ∀ ds S, ds.length ≠ np → md ds S = .bad) (hr : Room k X.A) (hg : Gl X x) (hm : X.mg x = some (.ref f)) (hk : PySem.W.keepIn X.K (.ref f) = true) (hb : Binds X.K fd ps [])
    (hx : ∀ σ, PassesAt CX X σ (E σ)) (ha : LM X E (e :: es) g) (hdb : (x == ("__debug__" : Str)) = false := by decide) (he : starEach (e :: es) X.env = (false, eval e X.env) :: starEach es X.env := by rfl)
    (hpl : (backTo pos (starEach es X.env)).any (·.1) = false := by rfl) : EM X E (.Call (.Name x p) (e :: es) [] pos) (mFn md g) :=
  ⟨(pe_callSD F hr hg hm hk hb .nil hx ha.pa hdb he hpl).weak fun s H Q ⟨q, l, S, R, L, h⟩ => TL.of R L h fun p1 S1 H1 d v R1 x1 L1 r1 h1 => by
    refine ⟨p1, S1, d, R1, by rw [List.append_nil]; exact r1, ?_, fn_post L1 h1⟩
    apply Classical.byContradiction
    intro hne
    rw [hp d S1 hne] at h1
    exact h1⟩
theorem Passes.at (h : Passes CX X E0) (σ : St) : PassesAt CX X σ E0 := fun pins H s e s' => h pins σ H s e s'
end
theorem mDef_len {np nl : Nat} {b : MS} (ds : List D) (S : Hs) (h : ds.length ≠ np) : mDef np nl b ds S = .bad := if_neg h
mutual
def D.low (n : Nat) : D → Prop
  | .ref i => i < n
  | .tup ds => D.lows n ds
  | .wt ds => D.lows n ds
  | .wl ds => D.lows n ds
  | _ => True
def D.lows (n : Nat) : List D → Prop
  | [] => True
  | d :: ds => D.low n d ∧ D.lows n ds
end
def O.low (n : Nat) : O → Prop
  | .lst ds => D.lows n ds
  | .rol ds => D.lows n ds
  | .dic kvs => D.lows n (kvs.map (·.2))
  | .dit kvs => D.lows n (kvs.map (·.2))
  | .fdc kvs => D.lows n (kvs.map (·.2))
  | .fdt kvs => D.lows n (kvs.map (·.2))
  | .ins _ fs => D.lows n (fs.map (·.2))
def Wf (S : Hs) : Prop := ∀ (i : Nat) (o : O), S[i]? = some o → o.low S.length
section
variable {K : PySem.W.Frag} {pi : Nat → Addr} {n m : Nat} {H : Hp}
mutual
theorem Rep.low : ∀ (d : D) (v : V), Rep K pi n H d v → d.low n
  | .non, _, _ => by simp [D.low]
  | .bl _, _, _ => by simp [D.low]
  | .int _, _, _ => by simp [D.low]
  | .str _, _, _ => by simp [D.low]
  | .tup ds, _, .tup t r => by simp only [D.low]; exact Reps.low ds _ r
  | .wt ds, _, .wt t r => by simp only [D.low]; exact Reps.low ds _ r
  | .wl ds, _, .wl t r => by simp only [D.low]; exact Reps.low ds _ r
  | .ref i, _, .ref h => by simpa [D.low] using h
  | .cst _, _, _ => by simp [D.low]
theorem Reps.low : ∀ (d : List D) (v : List V), Reps K pi n H d v → D.lows n d
  | [], _, _ => by simp [D.lows]
  | d :: ds, _, .cons r s => by simp only [D.lows]; exact ⟨Rep.low d _ r, Reps.low ds _ s⟩
end
mutual
theorem Rep.cut : ∀ (d : D) (v : V), Rep K pi n H d v → d.low m → Rep K pi m H d v
  | .non, _, .non, _ => .non
  | .bl _, _, .bl _, _ => .bl _
  | .int _, _, .int _, _ => .int _
  | .str _, _, .str _, _ => .str _
  | .tup ds, _, .tup t r, h => .tup t (Reps.cutN ds _ r (by simpa only [D.low] using h))
  | .wt ds, _, .wt t r, h => .wt t (Reps.cutN ds _ r (by simpa only [D.low] using h))
  | .wl ds, _, .wl t r, h => .wl t (Reps.cutN ds _ r (by simpa only [D.low] using h))
  | .ref i, _, .ref _, h => .ref (by simpa only [D.low] using h)
  | .cst _, _, .cst _, _ => .cst _
theorem Reps.cutN : ∀ (d : List D) (v : List V), Reps K pi n H d v → D.lows m d → Reps K pi m H d v
  | [], _, .nil, _ => .nil
  | d :: ds, _, .cons r s, h => by
    simp only [D.lows] at h
    exact .cons (Rep.cut d _ r h.1) (Reps.cutN ds _ s h.2)
end
theorem RO.low {a : Addr} {o : O} (h : RO K pi n H a o) : o.low n := by
  cases o with
  | lst ds => obtain ⟨xs, _, h2⟩ := h; exact h2.low
  | rol ds => obtain ⟨o, xs, _, h2⟩ := h; exact h2.low
  | dic kvs => obtain ⟨ks, _, _, h3⟩ := h; exact h3.low
  | dit kvs => obtain ⟨ks, _, _, h3⟩ := h; exact h3.low
  | ins C fs => obtain ⟨dx, ks, _, _, h3⟩ := h; exact h3.low
  | fdc kvs => obtain ⟨ob, ks, _, _, h3⟩ := h; exact h3.low
  | fdt kvs => obtain ⟨ob, ks, _, _, h3⟩ := h; exact h3.low
theorem RO.cut {a : Addr} {o : O} (h : RO K pi n H a o) (l : o.low m) : RO K pi m H a o := by
  cases o with
  | lst ds => obtain ⟨xs, h1, h2⟩ := h; exact ⟨xs, h1, h2.cutN _ _ l⟩
  | rol ds => obtain ⟨o, xs, h1, h2⟩ := h; exact ⟨o, xs, h1, h2.cutN _ _ l⟩
  | dic kvs => obtain ⟨ks, h1, h2, h3⟩ := h; exact ⟨ks, h1, h2, h3.cutN _ _ l⟩
  | dit kvs => obtain ⟨ks, h1, h2, h3⟩ := h; exact ⟨ks, h1, h2, h3.cutN _ _ l⟩
  | ins C fs => obtain ⟨dx, ks, h1, h2, h3⟩ := h; exact ⟨dx, ks, h1, h2, h3.cutN _ _ l⟩
  | fdc kvs => obtain ⟨ob, ks, h1, h2, h3⟩ := h; exact ⟨ob, ks, h1, h2, h3.cutN _ _ l⟩
  | fdt kvs => obtain ⟨ob, ks, h1, h2, h3⟩ := h; exact ⟨ob, ks, h1, h2, h3.cutN _ _ l⟩
theorem Real.wf {S : Hs} (R : Real K pi S H) : Wf S := fun i o e => (R.ob i o e).low
theorem Real.drop {S g : Hs} (R : Real K pi (S ++ g) H) (w : Wf S) : Real K pi S H := by
  refine ⟨fun i o e => ?_, fun i j hi hj => R.inj i j (by simp; omega) (by simp; omega)⟩
  have hi := (List.getElem?_eq_some_iff.mp e).1
  exact (R.ob i o (by rw [List.getElem?_append_left hi]; exact e)).cut (w i o e)
end
end Ly
set_option Elab.async false
set_option linter.all false
set_option maxRecDepth 100000
namespace Ly
open PySem PySem.Spec L2
open PyProof.Rows hiding St
abbrev MG := D → Ls → Hs → R Ls
def TG' (K : PySem.W.Frag) (E : St → XK) (f : MG) : TG := fun v s H Q => ∃ p l S d, Real K p S H ∧ Sl K p S.length H l s ∧ Rep K p S.length H d v ∧ Post K E S.length p H (f d l S) (fun l1 S1 p1 H1 => ∀ s1, Sl K p1 S1.length H1 l1 s1 → Q s1 H1)
structure GM (X : Cx) (E : St → XK) (t : Expr) (f : MG) : Prop where pg : PG X t (TG' X.K E f)
theorem _root_.L2.PG.weak {X : Cx} {e : Expr} {t t' : TG} (h : PG X e t) (w : ∀ v s H Q, t' v s H Q → t v s H Q) : PG X e t' := ⟨fun pins s σ H v u Q I r q => h.run pins s σ H v u Q I r (w v σ H Q q)⟩
def gN (i : Nat) : MG := fun d l S => .ok (l.set i (some d)) S
abbrev MGs := List D → Ls → Hs → R Ls
def gsN : MGs := fun ds l S => match ds with
  | [] => .ok l S
  | _ => .bad
def gsC (f : MG) (g : MGs) : MGs := fun ds l S => match ds with
  | d :: r => (f d l S).bind fun l1 S1 => g r l1 S1
  | [] => .bad
def gT (n : Nat) (f : MGs) : MG := fun d l S => match d with
  | .tup ds => if ds.length = n then f ds l S else .bad
  | .wt ds => if ds.length = n then f ds l S else .bad
  | _ => .bad
def TGs' (K : PySem.W.Frag) (E : St → XK) (f : MGs) : TGs := fun v s H Q => ∃ p l S d, Real K p S H ∧ Sl K p S.length H l s ∧ Reps K p S.length H d v ∧ Post K E S.length p H (f d l S) (fun l1 S1 p1 H1 => ∀ s1, Sl K p1 S1.length H1 l1 s1 → Q s1 H1)
structure GMs (X : Cx) (E : St → XK) (t : List Expr) (f : MGs) : Prop where pgs : PGs X t (TGs' X.K E f)
section
variable {X : Cx} {E : St → XK} {pos : Pos}
theorem g_n {i : Nat} {x : Str} (hN : X.N.Nodup) (hi : X.N[i]? = some x := by rfl) (hx : L2.Loc X.env.scope x := by first | exact Or.inl rfl | exact Or.inr rfl) (hf : X.fn x = true ∨ X.env.scope.names.lookup x = some .local := by first | exact .inl rfl | exact .inr rfl | assumption) : GM X E (.Name x pos) (gN i) :=
  ⟨(pg_name hN hi hx hf).weak fun v s H Q ⟨p, l, S, d, R, L, r, h⟩ => Post.ok h Ext.refl R _ (L.set i r)⟩
theorem gs_nil : GMs X E [] gsN := ⟨⟨fun pins s σ H vs us Q I rv ⟨p, l, S, d, R, L, r, h⟩ => by
  refine pgs_nil.run pins s σ H vs us Q I rv ?_
  unfold gsN at h
  split at h
  · cases r; exact ⟨rfl, Post.ok h Ext.refl R _ L⟩
  · exact h.elim⟩⟩
theorem gs_cons {e : Expr} {es : List Expr} {f : MG} {g : MGs} (h1 : GM X E e f) (h2 : GMs X E es g) (hs : (assignEach (e :: es) X.env).map (·.2) = assign e X.env :: (assignEach es X.env).map (·.2) := by rfl) : GMs X E (e :: es) (gsC f g) :=
  ⟨⟨fun pins s σ H vs us Q I rv ⟨p, l, S, d, R, L, r, h⟩ => by
    refine (pgs_cons h1.pg h2.pgs hs).run pins s σ H vs us Q I rv ?_
    unfold gsC at h
    split at h
    · cases r with
      | cons r0 rs =>
      exact ⟨_, _, rfl, p, l, S, _, R, L, r0, h.bind.mono fun l1 S1 p1 H1 _ x1 R1 q s1 L1 => ⟨p1, l1, S1, _, R1, L1, rs.ext x1 _ _, q⟩⟩
    · exact h.elim⟩⟩
theorem g_tup {es : List Expr} {k n : Nat} {f : MGs} (hc : X.calm = true) (h : GMs X E es f) (hn : (assignEach es X.env).length = n := by rfl) (hst : (assignEach es X.env).findIdx? (·.1) = none := by rfl) : GM X E (.Tuple es k pos) (gT n f) :=
  ⟨(pg_tup hc h.pgs hn hst).weak fun v s H Q ⟨p, l, S, d, R, L, r, h⟩ => by
    unfold gT at h
    split at h
    · split at h
      · rename_i hl
        cases r with
        | tup t r => exact ⟨_, _, rfl, SqT.of t, by rw [← r.len]; exact hl, p, l, S, _, R, L, r, h⟩
      · exact h.elim
    · split at h
      · rename_i hl
        cases r with
        | wt t r => exact ⟨_, _, rfl, t.sq, by rw [← r.len]; exact hl, p, l, S, _, R, L, r, h⟩
      · exact h.elim
    · exact h.elim⟩
def mAsg (f : M) (g : MG) : MS := fun l S => (f l S).bind fun d S1 => (g d l S1).bind fun l1 S2 => .ok (.nx l1) S2
theorem s_asg {tg e : Expr} {f : M} {g : MG} (he : EM X E e f) (hg : GM X E tg g) (hs : swapsWithSole [tg] e pos.line X.env = pure false := by rfl) (hw : swappedStores [tg] e X.env = pure none := by rfl)
    (h1 : (assignEach [tg] X.env).map (·.2) = [assign tg X.env] := by rfl) : SM X E (.Assign [tg] e pos) (mAsg f g) :=
  ⟨(ps_asg he.pe hg.pg hs hw h1).weak fun s H D0 ⟨p, l, S, R, L, h⟩ => T.of R L h fun p1 S1 H1 d v R1 x1 L1 r1 h1 => ⟨p1, l, S1, d, R1, L1, r1, h1.bind.mono fun l1 S2 p2 H2 _ x2 R2 q s2 L2 => Post.nx q R2 L2⟩⟩
def oSet (x y d : D) (S : Hs) : R Unit := match x with
  | .ref i => match S[i]? with
    | some (.lst xs) => (match y with
      | .int k => (match ixN xs.length k with
        | some j => .ok () (S.set i (.lst (xs.set j d)))
        | none => .bad)
      | _ => .bad)
    | some (.dic kvs) => (match y.key with
      | some k => if kvs.length < sizeLine then .ok () (S.set i (.dic (setK kvs k d))) else .bad
      | none => .bad)
    | some (.dit kvs) => (match y.tkey with
      | some k => if kvs.length < sizeLine then .ok () (S.set i (.dit (setK kvs k d))) else .bad
      | none => .bad)
    | _ => .bad
  | _ => .bad
abbrev rSetD : V → V → V → Hp → (Hp → Prop) → Prop := fun o i v H Q => ∃ a H', o = .ref a ∧ DPut H a i v H' ∧ Q H'
theorem set_dic (hu : X.A.units + 1 < cLine) : PSet X rSetD := by
  intro pins s σ H o i v ov iv u Q I ro ri rv h
  obtain ⟨a, H', rfl, g, q⟩ := h
  obtain rfl : ov = Value.ref a := ro
  exact d_setItem hu I g ri rv fun s4 I4 => ⟨H', I4, q⟩
abbrev rSetA : V → V → V → Hp → (Hp → Prop) → Prop := fun o i v H Q => rSetL o i v H Q ∨ rSetD o i v H Q
theorem set_all (hu : X.A.units + 1 < cLine) : PSet X rSetA := fun pins s σ H o i v ov iv u Q I ro ri rv h => h.elim (set_list pins s σ H o i v ov iv u Q I ro ri rv) (set_dic hu pins s σ H o i v ov iv u Q I ro ri rv)
theorem setK_V {κ : Type} [DecidableEq κ] {K : PySem.W.Frag} {pi : Nat → Addr} {n : Nat} {H : Hp} {kvs : List (κ × D)} {ks : List (κ × V)} (h : ks.map (·.1) = kvs.map (·.1)) (r : Reps K pi n H (kvs.map (·.2)) (ks.map (·.2))) (k : κ) {d : D} {v : V} (rv : Rep K pi n H d v) :
    (putK ks k v).map (·.1) = (setK kvs k d).map (·.1) ∧ Reps K pi n H ((setK kvs k d).map (·.2)) ((putK ks k v).map (·.2)) := by
  have hany : (ks.any fun kv => decide (kv.1 = k)) = kvs.any fun kv => decide (kv.1 = k) := by
    have e1 : (ks.any fun kv => decide (kv.1 = k)) = (ks.map (·.1)).any fun z => decide (z = k) := by rw [List.any_map]; rfl
    have e2 : (kvs.any fun kv => decide (kv.1 = k)) = (kvs.map (·.1)).any fun z => decide (z = k) := by rw [List.any_map]; rfl
    rw [e1, e2, h]
  unfold putK setK
  rw [hany]
  split
  · rename_i hx
    clear hx hany
    induction kvs generalizing ks with
    | nil => cases ks with | nil => exact ⟨rfl, .nil⟩ | cons a b => cases h
    | cons a kvs ih =>
      cases ks with
      | nil => cases h
      | cons b ks =>
        simp only [List.map_cons, List.cons.injEq] at h
        cases r with
        | cons r s =>
          obtain ⟨i1, i2⟩ := ih h.2 s
          simp only [List.map_cons, List.cons.injEq]
          rw [h.1]
          by_cases e : a.1 = k
          · simp only [e, if_true]; exact ⟨⟨trivial, i1⟩, .cons rv i2⟩
          · simp only [e, if_false]; exact ⟨⟨h.1, i1⟩, .cons r i2⟩
  · rw [List.map_append, List.map_append, List.map_append, List.map_append, h]
    exact ⟨rfl, r.append (.cons rv .nil)⟩
theorem Post.put1 {K : PySem.W.Frag} {p : Nat → Addr} {S : Hs} {H : Hp} {i : Nat} {o : O} {u : HO} {Q : Unit → Hs → (Nat → Addr) → Hp → Prop} (h : Post K E S.length p H (.ok () (S.set i o)) Q) (R : Real K p S H) (hi : i < S.length)
    (ro : RO K p S.length (upd H (p i) u) (p i) o) (nf : NF S i := by (constructor; constructor; assumption; rfl)) : Q () (S.set i o) p (upd H (p i) u) := by
  have e : (S.set i o).length = S.length := by simp
  exact Post.ok h (by rw [e]; exact ext_upd (R.notup hi nf)) (R.put hi ro nf)
theorem ok_set {K : PySem.W.Frag} {p : Nat → Addr} {S : Hs} {H : Hp} {x y d : D} {v u w : V} {Q : Hp → Prop} {QQ : Unit → Hs → (Nat → Addr) → Hp → Prop} (R : Real K p S H) (rx : Rep K p S.length H x v) (ry : Rep K p S.length H y u) (rd : Rep K p S.length H d w)
    (h : Post K E S.length p H (oSet x y d S) QQ) (hq : ∀ S1 H1, Ext S.length S1.length p p H H1 → Real K p S1 H1 → QQ () S1 p H1 → Q H1) : rSetA v u w H Q := by
  have fin : ∀ {i : Nat} {o : O} {z : HO}, i < S.length → Post K E S.length p H (.ok () (S.set i o)) QQ → RO K p S.length (upd H (p i) z) (p i) o → (nf : NF S i := by (constructor; constructor; assumption; rfl)) → Q (upd H (p i) z) := fun {i o z} hi h ro nf =>
    hq _ _ (by rw [List.length_set]; exact ext_upd (R.notup hi nf)) (R.put hi ro nf) (h.put1 R hi ro nf)
  unfold oSet at h
  split at h
  · split at h
    · rename_i q
      split at h
      · split at h
        · rename_i j e
          obtain ⟨vs, h1, r⟩ := R.lst q
          cases rx; cases ry
          refine .inl ⟨_, vs, _, j, rfl, rfl, h1, by rw [← r.len]; exact e, fin (Real.lt q) h ⟨_, upd_same, ?_⟩⟩
          exact (r.ext (ext_upd (R.notup (Real.lt q))) _ _).set j (rd.ext (ext_upd (R.notup (Real.lt q))) _ _)
        · exact h.elim
      · exact h.elim
    · rename_i kvs q
      split at h
      · rename_i k ek
        split at h
        · rename_i hl
          obtain ⟨ks, h1, h2, h3⟩ := R.ob _ _ q
          have hlen : ks.length = kvs.length := by simpa using congrArg List.length h2
          cases rx
          have sv := setK_V (H := upd H (p _) (.dK (putK ks k w))) h2 (h3.ext (ext_upd (R.notup (Real.lt q))) _ _) k (rd.ext (ext_upd (R.notup (Real.lt q))) _ _)
          exact .inr ⟨_, _, rfl, .inl ⟨ks, k, h1, key_V ry ek, by rw [hlen]; exact hl, rfl⟩, fin (Real.lt q) h ⟨_, upd_same, sv.1, sv.2⟩⟩
        · exact h.elim
      · exact h.elim
    · rename_i kvs q
      split at h
      · rename_i k ek
        split at h
        · rename_i hl
          obtain ⟨ks, h1, h2, h3⟩ := R.ob _ _ q
          have hlen : ks.length = kvs.length := by simpa using congrArg List.length h2
          cases rx
          have sv := setK_V (H := upd H (p _) (.dT (putK ks k w))) h2 (h3.ext (ext_upd (R.notup (Real.lt q))) _ _) k (rd.ext (ext_upd (R.notup (Real.lt q))) _ _)
          unfold D.tkey at ek
          split at ek
          · cases ry with
            | @tup b _ us t r =>
            exact .inr ⟨_, _, rfl, .inr ⟨ks, k, b, h1, rfl, by rw [← keys_V r ek]; exact t, by rw [hlen]; exact hl, rfl⟩, fin (Real.lt q) h ⟨_, upd_same, sv.1, sv.2⟩⟩
          · cases ek
        · exact h.elim
      · exact h.elim
    · exact h.elim
  · exact h.elim
def gSb (f g : M) : MG := fun d l S => (f l S).bind fun x S1 => (g l S1).bind fun y S2 => (oSet x y d S2).bind fun _ S3 => .ok l S3
theorem g_sub {o i : Expr} {f g : M} (hu : X.A.units + 1 < cLine) (ho : EM X E o f) (hi : EM X E i g)
    (ha : ∀ v, assign (.Subscript o i pos) X.env v = (do
      let ov ← holding [v] (eval o X.env)
      let iv ← holding [v, ov] (eval i X.env)
      standAt pos
      holding [v, ov, iv] (setItem ov iv v)
      release [v, ov, iv] []) := by intro _; rfl) : GM X E (.Subscript o i pos) (gSb f g) :=
  ⟨(pg_sub ho.pe hi.pe (set_all hu) ha).weak fun v s H Q ⟨p, l, S, d, R, L, r, h⟩ => T.of R L h fun p1 S1 H1 x vx R1 x1 L1 r1 h1 => T.of R1 L1 h1 fun p2 S2 H2 y vy R2 x2 L2 r2 h2 =>
    ok_set R2 (r1.ext x2 _ _) r2 ((r.ext x1 _ _).ext x2 _ _) h2.bind fun S3 H3 x3 R3 q => Post.ok q Ext.refl R3 _ (L2.ext x3)⟩
theorem s_sub {o i e : Expr} {f g m : M} {pos' : Pos} (hu : X.A.units + 1 < cLine) (he : EM X E e m) (ho : EM X E o f) (hi : EM X E i g)
    (hs : swapsWithSole [Expr.Subscript o i pos'] e pos.line X.env = pure false := by rfl) (hw : swappedStores [Expr.Subscript o i pos'] e X.env = pure none := by rfl) (h1 : (assignEach [Expr.Subscript o i pos'] X.env).map (·.2) = [assign (Expr.Subscript o i pos') X.env] := by rfl)
    (ha : ∀ v, assign (.Subscript o i pos') X.env v = (do
      let ov ← holding [v] (eval o X.env)
      let iv ← holding [v, ov] (eval i X.env)
      standAt pos'
      holding [v, ov, iv] (setItem ov iv v)
      release [v, ov, iv] []) := by intro _; rfl) : SM X E (.Assign [.Subscript o i pos'] e pos) (mAsg m (gSb f g)) := s_asg he (g_sub hu ho hi ha) hs hw h1
def mAug (i : Nat) (op : D → D → Hs → R D) (f : M) : MS := fun l S => match l[i]? with
  | some (some x) => (f l S).bind fun y S1 => (op x y S1).bind fun d S2 => .ok (.nx (l.set i (some d))) S2
  | _ => .bad
end
end Ly
set_option Elab.async false
set_option linter.all false
set_option maxRecDepth 100000
namespace LyI
open PySem PySem.Spec L2
open PyProof.Rows hiding St
def SqB (k : Bool) (K : PySem.W.Frag) (H : Hp) (a : Addr) (xs : List V) : Prop := match k with
  | true => SqL K H a xs
  | false => SqT K H a xs
def ItB (k : Bool) (h : Heap) (it a : Addr) (i : Nat) : Prop := match k with
  | true => h.IsListIter it a i
  | false => h.IsTupleIter it a i
def IsB (k : Bool) (h : Heap) (a : Addr) (items : Array Value) : Prop := match k with
  | true => h.IsList a items
  | false => h.IsTuple a items
def itO (k : Bool) (a : Addr) : Obj := match k with
  | true => { cls := .type "list_iterator", data := .fields #[.ref a, .int 0 0] }
  | false => { cls := .type "tuple_iterator", data := .fields #[.ref a, .int 0 0] }
theorem drawsB {prog : Program} {w : World} {A : Around} (k : Bool) (hh : A.handled = none) (it a : Addr) (hne : a ≠ it) (items : Array Value) :
    Draws prog w A it [it, a] items.size (fun i v => items[i]? = some v) (fun i h => ItB k h it a i ∧ IsB k h a items) := by
  cases k
  · exact .tuple hh it a hne items
  · exact .list hh it a hne items
theorem beginsB (k : Bool) (a : Addr) (items : Array Value) : Begins (.ref a) (itO k a) fun h => IsB k h a items := by
  cases k
  · exact begins_tuple a items
  · exact begins_list a items
theorem itB_new (k : Bool) {h : Heap} {it a : Addr} (e : h.get? it = some (itO k a)) : ItB k h it a 0 := by
  cases k
  · exact ⟨_, e, rfl, rfl⟩
  · exact ⟨_, e, rfl, rfl⟩
theorem ItB.at {k : Bool} {h h' : Heap} {it a : Addr} {i : Nat} (x : ItB k h it a i) (e : ∀ o, h.get? it = some o → h'.get? it = some o) : ItB k h' it a i := by
  cases k
  · exact Heap.IsTupleIter.at x e
  · exact Heap.IsListIter.at x e
theorem ItB.obj {k : Bool} {h : Heap} {it a : Addr} {i : Nat} (x : ItB k h it a i) : ∃ o, h.get? it = some o ∧ ∀ v, o.data ≠ .cell v := by
  cases k
  · obtain ⟨o, e, _, d⟩ := x; exact ⟨o, e, fun v q => by rw [d] at q; cases q⟩
  · obtain ⟨o, e, _, d⟩ := x; exact ⟨o, e, fun v q => by rw [d] at q; cases q⟩
section
variable {X : Cx} {pins : List (Addr × Obj)} {σ : St} {H : Hp} {s : Shared} {a : Addr} {xs ys : List V} {k : Bool}
theorem seqB (I : Inv X pins σ H s) (h : SqB k X.K H a xs) : ∃ its : List Value, Vals xs its ∧ IsB k s.heap a its.toArray ∧ a < s.heap.objs.size := by
  cases k
  · obtain ⟨its, r, p, _⟩ := I.tuple h
    obtain ⟨o, e, _⟩ := id p
    exact ⟨its, r, p, Heap.lt_size e⟩
  · obtain ⟨its, r, p, _⟩ := I.list h
    exact ⟨its, r, p.isList, p.lt⟩
theorem seqB_inj (I : Inv X pins σ H s) (h : SqB k X.K H a xs) (h' : SqB k X.K H a ys) : xs = ys := by
  cases k
  · exact I.tuple_inj h h'
  · exact I.list_inj h h'
end
def IteB (k : Bool) (K : PySem.W.Frag) (a : Addr) : It :=
  ⟨fun i H => ∃ (xs : List V) (x : V), SqB k K H a xs ∧ xs[i]? = some x, fun i H v H' => ∃ T x, v = .ref T ∧ H T = none ∧ H' = upd H T (.tup [.int (i : Nat), x]) ∧ ∀ xs, SqB k K H a xs → xs[i]? = some x, fun i H => ∃ xs : List V, SqB k K H a xs ∧ xs.length = i⟩
def ItzB (k1 k2 : Bool) (K : PySem.W.Frag) (a b : Addr) : It :=
  ⟨fun i H => ∃ (xs ys : List V) (x y : V), SqB k1 K H a xs ∧ SqB k2 K H b ys ∧ xs[i]? = some x ∧ ys[i]? = some y,
    fun i H v H' => ∃ T x y, v = .ref T ∧ H T = none ∧ H' = upd H T (.tup [x, y]) ∧ (∀ xs, SqB k1 K H a xs → xs[i]? = some x) ∧ ∀ ys, SqB k2 K H b ys → ys[i]? = some y,
    fun i H => ∃ xs ys : List V, SqB k1 K H a xs ∧ SqB k2 K H b ys ∧ i ≤ xs.length ∧ i ≤ ys.length ∧ (xs.length = i ∨ ys.length = i)⟩
theorem turn_zipB {P : Program} {w : World} {K : PySem.W.Frag} {elts : List Expr} {kk : Nat} {tpos : Pos} (k1 k2 : Bool) {a b z TI TO i1 i2 : Addr} (D : ZipApart z TI TO i1 i2 a b) (D2 : ZipApart z TI TO i2 i1 b a) :
    Turn P w K (.Tuple elts kk tpos) (ItzB k1 k2 K a b) [z, TI, TO, i1, i2] z (fun i h => IsZip h z TI TO .none ∧ IsTupOf2 h TI (.ref i1) (.ref i2) ∧ (∃ x y, IsTupOf2 h TO x y) ∧ ItB k1 h i1 a i ∧ ItB k2 h i2 b i) where
  mem := by simp
  obj := fun i h st c hc => by
    obtain ⟨hz, hTI, ⟨x, y, hTO⟩, h1, h2⟩ := st
    have e' : c = z ∨ c = TI ∨ c = TO ∨ c = i1 ∨ c = i2 := by simpa using hc
    rcases e' with q | q | q | q | q
    · rw [q]; exact ⟨_, hz, fun v q => nomatch q⟩
    · rw [q]; exact ⟨_, hTI, fun v q => nomatch q⟩
    · rw [q]; exact ⟨_, hTO, fun v q => nomatch q⟩
    · rw [q]; exact h1.obj
    · rw [q]; exact h2.obj
  keep := fun i h h' st k => by
    obtain ⟨hz, hTI, ⟨x, y, hTO⟩, h1, h2⟩ := st
    exact ⟨k z (by simp) _ hz, k TI (by simp) _ hTI, ⟨x, y, k TO (by simp) _ hTO⟩, h1.at fun o q => k i1 (by simp) o q, h2.at fun o q => k i2 (by simp) o q⟩
  item := by
    intro X hP hw hK hc i pins s σ H E I hf st hg
    subst hP hw hK
    obtain ⟨hz, hTI, ⟨x0, y0, hTO⟩, h1, h2⟩ := st
    obtain ⟨xs, ys, x, y, hqx, hqy, hx, hy⟩ := hg
    obtain ⟨its, rv, p, _⟩ := seqB I hqx
    obtain ⟨its2, rv2, p2, _⟩ := seqB I hqy
    obtain ⟨u, hu, ru⟩ := rv.get hx
    obtain ⟨u2, hu2, ru2⟩ := rv2.get hy
    have hzl : z < s.heap.objs.size := Heap.lt_size hz
    have S : ZipSep2 z TI TO i1 i2 [i1, a] [i2, b] := ⟨D.TIz, D.TOz, D.TITO, D.TIi1, by simp, by simp [Ne.symm D.i1z, Ne.symm D.l1z], by simp [D.TOi1, Ne.symm D.l1TO], D.TIi2, by simp, by simp [Ne.symm D.i2z, Ne.symm D2.l1z], by simp [D.TOi2, Ne.symm D2.l1TO], by simp [D.i12, Ne.symm D2.l1i2], by simp [Ne.symm D.i12, Ne.symm D.l1i2]⟩
    refine wpAny_pyNext_zipD2_item S (drawsB k1 (by exact I.ok.hd hc) i1 a D.l1i1 its.toArray) (drawsB k2 (by exact I.ok.hd hc) i2 b D2.l1i1 its2.toArray) hz hTI hTO ⟨h1, p⟩ ⟨h2, p2⟩
      (by obtain ⟨q, _⟩ := List.getElem?_eq_some_iff.mp hu; simpa using q) (by obtain ⟨q, _⟩ := List.getElem?_eq_some_iff.mp hu2; simpa using q) fun x' y' h' tk hx' hy' z' TO' h1' h2' hT hsz hk => ?_
    have hxu : x' = u := by
      have : its[i]? = some x' := by simpa using hx'
      rw [hu] at this; cases this; rfl
    have hyu : y' = u2 := by
      have : its2[i]? = some y' := by simpa using hy'
      rw [hu2] at this; cases this; rfl
    subst hxu hyu
    refine ⟨_, rfl, wpAny_letOwnedTupleGo_zip (s := { s with heap := h', toks := tk }) z' fun h'' z'' sb => ?_⟩
    have hT2 : h''.get? s.heap.objs.size = some { cls := .type "tuple", data := .seq #[x', y'] } := (sb.2 _ (Nat.ne_of_gt hzl)).trans hT
    have new : ObjOk X.prog X.w (upd H s.heap.objs.size (.tup [x, y])) h'' s.heap.objs.size (.tup [x, y]) :=
      ⟨by show 2 ≤ sizeLine; decide, [x', y'], .cons ru (.cons ru2 .nil), ⟨_, hT2, rfl, _, rfl⟩⟩
    have I1 : Inv X pins σ (upd H s.heap.objs.size (.tup [x, y])) { s with heap := h'', toks := tk } :=
      I.turnedNew (ch := [z, TI, TO, i1, i2]) (fun c o hb q => (sb.2 c (fun q' => hb (by simp [q']))).trans (hk c o (fun q' => hb (by simp [q'])) (fun q' => hb (by simp [q'])) (fun q' => hb (by simp [q'])) (fun q' => hb (by simp [q'])) q)) hf (Nat.le_refl _) new
    refine ⟨.ref s.heap.objs.size, _, I1, rfl, ⟨_, x, y, rfl, I.hok.fresh (Nat.le_refl _), rfl, fun l hl => by rw [seqB_inj I hl hqx]; exact hx, fun l hl => by rw [seqB_inj I hl hqy]; exact hy⟩, ⟨z'', ?_, ⟨x', y', ?_⟩, ?_, ?_⟩, fun c hcm => ?_⟩
    · exact (sb.2 _ D.TIz).trans (hk _ _ D.TIz D.TITO D.TIi1 D.TIi2 hTI)
    · exact (sb.2 _ D.TOz).trans TO'
    · exact h1'.1.at fun o q => (sb.2 _ D.i1z).trans q
    · exact h2'.1.at fun o q => (sb.2 _ D.i2z).trans q
    · have hlt : c < s.heap.objs.size := by
        have e' : c = z ∨ c = TI ∨ c = TO ∨ c = i1 ∨ c = i2 := by simpa using hcm
        rcases e' with q | q | q | q | q
        · rw [q]; exact hzl
        · rw [q]; exact Heap.lt_size hTI
        · rw [q]; exact Heap.lt_size hTO
        · rw [q]; obtain ⟨_, e1, _⟩ := h1.obj; exact Heap.lt_size e1
        · rw [q]; obtain ⟨_, e2, _⟩ := h2.obj; exact Heap.lt_size e2
      rw [upd_ne (Nat.ne_of_lt hlt)]
      exact (hf c hcm).1
  done := by
    intro X hP hw hK hc i pins s σ H E I hf st hg
    subst hP hw hK
    obtain ⟨hz, hTI, ⟨x0, y0, hTO⟩, h1, h2⟩ := st
    obtain ⟨xs, ys, hqx, hqy, hl1, hl2, hend⟩ := hg
    obtain ⟨its, rv, p, _⟩ := seqB I hqx
    obtain ⟨its2, rv2, p2, _⟩ := seqB I hqy
    have l1 := rv.length
    have l2 := rv2.length
    have S : ZipSep2 z TI TO i1 i2 [i1, a] [i2, b] := ⟨D.TIz, D.TOz, D.TITO, D.TIi1, by simp, by simp [Ne.symm D.i1z, Ne.symm D.l1z], by simp [D.TOi1, Ne.symm D.l1TO], D.TIi2, by simp, by simp [Ne.symm D.i2z, Ne.symm D2.l1z], by simp [D.TOi2, Ne.symm D2.l1TO], by simp [D.i12, Ne.symm D2.l1i2], by simp [Ne.symm D.i12, Ne.symm D.l1i2]⟩
    refine wpAny_pyNext_zipD2_end S (drawsB k1 (by exact I.ok.hd hc) i1 a D.l1i1 its.toArray) (drawsB k2 (by exact I.ok.hd hc) i2 b D2.l1i1 its2.toArray) hz hTI hTO ⟨h1, p⟩ ⟨h2, p2⟩
      (by simp; omega) (by simp; omega) (by rcases hend with q | q <;> simp <;> omega) fun h' tk hk => ⟨rfl, I.turnedL (t' := tk) (ch := [z, TI, TO, i1, i2]) (fun c o hb q =>
      hk c o (fun q' => hb (by simp [q'])) (fun q' => hb (by simp [q'])) (fun q' => hb (by simp [q'])) (fun q' => hb (by simp [q'])) q) hf⟩
  self := fun A i s Q E st h => wpAny_pyIter_zip st.1 h
def iZipB (K : PySem.W.Frag) (ta : TA) : TI := fun σ H R => ta σ H fun vs H1 => ∃ k1 k2 a b xs ys, vs = [.ref a, .ref b] ∧ SqB k1 K H1 a xs ∧ SqB k2 K H1 b ys ∧ R (ItzB k1 k2 K a b) H1
theorem pi_zipB {X : Cx} {e e2 : Expr} {ta : TA} {p pos tpos : Pos} {elts : List Expr} {kk : Nat} (hg : Gl X "zip") (hm : X.mg "zip" = none) (ha : PA X [e, e2] ta)
    (hs : starEach [e, e2] X.env = (false, eval e X.env) :: starEach [e2] X.env := by rfl) (hpl : (backTo pos (starEach [e2] X.env)).any (·.1) = false := by rfl) :
    PI X (.Tuple elts kk tpos) (.Call (.Name "zip" p) [e, e2] [] pos) (iZipB X.K ta) := by
  refine ⟨fun pins s σ H R I h => ?_⟩
  refine Call_ (ld_blt I hg hm PyProof.Rows.boot_zip (PyProof.Rows.callWith_type1 (thn (ha.run pos pins s σ H _ I h) fun us s1 ⟨vs, H1, I1, r1, q1⟩ => ?_) hs hpl))
  obtain ⟨k1, k2, a, b, xs, ys, ex, hqx, hqy, q⟩ := q1
  subst ex
  cases r1 with
  | cons r rr =>
    cases rr with
    | cons r' rr =>
      cases rr
      cases r
      cases r'
      have fresh5 : ∀ c, c ∈ [s1.heap.objs.size + 4, s1.heap.objs.size + 2, s1.heap.objs.size + 3, s1.heap.objs.size, s1.heap.objs.size + 1] → FpOk X pins H1 c := fun c hcm => by
        have hle : s1.heap.objs.size ≤ c := by
          simp only [List.mem_cons, List.not_mem_nil, or_false] at hcm
          omega
        exact I1.fpOk hle (I1.hok.fresh hle)
      obtain ⟨its, rv, p1, l1⟩ := seqB I1 hqx
      obtain ⟨its2, rv2, p2, l2⟩ := seqB I1 hqy
      refine zip_begins2 (beginsB k1 a its.toArray) (beginsB k2 b its2.toArray) p1 p2 fun h' hz hTI hTO h1 h2 hsz hk => wpAny_pyIter_zip hz ?_
      have I2 : Inv X pins σ H1 { s1 with heap := h' } := I1.kept (t' := s1.toks) hk
      have D : ZipApart (s1.heap.objs.size + 4) (s1.heap.objs.size + 2) (s1.heap.objs.size + 3) s1.heap.objs.size (s1.heap.objs.size + 1) a b := PySem.W.ktu_apart s1.heap.objs.size a b l1 l2
      have D2 : ZipApart (s1.heap.objs.size + 4) (s1.heap.objs.size + 2) (s1.heap.objs.size + 3) (s1.heap.objs.size + 1) s1.heap.objs.size b a := ⟨D.TIz, D.TOz, D.i2z, D.i1z, D.TITO, D.TIi2, D.TIi1, D.TOi2, D.TOi1, D.i12.symm, D.l2z, D.l2TO, D.l2i2, D.l2i1, D.l1z, D.l1TO, D.l1i2, D.l1i1⟩
      exact ⟨s1.heap.objs.size + 4, [s1.heap.objs.size + 4, s1.heap.objs.size + 2, s1.heap.objs.size + 3, s1.heap.objs.size, s1.heap.objs.size + 1], _, _, H1, rfl, I2, turn_zipB k1 k2 D D2, ⟨hz, hTI, ⟨_, _, hTO⟩, itB_new k1 h1, itB_new k2 h2⟩, fresh5, q⟩
end LyI
set_option Elab.async false
set_option linter.all false
set_option maxRecDepth 100000
namespace LyI
open PySem PySem.Spec L2
open PyProof.Rows hiding St
section
variable {prog : Program} {w : World} {A : Around} {E : Value → Shared → Prop} {s : Shared} {z TI TO i1 i2 : Addr} {fp1 fp2 : List Addr} {n1 n2 i : Nat} {P1 P2 : Nat → Value → Prop} {St1 St2 : Nat → Heap → Prop}
end
def ItezB (k1 k2 : Bool) (K : PySem.W.Frag) (a b : Addr) : It :=
  ⟨fun i H => ∃ (xs ys : List V) (x y : V), SqB k1 K H a xs ∧ SqB k2 K H b ys ∧ xs[i]? = some x ∧ ys[i]? = some y,
    fun i H v H' => ∃ T T' x y, v = .ref T' ∧ H T = none ∧ T' ≠ T ∧ H T' = none ∧ H' = upd (upd H T (.tup [x, y])) T' (.tup [.int (i : Nat), .ref T]) ∧ (∀ xs, SqB k1 K H a xs → xs[i]? = some x) ∧ ∀ ys, SqB k2 K H b ys → ys[i]? = some y,
    fun i H => ∃ xs ys : List V, SqB k1 K H a xs ∧ SqB k2 K H b ys ∧ i ≤ xs.length ∧ i ≤ ys.length ∧ (xs.length = i ∨ ys.length = i)⟩
theorem FpOk.upd {X : Cx} {pins : List (Addr × Obj)} {H : Hp} {b T : Addr} {o : HO} (h : FpOk X pins H b) (hb : b ≠ T) : FpOk X pins (upd H T o) b := ⟨by rw [upd_ne hb]; exact h.1, h.2⟩
end LyI
set_option Elab.async false
set_option linter.all false
set_option maxRecDepth 100000
namespace Ly
open PySem PySem.Spec L2
open PyProof.Rows hiding St
inductive Sq where
  | l (i : Nat) | t (ds : List D)
inductive J where
  | tup (ds : List D) | lst (i : Nat) | rng (lo : Int) (n : Nat) | str (x : Str) | enum (s : Sq) | zip (s t : Sq) | cnt (lo c : Int) (n : Nat) | rev (s : Sq) (n : Nat) | ez (s t : Sq) | fk (i : Nat)
def kD : Key → D | .inl i => .int i | .inr x => .str x
theorem kD_R {K : PySem.W.Frag} {p : Nat → Addr} {n : Nat} {H : Hp} (k : Key) : Rep K p n H (kD k) (kV k) := by
  cases k with
  | inl i => exact .int i
  | inr x => exact .str x
theorem kDs_R {K : PySem.W.Frag} {p : Nat → Addr} {n : Nat} {H : Hp} : ∀ ks : List Key, Reps K p n H (ks.map kD) (ks.map kV)
  | [] => .nil
  | k :: ks => .cons (kD_R k) (kDs_R ks)
def seqAt (S : Hs) (i : Nat) : Option (List D) := seqD (.ref i) S
def Sq.at (S : Hs) : Sq → Option (List D)
  | .l i => seqAt S i
  | .t ds => some ds
def sqOf (x : D) (S : Hs) : Option Sq := match x with
  | .ref i => (seqAt S i).map fun _ => .l i
  | .tup ds => some (.t ds)
  | .wt ds => some (.t ds)
  | _ => none
def SqR (K : PySem.W.Frag) (p : Nat → Addr) (n : Nat) (H : Hp) : Sq → Bool → Addr → Prop
  | .l i, k, a => i < n ∧ k = true ∧ a = p i
  | .t ds, k, a => k = false ∧ ∃ vs, (H a = some (.tup vs) ∨ Wt K a vs) ∧ Reps K p n H ds vs
def itGo (j : J) (k : Nat) (S : Hs) : Option (Option D) := match j with
  | .tup ds => some ds[k]?
  | .lst i => (seqAt S i).map (·[k]?)
  | .rng lo n => some (if k < n then some (.int (lo + k)) else none)
  | .str x => some (x.cps[k]?.map fun c => .str ⟨#[c]⟩)
  | .cnt lo c n => some (if k < n then some (.int (lo + k * c)) else none)
  | .enum s => (s.at S).bind fun ds => if k ≤ ds.length then some (ds[k]?.map fun d => .tup [.int k, d]) else none
  | .zip a b => match a.at S, b.at S with
    | some xs, some ys => if k ≤ xs.length ∧ k ≤ ys.length then some (match xs[k]?, ys[k]? with
      | some x, some y => some (.tup [x, y])
      | _, _ => none) else none
    | _, _ => none
  | .rev s n => (s.at S).bind fun ds => if ds.length = n then some (if k < n then ds[n - 1 - k]? else none) else none
  | .ez a b => match a.at S, b.at S with
    | some xs, some ys => if k ≤ xs.length ∧ k ≤ ys.length then some (match xs[k]?, ys[k]? with
      | some x, some y => some (.tup [.int k, .tup [x, y]])
      | _, _ => none) else none
    | _, _ => none
  | .fk i => match S[i]? with
    | some (.fdc kvs) => some (kvs[k]?.map fun q => kD q.1)
    | some (.fdt kvs) => some (kvs[k]?.map fun q => .tup (q.1.map kD))
    | _ => none
def JRel (K : PySem.W.Frag) (p : Nat → Addr) (n : Nat) (H : Hp) : J → It → Prop
  | .tup ds, I => ∃ a vs, Rep K p n H (.tup ds) (.ref a) ∧ (H a = some (.tup vs) ∧ Reps K p n H ds vs) ∧ I = Itt K a ∨ Rep K p n H (.wt ds) (.ref a) ∧ (Wt K a vs ∧ Reps K p n H ds vs) ∧ I = Itt K a
  | .lst i, I => i < n ∧ I = Itl K (p i)
  | .rng lo m, I => I = Itr lo m
  | .str x, I => I = Its x
  | .cnt lo c m, I => I = Itc lo c m
  | .enum s, I => ∃ k a, SqR K p n H s k a ∧ I = LyI.IteB k K a
  | .zip s t, I => ∃ k1 a k2 b, SqR K p n H s k1 a ∧ SqR K p n H t k2 b ∧ I = LyI.ItzB k1 k2 K a b
  | .rev s m, I => ∃ b a, SqR K p n H s b a ∧ I = (if b = true then Itv K a m else RT.ItvT K a m)
  | .ez s t, I => ∃ k1 a k2 b, SqR K p n H s k1 a ∧ SqR K p n H t k2 b ∧ I = LyI.ItezB k1 k2 K a b
  | .fk i, I => i < n ∧ ∃ ob, (∃ ks, H (p i) = some (.frz ob (.dK ks)) ∧ I = Itk (p i) ob ks) ∨ ∃ ks, H (p i) = some (.frz ob (.dT ks)) ∧ I = Itkt (p i) ob ks
section
variable {K : PySem.W.Frag} {E : St → XK} {p q : Nat → Addr} {n m : Nat} {H H' : Hp} {S : Hs} {j : J} {I : It} {k : Nat}
theorem SqR.ext {s : Sq} {k : Bool} {a : Addr} (h : SqR K p n H s k a) (x : Ext n m p q H H') : SqR K q m H' s k a := by
  cases s with
  | l i => obtain ⟨h1, h2, h3⟩ := h; exact ⟨Nat.lt_of_lt_of_le h1 x.le, h2, by rw [x.ag i h1]; exact h3⟩
  | t ds =>
    obtain ⟨h1, vs, h2, h3⟩ := h
    refine ⟨h1, vs, ?_, h3.ext x _ _⟩
    rcases h2 with h2 | h2
    · exact .inl (x.tp _ _ h2)
    · exact .inr h2
theorem JRel.ext (h : JRel K p n H j I) (x : Ext n m p q H H') : JRel K q m H' j I := by
  cases j with
  | tup ds =>
    obtain ⟨a, vs, h⟩ := h
    rcases h with ⟨h1, ⟨h2, h3⟩, h4⟩ | ⟨h1, ⟨h2, h3⟩, h4⟩
    · exact ⟨a, vs, .inl ⟨h1.ext x _ _, ⟨x.tp _ _ h2, h3.ext x _ _⟩, h4⟩⟩
    · exact ⟨a, vs, .inr ⟨h1.ext x _ _, ⟨h2, h3.ext x _ _⟩, h4⟩⟩
  | lst i => obtain ⟨h1, h2⟩ := h; exact ⟨Nat.lt_of_lt_of_le h1 x.le, by rw [x.ag i h1]; exact h2⟩
  | rng lo m => exact h
  | str z => exact h
  | cnt lo c m => exact h
  | enum s => obtain ⟨k, a, h1, h2⟩ := h; exact ⟨k, a, h1.ext x, h2⟩
  | zip s t => obtain ⟨k1, a, k2, b, h1, h2, h3⟩ := h; exact ⟨k1, a, k2, b, h1.ext x, h2.ext x, h3⟩
  | rev s n => obtain ⟨b, a, h1, h2⟩ := h; exact ⟨b, a, h1.ext x, h2⟩
  | ez s t => obtain ⟨k1, a, k2, b, h1, h2, h3⟩ := h; exact ⟨k1, a, k2, b, h1.ext x, h2.ext x, h3⟩
  | fk i =>
    obtain ⟨hi, ob, h⟩ := h
    refine ⟨Nat.lt_of_lt_of_le hi x.le, ob, ?_⟩
    rw [x.ag i hi]
    rcases h with ⟨ks, h1, h2⟩ | ⟨ks, h1, h2⟩
    · exact .inl ⟨ks, x.fz _ _ _ h1, h2⟩
    · exact .inr ⟨ks, x.fz _ _ _ h1, h2⟩
theorem seqAt_V {i : Nat} {ds : List D} (R : Real K p S H) (h : seqAt S i = some ds) : ∃ vs, SqL K H (p i) vs ∧ Reps K p S.length H ds vs := by
  have hi : i < S.length := by
    unfold seqAt seqD at h
    simp only at h
    split at h
    · rename_i q; exact Real.lt q
    · rename_i q; exact Real.lt q
    · cases h
  obtain ⟨a, vs, e, h1, r⟩ := seq_V R (.ref hi) h
  cases e
  exact ⟨vs, h1, r⟩
theorem SqR.seq {s : Sq} {b : Bool} {a : Addr} {ds : List D} (R : Real K p S H) (h : SqR K p S.length H s b a) (e : s.at S = some ds) : ∃ vs, LyI.SqB b K H a vs ∧ Reps K p S.length H ds vs := by
  cases s with
  | l i =>
    obtain ⟨h1, rfl, rfl⟩ := h
    obtain ⟨vs, hs, r⟩ := seqAt_V R e
    exact ⟨vs, hs, r⟩
  | t es =>
    obtain ⟨rfl, vs, h2, h3⟩ := h
    cases e
    refine ⟨vs, ?_, h3⟩
    rcases h2 with h2 | h2
    · exact SqT.of h2
    · exact h2.sq
theorem sqOf_R {x : D} {v : V} {s : Sq} (R : Real K p S H) (r : Rep K p S.length H x v) (h : sqOf x S = some s) : ∃ b a ds, v = .ref a ∧ SqR K p S.length H s b a ∧ s.at S = some ds := by
  cases x with
  | ref i =>
    simp only [sqOf, Option.map_eq_some_iff] at h
    obtain ⟨ds, e, rfl⟩ := h
    cases r with
    | ref hi => exact ⟨true, _, ds, rfl, ⟨hi, rfl, rfl⟩, e⟩
  | tup ds =>
    cases h
    cases r with
    | tup t r => exact ⟨false, _, ds, rfl, ⟨rfl, _, .inl t, r⟩, rfl⟩
  | wt ds =>
    cases h
    cases r with
    | wt t r => exact ⟨false, _, ds, rfl, ⟨rfl, _, .inr t, r⟩, rfl⟩
  | _ => cases h
theorem Reps.none {ds : List D} {vs : List V} (r : Reps K p n H ds vs) (e : ds[k]? = none) : vs.length ≤ k := by
  rw [← r.len]; exact List.getElem?_eq_none_iff.mp e
theorem fk_at (R : Real K p S H) {i : Nat} (h : JRel K p S.length H (.fk i) I) {o : Option D} (e : itGo (.fk i) k S = some o) :
    (∃ ob ks, H (p i) = some (.frz ob (.dK ks)) ∧ I = Itk (p i) ob ks ∧ o = (ks[k]?.map fun q => kD q.1)) ∨ ∃ ob ks, H (p i) = some (.frz ob (.dT ks)) ∧ I = Itkt (p i) ob ks ∧ o = (ks[k]?.map fun q => D.tup (q.1.map kD)) := by
  obtain ⟨hi, ob, h⟩ := h
  simp only [itGo] at e
  split at e
  · rename_i kvs q
    obtain ⟨ob2, ks, g1, g2, g3⟩ := R.ob _ _ q
    injection e with e
    rcases h with ⟨ks2, h1, h2⟩ | ⟨ks2, h1, h2⟩
    · rw [g1] at h1
      injection h1 with h1
      injection h1 with h3 h4
      injection h4 with h4
      subst h3 h4
      refine .inl ⟨_, _, g1, h2, ?_⟩
      rw [← e]
      have := congrArg (fun L => (L[k]?).map kD) g2
      simpa [List.getElem?_map, Option.map_map, Function.comp_def] using this.symm
    · rw [g1] at h1
      injection h1 with h1
      injection h1 with h3 h4
      cases h4
  · rename_i kvs q
    obtain ⟨ob2, ks, g1, g2, g3⟩ := R.ob _ _ q
    injection e with e
    rcases h with ⟨ks2, h1, h2⟩ | ⟨ks2, h1, h2⟩
    · rw [g1] at h1
      injection h1 with h1
      injection h1 with h3 h4
      cases h4
    · rw [g1] at h1
      injection h1 with h1
      injection h1 with h3 h4
      injection h4 with h4
      subst h3 h4
      refine .inr ⟨_, _, g1, h2, ?_⟩
      rw [← e]
      have := congrArg (fun L => (L[k]?).map fun q => D.tup (q.map kD)) g2
      simpa [List.getElem?_map, Option.map_map, Function.comp_def] using this.symm
  · cases e
theorem it_stop (R : Real K p S H) (h : JRel K p S.length H j I) (e : itGo j k S = some none) : I.stop k H := by
  cases j with
  | tup ds =>
    obtain ⟨a, vs, h⟩ := h
    simp only [itGo, Option.some.injEq] at e
    rcases h with ⟨h1, ⟨h2, h3⟩, rfl⟩ | ⟨h1, ⟨h2, h3⟩, rfl⟩
    · exact ⟨vs, SqT.of h2, h3.none e⟩
    · exact ⟨vs, h2.sq, h3.none e⟩
  | lst i =>
    obtain ⟨h1, rfl⟩ := h
    simp only [itGo, Option.map_eq_some_iff] at e
    obtain ⟨ds, e, e2⟩ := e
    obtain ⟨vs, hs, r⟩ := seqAt_V R e
    exact ⟨vs, hs, r.none e2⟩
  | rng lo m =>
    cases h
    simp only [itGo, Option.some.injEq] at e
    split at e
    · cases e
    · rename_i hk; exact Nat.le_of_not_lt hk
  | str x =>
    cases h
    simp only [itGo, Option.some.injEq, Option.map_eq_none_iff] at e
    exact Array.getElem?_eq_none_iff.mp e
  | cnt lo c m =>
    cases h
    simp only [itGo, Option.some.injEq] at e
    split at e
    · cases e
    · rename_i hk; exact Nat.le_of_not_lt hk
  | enum s =>
    obtain ⟨b, a, h1, rfl⟩ := h
    simp only [itGo, Option.bind_eq_some_iff] at e
    obtain ⟨ds, e, e2⟩ := e
    obtain ⟨vs, hs, r⟩ := h1.seq R e
    split at e2
    · rename_i hk
      simp only [Option.some.injEq, Option.map_eq_none_iff, List.getElem?_eq_none_iff] at e2
      exact ⟨vs, hs, by rw [← r.len]; omega⟩
    · cases e2
  | zip s t =>
    obtain ⟨b1, a, b2, b, h1, h2, rfl⟩ := h
    simp only [itGo] at e
    split at e
    · rename_i xs ys e1 e2
      obtain ⟨vs, hs, r⟩ := h1.seq R e1
      obtain ⟨us, hs', r'⟩ := h2.seq R e2
      split at e
      · rename_i hk
        simp only [Option.some.injEq] at e
        have l1 := r.len
        have l2 := r'.len
        refine ⟨vs, us, hs, hs', by omega, by omega, ?_⟩
        split at e
        · cases e
        · rename_i hno
          cases q1 : xs[k]? with
          | none => have := List.getElem?_eq_none_iff.mp q1; exact .inl (by omega)
          | some x =>
            cases q2 : ys[k]? with
            | none => have := List.getElem?_eq_none_iff.mp q2; exact .inr (by omega)
            | some y => exact (hno x y q1 q2).elim
      · cases e
    · cases e
  | rev s n =>
    obtain ⟨b, a, h1, rfl⟩ := h
    simp only [itGo, Option.bind_eq_some_iff] at e
    obtain ⟨ds, e, e2⟩ := e
    have hn : n ≤ k := by
      split at e2
      · rename_i hl
        simp only [Option.some.injEq] at e2
        split at e2
        · rename_i hk
          have := List.getElem?_eq_none_iff.mp e2
          omega
        · omega
      · cases e2
    cases b
    · exact hn
    · exact hn
  | ez s t =>
    obtain ⟨b1, a, b2, b, h1, h2, rfl⟩ := h
    simp only [itGo] at e
    split at e
    · rename_i xs ys e1 e2
      obtain ⟨vs, hs, r⟩ := h1.seq R e1
      obtain ⟨us, hs', r'⟩ := h2.seq R e2
      split at e
      · rename_i hk
        simp only [Option.some.injEq] at e
        have l1 := r.len
        have l2 := r'.len
        refine ⟨vs, us, hs, hs', by omega, by omega, ?_⟩
        split at e
        · cases e
        · rename_i hno
          cases q1 : xs[k]? with
          | none => have := List.getElem?_eq_none_iff.mp q1; exact .inl (by omega)
          | some x =>
            cases q2 : ys[k]? with
            | none => have := List.getElem?_eq_none_iff.mp q2; exact .inr (by omega)
            | some y => exact (hno x y q1 q2).elim
      · cases e
    · cases e
  | fk i =>
    rcases fk_at R h e with ⟨ob, ks, g1, rfl, g3⟩ | ⟨ob, ks, g1, rfl, g3⟩
    · refine ⟨g1, ?_⟩
      cases q : ks[k]? with
      | none => exact List.getElem?_eq_none_iff.mp q
      | some z => rw [q] at g3; cases g3
    · refine ⟨g1, ?_⟩
      cases q : ks[k]? with
      | none => exact List.getElem?_eq_none_iff.mp q
      | some z => rw [q] at g3; cases g3
theorem it_go (R : Real K p S H) (h : JRel K p S.length H j I) {d : D} (e : itGo j k S = some (some d)) :
    I.go k H ∧ ∀ x H', I.yld k H x H' → Ext S.length S.length p p H H' ∧ Real K p S H' ∧ Rep K p S.length H' d x := by
  cases j with
  | tup ds =>
    obtain ⟨a, vs, h⟩ := h
    simp only [itGo, Option.some.injEq] at e
    rcases h with ⟨h1, ⟨h2, h3⟩, rfl⟩ | ⟨h1, ⟨h2, h3⟩, rfl⟩
    · obtain ⟨v, e2, r⟩ := h3.get e
      refine ⟨⟨vs, v, SqT.of h2, e2⟩, fun x H' y => ?_⟩
      obtain ⟨rfl, y⟩ := y
      have := (y vs (SqT.of h2)).symm.trans e2
      cases this
      exact ⟨Ext.refl, R, r⟩
    · obtain ⟨v, e2, r⟩ := h3.get e
      refine ⟨⟨vs, v, h2.sq, e2⟩, fun x H' y => ?_⟩
      obtain ⟨rfl, y⟩ := y
      have := (y vs h2.sq).symm.trans e2
      cases this
      exact ⟨Ext.refl, R, r⟩
  | lst i =>
    obtain ⟨h1, rfl⟩ := h
    simp only [itGo, Option.map_eq_some_iff] at e
    obtain ⟨ds, e, e2⟩ := e
    obtain ⟨vs, hs, r⟩ := seqAt_V R e
    obtain ⟨v, e3, r3⟩ := r.get e2
    refine ⟨⟨vs, v, hs, e3⟩, fun x H' y => ?_⟩
    obtain ⟨rfl, y⟩ := y
    have := (y vs hs).symm.trans e3
    cases this
    exact ⟨Ext.refl, R, r3⟩
  | rng lo m =>
    cases h
    simp only [itGo, Option.some.injEq] at e
    split at e
    · rename_i hk
      cases e
      refine ⟨hk, fun x H' y => ?_⟩
      obtain ⟨rfl, rfl⟩ := y
      exact ⟨Ext.refl, R, .int _⟩
    · cases e
  | str z =>
    cases h
    simp only [itGo, Option.some.injEq, Option.map_eq_some_iff] at e
    obtain ⟨c, e, rfl⟩ := e
    refine ⟨(Array.getElem?_eq_some_iff.mp e).1, fun x H' y => ?_⟩
    obtain ⟨rfl, c', e', rfl⟩ := y
    rw [e] at e'; cases e'
    exact ⟨Ext.refl, R, .str _⟩
  | cnt lo c m =>
    cases h
    simp only [itGo, Option.some.injEq] at e
    split at e
    · rename_i hk
      cases e
      refine ⟨hk, fun x H' y => ?_⟩
      obtain ⟨rfl, rfl⟩ := y
      exact ⟨Ext.refl, R, .int _⟩
    · cases e
  | enum s =>
    obtain ⟨b, a, h1, rfl⟩ := h
    simp only [itGo, Option.bind_eq_some_iff] at e
    obtain ⟨ds, e, e2⟩ := e
    obtain ⟨vs, hs, r⟩ := h1.seq R e
    split at e2
    · rename_i hk
      simp only [Option.some.injEq, Option.map_eq_some_iff] at e2
      obtain ⟨c, e2, rfl⟩ := e2
      obtain ⟨v, e3, r3⟩ := r.get e2
      refine ⟨⟨vs, v, hs, e3⟩, fun x H' y => ?_⟩
      obtain ⟨T, z, rfl, hT, rfl, y⟩ := y
      have := (y vs hs).symm.trans e3
      cases this
      exact ⟨ext_junk hT, R.junk hT, .tup upd_same (.cons (.int _) (.cons (r3.ext (ext_junk hT) _ _) .nil))⟩
    · cases e2
  | zip s t =>
    obtain ⟨b1, a, b2, b, h1, h2, rfl⟩ := h
    simp only [itGo] at e
    split at e
    · rename_i xs ys e1 e2
      obtain ⟨vs, hs, r⟩ := h1.seq R e1
      obtain ⟨us, hs', r'⟩ := h2.seq R e2
      split at e
      · simp only [Option.some.injEq] at e
        split at e
        · rename_i x y q1 q2
          cases e
          obtain ⟨v, e3, r3⟩ := r.get q1
          obtain ⟨u, e4, r4⟩ := r'.get q2
          refine ⟨⟨vs, us, v, u, hs, hs', e3, e4⟩, fun z H' w => ?_⟩
          obtain ⟨T, z1, z2, rfl, hT, rfl, y1, y2⟩ := w
          have := (y1 vs hs).symm.trans e3
          cases this
          have := (y2 us hs').symm.trans e4
          cases this
          exact ⟨ext_junk hT, R.junk hT, .tup upd_same (.cons (r3.ext (ext_junk hT) _ _) (.cons (r4.ext (ext_junk hT) _ _) .nil))⟩
        · cases e
      · cases e
    · cases e
  | rev s n =>
    obtain ⟨b, a, h1, rfl⟩ := h
    simp only [itGo, Option.bind_eq_some_iff] at e
    obtain ⟨ds, e, e2⟩ := e
    obtain ⟨vs, hs, r⟩ := h1.seq R e
    split at e2
    · simp only [Option.some.injEq] at e2
      split at e2
      · rename_i hk
        obtain ⟨v, e3, r3⟩ := r.get e2
        cases b with
        | true =>
          refine ⟨⟨hk, vs, v, hs, e3⟩, fun x H' y => ?_⟩
          obtain ⟨rfl, y⟩ := y
          have := (y vs hs).symm.trans e3
          cases this
          exact ⟨Ext.refl, R, r3⟩
        | false =>
          refine ⟨⟨hk, vs, v, hs, e3⟩, fun x H' y => ?_⟩
          obtain ⟨rfl, y⟩ := y
          have := (y vs hs).symm.trans e3
          cases this
          exact ⟨Ext.refl, R, r3⟩
      · cases e2
    · cases e2
  | ez s t =>
    obtain ⟨b1, a, b2, b, h1, h2, rfl⟩ := h
    simp only [itGo] at e
    split at e
    · rename_i xs ys e1 e2
      obtain ⟨vs, hs, r⟩ := h1.seq R e1
      obtain ⟨us, hs', r'⟩ := h2.seq R e2
      split at e
      · simp only [Option.some.injEq] at e
        split at e
        · rename_i x y q1 q2
          cases e
          obtain ⟨v, e3, r3⟩ := r.get q1
          obtain ⟨u, e4, r4⟩ := r'.get q2
          refine ⟨⟨vs, us, v, u, hs, hs', e3, e4⟩, fun z H' w => ?_⟩
          obtain ⟨T, T', z1, z2, rfl, hT, hne, hT', rfl, y1, y2⟩ := w
          have := (y1 vs hs).symm.trans e3
          cases this
          have := (y2 us hs').symm.trans e4
          cases this
          have hn : upd H T (.tup [v, u]) T' = none := (upd_ne hne).trans hT'
          have x1 : Ext S.length S.length p p H (upd H T (.tup [v, u])) := ext_junk hT
          have x2 : Ext S.length S.length p p (upd H T (.tup [v, u])) (upd (upd H T (.tup [v, u])) T' (.tup [.int (k : Nat), .ref T])) := ext_junk hn
          have rp : Rep K p S.length (upd H T (.tup [v, u])) (.tup [x, y]) (.ref T) := .tup upd_same (.cons (r3.ext x1 _ _) (.cons (r4.ext x1 _ _) .nil))
          exact ⟨x1.trans x2, (R.junk hT).junk hn, .tup upd_same (.cons (.int _) (.cons (rp.ext x2 _ _) .nil))⟩
        · cases e
      · cases e
    · cases e
  | fk i =>
    rcases fk_at R h e with ⟨ob, ks, g1, rfl, g3⟩ | ⟨ob, ks, g1, rfl, g3⟩
    · cases q : ks[k]? with
      | none => rw [q] at g3; cases g3
      | some z =>
        rw [q] at g3
        injection g3 with g3
        refine ⟨⟨g1, (List.getElem?_eq_some_iff.mp q).1⟩, fun x H' y => ?_⟩
        obtain ⟨rfl, k2, v, y1, rfl⟩ := y
        rw [q] at y1
        injection y1 with y1
        subst y1
        rw [g3]
        exact ⟨Ext.refl, R, kD_R _⟩
    · cases q : ks[k]? with
      | none => rw [q] at g3; cases g3
      | some z =>
        rw [q] at g3
        injection g3 with g3
        refine ⟨⟨g1, (List.getElem?_eq_some_iff.mp q).1⟩, fun x H' y => ?_⟩
        obtain ⟨rfl, k2, v, b, y1, rfl, y2⟩ := y
        rw [q] at y1
        injection y1 with y1
        subst y1
        rw [g3]
        exact ⟨Ext.refl, R, .tup y2 (kDs_R _)⟩
end
abbrev MI := Ls → Hs → R J
def TI' (K : PySem.W.Frag) (E : St → XK) (f : MI) : TI := fun s H Q => ∃ p l S, Real K p S H ∧ Sl K p S.length H l s ∧ Post K E S.length p H (f l S) (fun j S1 p1 H1 => ∀ I, JRel K p1 S1.length H1 j I → Q I H1)
structure IM (X : Cx) (E : St → XK) (tg e : Expr) (f : MI) : Prop where pi : PI X tg e (TI' X.K E f)
theorem _root_.L2.PI.weak {X : Cx} {tg e : Expr} {t t' : TI} (h : PI X tg e t) (w : ∀ s H Q, t' s H Q → t s H Q) : PI X tg e t' := ⟨fun pins s σ H Q I q => h.run pins s σ H Q I (w σ H Q q)⟩
theorem _root_.L2.PI.or {X : Cx} {tg e : Expr} {t t' : TI} (h : PI X tg e t) (h' : PI X tg e t') : PI X tg e (fun s H Q => t s H Q ∨ t' s H Q) := ⟨fun pins s σ H Q I q => q.elim (h.run pins s σ H Q I) (h'.run pins s σ H Q I)⟩
def oIt (x : D) (S : Hs) : R J := match x with
  | .tup ds => .ok (.tup ds) S
  | .wt ds => .ok (.tup ds) S
  | .str x => .ok (.str x) S
  | .ref i => match seqAt S i with
    | some _ => .ok (.lst i) S
    | none => match S[i]? with
      | some (.fdc _) => .ok (.fk i) S
      | some (.fdt _) => .ok (.fk i) S
      | _ => .bad
  | _ => .bad
def mIt (f : M) : MI := fun l S => (f l S).bind oIt
def oRng1 (ds : List D) (S : Hs) : R J := match ds with
  | [.int n] => if -(2 ^ 62) ≤ n ∧ n < 2 ^ 62 then .ok (.rng 0 n.toNat) S else .bad
  | _ => .bad
def oRng2 (ds : List D) (S : Hs) : R J := match ds with
  | [.int a, .int b] => if -(2 ^ 62) ≤ a ∧ a < 2 ^ 62 ∧ -(2 ^ 62) ≤ b ∧ b < 2 ^ 62 then .ok (.rng a (b - a).toNat) S else .bad
  | _ => .bad
def mRng1 (f : ML) : MI := fun l S => (f l S).bind oRng1
def mRng2 (f : ML) : MI := fun l S => (f l S).bind oRng2
def oEnum (ds : List D) (S : Hs) : R J := match ds with
  | [x] => match sqOf x S with
    | some s => .ok (.enum s) S
    | none => .bad
  | _ => .bad
def mEnum (f : ML) : MI := fun l S => (f l S).bind oEnum
def oZip (ds : List D) (S : Hs) : R J := match ds with
  | [x, y] => match sqOf x S, sqOf y S with
    | some s, some t => .ok (.zip s t) S
    | _, _ => .bad
  | _ => .bad
def mZip (f : ML) : MI := fun l S => (f l S).bind oZip
def oEz (ds : List D) (S : Hs) : R J := match ds with
  | [x, y] => match sqOf x S, sqOf y S with
    | some s, some t => .ok (.ez s t) S
    | _, _ => .bad
  | _ => .bad
def mEz (f : ML) : MI := fun l S => (f l S).bind oEz
section
variable {X : Cx} {E : St → XK} {tg e e2 : Expr} {f : M} {g : ML} {p0 pos : Pos}
abbrev QJ (K : PySem.W.Frag) (Q : It → Hp → Prop) : J → Hs → (Nat → Addr) → Hp → Prop := fun j S1 p1 H1 => ∀ I, JRel K p1 S1.length H1 j I → Q I H1
theorem seqAt_lt {S : Hs} {i : Nat} {ds : List D} (h : seqAt S i = some ds) : i < S.length := by
  unfold seqAt seqD at h
  simp only at h
  split at h
  · rename_i q; exact Real.lt q
  · rename_i q; exact Real.lt q
  · cases h
theorem i_it (he : EM X E e f) : IM X E tg e (mIt f) :=
  ⟨(PI.or (pi_list he.pe) (PI.or (pi_tup he.pe) (PI.or (pi_str he.pe) (pi_keys he.pe)))).weak fun s H Q ⟨p, l, S, R, L, h⟩ => by
    unfold mIt at h
    have hc : ∃ d S1, f l S = .ok d S1 ∨ ∃ c fs l1, f l S = .exc c fs l1 S1 := by
      cases q : f l S with
      | ok d S1 => exact ⟨d, S1, .inl rfl⟩
      | exc c fs l1 S1 => exact ⟨.non, S1, .inr ⟨c, fs, l1, rfl⟩⟩
      | bad => rw [q] at h; exact h.elim
    obtain ⟨d, S1, hc | ⟨c, fs, l1, hc⟩⟩ := hc
    · rw [hc] at h
      simp only [Ly.R.bind_ok] at h
      unfold oIt at h
      split at h
      · refine .inr (.inl ⟨p, l, S, R, L, ?_⟩)
        rw [hc]
        intro p1 H1 x1 R1 v r
        cases r with
        | tup t r => exact ⟨_, rfl, ⟨_, SqT.of t⟩, Post.ok (Q := QJ _ Q) h x1 R1 _ ⟨_, _, .inl ⟨.tup t r, ⟨t, r⟩, rfl⟩⟩⟩
      · refine .inr (.inl ⟨p, l, S, R, L, ?_⟩)
        rw [hc]
        intro p1 H1 x1 R1 v r
        cases r with
        | wt t r => exact ⟨_, rfl, ⟨_, t.sq⟩, Post.ok (Q := QJ _ Q) h x1 R1 _ ⟨_, _, .inr ⟨.wt t r, ⟨t, r⟩, rfl⟩⟩⟩
      · refine .inr (.inr (.inl ⟨p, l, S, R, L, ?_⟩))
        rw [hc]
        intro p1 H1 x1 R1 v r
        cases r
        exact ⟨_, rfl, Post.ok (Q := QJ _ Q) h x1 R1 _ rfl⟩
      · split at h
        · rename_i ds q
          refine .inl ⟨p, l, S, R, L, ?_⟩
          rw [hc]
          intro p1 H1 x1 R1 v r
          obtain ⟨vs, hs, _⟩ := seqAt_V R1 q
          cases r
          exact ⟨_, rfl, ⟨_, hs⟩, Post.ok (Q := QJ _ Q) h x1 R1 _ ⟨seqAt_lt q, rfl⟩⟩
        · refine .inr (.inr (.inr ⟨p, l, S, R, L, ?_⟩))
          rw [hc]
          split at h
          · rename_i kvs q
            intro p1 H1 x1 R1 v r
            obtain ⟨ob, ks, g1, g2, g3⟩ := R1.ob _ _ q
            cases r
            exact ⟨_, ob, rfl, .inl ⟨ks, g1, Post.ok (Q := QJ _ Q) h x1 R1 _ ⟨Real.lt q, ob, .inl ⟨ks, g1, rfl⟩⟩⟩⟩
          · rename_i kvs q
            intro p1 H1 x1 R1 v r
            obtain ⟨ob, ks, g1, g2, g3⟩ := R1.ob _ _ q
            cases r
            exact ⟨_, ob, rfl, .inr ⟨ks, g1, Post.ok (Q := QJ _ Q) h x1 R1 _ ⟨Real.lt q, ob, .inr ⟨ks, g1, rfl⟩⟩⟩⟩
          · exact h.elim
      · exact h.elim
    · rw [hc] at h
      refine .inl ⟨p, l, S, R, L, ?_⟩
      rw [hc]
      exact h⟩
theorem i_rng1 {a : Expr} (hm : X.mg "range" = none) (ha : LM X E [a] g) (hg : Gl X "range" := by rfl) (hs : starEach [a] X.env = [(false, eval a X.env)] := by rfl) : IM X E tg (.Call (.Name "range" p0) [a] [] pos) (mRng1 g) :=
  ⟨(pi_range1 hg hm ha.pa hs).weak fun s H Q ⟨p, l, S, R, L, h⟩ => TL.of R L h fun p1 S1 H1 d v R1 x1 L1 r1 h1 => by
    unfold oRng1 at h1
    split at h1
    · split at h1
      · rename_i hb
        cases r1 with
        | cons r0 rs => cases rs; cases r0; exact ⟨_, rfl, hb.1, hb.2, Post.ok (Q := QJ _ Q) h1 Ext.refl R1 _ rfl⟩
      · exact h1.elim
    · exact h1.elim⟩
theorem i_zip {elts : List Expr} {kk : Nat} {tpos : Pos} (hm : X.mg "zip" = none) (ha : LM X E [e, e2] g) (hg : Gl X "zip" := by rfl) (hs : starEach [e, e2] X.env = (false, eval e X.env) :: starEach [e2] X.env := by rfl) (hpl : (backTo pos (starEach [e2] X.env)).any (·.1) = false := by rfl) :
    IM X E (.Tuple elts kk tpos) (.Call (.Name "zip" p0) [e, e2] [] pos) (mZip g) :=
  ⟨(LyI.pi_zipB hg hm ha.pa hs hpl).weak fun s H Q ⟨p, l, S, R, L, h⟩ => TL.of R L h fun p1 S1 H1 d v R1 x1 L1 r1 h1 => by
    unfold oZip at h1
    split at h1
    · split at h1
      · rename_i q q'
        cases r1 with
        | cons r0 rs =>
          cases rs with
          | cons r2 rs =>
            cases rs
            obtain ⟨b, a, ds, rfl, h2, e⟩ := sqOf_R R1 r0 q
            obtain ⟨b', a', ds', rfl, h2', e'⟩ := sqOf_R R1 r2 q'
            obtain ⟨vs, hs, _⟩ := h2.seq R1 e
            obtain ⟨us, hs', _⟩ := h2'.seq R1 e'
            exact ⟨b, b', a, a', vs, us, rfl, hs, hs', Post.ok (Q := QJ _ Q) h1 Ext.refl R1 _ ⟨b, a, b', a', h2, h2', rfl⟩⟩
      · exact h1.elim
    · exact h1.elim⟩
end
def fStep (j : J) (g : MG) (b : MS) (a : Nat × Ls × Hs) : Sum (Nat × Ls × Hs) (R F) := match itGo j a.1 a.2.2 with
  | none => .inr .bad
  | some none => .inr (.ok (.nx a.2.1) a.2.2)
  | some (some d) => match g d a.2.1 a.2.2 with
    | .ok l1 S1 => turnOf (b l1 S1) fun l2 S2 => (a.1 + 1, l2, S2)
    | .exc c fs l1 S1 => .inr (.exc c fs l1 S1)
    | .bad => .inr .bad
noncomputable def fLoop (j : J) (g : MG) (b : MS) (k : Nat) : MS := fun l S => runI (fStep j g b) (k, l, S)
noncomputable def mFor (it : MI) (g : MG) (b : MS) : MS := fun l S => (it l S).bind fun j S1 => fLoop j g b 0 l S1
theorem fLoop_eq (j : J) (g : MG) (b : MS) (k : Nat) (l : Ls) (S : Hs) : fLoop j g b k l S = match itGo j k S with
    | none => .bad
    | some none => .ok (.nx l) S
    | some (some d) => (g d l S).bind fun l1 S1 => (b l1 S1).bind fun r S2 => match r with
      | .nx l2 => fLoop j g b (k + 1) l2 S2
      | .ct l2 => fLoop j g b (k + 1) l2 S2
      | .bk l2 => .ok (.nx l2) S2
      | .rt d => .ok (.rt d) S2 := by
  unfold fLoop
  rw [runI_eq]
  unfold fStep turnOf
  simp only []
  cases itGo j k S with
  | none => rfl
  | some o =>
    cases o with
    | none => rfl
    | some d =>
      simp only []
      cases g d l S with
      | ok l1 S1 =>
        simp only [R.bind_ok]
        cases b l1 S1 with
        | ok r S2 => cases r <;> rfl
        | exc _ _ _ _ => rfl
        | bad => rfl
      | exc _ _ _ _ => rfl
      | bad => rfl
section
variable {X : Cx} {E : St → XK} {tg e : Expr} {it : MI} {g : MG} {b : MS} {pos : Pos} {body : List Stmt}
theorem s_for (hp : PassesOwn (model X.prog X.w) X.A X.env X.xe) (hc : X.calm = true) (hi : IM X E tg e it) (hg : GM X E tg g) (hb : SMs X E body b) (hs : ∀ x, foldedSetIterable e X.env x = pure x := by intro _; rfl) : SM X E (.For tg e body [] pos) (mFor it g b) :=
  ⟨(ps_for hp hc hi.pi hg.pg hb.ps hs).weak fun s H D0 ⟨p, l, S, R, L, h⟩ => by
    refine ⟨p, l, S, R, L, (Post.bind (r := it l S) h).mono fun j S1 p1 H1 _ x1 R1 q I hI => ?_⟩
    obtain ⟨n, hn, _⟩ := runI_ex (Post.ne q)
    rw [show fLoop j g b 0 l S1 = _ from hn.symm] at q
    refine ⟨fun k m s H => ∃ p l S, Real X.K p S H ∧ Sl X.K p S.length H l s ∧ JRel X.K p S.length H j I ∧ Post X.K E S.length p H (iter (fStep j g b) m (k, l, S)) (QF X.K D0), ⟨n, p1, l, S1, R1, L.ext x1, hI, q⟩, ?_⟩
    rintro k m s H ⟨p, l, S, R, L, hI, h⟩
    cases m with
    | zero => exact h.elim
    | succ m =>
      simp only [iter, fStep] at h
      cases e1 : itGo j k S with
      | none => rw [e1] at h; exact h.elim
      | some o =>
        cases o with
        | none => rw [e1] at h; exact .inl ⟨it_stop R hI e1, Post.nx h R L⟩
        | some d =>
          obtain ⟨g1, g2⟩ := it_go R hI e1
          rw [e1] at h
          simp only [] at h
          refine .inr ⟨g1, fun s H => ∃ p l S, Real X.K p S H ∧ Sl X.K p S.length H l s ∧ JRel X.K p S.length H j I ∧ Post X.K E S.length p H (iter (fStep j g b) m (k + 1, l, S)) (QF X.K D0), fun s' H' w => ⟨m, Nat.lt_succ_self m, w⟩, fun x H' y => ?_⟩
          obtain ⟨x2, R2, r2⟩ := g2 x H' y
          refine ⟨p, l, S, d, R2, L.ext x2, r2, ?_⟩
          have h2 := Post.ext h x2
          cases e2 : g d l S with
          | bad => rw [e2] at h2; exact h2
          | exc c fs l1 S1 => rw [e2] at h2; exact h2
          | ok l1 S3 =>
            rw [e2] at h2
            simp only [] at h2
            intro p3 H3 x3 R3 s3 L3
            refine ⟨p3, l1, S3, R3, L3, turn_post (Post.ext h2 x3) fun l2 S4 p4 H4 s4 x4 R4 L4 h4 => ⟨p4, l2, S4, R4, L4, hI.ext (x2.trans (x3.trans x4)), h4⟩⟩⟩
end
end Ly
set_option Elab.async false
set_option linter.all false
set_option maxRecDepth 100000
namespace Ly
open PySem PySem.Spec L2
open PyProof.Rows hiding St
def wipeL (l : Ls) : List Nat → Ls
  | [] => l
  | v :: vs => (wipeL l vs).set v none
theorem Sl.wipe {K : PySem.W.Frag} {p : Nat → Addr} {n : Nat} {H : Hp} {l : Ls} {s : St} (h : Sl K p n H l s) : ∀ vs, Sl K p n H (wipeL l vs) (L2.wipe s vs)
  | [] => h
  | v :: vs => (Sl.wipe h vs).skip v none
abbrev CG := D → Ls → Option Ls
def GOk (K : PySem.W.Frag) (vs : List Nat) (g : TG) (gl : CG) : Prop := ∀ (p : Nat → Addr) (n : Nat) (H : Hp) (d : D) (x : V) (l l1 : Ls) (s : St) (Q : St → Hp → Prop), Sl K p n H l (L2.wipe s vs) → Rep K p n H d x → gl d l = some l1 →
  (∀ s2, L2.wipe s2 vs = L2.wipe s vs → Sl K p n H l1 s2 → Q s2 H) → g x (L2.wipe s vs) H Q
def cN (i : Nat) : CG := fun d l => some (l.set i (some d))
def cT : List Nat → CG := fun is d l => match d with
  | .tup ds => if ds.length = is.length then some ((is.zip ds).foldl (fun l x => l.set x.1 (some x.2)) l) else none
  | .wt ds => if ds.length = is.length then some ((is.zip ds).foldl (fun l x => l.set x.1 (some x.2)) l) else none
  | _ => none
theorem gok_n {K : PySem.W.Frag} {i : Nat} {vs : List Nat} (hv : vs = [i]) : GOk K vs (gName i) (cN i) := by
  subst hv
  intro p n H d x l l1 s Q L r e hq
  cases e
  refine hq _ ?_ (L.set i r)
  simp only [L2.wipe, List.set_set]
def gNames : List Nat → TGs
  | [] => gNil
  | i :: is => gCons (gName i) (gNames is)
theorem wipe_set {s : St} {vs : List Nat} {i : Nat} {o : Option V} (h : i ∈ vs) : L2.wipe (s.set i o) vs = L2.wipe s vs := by
  induction vs with
  | nil => cases h
  | cons v vs ih =>
    simp only [L2.wipe]
    by_cases e : i ∈ vs
    · rw [ih e]
    · have : i = v := by
        rcases List.mem_cons.mp h with h | h
        · exact h
        · exact absurd h e
      subst this
      clear ih h
      have key : ∀ ws : List Nat, i ∉ ws → L2.wipe (s.set i o) ws = (L2.wipe s ws).set i o := by
        intro ws
        induction ws with
        | nil => intro _; rfl
        | cons w ws ih =>
          intro hw
          simp only [L2.wipe]
          rw [ih fun z => hw (List.mem_cons_of_mem _ z), List.set_comm _ _ (fun z => hw (by rw [← z]; exact List.mem_cons_self ..))]
      rw [key vs e, List.set_set]
theorem wipe_wipe {s : St} (vs : List Nat) : L2.wipe (L2.wipe s vs) vs = L2.wipe s vs := by
  have key : ∀ ws : List Nat, (∀ i ∈ ws, i ∈ vs) → L2.wipe (L2.wipe s ws) vs = L2.wipe s vs := by
    intro ws
    induction ws with
    | nil => intro _; rfl
    | cons w ws ih =>
      intro h
      simp only [L2.wipe]
      rw [wipe_set (h w (List.mem_cons_self ..)), ih fun i hi => h i (List.mem_cons_of_mem _ hi)]
  exact key vs fun _ h => h
theorem gnames_ok {K : PySem.W.Frag} {p : Nat → Addr} {n : Nat} {H : Hp} : ∀ (is : List Nat) (ds : List D) (xs : List V) (l : Ls) (s : St) (Q : St → Hp → Prop), Sl K p n H l s → Reps K p n H ds xs → ds.length = is.length →
    (∀ s2, (∀ vs, (∀ i ∈ is, i ∈ vs) → L2.wipe s2 vs = L2.wipe s vs) → Sl K p n H ((is.zip ds).foldl (fun l x => l.set x.1 (some x.2)) l) s2 → Q s2 H) → gNames is xs s H Q
  | [], ds, xs, l, s, Q, L, r, e, hq => by
    cases ds with
    | nil => cases r; exact ⟨rfl, hq s (fun _ _ => rfl) L⟩
    | cons a b => simp at e
  | i :: is, ds, xs, l, s, Q, L, r, e, hq => by
    cases ds with
    | nil => simp at e
    | cons d ds =>
      cases r with
      | cons r0 rs =>
        refine ⟨_, _, rfl, gnames_ok is ds _ (l.set i (some d)) _ Q (L.set i r0) rs (by simpa using e) fun s2 h2 L2' => hq s2 (fun vs hv => ?_) L2'⟩
        rw [h2 vs fun j hj => hv j (List.mem_cons_of_mem _ hj), wipe_set (hv i (List.mem_cons_self ..))]
theorem gok_t {K : PySem.W.Frag} {is vs : List Nat} (hv : ∀ i ∈ is, i ∈ vs) : GOk K vs (gTup K is.length (gNames is)) (cT is) := by
  intro p n H d x l l1 s Q L r e hq
  unfold cT at e
  split at e
  · split at e
    · rename_i hl
      cases e
      cases r with
      | tup t r => exact ⟨_, _, rfl, SqT.of t, by rw [← r.len]; exact hl, gnames_ok is _ _ l _ Q L r hl fun s2 h2 L2' => hq s2 (by rw [h2 vs hv, wipe_wipe]) L2'⟩
    · cases e
  · split at e
    · rename_i hl
      cases e
      cases r with
      | wt t r => exact ⟨_, _, rfl, t.sq, by rw [← r.len]; exact hl, gnames_ok is _ _ l _ Q L r hl fun s2 h2 L2' => hq s2 (by rw [h2 vs hv, wipe_wipe]) L2'⟩
    · cases e
  · cases e
def mYes : MB := fun _ S => .ok true S
def cStep (j : J) (gl : CG) (tt : MB) (te : M) (l : Ls) (n : Nat) (a : Nat × Hs) : Sum (Nat × Hs) (R D) := match itGo j a.1 a.2 with
  | none => .inr .bad
  | some none => .inr (.ok (.ref n) a.2)
  | some (some d) => match gl d l with
    | none => .inr .bad
    | some l1 => match tt l1 a.2 with
      | .ok false S2 => .inl (a.1 + 1, S2)
      | .ok true S2 => (match te l1 S2 with
        | .ok y S3 => (match S3[n]? with
          | some (.lst acc) => if acc.length < sizeLine then .inl (a.1 + 1, S3.set n (.lst (acc ++ [y]))) else .inr .bad
          | _ => .inr .bad)
        | _ => .inr .bad)
      | _ => .inr .bad
noncomputable def cLoop (j : J) (gl : CG) (tt : MB) (te : M) (l : Ls) (n k : Nat) (S : Hs) : R D := runI (cStep j gl tt te l n) (k, S)
noncomputable def mLc (it : MI) (gl : CG) (tt : MB) (te : M) (vs : List Nat) : M := fun l S => (it l S).bind fun j S1 => cLoop j gl tt te (wipeL l vs) S1.length 0 (S1 ++ [.lst []])
theorem cLoop_eq (j : J) (gl : CG) (tt : MB) (te : M) (l : Ls) (n k : Nat) (S : Hs) : cLoop j gl tt te l n k S = match cStep j gl tt te l n (k, S) with
    | .inl a => cLoop j gl tt te l n a.1 a.2
    | .inr r => r := by
  unfold cLoop
  rw [runI_eq]
  cases cStep j gl tt te l n (k, S) <;> rfl
abbrev E00 : St → XK := fun _ => L2.E0
section
variable {X : Cx} {E : St → XK} {elt tg iter : Expr} {ifs : List Expr} {scope : Scope} {own : List (Str × Nat)} {pos : Pos} {it : MI} {g : TG} {gl : CG} {tm : MB} {te : M} {tt : TT}
structure CT (X : Cx) (ifs : List Expr) (tm : MB) : Prop where pts : PTs X ifs (TB X.K E00 tm)
theorem ct_nil : CT X [] mYes := ⟨⟨fun pins s σ H Q I ⟨p, l, S, R, L, h⟩ => pts_nil.run pins s σ H Q I (Post.ok (Q := QB Q) h Ext.refl R)⟩⟩
theorem ct_one {c : Expr} (h : BM X E00 c tm) : CT X [c] tm := ⟨pts_one h.pt⟩
theorem lc_reading {K : PySem.W.Frag} {vs : List Nat} (hgk : GOk K vs g gl) {s : St} {H : Hp} {Q : VK} {p : Nat → Addr} {l : Ls} {S : Hs} {j : J} {I : It} (R : Real K p S H) (L : Sl K p S.length H l s) (hI : JRel K p S.length H j I)
    (h : Post K E S.length p H (cLoop j gl tm te (wipeL l vs) S.length 0 (S ++ [.lst []])) (QD K Q)) : ∀ D0, H D0 = none → ∃ W : Nat → Nat → Hp → Prop, (∃ m, W 0 m (upd H D0 (.lst []))) ∧ ∀ i m H, W i m H →
      (I.stop i H ∧ Q (.ref D0) H) ∨ (I.go i H ∧ ∃ Nx : Hp → Prop, (∀ H', Nx H' → ∃ m', m' < m ∧ W (i + 1) m' H') ∧ ∀ x H', I.yld i H x H' → g x (L2.wipe s vs) H' fun s2 H2 => L2.wipe s2 vs = L2.wipe s vs ∧
        TB K E00 tm s2 H2 fun b H3 => if b = true then T K E00 te s2 H3 fun y H4 => ∃ acc, H4 D0 = some (.lst acc) ∧ acc.length < sizeLine ∧ Nx (upd H4 D0 (.lst (acc ++ [y]))) else Nx H3) := by
  intro D0 hD
  obtain ⟨m0, hm, _⟩ := runI_ex (Post.ne h)
  rw [show cLoop j gl tm te (wipeL l vs) S.length 0 (S ++ [.lst []]) = _ from hm.symm] at h
  have x0 := ext_new (S := S) (pi := p) (u := .lst []) hD
  have R0 := R.new (u := .lst []) (o := .lst []) hD ⟨[], upd_same, .nil⟩
  have e0 : (S ++ [O.lst []]).length = S.length + 1 := by simp
  refine ⟨fun k m H => ∃ q S1, S.length < S1.length ∧ q S.length = D0 ∧ Real K q S1 H ∧ Sl K q S1.length H (wipeL l vs) (L2.wipe s vs) ∧ JRel K q S1.length H j I ∧ Post K E S1.length q H (iter (cStep j gl tm te (wipeL l vs) S.length) m (k, S1)) (QD K Q),
    ⟨m0, piN p S.length D0, S ++ [.lst []], by omega, piN_same, R0, by rw [e0]; exact (L.wipe vs).ext x0, by rw [e0]; exact hI.ext x0, Post.ext h (by rw [e0]; exact x0)⟩, ?_⟩
  rintro k m H1 ⟨q, S1, hn, hq, R1, L1, hI1, h1⟩
  cases m with
  | zero => exact h1.elim
  | succ m =>
    simp only [iter, cStep] at h1
    cases e1 : itGo j k S1 with
    | none => rw [e1] at h1; exact h1.elim
    | some o =>
      cases o with
      | none =>
        rw [e1] at h1
        refine .inl ⟨it_stop R1 hI1 e1, ?_⟩
        have := Post.ok (Q := QD K Q) h1 Ext.refl R1 (.ref (q S.length)) (.ref hn)
        rwa [hq] at this
      | some d =>
        obtain ⟨g1, g2⟩ := it_go R1 hI1 e1
        rw [e1] at h1
        simp only [] at h1
        refine .inr ⟨g1, fun H => ∃ q S1, S.length < S1.length ∧ q S.length = D0 ∧ Real K q S1 H ∧ Sl K q S1.length H (wipeL l vs) (L2.wipe s vs) ∧ JRel K q S1.length H j I ∧ Post K E S1.length q H (iter (cStep j gl tm te (wipeL l vs) S.length) m (k + 1, S1)) (QD K Q),
          fun H' w => ⟨m, Nat.lt_succ_self m, w⟩, fun x H' y => ?_⟩
        obtain ⟨x2, R2, r2⟩ := g2 x H' y
        have h2 := Post.ext h1 x2
        cases e2 : gl d (wipeL l vs) with
        | none => rw [e2] at h2; exact h2.elim
        | some l1 =>
          rw [e2] at h2
          simp only [] at h2
          refine hgk q S1.length H' d x _ l1 s _ (L1.ext x2) r2 e2 fun s2 w2 L2' => ⟨w2, ?_⟩
          refine ⟨q, l1, S1, R2, L2', ?_⟩
          cases e3 : tm l1 S1 with
          | bad => rw [e3] at h2; exact h2.elim
          | exc _ _ _ _ => rw [e3] at h2; exact h2.elim
          | ok b S2 =>
            rw [e3] at h2
            intro q3 H3 x3 R3
            have h3 := Post.ext h2 x3
            cases b with
            | false => exact ⟨q3, S2, Nat.lt_of_lt_of_le hn x3.le, (x3.ag _ hn).trans hq, R3, (L1.ext x2).ext x3, (hI1.ext x2).ext x3, h3⟩
            | true =>
              show T K E00 te s2 H3 _
              refine ⟨q3, l1, S2, R3, L2'.ext x3, ?_⟩
              simp only [] at h3
              cases e4 : te l1 S2 with
              | bad => rw [e4] at h3; exact h3.elim
              | exc _ _ _ _ => rw [e4] at h3; exact h3.elim
              | ok y S3 =>
                rw [e4] at h3
                simp only [] at h3
                intro q4 H4 x4 R4 v r4
                have h4 := Post.ext h3 x4
                have hn4 : S.length < S3.length := Nat.lt_of_lt_of_le hn (Nat.le_trans x3.le x4.le)
                have hq4 : q4 S.length = D0 := (x4.ag _ (Nat.lt_of_lt_of_le hn x3.le)).trans ((x3.ag _ hn).trans hq)
                cases e5 : S3[S.length]? with
                | none => rw [e5] at h4; exact h4.elim
                | some ob =>
                  cases ob with
                  | lst acc =>
                    rw [e5] at h4
                    simp only [] at h4
                    split at h4
                    · rename_i hl
                      obtain ⟨us, h5, r5⟩ := R4.lst e5
                      have xu : ∀ u, Ext S3.length S3.length q4 q4 H4 (upd H4 (q4 S.length) u) := fun u => ext_upd (R4.notup hn4)
                      rw [hq4] at h5
                      refine ⟨us, h5, by rw [← r5.len]; exact hl, q4, S3.set S.length (.lst (acc ++ [y])), by rw [List.length_set]; exact hn4, hq4, ?_, ?_, ?_, ?_⟩
                      · rw [← hq4]
                        exact R4.put hn4 ⟨_, upd_same, (r5.ext (xu _) _ _).append (.cons (r4.ext (xu _) _ _) .nil)⟩
                      · rw [← hq4, List.length_set]; exact (((L1.ext x2).ext x3).ext x4).ext (xu _)
                      · rw [← hq4, List.length_set]; exact (((hI1.ext x2).ext x3).ext x4).ext (xu _)
                      · rw [← hq4, List.length_set]; exact Post.ext h4 (xu _)
                    · exact h4.elim
                  | _ => rw [e5] at h4; exact h4.elim
theorem e_lc (hc : X.calm = true) (hN : X.N.Nodup) (hi : IM X E tg iter it) (ok : BlkOk X.N X.env.scope scope own) (hgk : GOk X.K (own.map (·.2)) g gl)
    (hg : ∀ (s : Shared) (H : Hp) (C : Addr) (cl : List (Str × Addr)) (fp : List Addr), PG (X.blk s H scope (compEnvC scope cl C X.env) fp) tg g)
    (ht : ∀ (s : Shared) (H : Hp) (C : Addr) (cl : List (Str × Addr)) (fp : List Addr), CT (X.blk s H scope (compEnvC scope cl C X.env) fp) ifs tm)
    (he : ∀ (s : Shared) (H : Hp) (C : Addr) (cl : List (Str × Addr)) (fp : List Addr), EM (X.blk s H scope (compEnvC scope cl C X.env) fp) E00 elt te) (hs : ∀ x, foldedSetIterable iter X.env x = pure x := by intro _; rfl) :
    EM X E (.ListComp elt [⟨tg, iter, ifs, 0⟩] scope pos) (mLc it gl tm te (own.map (·.2))) :=
  ⟨(pe_lc hc hN hi.pi ok hg (fun s H C cl fp => (ht s H C cl fp).pts) (fun s H C cl fp => (he s H C cl fp).pe) hs).weak fun s H Q ⟨p, l, S, R, L, h⟩ =>
    ⟨p, l, S, R, L, (Post.bind (r := it l S) h).mono fun j S1 p1 H1 _ x1 R1 q I hI => lc_reading hgk R1 (L.ext x1) hI q⟩⟩
theorem s_setLc {i : Nat} {y : Str} {py spos : Pos} (hc : X.calm = true) (hN : X.N.Nodup) (hsw : swapsWith (.ListComp elt [⟨tg, iter, ifs, 0⟩] scope pos) (some (.Name y py)) spos.line X.env = pure true) (hi : IM X E tg iter it) (ok : BlkOk X.N X.env.scope scope own) (hgk : GOk X.K (own.map (·.2)) g gl)
    (hg : ∀ (s : Shared) (H : Hp) (C : Addr) (cl : List (Str × Addr)) (fp : List Addr), PG (X.blk s H scope (compEnvC scope cl C X.env) fp) tg g)
    (ht : ∀ (s : Shared) (H : Hp) (C : Addr) (cl : List (Str × Addr)) (fp : List Addr), CT (X.blk s H scope (compEnvC scope cl C X.env) fp) ifs tm)
    (he : ∀ (s : Shared) (H : Hp) (C : Addr) (cl : List (Str × Addr)) (fp : List Addr), EM (X.blk s H scope (compEnvC scope cl C X.env) fp) E00 elt te) (hy : X.N[i]? = some y := by rfl) (hl : X.env.scope.names.lookup y = some .local := by rfl) (hs : ∀ x, foldedSetIterable iter X.env x = pure x := by intro _; rfl) :
    SM X E (.Assign [.Name y py] (.ListComp elt [⟨tg, iter, ifs, 0⟩] scope pos) spos) (mSet i (mLc it gl tm te (own.map (·.2)))) :=
  ⟨(ps_setLc hc hN hy hl hsw hi.pi ok hg (fun s H C cl fp => (ht s H C cl fp).pts) (fun s H C cl fp => (he s H C cl fp).pe) hs).weak fun s H D0 ⟨p, l, S, R, L, h⟩ => by
    have h' : Post X.K E S.length p H ((mLc it gl tm te (own.map (·.2)) l S).bind fun d S1 => .ok (.nx (l.set i (some d))) S1) (QF X.K D0) := h
    have h2 : Post X.K E S.length p H (mLc it gl tm te (own.map (·.2)) l S) (QD X.K fun v H' => D0.nx (s.set i (some v)) H') := h'.bind.mono fun d S1 p1 H1 _ x1 R1 q v r => Post.nx q R1 ((L.ext x1).set i r)
    exact ⟨p, l, S, R, L, (Post.bind (r := it l S) h2).mono fun j S1 p1 H1 _ x1 R1 q I hI => lc_reading hgk R1 (L.ext x1) hI q⟩⟩
end
end Ly
set_option Elab.async false
set_option linter.all false
set_option maxRecDepth 100000
namespace Ly
open PySem PySem.Spec L2
open PyProof.Rows hiding St
section
variable {K : PySem.W.Frag} {E : St → XK} {X : Cx} {p : Nat → Addr} {S : Hs} {H : Hp}
end
abbrev MP := Ls → Hs → R (List (D × D))
def dpNil : MP := fun _ S => .ok [] S
def dpCons (f g : M) (h : MP) : MP := fun l S => (f l S).bind fun x S1 => (g l S1).bind fun y S2 => (h l S2).bind fun r S3 => .ok ((x, y) :: r) S3
def keysP : List (D × D) → Option (List (Key × D))
  | [] => some []
  | (x, y) :: r => match x.key, keysP r with
    | some k, some l => some ((k, y) :: l)
    | _, _ => none
def mergeD (kvs : List (Key × D)) (more : List (Key × D)) : List (Key × D) := more.foldl (fun acc kv => setK acc kv.1 kv.2) kvs
def mDisp (h : MP) : M := fun l S => (h l (S ++ [.dic []])).bind fun ps S1 => match keysP ps, S1[S.length]? with
  | some kvs, some (.dic []) => if kvs.length ≤ 15 then .ok (.ref S.length) (S1.set S.length (.dic (mergeD [] kvs))) else .bad
  | _, _ => .bad
structure DP (X : Cx) (E : St → XK) (pos : Pos) (keys : List (Option Expr)) (values : List Expr) (trs : List (TE × TE)) (f : MP) : Prop where
  pps : PPs X pos keys values trs
  rd : ∀ (s : St) (H : Hp) (p : Nat → Addr) (l : Ls) (S : Hs) (Q : List (V × V) → Hp → Prop), Real X.K p S H → Sl X.K p S.length H l s →
    Post X.K E S.length p H (f l S) (fun ps S1 p1 H1 => ∀ ks vs, Reps X.K p1 S1.length H1 (ps.map (·.1)) ks → Reps X.K p1 S1.length H1 (ps.map (·.2)) vs → Q (ks.zip vs) H1) → tPairs trs s H Q
section
variable {X : Cx} {E : St → XK} {pos : Pos} {keys : List (Option Expr)} {values : List Expr} {trs : List (TE × TE)} {f g : M} {h : MP} {k v : Expr}
theorem dp_nil : DP X E pos [] [] [] dpNil := ⟨pps_nil, fun s H p l S Q R L h => Post.ok h Ext.refl R [] [] .nil .nil⟩
theorem dp_cons (hk : EM X E k f) (hv : EM X E v g) (hr : DP X E pos keys values trs h) : DP X E pos (some k :: keys) (v :: values) ((T X.K E f, T X.K E g) :: trs) (dpCons f g h) :=
  ⟨pps_cons hk.pe hv.pe hr.pps, fun s H p l S Q R L q => T.of R L q fun p1 S1 H1 d1 v1 R1 x1 L1 r1 q1 => T.of R1 L1 q1 fun p2 S2 H2 d2 v2 R2 x2 L2 r2 q2 => hr.rd s H2 p2 l S2 _ R2 L2 (q2.bind.mono fun ps S3 p3 H3 _ x3 R3 q3 ks vs rk rv => by
    have := Post.ok q3 Ext.refl R3 (v1 :: ks) (v2 :: vs) (.cons ((r1.ext x2 _ _).ext x3 _ _) rk) (.cons (r2.ext x3 _ _) rv)
    exact this)⟩
theorem keysP_V {K : PySem.W.Frag} {p : Nat → Addr} {n : Nat} {H : Hp} {ps : List (D × D)} {kvs : List (Key × D)} {ks vs : List V} (h : keysP ps = some kvs) (rk : Reps K p n H (ps.map (·.1)) ks) (rv : Reps K p n H (ps.map (·.2)) vs) :
    ∃ ls : List (Key × V), ks.zip vs = ls.map (fun kv => (kV kv.1, kv.2)) ∧ ls.map (·.1) = kvs.map (·.1) ∧ Reps K p n H (kvs.map (·.2)) (ls.map (·.2)) := by
  induction ps generalizing kvs ks vs with
  | nil =>
    cases h; cases rk; cases rv
    exact ⟨[], rfl, rfl, .nil⟩
  | cons a ps ih =>
    obtain ⟨x, y⟩ := a
    simp only [List.map_cons] at rk rv
    cases rk with
    | cons r0 rs =>
    cases rv with
    | @cons _ _ v0 us s0 ss =>
    simp only [keysP] at h
    split at h
    · rename_i k l e1 e2
      cases h
      obtain ⟨ls, h1, h2, h3⟩ := ih e2 rs ss
      exact ⟨(k, v0) :: ls, by simp only [List.zip_cons_cons, List.map_cons, h1, key_V r0 e1], by simp only [List.map_cons, h2], .cons s0 h3⟩
    · cases h
theorem merge_V {K : PySem.W.Frag} {p : Nat → Addr} {n : Nat} {H : Hp} : ∀ (more : List (Key × D)) (ms : List (Key × V)) (kvs : List (Key × D)) (ks : List (Key × V)), ms.map (·.1) = more.map (·.1) → Reps K p n H (more.map (·.2)) (ms.map (·.2)) →
    ks.map (·.1) = kvs.map (·.1) → Reps K p n H (kvs.map (·.2)) (ks.map (·.2)) → (mergeK ks ms).map (·.1) = (mergeD kvs more).map (·.1) ∧ Reps K p n H ((mergeD kvs more).map (·.2)) ((mergeK ks ms).map (·.2))
  | [], ms, kvs, ks, e, _, e2, r2 => by
    cases ms with
    | nil => exact ⟨e2, r2⟩
    | cons a b => cases e
  | a :: more, ms, kvs, ks, e, r, e2, r2 => by
    cases ms with
    | nil => cases e
    | cons b ms =>
      simp only [List.map_cons, List.cons.injEq] at e
      cases r with
      | cons r0 rs =>
        have s := setK_V e2 r2 a.1 r0
        have := merge_V more ms (setK kvs a.1 a.2) (putK ks a.1 b.2) e.2 rs s.1 s.2
        show (mergeK (putK ks b.1 b.2) ms).map _ = _ ∧ Reps K p n H _ ((mergeK (putK ks b.1 b.2) ms).map _)
        rw [e.1]
        exact this
theorem e_disp (hd : DP X E pos keys values trs h) (hall : keys.all (·.isSome) = true := by rfl) (hl : keys.length = values.length := by rfl) (h0 : keys ≠ [] := by simp) (h15 : keys.length ≤ 15 := by decide) : EM X E (.Dict keys values pos) (mDisp h) :=
  ⟨(pe_disp hd.pps hall hl h0 h15).weak fun s H Q ⟨p, l, S, R, L, q⟩ => by
    intro a ha
    have x0 := ext_new (S := S) (pi := p) (u := .dK []) ha
    have R0 := R.new (u := .dK []) (o := .dic []) ha ⟨[], upd_same, rfl, .nil⟩
    have e0 : (S ++ [O.dic []]).length = S.length + 1 := by simp
    refine hd.rd s _ (piN p S.length a) l (S ++ [.dic []]) _ R0 (by rw [e0]; exact L.ext x0) ?_
    have q' := Post.ext q (show Ext S.length (S ++ [O.dic []]).length _ _ _ _ by rw [e0]; exact x0)
    refine Post.mono (Q' := fun (ps : List (D × D)) S1 p1 H1 => ∀ ks vs, Reps X.K p1 S1.length H1 (ps.map (·.1)) ks → Reps X.K p1 S1.length H1 (ps.map (·.2)) vs → _) (Post.bind (r := h l (S ++ [.dic []])) q') fun ps S1 p1 H1 _ x1 R1 q1 ks vs rk rv => ?_
    have hn : S.length < S1.length := Nat.lt_of_lt_of_le (by rw [e0]; exact Nat.lt_succ_self _) x1.le
    have hp : p1 S.length = a := (x1.ag _ (by rw [e0]; exact Nat.lt_succ_self _)).trans piN_same
    split at q1
    · rename_i kvs e1 e2
      split at q1
      · rename_i hlen
        obtain ⟨ls, h1, h2, h3⟩ := keysP_V e1 rk rv
        obtain ⟨zs, z1, z2, z3⟩ := R1.ob _ _ e2
        have : zs = [] := by cases zs with | nil => rfl | cons _ _ => cases z2
        subst this
        rw [hp] at z1
        have hll : ls.length = kvs.length := by simpa using congrArg List.length h2
        refine ⟨z1, ls, h1, by rw [hll]; exact hlen, ?_⟩
        have xu : Ext S1.length S1.length p1 p1 H1 (upd H1 (p1 S.length) (.dK (mergeK [] ls))) := ext_upd (R1.notup hn)
        have m := merge_V (K := X.K) (p := p1) (n := S1.length) (H := upd H1 (p1 S.length) (.dK (mergeK [] ls))) kvs ls [] [] h2 (h3.ext xu _ _) rfl .nil
        have := Post.put q1 R1 hn ⟨_, upd_same, m.1, m.2⟩ (.ref hn)
        rw [hp] at this
        exact this
      · exact q1.elim
    · exact q1.elim⟩
def mGet2 (f g h : M) : M := fun l S => (f l S).bind fun x S1 => if hasTy "dict" x S1 = true then (g l S1).bind fun y S2 => (h l S2).bind fun z S3 => match dGet x y S3 with
  | some (some d) => .ok d S3
  | some none => .ok z S3
  | none => .bad else .bad
theorem isD_V {K : PySem.W.Frag} {p : Nat → Addr} {S : Hs} {H : Hp} {x : D} {v : V} (R : Real K p S H) (r : Rep K p S.length H x v) (h : hasTy "dict" x S = true) : ∃ a, v = .ref a ∧ IsD H a := by
  unfold hasTy at h
  cases r with
  | str x => exact absurd (of_decide_eq_true h) (by decide)
  | int x => exact absurd (of_decide_eq_true h) (by decide)
  | ref hi =>
    simp only at h
    split at h
    · exact absurd (of_decide_eq_true h) (by decide)
    · exact absurd (of_decide_eq_true h) (by decide)
    · rename_i q
      obtain ⟨ks, h1, _⟩ := R.ob _ _ q
      exact ⟨_, rfl, .inl ⟨_, .inl h1⟩⟩
    · rename_i q
      obtain ⟨ks, h1, _⟩ := R.ob _ _ q
      exact ⟨_, rfl, .inr ⟨_, .inl h1⟩⟩
    · cases h
  | _ => cases h
theorem e_get2 {o e e2 : Expr} {apos cpos : Pos} {hh : M} (hu : X.A.units + 1 < cLine) (ho : EM X E o f) (he : EM X E e g) (hf : EM X E e2 hh) (m : M2 X o "get" apos e e2 cpos := by exact ⟨rfl, rfl, rfl, rfl⟩) : EM X E (.Call (.Attribute o "get" apos) [e, e2] [] cpos) (mGet2 f g hh) :=
  ⟨(pe_dget2 hu ho.pe he.pe hf.pe m).weak fun s H Q ⟨p, l, S, R, L, h⟩ => T.of R L h fun p1 S1 H1 d v R1 x1 L1 r1 h1 => by
    split at h1
    · rename_i ht
      obtain ⟨a, rfl, ia⟩ := isD_V R1 r1 ht
      refine ⟨a, rfl, ia, T.of R1 L1 h1 fun p2 S2 H2 d2 v2 R2 x2 L2 r2 h2 => T.of R2 L2 h2 fun p3 S3 H3 d3 v3 R3 x3 L3 r3 h3 => ?_⟩
      split at h3
      · rename_i dd e
        obtain ⟨a', w, e1, gg, m⟩ := dGet_V R3 ((r1.ext x2 _ _).ext x3 _ _) (r2.ext x3 _ _) e
        cases e1
        obtain ⟨z, rfl, rz⟩ := m
        exact ⟨_, gg, h3.val R3 rz⟩
      · rename_i e
        obtain ⟨a', w, e1, gg, m⟩ := dGet_V R3 ((r1.ext x2 _ _).ext x3 _ _) (r2.ext x3 _ _) e
        cases e1
        cases (show w = none from m)
        exact ⟨_, gg, h3.val R3 r3⟩
      · exact h3.elim
    · exact h1.elim⟩
def isDic (x : D) (S : Hs) : Bool := match x with
  | .ref i => match S[i]? with
    | some (.dic _) => true
    | some (.dit _) => true
    | _ => false
  | _ => false
def mAugI (op : D → D → Hs → R D) (f g h : M) : MS := fun l S => (f l S).bind fun x S1 => (g l S1).bind fun y S2 => match dGet x y S2 with
  | some (some z) => (h l S2).bind fun w S3 => (op z w S3).bind fun d S4 => if isDic x S4 = true then (oSet x y d S4).bind fun _ S5 => .ok (.nx l) S5 else .bad
  | _ => .bad
end
end Ly
set_option Elab.async false
set_option linter.all false
set_option maxRecDepth 100000
namespace Ly
open PySem PySem.Spec L2
open PyProof.Rows hiding St
def GV (K : PySem.W.Frag) (mg : Str → Option Value) (x : Str) (d : D) : Prop := ∃ u v, mg x = some u ∧ RelV v u ∧ ∀ p n H, Rep K p n H d v
structure DefAt (K : PySem.W.Frag) (mg : Str → Option Value) (x : Str) (st : Stmt) (ps : List Str) (f : Addr) (fd : FuncData) : Prop where
  F : Fun K x x st f fd
  g : mg x = some (.ref f)
  b : Binds K fd ps []
section
variable {X : Cx} {E : St → XK}
variable {k : Nat}
theorem or_inAll (hr : Room k X.A) : OpR X (compareOp .In) (rInAll X.K) :=
  OpR.or op_in_sign (OpR.or op_in_str (OpR.or op_in_seq (OpR.or (op_inD (by have := hr.un; omega)) (OpR.or (op_inDT (by have := hr.un; omega)) (or_din (hu_of hr))))))
theorem or_notinAll (hr : Room k X.A) : OpR X (compareOp .NotIn) (rNotInAll X.K) :=
  OpR.or op_notIn_sign (OpR.or op_notin_str (OpR.or op_notIn_seq (OpR.or (op_notInD (by have := hr.un; omega)) (OpR.or (op_notInDT (by have := hr.un; omega)) (or_dnotin (hu_of hr))))))
end
theorem or_eqA {X : Cx} {k : Nat} (hr : Room k X.A) : OpR X (compareOp .Eq) (orR rEq (rEqD X.K)) := OpR.or op_eq (op_eqD hr.units)
theorem or_neA {X : Cx} {k : Nat} (hr : Room k X.A) : OpR X (compareOp .NotEq) (orR rNe (rNeD X.K)) := OpR.or op_ne (op_neD hr.units)
theorem or_isnotA {X : Cx} : OpR X (compareOp .IsNot) (orR rNotNA rNotB) := OpR.or op_notN op_notBl
theorem reps_ints {K : PySem.W.Frag} {p : Nat → Addr} {n : Nat} {H : Hp} : ∀ xs : List Int, Reps K p n H (xs.map D.int) (xs.map V.int)
  | [] => .nil
  | x :: xs => .cons (.int x) (reps_ints xs)
def LawTrue (m : MD) : Prop := ∀ (ns : List Int) (x : D) (S : Hs), ns.length ≤ 63 → (∀ z ∈ ns, Builtin.Int.intBits z ≤ 1048576) → S.length ≤ 1 → Wf S → x.low S.length → seqD x S = some (ns.map D.int) → (∀ o ∈ S, o = .rol (ns.map D.int)) → ∃ S', m [x] S = .ok (.bl true) S'
theorem law_end {K : PySem.W.Frag} {m : MD} (hm : LawTrue m) {H : Hp} {a : Addr} {ns : List Int} (hl : ns.length ≤ 63) (hb : ∀ z ∈ ns, Builtin.Int.intBits z ≤ 1048576) (hO : Only H) (hS : SqL K H a (ns.map V.int)) : spM K 1 m [.ref a] H (fun v _ => v = .bl true) fun _ _ _ => False := by
  have fin : ∀ {p : Nat → Addr} {S : Hs} {S' : Hs} {H : Hp} {r : R D}, r = .ok (.bl true) S' → Post K (fun _ _ _ _ => False) S.length p H r (QD K fun v _ => v = .bl true) := fun {p S S' H r} e => by
    subst e
    intro p' H' x R v r
    cases r; rfl
  have h0 : (∃ o, H a = some (.frz o (.lst (ns.map V.int)))) ∨ Wl K a (ns.map V.int) := by
    rcases hS with hS | hS
    · rcases hS with hS | ⟨o, hS⟩
      · rcases hO a with q | ⟨o, xs, q⟩
        · rw [q] at hS; cases hS
        · rw [q] at hS; cases hS
      · exact .inl ⟨o, hS⟩
    · exact .inr hS
  rcases h0 with ⟨o, h0⟩ | h0
  · have R0 : Real K (fun _ => a) [.rol (ns.map D.int)] H := by
      refine ⟨fun i o' e => ?_, fun i j hi hj _ => by simp at hi hj; omega⟩
      cases i with
      | zero => simp at e; subst e; exact ⟨o, _, h0, reps_ints ns⟩
      | succ i => simp at e
    obtain ⟨S', e⟩ := hm ns (.ref 0) [.rol (ns.map D.int)] hl hb (by simp) R0.wf (by simp [D.low]) rfl (by simp)
    exact ⟨fun _ => a, [.rol (ns.map D.int)], [.ref 0], R0, .cons (.ref (by simp)) .nil, rfl, fin e⟩
  · have R0 : Real K (fun _ => a) [] H := ⟨fun i o' e => by simp at e, fun i j hi hj _ => by simp at hi⟩
    have r0 : Rep K (fun _ => a) 0 H (.wl (ns.map D.int)) (.ref a) := .wl h0 (reps_ints ns)
    obtain ⟨S', e⟩ := hm ns (.wl (ns.map D.int)) [] hl hb (by simp) R0.wf (r0.low) rfl (by simp)
    exact ⟨fun _ => a, [], [.wl (ns.map D.int)], R0, .cons r0 .nil, rfl, fin e⟩
theorem law_noexc {P : Program} {w : World} {l : List Env} {H : Hp} {s : Shared} {e : Value} {s' : Shared} (h : L2.CX P w l H s (fun _ _ _ => False) e s') : False := by
  obtain ⟨_, _, _, _, _, _, _, _, _, _, _, _, z⟩ := h
  exact z
end Ly
set_option Elab.async false
set_option linter.all false
set_option maxRecDepth 100000
namespace Ly
open PySem PySem.Spec L2
open PyProof.Rows hiding St
section
variable {X : Cx} {E : St → XK} {a b c : Expr} {f g h : M} {pos : Pos} {r r' : R2} {op op' : D → D → Hs → R D} {o o' : CmpOp}
end
section
variable {X : Cx} {E : St → XK} {e v1 v2 : Expr} {es rest : List Expr} {f f1 f2 : M} {fs : List M} {pos : Pos}
inductive JM (X : Cx) (E : St → XK) : List Expr → List M → Prop
  | nil : JM X E [] []
  | cons {e : Expr} {f : M} {es : List Expr} {fs : List M} (h : EM X E e f) (r : JM X E es fs) : JM X E (e :: es) (f :: fs)
end
def KV (K : PySem.W.Frag) (u : Value) (d : D) : Prop := ∃ v, RelV v u ∧ ∀ p n H, Rep K p n H d v
def KD (K : PySem.W.Frag) (w : World) (mg : Str → Option Value) (x : Str) (tbl : List (Str × D)) : Prop :=
  ∃ a es n, mg x = some (.ref a) ∧ KDict K w a es n ∧ ∀ z, match tbl.lookup z with
    | some d => ∃ u, PySem.W.nsIn K a z = some (some u) ∧ KV K u d
    | none => PySem.W.nsIn K a z = some none
inductive KVs (K : PySem.W.Frag) : List Value → List (Str × D) → Prop
  | nil : KVs K [] []
  | cons {u : Value} {x : Str} {d : D} {us : List Value} {r : List (Str × D)} (h : KV K u d) (t : KVs K us r) : KVs K (u :: us) ((x, d) :: r)
theorem kd_find {K : PySem.W.Frag} {P : Params} (z : Str) : ∀ {es : List DictEntry} {tbl : List (Str × D)}, es.map He.keyOf = He.keysIn P (tbl.map (·.1)) → KVs K (es.map (·.val)) tbl →
    (es.any (·.refKey)) = false ∧ match tbl.lookup z with
      | some d => ∃ e, es.find? (·.key.isStr z) = some e ∧ KV K e.val d
      | none => es.find? (·.key.isStr z) = none
  | [], [], _, _ => ⟨rfl, rfl⟩
  | [], _ :: _, h, _ => by cases h
  | _ :: _, [], h, _ => by cases h
  | e :: es, (x, d) :: tbl, h, k => by
    cases k with
    | cons hv ks =>
      have h1 : He.keyOf e :: es.map He.keyOf = some (x, PyData.keyHash P x) :: He.keysIn P (tbl.map (·.1)) := h
      injection h1 with h2 h3
      obtain ⟨q1, q2⟩ := kd_find (P := P) z h3 ks
      unfold He.keyOf at h2
      split at h2
      · rename_i y t hy
        have h4 := Option.some.inj h2
        obtain ⟨rfl, h6⟩ := Prod.mk.inj h4
        refine ⟨by rw [List.any_cons, q1, show e.refKey = false by simp [DictEntry.refKey, hy]]; rfl, ?_⟩
        · by_cases hz : z = y
          · subst hz
            have e1 : (e.key.isStr z) = true := by rw [hy]; simp [Value.isStr]
            simp only [List.lookup, beq_self_eq_true, List.find?_cons, e1]
            exact ⟨e, rfl, hv⟩
          · have e1 : (e.key.isStr z) = false := by rw [hy]; simp [Value.isStr]; exact fun hh => hz hh.symm
            have e2 : (z == y) = false := by simpa using hz
            simp only [List.lookup, e2, List.find?_cons, e1]
            exact q2
      · cases h2
theorem kd_mk {K : PySem.W.Frag} {w : World} {mg : Str → Option Value} {x : Str} {a : Addr} {es : Array DictEntry} {n : Nat} {tbl : List (Str × D)} (g : mg x = some (.ref a)) (l : K.lookup a = some ⟨.type "dict", none, .dict es n, #[]⟩) (low : (a == sysModules) = false)
    (t : es.toList.map He.keyOf = He.keysIn w.params (tbl.map (·.1))) (vs : KVs K (es.toList.map (·.val)) tbl) : KD K w mg x tbl := by
  refine ⟨a, es, n, g, ⟨l, He.keysLit_of t, low⟩, fun z => ?_⟩
  obtain ⟨q1, q2⟩ := kd_find (P := w.params) z t vs
  cases e : tbl.lookup z with
  | some d =>
    rw [e] at q2
    obtain ⟨en, h1, h2⟩ := q2
    refine ⟨en.val, ?_, h2⟩
    unfold PySem.W.nsIn
    rw [l]
    simp only [h1]
  | none =>
    rw [e] at q2
    show PySem.W.nsIn K a z = some none
    unfold PySem.W.nsIn
    rw [l]
    simp only [show es.toList.find? (·.key.isStr z) = none from q2, q1]
    rfl
def flatC : D → Option V
  | .int i => some (.int i)
  | .str x => some (.str x)
  | _ => none
theorem kv_flat {K : PySem.W.Frag} {u : Value} {d : D} {v : V} (h : flatC d = some v) (e : absV u = some v) : KV K u d := by
  cases d <;> simp only [flatC] at h <;> try cases h
  · cases u <;> first | (simp only [absV] at e; cases e; exact ⟨.int _, ⟨_, rfl⟩, fun _ _ _ => .int _⟩) | cases e
  · cases u <;> first | (simp only [absV] at e; cases e; exact ⟨.str _, ⟨_, rfl⟩, fun _ _ _ => .str _⟩) | cases e
theorem kvs_flat {K : PySem.W.Frag} : ∀ {es : List DictEntry} {tbl : List (Str × D)}, es.map (fun e => absV e.val) = tbl.map (fun q => flatC q.2) → (tbl.all fun q => (flatC q.2).isSome) = true → KVs K (es.map (·.val)) tbl
  | [], [], _, _ => .nil
  | [], _ :: _, h, _ => by cases h
  | _ :: _, [], h, _ => by cases h
  | e :: es, (x, d) :: tbl, h, k => by
    simp only [List.map_cons, List.cons.injEq] at h
    simp only [List.all_cons, Bool.and_eq_true] at k
    cases q : flatC d with
    | none => rw [q] at k; simp at k
    | some v => exact .cons (kv_flat q (h.1.trans q)) (kvs_flat h.2 k.2)
def mIxK (tbl : List (Str × D)) (f : M) : M := fun l S => (f l S).bind fun x S1 => match x with
  | .str z => match tbl.lookup z with
    | some d => .ok d S1
    | none => .bad
  | _ => .bad
def mInK (tbl : List (Str × D)) (f : M) : M := fun l S => (f l S).bind fun x S1 => match x with
  | .str z => .ok (.bl (tbl.lookup z).isSome) S1
  | _ => .bad
def mNotInK (tbl : List (Str × D)) (f : M) : M := fun l S => (f l S).bind fun x S1 => match x with
  | .str z => .ok (.bl (!(tbl.lookup z).isSome)) S1
  | _ => .bad
def mInKB (tbl : List (Str × D)) (f : M) : MB := fun l S => (f l S).bind fun x S1 => match x with
  | .str z => .ok (tbl.lookup z).isSome S1
  | _ => .bad
def mNotInKB (tbl : List (Str × D)) (f : M) : MB := fun l S => (f l S).bind fun x S1 => match x with
  | .str z => .ok (!(tbl.lookup z).isSome) S1
  | _ => .bad
section
variable {X : Cx} {E : St → XK} {a : Expr} {f : M} {pos p2 : Pos} {x : Str} {tbl : List (Str × D)}
theorem e_ixK (g : KD X.K X.w X.mg x tbl) (ha : EM X E a f) (hg : Gl X x := by rfl) (hd : (x == ("__debug__" : Str)) = false := by decide) (hs : PlainIx a := by intro _ _; rfl) : EM X E (.Subscript (.Name x p2) a pos) (mIxK tbl f) := by
  obtain ⟨d, es, n, hm, k, h⟩ := g
  exact ⟨(pe_ix (ix_kdict) (pe_glob hg hm (v := .ref d) rfl hd) ha.pe hs).weak fun s H Q ⟨p, l, S, R, L, h0⟩ => T.of R L h0 fun p1 S1 H1 d1 v R1 x1 L1 r1 h1 => by
    cases r1 with
    | str z =>
      dsimp only at h1
      have hz := h z
      cases e : tbl.lookup z with
      | none => rw [e] at h1; exact h1.elim
      | some dv =>
        rw [e] at h1 hz
        obtain ⟨u, hu, v, ru, rp⟩ := hz
        exact ⟨d, z, v, rfl, rfl, ⟨es, n, u, k.at_, k.lit, hu, ru⟩, h1.val R1 (rp _ _ _)⟩
    | _ => exact h1.elim⟩
def mGetK2 (tbl : List (Str × D)) (f g : M) : M := fun l S => (f l S).bind fun x S1 => match x with
  | .str z => (g l S1).bind fun y S2 => (match tbl.lookup z with
    | some d => .ok d S2
    | none => .ok y S2)
  | _ => .bad
theorem e_getK2 {e e2 : Expr} {fe fe2 : M} {apos cpos : Pos} (g : KD X.K X.w X.mg x tbl) (he : EM X E e fe) (hf : EM X E e2 fe2) (hg : Gl X x := by rfl) (hd : (x == ("__debug__" : Str)) = false := by decide) (m : M2 X (.Name x p2) "get" apos e e2 cpos := by exact ⟨rfl, rfl, rfl, rfl⟩) :
    EM X E (.Call (.Attribute (.Name x p2) "get" apos) [e, e2] [] cpos) (mGetK2 tbl fe fe2) := by
  obtain ⟨a, es, n, hm, k, h⟩ := id g
  refine ⟨⟨fun pins s σ H Q I ⟨p, l, S, R, L, h0⟩ => ?_⟩⟩
  refine wpAny_Call_method m.base m.few m.line PySem.F.plainAttrs_dict PySem.F.slot_dict_get PySem.F.type_dict_get (ld_glob I hg hm ?_ hd)
  have hmap := PySem.W.mapOf_K (prog := X.prog) (w := X.w) I.kIn k.at_ k.lit
  refine ⟨hmap.typeIs, fun b q => ?_, ?_⟩
  · cases q
    exact ⟨_, I.kIn _ _ k.at_, rfl⟩
  · rw [m.trees]
    have hT : T X.K E fe σ H fun x H1 => ∃ z, x = .str z ∧ T X.K E fe2 σ H1 fun y H2 => match tbl.lookup z with
        | some d => ∀ v, (∀ p n H, Rep X.K p n H d v) → Q v H2
        | none => Q y H2 := T.of R L h0 fun p1 S1 H1 d1 v R1 x1 L1 r1 h1 => by
      cases r1 with
      | str z =>
        refine ⟨z, rfl, T.of R1 L1 h1 fun p2 S2 H2 d2 v2 R2 x2 L2 r2 h2 => ?_⟩
        skip
        cases e : tbl.lookup z with
        | some d => rw [e] at h2; exact fun v hv => h2.val R2 (hv _ _ _)
        | none => rw [e] at h2; exact h2.val R2 r2
      | _ => exact h1.elim
    refine Calls.callWith_builtin rfl (Calls.evalArgs_plain (Calls.spliced_cons (thn (he.pe.run pins _ σ H _ (I.tok _) hT) fun iv s2 ⟨x1, H1, I1, rx, z, ez, q1⟩ => Calls.spliced_cons (thn (hf.pe.run pins s2 σ H1 _ I1 q1) fun dv s3 ⟨y1, H2, I2, ry, q2⟩ => Calls.spliced_nil ?_))))
    subst ez
    obtain ⟨t, rfl⟩ := rx
    have hmap2 := PySem.W.mapOf_K (prog := X.prog) (w := X.w) I2.kIn k.at_ k.lit
    refine call_meetsIn PySem.F.slot_dict_get hmap2.typeIs PySem.F.entry_dict_get (PySem.F.args_dict_get_3 _ _ _) (meets_dict_get_default (strKind X.prog X.w) a (strKind_is X.prog X.w z t) k.low dv) ⟨_, hmap2, ?_⟩
    have hz := h z
    cases e : tbl.lookup z with
    | some d =>
      rw [e] at hz q2
      obtain ⟨u, hu, v, ru, rp⟩ := hz
      rw [PySem.W.find_K k.at_ hu]
      exact ⟨v, H2, I2.tok _, ru, q2 v rp⟩
    | none =>
      rw [e] at hz q2
      rw [PySem.W.find_K k.at_ hz]
      exact ⟨y1, H2, I2.tok _, ry, q2⟩
end
end Ly
set_option Elab.async false
set_option linter.all false
set_option maxRecDepth 100000
namespace Ly
open PySem PySem.Spec L2
open PyProof.Rows hiding St
def putD (f : Str) (d : D) : List (Str × D) → List (Str × D)
  | [] => [(f, d)]
  | (g, x) :: r => if g = f then (g, d) :: r else (g, x) :: putD f d r
section
variable {K : PySem.W.Frag} {p : Nat → Addr} {n : Nat} {H : Hp}
theorem fs_some {f : Str} : ∀ {fs : List (Str × D)} {ks : List (Str × V)} {d : D}, ks.map (·.1) = fs.map (·.1) → Reps K p n H (fs.map (·.2)) (ks.map (·.2)) → fs.lookup f = some d → ∃ v, ks.lookup f = some v ∧ Rep K p n H d v
  | [], _, _, _, _, e => by cases e
  | (g, x) :: fs, [], _, h, _, _ => by cases h
  | (g, x) :: fs, (g', y) :: ks, d, h, r, e => by
    simp only [List.map_cons, List.cons.injEq] at h
    cases r with
    | cons r0 rs =>
      have hg : g' = g := h.1
      subst hg
      simp only [List.lookup] at e ⊢
      split at e
      · cases e; exact ⟨y, rfl, r0⟩
      · exact fs_some h.2 rs e
theorem fs_none {f : Str} : ∀ {fs : List (Str × D)} {ks : List (Str × V)}, ks.map (·.1) = fs.map (·.1) → fs.lookup f = none → ks.lookup f = none
  | [], [], _, _ => rfl
  | [], _ :: _, h, _ => by cases h
  | _ :: _, [], h, _ => by cases h
  | (g, x) :: fs, (g', y) :: ks, h, e => by
    simp only [List.map_cons, List.cons.injEq] at h
    have hg : g' = g := h.1
    subst hg
    simp only [List.lookup] at e ⊢
    split at e
    · cases e
    · exact fs_none h.2 e
theorem fs_put {f : Str} {d : D} {v : V} (rv : Rep K p n H d v) : ∀ {fs : List (Str × D)} {ks : List (Str × V)}, ks.map (·.1) = fs.map (·.1) → Reps K p n H (fs.map (·.2)) (ks.map (·.2)) →
    (putF f v ks).map (·.1) = (putD f d fs).map (·.1) ∧ Reps K p n H ((putD f d fs).map (·.2)) ((putF f v ks).map (·.2))
  | [], [], _, _ => ⟨rfl, .cons rv .nil⟩
  | [], _ :: _, h, _ => by cases h
  | _ :: _, [], h, _ => by cases h
  | (g, x) :: fs, (g', y) :: ks, h, r => by
    simp only [List.map_cons, List.cons.injEq] at h
    have hg : g' = g := h.1
    subst hg
    cases r with
    | cons r0 rs =>
      obtain ⟨h1, h2⟩ := fs_put rv h.2 rs
      simp only [putF, putD]
      split
      · exact ⟨by simp [h.2], .cons rv rs⟩
      · exact ⟨by simp [h1], .cons r0 h2⟩
end
def mFld (cs : List Addr) (f : Str) (o : M) : M := fun l S => (o l S).bind fun x S1 => match x with
  | .ref i => match S1[i]? with
    | some (.ins C fs) => if C ∈ cs then (match fs.lookup f with
      | some d => .ok d S1
      | none => .bad) else .bad
    | _ => .bad
  | _ => .bad
def mFldSet (cs : List Addr) (f : Str) (e o : M) : MS := fun l S => (e l S).bind fun d S1 => (o l S1).bind fun x S2 => match x with
  | .ref i => match S2[i]? with
    | some (.ins C fs) => if C ∈ cs ∧ fs.length < 1000 then .ok (.nx l) (S2.set i (.ins C (putD f d fs))) else .bad
    | _ => .bad
  | _ => .bad
def FOk (K : PySem.W.Frag) (cs : List Addr) (f : Str) : Prop := ∀ C ∈ cs, Cls K C ∧ NoAttr K C f
section
variable {X : Cx} {E : St → XK} {e o : Expr} {eo ee : M} {cs : List Addr} {f : Str} {pos pos' : Pos}
theorem e_fld (k : FOk X.K cs f) (ho : EM X E o eo) (hb : attributeBase o f X.env (eval o X.env) = eval o X.env := by rfl) : EM X E (.Attribute o f pos) (mFld cs f eo) :=
  ⟨(pe_fld ho.pe hb).weak fun s H Q ⟨p, l, S, R, L, h⟩ => T.of R L h fun p1 S1 H1 d v R1 x1 L1 r1 h1 => by
    cases r1 with
    | ref hi =>
      dsimp only at h1
      split at h1
      · rename_i C fs q
        split at h1
        · rename_i hC
          split at h1
          · rename_i d e1
            obtain ⟨dx, ks, g1, g2, g3⟩ := R1.ob _ _ q
            obtain ⟨v, g4, g5⟩ := fs_some g2 g3 e1
            exact ⟨_, C, dx, ks, v, rfl, g1, (k C hC).1, (k C hC).2, g4, h1.val R1 g5⟩
          · exact h1.elim
        · exact h1.elim
      · exact h1.elim
    | _ => exact h1.elim⟩
theorem s_fldset (k : FOk X.K cs f) (he : EM X E e ee) (ho : EM X E o eo) (hs : swapsWith e (some (.Attribute o f pos')) pos.line X.env = pure false := by rfl) : SM X E (.Assign [.Attribute o f pos'] e pos) (mFldSet cs f ee eo) :=
  ⟨(ps_fld ho.pe he.pe hs).weak fun s H D0 ⟨p, l, S, R, L, h⟩ => T.of R L h fun p1 S1 H1 d v R1 x1 L1 r1 h1 => T.of R1 L1 h1 fun p2 S2 H2 d2 v2 R2 x2 L2 r2 h2 => by
    cases r2 with
    | ref hi =>
      dsimp only at h2
      split at h2
      · rename_i C fs q
        split at h2
        · rename_i hC
          obtain ⟨dx, ks, g1, g2, g3⟩ := R2.ob _ _ q
          have hlt := Real.lt q
          obtain ⟨k1, k2⟩ := fs_put (f := f) (r1.ext x2 _ _) g2 g3
          have hks : ks.length = fs.length := by have := congrArg List.length g2; simpa using this
          refine ⟨_, C, dx, ks, rfl, g1, (k C hC.1).1, (k C hC.1).2, by rw [hks]; exact hC.2, ?_⟩
          have xu : Ext S2.length S2.length p2 p2 H2 (upd H2 (p2 _) (.ins C dx (putF f v ks))) := ext_upd (R2.notup hlt)
          have R3 := R2.put hlt (o := .ins C (putD f d fs)) (u := .ins C dx (putF f v ks)) ⟨dx, _, upd_same, k1, k2.ext xu _ _⟩
          have L3 := L2.ext xu
          exact Post.ok (Q := QF _ D0) h2 (by rw [List.length_set]; exact xu) R3 s (by rw [List.length_set]; exact L3)
        · exact h2.elim
      · exact h2.elim
    | _ => exact h2.elim⟩
end
def mMake (C : Addr) (md : MD) (g : ML) : M := fun l S => (g l S).bind fun ds S1 => ((md (.ref S1.length :: ds) (S1 ++ [.ins C []])).at l).bind fun d S2 => match d with
  | .non => .ok (.ref S1.length) S2
  | _ => .bad
section
variable {X : Cx} {E0 : XK} {CX : CXT} {e o : Expr} {es : List Expr} {eo : M} {g : ML} {m x : Str} {k np : Nat} {f C : Addr} {fd : FuncData} {ps : List Str} {md : MD} {pos apos p0 : Pos}
theorem make_post {K : PySem.W.Frag} {q : Nat → Addr} {S : Hs} {H : Hp} {s : St} {l : Ls} {ds : List D} {vs : List V} {Q : VK} {C : Addr} (hl : ∀ ds S, ds.length ≠ np → md ds S = .bad) (R : Real K q S H) (L : Sl K q S.length H l s) (r : Reps K q S.length H ds vs)
    (h : Post K (fun _ => E0) S.length q H (((md (.ref S.length :: ds) (S ++ [.ins C []])).at l).bind fun d S2 => match d with
      | .non => .ok (.ref S.length) S2
      | _ => .bad) (QD K Q)) : ∀ a dx, H a = none → H dx = none → dx ≠ a → spM K np md (.ref a :: (vs ++ [])) (upd (upd H dx (.own a)) a (.ins C dx [])) (fun v H2 => v = .non ∧ Q (.ref a) H2) E0 := by
  intro a dx ha hd hne
  have hjunk := R.junk (u := .own a) hd
  have ha2 : upd H dx (.own a) a = none := by rw [upd_ne (Ne.symm hne)]; exact ha
  have R2 : Real K (piN q S.length a) (S ++ [.ins C []]) (upd (upd H dx (.own a)) a (.ins C dx [])) := hjunk.new ha2 ⟨dx, [], upd_same, rfl, .nil⟩
  have x2 : Ext S.length (S.length + 1) q (piN q S.length a) H (upd (upd H dx (.own a)) a (.ins C dx [])) := (ext_junk hd).trans (ext_new ha2)
  have e1 : (S ++ [O.ins C []]).length = S.length + 1 := by simp
  refine ⟨piN q S.length a, S ++ [.ins C []], .ref S.length :: ds, R2, ?_, ?_, ?_⟩
  · rw [List.append_nil, e1]
    refine .cons ?_ (r.ext x2 _ _)
    have h0 : Rep K (piN q S.length a) (S.length + 1) (upd (upd H dx (.own a)) a (.ins C dx [])) (.ref S.length) (.ref (piN q S.length a S.length)) := .ref (Nat.lt_succ_self _)
    rwa [piN_same] at h0
  · apply Classical.byContradiction
    intro hne
    rw [hl _ _ hne] at h
    exact h
  · have L2 := L.ext x2
    rw [e1]
    have h4 := fn_post (E := fun _ => E0) L2 (Post.ext h x2).bind
    refine h4.mono fun d S2 p2 H2 _ x3 R3 q v rv => ?_
    have hle := x3.le
    have hp : p2 S.length = a := (x3.ag _ (Nat.lt_succ_self _)).trans piN_same
    cases rv with
    | non =>
      refine ⟨rfl, Post.ok (Q := QD K Q) q Ext.refl R3 _ ?_⟩
      have h0 : Rep K p2 S2.length H2 (.ref S.length) (.ref (p2 S.length)) := .ref (by omega)
      rwa [hp] at h0
    | _ => exact q.elim
theorem e_make0 (M : Mk X.K C f) (F : FnOk X.prog X.w X.K X.mg X.base CX k f fd ps (spM X.K np md)) (hl : ∀ ds S, ds.length ≠ np → md ds S = .bad) (hr : Room (k + 1) X.A) (hg : Gl X x) (hm : X.mg x = some (.ref C)) (hb : Binds X.K fd ps []) (hx : Passes CX X E0)
    (hdb : (x == ("__debug__" : Str)) = false := by decide) : EM X (fun _ => E0) (.Call (.Name x p0) [] [] pos) (mMake C md lNil) :=
  ⟨(pe_make0 M F hr hg hm hb .nil hx hdb).weak fun s H Q ⟨q, l, S, R, L, h⟩ => make_post hl R L .nil h⟩
end
def mFldAug (cs : List Addr) (f : Str) (op : D → D → Hs → R D) (o e : M) : MS := fun l S => (o l S).bind fun x S1 => match x with
  | .ref i => match S1[i]? with
    | some (.ins C fs) => if C ∈ cs then (match fs.lookup f with
      | some d0 => (e l S1).bind fun d S2 => (op d0 d S2).bind fun z S3 => match S3[i]? with
        | some (.ins C' fs') => if C' = C ∧ fs'.length < 1000 then .ok (.nx l) (S3.set i (.ins C (putD f z fs'))) else .bad
        | _ => .bad
      | none => .bad) else .bad
    | _ => .bad
  | _ => .bad
section
variable {X : Cx} {E : St → XK} {e o : Expr} {eo ee : M} {cs : List Addr} {f : Str} {pos tpos : Pos} {r : R2} {op : D → D → Hs → R D} {ao : Operator}
end
def mMeth (tbl : List (Addr × MD)) (m : Str) (o : M) (g : ML) : M := fun l S => (o l S).bind fun x S1 => match x with
  | .ref i => match S1[i]? with
    | some (.ins C fs) => (match tbl.lookup C with
      | some md => if (fs.lookup m).isNone then (g l S1).bind fun ds S2 => (md (.ref i :: ds) S2).at l else .bad
      | none => .bad)
    | _ => .bad
  | _ => .bad
def MOk (P : Program) (w : World) (K : PySem.W.Frag) (mg : Str → Option Value) (base : Heap) (CX : CXT) (k : Nat) (m : Str) (C : Addr) (md : MD) : Prop := ∃ (np : Nat) (f : Addr) (fd : FuncData) (ps : List Str), Cls K C ∧ Meth K C m f ∧ FnOk P w K mg base CX k f fd ps (spM K np md) ∧ Binds K fd ps [] ∧ ∀ ds S, ds.length ≠ np → md ds S = .bad
section
variable {P : Program} {w : World} {K : PySem.W.Frag} {mg : Str → Option Value} {base : Heap} {CX : CXT} {k : Nat} {m : Str}
inductive MOks (P : Program) (w : World) (K : PySem.W.Frag) (mg : Str → Option Value) (base : Heap) (CX : CXT) (k : Nat) (m : Str) : List (Addr × MD) → Prop
  | one {C : Addr} {md : MD} (h : MOk P w K mg base CX k m C md) : MOks P w K mg base CX k m [(C, md)]
  | cons {C : Addr} {md : MD} {r : List (Addr × MD)} (h : MOk P w K mg base CX k m C md) (t : MOks P w K mg base CX k m r) : MOks P w K mg base CX k m ((C, md) :: r)
theorem MOks.get {tbl : List (Addr × MD)} (h : MOks P w K mg base CX k m tbl) {C : Addr} {md : MD} (e : tbl.lookup C = some md) : MOk P w K mg base CX k m C md := by
  induction h with
  | one h =>
    simp only [List.lookup] at e
    split at e
    · cases e; rename_i q; rw [show C = _ from by simpa using q]; exact h
    · cases e
  | cons h t ih =>
    simp only [List.lookup] at e
    split at e
    · cases e; rename_i q; rw [show C = _ from by simpa using q]; exact h
    · exact ih e
theorem MOks.some {tbl : List (Addr × MD)} (h : MOks P w K mg base CX k m tbl) : ∃ C md, MOk P w K mg base CX k m C md := by
  cases h with
  | one h => exact ⟨_, _, h⟩
  | cons h _ => exact ⟨_, _, h⟩
theorem mok {C f : Addr} {fd : FuncData} {ps : List Str} {np j : Nat} {md : MD} (c : Cls K C) (hm : Meth K C m f) (F : FnOk P w K mg base CX j f fd ps (spM K np md)) (hj : j ≤ k) (hb : Binds K fd ps []) (hl : ∀ ds S, ds.length ≠ np → md ds S = .bad) : MOk P w K mg base CX k m C md :=
  ⟨np, f, fd, ps, c, hm, F.mono hj, hb, hl⟩
structure MetAt (K : PySem.W.Frag) (m qual : Str) (st : Stmt) (ps : List Str) (f : Addr) (fd : FuncData) : Prop where
  F : Fun K m qual st f fd
  b : Binds K fd ps []
end
section
variable {X : Cx} {E0 : XK} {CX : CXT} {e o : Expr} {es : List Expr} {eo : M} {g : ML} {m : Str} {k : Nat} {tbl : List (Addr × MD)} {pos apos : Pos} {pl : Sem Bool}
theorem meth_post {K : PySem.W.Frag} {q : Nat → Addr} {S : Hs} {H : Hp} {s : St} {l : Ls} {Q : VK} (R : Real K q S H) (L : Sl K q S.length H l s) (h : Post K (fun _ => E0) S.length q H (mMeth tbl m eo g l S) (QD K Q)) :
    (∃ C md, tbl.lookup C = some md ∧ T K (fun _ => E0) eo s H fun x H1 => ∃ a dx fs, x = .ref a ∧ H1 a = some (.ins C dx fs) ∧ fs.lookup m = none ∧ TL K (fun _ => E0) g s H1 fun vs H2 => ∃ p S2 ds, Real K p S2 H2 ∧ Reps K p S2.length H2 ds (x :: vs) ∧ Post K (fun _ => E0) S2.length p H2 (md ds S2) (QD K Q)) ∨
      ∀ Q', T K (fun _ => E0) eo s H Q' := by
  cases er : eo l S with
  | exc c fs l2 S2 => exact .inr fun Q' => ⟨q, l, S, R, L, by rw [er]; unfold mMeth at h; rw [er] at h; exact h⟩
  | bad => unfold mMeth at h; rw [er] at h; exact h.elim
  | ok x S1 =>
    have h0 := h
    unfold mMeth at h
    rw [er] at h
    simp only [Ly.R.bind_ok] at h
    split at h
    · rename_i i
      split at h
      · rename_i C fs q1
        split at h
        · rename_i md e1
          split at h
          · rename_i hn
            refine .inl ⟨C, md, e1, q, l, S, R, L, ?_⟩
            rw [er]
            intro p1 H1 x1 R1 v rv
            have h' := Post.ext h x1
            cases rv
            obtain ⟨dx, ks, g1, g2, g3⟩ := R1.ob _ _ q1
            have L1 := L.ext x1
            refine ⟨_, dx, ks, rfl, g1, fs_none g2 (Option.isNone_iff_eq_none.mp hn), TL.of R1 L1 h' fun p2 S2 H2 ds vs R2 x2 L2 r2 h2 => ?_⟩
            have hi := Real.lt q1
            refine ⟨p2, S2, .ref i :: ds, R2, .cons ?_ r2, fn_post (E := fun _ => E0) L2 h2⟩
            have h3 : Rep K p1 S1.length H1 (.ref i) (.ref (p1 i)) := .ref hi
            exact h3.ext x2 _ _
          · exact h.elim
        · exact h.elim
      · exact h.elim
    · exact h.elim
theorem e_meth (hM : MOks X.prog X.w X.K X.mg X.base CX k m tbl) (hr : Room k X.A) (hx : Passes CX X E0) (ho : EM X (fun _ => E0) o eo) (ha : LM X (fun _ => E0) (e :: es) g)
    (hpl : (backTo pos (starEach es X.env)).any (·.1) = false := by rfl) (hst : starEach (e :: es) X.env = (false, eval e X.env) :: starEach es X.env := by rfl)
    (ht : eval (.Call (.Attribute o m apos) (e :: es) [] pos) X.env = (do let ov ← eval o X.env; standAt apos.atName; let (f, first) ← holding [ov] (getMethod ov m pl); callWith pos f first (backTo pos (starEach (e :: es) X.env)) (backToKw pos (keywordEach [] X.env))) := by rfl) :
    EM X (fun _ => E0) (.Call (.Attribute o m apos) (e :: es) [] pos) (mMeth tbl m eo g) := by
  refine ⟨⟨fun pins s σ H Q I ⟨p, l, S, R, L, h⟩ => ?_⟩⟩
  rcases meth_post R L h with ⟨C, md, e1, hT⟩ | hT
  · obtain ⟨np, f, fd, ps, c, hm, F, hb, hl⟩ := hM.get e1
    refine (pe_meth (pl := pl) ho.pe c hm F hr hb .nil hx ha.pa hst hpl ht).run pins s σ H Q I ?_
    obtain ⟨q0, l0, S0, R0, L0, h0⟩ := hT
    refine ⟨q0, l0, S0, R0, L0, h0.mono fun x S1 p1 H1 _ x1 R1 hq v rv => ?_⟩
    obtain ⟨a, dx, fs, rfl, g1, g2, q2, l2, S2, R2, L2, h2⟩ := hq v rv
    refine ⟨a, dx, fs, rfl, g1, g2, q2, l2, S2, R2, L2, h2.mono fun ds S3 p3 H3 _ x3 R3 hq3 vs rvs => ?_⟩
    obtain ⟨p4, S4, ds4, R4, r4, h4⟩ := hq3 vs rvs
    rw [List.append_nil]
    refine ⟨p4, S4, ds4, R4, r4, ?_, h4⟩
    apply Classical.byContradiction
    intro hne
    rw [hl _ _ hne] at h4
    exact h4
  · obtain ⟨C, md, np, f, fd, ps, c, hm, F, hb, hl⟩ := hM.some
    exact (pe_meth (pl := pl) ho.pe c hm F hr hb .nil hx ha.pa hst hpl ht).run pins s σ H Q I (hT _)
end
def spX (K : PySem.W.Frag) (np : Nat) (m : (Nat → Addr) → MD) : Sp := fun vs H Q E => ∀ cA, spM K np (m cA) vs H Q E
theorem law_endX {K : PySem.W.Frag} {m : (Nat → Addr) → MD} (hm : ∀ cA, LawTrue (m cA)) {H : Hp} {a : Addr} {ns : List Int} (hl : ns.length ≤ 63) (hb : ∀ z ∈ ns, Builtin.Int.intBits z ≤ 1048576) (hO : Only H) (hS : SqL K H a (ns.map V.int)) : spX K 1 m [.ref a] H (fun v _ => v = .bl true) fun _ _ _ => False :=
  fun cA => law_end (hm cA) hl hb hO hS
end Ly
set_option Elab.async false
set_option linter.all false
set_option maxRecDepth 100000
namespace Ly
open PySem PySem.Spec L2
open PyProof.Rows hiding St
def dcStep (j : J) (gl : CG) (tt : MB) (tk tv : M) (l : Ls) (n : Nat) (a : Nat × Hs) : Sum (Nat × Hs) (R D) := match itGo j a.1 a.2 with
  | none => .inr .bad
  | some none => .inr (.ok (.ref n) a.2)
  | some (some d) => match gl d l with
    | none => .inr .bad
    | some l1 => match tt l1 a.2 with
      | .ok false S2 => .inl (a.1 + 1, S2)
      | .ok true S2 => (match tk l1 S2 with
        | .ok y S3 => (match tv l1 S3 with
          | .ok z S4 => (match S4[n]?, y.key with
            | some (.dic acc), some k => if acc.length < sizeLine then .inl (a.1 + 1, S4.set n (.dic (setK acc k z))) else .inr .bad
            | _, _ => .inr .bad)
          | _ => .inr .bad)
        | _ => .inr .bad)
      | _ => .inr .bad
noncomputable def dcLoop (j : J) (gl : CG) (tt : MB) (tk tv : M) (l : Ls) (n k : Nat) (S : Hs) : R D := runI (dcStep j gl tt tk tv l n) (k, S)
noncomputable def mDc (it : MI) (gl : CG) (tt : MB) (tk tv : M) (vs : List Nat) : M := fun l S => (it l S).bind fun j S1 => dcLoop j gl tt tk tv (wipeL l vs) S1.length 0 (S1 ++ [.dic []])
theorem dcLoop_eq (j : J) (gl : CG) (tt : MB) (tk tv : M) (l : Ls) (n k : Nat) (S : Hs) : dcLoop j gl tt tk tv l n k S = match dcStep j gl tt tk tv l n (k, S) with
    | .inl a => dcLoop j gl tt tk tv l n a.1 a.2
    | .inr r => r := by
  unfold dcLoop
  rw [runI_eq]
  cases dcStep j gl tt tk tv l n (k, S) <;> rfl
section
variable {X : Cx} {E : St → XK} {kx vx tg iter : Expr} {ifs : List Expr} {scope : Scope} {own : List (Str × Nat)} {pos : Pos} {it : MI} {g : TG} {gl : CG} {tm : MB} {tk tv : M} {tt : TT}
theorem dc_reading {K : PySem.W.Frag} {vs : List Nat} (hgk : GOk K vs g gl) {s : St} {H : Hp} {Q : VK} {p : Nat → Addr} {l : Ls} {S : Hs} {j : J} {I : It} (R : Real K p S H) (L : Sl K p S.length H l s) (hI : JRel K p S.length H j I)
    (h : Post K E S.length p H (dcLoop j gl tm tk tv (wipeL l vs) S.length 0 (S ++ [.dic []])) (QD K Q)) : ∀ D0, H D0 = none → ∃ W : Nat → Nat → Hp → Prop, (∃ m, W 0 m (upd H D0 (.dK []))) ∧ ∀ i m H, W i m H →
      (I.stop i H ∧ Q (.ref D0) H) ∨ (I.go i H ∧ ∃ Nx : Hp → Prop, (∀ H', Nx H' → ∃ m', m' < m ∧ W (i + 1) m' H') ∧ ∀ x H', I.yld i H x H' → g x (L2.wipe s vs) H' fun s2 H2 => L2.wipe s2 vs = L2.wipe s vs ∧
        TB K E00 tm s2 H2 fun b H3 => if b = true then T K E00 tk s2 H3 fun y H4 => T K E00 tv s2 H4 fun z H5 => ∃ kvs k, y = kV k ∧ H5 D0 = some (.dK kvs) ∧ kvs.length < sizeLine ∧ Nx (upd H5 D0 (.dK (putK kvs k z))) else Nx H3) := by
  intro D0 hD
  obtain ⟨m0, hm, _⟩ := runI_ex (Post.ne h)
  rw [show dcLoop j gl tm tk tv (wipeL l vs) S.length 0 (S ++ [.dic []]) = _ from hm.symm] at h
  have x0 := ext_new (S := S) (pi := p) (u := .dK []) hD
  have R0 := R.new (u := .dK []) (o := .dic []) hD ⟨[], upd_same, rfl, .nil⟩
  have e0 : (S ++ [O.dic []]).length = S.length + 1 := by simp
  refine ⟨fun k m H => ∃ q S1, S.length < S1.length ∧ q S.length = D0 ∧ Real K q S1 H ∧ Sl K q S1.length H (wipeL l vs) (L2.wipe s vs) ∧ JRel K q S1.length H j I ∧ Post K E S1.length q H (iter (dcStep j gl tm tk tv (wipeL l vs) S.length) m (k, S1)) (QD K Q),
    ⟨m0, piN p S.length D0, S ++ [.dic []], by omega, piN_same, R0, by rw [e0]; exact (L.wipe vs).ext x0, by rw [e0]; exact hI.ext x0, Post.ext h (by rw [e0]; exact x0)⟩, ?_⟩
  rintro k m H1 ⟨q, S1, hn, hq, R1, L1, hI1, h1⟩
  cases m with
  | zero => exact h1.elim
  | succ m =>
    simp only [iter, dcStep] at h1
    cases e1 : itGo j k S1 with
    | none => rw [e1] at h1; exact h1.elim
    | some o =>
      cases o with
      | none =>
        rw [e1] at h1
        refine .inl ⟨it_stop R1 hI1 e1, ?_⟩
        have := Post.ok (Q := QD K Q) h1 Ext.refl R1 (.ref (q S.length)) (.ref hn)
        rwa [hq] at this
      | some d =>
        obtain ⟨g1, g2⟩ := it_go R1 hI1 e1
        rw [e1] at h1
        simp only [] at h1
        refine .inr ⟨g1, fun H => ∃ q S1, S.length < S1.length ∧ q S.length = D0 ∧ Real K q S1 H ∧ Sl K q S1.length H (wipeL l vs) (L2.wipe s vs) ∧ JRel K q S1.length H j I ∧ Post K E S1.length q H (iter (dcStep j gl tm tk tv (wipeL l vs) S.length) m (k + 1, S1)) (QD K Q),
          fun H' w => ⟨m, Nat.lt_succ_self m, w⟩, fun x H' y => ?_⟩
        obtain ⟨x2, R2, r2⟩ := g2 x H' y
        have h2 := Post.ext h1 x2
        cases e2 : gl d (wipeL l vs) with
        | none => rw [e2] at h2; exact h2.elim
        | some l1 =>
          rw [e2] at h2
          simp only [] at h2
          refine hgk q S1.length H' d x _ l1 s _ (L1.ext x2) r2 e2 fun s2 w2 L2' => ⟨w2, ?_⟩
          refine ⟨q, l1, S1, R2, L2', ?_⟩
          cases e3 : tm l1 S1 with
          | bad => rw [e3] at h2; exact h2.elim
          | exc _ _ _ _ => rw [e3] at h2; exact h2.elim
          | ok b S2 =>
            rw [e3] at h2
            intro q3 H3 x3 R3
            have h3 := Post.ext h2 x3
            cases b with
            | false => exact ⟨q3, S2, Nat.lt_of_lt_of_le hn x3.le, (x3.ag _ hn).trans hq, R3, (L1.ext x2).ext x3, (hI1.ext x2).ext x3, h3⟩
            | true =>
              show T K E00 tk s2 H3 _
              refine ⟨q3, l1, S2, R3, L2'.ext x3, ?_⟩
              simp only [] at h3
              cases e4 : tk l1 S2 with
              | bad => rw [e4] at h3; exact h3.elim
              | exc _ _ _ _ => rw [e4] at h3; exact h3.elim
              | ok y S3 =>
                rw [e4] at h3
                simp only [] at h3
                intro q4 H4 x4 R4 v r4
                have h4 := Post.ext h3 x4
                show T K E00 tv s2 H4 _
                refine ⟨q4, l1, S3, R4, (L2'.ext x3).ext x4, ?_⟩
                cases e4' : tv l1 S3 with
                | bad => rw [e4'] at h4; exact h4.elim
                | exc _ _ _ _ => rw [e4'] at h4; exact h4.elim
                | ok z S4 =>
                  rw [e4'] at h4
                  simp only [] at h4
                  intro q5 H5 x5 R5 v5 r5
                  have h5 := Post.ext h4 x5
                  have hn4 : S.length < S3.length := Nat.lt_of_lt_of_le hn (Nat.le_trans x3.le x4.le)
                  have hn5 : S.length < S4.length := Nat.lt_of_lt_of_le hn4 x5.le
                  have hq4 : q4 S.length = D0 := (x4.ag _ (Nat.lt_of_lt_of_le hn x3.le)).trans ((x3.ag _ hn).trans hq)
                  have hq5 : q5 S.length = D0 := (x5.ag _ hn4).trans hq4
                  split at h5
                  · rename_i acc k0 e5 ek
                    split at h5
                    · rename_i hl
                      obtain ⟨us, hu1, hu2, hu3⟩ := R5.ob _ _ e5
                      have xu : ∀ u, Ext S4.length S4.length q5 q5 H5 (upd H5 (q5 S.length) u) := fun u => ext_upd (R5.notup hn5)
                      have hlen : us.length = acc.length := by
                        have := congrArg List.length hu2
                        simpa using this
                      rw [hq5] at hu1
                      obtain ⟨g1, g2⟩ := setK_V hu2 hu3 k0 r5
                      refine ⟨us, k0, key_V r4 ek, hu1, by rw [hlen]; exact hl, q5, S4.set S.length (.dic (setK acc k0 z)), by rw [List.length_set]; exact hn5, hq5, ?_, ?_, ?_, ?_⟩
                      · rw [← hq5]
                        exact R5.put hn5 ⟨_, upd_same, g1, g2.ext (xu _) _ _⟩
                      · rw [← hq5, List.length_set]; exact ((((L1.ext x2).ext x3).ext x4).ext x5).ext (xu _)
                      · rw [← hq5, List.length_set]; exact ((((hI1.ext x2).ext x3).ext x4).ext x5).ext (xu _)
                      · rw [← hq5, List.length_set]; exact Post.ext h5 (xu _)
                    · exact h5.elim
                  · exact h5.elim
theorem e_dc (hc : X.calm = true) (hN : X.N.Nodup) (hi : IM X E tg iter it) (ok : BlkOk X.N X.env.scope scope own) (hgk : GOk X.K (own.map (·.2)) g gl)
    (hg : ∀ (s : Shared) (H : Hp) (C : Addr) (cl : List (Str × Addr)) (fp : List Addr), PG (X.blk s H scope (compEnvC scope cl C X.env) fp) tg g)
    (ht : ∀ (s : Shared) (H : Hp) (C : Addr) (cl : List (Str × Addr)) (fp : List Addr), CT (X.blk s H scope (compEnvC scope cl C X.env) fp) ifs tm)
    (hk : ∀ (s : Shared) (H : Hp) (C : Addr) (cl : List (Str × Addr)) (fp : List Addr), EM (X.blk s H scope (compEnvC scope cl C X.env) fp) E00 kx tk)
    (he : ∀ (s : Shared) (H : Hp) (C : Addr) (cl : List (Str × Addr)) (fp : List Addr), EM (X.blk s H scope (compEnvC scope cl C X.env) fp) E00 vx tv) (hs : ∀ x, foldedSetIterable iter X.env x = pure x := by intro _; rfl) :
    EM X E (.DictComp kx vx [⟨tg, iter, ifs, 0⟩] scope pos) (mDc it gl tm tk tv (own.map (·.2))) :=
  ⟨(pe_dc hc hN hi.pi ok hg (fun s H C cl fp => (ht s H C cl fp).pts) (fun s H C cl fp => (hk s H C cl fp).pe) (fun s H C cl fp => (he s H C cl fp).pe) hs).weak fun s H Q ⟨p, l, S, R, L, h⟩ =>
    ⟨p, l, S, R, L, (Post.bind (r := it l S) h).mono fun j S1 p1 H1 _ x1 R1 q I hI => dc_reading hgk R1 (L.ext x1) hI q⟩⟩
end
def oSetd (x y z : D) (S : Hs) : R D := match x with
  | .ref i => match S[i]?, y.key with
    | some (.dic kvs), some k => if kvs.length < sizeLine then (match getK kvs k with
      | some d => .ok d S
      | none => .ok z (S.set i (.dic (setK kvs k z)))) else .bad
    | _, _ => .bad
  | _ => .bad
def mSetd (f g h : M) : M := fun l S => (f l S).bind fun x S1 => if hasTy "dict" x S1 = true then (g l S1).bind fun y S2 => (h l S2).bind fun z S3 => oSetd x y z S3 else .bad
def mGet1 (f g : M) : M := fun l S => (f l S).bind fun x S1 => if hasTy "dict" x S1 = true then (g l S1).bind fun y S2 => match dGet x y S2 with
  | some (some d) => .ok d S2
  | some none => .ok .non S2
  | none => .bad else .bad
def dropD (kvs : List (Key × D)) (k : Key) : List (Key × D) := kvs.filter fun kv => decide (kv.1 ≠ k)
def oPop2 (x y z : D) (S : Hs) : R D := match x with
  | .ref i => match S[i]?, y.key with
    | some (.dic kvs), some k => (match getK kvs k with
      | some d => .ok d (S.set i (.dic (dropD kvs k)))
      | none => .ok z S)
    | _, _ => .bad
  | _ => .bad
def mPop2 (f g h : M) : M := fun l S => (f l S).bind fun x S1 => if hasTy "dict" x S1 = true then (g l S1).bind fun y S2 => (h l S2).bind fun z S3 => oPop2 x y z S3 else .bad
def oDel (x y : D) (S : Hs) : R Unit := match x with
  | .ref i => match S[i]?, y.key with
    | some (.dic kvs), some k => (match getK kvs k with
      | some _ => .ok () (S.set i (.dic (dropD kvs k)))
      | none => .bad)
    | _, _ => .bad
  | _ => .bad
def mDel (f g : M) : MS := fun l S => (f l S).bind fun x S1 => (g l S1).bind fun y S2 => (oDel x y S2).bind fun _ S3 => .ok (.nx l) S3
section
variable {K : PySem.W.Frag} {p : Nat → Addr} {n : Nat} {H : Hp}
theorem dropD_V {kvs : List (Key × D)} {ks : List (Key × V)} (h : ks.map (·.1) = kvs.map (·.1)) (r : Reps K p n H (kvs.map (·.2)) (ks.map (·.2))) (k : Key) :
    (dropK ks k).map (·.1) = (dropD kvs k).map (·.1) ∧ Reps K p n H ((dropD kvs k).map (·.2)) ((dropK ks k).map (·.2)) := by
  induction kvs generalizing ks with
  | nil => cases ks with | nil => exact ⟨rfl, .nil⟩ | cons a b => cases h
  | cons a kvs ih =>
    cases ks with
    | nil => cases h
    | cons b ks =>
      simp only [List.map_cons, List.cons.injEq] at h
      cases r with
      | cons r0 rs =>
        obtain ⟨e1, e2⟩ := ih h.2 rs
        unfold dropK dropD at *
        simp only [List.filter_cons, h.1]
        split
        · exact ⟨by simp only [List.map_cons, h.1, e1], .cons r0 e2⟩
        · exact ⟨e1, e2⟩
end
section
variable {X : Cx} {E : St → XK} {f g hh : M} {o e e2 : Expr} {apos cpos : Pos}
theorem e_setd (ho : EM X E o f) (he : EM X E e g) (hf : EM X E e2 hh) (m : M2 X o "setdefault" apos e e2 cpos := by exact ⟨rfl, rfl, rfl, rfl⟩) : EM X E (.Call (.Attribute o "setdefault" apos) [e, e2] [] cpos) (mSetd f g hh) :=
  ⟨(pe_dsetd ho.pe he.pe hf.pe m).weak fun s H Q ⟨p, l, S, R, L, h⟩ => T.of R L h fun p1 S1 H1 d v R1 x1 L1 r1 h1 => by
    split at h1
    · rename_i ht
      obtain ⟨a, rfl, ia⟩ := isD_V R1 r1 ht
      refine ⟨a, rfl, ia, T.of R1 L1 h1 fun p2 S2 H2 d2 v2 R2 x2 L2 r2 h2 => T.of R2 L2 h2 fun p3 S3 H3 d3 v3 R3 x3 L3 r3 h3 => ?_⟩
      have rd := (r1.ext x2 _ _).ext x3 _ _
      unfold oSetd at h3
      split at h3
      · rename_i i
        cases rd with
        | ref hi =>
        split at h3
        · rename_i kvs k q ek
          obtain ⟨ks, h4, h5, h6⟩ := R3.ob _ _ q
          split at h3
          · rename_i hl
            have hlen : ks.length = kvs.length := by
              have := congrArg List.length h5
              simpa using this
            have gk := getK_V h5 h6 k
            refine ⟨ks, k, h4, key_V (r2.ext x3 _ _) ek, by rw [hlen]; exact hl, fun v hv => ?_, fun hv => ?_⟩
            · rw [hv] at gk
              split at h3
              · rename_i dd eg
                rw [eg] at gk
                obtain ⟨z, ez, rz⟩ := gk
                cases ez
                exact h3.val R3 rz
              · rename_i eg
                rw [eg] at gk
                cases gk
            · rw [hv] at gk
              split at h3
              · rename_i dd eg
                rw [eg] at gk
                obtain ⟨z, ez, rz⟩ := gk
                cases ez
              · have xu : ∀ u, Ext S3.length S3.length p3 p3 H3 (upd H3 (p3 i) u) := fun u => ext_upd (R3.notup hi)
                obtain ⟨g1, g2⟩ := setK_V h5 h6 k r3
                have R4 := R3.put hi (u := .dK (putK ks k v3)) (o := .dic (setK kvs k d3)) ⟨_, upd_same, g1, g2.ext (xu _) _ _⟩
                refine Post.ok (Q := QD _ Q) h3 (by rw [List.length_set]; exact xu _) R4 _ (by rw [List.length_set]; exact r3.ext (xu _) _ _)
          · exact h3.elim
        · exact h3.elim
      · exact h3.elim
    · exact h1.elim⟩
theorem e_pop2 (ho : EM X E o f) (he : EM X E e g) (hf : EM X E e2 hh) (m : M2 X o "pop" apos e e2 cpos := by exact ⟨rfl, rfl, rfl, rfl⟩) : EM X E (.Call (.Attribute o "pop" apos) [e, e2] [] cpos) (mPop2 f g hh) :=
  ⟨(pe_dpop2 ho.pe he.pe hf.pe m).weak fun s H Q ⟨p, l, S, R, L, h⟩ => T.of R L h fun p1 S1 H1 d v R1 x1 L1 r1 h1 => by
    split at h1
    · rename_i ht
      obtain ⟨a, rfl, ia⟩ := isD_V R1 r1 ht
      refine ⟨a, rfl, ia, T.of R1 L1 h1 fun p2 S2 H2 d2 v2 R2 x2 L2 r2 h2 => T.of R2 L2 h2 fun p3 S3 H3 d3 v3 R3 x3 L3 r3 h3 => ?_⟩
      have rd := (r1.ext x2 _ _).ext x3 _ _
      unfold oPop2 at h3
      split at h3
      · rename_i i
        cases rd with
        | ref hi =>
        split at h3
        · rename_i kvs k q ek
          obtain ⟨ks, h4, h5, h6⟩ := R3.ob _ _ q
          have gk := getK_V h5 h6 k
          refine ⟨ks, k, h4, key_V (r2.ext x3 _ _) ek, fun v hv => ?_, fun hv => ?_⟩
          · rw [hv] at gk
            split at h3
            · rename_i dd eg
              rw [eg] at gk
              obtain ⟨z, ez, rz⟩ := gk
              cases ez
              have xu : ∀ u, Ext S3.length S3.length p3 p3 H3 (upd H3 (p3 i) u) := fun u => ext_upd (R3.notup hi)
              obtain ⟨g1, g2⟩ := dropD_V h5 h6 k
              have R4 := R3.put hi (u := .dK (dropK ks k)) (o := .dic (dropD kvs k)) ⟨_, upd_same, g1, g2.ext (xu _) _ _⟩
              refine Post.ok (Q := QD _ Q) h3 (by rw [List.length_set]; exact xu _) R4 _ (by rw [List.length_set]; exact rz.ext (xu _) _ _)
            · rename_i eg
              rw [eg] at gk
              cases gk
          · rw [hv] at gk
            split at h3
            · rename_i dd eg
              rw [eg] at gk
              obtain ⟨z, ez, rz⟩ := gk
              cases ez
            · exact h3.val R3 r3
        · exact h3.elim
      · exact h3.elim
    · exact h1.elim⟩
end
def rg1 (op : Int → Int → Hs → R D) : List D → Hs → R D := fun ds S => match ds with
  | [.int b] => op 0 b S
  | [.int a, .int b] => op a b S
  | _ => .bad
def mRg1 (op : Int → Int → Hs → R D) (f : M) : M := fun l S => (f l S).bind fun x S1 => rg1 op [x] S1
def mRg2 (op : Int → Int → Hs → R D) (f g : M) : M := fun l S => (f l S).bind fun x S1 => (g l S1).bind fun y S2 => rg1 op [x, y] S2
section
variable {X : Cx} {E : St → XK} {f g : M} {a b : Expr} {p p2 pos pos2 : Pos}
end
section
variable {X : Cx} {E : St → XK} {e : Expr} {f : ML} {p pos : Pos}
end
end Ly
set_option Elab.async false
set_option linter.all false
set_option maxRecDepth 100000
namespace Ly
open PySem PySem.Spec L2
open PyProof.Rows hiding St
def HOk (P : Program) (w : World) (K : PySem.W.Frag) (mg : Str → Option Value) (base : Heap) (CX : CXT) (k : Nat) (f : Addr) (md : MD) : Prop := ∃ (np : Nat) (fd : FuncData) (ps : List Str), FnOk P w K mg base CX k f fd ps (spM K np md) ∧ PySem.W.keepIn K (.ref f) = true ∧ Binds K fd ps [] ∧ ∀ ds S, ds.length ≠ np → md ds S = .bad
section
variable {P : Program} {w : World} {K : PySem.W.Frag} {mg : Str → Option Value} {base : Heap} {CX : CXT} {k : Nat}
inductive HOks (P : Program) (w : World) (K : PySem.W.Frag) (mg : Str → Option Value) (base : Heap) (CX : CXT) (k : Nat) : List (Addr × MD) → Prop
  | nil : HOks P w K mg base CX k []
  | cons {f : Addr} {md : MD} {r : List (Addr × MD)} (h : HOk P w K mg base CX k f md) (t : HOks P w K mg base CX k r) : HOks P w K mg base CX k ((f, md) :: r)
theorem HOks.get {tbl : List (Addr × MD)} (h : HOks P w K mg base CX k tbl) {f : Addr} {md : MD} (e : tbl.lookup f = some md) : HOk P w K mg base CX k f md := by
  induction h with
  | nil => cases e
  | cons h t ih =>
    simp only [List.lookup] at e
    split at e
    · cases e; rename_i q; rw [show f = _ from by simpa using q]; exact h
    · exact ih e
theorem hok {f c : Addr} {fd : FuncData} {ps : List Str} {np j : Nat} {md : MD} (e : c = f) (F : FnOk P w K mg base CX j f fd ps (spM K np md)) (hj : j ≤ k) (hk : PySem.W.keepIn K (.ref f) = true) (hb : Binds K fd ps []) (hl : ∀ ds S, ds.length ≠ np → md ds S = .bad) : HOk P w K mg base CX k c md := by
  subst e
  exact ⟨np, fd, ps, F.mono hj, hk, hb, hl⟩
end
section
variable {X : Cx} {E0 : XK} {CX : CXT} {e : Expr} {es : List Expr} {g : ML} {x : Str} {i k : Nat} {tbl : List (Addr × MD)} {p pos : Pos}
end
end Ly
set_option Elab.async false
set_option linter.all false
set_option maxRecDepth 100000
namespace Ly
open PySem PySem.Spec L2
open PyProof.Rows hiding St
section
variable {X : Cx} {E : St → XK} {e : Expr} {f : M}
end
end Ly
set_option Elab.async false
set_option linter.all false
set_option maxRecDepth 100000
namespace Ly
open PySem PySem.Spec L2
open PyProof.Rows hiding St
structure FnR (P : Program) (w : World) (K : PySem.W.Frag) (mg : Str → Option Value) (base : Heap) (CX : CXT) (Rm : Around → Prop) (f : Addr) (fd : FuncData) (ps : List Str) (sp : Sp) : Prop where
  len : ∀ vs H Q E, sp vs H Q E → vs.length = ps.length
  run : ∀ (A : Around) (outer : List Env) (s : Shared) (H : Hp) (args : Args) (us : List Value) (vs : List V) (Q : VK) (E : XK), Rm A → Env0 P w K mg base A outer s H → BindsTo s fd args (ps.zip us) → Vals vs us → sp vs H Q E →
    codeAny (model P w) A (.call (.ref f) args) (CR CX outer P w H s Q E) s
structure Rn (j n : Nat) (A : Around) : Prop where
  hd : A.handled = none
  dp : A.depth + 3 * j + n + 5 < recursionLimit
  un : A.units + 16 * j + 5 * n + 200 < cLine
theorem Rn.of {j n k : Nat} {A : Around} (r : Room k A) (h : 3 * j + n ≤ 3 * k) : Rn j n A := ⟨r.hd, by have := r.dp; omega, by have := r.un; omega⟩
theorem Rn.deeper {j n : Nat} {A : Around} (r : Rn j (n + 1) A) (env : Env) : Rn j n (A.deeper env) :=
  ⟨r.hd, by have := r.dp; show A.depth + 1 + 3 * j + n + 5 < _; omega, by have := r.un; show A.units + 3 + 16 * j + 5 * n + 200 < _; omega⟩
section
variable {P : Program} {w : World} {K : PySem.W.Frag} {mg : Str → Option Value} {base : Heap} {CX : CXT} {f : Addr} {fd : FuncData} {ps : List Str} {sp : Sp}
theorem FnR.ok {j n k : Nat} (F : FnR P w K mg base CX (Rn j n) f fd ps sp) (h : 3 * j + n ≤ 3 * k) : FnOk P w K mg base CX k f fd ps sp :=
  ⟨F.len, fun A outer s H args us vs Q E hr => F.run A outer s H args us vs Q E (.of hr h)⟩
end
section
variable {X : Cx} {CX : CXT} {Rm : Around → Prop} {f C : Addr} {fd : FuncData} {ps : List Str} {sp : Sp} {E0 : XK} {E : St → XK} {x m : Str} {p pos apos : Pos} {e o : Expr} {es : List Expr} {t : TA} {ta : TE}
variable {eo : M} {g : ML} {C1 : Addr} {md1 : MD} {pl : Sem Bool}
end
section
variable {P : Program} {w : World} {K : PySem.W.Frag} {mg : Str → Option Value} {base : Heap} {Rm : Around → Prop}
end
section
variable {P : Program} {w : World} {K : PySem.W.Frag} {mg : Str → Option Value} {base : Heap} {Rm : Around → Prop} {CX : CXT} {m : Str}
end
end Ly
set_option Elab.async false
set_option linter.all false
set_option maxRecDepth 100000
namespace Ly
open PySem PySem.Spec L2
open PyProof.Rows hiding St
theorem mulok_r {i j : Int} (h : j.natAbs < 2 ^ 64) : IntMulOk i j := .of_right (intBits_le_64 (by omega) (by omega))
theorem kRA : ¬ (("row" : Str) = "at") := by decide +kernel
theorem kRS : ¬ (("row" : Str) = "seed") := by decide +kernel
theorem kAS : ¬ (("at" : Str) = "seed") := by decide +kernel
theorem kSA : ¬ (("seed" : Str) = "at") := by decide +kernel
theorem get_put {S : Hs} {i : Nat} {o u : O} (h : S[i]? = some o) : (S.set i u)[i]? = some u := List.getElem?_set_self (Real.lt h)
def drawsK (r a s : D) : List (Key × D) := [(.inr "row", r), (.inr "at", a), (.inr "seed", s)]
@[simp] theorem drawsK_row (r a s : D) : getK (drawsK r a s) (.inr "row") = some r := by simp [getK, drawsK]
@[simp] theorem drawsK_at (r a s : D) : getK (drawsK r a s) (.inr "at") = some a := by simp [getK, drawsK, kRA]
@[simp] theorem drawsK_seed (r a s : D) : getK (drawsK r a s) (.inr "seed") = some s := by simp [getK, drawsK, kRS, kAS]
@[simp] theorem drawsK_len (r a s : D) : (drawsK r a s).length = 3 := rfl
@[simp] theorem drawsK_set (r a s b : D) : setK (drawsK r a s) (.inr "at") b = drawsK r b s := by simp [setK, drawsK, kRA, kSA]
def drawsO (j : Nat) (a sd : Int) : O := .dic (drawsK (.ref j) (.int a) (.int sd))
structure Drw (S : Hs) (i j : Nat) (row : List Int) (a sd : Int) : Prop where
  d : S[i]? = some (drawsO j a sd)
  r : S[j]? = some (.lst (row.map D.int))
  ne : i ≠ j
  nn : 0 ≤ a
theorem map_int_inj : ∀ {xs ys : List Int}, xs.map D.int = ys.map D.int → xs = ys
  | [], [], _ => rfl
  | [], _ :: _, h => by cases h
  | _ :: _, [], h => by cases h
  | x :: xs, y :: ys, h => by
    simp only [List.map_cons, List.cons.injEq, D.int.injEq] at h
    rw [h.1, map_int_inj h.2]
theorem Drw.same {S : Hs} {i j j' : Nat} {row row' : List Int} {a a' sd sd' : Int} (h : Drw S i j row a sd) (h' : Drw S i j' row' a' sd') : j = j' ∧ row = row' ∧ a = a' ∧ sd = sd' := by
  have e := h.d.symm.trans h'.d
  simp only [drawsO, drawsK, Option.some.injEq, O.dic.injEq, List.cons.injEq, Prod.mk.injEq, D.ref.injEq, D.int.injEq, and_true, true_and] at e
  obtain ⟨rfl, rfl, rfl⟩ := e
  have e := h.r.symm.trans h'.r
  simp only [Option.some.injEq, O.lst.injEq] at e
  exact ⟨rfl, map_int_inj e, rfl, rfl⟩
theorem atI_nat {α : Type} {xs : List α} {i : Int} (h0 : 0 ≤ i) (h1 : i < (xs.length : Int)) : L2.atI xs i = xs[i.toNat]? := by
  unfold L2.atI L2.ixN
  rw [if_pos h0, if_pos h1]; rfl
theorem get_end {S : Hs} {o : O} : (S ++ [o])[S.length]? = some o := by simp
theorem lenD_seq {x : D} {S : Hs} {ds : List D} (h : seqD x S = some ds) : lenD x S = some ds.length := by
  unfold seqD at h
  split at h
  · unfold lenD
    split at h <;> first | (rename_i q; cases h; simp [q]) | cases h
  · cases h; rfl
  · cases h
theorem seqD_more {x : D} {S g : Hs} {ds : List D} (h : seqD x S = some ds) : seqD x (S ++ g) = some ds := by
  unfold seqD at h ⊢
  split at h
  · rename_i i
    split at h
    · rename_i q; rw [List.getElem?_append_left (Real.lt q), q]; exact h
    · rename_i q; rw [List.getElem?_append_left (Real.lt q), q]; exact h
    · cases h
  · exact h
  · cases h
theorem oIx_seq {x : D} {S : Hs} {ds : List D} {i : Int} {d : D} (h : seqD x S = some ds) (h0 : 0 ≤ i) (h1 : i < (ds.length : Int)) (hd : ds[i.toNat]? = some d) : oIx x (.int i) S = .ok d S := by
  have ha : L2.atI ds i = some d := by rw [atI_nat h0 h1]; exact hd
  unfold seqD at h
  split at h
  · split at h <;> first | (rename_i q; cases h; simp [oIx, q, ha]) | cases h
  · cases h; simp [oIx, ha]
  · cases h
theorem line_big {n : Nat} (h : n ≤ 1000000) : n < sizeLine := Nat.lt_of_le_of_lt h (by decide)
theorem pow18 (S : Hs) : oPow (.int 10) (.int 18) S = .ok (.int 1000000000000000000) S := by
  have e : (10 : Int) ^ (18 : Int).toNat = 1000000000000000000 := by decide +kernel
  have h : 0 ≤ (18 : Int) ∧ (18 : Int) ≤ 1000000 ∧ (10 : Int).natAbs < 2 ^ 64 := by decide +kernel
  simp only [oPow]
  rw [if_pos h, e]
theorem rng1 {n : Int} (S : Hs) (h0 : -1000000000 ≤ n) (h1 : n ≤ 1000000000) : oRng1 [.int n] S = .ok (.rng 0 n.toNat) S := by
  have h : -(2 ^ 62) ≤ n ∧ n < 2 ^ 62 := ⟨Int.le_trans (by decide +kernel) h0, Int.lt_of_le_of_lt h1 (by decide +kernel)⟩
  simp only [oRng1]
  rw [if_pos h]
end Ly
set_option Elab.async false
set_option linter.all false
set_option maxRecDepth 100000
namespace Ly
open PySem PySem.Spec L2
open PyProof.Rows hiding St
def tx (cs : List Nat) : Str := ⟨⟨cs⟩⟩
@[simp] theorem tx_len (cs : List Nat) : (tx cs).length = cs.length := rfl
@[simp] theorem tx_list (cs : List Nat) : (tx cs).cps.toList = cs := rfl
theorem tx_inj {a b : List Nat} (h : tx a = tx b) : a = b := congrArg (fun z => z.cps.toList) h
@[simp] theorem tx_eq {a b : List Nat} : (tx a = tx b) = (a = b) := propext ⟨tx_inj, fun h => by rw [h]⟩
mutual
def D.plain : D → Bool
  | .non => true
  | .bl _ => true
  | .int _ => true
  | .str x => PyData.strOk x
  | .tup ds => D.plains ds
  | .wt ds => D.plains ds
  | _ => false
def D.plains : List D → Bool
  | [] => true
  | d :: ds => D.plain d && D.plains ds
end
mutual
def D.toP : D → PyData
  | .non => .none
  | .bl b => .bool b
  | .int i => .int i
  | .str x => .str x
  | .tup ds => .tuple (D.toPs ds)
  | .wt ds => .tuple (D.toPs ds)
  | _ => .none
def D.toPs : List D → List PyData
  | [] => []
  | d :: ds => D.toP d :: D.toPs ds
end
mutual
theorem D.pd_plain (S : Hs) : ∀ (d : D) (k : Nat), d.plain = true → 2 * d.toP.depth < k → D.pd S k d = some d.toP
  | d, 0, _, h => absurd h (Nat.not_lt_zero _)
  | .non, k + 1, _, _ => by rw [D.pd, D.toP]
  | .bl _, k + 1, _, _ => by rw [D.pd, D.toP]
  | .int _, k + 1, _, _ => by rw [D.pd, D.toP]
  | .str _, k + 1, _, _ => by rw [D.pd, D.toP]
  | .tup ds, k + 1, h, hk => by
    rw [D.pd, D.toP, D.pds_plain S ds k (by simpa [D.plain] using h) (by simp [D.toP, PyData.depth] at hk; omega)]; rfl
  | .wt ds, k + 1, h, hk => by
    rw [D.pd, D.toP, D.pds_plain S ds k (by simpa [D.plain] using h) (by simp [D.toP, PyData.depth] at hk; omega)]; rfl
  | .wl _, _ + 1, h, _ => by simp [D.plain] at h
  | .ref _, _ + 1, h, _ => by simp [D.plain] at h
  | .cst _, _ + 1, h, _ => by simp [D.plain] at h
theorem D.pds_plain (S : Hs) : ∀ (ds : List D) (k : Nat), D.plains ds = true → 2 * PyData.depthAll (D.toPs ds) + 1 < k → D.pds S k ds = some (D.toPs ds)
  | [], k, _, _ => by cases k <;> simp [D.pds, D.toPs]
  | d :: ds, 0, _, h => absurd h (Nat.not_lt_zero _)
  | d :: ds, k + 1, h, hk => by
    simp only [D.plains, Bool.and_eq_true] at h
    simp only [D.toPs, PyData.depthAll] at hk
    rw [D.pds, D.pd_plain S d k h.1 (by omega), D.pds_plain S ds (k + 1) h.2 (by omega), D.toPs]
end
mutual
theorem D.lay_plain : ∀ (d : D), d.plain = true → d.toP.canLay0 = true
  | .non, _ => by simp [D.toP, PyData.canLay0]
  | .bl _, _ => by simp [D.toP, PyData.canLay0]
  | .int _, _ => by simp [D.toP, PyData.canLay0]
  | .str x, h => by simpa [D.toP, PyData.canLay0, D.plain] using h
  | .tup ds, h => by
    rw [D.toP, PyData.canLay0]; exact D.lays_plain ds (by simpa [D.plain] using h)
  | .wt ds, h => by
    rw [D.toP, PyData.canLay0]; exact D.lays_plain ds (by simpa [D.plain] using h)
  | .wl _, h => by simp [D.plain] at h
  | .ref _, h => by simp [D.plain] at h
  | .cst _, h => by simp [D.plain] at h
theorem D.lays_plain : ∀ (ds : List D), D.plains ds = true → PyData.canLayAll0 (D.toPs ds) = true
  | [], _ => by simp [D.toPs, PyData.canLayAll0]
  | d :: ds, h => by
    simp only [D.plains, Bool.and_eq_true] at h
    simp [D.toPs, PyData.canLayAll0, D.lay_plain d h.1, D.lays_plain ds h.2]
end
theorem plains_mem : ∀ (xs : List D), D.plains xs = true ↔ ∀ x ∈ xs, D.plain x = true
  | [] => by simp [D.plains]
  | x :: xs => by simp [D.plains, plains_mem xs]
theorem depthAll_mem {n : Nat} : ∀ (xs : List D), (∀ x ∈ xs, x.toP.depth ≤ n) → PyData.depthAll (D.toPs xs) ≤ n
  | [], _ => by simp [D.toPs, PyData.depthAll]
  | x :: xs, h => by
    simp only [D.toPs, PyData.depthAll]
    have h1 := h x (List.mem_cons_self ..)
    have h2 := depthAll_mem xs (fun y m => h y (List.mem_cons_of_mem _ m))
    omega
theorem cEqD_same {x y : D} {S : Hs} {a : PyData} (e : cEqS x y = none) (hx : D.pd S 70 x = some a) (hy : D.pd S 70 y = some a) (hs : SeqAt.shaped a = true) : cEqD x y S = some true := by
  unfold cEqD
  rw [e, hx, hy]
  simp only []
  have h : a.canLay0 = true := by
    simp only [SeqAt.shaped, Bool.and_eq_true] at hs; exact hs.1
  rw [if_pos ⟨hs, hs⟩, PySem.SeqAt.eqv_refl a h]
theorem pd_lst {S : Hs} {i : Nat} {xs : List D} (h : S[i]? = some (.lst xs)) (hp : D.plains xs = true) (hd : PyData.depthAll (D.toPs xs) ≤ 30) : D.pd S 70 (.ref i) = some (.list (D.toPs xs)) ∧ SeqAt.shaped (.list (D.toPs xs)) = true := by
  refine ⟨?_, ?_⟩
  · rw [D.pd, h]
    simp only []
    rw [D.pds_plain S xs 69 hp (by omega)]; rfl
  · show (_ && _) = true
    rw [Bool.and_eq_true]
    refine ⟨by rw [PyData.canLay0]; exact D.lays_plain xs hp, decide_eq_true ?_⟩
    rw [PyData.depth]
    omega
theorem pd_tup {S : Hs} {xs : List D} (hp : D.plains xs = true) (hd : PyData.depthAll (D.toPs xs) ≤ 30) : D.pd S 70 (.tup xs) = some (.tuple (D.toPs xs)) ∧ SeqAt.shaped (.tuple (D.toPs xs)) = true := by
  refine ⟨?_, ?_⟩
  · rw [D.pd, D.pds_plain S xs 69 hp (by omega)]; rfl
  · show (_ && _) = true
    rw [Bool.and_eq_true]
    refine ⟨by rw [PyData.canLay0]; exact D.lays_plain xs hp, decide_eq_true ?_⟩
    rw [PyData.depth]
    omega
end Ly
set_option Elab.async false
set_option linter.all false
set_option maxRecDepth 100000
namespace Ly
open PySem PySem.Spec L2
open PyProof.Rows hiding St
theorem nr {α : Type} {a b : α} (h : a = b) : a = b := h.trans (Eq.refl _)
section
variable {f g h : M} {fl : ML} {fm : MO} {c c2 : MB} {b b2 : MS} {gg : MG} {gs : MGs} {l : Ls} {S : Hs} {i n : Nat} {d : D} {ds : List D} {md : MD} {op2 : D → D → Hs → R D} {op1 : D → Hs → R D} {opn : List D → Hs → R D} {opm : D → List D → Hs → R D} {T : String} {it : MI} {mp : MP} {lo hi : MO}
end
theorem set_same {S : Hs} {i : Nat} {o : O} (h : S[i]? = some o) : S.set i o = S := by
  obtain ⟨hlt, rfl⟩ := List.getElem?_eq_some_iff.mp h
  exact List.set_getElem_self hlt
def DrwA (S : Hs) (i j : Nat) (row : List Int) (sd : Int) : Prop := ∃ a, Drw S i j row a sd
def Upd (i j : Nat) (sd : Int) (S S' : Hs) : Prop := ∃ a g, 0 ≤ a ∧ S' = S.set i (drawsO j a sd) ++ g
section
variable {i j : Nat} {row : List Int} {sd : Int} {S S1 S2 g : Hs}
theorem Upd.refl (h : DrwA S i j row sd) : Upd i j sd S S := by
  obtain ⟨a, h⟩ := h
  exact ⟨a, [], h.nn, by rw [set_same h.d]; simp⟩
theorem Upd.trans (h : DrwA S i j row sd) (u : Upd i j sd S S1) (v : Upd i j sd S1 S2) : Upd i j sd S S2 := by
  obtain ⟨_, h⟩ := h
  obtain ⟨a, g, ha, rfl⟩ := u
  obtain ⟨b, g', hb, rfl⟩ := v
  have hi : i < S.length := Real.lt h.d
  refine ⟨b, g ++ g', hb, ?_⟩
  rw [List.set_append_left _ _ (by simpa using hi), List.set_set, List.append_assoc]
theorem Upd.app (u : Upd i j sd S S1) : Upd i j sd S (S1 ++ g) := by
  obtain ⟨a, g', ha, rfl⟩ := u
  exact ⟨a, g' ++ g, ha, by rw [List.append_assoc]⟩
theorem Upd.new (h : DrwA S i j row sd) : Upd i j sd S (S ++ g) := (Upd.refl h).app
theorem Upd.get (u : Upd i j sd S S1) {k : Nat} {o : O} (h : S[k]? = some o) (hk : k ≠ i) : S1[k]? = some o := by
  obtain ⟨a, g', ha, rfl⟩ := u
  have hl : k < S.length := Real.lt h
  rw [List.getElem?_append_left (by simpa using hl), List.getElem?_set_ne (Ne.symm hk), h]
theorem Upd.le (u : Upd i j sd S S1) : S.length ≤ S1.length := by
  obtain ⟨a, g', ha, rfl⟩ := u
  simp
theorem line_le {n : Nat} (h : n ≤ 1000000) : n ≤ sizeLine := Nat.le_trans h (by decide)
end
theorem oAdd_int {a b : Int} {S : Hs} : oAdd (.int a) (.int b) S = .ok (.int (a + b)) S := nr rfl
theorem oSub_int {a b : Int} {S : Hs} : oSub (.int a) (.int b) S = .ok (.int (a - b)) S := nr rfl
theorem oLt_int {a b : Int} {S : Hs} : oLt (.int a) (.int b) S = .ok (.bl (decide (a < b))) S := nr rfl
theorem oTru_bl {b : Bool} {S : Hs} : oTru (.bl b) S = .ok b S := nr rfl
theorem oEq_int {a b : Int} {S : Hs} : oEq (.int a) (.int b) S = .ok (.bl (decide (a = b))) S := nr rfl
theorem oNe_int {a b : Int} {S : Hs} : oNe (.int a) (.int b) S = .ok (.bl (!decide (a = b))) S := nr rfl
theorem oEq_str {a b : Str} {S : Hs} : oEq (.str a) (.str b) S = .ok (.bl (decide (a = b))) S := nr rfl
theorem oNe_str {a b : Str} {S : Hs} : oNe (.str a) (.str b) S = .ok (.bl (!decide (a = b))) S := nr rfl
theorem of_strs {xs : List Str} {d : D} (h : d ∈ xs.map D.str) : ∃ x ∈ xs, d = .str x := by
  rw [List.mem_map] at h
  obtain ⟨x, h1, h2⟩ := h
  exact ⟨x, h1, h2.symm⟩
end Ly
set_option Elab.async false
set_option linter.all false
set_option maxRecDepth 100000
namespace Ly
open PySem PySem.Spec L2
open PyProof.Rows hiding St
abbrev XP := V → Option (List (Str × D)) → Ls → Hs → Prop
def WpD {α : Type} (X : XP) (r : R α) (Q : α → Hs → Prop) : Prop := match r with
  | .ok a S => Q a S
  | .exc c fs l S => X c fs l S
  | .bad => False
structure Wp {α : Type} (X : XP) (r : R α) (Q : α → Hs → Prop) : Prop where
  un : WpD X r Q
def NoX : XP := fun _ _ _ _ => False
theorem Wp.mono {α : Type} {X X' : XP} {r : R α} {P Q : α → Hs → Prop} (h : Wp X r P) (hx : ∀ c fs l S, X c fs l S → X' c fs l S) (k : ∀ v S, P v S → Q v S) : Wp X' r Q := by
  cases r with
  | ok a S => exact ⟨k a S h.un⟩
  | exc c fs l S => exact ⟨hx c fs l S h.un⟩
  | bad => exact h.un.elim
theorem Wp.call {α : Type} {X : XP} {r : R α} {P Q : α → Hs → Prop} (h : Wp NoX r P) (k : ∀ v S, P v S → Q v S) : Wp X r Q := h.mono (fun _ _ _ _ h => h.elim) k
theorem Wp.ex {α : Type} {r : R α} {P : α → Hs → Prop} (h : Wp NoX r P) : ∃ v S, r = .ok v S ∧ P v S := by
  cases r with
  | ok a S => exact ⟨a, S, rfl, h.un⟩
  | exc c fs l S => exact h.un.elim
  | bad => exact h.un.elim
theorem Wp.of {α : Type} {X : XP} {r : R α} {P : α → Hs → Prop} {v : α} {S : Hs} (e : r = .ok v S) (h : P v S) : Wp X r P := by rw [e]; exact ⟨h⟩
def atX (X : XP) (l : Ls) : XP := fun c fs _ S => X c fs l S
section
variable {α β : Type} {X : XP}
theorem v_ok {a : α} {S : Hs} {Q : α → Hs → Prop} : Wp X (.ok a S) Q = Q a S := propext ⟨fun h => h.un, fun h => ⟨h⟩⟩
theorem v_bad {Q : α → Hs → Prop} : Wp X (.bad) Q = False := propext ⟨fun h => h.un, fun h => h.elim⟩
theorem v_exc {c : V} {fs : Option (List (Str × D))} {l : Ls} {S : Hs} {Q : α → Hs → Prop} : Wp X (.exc c fs l S) Q = X c fs l S := propext ⟨fun h => h.un, fun h => ⟨h⟩⟩
def bdK (X : XP) (k : α → Hs → R β) (Q : β → Hs → Prop) : α → Hs → Prop := fun a S => Wp X (k a S) Q
theorem v_bind {r : R α} {k : α → Hs → R β} {Q : β → Hs → Prop} : Wp X (r.bind k) Q = Wp X r (bdK X k Q) := by cases r <;> simp only [R.bind, v_ok, v_bad, v_exc] <;> rfl
theorem k_bd {k : α → Hs → R β} {Q : β → Hs → Prop} {a : α} {S : Hs} : bdK X k Q a S = Wp X (k a S) Q := nr rfl
theorem v_at {r : R α} {l : Ls} {Q : α → Hs → Prop} : Wp X (r.at l) Q = Wp (atX X l) r Q := by cases r <;> simp only [R.at, v_ok, v_bad, v_exc] <;> rfl
end
section
variable {X : XP} {f g h : M} {fl : ML} {c c2 : MB} {b b2 : MS} {gg : MG} {gs : MGs} {l : Ls} {S : Hs} {i n : Nat} {d x y : D} {ds : List D} {md : MD} {op2 : D → D → Hs → R D} {op1 : D → Hs → R D} {opn : List D → Hs → R D} {opm : D → List D → Hs → R D} {T : String} {it : MI} {lo hi : MO} {t : Bool}
section
variable {Q : D → Hs → Prop}
def biK (X : XP) (op : D → D → Hs → R D) (g : M) (l : Ls) (Q : D → Hs → Prop) : D → Hs → Prop := fun x S => Wp X (g l S) fun y S2 => Wp X (op x y S2) Q
def biK2 (X : XP) (op : D → D → Hs → R D) (x : D) (Q : D → Hs → Prop) : D → Hs → Prop := fun y S => Wp X (op x y S) Q
theorem v_bin : Wp X (mBin op2 f g l S) Q = Wp X (f l S) (biK X op2 g l Q) := by
  unfold mBin; rw [v_bind]; congr 1; funext x S1; unfold bdK biK; simp only [v_bind]; first | rfl | (congr 1; funext _ _; exact v_ok)
theorem k_bi : biK X op2 g l Q x S = Wp X (g l S) (biK2 X op2 x Q) := nr rfl
theorem k_bi2 : biK2 X op2 x Q y S = Wp X (op2 x y S) Q := nr rfl
theorem v_var : Wp X (mVar i l S) Q = match l[i]? with | some (some d) => Q d S | _ => False := by
  unfold mVar; cases l[i]? with
  | none => exact v_bad
  | some o =>
    cases o with
    | none => exact v_bad
    | some d => exact v_ok
theorem v_c : Wp X (mC d l S) Q = Q d S := v_ok
def unK (X : XP) (op : D → Hs → R D) (Q : D → Hs → Prop) : D → Hs → Prop := fun x S => Wp X (op x S) Q
theorem v_un : Wp X (mUn op1 f l S) Q = Wp X (f l S) (unK X op1 Q) := by unfold mUn; rw [v_bind]; first | rfl | (congr 1; funext _ _; exact v_ok)
theorem k_un : unK X op1 Q x S = Wp X (op1 x S) Q := nr rfl
def ifeK (X : XP) (f g : M) (l : Ls) (Q : D → Hs → Prop) : Bool → Hs → Prop := fun t S => if t = true then Wp X (f l S) Q else Wp X (g l S) Q
theorem v_if : Wp X (mIf c f g l S) Q = Wp X (c l S) (ifeK X f g l Q) := by
  unfold mIf; rw [v_bind]; congr 1; funext t S1; unfold bdK ifeK; cases t <;> first | rfl | exact v_bad | exact v_ok
theorem k_ife : ifeK X f g l Q t S = if t = true then Wp X (f l S) Q else Wp X (g l S) Q := nr rfl
def andK (X : XP) (g : M) (l : Ls) (Q : D → Hs → Prop) : D → Hs → Prop := fun x S => Wp X (oTru x S) fun t S1 => if t = true then Wp X (g l S1) Q else Q x S1
def andK2 (X : XP) (x : D) (g : M) (l : Ls) (Q : D → Hs → Prop) : Bool → Hs → Prop := fun t S1 => if t = true then Wp X (g l S1) Q else Q x S1
theorem v_and : Wp X (mAnd f g l S) Q = Wp X (f l S) (andK X g l Q) := by
  unfold mAnd; rw [v_bind]; congr 1; funext x S1; unfold bdK andK; simp only [v_bind]; congr 1; funext t S2; unfold bdK; cases t <;> first | rfl | exact v_bad | exact v_ok
theorem k_and : andK X g l Q x S = Wp X (oTru x S) (andK2 X x g l Q) := nr rfl
theorem k_and2 : andK2 X x g l Q t S = if t = true then Wp X (g l S) Q else Q x S := nr rfl
def orK (X : XP) (g : M) (l : Ls) (Q : D → Hs → Prop) : D → Hs → Prop := fun x S => Wp X (oTru x S) fun t S1 => if t = true then Q x S1 else Wp X (g l S1) Q
def orK2 (X : XP) (x : D) (g : M) (l : Ls) (Q : D → Hs → Prop) : Bool → Hs → Prop := fun t S1 => if t = true then Q x S1 else Wp X (g l S1) Q
theorem v_or : Wp X (mOr f g l S) Q = Wp X (f l S) (orK X g l Q) := by
  unfold mOr; rw [v_bind]; congr 1; funext x S1; unfold bdK orK; simp only [v_bind]; congr 1; funext t S2; unfold bdK; cases t <;> first | rfl | exact v_bad | exact v_ok
theorem k_or : orK X g l Q x S = Wp X (oTru x S) (orK2 X x g l Q) := nr rfl
theorem k_or2 : orK2 X x g l Q t S = if t = true then Q x S else Wp X (g l S) Q := nr rfl
def tupK (Q : D → Hs → Prop) : List D → Hs → Prop := fun ds S => ds.length ≤ sizeLine ∧ Q (.tup ds) S
theorem v_tup : Wp X (mTup fl l S) Q = Wp X (fl l S) (tupK Q) := by
  unfold mTup; rw [v_bind]; congr 1; funext ds S1; unfold bdK tupK; by_cases h : ds.length ≤ sizeLine
  · simp [h, v_ok]
  · simp [h, v_bad]
theorem k_tup : tupK Q ds S = (ds.length ≤ sizeLine ∧ Q (.tup ds) S) := nr rfl
def lstK (Q : D → Hs → Prop) : List D → Hs → Prop := fun ds S => ds.length ≤ sizeLine ∧ Q (.ref S.length) (S ++ [.lst ds])
theorem v_lst : Wp X (mLst fl l S) Q = Wp X (fl l S) (lstK Q) := by
  unfold mLst; rw [v_bind]; congr 1; funext ds S1; unfold bdK lstK; by_cases h : ds.length ≤ sizeLine
  · simp [h, v_ok]
  · simp [h, v_bad]
theorem k_lst : lstK Q ds S = (ds.length ≤ sizeLine ∧ Q (.ref S.length) (S ++ [.lst ds])) := nr rfl
def caK (X : XP) (op : List D → Hs → R D) (Q : D → Hs → Prop) : List D → Hs → Prop := fun ds S => Wp X (op ds S) Q
theorem v_call : Wp X (mCall opn fl l S) Q = Wp X (fl l S) (caK X opn Q) := by unfold mCall; rw [v_bind]; first | rfl | (congr 1; funext _ _; exact v_ok)
theorem k_ca : caK X opn Q ds S = Wp X (opn ds S) Q := nr rfl
def fnK (X : XP) (md : MD) (l : Ls) (Q : D → Hs → Prop) : List D → Hs → Prop := fun ds S => Wp (atX X l) (md ds S) Q
theorem v_fn : Wp X (mFn md fl l S) Q = Wp X (fl l S) (fnK X md l Q) := by
  unfold mFn; rw [v_bind]; congr 1; funext ds S1; unfold bdK fnK; rw [v_at]
theorem k_fn : fnK X md l Q ds S = Wp (atX X l) (md ds S) Q := nr rfl
def bmK (X : XP) (T : String) (op : D → List D → Hs → R D) (fl : ML) (l : Ls) (Q : D → Hs → Prop) : D → Hs → Prop := fun x S => hasTy T x S = true ∧ Wp X (fl l S) fun ds S1 => Wp X (op x ds S1) Q
def bmK2 (X : XP) (op : D → List D → Hs → R D) (x : D) (Q : D → Hs → Prop) : List D → Hs → Prop := fun ds S1 => Wp X (op x ds S1) Q
theorem v_bm : Wp X (mBM T opm f fl l S) Q = Wp X (f l S) (bmK X T opm fl l Q) := by
  unfold mBM; rw [v_bind]; congr 1; funext x S1; unfold bdK bmK
  by_cases h : hasTy T x S1 = true
  · simp only [h, true_and, if_true, v_bind]; rfl
  · simp [h, v_bad]
theorem k_bm : bmK X T opm fl l Q x S = (hasTy T x S = true ∧ Wp X (fl l S) (bmK2 X opm x Q)) := nr rfl
theorem k_bm2 : bmK2 X opm x Q ds S = Wp X (opm x ds S) Q := nr rfl
def slK (X : XP) (lo hi : MO) (l : Ls) (Q : D → Hs → Prop) : D → Hs → Prop := fun x S => Wp X (lo l S) fun a S1 => Wp X (hi l S1) fun b S2 => Wp X (oSl x a b S2) Q
def slK2 (X : XP) (x : D) (hi : MO) (l : Ls) (Q : D → Hs → Prop) : Option Int → Hs → Prop := fun a S1 => Wp X (hi l S1) fun b S2 => Wp X (oSl x a b S2) Q
def slK3 (X : XP) (x : D) (a : Option Int) (Q : D → Hs → Prop) : Option Int → Hs → Prop := fun b S2 => Wp X (oSl x a b S2) Q
theorem v_sl : Wp X (mSl f lo hi l S) Q = Wp X (f l S) (slK X lo hi l Q) := by
  unfold mSl; rw [v_bind]; congr 1; funext x S1; unfold bdK slK; rw [v_bind]; congr 1; funext a S2; unfold bdK; rw [v_bind]; first | rfl | (congr 1; funext _ _; exact v_ok)
theorem k_sl : slK X lo hi l Q x S = Wp X (lo l S) (slK2 X x hi l Q) := nr rfl
variable {oa ob : Option Int}
theorem k_sl2 : slK2 X x hi l Q oa S = Wp X (hi l S) (slK3 X x oa Q) := nr rfl
theorem k_sl3 : slK3 X x oa Q ob S = Wp X (oSl x oa ob S) Q := nr rfl
variable {tbl : List (Str × D)}
def ixkK (tbl : List (Str × D)) (Q : D → Hs → Prop) : D → Hs → Prop := fun x S => match x with
  | .str z => match tbl.lookup z with
    | some d => Q d S
    | none => False
  | _ => False
theorem v_ixK : Wp X (mIxK tbl f l S) Q = Wp X (f l S) (ixkK tbl Q) := by
  unfold mIxK; rw [v_bind]; congr 1; funext x S1; unfold bdK ixkK
  cases x <;> try (first | rfl | exact v_bad | exact v_ok)
  rename_i z
  simp only []
  cases tbl.lookup z <;> first | rfl | exact v_bad | exact v_ok
theorem k_ixk {z : Str} : ixkK tbl Q (.str z) S = match tbl.lookup z with | some d => Q d S | none => False := nr rfl
def inkK (tbl : List (Str × D)) (Q : D → Hs → Prop) : D → Hs → Prop := fun x S => match x with
  | .str z => Q (.bl (tbl.lookup z).isSome) S
  | _ => False
theorem v_inK : Wp X (mInK tbl f l S) Q = Wp X (f l S) (inkK tbl Q) := by
  unfold mInK; rw [v_bind]; congr 1; funext x S1; unfold bdK inkK; cases x <;> first | rfl | exact v_bad | exact v_ok
theorem k_ink {z : Str} : inkK tbl Q (.str z) S = Q (.bl (tbl.lookup z).isSome) S := nr rfl
def ninkK (tbl : List (Str × D)) (Q : D → Hs → Prop) : D → Hs → Prop := fun x S => match x with
  | .str z => Q (.bl (!(tbl.lookup z).isSome)) S
  | _ => False
theorem v_notinK : Wp X (mNotInK tbl f l S) Q = Wp X (f l S) (ninkK tbl Q) := by
  unfold mNotInK; rw [v_bind]; congr 1; funext x S1; unfold bdK ninkK; cases x <;> first | rfl | exact v_bad | exact v_ok
theorem k_nink {z : Str} : ninkK tbl Q (.str z) S = Q (.bl (!(tbl.lookup z).isSome)) S := nr rfl
def gk2K (X : XP) (tbl : List (Str × D)) (g : M) (l : Ls) (Q : D → Hs → Prop) : D → Hs → Prop := fun x S => match x with
  | .str z => Wp X (g l S) fun y S2 => (match tbl.lookup z with | some d => Q d S2 | none => Q y S2)
  | _ => False
theorem v_getK2 : Wp X (mGetK2 tbl f g l S) Q = Wp X (f l S) (gk2K X tbl g l Q) := by
  unfold mGetK2; rw [v_bind]; congr 1; funext x S1; unfold bdK gk2K; cases x <;> try (first | rfl | exact v_bad | exact v_ok)
  rename_i z
  simp only [v_bind]; congr 1; funext y S2; unfold bdK; cases tbl.lookup z <;> first | rfl | exact v_bad | exact v_ok
def gkK (tbl : List (Str × D)) (z : Str) (Q : D → Hs → Prop) : D → Hs → Prop := fun y S2 => match tbl.lookup z with | some d => Q d S2 | none => Q y S2
theorem k_gk2 {z : Str} : gk2K X tbl g l Q (.str z) S = Wp X (g l S) (gkK tbl z Q) := nr rfl
theorem k_gk {z : Str} : gkK tbl z Q y S = match tbl.lookup z with | some d => Q d S | none => Q y S := nr rfl
def g2K (X : XP) (g h : M) (l : Ls) (Q : D → Hs → Prop) : D → Hs → Prop := fun x S => hasTy "dict" x S = true ∧ Wp X (g l S) fun y S2 => Wp X (h l S2) fun z S3 => match dGet x y S3 with
  | some (some d) => Q d S3
  | some none => Q z S3
  | none => False
def g2K2 (X : XP) (x : D) (h : M) (l : Ls) (Q : D → Hs → Prop) : D → Hs → Prop := fun y S2 => Wp X (h l S2) fun z S3 => match dGet x y S3 with
  | some (some d) => Q d S3
  | some none => Q z S3
  | none => False
def g2K3 (x y : D) (Q : D → Hs → Prop) : D → Hs → Prop := fun z S3 => match dGet x y S3 with
  | some (some d) => Q d S3
  | some none => Q z S3
  | none => False
theorem v_get2 : Wp X (mGet2 f g h l S) Q = Wp X (f l S) (g2K X g h l Q) := by
  unfold mGet2; rw [v_bind]; congr 1; funext x S1; unfold bdK g2K
  by_cases hh : hasTy "dict" x S1 = true
  · simp only [hh, true_and, if_true, v_bind]; congr 1; funext y S2; unfold bdK; rw [v_bind]; congr 1; funext z S3; unfold bdK; simp only []
    cases dGet x y S3 with
    | none => first | rfl | exact v_bad | exact v_ok
    | some o => cases o <;> first | rfl | exact v_bad | exact v_ok
  · simp [hh, v_bad]
theorem k_g2 : g2K X g h l Q x S = (hasTy "dict" x S = true ∧ Wp X (g l S) (g2K2 X x h l Q)) := nr rfl
theorem k_g22 : g2K2 X x h l Q y S = Wp X (h l S) (g2K3 x y Q) := nr rfl
theorem k_g23 {z : D} : g2K3 x y Q z S = match dGet x y S with | some (some d) => Q d S | some none => Q z S | none => False := nr rfl
end
section
variable {Q : List D → Hs → Prop}
theorem v_nil : Wp X (lNil l S) Q = Q [] S := v_ok
def coK (X : XP) (fl : ML) (l : Ls) (Q : List D → Hs → Prop) : D → Hs → Prop := fun x S => Wp X (fl l S) fun xs S2 => Q (x :: xs) S2
def coK2 (x : D) (Q : List D → Hs → Prop) : List D → Hs → Prop := fun xs S2 => Q (x :: xs) S2
theorem v_cons : Wp X (lCons f fl l S) Q = Wp X (f l S) (coK X fl l Q) := by
  unfold lCons; rw [v_bind]; congr 1; funext x S1; unfold bdK coK; rw [v_bind]; first | rfl | (congr 1; funext _ _; exact v_ok)
theorem k_co : coK X fl l Q x S = Wp X (fl l S) (coK2 x Q) := nr rfl
theorem k_co2 : coK2 x Q ds S = Q (x :: ds) S := nr rfl
end
section
variable {Q : Option Int → Hs → Prop}
theorem v_no : Wp X (oNo l S) Q = Q none S := v_ok
def soK (Q : Option Int → Hs → Prop) : D → Hs → Prop := fun d S => match d with
  | .int i => Q (some i) S
  | _ => False
theorem v_some : Wp X (oSome f l S) Q = Wp X (f l S) (soK Q) := by
  unfold oSome; rw [v_bind]; congr 1; funext d S1; unfold bdK soK; cases d <;> first | rfl | exact v_bad | exact v_ok
theorem k_so {j : Int} : soK Q (.int j) S = Q (some j) S := nr rfl
end
section
variable {Q : Bool → Hs → Prop}
def cmK (Q : Bool → Hs → Prop) : D → Hs → Prop := fun d S => match d with
  | .bl b => Q b S
  | _ => False
theorem k_cm {b : Bool} : cmK Q (.bl b) S = Q b S := nr rfl
theorem v_cmp : Wp X (mCmp op2 f g l S) Q = Wp X (f l S) (biK X op2 g l (cmK Q)) := by
  unfold mCmp; rw [v_bind]; congr 1; funext x S1; unfold bdK biK; rw [v_bind]; congr 1; funext y S2; unfold bdK; rw [v_bind]; congr 1; funext d S3; unfold bdK cmK; cases d <;> first | rfl | exact v_bad | exact v_ok
def trK (X : XP) (Q : Bool → Hs → Prop) : D → Hs → Prop := fun d S => Wp X (oTru d S) Q
theorem v_tru : Wp X (mTru f l S) Q = Wp X (f l S) (trK X Q) := by unfold mTru; rw [v_bind]; first | rfl | (congr 1; funext _ _; exact v_ok)
theorem k_tr : trK X Q d S = Wp X (oTru d S) Q := nr rfl
def noK (Q : Bool → Hs → Prop) : Bool → Hs → Prop := fun b S => Q (!b) S
theorem v_notB : Wp X (mNotB c l S) Q = Wp X (c l S) (noK Q) := by unfold mNotB; rw [v_bind]; first | rfl | (congr 1; funext _ _; exact v_ok)
theorem k_no : noK Q t S = Q (!t) S := nr rfl
def anK (X : XP) (c2 : MB) (l : Ls) (Q : Bool → Hs → Prop) : Bool → Hs → Prop := fun b S => if b = true then Wp X (c2 l S) Q else Q false S
theorem v_andB : Wp X (mAndB c c2 l S) Q = Wp X (c l S) (anK X c2 l Q) := by
  unfold mAndB; rw [v_bind]; congr 1; funext b S1; unfold bdK anK; cases b <;> first | rfl | exact v_bad | exact v_ok
theorem k_an : anK X c2 l Q t S = if t = true then Wp X (c2 l S) Q else Q false S := nr rfl
def orbK (X : XP) (c2 : MB) (l : Ls) (Q : Bool → Hs → Prop) : Bool → Hs → Prop := fun b S => if b = true then Q true S else Wp X (c2 l S) Q
theorem v_orB : Wp X (mOrB c c2 l S) Q = Wp X (c l S) (orbK X c2 l Q) := by
  unfold mOrB; rw [v_bind]; congr 1; funext b S1; unfold bdK orbK; cases b <;> first | rfl | exact v_bad | exact v_ok
theorem k_orb : orbK X c2 l Q t S = if t = true then Q true S else Wp X (c2 l S) Q := nr rfl
theorem v_yes : Wp X (mYes l S) Q = Q true S := v_ok
variable {tbl : List (Str × D)}
def inkBK (tbl : List (Str × D)) (Q : Bool → Hs → Prop) : D → Hs → Prop := fun x S => match x with
  | .str z => Q (tbl.lookup z).isSome S
  | _ => False
theorem v_inKB : Wp X (mInKB tbl f l S) Q = Wp X (f l S) (inkBK tbl Q) := by
  unfold mInKB; rw [v_bind]; congr 1; funext x S1; unfold bdK inkBK; cases x <;> first | rfl | exact v_bad | exact v_ok
theorem k_inkB {z : Str} : inkBK tbl Q (.str z) S = Q (tbl.lookup z).isSome S := nr rfl
def ninkBK (tbl : List (Str × D)) (Q : Bool → Hs → Prop) : D → Hs → Prop := fun x S => match x with
  | .str z => Q (!(tbl.lookup z).isSome) S
  | _ => False
theorem v_notinKB : Wp X (mNotInKB tbl f l S) Q = Wp X (f l S) (ninkBK tbl Q) := by
  unfold mNotInKB; rw [v_bind]; congr 1; funext x S1; unfold bdK ninkBK; cases x <;> first | rfl | exact v_bad | exact v_ok
theorem k_ninkB {z : Str} : ninkBK tbl Q (.str z) S = Q (!(tbl.lookup z).isSome) S := nr rfl
end
section
variable {Q : F → Hs → Prop} {l1 : Ls}
def stK (i : Nat) (l : Ls) (Q : F → Hs → Prop) : D → Hs → Prop := fun d S => Q (.nx (l.set i (some d))) S
theorem v_set : Wp X (mSet i f l S) Q = Wp X (f l S) (stK i l Q) := by unfold mSet; rw [v_bind]; first | rfl | (congr 1; funext _ _; exact v_ok)
theorem k_st : stK i l Q d S = Q (.nx (l.set i (some d))) S := nr rfl
def exK (l : Ls) (Q : F → Hs → Prop) : D → Hs → Prop := fun _ S => Q (.nx l) S
theorem v_expr : Wp X (mExpr f l S) Q = Wp X (f l S) (exK l Q) := by unfold mExpr; rw [v_bind]; first | rfl | (congr 1; funext _ _; exact v_ok)
theorem k_ex : exK l Q d S = Q (.nx l) S := nr rfl
def reK (Q : F → Hs → Prop) : D → Hs → Prop := fun d S => Q (.rt d) S
theorem v_ret : Wp X (mRet f l S) Q = Wp X (f l S) (reK Q) := by unfold mRet; rw [v_bind]; first | rfl | (congr 1; funext _ _; exact v_ok)
theorem k_re : reK Q d S = Q (.rt d) S := nr rfl
theorem v_retN : Wp X (mRetN l S) Q = Q (.rt .non) S := v_ok
theorem v_pass : Wp X (mPass l S) Q = Q (.nx l) S := v_ok
theorem v_brk : Wp X (mBrk l S) Q = Q (.bk l) S := v_ok
theorem v_cnt : Wp X (mCnt l S) Q = Q (.ct l) S := v_ok
def sqK (X : XP) (b2 : MS) (Q : F → Hs → Prop) : F → Hs → Prop := fun r S => match r with
  | .nx l1 => Wp X (b2 l1 S) Q
  | r => Q r S
theorem v_seq : Wp X (mSeq b b2 l S) Q = Wp X (b l S) (sqK X b2 Q) := by
  unfold mSeq; rw [v_bind]; congr 1; funext r S1; unfold bdK sqK; cases r <;> first | rfl | exact v_bad | exact v_ok
theorem k_sq_nx : sqK X b2 Q (.nx l1) S = Wp X (b2 l1 S) Q := nr rfl
theorem k_sq_rt : sqK X b2 Q (.rt d) S = Q (.rt d) S := nr rfl
theorem k_sq_bk : sqK X b2 Q (.bk l1) S = Q (.bk l1) S := nr rfl
theorem k_sq_ct : sqK X b2 Q (.ct l1) S = Q (.ct l1) S := nr rfl
def ifsK (X : XP) (b b2 : MS) (l : Ls) (Q : F → Hs → Prop) : Bool → Hs → Prop := fun t S => if t = true then Wp X (b l S) Q else Wp X (b2 l S) Q
theorem v_ifS : Wp X (mIfS c b b2 l S) Q = Wp X (c l S) (ifsK X b b2 l Q) := by
  unfold mIfS; rw [v_bind]; congr 1; funext t S1; unfold bdK ifsK; cases t <;> first | rfl | exact v_bad | exact v_ok
theorem k_ifs : ifsK X b b2 l Q t S = if t = true then Wp X (b l S) Q else Wp X (b2 l S) Q := nr rfl
def asK (X : XP) (gg : MG) (l : Ls) (Q : F → Hs → Prop) : D → Hs → Prop := fun d S => Wp X (gg d l S) fun l1 S2 => Q (.nx l1) S2
def asK2 (Q : F → Hs → Prop) : Ls → Hs → Prop := fun l1 S2 => Q (.nx l1) S2
theorem v_asg : Wp X (mAsg f gg l S) Q = Wp X (f l S) (asK X gg l Q) := by
  unfold mAsg; rw [v_bind]; congr 1; funext d S1; unfold bdK asK; rw [v_bind]; first | rfl | (congr 1; funext _ _; exact v_ok)
theorem k_as : asK X gg l Q d S = Wp X (gg d l S) (asK2 Q) := nr rfl
theorem k_as2 : asK2 Q l1 S = Q (.nx l1) S := nr rfl
def auK (X : XP) (i : Nat) (l : Ls) (op : D → D → Hs → R D) (x : D) (Q : F → Hs → Prop) : D → Hs → Prop := fun y S => Wp X (op x y S) (stK i l Q)
theorem v_aug : Wp X (mAug i op2 f l S) Q = match l[i]? with | some (some x) => Wp X (f l S) (auK X i l op2 x Q) | _ => False := by
  unfold mAug; cases l[i]? with
  | none => first | rfl | exact v_bad | exact v_ok
  | some o =>
    cases o with
    | none => first | rfl | exact v_bad | exact v_ok
    | some x => simp only [v_bind]; congr 1; funext y S1; unfold bdK auK; simp only [v_bind]; first | rfl | (congr 1; funext _ _; exact v_ok)
theorem k_au : auK X i l op2 x Q y S = Wp X (op2 x y S) (stK i l Q) := nr rfl
def foK (X : XP) (gg : MG) (b : MS) (l : Ls) (Q : F → Hs → Prop) : J → Hs → Prop := fun j S => Wp X (fLoop j gg b 0 l S) Q
theorem v_for : Wp X (mFor it gg b l S) Q = Wp X (it l S) (foK X gg b l Q) := by unfold mFor; rw [v_bind]; first | rfl | (congr 1; funext _ _; exact v_ok)
theorem k_fo {j : J} : foK X gg b l Q j S = Wp X (fLoop j gg b 0 l S) Q := nr rfl
end
section
variable {Q : J → Hs → Prop}
def itK (X : XP) (Q : J → Hs → Prop) : D → Hs → Prop := fun d S => Wp X (oIt d S) Q
theorem v_it : Wp X (mIt f l S) Q = Wp X (f l S) (itK X Q) := by unfold mIt; rw [v_bind]; first | rfl | (congr 1; funext _ _; exact v_ok)
theorem k_it : itK X Q d S = Wp X (oIt d S) Q := nr rfl
variable {op : List D → Hs → R J}
def ijK (X : XP) (op : List D → Hs → R J) (Q : J → Hs → Prop) : List D → Hs → Prop := fun ds S => Wp X (op ds S) Q
theorem k_ij : ijK X op Q ds S = Wp X (op ds S) Q := nr rfl
theorem v_rng1 : Wp X (mRng1 fl l S) Q = Wp X (fl l S) (ijK X oRng1 Q) := by unfold mRng1; rw [v_bind]; first | rfl | (congr 1; funext _ _; exact v_ok)
theorem v_rng2 : Wp X (mRng2 fl l S) Q = Wp X (fl l S) (ijK X oRng2 Q) := by unfold mRng2; rw [v_bind]; first | rfl | (congr 1; funext _ _; exact v_ok)
theorem v_enum : Wp X (mEnum fl l S) Q = Wp X (fl l S) (ijK X oEnum Q) := by unfold mEnum; rw [v_bind]; first | rfl | (congr 1; funext _ _; exact v_ok)
theorem v_ez : Wp X (mEz fl l S) Q = Wp X (fl l S) (ijK X oEz Q) := by unfold mEz; rw [v_bind]; first | rfl | (congr 1; funext _ _; exact v_ok)
theorem v_zip : Wp X (mZip fl l S) Q = Wp X (fl l S) (ijK X oZip Q) := by unfold mZip; rw [v_bind]; first | rfl | (congr 1; funext _ _; exact v_ok)
end
section
variable {Q : Ls → Hs → Prop}
theorem v_gN : Wp X (gN i d l S) Q = Q (l.set i (some d)) S := v_ok
theorem v_gsN : Wp X (gsN [] l S) Q = Q l S := v_ok
def gcK (X : XP) (gs : MGs) (ds : List D) (Q : Ls → Hs → Prop) : Ls → Hs → Prop := fun l1 S => Wp X (gs ds l1 S) Q
theorem v_gsC : Wp X (gsC gg gs (d :: ds) l S) Q = Wp X (gg d l S) (gcK X gs ds Q) := by show Wp X (R.bind _ _) Q = _; rw [v_bind]; first | rfl | (congr 1; funext _ _; exact v_ok)
theorem k_gc : gcK X gs ds Q l S = Wp X (gs ds l S) Q := nr rfl
theorem v_gT : Wp X (gT n gs (.tup ds) l S) Q = (ds.length = n ∧ Wp X (gs ds l S) Q) := by
  unfold gT; by_cases h : ds.length = n
  · simp [h]
  · simp [h, v_bad]
theorem v_gTw : Wp X (gT n gs (.wt ds) l S) Q = (ds.length = n ∧ Wp X (gs ds l S) Q) := by
  unfold gT; by_cases h : ds.length = n
  · simp [h]
  · simp [h, v_bad]
def gsbK (X : XP) (g : M) (d : D) (l : Ls) (Q : Ls → Hs → Prop) : D → Hs → Prop := fun x S => Wp X (g l S) fun y S2 => Wp X (oSet x y d S2) fun _ S3 => Q l S3
def gsbK2 (X : XP) (x d : D) (l : Ls) (Q : Ls → Hs → Prop) : D → Hs → Prop := fun y S2 => Wp X (oSet x y d S2) fun _ S3 => Q l S3
def gsbK3 (l : Ls) (Q : Ls → Hs → Prop) : Unit → Hs → Prop := fun _ S3 => Q l S3
theorem v_gSb : Wp X (gSb f g d l S) Q = Wp X (f l S) (gsbK X g d l Q) := by
  unfold gSb; rw [v_bind]; congr 1; funext x S1; unfold bdK gsbK; rw [v_bind]; congr 1; funext y S2; unfold bdK; rw [v_bind]; first | rfl | (congr 1; funext _ _; exact v_ok)
theorem k_gsb : gsbK X g d l Q x S = Wp X (g l S) (gsbK2 X x d l Q) := nr rfl
theorem k_gsb2 : gsbK2 X x d l Q y S = Wp X (oSet x y d S) (gsbK3 l Q) := nr rfl
theorem k_gsb3 {u : Unit} : gsbK3 l Q u S = Q l S := nr rfl
end
end
section
variable {X : XP} {f g h : M} {l : Ls} {S : Hs} {op2 : D → D → Hs → R D} {x y z : D} {it : MI} {gl : CG} {tt : MB} {tk tv : M} {vs : List Nat}
section
variable {Q : F → Hs → Prop}
def agK (X : XP) (op : D → D → Hs → R D) (g h : M) (l : Ls) (Q : F → Hs → Prop) : D → Hs → Prop := fun x S1 => Wp X (g l S1) fun y S2 => match dGet x y S2 with
  | some (some z) => Wp X (h l S2) fun w S3 => Wp X (op z w S3) fun d S4 => isDic x S4 = true ∧ Wp X (oSet x y d S4) fun _ S5 => Q (.nx l) S5
  | _ => False
def agK2 (X : XP) (op : D → D → Hs → R D) (h : M) (x : D) (l : Ls) (Q : F → Hs → Prop) : D → Hs → Prop := fun y S2 => match dGet x y S2 with
  | some (some z) => Wp X (h l S2) fun w S3 => Wp X (op z w S3) fun d S4 => isDic x S4 = true ∧ Wp X (oSet x y d S4) fun _ S5 => Q (.nx l) S5
  | _ => False
def agK3 (X : XP) (op : D → D → Hs → R D) (x y z : D) (l : Ls) (Q : F → Hs → Prop) : D → Hs → Prop := fun w S3 => Wp X (op z w S3) fun d S4 => isDic x S4 = true ∧ Wp X (oSet x y d S4) fun _ S5 => Q (.nx l) S5
def agK4 (X : XP) (x y : D) (l : Ls) (Q : F → Hs → Prop) : D → Hs → Prop := fun d S4 => isDic x S4 = true ∧ Wp X (oSet x y d S4) fun _ S5 => Q (.nx l) S5
def agK5 (l : Ls) (Q : F → Hs → Prop) : Unit → Hs → Prop := fun _ S5 => Q (.nx l) S5
theorem v_augI : Wp X (mAugI op2 f g h l S) Q = Wp X (f l S) (agK X op2 g h l Q) := by
  unfold mAugI; rw [v_bind]; congr 1; funext x S1; unfold bdK agK; simp only [v_bind]; congr 1; funext y S2; unfold bdK; simp only []
  cases dGet x y S2 with
  | none => first | rfl | exact v_bad | exact v_ok
  | some o =>
    cases o with
    | none => first | rfl | exact v_bad | exact v_ok
    | some z =>
      simp only [v_bind]; congr 1; funext w S3; unfold bdK; simp only [v_bind]; congr 1; funext d S4; unfold bdK; simp only []
      by_cases hh : isDic x S4 = true
      · simp only [hh, if_true, true_and, v_bind]; first | rfl | (congr 1; funext _ _; exact v_ok)
      · simp [hh, v_bad]
theorem k_ag : agK X op2 g h l Q x S = Wp X (g l S) (agK2 X op2 h x l Q) := nr rfl
theorem k_ag2 : agK2 X op2 h x l Q y S = match dGet x y S with | some (some z) => Wp X (h l S) (agK3 X op2 x y z l Q) | _ => False := nr rfl
theorem k_ag3 {w : D} : agK3 X op2 x y z l Q w S = Wp X (op2 z w S) (agK4 X x y l Q) := nr rfl
theorem k_ag4 {w : D} : agK4 X x y l Q w S = (isDic x S = true ∧ Wp X (oSet x y w S) (agK5 l Q)) := nr rfl
theorem k_ag5 {u : Unit} : agK5 l Q u S = Q (.nx l) S := nr rfl
def dlK (X : XP) (g : M) (l : Ls) (Q : F → Hs → Prop) : D → Hs → Prop := fun x S1 => Wp X (g l S1) fun y S2 => Wp X (oDel x y S2) fun _ S3 => Q (.nx l) S3
def dlK2 (X : XP) (x : D) (l : Ls) (Q : F → Hs → Prop) : D → Hs → Prop := fun y S2 => Wp X (oDel x y S2) fun _ S3 => Q (.nx l) S3
theorem v_del : Wp X (mDel f g l S) Q = Wp X (f l S) (dlK X g l Q) := by
  unfold mDel; rw [v_bind]; congr 1; funext x S1; unfold bdK dlK; rw [v_bind]; congr 1; funext y S2; unfold bdK; rw [v_bind]; first | rfl | (congr 1; funext _ _; exact v_ok)
theorem k_dl : dlK X g l Q x S = Wp X (g l S) (dlK2 X x l Q) := nr rfl
theorem k_dl2 : dlK2 X x l Q y S = Wp X (oDel x y S) (agK5 l Q) := nr rfl
end
variable {Q : D → Hs → Prop}
def d3K (X : XP) (op : D → D → D → Hs → R D) (g h : M) (l : Ls) (Q : D → Hs → Prop) : D → Hs → Prop := fun x S1 => hasTy "dict" x S1 = true ∧ Wp X (g l S1) fun y S2 => Wp X (h l S2) fun z S3 => Wp X (op x y z S3) Q
def d3K2 (X : XP) (op : D → D → D → Hs → R D) (h : M) (x : D) (l : Ls) (Q : D → Hs → Prop) : D → Hs → Prop := fun y S2 => Wp X (h l S2) fun z S3 => Wp X (op x y z S3) Q
def d3K3 (X : XP) (op : D → D → D → Hs → R D) (x y : D) (Q : D → Hs → Prop) : D → Hs → Prop := fun z S3 => Wp X (op x y z S3) Q
theorem v_setd : Wp X (mSetd f g h l S) Q = Wp X (f l S) (d3K X oSetd g h l Q) := by
  unfold mSetd; rw [v_bind]; congr 1; funext x S1; unfold bdK d3K
  by_cases hh : hasTy "dict" x S1 = true
  · simp only [hh, true_and, if_true, v_bind]; congr 1; funext y S2; unfold bdK; rw [v_bind]; first | rfl | (congr 1; funext _ _; exact v_ok)
  · simp [hh, v_bad]
theorem v_pop2 : Wp X (mPop2 f g h l S) Q = Wp X (f l S) (d3K X oPop2 g h l Q) := by
  unfold mPop2; rw [v_bind]; congr 1; funext x S1; unfold bdK d3K
  by_cases hh : hasTy "dict" x S1 = true
  · simp only [hh, true_and, if_true, v_bind]; congr 1; funext y S2; unfold bdK; rw [v_bind]; first | rfl | (congr 1; funext _ _; exact v_ok)
  · simp [hh, v_bad]
variable {op3 : D → D → D → Hs → R D}
theorem k_d3 : d3K X op3 g h l Q x S = (hasTy "dict" x S = true ∧ Wp X (g l S) (d3K2 X op3 h x l Q)) := nr rfl
theorem k_d32 : d3K2 X op3 h x l Q y S = Wp X (h l S) (d3K3 X op3 x y Q) := nr rfl
theorem k_d33 : d3K3 X op3 x y Q z S = Wp X (op3 x y z S) Q := nr rfl
def g1K (X : XP) (g : M) (l : Ls) (Q : D → Hs → Prop) : D → Hs → Prop := fun x S => hasTy "dict" x S = true ∧ Wp X (g l S) fun y S2 => match dGet x y S2 with
  | some (some d) => Q d S2
  | some none => Q .non S2
  | none => False
def g1K2 (x : D) (Q : D → Hs → Prop) : D → Hs → Prop := fun y S2 => match dGet x y S2 with
  | some (some d) => Q d S2
  | some none => Q .non S2
  | none => False
theorem v_get1 : Wp X (mGet1 f g l S) Q = Wp X (f l S) (g1K X g l Q) := by
  unfold mGet1; rw [v_bind]; congr 1; funext x S1; unfold bdK g1K
  by_cases hh : hasTy "dict" x S1 = true
  · simp only [hh, true_and, if_true, v_bind]; congr 1; funext y S2; unfold bdK; simp only []
    cases dGet x y S2 with
    | none => first | rfl | exact v_bad | exact v_ok
    | some o => cases o <;> first | rfl | exact v_bad | exact v_ok
  · simp [hh, v_bad]
theorem k_g1 : g1K X g l Q x S = (hasTy "dict" x S = true ∧ Wp X (g l S) (g1K2 x Q)) := nr rfl
theorem k_g12 : g1K2 x Q y S = match dGet x y S with | some (some d) => Q d S | some none => Q .non S | none => False := nr rfl
variable {opr : Int → Int → Hs → R D}
def rgK (X : XP) (op : Int → Int → Hs → R D) (Q : D → Hs → Prop) : D → Hs → Prop := fun x S => Wp X (rg1 op [x] S) Q
theorem v_rg1 : Wp X (mRg1 opr f l S) Q = Wp X (f l S) (rgK X opr Q) := by unfold mRg1; rw [v_bind]; first | rfl | (congr 1; funext _ _; exact v_ok)
theorem k_rg {n : Int} : rgK X opr Q (.int n) S = Wp X (opr 0 n S) Q := nr rfl
def rg2K (X : XP) (op : Int → Int → Hs → R D) (g : M) (l : Ls) (Q : D → Hs → Prop) : D → Hs → Prop := fun x S => Wp X (g l S) fun y S2 => Wp X (rg1 op [x, y] S2) Q
def rg2K2 (X : XP) (op : Int → Int → Hs → R D) (x : D) (Q : D → Hs → Prop) : D → Hs → Prop := fun y S2 => Wp X (rg1 op [x, y] S2) Q
theorem v_rg2 : Wp X (mRg2 opr f g l S) Q = Wp X (f l S) (rg2K X opr g l Q) := by
  unfold mRg2; rw [v_bind]; congr 1; funext x S1; unfold bdK rg2K; rw [v_bind]; first | rfl | (congr 1; funext _ _; exact v_ok)
theorem k_rg2 : rg2K X opr g l Q x S = Wp X (g l S) (rg2K2 X opr x Q) := nr rfl
theorem k_rg22 {m n : Int} : rg2K2 X opr (.int m) Q (.int n) S = Wp X (opr m n S) Q := nr rfl
theorem v_dicK : Wp X (mDicK l S) Q = Q (.ref S.length) (S ++ [.dic []]) := v_ok
theorem v_dicT : Wp X (mDicT l S) Q = Q (.ref S.length) (S ++ [.dit []]) := v_ok
def dcK (X : XP) (gl : CG) (tt : MB) (tk tv : M) (l : Ls) (Q : D → Hs → Prop) : J → Hs → Prop := fun j S1 => Wp X (dcLoop j gl tt tk tv l S1.length 0 (S1 ++ [.dic []])) Q
theorem v_dc : Wp X (mDc it gl tt tk tv vs l S) Q = Wp X (it l S) (dcK X gl tt tk tv (wipeL l vs) Q) := by unfold mDc; rw [v_bind]; first | rfl | (congr 1; funext _ _; exact v_ok)
theorem k_dc {j : J} : dcK X gl tt tk tv l Q j S = Wp X (dcLoop j gl tt tk tv l S.length 0 (S ++ [.dic []])) Q := nr rfl
end
theorem ofString_inj {a b : String} : (Str.ofString a = Str.ofString b) = (a = b) := by
  rw [Str.ofString_eq_toList, Str.ofString_eq_toList, Str.mk.injEq]
  apply propext
  constructor
  · intro h
    have h := List.toArray_inj h
    have h2 : ∀ {xs ys : List Char}, xs.map Char.toNat = ys.map Char.toNat → xs = ys := by
      intro xs
      induction xs with
      | nil => intro ys e; cases ys with | nil => rfl | cons _ _ => cases e
      | cons x xs ih =>
        intro ys e
        cases ys with
        | nil => cases e
        | cons y ys =>
          simp only [List.map_cons, List.cons.injEq] at e
          rw [Char.toNat_inj.mp e.1, ih e.2]
    exact String.toList_inj.mp (h2 h)
  · rintro rfl; rfl
theorem beq_lit {a b : String} : (Str.ofString a == Str.ofString b) = (a == b) := by
  rw [Bool.eq_iff_iff]; simp [ofString_inj]
def enK (Q : D → Hs → Prop) : F → Hs → Prop := fun r S => match r with
  | .nx _ => Q .non S
  | .rt d => Q d S
  | _ => False
theorem k_en_rt {Q : D → Hs → Prop} {d : D} {S : Hs} : enK Q (.rt d) S = Q d S := nr rfl
theorem k_en_nx {Q : D → Hs → Prop} {l : Ls} {S : Hs} : enK Q (.nx l) S = Q .non S := nr rfl
theorem wp_def {np nl : Nat} {b : MS} {ds : List D} {S : Hs} {X : XP} {Q : D → Hs → Prop} (hl : ds.length = np) (h : Wp (fun c fs _ S => X c fs [] S) (b (ds.map some ++ List.replicate nl none) S) (enK Q)) : Wp X (mDef np nl b ds S) Q := by
  unfold mDef
  rw [if_pos hl]
  generalize b (ds.map some ++ List.replicate nl none) S = r at h
  cases r with
  | ok f S1 => cases f <;> exact ⟨h.un⟩
  | exc c fs l S1 => exact ⟨h.un⟩
  | bad => exact ⟨h.un⟩
theorem wp_def0 {np nl : Nat} {b : MS} {ds : List D} {S : Hs} {Q : D → Hs → Prop} (hl : ds.length = np) (h : Wp NoX (b (ds.map some ++ List.replicate nl none) S) (enK Q)) : Wp NoX (mDef np nl b ds S) Q := wp_def hl h
theorem atX_no {l : Ls} : atX NoX l = NoX := nr rfl
def tuK (I : Ls → Hs → Prop) (Q : F → Hs → Prop) : F → Hs → Prop := fun r S => match r with
  | .nx l => I l S
  | .ct l => I l S
  | .bk l => Q (.nx l) S
  | .rt d => Q (.rt d) S
section
variable {X : XP} {I : Ls → Hs → Prop} {Q : F → Hs → Prop} {l : Ls} {S : Hs} {d : D}
theorem k_tu_nx : tuK I Q (.nx l) S = I l S := nr rfl
theorem k_tu_ct : tuK I Q (.ct l) S = I l S := nr rfl
theorem k_tu_bk : tuK I Q (.bk l) S = Q (.nx l) S := nr rfl
theorem k_tu_rt : tuK I Q (.rt d) S = Q (.rt d) S := nr rfl
theorem wp_fLoop {j : J} {gg : MG} {b : MS} (N : Nat) (Inv : Nat → Ls → Hs → Prop) (hend : ∀ l S, Inv N l S → itGo j N S = some none)
    (hs : ∀ k l S, k < N → Inv k l S → ∃ d, itGo j k S = some (some d) ∧ Wp X (gg d l S) fun l1 S1 => Wp X (b l1 S1) (tuK (Inv (k + 1)) Q))
    (hd : ∀ l S, Inv N l S → Q (.nx l) S) : ∀ m k l S, k + m = N → Inv k l S → Wp X (fLoop j gg b k l S) Q
  | 0, k, l, S, e, h => by
    have hk : k = N := by omega
    subst hk
    rw [fLoop_eq, hend l S h]
    exact ⟨hd l S h⟩
  | m + 1, k, l, S, e, h => by
    obtain ⟨d, e1, h1⟩ := hs k l S (by omega) h
    rw [fLoop_eq, e1]
    simp only [v_bind]
    refine h1.mono (fun _ _ _ _ h => h) fun l1 S1 h2 => ?_
    unfold bdK
    rw [v_bind]
    refine h2.mono (fun _ _ _ _ h => h) fun r S2 h3 => ?_
    cases r with
    | nx l2 => exact wp_fLoop N Inv hend hs hd m (k + 1) l2 S2 (by omega) h3
    | ct l2 => exact wp_fLoop N Inv hend hs hd m (k + 1) l2 S2 (by omega) h3
    | bk l2 => exact ⟨h3⟩
    | rt d => exact ⟨h3⟩
theorem wp_rng {lo : Int} {n : Nat} {gg : MG} {b : MS} (Inv : Nat → Ls → Hs → Prop) (h0 : Inv 0 l S)
    (hs : ∀ k l S, k < n → Inv k l S → Wp X (gg (.int (lo + k)) l S) fun l1 S1 => Wp X (b l1 S1) (tuK (Inv (k + 1)) Q)) (hd : ∀ l S, Inv n l S → Q (.nx l) S) : Wp X (fLoop (.rng lo n) gg b 0 l S) Q :=
  wp_fLoop n Inv (fun l S h => by simp [itGo]) (fun k l S hk h => ⟨_, by simp [itGo, hk], hs k l S hk h⟩) hd n 0 l S (by omega) h0
theorem split_at {α : Type} {ds : List α} {k : Nat} {d : α} (h : ds[k]? = some d) : ds = ds.take k ++ d :: ds.drop (k + 1) := by
  obtain ⟨hk, rfl⟩ := List.getElem?_eq_some_iff.mp h
  simp
theorem take_at {α : Type} {ds : List α} {k : Nat} {d : α} (h : ds[k]? = some d) : ds.take (k + 1) = ds.take k ++ [d] := by
  rw [List.take_add_one, h]; rfl
theorem wp_tup {ds : List D} {gg : MG} {b : MS} (Inv : List D → Ls → Hs → Prop) (h0 : Inv [] l S)
    (hs : ∀ pre d post l S, ds = pre ++ d :: post → Inv pre l S → Wp X (gg d l S) fun l1 S1 => Wp X (b l1 S1) (tuK (Inv (pre ++ [d])) Q)) (hd : ∀ l S, Inv ds l S → Q (.nx l) S) : Wp X (fLoop (.tup ds) gg b 0 l S) Q := by
  refine wp_fLoop ds.length (fun k l S => Inv (ds.take k) l S) (fun l S h => by simp [itGo]) (fun k l S hk h => ?_) (fun l S h => hd l S (by simpa using h)) ds.length 0 l S (by omega) h0
  have e : ds[k]? = some ds[k] := List.getElem?_eq_getElem hk
  refine ⟨ds[k], by simp [itGo, e], ?_⟩
  have := hs _ _ _ l S (split_at e) h
  rwa [← take_at e] at this
theorem wp_while {c : MB} {b : MS} (Inv : Nat → Ls → Hs → Prop)
    (hs : ∀ m l S, Inv m l S → Wp X (c l S) fun t S1 => if t = true then Wp X (b l S1) (tuK (fun l2 S2 => ∃ m', m' < m ∧ Inv m' l2 S2) Q) else Q (.nx l) S1) : ∀ m l S, Inv m l S → Wp X (mWhile c b l S) Q := by
  intro m
  induction m using Nat.strongRecOn with
  | _ m ih =>
    intro l S h
    rw [mWhile_eq, v_bind]
    refine (hs m l S h).mono (fun _ _ _ _ h => h) fun t S1 h1 => ?_
    unfold bdK
    cases t with
    | false => exact ⟨h1⟩
    | true =>
      simp only [if_true] at h1 ⊢
      rw [v_bind]
      refine h1.mono (fun _ _ _ _ h => h) fun r S2 h2 => ?_
      unfold bdK
      cases r with
      | nx l2 => obtain ⟨m', hm, h3⟩ := h2; exact ih m' hm l2 S2 h3
      | ct l2 => obtain ⟨m', hm, h3⟩ := h2; exact ih m' hm l2 S2 h3
      | bk l2 => exact ⟨h2⟩
      | rt d => exact ⟨h2⟩
end
section
variable {X : XP} {Q : D → Hs → Prop} {l : Ls} {S : Hs} {j : J} {gl : CG} {tt : MB} {te : M} {it : MI} {vs : List Nat}
def lcK (X : XP) (gl : CG) (tt : MB) (te : M) (l : Ls) (Q : D → Hs → Prop) : J → Hs → Prop := fun j S1 => Wp X (cLoop j gl tt te l S1.length 0 (S1 ++ [.lst []])) Q
theorem v_lc : Wp X (mLc it gl tt te vs l S) Q = Wp X (it l S) (lcK X gl tt te (wipeL l vs) Q) := by unfold mLc; rw [v_bind]; rfl
theorem k_lc : lcK X gl tt te l Q j S = Wp X (cLoop j gl tt te l S.length 0 (S ++ [.lst []])) Q := nr rfl
def CTurn (gl : CG) (tt : MB) (te : M) (l : Ls) (n : Nat) (d : D) (S : Hs) (acc : List D) (I : List D → Hs → Prop) : Prop :=
  ∃ l1, gl d l = some l1 ∧ Wp NoX (tt l1 S) fun t S2 => if t = true then Wp NoX (te l1 S2) fun y S3 => S3[n]? = some (.lst acc) ∧ acc.length < sizeLine ∧ I (acc ++ [y]) (S3.set n (.lst (acc ++ [y]))) else I acc S2
theorem wp_cLoop {n : Nat} (N : Nat) (Inv : Nat → List D → Hs → Prop) (hend : ∀ acc S, Inv N acc S → itGo j N S = some none)
    (hs : ∀ k acc S, k < N → Inv k acc S → ∃ d, itGo j k S = some (some d) ∧ CTurn gl tt te l n d S acc (Inv (k + 1)))
    (hd : ∀ acc S, Inv N acc S → Q (.ref n) S) : ∀ m k acc S, k + m = N → Inv k acc S → Wp X (cLoop j gl tt te l n k S) Q
  | 0, k, acc, S, e, h => by
    have hk : k = N := by omega
    subst hk
    rw [cLoop_eq]
    simp only [cStep, hend acc S h]
    exact ⟨hd acc S h⟩
  | m + 1, k, acc, S, e, h => by
    obtain ⟨d, e1, l1, e2, h1⟩ := hs k acc S (by omega) h
    obtain ⟨t, S2, e3, h2⟩ := h1.ex
    rw [cLoop_eq]
    cases t with
    | false =>
      simp only [cStep, e1, e2, e3]
      exact wp_cLoop N Inv hend hs hd m (k + 1) acc S2 (by omega) h2
    | true =>
      obtain ⟨y, S3, e4, e5, e6, h3⟩ := Wp.ex h2
      simp only [cStep, e1, e2, e3, e4, e5, e6, if_true]
      exact wp_cLoop N Inv hend hs hd m (k + 1) _ _ (by omega) h3
theorem wp_lcRng {n : Nat} {lo : Int} {m : Nat} (Inv : Nat → List D → Hs → Prop) (h0 : Inv 0 [] S) (hs : ∀ k acc S, k < m → Inv k acc S → CTurn gl tt te l n (.int (lo + k)) S acc (Inv (k + 1)))
    (hd : ∀ acc S, Inv m acc S → Q (.ref n) S) : Wp X (cLoop (.rng lo m) gl tt te l n 0 S) Q :=
  wp_cLoop m Inv (fun acc S h => by simp [itGo]) (fun k acc S hk h => ⟨_, by simp [itGo, hk], hs k acc S hk h⟩) hd m 0 [] S (by omega) h0
def DTurn (gl : CG) (tt : MB) (tk tv : M) (l : Ls) (n : Nat) (d : D) (S : Hs) (acc : List (Key × D)) (I : List (Key × D) → Hs → Prop) : Prop :=
  ∃ l1, gl d l = some l1 ∧ Wp NoX (tt l1 S) fun t S2 => if t = true then Wp NoX (tk l1 S2) fun y S3 => Wp NoX (tv l1 S3) fun z S4 => S4[n]? = some (.dic acc) ∧ acc.length < sizeLine ∧ ∃ k, y.key = some k ∧ I (setK acc k z) (S4.set n (.dic (setK acc k z))) else I acc S2
theorem wp_dcLoop {n : Nat} {tk tv : M} (N : Nat) (Inv : Nat → List (Key × D) → Hs → Prop) (hend : ∀ acc S, Inv N acc S → itGo j N S = some none)
    (hs : ∀ k acc S, k < N → Inv k acc S → ∃ d, itGo j k S = some (some d) ∧ DTurn gl tt tk tv l n d S acc (Inv (k + 1)))
    (hd : ∀ acc S, Inv N acc S → Q (.ref n) S) : ∀ m k acc S, k + m = N → Inv k acc S → Wp X (dcLoop j gl tt tk tv l n k S) Q
  | 0, k, acc, S, e, h => by
    have hk : k = N := by omega
    subst hk
    rw [dcLoop_eq]
    simp only [dcStep, hend acc S h]
    exact ⟨hd acc S h⟩
  | m + 1, k, acc, S, e, h => by
    obtain ⟨d, e1, l1, e2, h1⟩ := hs k acc S (by omega) h
    obtain ⟨t, S2, e3, h2⟩ := h1.ex
    rw [dcLoop_eq]
    cases t with
    | false =>
      simp only [dcStep, e1, e2, e3]
      exact wp_dcLoop N Inv hend hs hd m (k + 1) acc S2 (by omega) h2
    | true =>
      obtain ⟨y, S3, e4, h3⟩ := Wp.ex h2
      obtain ⟨z, S4, e4', e5, e6, k0, ek, h4⟩ := Wp.ex h3
      simp only [dcStep, e1, e2, e3, e4, e4', e5, e6, ek, if_true]
      exact wp_dcLoop N Inv hend hs hd m (k + 1) _ _ (by omega) h4
theorem wp_dcRng {n : Nat} {lo : Int} {m : Nat} {tk tv : M} (Inv : Nat → List (Key × D) → Hs → Prop) (h0 : Inv 0 [] S) (hs : ∀ k acc S, k < m → Inv k acc S → DTurn gl tt tk tv l n (.int (lo + k)) S acc (Inv (k + 1)))
    (hd : ∀ acc S, Inv m acc S → Q (.ref n) S) : Wp X (dcLoop (.rng lo m) gl tt tk tv l n 0 S) Q :=
  wp_dcLoop m Inv (fun acc S h => by simp [itGo]) (fun k acc S hk h => ⟨_, by simp [itGo, hk], hs k acc S hk h⟩) hd m 0 [] S (by omega) h0
end
def Kp (X : List Nat) (S S' : Hs) : Prop := S.length ≤ S'.length ∧ ∀ i, i < S.length → i ∉ X → S'[i]? = S[i]?
section
variable {A B : List Nat} {S S1 S2 g : Hs} {i n : Nat} {o : O}
theorem Kp.refl : Kp A S S := ⟨Nat.le_refl _, fun _ _ _ => rfl⟩
theorem Kp.trans (a : Kp A S S1) (b : Kp A S1 S2) : Kp A S S2 := ⟨Nat.le_trans a.1 b.1, fun i h hn => (b.2 i (Nat.lt_of_lt_of_le h a.1) hn).trans (a.2 i h hn)⟩
theorem Kp.sub (a : Kp A S S1) (h : ∀ i ∈ A, i < S.length → i ∈ B) : Kp B S S1 := ⟨a.1, fun i hi hn => a.2 i hi fun hm => hn (h i hm hi)⟩
theorem Kp.le (a : Kp A S S1) : S.length ≤ S1.length := a.1
theorem Kp.get (a : Kp A S S1) (h : S[i]? = some o) (hn : i ∉ A) : S1[i]? = some o := (a.2 i (Real.lt h) hn).trans h
theorem Kp.new : Kp A S (S ++ g) := ⟨by simp, fun i h _ => List.getElem?_append_left h⟩
theorem Kp.app (a : Kp A S S1) : Kp A S (S1 ++ g) := a.trans Kp.new
theorem Kp.set (h : i ∈ A) : Kp A S (S.set i o) := ⟨by simp, fun k hk hn => List.getElem?_set_ne (fun e => by subst e; exact hn h)⟩
theorem Kp.setNew (a : Kp A S S1) (h : S.length ≤ i) : Kp A S (S1.set i o) := ⟨by rw [List.length_set]; exact a.1, fun k hk hn => (List.getElem?_set_ne (by omega)).trans (a.2 k hk hn)⟩
theorem Kp.setIn (a : Kp A S S1) (h : i ∈ A) : Kp A S (S1.set i o) := a.trans (Kp.set h)
theorem Kp.after (a : Kp A S S1) (b : Kp B S1 S2) (h : ∀ i ∈ B, i < S.length → i ∈ A) : Kp A S S2 := ⟨Nat.le_trans a.1 b.1, fun i hi hn => (b.2 i (Nat.lt_of_lt_of_le hi a.1) (fun hm => hn (h i hm hi))).trans (a.2 i hi hn)⟩
theorem Kp.seqAt (a : Kp A S S1) {ds : List D} (h : seqAt S i = some ds) (hn : i ∉ A) : Ly.seqAt S1 i = some ds := by
  unfold Ly.seqAt seqD at h ⊢
  simp only at h ⊢
  split at h
  · rename_i q; rw [a.get q hn]; exact h
  · rename_i q; rw [a.get q hn]; exact h
  · cases h
end
end Ly
set_option Elab.async false
set_option linter.all false
set_option maxRecDepth 100000
namespace Ly
open PySem PySem.Spec L2
open PyProof.Rows hiding St
section
variable {X : XP} {Q : F → Hs → Prop} {l : Ls} {S : Hs} {α : Type} (f : α → D) {xs : List α}
theorem wp_tupM {gg : MG} {b : MS} (Inv : List α → Ls → Hs → Prop) (h0 : Inv [] l S)
    (hs : ∀ pre x post l S, xs = pre ++ x :: post → Inv pre l S → Wp X (gg (f x) l S) fun l1 S1 => Wp X (b l1 S1) (tuK (Inv (pre ++ [x])) Q)) (hd : ∀ l S, Inv xs l S → Q (.nx l) S) : Wp X (fLoop (.tup (xs.map f)) gg b 0 l S) Q := by
  refine wp_fLoop xs.length (fun k l S => Inv (xs.take k) l S) (fun l S h => by simp [itGo]) (fun k l S hk h => ?_) (fun l S h => hd l S (by simpa using h)) xs.length 0 l S (by omega) h0
  have e : xs[k]? = some xs[k] := List.getElem?_eq_getElem hk
  refine ⟨f xs[k], by simp [itGo, e], ?_⟩
  have := hs _ _ _ l S (split_at e) h
  rwa [← take_at e] at this
theorem wp_tup0 {gg : MG} {b : MS} (h : Q (.nx l) S) : Wp X (fLoop (.tup []) gg b 0 l S) Q := by
  rw [fLoop_eq]; exact ⟨h⟩
theorem wp_tup1 {gg : MG} {b : MS} {d : D} (h : Wp X (gg d l S) fun l1 S1 => Wp X (b l1 S1) (tuK (fun l2 S2 => Q (.nx l2) S2) Q)) : Wp X (fLoop (.tup [d]) gg b 0 l S) Q := by
  refine wp_tup (fun pre l' S' => (pre = [] ∧ l' = l ∧ S' = S) ∨ (pre = [d] ∧ Q (.nx l') S')) (.inl ⟨rfl, rfl, rfl⟩) ?_ ?_
  · intro pre x post l' S' e hI
    rcases hI with ⟨rfl, rfl, rfl⟩ | ⟨rfl, _⟩
    · simp only [List.nil_append, List.cons.injEq] at e
      obtain ⟨rfl, _⟩ := e
      refine h.mono (fun _ _ _ _ h => h) fun l1 S1 h1 => h1.mono (fun _ _ _ _ h => h) fun r S2 h2 => ?_
      cases r with
      | nx l2 => exact .inr ⟨rfl, h2⟩
      | ct l2 => exact .inr ⟨rfl, h2⟩
      | bk l2 => exact h2
      | rt d => exact h2
    · simp at e
  · intro l' S' hI
    rcases hI with ⟨e, _⟩ | ⟨_, h⟩
    · cases e
    · exact h
variable {P : D → Hs → Prop} {gl : CG} {tt : MB} {te : M}
theorem lc_pure {j : J} (g : α → Option D) (hj : ∀ S', Kp [] S S' → ∀ k, k ≤ xs.length → itGo j k S' = some ((xs[k]?).map f)) (hx : xs.length ≤ 1000000)
    (hs : ∀ x ∈ xs, ∀ S', Kp [] S S' → ∃ l1, gl (f x) l = some l1 ∧ Wp NoX (tt l1 S') fun t S2 => Kp [] S' S2 ∧ if t = true then Wp NoX (te l1 S2) fun y S3 => Kp [] S2 S3 ∧ g x = some y else g x = none)
    (hd : ∀ S', S'[S.length]? = some (.lst (xs.filterMap g)) → Kp [] S S' → P (.ref S.length) S') : Wp X (cLoop j gl tt te l S.length 0 (S ++ [.lst []])) P := by
  refine wp_cLoop xs.length (fun k acc S' => acc = (xs.take k).filterMap g ∧ S'[S.length]? = some (.lst acc) ∧ Kp [] S S') (fun acc S' h => ?_) (fun k acc S' hk h => ?_) (fun acc S' h => ?_) xs.length 0 [] _ (by omega) ⟨by simp, by simp, Kp.new⟩
  · rw [hj S' h.2.2 _ (Nat.le_refl _), List.getElem?_eq_none (Nat.le_refl _)]; rfl
  · obtain ⟨rfl, h1, h2⟩ := h
    have e : xs[k]? = some xs[k] := List.getElem?_eq_getElem hk
    obtain ⟨l1, e1, h3⟩ := hs xs[k] (List.getElem_mem hk) S' h2
    refine ⟨f xs[k], by rw [hj S' h2 _ (Nat.le_of_lt hk), e]; rfl, l1, e1, ?_⟩
    refine h3.mono (fun _ _ _ _ h => h) ?_
    rintro t S2 ⟨k1, h4⟩
    rw [take_at e, List.filterMap_append]
    have hb : ((xs.take k).filterMap g).length < sizeLine := by
      refine line_big (Nat.le_trans (List.length_filterMap_le _ _) ?_)
      simp; omega
    cases t with
    | false =>
      simp only [Bool.false_eq_true, if_false] at h4 ⊢
      simp only [List.filterMap_cons, h4, List.filterMap_nil, List.append_nil]
      exact ⟨trivial, k1.get h1 (by simp), h2.trans k1⟩
    | true =>
      simp only [if_true] at h4 ⊢
      refine h4.mono (fun _ _ _ _ h => h) ?_
      rintro y S3 ⟨k2, h5⟩
      have h6 := k2.get (k1.get h1 (by simp)) (by simp)
      simp only [List.filterMap_cons, h5, List.filterMap_nil]
      exact ⟨h6, hb, trivial, get_put h6, ((h2.trans k1).trans k2).setNew (Nat.le_refl _)⟩
  · obtain ⟨rfl, h1, h2⟩ := h
    exact hd S' (by simpa using h1) h2
end
end Ly
set_option Elab.async false
set_option linter.all false
set_option maxRecDepth 100000
namespace Ly
open PySem PySem.Spec L2
open PyProof.Rows hiding St
section
variable {X : XP} {Q : D → Hs → Prop} {h : MP} {l : Ls} {S : Hs}
def dsK (n : Nat) (Q : D → Hs → Prop) : List (D × D) → Hs → Prop := fun ps S1 => ∃ kvs, keysP ps = some kvs ∧ S1[n]? = some (.dic []) ∧ kvs.length ≤ 15 ∧ Q (.ref n) (S1.set n (.dic (mergeD [] kvs)))
theorem v_disp (H : Wp X (h l (S ++ [.dic []])) (dsK S.length Q)) : Wp X (mDisp h l S) Q := by
  unfold mDisp
  rw [v_bind]
  refine H.mono (fun _ _ _ _ h => h) ?_
  rintro ps S1 ⟨kvs, e1, e2, e3, e4⟩
  unfold bdK
  simp only [e1, e2, e3, if_true]
  exact ⟨e4⟩
variable {Q : List (D × D) → Hs → Prop} {f g : M}
theorem v_dpNil : Wp X (dpNil l S) Q = Q [] S := v_ok
def dpK (X : XP) (g : M) (h : MP) (l : Ls) (Q : List (D × D) → Hs → Prop) : D → Hs → Prop := fun x S1 => Wp X (g l S1) fun y S2 => Wp X (h l S2) fun r S3 => Q ((x, y) :: r) S3
def dpK2 (X : XP) (h : MP) (x : D) (l : Ls) (Q : List (D × D) → Hs → Prop) : D → Hs → Prop := fun y S2 => Wp X (h l S2) fun r S3 => Q ((x, y) :: r) S3
def dpK3 (x y : D) (Q : List (D × D) → Hs → Prop) : List (D × D) → Hs → Prop := fun r S3 => Q ((x, y) :: r) S3
theorem v_dpCons : Wp X (dpCons f g h l S) Q = Wp X (f l S) (dpK X g h l Q) := by
  unfold dpCons; rw [v_bind]; congr 1; funext x S1; unfold bdK dpK; rw [v_bind]; congr 1; funext y S2; unfold bdK; rw [v_bind]; congr 1; funext r S3; exact v_ok
theorem k_dp {x : D} : dpK X g h l Q x S = Wp X (g l S) (dpK2 X h x l Q) := nr rfl
theorem k_dp2 {x y : D} : dpK2 X h x l Q y S = Wp X (h l S) (dpK3 x y Q) := nr rfl
theorem k_dp3 {x y : D} {ps : List (D × D)} : dpK3 x y Q ps S = Q ((x, y) :: ps) S := nr rfl
end
section
variable {X : XP} {cs : List Addr} {f m : Str} {o e : M} {l : Ls} {S S1 : Hs} {i : Nat} {C : Addr} {fs : List (Str × D)} {d x y : D} {ds : List D} {g : ML} {md : MD} {tbl : List (Addr × MD)} {op : D → D → Hs → R D}
section
variable {Q : D → Hs → Prop}
def flK (cs : List Addr) (f : Str) (Q : D → Hs → Prop) : D → Hs → Prop := fun x S1 => match x with
  | .ref i => match S1[i]? with
    | some (.ins C fs) => C ∈ cs ∧ (match fs.lookup f with
      | some d => Q d S1
      | none => False)
    | _ => False
  | _ => False
theorem v_fld : Wp X (mFld cs f o l S) Q = Wp X (o l S) (flK cs f Q) := by
  unfold mFld; rw [v_bind]; congr 1; funext x S1; unfold bdK flK
  cases x with
  | ref i =>
    simp only []
    cases S1[i]? with
    | none => exact v_bad
    | some u =>
      cases u with
      | ins C fs =>
        simp only []
        by_cases h : C ∈ cs
        · simp only [h, if_true, true_and]; cases fs.lookup f <;> first | exact v_ok | exact v_bad
        · simp only [h, if_false, false_and]; exact v_bad
      | _ => exact v_bad
  | _ => exact v_bad
theorem k_fl (h : S[i]? = some (.ins C fs)) : flK cs f Q (.ref i) S = (C ∈ cs ∧ (match fs.lookup f with | some d => Q d S | none => False)) := by simp only [flK, h]
def meK2 (X : XP) (md : MD) (i : Nat) (l : Ls) (Q : D → Hs → Prop) : List D → Hs → Prop := fun ds S2 => Wp (atX X l) (md (.ref i :: ds) S2) Q
def meK (X : XP) (tbl : List (Addr × MD)) (m : Str) (g : ML) (l : Ls) (Q : D → Hs → Prop) : D → Hs → Prop := fun x S1 => match x with
  | .ref i => match S1[i]? with
    | some (.ins C fs) => (match tbl.lookup C with
      | some md => fs.lookup m = none ∧ Wp X (g l S1) (meK2 X md i l Q)
      | none => False)
    | _ => False
  | _ => False
theorem v_meth : Wp X (mMeth tbl m o g l S) Q = Wp X (o l S) (meK X tbl m g l Q) := by
  unfold mMeth; rw [v_bind]; congr 1; funext x S1; unfold bdK meK
  cases x with
  | ref i =>
    simp only []
    cases S1[i]? with
    | none => exact v_bad
    | some u =>
      cases u with
      | ins C fs =>
        simp only []
        cases tbl.lookup C with
        | none => exact v_bad
        | some md =>
          simp only [Option.isNone_iff_eq_none]
          by_cases h : fs.lookup m = none
          · simp only [h, if_true, true_and]; rw [v_bind]; congr 1; funext ds S2; unfold bdK meK2; rw [v_at]
          · simp only [h, if_false, false_and]; exact v_bad
      | _ => exact v_bad
  | _ => exact v_bad
theorem k_me (h : S[i]? = some (.ins C fs)) : meK X tbl m g l Q (.ref i) S = (match tbl.lookup C with | some md => fs.lookup m = none ∧ Wp X (g l S) (meK2 X md i l Q) | none => False) := by simp only [meK, h]
theorem k_me2 : meK2 X md i l Q ds S = Wp (atX X l) (md (.ref i :: ds) S) Q := nr rfl
def mkK (X : XP) (C : Addr) (md : MD) (l : Ls) (Q : D → Hs → Prop) : List D → Hs → Prop := fun ds S1 => Wp (atX X l) (md (.ref S1.length :: ds) (S1 ++ [.ins C []])) fun d S2 => d = .non ∧ Q (.ref S1.length) S2
theorem v_make : Wp X (mMake C md g l S) Q = Wp X (g l S) (mkK X C md l Q) := by
  unfold mMake; rw [v_bind]; congr 1; funext ds S1; unfold bdK mkK; rw [v_bind, v_at]; congr 1; funext d S2; unfold bdK
  cases d with
  | non => simp only [v_ok, true_and]
  | _ => simp only [v_bad, reduceCtorEq, false_and]
theorem k_mk : mkK X C md l Q ds S = Wp (atX X l) (md (.ref S.length :: ds) (S ++ [.ins C []])) fun d S2 => d = .non ∧ Q (.ref S.length) S2 := nr rfl
theorem look1 {α β : Type} [BEq α] [LawfulBEq α] {a : α} {b : β} {r : List (α × β)} : ((a, b) :: r).lookup a = some b := by rw [List.lookup_cons, beq_self_eq_true]
end
section
variable {Q : F → Hs → Prop}
def fsK (X : XP) (cs : List Addr) (f : Str) (o : M) (l : Ls) (Q : F → Hs → Prop) : D → Hs → Prop := fun d S1 => Wp X (o l S1) fun x S2 => match x with
  | .ref i => match S2[i]? with
    | some (.ins C fs) => C ∈ cs ∧ fs.length < 1000 ∧ Q (.nx l) (S2.set i (.ins C (putD f d fs)))
    | _ => False
  | _ => False
def fsK2 (cs : List Addr) (f : Str) (d : D) (l : Ls) (Q : F → Hs → Prop) : D → Hs → Prop := fun x S2 => match x with
  | .ref i => match S2[i]? with
    | some (.ins C fs) => C ∈ cs ∧ fs.length < 1000 ∧ Q (.nx l) (S2.set i (.ins C (putD f d fs)))
    | _ => False
  | _ => False
theorem v_fldset : Wp X (mFldSet cs f e o l S) Q = Wp X (e l S) (fsK X cs f o l Q) := by
  unfold mFldSet; rw [v_bind]; congr 1; funext d S1; unfold bdK fsK; rw [v_bind]; congr 1; funext x S2; unfold bdK
  cases x with
  | ref i =>
    simp only []
    cases S2[i]? with
    | none => exact v_bad
    | some u =>
      cases u with
      | ins C fs =>
        simp only []
        by_cases h : C ∈ cs
        · by_cases h2 : fs.length < 1000
          · simp only [h, h2, and_self, if_true, true_and]; exact v_ok
          · simp only [h, h2, and_false, if_false, false_and]; exact v_bad
        · simp only [h, if_false, false_and]; exact v_bad
      | _ => exact v_bad
  | _ => exact v_bad
theorem k_fs : fsK X cs f o l Q d S = Wp X (o l S) (fsK2 cs f d l Q) := nr rfl
theorem k_fs2 (h : S[i]? = some (.ins C fs)) : fsK2 cs f d l Q (.ref i) S = (C ∈ cs ∧ fs.length < 1000 ∧ Q (.nx l) (S.set i (.ins C (putD f d fs)))) := by simp only [fsK2, h]
def faK3 (C : Addr) (f : Str) (i : Nat) (l : Ls) (Q : F → Hs → Prop) : D → Hs → Prop := fun z S3 => match S3[i]? with
  | some (.ins C' fs') => C' = C ∧ fs'.length < 1000 ∧ Q (.nx l) (S3.set i (.ins C (putD f z fs')))
  | _ => False
def faK2 (X : XP) (op : D → D → Hs → R D) (C : Addr) (f : Str) (i : Nat) (d0 : D) (l : Ls) (Q : F → Hs → Prop) : D → Hs → Prop := fun d S2 => Wp X (op d0 d S2) (faK3 C f i l Q)
def faK (X : XP) (cs : List Addr) (f : Str) (op : D → D → Hs → R D) (e : M) (l : Ls) (Q : F → Hs → Prop) : D → Hs → Prop := fun x S1 => match x with
  | .ref i => match S1[i]? with
    | some (.ins C fs) => C ∈ cs ∧ (match fs.lookup f with
      | some d0 => Wp X (e l S1) (faK2 X op C f i d0 l Q)
      | none => False)
    | _ => False
  | _ => False
theorem v_fldaug : Wp X (mFldAug cs f op o e l S) Q = Wp X (o l S) (faK X cs f op e l Q) := by
  unfold mFldAug; rw [v_bind]; congr 1; funext x S1; unfold bdK faK
  cases x with
  | ref i =>
    simp only []
    cases S1[i]? with
    | none => exact v_bad
    | some u =>
      cases u with
      | ins C fs =>
        simp only []
        by_cases h : C ∈ cs
        · simp only [h, if_true, true_and]
          cases fs.lookup f with
          | none => exact v_bad
          | some d0 =>
            simp only []
            rw [v_bind]; congr 1; funext d S2; unfold bdK faK2; rw [v_bind]; congr 1; funext z S3; unfold bdK faK3; dsimp only
            cases S3[i]? with
            | none => exact v_bad
            | some u =>
              cases u with
              | ins C' fs' =>
                simp only []
                by_cases h : C' = C
                · by_cases h2 : fs'.length < 1000
                  · simp only [h, h2, and_self, if_true, true_and]; exact v_ok
                  · simp only [h, h2, and_false, if_false, false_and, and_false]; exact v_bad
                · simp only [h, if_false, false_and]; exact v_bad
              | _ => exact v_bad
        · simp only [h, if_false, false_and]; exact v_bad
      | _ => exact v_bad
  | _ => exact v_bad
theorem k_fa2 {d0 : D} : faK2 X op C f i d0 l Q d S = Wp X (op d0 d S) (faK3 C f i l Q) := nr rfl
end
end
end Ly
set_option Elab.async false
set_option linter.all false
set_option maxRecDepth 100000
namespace Ly
open PySem PySem.Spec L2
open PyProof.Rows hiding St
section
variable {K : PySem.W.Frag} {E : St → XK}
end
section
variable {X : Cx} {E : St → XK} {e o : Expr} {f g : M} {fl : ML} {p pos apos cpos : Pos}
end
section
variable {X : XP} {f g : M} {l : Ls} {S : Hs} {x y : D} {Q : D → Hs → Prop}
end
end Ly
set_option Elab.async false
set_option linter.all false
set_option maxRecDepth 100000
set_option maxHeartbeats 4000000
namespace Ly
open PySem PySem.Spec L2
open PyProof.Rows hiding St
section
variable {X : Cx}
end
section
variable {X : Cx} {E : St → XK} {a b : Expr} {f g : M} {pos : Pos}
end
section
variable {X : XP} {op op' : D → D → Hs → R D} {f g h : M} {l : Ls} {S : Hs} {x y z d : D} {Q : Bool → Hs → Prop}
end
end Ly
set_option Elab.async false
set_option linter.all false
set_option maxRecDepth 100000
set_option maxHeartbeats 4000000
namespace Ly
open PySem PySem.Spec L2
open PyProof.Rows hiding St
section
variable {X : Cx}
end
section
variable {X : Cx} {E : St → XK} {e : Expr} {f : M} {p p2 pos pos2 : Pos}
end
end Ly
set_option Elab.async false
set_option linter.all false
set_option maxRecDepth 100000
set_option maxHeartbeats 4000000
namespace Ly
open PySem PySem.Spec L2
open PyProof.Rows hiding St
structure Pr3 where
  p : Addr
  b : Addr
  k : List Key
  v : V
section
variable {X : Cx}
end
section
variable {K : PySem.W.Frag} {E : St → XK} {p : Nat → Addr} {n : Nat} {H : Hp}
end
section
variable {X : Cx} {E : St → XK} {e : Expr} {f : ML} {p pos : Pos}
end
end Ly
set_option Elab.async false
set_option linter.all false
set_option maxRecDepth 100000
namespace Ly
open PySem PySem.Spec L2
open PyProof.Rows hiding St
section
variable {X : Cx} {E : St → XK} {o : Expr} {eo : M} {to : TE} {f : Str} {cs : List Addr} {pos : Pos}
end
section
variable {X : XP} {cs : List Addr} {f : Str} {o : M} {l : Ls} {S : Hs} {i : Nat} {C : Addr} {fs : List (Str × D)} {d x : D} {Q : Ls → Hs → Prop}
end
theorem flats_vals : ∀ {us : List Value} {ds : List D}, us.map absV = ds.map flatC → (ds.all fun d => (flatC d).isSome) = true → ∃ vs : List V, Vals vs us ∧ ∀ K p n H, Reps K p n H ds vs
  | [], [], _, _ => ⟨[], .nil, fun _ _ _ _ => .nil⟩
  | [], _ :: _, h, _ => by cases h
  | _ :: _, [], h, _ => by cases h
  | u :: us, d :: ds, h, k => by
    simp only [List.map_cons, List.cons.injEq] at h
    simp only [List.all_cons, Bool.and_eq_true] at k
    obtain ⟨vs, h1, h2⟩ := flats_vals h.2 k.2
    cases d with
    | int i =>
      cases u <;> first | (have e := h.1; simp only [absV, flatC] at e; cases e; exact ⟨V.int _ :: vs, .cons ⟨_, rfl⟩ h1, fun K p n H => .cons (.int _) (h2 K p n H)⟩) | (have e := h.1; simp only [absV, flatC] at e; cases e)
    | str i =>
      cases u <;> first | (have e := h.1; simp only [absV, flatC] at e; cases e; exact ⟨V.str _ :: vs, .cons ⟨_, rfl⟩ h1, fun K p n H => .cons (.str _) (h2 K p n H)⟩) | (have e := h.1; simp only [absV, flatC] at e; cases e)
    | _ => simp [flatC] at k
theorem gv_flats {K : PySem.W.Frag} {mg : Str → Option Value} {x : Str} {a : Addr} {od : Option Addr} {its : Array Value} {n : Nat} {sl : Array (Option Value)} {ds : List D} (h : mg x = some (.ref a)) (l : K.lookup a = some ⟨.type "tuple", od, .seq its n, sl⟩)
    (e : its.toList.map absV = ds.map flatC) (k : (ds.all fun d => (flatC d).isSome) = true := by rfl) (hz : ds.length ≤ sizeLine := by decide) : GV K mg x (.wt ds) := by
  obtain ⟨vs, h1, h2⟩ := flats_vals e k
  refine ⟨.ref a, .ref a, h, rfl, fun p m H => .wt (xs := vs) ⟨_, its, n, l, rfl, rfl, ?_, h1⟩ (h2 K p m H)⟩
  have := h1.length
  have e2 := congrArg List.length e
  simp only [List.length_map, Array.length_toList] at this e2
  omega
theorem kv_flats {K : PySem.W.Frag} {a : Addr} {od : Option Addr} {its : Array Value} {n : Nat} {sl : Array (Option Value)} {ds : List D} (l : K.lookup a = some ⟨.type "tuple", od, .seq its n, sl⟩)
    (e : its.toList.map absV = ds.map flatC) (k : (ds.all fun d => (flatC d).isSome) = true := by rfl) (hz : ds.length ≤ sizeLine := by decide) : KV K (.ref a) (.wt ds) := by
  obtain ⟨u, v, h1, h2, h3⟩ := gv_flats (K := K) (mg := fun _ => some (.ref a)) (x := "x") rfl l e k hz
  cases h1
  exact ⟨v, h2, h3⟩
theorem FOk.one {K : PySem.W.Frag} {cs : List Addr} {f : Str} {C : Addr} (h : FOk K cs f) (hc : C ∈ cs) : FOk K [C] f := fun C' h' => by
  rw [List.mem_singleton] at h'; subst h'; exact h _ hc
end Ly
set_option Elab.async false
set_option linter.all false
set_option maxRecDepth 100000
set_option maxHeartbeats 4000000
namespace Ly
open PySem PySem.Spec L2
open PyProof.Rows hiding St
section
variable {X : Cx}
end
end Ly
set_option Elab.async false
set_option linter.all false
set_option maxRecDepth 100000
namespace Ly
open PySem PySem.Spec L2
open PyProof.Rows hiding St
section
variable {K : PySem.W.Frag} {E : St → XK}
end
end Ly
set_option Elab.async false
set_option linter.all false
set_option maxRecDepth 100000
namespace Ly
open PySem PySem.Spec L2
open PyProof.Rows hiding St
open RZ
section
variable {X : Cx} {E : St → XK} {e : Expr} {f : M} {p p2 pos pos2 : Pos}
end
end Ly
set_option Elab.async false
set_option linter.all false
set_option maxRecDepth 100000
namespace Ly
open PySem PySem.Spec L2
open PyProof.Rows hiding St
section
variable {prog : Program} {w : World} {A : Around} {E : Value → Shared → Prop} {s : Shared}
end
section
variable {X : Cx} {E : St → XK} {e : Expr} {f : ML} {p pos : Pos}
end
end Ly
set_option Elab.async false
set_option linter.all false
set_option maxRecDepth 100000
namespace Ly
open PySem PySem.Spec L2
open PyProof.Rows hiding St
section
variable {P : Program} {w : World} {A : Around} {E : Value → Shared → Prop} {s : Shared}
set_option maxRecDepth 100000 in
set_option maxHeartbeats 3200000 in
end
section
variable {X : Cx} {E : St → XK} {e : Expr} {f : M} {p p2 pos pos2 : Pos}
end
end Ly
set_option Elab.async false
set_option linter.all false
set_option maxRecDepth 100000
namespace Ly
open PySem PySem.Spec L2
open PyProof.Rows hiding St
section
variable {X : Cx} {E : St → XK} {e c : Expr} {f g : M} {p pos kpos : Pos}
end
end Ly
set_option Elab.async false
set_option linter.all false
set_option maxRecDepth 100000
namespace Ly
open PySem PySem.Spec L2
open PyProof.Rows hiding St
section
variable {prog : Program} {w : World} {A : Around} {E : Value → Shared → Prop} {s : Shared}
end
section
variable {X : Cx}
end
section
variable {X : Cx} {E : St → XK} {pos p2 : Pos} {f : M} {fh : MO}
end
section
variable {X : XP} {f : M} {fh : MO} {l : Ls} {S : Hs} {Q : Ls → Hs → Prop}
end
end Ly
set_option Elab.async false
set_option linter.all false
set_option maxRecDepth 100000
namespace Ly
open PySem PySem.Spec L2
open PyProof.Rows hiding St
end Ly
set_option Elab.async false
set_option linter.all false
set_option maxRecDepth 100000
namespace Ly
open PySem PySem.Spec L2
open PyProof.Rows hiding St
section
variable {X : Cx} {E : St → XK} {f : M} {a tg : Expr} {p0 p1 pos pos1 : Pos}
end
section
variable {X : Cx} {E : St → XK} {elt tg iter tg1 iter1 : Expr} {ifs ifs1 : List Expr} {scope : Scope} {own : List (Str × Nat)} {pos : Pos} {it it1 : MI} {g g1 : TG} {gl gl1 : CG} {tm tm1 : MB} {te : M}
end
end Ly
set_option Elab.async false
set_option linter.all false
set_option maxRecDepth 100000
namespace Ly
open PySem PySem.Spec L2
open PyProof.Rows hiding St
section
variable {X : XP} {Q : D → Hs → Prop} {l : Ls} {S : Hs} {j : J} {gl gl1 : CG} {tt tt1 : MB} {te : M} {it it1 : MI} {vs vs1 : List Nat}
end
section
variable {α β : Type} {X : XP} {P : D → Hs → Prop} {l : Ls} {S : Hs} {gl gl1 : CG} {tt tt1 : MB} {te : M} {it1 : MI} {vs1 : List Nat}
end
end Ly
set_option Elab.async false
set_option linter.all false
set_option maxRecDepth 100000
set_option maxHeartbeats 4000000
namespace LR
open PySem PySem.Spec PyProof.Rows L2 RT
section
variable {prog : Program} {w : World} {A : Around} {E : Value → Shared → Prop} {s : Shared}
end
end LR
namespace L2
open PySem PySem.Spec PyProof.Rows RT
section
variable {X : Cx} {e : Expr} {te : TE} {tr : St → Hp → (Int → Int → Hp → Prop) → Prop} {p p2 pos pos2 : Pos}
end
end L2
namespace Ly
open PySem PySem.Spec L2
open PyProof.Rows hiding St
section
variable {X : Cx} {E : St → XK} {f : M} {a : Expr} {p p2 p3 pos pos2 pos3 : Pos}
end
end Ly
set_option Elab.async false
set_option linter.all false
set_option maxRecDepth 100000
namespace Ly
open PySem PySem.Spec L2
open PyProof.Rows hiding St
section
variable {K : PySem.W.Frag} {E : St → XK} {p : Nat → Addr} {S : Hs} {H : Hp} {n : Nat} {pi : Nat → Addr}
end
end Ly
set_option Elab.async false
set_option linter.all false
set_option maxRecDepth 100000
set_option maxHeartbeats 4000000
namespace Ly
open PySem PySem.Spec L2
open PyProof.Rows hiding St
section
variable {P : Program} {w : World} {K : PySem.W.Frag} {mg : Str → Option Value} {base : Heap}
end
section
variable {X : Cx} {x : Str} {p pos pos' : Pos} {C : Addr} {bmB : List Value} {B newId initId : String} {E0 : XK}
end
end Ly
set_option Elab.async false
set_option linter.all false
set_option maxRecDepth 100000
set_option maxHeartbeats 4000000
namespace Ly
open PySem PySem.Spec L2 PySem.W PySem.Calls
open PyProof.Rows hiding St
section
variable {P : Program} {w : World} {K : PySem.W.Frag} {mg : Str → Option Value} {base : Heap}
end
structure SupF (K : PySem.W.Frag) (prog : Program) (mg : Str → Option Value) (f cc cda D : Addr) (fd : FuncData) (selfn : Str) : Prop where
  fo : ∃ oc od osl, K.lookup f = some ⟨oc, od, .func fd, osl⟩
  par : ∃ ar : Arg, (fd.params.posonlyargs ++ fd.params.args).head? = some ar ∧ ar.arg = selfn
  code : ∃ ccl cdd vs ccs file tf, K.lookup cda = some ⟨ccl, cdd, .fields vs, ccs⟩ ∧ vs[2]? = some (.str file tf) ∧ ((prog.main.file : Str) == file) = true
  cell : ∃ cl cld csl, K.lookup cc = some ⟨cl, cld, .cell (some (.ref D)), csl⟩
  dc : ∃ cdD, PySem.W.clsIn K D = some cdD
  su : mg "super" = none
  top : (prog.main.scope.names.lookup ("super" : Str)).isSome = false
structure SupC (K : PySem.W.Frag) (C D : Addr) : Prop where
  ox : OexC K C
  sub : PySem.W.mroIn K C (.ref D) = some true
  sup : PySem.W.ks_superIn K C D "__init__" = some (some (.builtin "ValueError.__init__"))
  isV : PySem.W.subIn K (.ref C) (.type "ValueError") = some true
  any : PySem.W.nsIn K cStatics "thirdparty.any" = some none
section
variable {X : Cx} {σ : St} {H : Hp} {s : Shared}
end
end Ly
set_option Elab.async false
set_option linter.all false
set_option maxRecDepth 100000
set_option maxHeartbeats 4000000
namespace Ly
open PySem PySem.Spec L2
open PyProof.Rows hiding St
abbrev Cl := Value × Option Nat × (Addr → Value → Option Addr → TS)
inductive HdsA (X : Cx) : List ExceptHandler → List Cl → Prop
  | nil : HdsA X [] []
  | cons {x : Str} {c : Value} {ts : Addr → Value → Option Addr → TS} {b₀ : Stmt} {suite : List Stmt} {np pos' : Pos} {hds : List ExceptHandler} {l : List Cl} (hc : Names X x c)
      (hsu : ∀ (a : Addr) (oe : Obj) (cls : Value) (d : Option Addr) (pn : List (Addr × Obj)), Zc cls d oe → (∃ vs, oe.data = .fields vs) → PSs (X.suite a ((a, oe) :: pn)) (b₀ :: suite) (ts a cls d)) (r : HdsA X hds l) :
      HdsA X (.ExceptHandler (some (.Name x np)) none (b₀ :: suite) pos' :: hds) ((c, none, ts) :: l)
  | as {x n : Str} {c : Value} {i : Nat} {ts : Addr → Value → Option Addr → TS} {b₀ : Stmt} {suite : List Stmt} {np pos' : Pos} {hds : List ExceptHandler} {l : List Cl} (hc : Names X x c) (hi : X.N[i]? = some n) (hln : X.env.kindOf n = some .local)
      (hsu : ∀ (a : Addr) (oe : Obj) (cls : Value) (d : Option Addr) (pn : List (Addr × Obj)), Zc cls d oe → (∃ vs, oe.data = .fields vs) → PSs (X.suite a ((a, oe) :: pn)) (b₀ :: suite) (ts a cls d)) (r : HdsA X hds l) :
      HdsA X (.ExceptHandler (some (.Name x np)) (some n) (b₀ :: suite) pos' :: hds) ((c, some i, ts) :: l)
section
variable {X : Cx} {body : List Stmt} {h₀ : ExceptHandler} {hds : List ExceptHandler} {l : List Cl} {pos : Pos} {tb : WX → TS} {Wout : WX}
end
end Ly
set_option Elab.async false
set_option linter.all false
set_option maxRecDepth 100000
set_option maxHeartbeats 4000000
namespace Ly
open PySem PySem.Spec L2
open PyProof.Rows hiding St
def Grow (H H' : Hp) : Prop := ∀ b u, H b = some u → H' b = some u
section
variable {K : PySem.W.Frag} {pi : Nat → Addr} {n : Nat} {H H' H2 : Hp}
theorem Grow.refl : Grow H H := fun _ _ h => h
theorem Grow.trans (a : Grow H H') (b : Grow H' H2) : Grow H H2 := fun x u h => b x u (a x u h)
theorem Grow.ext (g : Grow H H') : Ext n n pi pi H H' := ⟨Nat.le_refl _, fun _ _ => rfl, fun a xs h => g _ _ h, fun a ob u h => g _ _ h⟩
theorem Grow.upd {p : Addr} {u : HO} (h : H p = none) : Grow H (upd H p u) := fun b v e => by rw [upd_ne (ne_of_none e h)]; exact e
theorem Grow.xf {d : Option Addr} {fs : Option (List (Str × D))} (g : Grow H H') (x : XFs K pi n H d fs) : XFs K pi n H' d fs := by
  cases d with
  | none => cases fs with
    | none => exact True.intro
    | some fs => exact x.elim
  | some d => cases fs with
    | none => exact x.elim
    | some fs => obtain ⟨ks, h1, h2, h3⟩ := x; exact ⟨ks, g _ _ h1, h2, h3.ext g.ext _ _⟩
end
abbrev Gs (α : Type) := Addr → Option (List (Str × D)) → Ls → Option α
abbrev TbH := List (Addr × Bool)
structure InS (K : PySem.W.Frag) (tab : TbH) (oi : Option Nat) (a : Addr) (cls : Value) (d : Option Addr) (σ : St) (H : Hp) (p : Nat → Addr) (n : Nat) (l : Ls) (C : Addr) (fs : Option (List (Str × D))) : Prop where
  cl : cls = .ref C
  mem : (C, true) ∈ tab
  sl : Sl K p n H l σ
  xf : XFs K p n H d fs
  at_ : ∀ i, oi = some i → σ[i]? = some (some (.ref a))
section
variable (K : PySem.W.Frag) (tab : TbH) (oi : Option Nat) (a : Addr) (cls : Value) (d : Option Addr)
def tSS (g : Gs D) : TS := fun D σ H => ∃ p n l C fs v, InS K tab oi a cls d σ H p n l C fs ∧ g C fs l = some v ∧ ∀ u H', Grow H H' → Rep K p n H' v u → D.rt u H'
end
section
variable {K : PySem.W.Frag} {tab : TbH} {oi : Option Nat} {a : Addr} {cls : Value} {d : Option Addr} {σ : St} {H H' : Hp} {p : Nat → Addr} {n : Nat} {l : Ls} {C : Addr} {fs : Option (List (Str × D))}
end
section
variable {Y : Cx} {tab : TbH} {oi : Option Nat} {a : Addr} {cls : Value} {d : Option Addr} {e f : Expr} {es : List Expr} {pos : Pos} {g g1 g2 : Gs D} {gs : Gs (List D)} {b b1 b2 : Gs Bool}
end
section
variable {X : Cx} {tab : TbH} {i : Nat} {a : Addr} {oe : Obj} {cls : Value} {d : Option Addr} {pn : List (Addr × Obj)} {f x c : Str} {p0 p1 p2 p3 pos : Pos}
structure ErC (K : PySem.W.Frag) (C : Addr) : Prop where
  xf : XfC K C
  ex : ExcC K C
theorem XFs.xd {K : PySem.W.Frag} {p : Nat → Addr} {n : Nat} {H : Hp} {fs : Option (List (Str × D))} (x : XFs K p n H d fs) : ∀ dd, d = some dd → ∃ ks, H dd = some (.xd ks) := by
  intro dd e
  subst e
  cases fs with
  | none => exact x.elim
  | some fs => obtain ⟨ks, h1, _⟩ := x; exact ⟨ks, h1⟩
end
structure Cm where
  tab : TbH
  oi : Option Nat
  g : Gs D
def Cm.ls (c : Cm) (l : Ls) : Ls := match c.oi with | none => l | some i => l.set i none
inductive HdsM (X : Cx) : List ExceptHandler → List Cm → Prop
  | nil : HdsM X [] []
  | cons {x : Str} {c : Value} {tab : TbH} {g : Gs D} {b₀ : Stmt} {suite : List Stmt} {np pos' : Pos} {hds : List ExceptHandler} {cl : List Cm} (hc : Names X x c) (T : ∀ q ∈ tab, PySem.W.exmOne X.K (.ref q.1) c = some q.2)
      (hsu : ∀ (a : Addr) (oe : Obj) (cls : Value) (d : Option Addr) (pn : List (Addr × Obj)), Zc cls d oe → (∃ vs, oe.data = .fields vs) → PSs (X.suite a ((a, oe) :: pn)) (b₀ :: suite) (tSS X.K tab none a cls d g)) (r : HdsM X hds cl) :
      HdsM X (.ExceptHandler (some (.Name x np)) none (b₀ :: suite) pos' :: hds) (⟨tab, none, g⟩ :: cl)
  | as {x nm : Str} {c : Value} {i : Nat} {tab : TbH} {g : Gs D} {b₀ : Stmt} {suite : List Stmt} {np pos' : Pos} {hds : List ExceptHandler} {cl : List Cm} (hc : Names X x c) (hi : X.N[i]? = some nm) (hln : X.env.kindOf nm = some .local) (T : ∀ q ∈ tab, PySem.W.exmOne X.K (.ref q.1) c = some q.2)
      (hsu : ∀ (a : Addr) (oe : Obj) (cls : Value) (d : Option Addr) (pn : List (Addr × Obj)), Zc cls d oe → (∃ vs, oe.data = .fields vs) → PSs (X.suite a ((a, oe) :: pn)) (b₀ :: suite) (tSS X.K tab (some i) a cls d g)) (r : HdsM X hds cl) :
      HdsM X (.ExceptHandler (some (.Name x np)) (some nm) (b₀ :: suite) pos' :: hds) (⟨tab, some i, g⟩ :: cl)
section
variable {X : Cx} {E0 : XK} {body : List Stmt} {h₀ : ExceptHandler} {hds : List ExceptHandler} {cl : List Cm} {m : MS} {pos : Pos}
end
end Ly
set_option Elab.async false
set_option linter.all false
set_option maxRecDepth 100000
set_option maxHeartbeats 4000000
namespace Ly
open PySem PySem.Spec L2
open PyProof.Rows hiding St
abbrev Jp := Str ⊕ Nat
def jsW (ws : List V) : List Jp → Str → Prop
  | [], _ => True
  | .inl y :: r, acc => (acc ++ y).length ≤ sizeLine ∧ jsW ws r (acc ++ y)
  | .inr i :: r, acc => (∃ y : Str, ws[i]? = some (.str y) ∧ y.length ≤ sizeLine ∧ (acc ++ y).length ≤ sizeLine ∧ jsW ws r (acc ++ y)) ∨
      ∃ k : Int, ws[i]? = some (.int k) ∧ k.natAbs.log2 < 1920 ∧ (acc ++ Str.ofString (toString k)).length ≤ sizeLine ∧ jsW ws r (acc ++ Str.ofString (toString k))
def jsD (ds : List D) : List Jp → Str → Prop
  | [], _ => True
  | .inl y :: r, acc => (acc ++ y).length ≤ sizeLine ∧ jsD ds r (acc ++ y)
  | .inr i :: r, acc => (∃ y : Str, ds[i]? = some (.str y) ∧ y.length ≤ sizeLine ∧ (acc ++ y).length ≤ sizeLine ∧ jsD ds r (acc ++ y)) ∨
      ∃ k : Int, ds[i]? = some (.int k) ∧ k.natAbs.log2 < 1920 ∧ (acc ++ Str.ofString (toString k)).length ≤ sizeLine ∧ jsD ds r (acc ++ Str.ofString (toString k))
theorem jsD.w {K : PySem.W.Frag} {p : Nat → Addr} {n : Nat} {H : Hp} {ds : List D} {ws : List V} (r : Reps K p n H ds ws) : ∀ {ps : List Jp} {acc : Str}, jsD ds ps acc → jsW ws ps acc
  | [], _, _ => trivial
  | .inl y :: ps, acc, h => ⟨h.1, jsD.w r h.2⟩
  | .inr i :: ps, acc, h => by
    rcases h with ⟨y, e, h1, h2, h3⟩ | ⟨k, e, h1, h2, h3⟩
    · obtain ⟨v, ev, rv⟩ := r.get e
      cases rv
      exact .inl ⟨y, ev, h1, h2, jsD.w r h3⟩
    · obtain ⟨v, ev, rv⟩ := r.get e
      cases rv
      exact .inr ⟨k, ev, h1, h2, jsD.w r h3⟩
inductive JP (N : List Str) : List Expr → List Jp → Prop
  | nil : JP N [] []
  | str {y : Str} {j : Nat} {p : Pos} {es : List Expr} {ps : List Jp} (r : JP N es ps) : JP N (.Constant (.str y) j p :: es) (.inl y :: ps)
  | fmt {x : Str} {i : Nat} {p q : Pos} {es : List Expr} {ps : List Jp} (hN : N[i + 1]? = some x) (hd : (x == ("__debug__" : Str)) = false) (hcd : (x == ("__classdict__" : Str)) = false) (r : JP N es ps) : JP N (.FormattedValue (.Name x p) (-1) none q :: es) (.inr i :: ps)
section
variable {X : Cx} {N : List Str}
end
section
variable {P : Program} {w : World} {K : PySem.W.Frag} {mg : Str → Option Value} {base : Heap}
structure IniAt (K : PySem.W.Frag) (P : Program) (mg : Str → Option Value) (qual : Str) (st : Stmt) (N : List Str) (f D : Addr) (fd : FuncData) : Prop where
  ex : ∃ (oc : Value) (od : Option Addr) (kV doc pm : Value) (an : Option Addr) (cda cc : Addr) (ct : Value) (osl : Array (Option Value)), fd = PySem.W.ksFn "__init__" qual (defArgs st) (defBody st) (defScope st) .none kV doc pm an (.ref cda) ct cc ∧
    K.lookup f = some ⟨oc, od, .func fd, osl⟩ ∧ PySem.W.codeIn K (.ref cda) qual = true ∧ SupF K P mg f cc cda D fd "self"
  sc : (defScope st).isCoroutine = false ∧ (defScope st).isGenerator = false ∧ (defScope st).kind = .function ∧ (∀ x ∈ (defScope st).names, x.2 ≠ .cell) ∧ (∀ y ∈ N, (defScope st).names.lookup y = some .local) ∧
    (∀ y, ((defScope st).names.lookup y = some .cell ∨ (defScope st).names.lookup y = some .free) → y = "__class__") ∧ (defScope st).names.lookup ("super" : Str) = some .globalImplicit ∧ (defScope st).names.lookup ("__class__" : Str) = some .free
  nd : N.Nodup
end
theorem Reps.rev {K : PySem.W.Frag} {p : Nat → Addr} {n : Nat} {H : Hp} {ds : List D} {ws : List V} (r : Reps K p n H ds ws) : Reps K p n H ds.reverse ws.reverse := by
  induction ds generalizing ws with
  | nil => cases r; exact .nil
  | cons d ds ih => cases r with | cons r s => rw [List.reverse_cons, List.reverse_cons]; exact (ih s).append (.cons r .nil)
structure MkE (K : PySem.W.Frag) (C f D : Addr) (fs : List Str) : Prop where
  ox : OexC K C
  sup : SupC K C D
  no : ∀ x ∈ fs, PySem.W.findIn K (.ref C) x = some none
  ini : PySem.W.findIn K (.ref C) "__init__" = some (some (.ref f))
  ty : PySem.W.typeIn K (.ref f) = some (.type "function")
section
variable {X : Cx} {x : Str} {p pos pos' : Pos} {C f D : Addr} {fd : FuncData} {N fs : List Str} {ps : List Jp} {k : Nat} {E0 : XK} {e : Expr} {es : List Expr} {fl : ML}
end
end Ly
set_option Elab.async false
set_option linter.all false
set_option maxRecDepth 100000
namespace Ly
open PySem PySem.Spec L2
open PyProof.Rows hiding St
theorem walk_ofL {l : PySem.W.OpenLaw} {n k : Nat} {q : Program} {loose : List Str} {XP : (Str → Option Value) → Heap → Prop} {YP : World → Heap → Prop} {d : DefRec} {CX : World → CXT} {x : Str}
    (hn : l.most = some n) (hn2 : n ≤ sizeLine) (hdf : d.params.defaults = []) (hr : Room k callerA)
    (F : ∀ (w : World) (mg : Str → Option Value) (fa : Addr) (h : Heap), YP w h → h.Ns mainGlobals mg → mg d.name = some (.ref fa) →
      ∃ (K : PySem.W.Frag) (fd : FuncData) (sp : Sp), K.In h ∧ (∀ (s : Shared) (u : Value), BindsTo s fd ⟨[u], []⟩ [(x, u)]) ∧
        (∀ (H : Hp) (a : Addr) (ns : List Int), ns.length ≤ n → (∀ z ∈ ns, Builtin.Int.intBits z ≤ 1048576) → Only H → SqL K H a (ns.map V.int) → sp [.ref a] H (fun v _ => v = .bl true) fun _ _ _ => False) ∧
        ∀ base : Heap, K.In base → base.Ns mainGlobals mg → FnOk l.prog w K mg base (CX w) k fa fd [x] sp)
    (hCX : ∀ (w : World) (H : Hp) (s : Shared) (e : Value) (s' : Shared), CX w [] H s (fun _ _ _ => False) e s' → False) :
    PySem.W.WalkO q loose XP YP l.row.toRowW d [] (fun f vs => PySem.call f vs) := by
  refine Att.attach_callB hn hdf fun w s₀ s₁ mg mb fa o pm cd doc a vs ns G Y ho hd hcd hmg hobj hints hlen hbits hg => ?_
  obtain ⟨K, fd, sp, KX, hb, hsp, hF⟩ := F w mg fa _ Y G.T.g hmg
  exact law_call KX G.T.g G.T.b G.T.builtins G.T.nolimit hg hobj hints (Nat.le_trans hlen hn2) hr hF hb (fun H hO hS => hsp H a ns hlen hbits hO hS) fun H e s' => hCX w H s₁ e s'
def dcVs (K : PySem.W.Frag) (a : Addr) : List Value := match K.lookup a with
  | some ⟨_, _, .dict es _, _⟩ => es.toList.map (·.val)
  | _ => []
def dcAt (K : PySem.W.Frag) (a : Addr) (i : Nat) : Addr := match (dcVs K a)[i]? with
  | some (.ref b) => b
  | _ => 0
def oT (K : PySem.W.Frag) (a : Addr) : Option (List (Option V)) := match K.lookup a with
  | some ⟨.type c, _, .seq its _, _⟩ => (match decide (c = "tuple") with
    | true => some (its.toList.map absV)
    | false => none)
  | _ => none
def oDV (K : PySem.W.Frag) (a : Addr) : Option (List (Option V)) := some ((dcVs K a).map absV)
def eqVs (a b : List Value) : Bool := decide (a = b)
section
variable {K : PySem.W.Frag} {a : Addr} {x : Str} {w : World} {mg : Str → Option Value} {h : Heap}
theorem oT_ok {L : List (Option V)} (e : oT K a = some L) : ∃ od its n sl, K.lookup a = some ⟨.type "tuple", od, .seq its n, sl⟩ ∧ its.toList.map absV = L := by
  unfold oT at e
  split at e
  · rename_i c od its n sl q
    split at e
    · rename_i hc
      have := of_decide_eq_true hc
      subst this
      exact ⟨od, its, n, sl, q, Option.some.inj e⟩
    · cases e
  · cases e
theorem dicW_look {ks : List Str} (e : He.dicW K a = some (He.keysIn w.params ks)) : ∃ es n, K.lookup a = some ⟨.type "dict", none, .dict es n, #[]⟩ ∧ (a == sysModules) = false ∧ es.toList.map He.keyOf = He.keysIn w.params ks ∧ dcVs K a = es.toList.map (·.val) := by
  unfold He.dicW at e
  split at e
  · rename_i c es n sl q
    split at e
    · rename_i hc
      obtain ⟨z1, z2⟩ := He.ba hc
      obtain ⟨z3, z4⟩ := He.ba z2
      have e1 : c = "dict" := of_decide_eq_true z1
      have e2 : sl = #[] := Array.isEmpty_iff.mp z3
      subst e1 e2
      refine ⟨es, n, q, ?_, Option.some.inj e, by unfold dcVs; rw [q]⟩
      cases y : a == sysModules with
      | false => rfl
      | true => rw [y] at z4; cases z4
    · cases e
  · cases e
end
abbrev AlA : Type := Bool × List (Option (List (Option (Str × Int)))) × List (Option (List (Option V))) × Bool
abbrev FnVC : Type := Option (Str × Str × Arguments × FuncBody × Scope × Addr × List Str × Value × Addr)
def fnObsC (K : PySem.W.Frag) (p : Str × Option Str) : FnVC := match K.lookup (He.fAd K p) with
  | some ⟨_, _, .func fd, _⟩ => some (fd.name, fd.qualname, fd.params, fd.body, fd.scope, fd.globals, fd.closure.map (·.1), fd.defaults, fd.builtins)
  | _ => none
def valC (d : He.FnD) : FnVC := some (d.name, d.qual, d.params, .stmts d.body, d.scope, mainGlobals, ["__class__"], .none, builtinsNs)
abbrev AlB : Type := Bool × List He.FnV × List FnVC
structure Lk where
  fa : List He.Fa
  fn : List He.FnD
  ts : List He.Tab
  xo : List ((PySem.W.Frag → Option (List (Option V))) × List (Option V))
  xb : List (PySem.W.Frag → Bool)
  fc : List He.FnD
def obsA (L : Lk) (K : PySem.W.Frag) : AlA := (L.fa.all fun f => f.ok K, L.ts.map fun t => He.dicW K (t.1 K), L.xo.map fun t => t.1 K, L.xb.all fun f => f K)
def obsB (L : Lk) (K : PySem.W.Frag) : AlB := ((L.fn.all fun d => (He.Fa.code d.at_ d.qual).ok K) && L.fc.all fun d => (He.Fa.code d.at_ d.qual).ok K, L.fn.map fun d => He.fnObs K d.at_, L.fc.map fun d => fnObsC K d.at_)
def valA (L : Lk) (w : World) : AlA := (true, L.ts.map fun t => some (He.keysIn w.params t.2), L.xo.map fun t => some t.2, true)
def valB (L : Lk) : AlB := (true, L.fn.map He.FnD.val, L.fc.map valC)
def SaysL (L : Lk) (w : World) (K : PySem.W.Frag) : Prop := obsA L K = valA L w ∧ obsB L K = valB L
def frL (g : Addr → Option Obj) (n : Nat) : PySem.W.Frag := He.frG g (mainGlobals :: cStatics :: List.range' 10 (n - 10))
def hookL (L : Lk) : PySem.W.Hook where
  α := AlA × AlB
  obs := fun s => (obsA L (frL s.heap.get? s.heap.objs.size), obsB L (frL s.heap.get? s.heap.objs.size))
  val := fun w => (valA L w, valB L)
  says := fun w h => ∃ K : PySem.W.Frag, K.In h ∧ SaysL L w K
  of := fun _ _ e => ⟨_, He.frG_in, congrArg (fun z : AlA × AlB => z.1) e, congrArg (fun z : AlA × AlB => z.2) e⟩
  keeps := fun _ _ _ ⟨K, hK, c⟩ k => ⟨K, PySem.W.Frag.In.keeps hK k, c⟩
noncomputable section
def obA (L : Lk) (s : PySem.W.SharedT) : AlA := obsA L (frL (HandSHeadRun.getT s) s.n)
def obB (L : Lk) (s : PySem.W.SharedT) : AlB := obsB L (frL (HandSHeadRun.getT s) s.n)
theorem obL_eq {L : Lk} (s : PySem.W.SharedT) : (obA L s, obB L s) = (hookL L).obs s.abs := by
  have e : HandSHeadRun.getT s = s.abs.heap.get? := funext (HandSHeadRun.getT_eq s)
  have n : s.abs.heap.objs.size = s.n := PySem.W.absHeap_size _ _ _
  show _ = (obsA L (frL s.abs.heap.get? s.abs.heap.objs.size), obsB L (frL s.abs.heap.get? s.abs.heap.objs.size))
  rw [n, ← e]; rfl
open HandSHeadRun PySem.W PySem.Calls in
def RunA (r : PySem.W.OpenRow) (q : Program) (L : Lk) (M : Nat) (loose : List Str) (w : World) : Prop :=
  ∀ os : OsState, (endF (stepQ (denQ tabQ) r.prog w) M r.prog w os).map (fun s => (looksF r.prog (boot_heap w.params) s.abs, HandSHeadRun.seenQ q loose (importedModules r.prog.main.body) (fun s => PySem.W.xlAt q [] s && PySem.W.recOk r.toRowW.records s) s.abs, obA L s)) = some (true, PySem.W.openGood q loose, valA L w)
open HandSHeadRun PySem.W PySem.Calls in
def RunB (r : PySem.W.OpenRow) (L : Lk) (M : Nat) (w : World) : Prop :=
  ∀ os : OsState, (endF (stepQ (denQ tabQ) r.prog w) M r.prog w os).map (obB L) = some (valB L)
theorem run_ab {r : PySem.W.OpenRow} {q : Program} {L : Lk} {M : Nat} {loose : List Str} {w : World} (a : RunA r q L M loose w) (b : RunB r L M w) : HandSHeadRun.RunEq r q (hookL L) (fun s => (obA L s, obB L s)) M loose w := by
  intro os
  obtain ⟨s, hs, e⟩ := Option.map_eq_some_iff.mp (a os)
  obtain ⟨s2, hs2, e2⟩ := Option.map_eq_some_iff.mp (b os)
  rw [hs] at hs2
  cases hs2
  obtain ⟨e3, e4⟩ := Prod.mk.inj e
  obtain ⟨e5, e6⟩ := Prod.mk.inj e4
  rw [hs]
  show some (_, _, obA L s, obB L s) = some (true, PySem.W.openGood q loose, valA L w, valB L)
  rw [e3, e5, e6, e2]
end
section
variable {L : Lk} {w : World} {K : PySem.W.Frag}
theorem SaysL.fact (c : SaysL L w K) (f : He.Fa) (i : Nat) (h : L.fa[i]? = some f := by rfl) : f.ok K = true :=
  List.all_eq_true.mp (show (L.fa.all fun f => f.ok K) = true from congrArg (fun z : AlA => z.1) c.1) f (List.mem_of_getElem? h)
theorem SaysL.def_ (c : SaysL L w K) (i : Nat) {d : He.FnD} (h : L.fn[i]? = some d := by rfl) :
    ∃ oc od osl kV doc pm an cdv ct, K.lookup (He.fAd K d.at_) = some ⟨oc, od, .func (PySem.W.fnOf d.name d.qual d.params d.body d.scope .none kV doc pm an cdv ct), osl⟩ ∧ PySem.W.codeIn K cdv d.qual = true := by
  have c2 : (L.fn.all fun d => (He.Fa.code d.at_ d.qual).ok K) = true := (Bool.and_eq_true_iff.mp (congrArg (fun z : AlB => z.1) c.2)).1
  have e : L.fn.map (fun d => He.fnObs K d.at_) = L.fn.map He.FnD.val := congrArg (fun z : AlB => z.2.1) c.2
  have e2 : (L.fn.map fun d => He.fnObs K d.at_)[i]? = (L.fn.map He.FnD.val)[i]? := by rw [e]
  rw [List.getElem?_map, List.getElem?_map, h] at e2
  exact He.fn_ok (Option.some.inj e2) (List.all_eq_true.mp c2 d (List.mem_of_getElem? h))
theorem SaysL.tab (c : SaysL L w K) (i : Nat) {t : He.Tab} (h : L.ts[i]? = some t := by rfl) : He.dicW K (t.1 K) = some (He.keysIn w.params t.2) := by
  have e : L.ts.map (fun t => He.dicW K (t.1 K)) = L.ts.map fun t => some (He.keysIn w.params t.2) := congrArg (fun z : AlA => z.2.1) c.1
  have e2 : (L.ts.map fun t => He.dicW K (t.1 K))[i]? = (L.ts.map fun t => some (He.keysIn w.params t.2))[i]? := by rw [e]
  rw [List.getElem?_map, List.getElem?_map, h] at e2
  exact Option.some.inj e2
theorem SaysL.val (c : SaysL L w K) (i : Nat) {t : (PySem.W.Frag → Option (List (Option V))) × List (Option V)} (h : L.xo[i]? = some t := by rfl) : t.1 K = some t.2 := by
  have e : L.xo.map (fun t => t.1 K) = L.xo.map fun t => some t.2 := congrArg (fun z : AlA => z.2.2.1) c.1
  have e2 : (L.xo.map fun t => t.1 K)[i]? = (L.xo.map fun t => some t.2)[i]? := by rw [e]
  rw [List.getElem?_map, List.getElem?_map, h] at e2
  exact Option.some.inj e2
theorem SaysL.chk (c : SaysL L w K) (i : Nat) {f : PySem.W.Frag → Bool} (h : L.xb[i]? = some f := by rfl) : f K = true := by
  have e : (L.xb.all fun f => f K) = true := congrArg (fun z : AlA => z.2.2.2) c.1
  exact List.all_eq_true.mp e f (List.mem_of_getElem? h)
end
end Ly
set_option Elab.async false
set_option linter.all false
set_option maxRecDepth 100000
set_option maxHeartbeats 4000000
namespace Ly
open PySem PySem.Spec L2
open PyProof.Rows hiding St
structure Er0 (K : PySem.W.Frag) (C : Addr) : Prop where
  ex : PySem.W.excIn K C He.veBase "ValueError.__new__" = true
  kp : PySem.W.keepIn K (.ref C) = true
  sb : PySem.W.subIn K (.ref C) (.type "BaseException") = some true
  ty : PySem.W.typeIn K (.ref C) = some (.type "type")
section
variable {P : Program} {w : World} {K : PySem.W.Frag} {mg : Str → Option Value} {base : Heap}
end
section
variable {X : Cx} {x : Str} {p pos pos' : Pos} {C : Addr} {fs : List Str} {ps : List Jp} {E0 : XK} {e : Expr} {es : List Expr} {fl : ML}
end
section
variable {K : PySem.W.Frag} {C D f c : Addr} {fs : List Str} {tab : TbH} {cs : List Addr} {x : Str}
open He (ba eqO_ok)
end
end Ly
set_option Elab.async false
set_option linter.all false
set_option maxRecDepth 100000
namespace Ly
open PySem PySem.Spec L2
open PyProof.Rows hiding St
section
variable {K : PySem.W.Frag} {p : Nat → Addr} {n : Nat} {H H' : Hp}
def TpK (H H' : Hp) : Prop := ∀ a xs, H a = some (.tup xs) → H' a = some (.tup xs)
mutual
theorem Rep.tpk (x : TpK H H') : ∀ (d : D) (v : V), Rep K p n H d v → Rep K p n H' d v
  | .non, _, .non => .non
  | .bl _, _, .bl _ => .bl _
  | .int _, _, .int _ => .int _
  | .str _, _, .str _ => .str _
  | .tup ds, _, .tup t r => .tup (x _ _ t) (Reps.tpk x ds _ r)
  | .wt ds, _, .wt t r => .wt t (Reps.tpk x ds _ r)
  | .wl ds, _, .wl t r => .wl t (Reps.tpk x ds _ r)
  | .ref i, _, .ref h => .ref h
  | .cst _, _, .cst _ => .cst _
theorem Reps.tpk (x : TpK H H') : ∀ (d : List D) (v : List V), Reps K p n H d v → Reps K p n H' d v
  | [], _, .nil => .nil
  | d :: ds, _, .cons r s => .cons (Rep.tpk x d _ r) (Reps.tpk x ds _ s)
end
theorem Sl.tpk (x : TpK H H') {l : Ls} {s : St} (h : Sl K p n H l s) : Sl K p n H' l s := by
  induction h with
  | nil => exact .nil
  | no o _ ih => exact .no o ih
  | yes r _ ih => exact .yes (r.tpk x _ _) ih
theorem RO.tpk (x : TpK H H') {a : Addr} {o : O} (h : RO K p n H a o) (e : H' a = H a) : RO K p n H' a o := by
  cases o with
  | lst ds => obtain ⟨xs, h1, h2⟩ := h; exact ⟨xs, e.trans h1, h2.tpk x _ _⟩
  | rol ds => obtain ⟨o, xs, h1, h2⟩ := h; exact ⟨o, xs, e.trans h1, h2.tpk x _ _⟩
  | dic kvs => obtain ⟨ks, h1, h2, h3⟩ := h; exact ⟨ks, e.trans h1, h2, h3.tpk x _ _⟩
  | dit kvs => obtain ⟨ks, h1, h2, h3⟩ := h; exact ⟨ks, e.trans h1, h2, h3.tpk x _ _⟩
  | ins C fs => obtain ⟨dx, ks, h1, h2, h3⟩ := h; exact ⟨dx, ks, e.trans h1, h2, h3.tpk x _ _⟩
  | fdc kvs => obtain ⟨ob, ks, h1, h2, h3⟩ := h; exact ⟨ob, ks, e.trans h1, h2, h3.tpk x _ _⟩
  | fdt kvs => obtain ⟨ob, ks, h1, h2, h3⟩ := h; exact ⟨ob, ks, e.trans h1, h2, h3.tpk x _ _⟩
theorem Real.swap {S : Hs} {i : Nat} {u : HO} {o : O} (R : Real K p S H) (hi : i < S.length) (x : TpK H (upd H (p i) u)) (h : RO K p S.length (upd H (p i) u) (p i) o) : Real K p (S.set i o) (upd H (p i) u) := by
  refine ⟨fun j o' e => ?_, fun j k hj hk e => R.inj j k (by simpa using hj) (by simpa using hk) e⟩
  rw [List.length_set]
  by_cases hj : j = i
  · subst hj
    rw [List.getElem?_set_self hi] at e
    cases e; exact h
  · rw [List.getElem?_set_ne (Ne.symm hj)] at e
    have hl := (List.getElem?_eq_some_iff.mp e).1
    exact (R.ob j o' e).tpk x (upd_ne fun z => hj (R.inj j i hl hi z))
end
def lockO : O → Option O | .dic kvs => some (.fdc kvs) | .dit kvs => some (.fdt kvs) | _ => none
def unlO : O → Option O | .fdc kvs => some (.dic kvs) | .fdt kvs => some (.dit kvs) | _ => none
def lkd (i : Nat) (S : Hs) : Option Hs := match S[i]? with
  | some o => (lockO o).map fun o' => S.set i o'
  | none => none
def ulk (i : Nat) (S : Hs) : Option Hs := match S[i]? with
  | some o => (unlO o).map fun o' => S.set i o'
  | none => none
def unlR {α : Type} (i : Nat) : R α → R α
  | .ok f S => match ulk i S with
    | some S1 => .ok f S1
    | none => .bad
  | .exc c fs l S => .exc c fs l S
  | .bad => .bad
def mLock (x : M) (t : MS) : MS := fun l S => match x l S with
  | .ok (.ref i) _ => match lkd i S with
    | some S1 => unlR i (t l S1)
    | none => .bad
  | _ => .bad
section
variable {X : Cx} {E : St → XK} {K : PySem.W.Frag} {p : Nat → Addr} {H : Hp} {S S1 : Hs} {l : Ls} {s : St} {i : Nat}
theorem lkd_spec (h : lkd i S = some S1) : (∃ kvs, S[i]? = some (.dic kvs) ∧ S1 = S.set i (.fdc kvs)) ∨ ∃ kvs, S[i]? = some (.dit kvs) ∧ S1 = S.set i (.fdt kvs) := by
  unfold lkd at h
  cases e : S[i]? with
  | none => rw [e] at h; cases h
  | some o =>
    rw [e] at h
    cases o with
    | dic kvs => exact .inl ⟨kvs, rfl, (Option.some.inj h).symm⟩
    | dit kvs => exact .inr ⟨kvs, rfl, (Option.some.inj h).symm⟩
    | _ => cases h
theorem ulk_spec (h : ulk i S = some S1) : (∃ kvs, S[i]? = some (.fdc kvs) ∧ S1 = S.set i (.dic kvs)) ∨ ∃ kvs, S[i]? = some (.fdt kvs) ∧ S1 = S.set i (.dit kvs) := by
  unfold ulk at h
  cases e : S[i]? with
  | none => rw [e] at h; cases h
  | some o =>
    rw [e] at h
    cases o with
    | fdc kvs => exact .inl ⟨kvs, rfl, (Option.some.inj h).symm⟩
    | fdt kvs => exact .inr ⟨kvs, rfl, (Option.some.inj h).symm⟩
    | _ => cases h
theorem lock_R (R : Real K p S H) (h : lkd i S = some S1) : i < S.length ∧ S1.length = S.length ∧ ∃ u, H (p i) = some u ∧ Mut (some u) ∧ (∀ xs, u ≠ .tup xs) ∧ (∀ ob w, u ≠ .frz ob w) ∧ ∀ od, Real K p S1 (upd H (p i) (.frz od u)) := by
  rcases lkd_spec h with ⟨kvs, e, rfl⟩ | ⟨kvs, e, rfl⟩
  · obtain ⟨ks, h1, h2, h3⟩ := R.ob _ _ e
    have hi := Real.lt e
    refine ⟨hi, by simp, _, h1, trivial, fun _ => nofun, fun _ _ => nofun, fun od => R.put hi ⟨od, ks, upd_same, h2, h3.ext (ext_upd (R.notup hi)) _ _⟩⟩
  · obtain ⟨ks, h1, h2, h3⟩ := R.ob _ _ e
    have hi := Real.lt e
    refine ⟨hi, by simp, _, h1, trivial, fun _ => nofun, fun _ _ => nofun, fun od => R.put hi ⟨od, ks, upd_same, h2, h3.ext (ext_upd (R.notup hi)) _ _⟩⟩
theorem unlock_R {od : Obj} {u : HO} (R : Real K p S H) (h : ulk i S = some S1) (e : H (p i) = some (.frz od u)) : S1.length = S.length ∧ TpK H (upd H (p i) u) ∧ Real K p S1 (upd H (p i) u) := by
  have tk : TpK H (upd H (p i) u) := fun a xs q => by
    have : a ≠ p i := by rintro rfl; rw [e] at q; cases q
    rw [upd_ne this]; exact q
  rcases ulk_spec h with ⟨kvs, q, rfl⟩ | ⟨kvs, q, rfl⟩
  · obtain ⟨ob, ks, h1, h2, h3⟩ := R.ob _ _ q
    have hi := Real.lt q
    rw [e] at h1
    injection h1 with h1
    injection h1 with h4 h5
    subst h5
    exact ⟨by simp, tk, R.swap hi tk ⟨ks, upd_same, h2, h3.tpk tk _ _⟩⟩
  · obtain ⟨ob, ks, h1, h2, h3⟩ := R.ob _ _ q
    have hi := Real.lt q
    rw [e] at h1
    injection h1 with h1
    injection h1 with h4 h5
    subst h5
    exact ⟨by simp, tk, R.swap hi tk ⟨ks, upd_same, h2, h3.tpk tk _ _⟩⟩
theorem lock_post {α : Type} {r : R α} {Q Q' : α → Hs → (Nat → Addr) → Hp → Prop} (R : Real K p S H) (h : lkd i S = some S1) {od : Obj} {u : HO} (hu : H (p i) = some u) (n1 : ∀ xs, u ≠ .tup xs) (n2 : ∀ ob w, u ≠ .frz ob w)
    (hp : Post K E S.length p H (unlR i r) Q) (w : ∀ a S2 S3 p2 H2, S3.length = S2.length → H2 (p i) = some (.frz od u) → TpK H2 (upd H2 (p i) u) → Q a S3 p2 (upd H2 (p i) u) → Q' a S2 p2 H2) : Post K E S1.length p (upd H (p i) (.frz od u)) r Q' := by
  obtain ⟨hi, hl, _⟩ := lock_R R h
  have back : ∀ {m p2 H2}, Ext S1.length m p p2 (upd H (p i) (.frz od u)) H2 → Ext S.length m p p2 H H2 := fun {m p2 H2} x => by
    rw [hl] at x
    refine ⟨x.le, x.ag, fun a xs q => x.tp a xs ?_, fun a ob v q => x.fz a ob v ?_⟩
    · have : a ≠ p i := by rintro rfl; rw [hu] at q; exact n1 xs (Option.some.inj q)
      rw [upd_ne this]; exact q
    · have : a ≠ p i := by rintro rfl; rw [hu] at q; exact n2 ob v (Option.some.inj q)
      rw [upd_ne this]; exact q
  cases r with
  | bad => exact hp.elim
  | exc c fs l2 S2 => exact fun p2 H2 v d s x R2 rc rf L => hp p2 H2 v d s (back x) R2 rc rf L
  | ok a S2 =>
    intro p2 H2 x R2
    have hz : H2 (p i) = some (.frz od u) := x.fz _ _ _ upd_same
    have ha : p2 i = p i := x.ag i (by rw [hl]; exact hi)
    unfold unlR at hp
    simp only at hp
    cases e : ulk i S2 with
    | none => rw [e] at hp; exact hp.elim
    | some S3 =>
      rw [e] at hp
      obtain ⟨e1, tk, R3⟩ := unlock_R R2 e (by rw [ha]; exact hz)
      rw [ha] at tk R3
      have x2 := back x
      refine w a S2 S3 p2 H2 e1 hz tk (Post.ok hp ⟨by rw [e1]; exact x2.le, x2.ag, fun b xs q => tk b xs (x2.tp b xs q), fun b ob v q => ?_⟩ R3)
      have : b ≠ p i := by rintro rfl; rw [hu] at q; exact n2 ob v (Option.some.inj q)
      rw [upd_ne this]; exact x2.fz b ob v q
theorem s_lock {st : Stmt} {t : MS} (x : M) (h : SM X E st t) : SM X E st (mLock x t) := ⟨(ps_lock h.ps).weak fun s H D0 ⟨p, l, S, R, L, h⟩ => by
  unfold mLock at h
  split at h
  · rename_i i S0 e0
    split at h
    · rename_i S1 e1
      obtain ⟨hi, hl, u, hu, mu, n1, n2, hR⟩ := lock_R R e1
      refine ⟨p i, u, hu, mu, fun od => ⟨p, l, S1, hR od, ?_, ?_⟩⟩
      · rw [hl]
        refine L.tpk fun a xs q => ?_
        have : a ≠ p i := by rintro rfl; rw [hu] at q; exact n1 xs (Option.some.inj q)
        rw [upd_ne this]; exact q
      · refine lock_post R e1 hu n1 n2 h fun f S2 S3 p2 H2 e2 hz tk q => ?_
        cases f with
        | nx l2 => exact fun s L => ⟨hz, q s (by rw [e2]; exact L.tpk tk)⟩
        | rt d => exact fun v r => ⟨hz, q v (by rw [e2]; exact r.tpk tk _ _)⟩
        | bk l2 => exact fun s L => ⟨hz, q s (by rw [e2]; exact L.tpk tk)⟩
        | ct l2 => exact fun s L => ⟨hz, q s (by rw [e2]; exact L.tpk tk)⟩
    · exact h.elim
  · exact h.elim⟩
end
end Ly
set_option Elab.async false
set_option linter.all false
set_option maxRecDepth 100000
namespace Ly
open PySem PySem.Spec L2
open PyProof.Rows hiding St
open L2.DX
section
variable {prog : Program} {w : World} {K : Type} [DecidableEq K] {knd : KeyKind prog w K} {A : Around} {E : Value → Shared → Prop} {s : Shared}
theorem tup_not_none {k : List K} {b : Addr} {A : Around} {s : Shared} {Q : Bool → Shared → Prop} (hu : A.units < cLine) (h : (tupleKind knd).is s.heap k b) (hq : Q false s) : wpAny (model prog w) A (PySem.eqBool (.ref b) .none) Q E s := by
  obtain ⟨o, vs, n, h1, h2, h3, h4⟩ := h
  exact SeqAt.EqAt.tuple_none ⟨_, h1, h2, _, h3⟩ hu _ _ _ _ hq
theorem find_none {d : Addr} {o : Obj} {es ep} {xs : List (List K × Addr × Value)} {z : Int} {Q : Option Nat → Shared → Prop} (hu : A.units < cLine)
    (ho : s.heap.get? d = some o) (hd : o.data = .dict es ep) (he : es.toList = xs.map (entryOfKey (tupleKind knd))) (his : ∀ x ∈ xs, (tupleKind knd).is s.heap x.1 x.2.1)
    (hq : Q none s) : wpAny (model prog w) A (dictFind d .none z) Q E s := by
  have hmem : ∀ e ∈ es, ∃ x ∈ xs, e = entryOfKey (tupleKind knd) x := by
    intro e hin
    have : e ∈ xs.map (entryOfKey (tupleKind knd)) := he ▸ Array.mem_toList_iff.mpr hin
    obtain ⟨x, hx, rfl⟩ := List.mem_map.mp this
    exact ⟨x, hx, rfl⟩
  have hst : ∀ v ∈ (placesWithHash es.size (fun i => es[i]?.map (·.hash)) z).filterMap (fun i => es[i]?.map (·.key)), ∃ k' b, v = .ref b ∧ (tupleKind knd).is s.heap k' b := by
    intro v hv
    obtain ⟨i, _, hi⟩ := List.mem_filterMap.mp hv
    cases hei : es[i]? with
    | none => rw [hei] at hi; cases hi
    | some e =>
      rw [hei] at hi
      obtain rfl : e.key = v := by simpa using hi
      obtain ⟨x, hx, rfl⟩ := hmem e (Array.mem_of_getElem? hei)
      exact ⟨x.1, x.2.1, rfl, his x hx⟩
  unfold dictFind
  try with_reducible refine wpAny_holding ?_
  refine wpAny_bind (wpAny_dictEntries ho hd ?_)
  dsimp only
  by_cases hall : ((Value.none :: (placesWithHash es.size (fun i => es[i]?.map (·.hash)) z).filterMap (fun i => es[i]?.map (·.key))).all carriedByValue) = true
  · rw [if_pos hall]
    have hno : placesWithHash es.size (fun i => es[i]?.map (·.hash)) z = [] := by
      cases hp : placesWithHash es.size (fun i => es[i]?.map (·.hash)) z with
      | nil => rfl
      | cons i r =>
        exfalso
        have hi : i ∈ placesWithHash es.size (fun i => es[i]?.map (·.hash)) z := by rw [hp]; simp
        have hlt : i < es.size := by
          unfold placesWithHash at hi
          exact List.mem_range.mp (List.mem_filter.mp hi).1
        have hv : (es[i]'hlt).key ∈ (placesWithHash es.size (fun i => es[i]?.map (·.hash)) z).filterMap (fun i => es[i]?.map (·.key)) := List.mem_filterMap.mpr ⟨i, hi, by simp [hlt]⟩
        obtain ⟨k', b, e, _⟩ := hst _ hv
        have := List.all_eq_true.mp hall _ (List.mem_cons_of_mem _ hv)
        rw [e] at this
        cases this
    rw [hno]
    exact wpAny_bind (wpAny_pure (wpAny_pure hq))
  · rw [if_neg hall]
    have quiet : ∀ (Q : Bool → Shared → Prop), Q false s → wpAny (model prog w) A (tableMayTell .none ((placesWithHash es.size (fun i => es[i]?.map (·.hash)) z).filterMap (fun i => es[i]?.map (·.key)))) Q E s := by
      intro Q h
      unfold tableMayTell
      split
      · exact wpAny_pure h
      · refine wpAny_bind ((QuietAt.byValue (prog := prog) (w := w) (n := 8) (s := s) (v := .none) rfl) _ _ _ ?_)
        simp only [Bool.not_true, Bool.false_eq_true, if_false]
        refine wpAny_bind ?_
        refine wpAny_forIn_list _ (fun rest r s' => s' = s ∧ r = (none, ()) ∧ ∀ v ∈ rest, ∃ k' b, v = .ref b ∧ (tupleKind knd).is s.heap k' b) _ ?_ ?_ _ _ ⟨rfl, rfl, hst⟩
        · rintro x rest r s' ⟨rfl, rfl, hr⟩
          obtain ⟨k', b, rfl, hb⟩ := hr x List.mem_cons_self
          refine wpAny_bind ((tupleKind knd).quiet hb ?_)
          simp only [Bool.not_true, Bool.false_eq_true, if_false]
          exact wpAny_pure ⟨rfl, rfl, fun v hv => hr v (List.mem_cons_of_mem _ hv)⟩
        · rintro r s' ⟨rfl, rfl, _⟩
          exact wpAny_pure h
    have hn1 : ((placesWithHash es.size (fun i => es[i]?.map (·.hash)) z).filterMap (fun i => es[i]?.map (·.key)) == [Value.none]) = false := by
      cases e : (placesWithHash es.size (fun i => es[i]?.map (·.hash)) z).filterMap (fun i => es[i]?.map (·.key)) with
      | nil => rfl
      | cons v r =>
        obtain ⟨k', b, rfl, _⟩ := hst v (by rw [e]; simp)
        simp
    rw [hn1]
    simp only [Bool.false_eq_true, if_false]
    refine wpAny_bind (quiet _ ?_)
    rw [if_neg (by simp)]
    refine wpAny_bind ?_
    refine wpAny_forIn_list _ (fun rest b s' => s' = s ∧ b = (none, none)) _ ?_ ?_ _ _ ⟨rfl, rfl⟩
    · rintro x rest b s' ⟨rfl, rfl⟩
      cases hei : es[x]? with
      | none => exact wpAny_pure ⟨rfl, rfl⟩
      | some e =>
        obtain ⟨y, hy, rfl⟩ := hmem e (Array.mem_of_getElem? hei)
        dsimp only
        by_cases hh : ((entryOfKey (tupleKind knd) y).hash == z) = true
        · rw [if_pos hh]
          refine wpAny_bind (wpAny_dictEpoch ho hd (wpAny_bind (tup_not_none hu (his y hy) (wpAny_bind (wpAny_dictEpoch ho hd ?_)))))
          rw [if_neg (by simp)]
          simp only [Bool.false_eq_true, if_false]
          refine wpAny_bind (wpAny_rule ?_)
          first
            | exact wpAny_pure ⟨rfl, rfl⟩
            | exact wpAny_bind (wpAny_pure (wpAny_pure ⟨rfl, rfl⟩))
        · rw [if_neg hh]
          exact wpAny_pure ⟨rfl, rfl⟩
    · rintro b s' ⟨rfl, rfl⟩
      exact wpAny_pure hq
theorem in_none {d : Addr} {xs : List (List K × Addr × Value)} {Q : Value → Shared → Prop} (hu : A.units + 1 < cLine) (hd : (d == sysModules) = false) (hm : s.heap.DictOfH (tupleKind knd) d xs)
    (h : ∀ n, Q (.bool false) { s with toks := n }) : wpAny (model prog w) A (compareOp .In .none (.ref d)) Q E s := by
  show wpAny _ _ (do return .bool (← contains (.ref d) .none)) Q E s
  refine wpAny_bind ?_
  unfold contains
  try with_reducible refine wpAny_holding ?_
  refine wpAny_bind (wpAny_specialOf hm.typeIs slot_dict_contains.lookup ?_)
  show wpAny _ _ (if (some (Value.builtin "dict.__contains__") == some Value.none) = true then _ else _) _ E s
  rw [if_neg (by rw [beq_builtin_none]; exact Bool.false_ne_true)]
  refine wpAny_bind (wpAny_callSpecialUnlessNone?_slot (name := Str.ofString "__contains__") hm.typeIs slot_dict_contains
    (wpAny_call_entry slot_dict_contains hm.typeIs entry_dict_contains ?_ (args_dict_contains _ _)))
  show wpAny _ _ (dictGet d .none >>= _) _ _ s
  obtain ⟨o, es, ep, ho, _, hdt, he, his, hn⟩ := hm
  refine wpAny_bind ?_
  unfold dictGet
  try with_reducible refine wpAny_holding ?_
  refine wpAny_bind (pyHash_key .none .none _ _ _ .none (by simp only [NestedKey.depth, Around.in1_units]; omega) ?_)
  refine wpAny_bind (find_none (s := { s with toks := s.toks + NestedKey.draws .none }) (by simp only [Around.in1_units]; omega) ho hdt he his ?_)
  refine wpAny_pure ?_
  show wpAny _ _ (Builtin.Dict.pendingKey? d .none >>= _) _ _ _
  exact wpAny_bind (wpAny_pendingKey_other hd (wpAny_pure ⟨_, rfl, wpAny_truthy_bool (wpAny_pure (h _))⟩))
end
abbrev rInT : R2 := fun x y H Q => ∃ a kvs, x = .non ∧ y = .ref a ∧ Rd H a (.dT kvs) ∧ Q (.bl false) H
theorem or_inT {X : Cx} (hu : X.A.units + 1 < cLine) : OpR X (compareOp .In) rInT := by
  intro pins s σ H x y v u Q I rx ry h
  obtain ⟨a, kvs, rfl, rfl, e, q⟩ := h
  obtain rfl : u = Value.ref a := ry
  obtain rfl : v = Value.none := rx
  obtain ⟨z, hd, xs, rel, dd⟩ := dt_rd I.hok e
  exact in_none hu hd dd fun n => ⟨.bl false, H, I.tok n, rfl, q⟩
def oInN (x y : D) (S : Hs) : R D := match x, y with
  | .non, .ref i => match S[i]? with
    | some (.dit _) => .ok (.bl false) S
    | _ => oIn x y S
  | _, _ => oIn x y S
theorem ok_inN {K : PySem.W.Frag} {E : St → XK} : OpOk K E (orR (rInAll K) rInT) oInN := by
  intro p S H x y v u Q R rx ry h
  unfold oInN at h
  split at h
  · rename_i i
    split at h
    · rename_i kvs q
      obtain ⟨ks, h1, h2, h3⟩ := R.ob i _ q
      cases rx; cases ry
      exact .inr ⟨_, ks, rfl, rfl, .inl h1, h.val R (.bl _)⟩
    · exact .inl (ok_in p S H _ _ _ _ Q R rx ry h)
  · exact .inl (ok_in p S H _ _ _ _ Q R rx ry h)
theorem or_inN {X : Cx} {k : Nat} (hr : Room k X.A) : OpR X (compareOp .In) (orR (rInAll X.K) rInT) := OpR.or (or_inAll hr) (or_inT (hu_of hr))
def dropT (kvs : List (List Key × D)) (k : List Key) : List (List Key × D) := kvs.filter fun kv => decide (kv.1 ≠ k)
theorem dropT_V {K : PySem.W.Frag} {p : Nat → Addr} {n : Nat} {H : Hp} {kvs : List (List Key × D)} {ks : List (List Key × V)} (h : ks.map (·.1) = kvs.map (·.1)) (r : Reps K p n H (kvs.map (·.2)) (ks.map (·.2))) (k : List Key) :
    (dropK ks k).map (·.1) = (dropT kvs k).map (·.1) ∧ Reps K p n H ((dropT kvs k).map (·.2)) ((dropK ks k).map (·.2)) := by
  induction kvs generalizing ks with
  | nil => cases ks with | nil => exact ⟨rfl, .nil⟩ | cons a b => cases h
  | cons a kvs ih =>
    cases ks with
    | nil => cases h
    | cons b ks =>
      simp only [List.map_cons, List.cons.injEq] at h
      cases r with
      | cons r0 rs =>
        obtain ⟨e1, e2⟩ := ih h.2 rs
        unfold dropK dropT at *
        simp only [List.filter_cons, h.1]
        split
        · exact ⟨by simp only [List.map_cons, h.1, e1], .cons r0 e2⟩
        · exact ⟨e1, e2⟩
def oPopT (x : D) (ds : List D) (S : Hs) : R D := match x, ds with
  | .ref i, [y, z] => match S[i]?, y.tkey with
    | some (.dit kvs), some k => match getK kvs k with
      | some d => .ok d (S.set i (.dit (dropT kvs k)))
      | none => .ok z S
    | _, _ => .bad
  | _, _ => .bad
theorem ok_popT {K : PySem.W.Frag} {E : St → XK} : MtOk K E rPopT oPopT := by
  intro p S H x v ds vs Q R rx r h
  unfold oPopT at h
  split at h
  · rename_i i y z
    split at h
    · rename_i kvs k q ek
      obtain ⟨ks, h1, h2, h3⟩ := R.ob _ _ q
      have hi := Real.lt q
      cases rx
      cases r with
      | cons r0 rs =>
      cases rs with
      | cons r1 rs =>
      cases rs
      unfold D.tkey at ek
      split at ek
      · cases r0 with
        | @tup b _ us t r0 =>
        have gk := getK_V h2 h3 k
        refine ⟨_, ks, k, b, _, rfl, rfl, h1, by rw [← keys_V r0 ek]; exact t, fun v hv => ?_, fun hv => ?_⟩
        · rw [hv] at gk
          split at h
          · rename_i dd eg
            rw [eg] at gk
            obtain ⟨w, ew, rw'⟩ := gk
            cases ew
            have xu : ∀ u, Ext S.length S.length p p H (upd H (p i) u) := fun u => ext_upd (R.notup hi)
            obtain ⟨g1, g2⟩ := dropT_V h2 h3 k
            exact h.put R hi ⟨_, upd_same, g1, g2.ext (xu _) _ _⟩ (rw'.ext (xu _) _ _)
          · rename_i eg
            rw [eg] at gk
            cases gk
        · rw [hv] at gk
          split at h
          · rename_i dd eg
            rw [eg] at gk
            obtain ⟨w, ew, _⟩ := gk
            cases ew
          · exact h.val R r1
      · cases ek
    · exact h.elim
  · exact h.elim
end Ly
set_option Elab.async false
set_option linter.all false
set_option maxRecDepth 100000
namespace Ly
open PySem PySem.Spec L2
open PyProof.Rows hiding St
section
variable {X : XP} {l : Ls} {S S1 : Hs} {Q : F → Hs → Prop} {QD : D → Hs → Prop} {x : M} {t : MS} {te : M} {j : Nat}
theorem v_lockT {L : List (List Key × D)} (hx : x l S = .ok (.ref j) S1) (hj : S[j]? = some (.dit L)) (h : Wp X (t l (S.set j (.fdt L))) fun f S2 => ∃ L2, S2[j]? = some (.fdt L2) ∧ Q f (S2.set j (.dit L2))) : Wp X (mLock x t l S) Q := by
  have e1 : lkd j S = some (S.set j (.fdt L)) := by unfold lkd; rw [hj]; rfl
  have e : mLock x t l S = unlR j (t l (S.set j (.fdt L))) := by unfold mLock; rw [hx]; simp only [e1]
  rw [e]
  generalize t l (S.set j (.fdt L)) = r at h ⊢
  cases r with
  | bad => exact ⟨h.1⟩
  | exc c fs l2 S2 => exact ⟨h.1⟩
  | ok f S2 =>
    obtain ⟨⟨L2, h1, h2⟩⟩ := h
    have : ulk j S2 = some (S2.set j (.dit L2)) := by unfold ulk; rw [h1]; rfl
    simp only [unlR, this]
    exact ⟨h2⟩
theorem wp_fkT {L : List (List Key × D)} {gg : MG} {b : MS} (Inv : List (List Key × D) → Ls → Hs → Prop) (hq : ∀ pre l S, Inv pre l S → S[j]? = some (.fdt L)) (h0 : Inv [] l S)
    (hs : ∀ pre x post l S, L = pre ++ x :: post → Inv pre l S → Wp X (gg (.tup (x.1.map kD)) l S) fun l1 S1 => Wp X (b l1 S1) (tuK (Inv (pre ++ [x])) Q)) (hd : ∀ l S, Inv L l S → Q (.nx l) S) : Wp X (fLoop (.fk j) gg b 0 l S) Q := by
  refine wp_fLoop L.length (fun k l S => Inv (L.take k) l S) (fun l S h => by simp [itGo, hq _ _ _ h]) (fun k l S hk h => ?_) (fun l S h => hd l S (by simpa using h)) L.length 0 l S (by omega) h0
  have e : L[k]? = some L[k] := List.getElem?_eq_getElem hk
  refine ⟨_, by simp [itGo, hq _ _ _ h, e]; rfl, ?_⟩
  have := hs _ _ _ l S (split_at e) h
  rwa [← take_at e] at this
theorem oIt_fdt {L : List (List Key × D)} (h : S[j]? = some (.fdt L)) : oIt (.ref j) S = .ok (.fk j) S := by simp [oIt, seqAt, seqD, h]
theorem oPopT_some {kvs : List (List Key × D)} {y z d : D} {k : List Key} (h : S[j]? = some (.dit kvs)) (hk : y.tkey = some k) (hg : getK kvs k = some d) : oPopT (.ref j) [y, z] S = .ok d (S.set j (.dit (dropT kvs k))) := by simp [oPopT, h, hk, hg]
theorem oPopT_none {kvs : List (List Key × D)} {y z : D} {k : List Key} (h : S[j]? = some (.dit kvs)) (hk : y.tkey = some k) (hg : getK kvs k = none) : oPopT (.ref j) [y, z] S = .ok z S := by simp [oPopT, h, hk, hg]
end
theorem getK_none {κ : Type} [DecidableEq κ] {kvs : List (κ × D)} {k : κ} (h : getK kvs k = none) : ∀ q ∈ kvs, q.1 ≠ k := by
  intro q hq e
  unfold getK at h
  rw [Option.map_eq_none_iff, List.find?_eq_none] at h
  exact h q hq (by simp [e])
theorem dropT_none {kvs : List (List Key × D)} {k : List Key} (h : getK kvs k = none) : dropT kvs k = kvs := by
  unfold dropT
  rw [List.filter_eq_self]
  intro q hq
  simpa using getK_none h q hq
end Ly
set_option Elab.async false
set_option linter.all false
set_option maxRecDepth 100000
namespace Ly
open PySem PySem.Spec L2
open PyProof.Rows hiding St
local macro_rules | `(tactic| simp_arith [$ls,*]) => `(tactic| simp only [Ly.line_le, Ly.atX_no, Ly.v_ok, Ly.v_bad, Ly.v_bind, Ly.k_bd, Ly.v_at, Ly.v_bin, Ly.k_bi, Ly.k_bi2, Ly.v_var, Ly.v_c, Ly.v_un, Ly.k_un, Ly.v_if, Ly.k_ife, Ly.v_and, Ly.k_and, Ly.k_and2, Ly.v_or, Ly.k_or, Ly.k_or2, Ly.v_tup, Ly.k_tup, Ly.v_lst, Ly.k_lst, Ly.v_call, Ly.k_ca, Ly.v_fn, Ly.k_fn, Ly.v_bm, Ly.k_bm, Ly.k_bm2, Ly.v_sl, Ly.k_sl, Ly.k_sl2, Ly.k_sl3, Ly.v_ixK, Ly.k_ixk, Ly.v_inK, Ly.k_ink, Ly.v_notinK, Ly.k_nink, Ly.v_getK2, Ly.k_gk2, Ly.k_gk, Ly.v_get2, Ly.k_g2, Ly.k_g22, Ly.k_g23, Ly.v_nil, Ly.v_cons, Ly.k_co, Ly.k_co2, Ly.v_no, Ly.v_some, Ly.k_so, Ly.k_cm, Ly.v_cmp, Ly.v_tru, Ly.k_tr, Ly.v_notB, Ly.k_no, Ly.v_andB, Ly.k_an, Ly.v_orB, Ly.k_orb, Ly.v_yes, Ly.v_inKB, Ly.k_inkB, Ly.v_notinKB, Ly.k_ninkB, Ly.v_set, Ly.k_st, Ly.v_expr, Ly.k_ex, Ly.v_ret, Ly.k_re, Ly.v_retN, Ly.v_pass, Ly.v_brk, Ly.v_cnt, Ly.v_seq, Ly.k_sq_nx, Ly.k_sq_rt, Ly.k_sq_bk, Ly.k_sq_ct, Ly.v_ifS, Ly.k_ifs, Ly.v_asg, Ly.k_as, Ly.k_as2, Ly.v_aug, Ly.k_au, Ly.v_for, Ly.k_fo, Ly.v_it, Ly.k_it, Ly.k_ij, Ly.v_rng1, Ly.v_rng2, Ly.v_enum, Ly.v_zip, Ly.v_ez, Ly.v_gN, Ly.v_gsN, Ly.v_gsC, Ly.k_gc, Ly.v_gT, Ly.v_gTw, Ly.v_gSb, Ly.k_gsb, Ly.k_gsb2, Ly.k_gsb3, Ly.k_en_rt, Ly.k_en_nx, Ly.k_tu_nx, Ly.k_tu_ct, Ly.k_tu_bk, Ly.k_tu_rt, Ly.v_lc, Ly.k_lc, Ly.v_augI, Ly.k_ag, Ly.k_ag2, Ly.k_ag3, Ly.k_ag4, Ly.k_ag5, Ly.v_del, Ly.k_dl, Ly.k_dl2, Ly.v_setd, Ly.v_pop2, Ly.k_d3, Ly.k_d32, Ly.k_d33, Ly.v_get1, Ly.k_g1, Ly.k_g12, Ly.v_rg1, Ly.k_rg, Ly.v_rg2, Ly.k_rg2, Ly.k_rg22, Ly.v_dicK, Ly.v_dicT, Ly.v_dc, Ly.k_dc, List.getElem?_cons_zero, List.getElem?_cons_succ, List.set_cons_zero, List.set_cons_succ, List.length_cons, List.length_nil, List.map_cons, List.map_nil, List.cons_append, List.nil_append, List.replicate, if_true, if_false, Bool.false_eq_true, Bool.not_true, Bool.not_false, Bool.true_and, Bool.false_and, decide_true, decide_false, decide_eq_true_eq, Nat.zero_add, Nat.reduceAdd, Nat.reduceLeDiff, true_and, and_true, $ls,*])
def nxK (j : Nat) (a : Int) : List (Key × D) := [(.inr "draws", .ref j), (.inr "at", .int a)]
structure Nxt (S : Hs) (i j : Nat) (row : List Int) (a : Int) : Prop where
  d : S[i]? = some (.dic (nxK j a))
  r : S[j]? = some (.lst (row.map D.int))
  ne : i ≠ j
  nn : 0 ≤ a
def NxtA (S : Hs) (i j : Nat) (row : List Int) : Prop := ∃ a, Nxt S i j row a
theorem key_str {x : Str} : (D.str x).key = some (.inr x) := nr rfl
theorem key_int {x : Int} : (D.int x).key = some (.inl x) := nr rfl
theorem oIx_dic {S : Hs} {i : Nat} {kvs : List (Key × D)} {y d : D} {k : Key} (h : S[i]? = some (.dic kvs)) (hk : y.key = some k) (hg : getK kvs k = some d) : oIx (.ref i) y S = .ok d S := by
  simp [oIx, h, dGet, hk, hg]
theorem dGet_dic {S : Hs} {i : Nat} {kvs : List (Key × D)} {y : D} {k : Key} (h : S[i]? = some (.dic kvs)) (hk : y.key = some k) : dGet (.ref i) y S = some (getK kvs k) := by
  simp [h, dGet, hk]
theorem oSet_dic {S : Hs} {i : Nat} {kvs : List (Key × D)} {y d : D} {k : Key} (h : S[i]? = some (.dic kvs)) (hk : y.key = some k) (hl : kvs.length < sizeLine) : oSet (.ref i) y d S = .ok () (S.set i (.dic (setK kvs k d))) := by
  simp [oSet, h, hk, hl]
theorem bLen_lst {S : Hs} {i : Nat} {ds : List D} (h : S[i]? = some (.lst ds)) : bLen [.ref i] S = .ok (.int ds.length) S := by simp [bLen, lenD, h]
theorem oIx_lst {S : Hs} {i : Nat} {ds : List D} {k : Int} {d : D} (h : S[i]? = some (.lst ds)) (h0 : 0 ≤ k) (h1 : k < (ds.length : Int)) (hd : ds[k.toNat]? = some d) : oIx (.ref i) (.int k) S = .ok d S :=
  oIx_seq (by simp [seqD, h]) h0 h1 hd
theorem oGt_int {a b : Int} {S : Hs} : oGt (.int a) (.int b) S = .ok (.bl (decide (b < a))) S := nr rfl
theorem oGe_int {a b : Int} {S : Hs} : oGe (.int a) (.int b) S = .ok (.bl (decide (b ≤ a))) S := nr rfl
theorem bInt_int {a : Int} {S : Hs} : bInt [.int a] S = .ok (.int a) S := nr rfl
theorem oMod_int {a b : Int} {S : Hs} (h : 0 < b) : oMod (.int a) (.int b) S = .ok (.int (a % b)) S := by simp [oMod, h]
def lb_dr0 : MS := (mIfS (mCmp oGt (mVar 6) (mC (.int 0))) (mSeq (mExpr (mBM "list" oAppend (mVar 2) (lCons (mBin oMod (mCall bInt (lCons (mVar 6) lNil)) (mC (.int 997))) lNil)))
    (mSet 6 (mBin oFdiv (mVar 6) (mC (.int 997))))) mPass)
noncomputable def lb_dr1 : MS := (mSeq (mSet 5 (mCall bAbs (lCons (mCall bInt (lCons (mBin oIx (mVar 0) (mVar 4)) lNil)) lNil)))
    (mSeq (mSet 3 (mBin oMod (mCall bInt (lCons (mBin oAdd (mBin oAdd (mBin oMul (mVar 3) (mC (.int 48271))) (mBin oMod (mVar 5) (mC (.int 1000003)))) (mVar 4)) lNil)) (mC (.int 65537))))
    (mSeq (mSet 6 (mC (.int 0)))
    (mSeq (mIfS (mCmp oGe (mVar 5) (mBin oPow (mC (.int 10)) (mC (.int 18)))) (mSet 6 (mVar 5)) (mSeq (mExpr (mBM "list" oAppend (mVar 2) (lCons (mBin oMod (mCall bInt (lCons (mVar 5) lNil)) (mC (.int 997))) lNil)))
    (mExpr (mBM "list" oAppend (mVar 2) (lCons (mBin oMod (mBin oMod (mCall bInt (lCons (mBin oAdd (mBin oMul (mVar 3) (mC (.int 69621))) (mC (.int 5))) lNil)) (mC (.int 65521))) (mC (.int 997))) lNil)))))
    (mFor (mRng1 (lCons (mC (.int 60)) lNil)) (gN 7) lb_dr0)))))
noncomputable def lb_dr2 : MS := (mSeq (mSet 3 (mBin oMod (mCall bInt (lCons (mBin oAdd (mBin oAdd (mBin oMul (mVar 3) (mC (.int 16807))) (mVar 4)) (mC (.int 1))) lNil)) (mC (.int 65537))))
    (mExpr (mBM "list" oAppend (mVar 2) (lCons (mBin oMod (mCall bInt (lCons (mVar 3) lNil)) (mC (.int 997))) lNil))))
noncomputable def b_draws : MS := (mSeq (mSet 2 (mLst lNil))
    (mSeq (mSet 3 (mC (.int 7)))
    (mSeq (mFor (mRng1 (lCons (mCall bLen (lCons (mVar 0) lNil)) lNil)) (gN 4) lb_dr1)
    (mSeq (mFor (mRng1 (lCons (mVar 1) lNil)) (gN 4) lb_dr2)
    (mRet (mSl (mVar 2) oNo (oSome (mVar 1))))))))
def OutL (S0 : Hs) (q n : Nat) (S : Hs) : Prop := ∃ row : List Int, S[q]? = some (.lst (row.map D.int)) ∧ row.length ≤ n ∧ Kp [] S0 S ∧ S0.length ≤ q
theorem hasTy_lst {S : Hs} {i : Nat} {ds : List D} (h : S[i]? = some (.lst ds)) : hasTy "list" (.ref i) S = true := by simp [hasTy, h]
theorem oAppend_lst {S : Hs} {i : Nat} {ds : List D} {d : D} (h : S[i]? = some (.lst ds)) (hl : ds.length < sizeLine) : oAppend (.ref i) [d] S = .ok .non (S.set i (.lst (ds ++ [d]))) := by simp [oAppend, h, hl]
theorem OutL.push {S0 S : Hs} {q n : Nat} {row : List Int} {v : Int} (h : S[q]? = some (.lst (row.map D.int))) (hl : row.length ≤ n) (k : Kp [] S0 S) (hq : S0.length ≤ q) : OutL S0 q (n + 1) (S.set q (.lst (row.map D.int ++ [.int v]))) :=
  ⟨row ++ [v], by simp [get_put h], by simp; omega, k.setNew hq, hq⟩
theorem OutL.mono {S0 S : Hs} {q n m : Nat} (h : OutL S0 q n S) (hm : n ≤ m) : OutL S0 q m S := by
  obtain ⟨row, a, b, c, d⟩ := h; exact ⟨row, a, by omega, c, d⟩
theorem oFdiv_int {a b : Int} {S : Hs} (h : 0 < b) (h2 : b.natAbs.log2 < 9000) : oFdiv (.int a) (.int b) S = .ok (.int (a / b)) S := by simp [oFdiv, h, h2]
theorem oMul_int {a b : Int} {S : Hs} (h : IntMulOk a b) : oMul (.int a) (.int b) S = .ok (.int (a * b)) S := by simp [oMul, h]
theorem bAbs_int {a : Int} {S : Hs} : bAbs [.int a] S = .ok (.int (if a < 0 then -a else a)) S := nr rfl
theorem dr0_ok {S0 : Hs} {q n : Nat} {x o1 o3 o4 o5 o7 : Option D} {rest : Int} {S : Hs} (hn : n ≤ 100000) (h : OutL S0 q n S) :
    Wp NoX (fLoop (.rng 0 60) (gN 7) lb_dr0 0 [x, o1, some (.ref q), o3, o4, o5, some (.int rest), o7] S) fun r S' => ∃ o6 o7, r = .nx [x, o1, some (.ref q), o3, o4, o5, o6, o7] ∧ OutL S0 q (n + 60) S' := by
  refine wp_rng (fun k l S' => ∃ (rest : Int) (o7 : Option D), l = [x, o1, some (.ref q), o3, o4, o5, some (.int rest), o7] ∧ OutL S0 q (n + k) S') ⟨rest, o7, rfl, h⟩ ?_ ?_
  · rintro k l S' hk ⟨rest, o7, rfl, h⟩
    unfold lb_dr0
    simp_arith [oGt_int]
    obtain ⟨row, h1, h2, h3, h4⟩ := h
    have hb : (row.map D.int).length < sizeLine := by simp only [List.length_map]; exact line_big (by omega)
    by_cases h0 : 0 < rest
    · simp_arith [h0, hasTy_lst h1, bInt_int, oMod_int (show (0:Int) < 997 by decide), oAppend_lst h1 hb, oFdiv_int (show (0:Int) < 997 by decide) (show Nat.log2 997 < 9000 by decide)]
      exact ⟨_, _, rfl, OutL.push h1 h2 h3 h4⟩
    · simp_arith [h0]
      exact ⟨_, _, rfl, row, h1, by omega, h3, h4⟩
  · rintro l S' ⟨rest, o7, rfl, h⟩
    exact ⟨_, _, rfl, h⟩
theorem dr1_ok {S0 : Hs} {q : Nat} {x : D} {o1 : Option D} {ns : List Int} (hx : seqD x S0 = some (ns.map D.int)) (k : Nat) (hk : k < ns.length) (hn : ns.length ≤ 63) {l : Ls} {S : Hs}
    (h : (∃ (mixed : Int) (o4 o5 o6 o7 : Option D), l = [some x, o1, some (.ref q), some (.int mixed), o4, o5, o6, o7]) ∧ OutL S0 q (62 * k) S) :
    Wp NoX (lb_dr1 (l.set 4 (some (.int (0 + k)))) S) fun r S' => ∃ l', r = .nx l' ∧ (∃ (mixed : Int) (o4 o5 o6 o7 : Option D), l' = [some x, o1, some (.ref q), some (.int mixed), o4, o5, o6, o7]) ∧ OutL S0 q (62 * (k + 1)) S' := by
  obtain ⟨⟨mixed, o4, o5, o6, o7, rfl⟩, hO⟩ := h
  obtain ⟨row, h1, h2, h3, h4⟩ := id hO
  have hxS : seqD x S = some (ns.map D.int) := by
    unfold seqD at hx ⊢
    split at hx
    · split at hx <;> first | (rename_i z; rw [h3.get z (by simp)]; exact hx) | cases hx
    · exact hx
    · cases hx
  have hix : oIx x (.int (0 + (k : Int))) S = .ok (.int ns[k]) S := oIx_seq hxS (by omega) (by simp; omega) (by simp [List.getElem?_eq_getElem hk])
  have hb : (row.map D.int).length < sizeLine := by simp only [List.length_map]; exact line_big (by omega)
  have m1 : ∀ c : Int, IntMulOk c 48271 := fun c => mulok_r (by decide)
  have m2 : ∀ c : Int, IntMulOk c 69621 := fun c => mulok_r (by decide)
  unfold lb_dr1
  simp_arith [hix, bInt_int, bAbs_int, oMul_int (m1 _), oMod_int (show (0:Int) < 1000003 by decide), oAdd_int, oMod_int (show (0:Int) < 65537 by decide), pow18, oGe_int]
  generalize hc : (if ns[k] < 0 then -ns[k] else ns[k]) = c
  by_cases h0 : 1000000000000000000 ≤ c
  · simp_arith [h0, rng1 S (show (-1000000000:Int) ≤ 60 by decide) (show (60:Int) ≤ 1000000000 by decide)]
    refine (dr0_ok (by omega) hO).mono (fun _ _ _ _ h => h) ?_
    rintro r S' ⟨o6, o7, rfl, hO'⟩
    exact ⟨_, rfl, ⟨_, _, _, _, _, rfl⟩, hO'.mono (by omega)⟩
  · have g2 : (S.set q (.lst (row.map D.int ++ [D.int (c % 997)])))[q]? = some (.lst (row.map D.int ++ [D.int (c % 997)])) := get_put h1
    have hb2 : (row.map D.int ++ [D.int (c % 997)]).length < sizeLine := by simp only [List.length_map, List.length_append, List.length_singleton]; exact line_big (by omega)
    simp_arith [h0, hasTy_lst h1, oMod_int (show (0:Int) < 997 by decide), bInt_int, oAppend_lst h1 hb, hasTy_lst g2, oMul_int (m2 _), oAdd_int, oMod_int (show (0:Int) < 65521 by decide), oAppend_lst g2 hb2, rng1 _ (show (-1000000000:Int) ≤ 60 by decide) (show (60:Int) ≤ 1000000000 by decide)]
    refine (dr0_ok (S0 := S0) (n := 62 * k + 2) (by omega) ?_).mono (fun _ _ _ _ h => h) ?_
    · have := OutL.push (v := c % 997) h1 h2 h3 h4
      obtain ⟨r2, e1, e2, e3, e4⟩ := this
      have e5 : r2.map D.int = row.map D.int ++ [D.int (c % 997)] := by rw [g2] at e1; simpa using e1.symm
      rw [← e5]
      refine OutL.push (row := r2) (by rw [e5]; exact g2) e2 (by rw [e5]; exact e3) h4
    · rintro r S' ⟨o6, o7, rfl, hO'⟩
      exact ⟨_, rfl, ⟨_, _, _, _, _, rfl⟩, hO'.mono (by omega)⟩
inductive Row where
  | const (d : Nat) (n : Int) | copy (d a : Nat) | op (s : Str) (d a b : Nat) | select (d c a b : Nat) | load (d i a : Nat) | store (i a v : Nat) | out (a : Nat)
  | jump (t : Nat) | branch (a t u : Nat) | stop (a : Nat)
abbrev nD (n : Nat) : D := .int (n : Int)
def Row.D : Row → D
  | .const d n => .tup [.str "const", nD d, .int n]
  | .copy d a => .tup [.str "copy", nD d, nD a]
  | .op s d a b => .tup [.str "op", .str s, nD d, nD a, nD b]
  | .select d c a b => .tup [.str "select", nD d, nD c, nD a, nD b]
  | .load d i a => .tup [.str "load", nD d, nD i, nD a]
  | .store i a v => .tup [.str "store", nD i, nD a, nD v]
  | .out a => .tup [.str "out", nD a]
  | .jump t => .tup [.str "jump", nD t]
  | .branch a t u => .tup [.str "branch", nD a, nD t, nD u]
  | .stop a => .tup [.str "stop", nD a]
def signsL : List Str := ["+", "-", "*", "&", "|", "^", "<<", ">>", "==", "<", "<=", "div", "mod"]
def Row.ok (nr na nb : Nat) : Row → Prop
  | .const d n => d < nr ∧ 0 ≤ n ∧ n ≤ 4294967295
  | .copy d a => d < nr ∧ a < nr
  | .op s d a b => s ∈ signsL ∧ d < nr ∧ a < nr ∧ b < nr
  | .select d c a b => d < nr ∧ c < nr ∧ a < nr ∧ b < nr
  | .load d i a => d < nr ∧ i < na ∧ a < nr
  | .store i a v => i < na ∧ a < nr ∧ v < nr
  | .out a => a < nr
  | .jump t => t < nb
  | .branch a t u => a < nr ∧ t < nb ∧ u < nb
  | .stop a => a < nr
def Row.last : Row → Bool
  | .jump _ => true
  | .branch _ _ _ => true
  | .stop _ => true
  | _ => false
theorem wp_ix {X : XP} {S : Hs} {q : Nat} {ds : List D} {k : Int} {Q : D → Hs → Prop} (h : S[q]? = some (.lst ds)) (h0 : 0 ≤ k) (h1 : k < (ds.length : Int)) (H : ∀ d ∈ ds, Q d S) : Wp X (oIx (.ref q) (.int k) S) Q := by
  have hk : k.toNat < ds.length := by omega
  rw [oIx_lst h h0 h1 (List.getElem?_eq_getElem hk)]
  exact ⟨H _ (List.getElem_mem hk)⟩
theorem NxtA.new {S g : Hs} {i j : Nat} {row : List Int} (h : NxtA S i j row) : NxtA (S ++ g) i j row := by
  obtain ⟨a, h⟩ := h
  exact ⟨a, by rw [List.getElem?_append_left (Real.lt h.d)]; exact h.d, by rw [List.getElem?_append_left (Real.lt h.r)]; exact h.r, h.ne, h.nn⟩
theorem NxtA.lt {S : Hs} {i j : Nat} {row : List Int} (h : NxtA S i j row) : i < S.length := by obtain ⟨a, h⟩ := h; exact Real.lt h.d
theorem NxtA.ltj {S : Hs} {i j : Nat} {row : List Int} (h : NxtA S i j row) : j < S.length := by obtain ⟨a, h⟩ := h; exact Real.lt h.r
structure Arr where
  name : Str
  len : Nat
  label : Str
def Arr.D (a : Arr) : D := .tup [.str a.name, nD a.len, .str a.label]
def Arr.ok (a : Arr) : Prop := 1 ≤ a.len ∧ a.len ≤ 11 ∧ (a.label = "public" ∨ a.label = "secret") ∧ a.name.length ≤ 1000 ∧ PyData.strOk a.name = true
abbrev blockD (b : List Row) : D := .tup (b.map Row.D)
def progD (arrs : List Arr) (params : Nat) (blocks : List (List Row)) : D := .tup [.tup (arrs.map Arr.D), nD params, .tup (blocks.map blockD)]
def blockOk (nr na nb : Nat) (b : List Row) : Prop := b.length ≤ 8 ∧ ∃ body r, b = body ++ [r] ∧ (∀ x ∈ body, x.ok nr na nb ∧ x.last = false) ∧ r.ok nr na nb ∧ r.last = true
structure ProgOk (nr : Nat) (arrs : List Arr) (params : Nat) (blocks : List (List Row)) : Prop where
  na : arrs.length ≤ 3
  ar : ∀ a ∈ arrs, a.ok
  np : params ≤ 4
  nb : 1 ≤ blocks.length ∧ blocks.length ≤ 5
  bl : ∀ b ∈ blocks, blockOk nr arrs.length blocks.length b
theorem bTuple_lst {S : Hs} {q : Nat} {ds : List D} (h : S[q]? = some (.lst ds)) : bTuple [.ref q] S = .ok (.tup ds) S := by simp [bTuple, seqD, h]
theorem oAdd_lst {S : Hs} {p q : Nat} {ds es : List D} (h : S[p]? = some (.lst ds)) (h' : S[q]? = some (.lst es)) (hl : ds.length + es.length ≤ sizeLine) : oAdd (.ref p) (.ref q) S = .ok (.ref S.length) (S ++ [.lst (ds ++ es)]) := by simp [oAdd, h, h', hl]
theorem wipe1 {l : Ls} {s : Nat} : wipeL l [s] = l.set s none := nr rfl
end Ly
set_option Elab.async false
set_option linter.all false
set_option maxRecDepth 100000
namespace Ly
open PySem PySem.Spec L2
open PyProof.Rows hiding St
local macro_rules | `(tactic| simp_arith [$ls,*]) => `(tactic| simp only [Ly.line_le, Ly.atX_no, Ly.v_ok, Ly.v_bad, Ly.v_bind, Ly.k_bd, Ly.v_at, Ly.v_bin, Ly.k_bi, Ly.k_bi2, Ly.v_var, Ly.v_c, Ly.v_un, Ly.k_un, Ly.v_if, Ly.k_ife, Ly.v_and, Ly.k_and, Ly.k_and2, Ly.v_or, Ly.k_or, Ly.k_or2, Ly.v_tup, Ly.k_tup, Ly.v_lst, Ly.k_lst, Ly.v_call, Ly.k_ca, Ly.v_fn, Ly.k_fn, Ly.v_bm, Ly.k_bm, Ly.k_bm2, Ly.v_sl, Ly.k_sl, Ly.k_sl2, Ly.k_sl3, Ly.v_ixK, Ly.k_ixk, Ly.v_inK, Ly.k_ink, Ly.v_notinK, Ly.k_nink, Ly.v_getK2, Ly.k_gk2, Ly.k_gk, Ly.v_get2, Ly.k_g2, Ly.k_g22, Ly.k_g23, Ly.v_nil, Ly.v_cons, Ly.k_co, Ly.k_co2, Ly.v_no, Ly.v_some, Ly.k_so, Ly.k_cm, Ly.v_cmp, Ly.v_tru, Ly.k_tr, Ly.v_notB, Ly.k_no, Ly.v_andB, Ly.k_an, Ly.v_orB, Ly.k_orb, Ly.v_yes, Ly.v_inKB, Ly.k_inkB, Ly.v_notinKB, Ly.k_ninkB, Ly.v_set, Ly.k_st, Ly.v_expr, Ly.k_ex, Ly.v_ret, Ly.k_re, Ly.v_retN, Ly.v_pass, Ly.v_brk, Ly.v_cnt, Ly.v_seq, Ly.k_sq_nx, Ly.k_sq_rt, Ly.k_sq_bk, Ly.k_sq_ct, Ly.v_ifS, Ly.k_ifs, Ly.v_asg, Ly.k_as, Ly.k_as2, Ly.v_aug, Ly.k_au, Ly.v_for, Ly.k_fo, Ly.v_it, Ly.k_it, Ly.k_ij, Ly.v_rng1, Ly.v_rng2, Ly.v_enum, Ly.v_zip, Ly.v_ez, Ly.v_gN, Ly.v_gsN, Ly.v_gsC, Ly.k_gc, Ly.v_gT, Ly.v_gTw, Ly.v_gSb, Ly.k_gsb, Ly.k_gsb2, Ly.k_gsb3, Ly.k_en_rt, Ly.k_en_nx, Ly.k_tu_nx, Ly.k_tu_ct, Ly.k_tu_bk, Ly.k_tu_rt, Ly.v_lc, Ly.k_lc, Ly.v_augI, Ly.k_ag, Ly.k_ag2, Ly.k_ag3, Ly.k_ag4, Ly.k_ag5, Ly.v_del, Ly.k_dl, Ly.k_dl2, Ly.v_setd, Ly.v_pop2, Ly.k_d3, Ly.k_d32, Ly.k_d33, Ly.v_get1, Ly.k_g1, Ly.k_g12, Ly.v_rg1, Ly.k_rg, Ly.v_rg2, Ly.k_rg2, Ly.k_rg22, Ly.v_dicK, Ly.v_dicT, Ly.v_dc, Ly.k_dc, List.getElem?_cons_zero, List.getElem?_cons_succ, List.set_cons_zero, List.set_cons_succ, List.length_cons, List.length_nil, List.map_cons, List.map_nil, List.cons_append, List.nil_append, List.replicate, if_true, if_false, Bool.false_eq_true, Bool.not_true, Bool.not_false, Bool.true_and, Bool.false_and, decide_true, decide_false, decide_eq_true_eq, Nat.zero_add, Nat.reduceAdd, Nat.reduceLeDiff, true_and, and_true, $ls,*])
abbrev nDs (L : List Nat) : List D := L.map nD
def natDic (L : List Nat) (v : D) : List (Key × D) := L.map fun n : Nat => ((Sum.inl (n : Int) : Key), v)
theorem natDic_get {L : List Nat} {v : D} {n : Nat} : getK (natDic L v) (.inl (n : Int)) = if n ∈ L then some v else none := by
  induction L with
  | nil => rfl
  | cons a L ih =>
    unfold natDic getK at *
    simp only [List.map_cons, List.find?_cons]
    by_cases h : a = n
    · subst h; simp
    · have h1 : ¬ (Sum.inl (a : Int) : Key) = Sum.inl (n : Int) := by simp; omega
      have h2 : (n ∈ a :: L) = (n ∈ L) := by simp [Ne.symm h]
      simp only [decide_eq_false h1, h2]
      exact ih
theorem natDic_any {L : List Nat} {v : D} {n : Nat} : ((natDic L v).any fun kv => decide (kv.1 = (Sum.inl (n : Int) : Key))) = decide (n ∈ L) := by
  induction L with
  | nil => simp [natDic]
  | cons a L ih =>
    unfold natDic at *
    simp only [List.map_cons, List.any_cons, ih]
    by_cases h : a = n
    · subst h; simp
    · have h1 : ¬ (Sum.inl (a : Int) : Key) = Sum.inl (n : Int) := by simp; omega
      have h2 : (n ∈ a :: L) = (n ∈ L) := by simp [Ne.symm h]
      simp only [decide_eq_false h1, Bool.false_or, h2]
def addN (L : List Nat) (n : Nat) : List Nat := if n ∈ L then L else L ++ [n]
theorem natDic_set {L : List Nat} {v : D} {n : Nat} : setK (natDic L v) (.inl (n : Int)) v = natDic (addN L n) v := by
  unfold setK addN
  rw [natDic_any]
  by_cases h : n ∈ L
  · simp only [h, decide_true, if_true]
    have : ∀ kvs : List (Key × D), (∀ kv ∈ kvs, kv.2 = v) → (kvs.map fun kv => if kv.1 = (Sum.inl (n : Int) : Key) then (kv.1, v) else kv) = kvs := by
      intro kvs
      induction kvs with
      | nil => intro _; rfl
      | cons a r ih =>
        intro hh
        rw [List.map_cons, ih fun kv hk => hh kv (List.mem_cons_of_mem _ hk)]
        have := hh a (List.mem_cons_self ..)
        split
        · obtain ⟨k, d⟩ := a; cases this; rfl
        · rfl
    refine this _ fun kv hk => ?_
    unfold natDic at hk
    rw [List.mem_map] at hk
    obtain ⟨_, _, rfl⟩ := hk; rfl
  · simp [h, natDic]
theorem nodup_addN {L : List Nat} {n : Nat} (h : L.Nodup) : (addN L n).Nodup := by
  unfold addN; split
  · exact h
  · rename_i hn
    rw [List.nodup_append]
    refine ⟨h, by simp, fun a ha b hb => ?_⟩
    simp only [List.mem_singleton] at hb
    subst hb; intro e; exact hn (e ▸ ha)
theorem nodup_len {L : List Nat} {n : Nat} (h : L.Nodup) (hb : ∀ x ∈ L, x < n) : L.length ≤ n := by
  have p : L.Perm ((List.range n).filter (fun x => decide (x ∈ L))) := by
    rw [List.perm_ext_iff_of_nodup h (List.Nodup.sublist List.filter_sublist List.nodup_range)]
    intro a
    simp only [List.mem_filter, List.mem_range, decide_eq_true_eq]
    exact ⟨fun ha => ⟨hb a ha, ha⟩, fun ha => ha.2⟩
  have := p.length_eq
  have h2 := List.length_filter_le (fun x => decide (x ∈ L)) (List.range n)
  simp at h2
  omega
theorem eqF_nat {a b : Nat} : eqF (nD a) (nD b) = decide (a = b) := by
  unfold nD eqF; rw [Bool.eq_iff_iff]; simp; omega
theorem any_nats {L : List Nat} {n : Nat} : (nDs L).any (fun z => eqF z (nD n)) = decide (n ∈ L) := by
  induction L with
  | nil => simp
  | cons a L ih =>
    simp only [List.map_cons, List.any_cons, eqF_nat]
    rw [ih]
    by_cases h : a = n
    · subst h; simp
    · simp [h, Ne.symm h]
theorem flat_nats {L : List Nat} : (nDs L).all flatD = true := by
  simp [flatD]
theorem oIn_dic {S : Hs} {q n : Nat} {L : List Nat} {v : D} (h : S[q]? = some (.dic (natDic L v))) : oIn (nD n) (.ref q) S = .ok (.bl (decide (n ∈ L))) S := by
  have e : cIn (nD n) (.ref q) S = some (decide (n ∈ L)) := by
    have hf : dGet (.ref q) (nD n) S = some (if n ∈ L then some v else none) := by rw [dGet_dic h (key_int)]; rw [natDic_get]
    simp only [cIn, h, hf, Option.map_some]
    by_cases hh : n ∈ L <;> simp [hh]
  simp only [oIn, e]
theorem oNotIn_dic {S : Hs} {q n : Nat} {L : List Nat} {v : D} (h : S[q]? = some (.dic (natDic L v))) : oNotIn (nD n) (.ref q) S = .ok (.bl (!decide (n ∈ L))) S := by
  have e : cIn (nD n) (.ref q) S = some (decide (n ∈ L)) := by
    have hf : dGet (.ref q) (nD n) S = some (if n ∈ L then some v else none) := by rw [dGet_dic h (key_int)]; rw [natDic_get]
    simp only [cIn, h, hf, Option.map_some]
    by_cases hh : n ∈ L <;> simp [hh]
  simp only [oNotIn, e]
theorem eqF_str {a b : Str} : eqF (.str a) (.str b) = decide (a = b) := by
  unfold eqF; by_cases h : a = b <;> simp [h]
theorem oIn_strs {S : Hs} {x : Str} {xs : List Str} {y : D} (h : y = .tup (xs.map D.str) ∨ y = .wt (xs.map D.str) ∨ ∃ q, y = .ref q ∧ S[q]? = some (.lst (xs.map D.str))) : oIn (.str x) y S = .ok (.bl (decide (x ∈ xs))) S := by
  have ha : (xs.map D.str).any (fun z => eqF z (.str x)) = decide (x ∈ xs) := by
    clear h
    induction xs with
    | nil => simp
    | cons a L ih =>
      simp only [List.map_cons, List.any_cons, eqF_str]
      rw [ih]
      by_cases h : a = x
      · subst h; simp
      · simp [h, Ne.symm h]
  have hf : (flatD (.str x) && (xs.map D.str).all flatD) = true := by simp [flatD]
  have e : cIn (.str x) y S = some (decide (x ∈ xs)) := by
    rcases h with rfl | rfl | ⟨q, rfl, h⟩
    · simp only [cIn, hf, if_true, ha]
    · simp only [cIn, hf, if_true, ha]
    · simp only [cIn, h, hf, if_true, ha]
  simp only [oIn, e]
theorem atI_lit {α : Type} {xs : List α} {n : Nat} {x : α} (h : xs[n]? = some x) : L2.atI xs (n : Int) = some x := by
  obtain ⟨h1, _⟩ := List.getElem?_eq_some_iff.mp h
  rw [atI_nat (by omega) (by omega)]; simpa using h
theorem oIx_tup {S : Hs} {ds : List D} {n : Nat} {d : D} (h : ds[n]? = some d) : oIx (.tup ds) (.int (n : Int)) S = .ok d S := by simp [oIx, atI_lit h]
def Row.wr : Row → Option Nat
  | .const d _ => some d
  | .copy d _ => some d
  | .op _ d _ _ => some d
  | .select d _ _ _ => some d
  | .load d _ _ => some d
  | _ => none
def Row.rd : Row → List Nat
  | .copy _ a => [a]
  | .op _ _ a b => [a, b]
  | .select _ c a b => [c, a, b]
  | .load _ _ a => [a]
  | .store _ a v => [a, v]
  | .out a => [a]
  | .branch a _ _ => [a]
  | .stop a => [a]
  | _ => []
theorem rd_len (r : Row) : r.rd.length ≤ 3 := by cases r <;> simp [Row.rd]
theorem Row.ok.wr_lt {nr na nb : Nat} {r : Row} (h : r.ok nr na nb) {d : Nat} (e : r.wr = some d) : d < nr := by
  cases r <;> simp only [Row.wr, Option.some.injEq, reduceCtorEq] at e <;> subst e <;> first | exact h.1 | exact h.2.1
def formsT : List (Str × D) := [("const", (.wt [(.str "write"), (.str "word")])), ("copy", (.wt [(.str "write"), (.str "read")])), ("op", (.wt [(.str "sign"), (.str "write"), (.str "read"), (.str "read")])), ("select", (.wt [(.str "write"), (.str "read"), (.str "read"), (.str "read")])), ("load", (.wt [(.str "write"), (.str "array"), (.str "read")])), ("store", (.wt [(.str "array"), (.str "read"), (.str "read")])), ("out", (.wt [(.str "read")])), ("jump", (.wt [(.str "block")])), ("branch", (.wt [(.str "read"), (.str "block"), (.str "block")])), ("stop", (.wt [(.str "read")]))]
noncomputable def b_partsL : MS := (mSeq (mSet 2 (mIxK formsT (mBin oIx (mVar 0) (mC (.int 0)))))
    (mRet (mCall bTuple (lCons (mLc (mZip (lCons (mSl (mVar 0) (oSome (mC (.int 1))) oNo) (lCons (mVar 2) lNil))) (cT [3, 4]) (mCmp oEq (mVar 4) (mVar 1)) (mVar 3) [3, 4]) lNil))))
noncomputable def m_partsL : MD := mDef 2 3 b_partsL
theorem lc_zip {X : XP} {Q : D → Hs → Prop} {s t u : Nat} {l : Ls} {S : Hs} {xs : List D} {ys : List Str} {kind : Str} (hl : xs.length = ys.length) (hs : s < l.length) (ht : t < l.length) (hst : s ≠ t) (hu : l[u]? = some (some (.str kind))) (hus : u ≠ s) (hut : u ≠ t) (hx : xs.length ≤ 1000000)
    (hd : ∀ S', S'[S.length]? = some (.lst (((xs.zip ys).filter fun p => decide (p.2 = kind)).map (·.1))) → Kp [] S S' → Q (.ref S.length) S') :
    Wp X (cLoop (.zip (.t xs) (.t (ys.map D.str))) (cT [s, t]) (mCmp oEq (mVar t) (mVar u)) (mVar s) l S.length 0 (S ++ [.lst []])) Q := by
  refine wp_cLoop xs.length (fun k acc S' => acc = (((xs.zip ys).take k).filter fun p => decide (p.2 = kind)).map (·.1) ∧ S'[S.length]? = some (.lst acc) ∧ Kp [] S S') (fun acc S' h => ?_) (fun k acc S' hk h => ?_) (fun acc S' h => ?_) xs.length 0 [] _ (by omega) ⟨by simp, by simp, Kp.new⟩
  · simp only [itGo, Sq.at, List.length_map]
    rw [if_pos (by omega), List.getElem?_eq_none (by omega)]
  · obtain ⟨rfl, h1, h2⟩ := h
    have hk2 : k < ys.length := by omega
    have ex : xs[k]? = some xs[k] := List.getElem?_eq_getElem hk
    have ey : (ys.map D.str)[k]? = some (.str ys[k]) := by simp [List.getElem?_eq_getElem hk2]
    have ez : (xs.zip ys)[k]? = some (xs[k], ys[k]) := by rw [List.getElem?_zip_eq_some]; exact ⟨ex, List.getElem?_eq_getElem hk2⟩
    refine ⟨.tup [xs[k], .str ys[k]], ?_, (l.set s (some xs[k])).set t (some (.str ys[k])), rfl, ?_⟩
    · simp only [itGo, Sq.at, List.length_map]
      rw [if_pos (by omega), ex, ey]
    · have e1 : ((l.set s (some xs[k])).set t (some (.str ys[k])))[t]? = some (some (.str ys[k])) := List.getElem?_set_self (by simpa using ht)
      have e2 : ((l.set s (some xs[k])).set t (some (.str ys[k])))[s]? = some (some xs[k]) := by rw [List.getElem?_set_ne (Ne.symm hst)]; exact List.getElem?_set_self hs
      have e3 : ((l.set s (some xs[k])).set t (some (.str ys[k])))[u]? = some (some (.str kind)) := by rw [List.getElem?_set_ne (Ne.symm hut), List.getElem?_set_ne (Ne.symm hus)]; exact hu
      have hlen : ((((xs.zip ys).take k).filter fun p => decide (p.2 = kind)).map (·.1)).length < sizeLine := by
        refine line_big ?_
        rw [List.length_map]
        refine Nat.le_trans (List.length_filter_le _ _) ?_
        simp; omega
      simp_arith [e1, e2, e3, oEq_str]
      rw [take_at ez, List.filter_append, List.map_append]
      by_cases hc : ys[k] = kind
      · simp only [hc, List.filter_cons, decide_true, if_true, List.filter_nil, List.map_cons, List.map_nil]
        exact ⟨h1, hlen, trivial, get_put h1, h2.setNew (Nat.le_refl _)⟩
      · simp only [hc, List.filter_cons, decide_false, Bool.false_eq_true, if_false, List.filter_nil, List.map_nil, List.append_nil]
        exact ⟨trivial, h1, h2⟩
  · obtain ⟨rfl, h1, h2⟩ := h
    refine hd S' ?_ h2
    rw [List.take_of_length_le (by simp; omega)] at h1
    exact h1
def kindOf : Row → Str → List Nat
  | r, k => if k = "write" then r.wr.toList else r.rd
theorem cut1 {d : D} {ds : List D} : cutD (d :: ds) (some 1) none = ds := by
  simp only [cutD, HT.sIx]
  simp
theorem lookup_forms (r : Row) : ∃ w ds fs, r.D = .tup (.str w :: ds) ∧ formsT.lookup w = some (.wt (fs.map D.str)) ∧ ds.length = fs.length ∧ ds.length ≤ 4 ∧
    (∀ k : Str, k = "write" ∨ k = "read" → ((ds.zip fs).filter fun p => decide (p.2 = k)).map (·.1) = nDs (kindOf r k)) := by
  have hw : ("read" : Str) ≠ "write" := by simp [ofString_inj]
  cases r with
  | const d n => exact ⟨"const", _, ["write", "word"], rfl, by simp [formsT, List.lookup, beq_lit], rfl, by simp, by rintro k (rfl | rfl) <;> simp [kindOf, Row.wr, Row.rd, ofString_inj, nDs]⟩
  | copy d a => exact ⟨"copy", _, ["write", "read"], rfl, by simp [formsT, List.lookup, beq_lit], rfl, by simp, by rintro k (rfl | rfl) <;> simp [kindOf, Row.wr, Row.rd, ofString_inj, nDs]⟩
  | op s d a b => exact ⟨"op", _, ["sign", "write", "read", "read"], rfl, by simp [formsT, List.lookup, beq_lit], rfl, by simp, by rintro k (rfl | rfl) <;> simp [kindOf, Row.wr, Row.rd, ofString_inj, nDs]⟩
  | select d c a b => exact ⟨"select", _, ["write", "read", "read", "read"], rfl, by simp [formsT, List.lookup, beq_lit], rfl, by simp, by rintro k (rfl | rfl) <;> simp [kindOf, Row.wr, Row.rd, ofString_inj, nDs]⟩
  | load d i a => exact ⟨"load", _, ["write", "array", "read"], rfl, by simp [formsT, List.lookup, beq_lit], rfl, by simp, by rintro k (rfl | rfl) <;> simp [kindOf, Row.wr, Row.rd, ofString_inj, nDs]⟩
  | store i a v => exact ⟨"store", _, ["array", "read", "read"], rfl, by simp [formsT, List.lookup, beq_lit], rfl, by simp, by rintro k (rfl | rfl) <;> simp [kindOf, Row.wr, Row.rd, ofString_inj, nDs]⟩
  | out a => exact ⟨"out", _, ["read"], rfl, by simp [formsT, List.lookup, beq_lit], rfl, by simp, by rintro k (rfl | rfl) <;> simp [kindOf, Row.wr, Row.rd, ofString_inj, nDs]⟩
  | jump t => exact ⟨"jump", _, ["block"], rfl, by simp [formsT, List.lookup, beq_lit], rfl, by simp, by rintro k (rfl | rfl) <;> simp [kindOf, Row.wr, Row.rd, ofString_inj, nDs]⟩
  | branch a t u => exact ⟨"branch", _, ["read", "block", "block"], rfl, by simp [formsT, List.lookup, beq_lit], rfl, by simp, by rintro k (rfl | rfl) <;> simp [kindOf, Row.wr, Row.rd, ofString_inj, nDs]⟩
  | stop a => exact ⟨"stop", _, ["read"], rfl, by simp [formsT, List.lookup, beq_lit], rfl, by simp, by rintro k (rfl | rfl) <;> simp [kindOf, Row.wr, Row.rd, ofString_inj, nDs]⟩
theorem partsL_ok {S : Hs} (r : Row) {k : Str} (hk : k = "write" ∨ k = "read") : Wp NoX (m_partsL [r.D, .str k] S) fun v S' => v = .tup (nDs (kindOf r k)) ∧ Kp [] S S' := by
  obtain ⟨w, ds, fs, e1, e2, e3, e4, e5⟩ := lookup_forms r
  rw [e1]
  refine wp_def0 rfl ?_
  unfold b_partsL
  have h0 : ∀ S, oIx (.tup (.str w :: ds)) (.int 0) S = .ok (.str w) S := fun S => oIx_tup (n := 0) rfl
  have h1 : ∀ S, oZip [.tup ds, .wt (fs.map D.str)] S = .ok (.zip (.t ds) (.t (fs.map D.str))) S := fun S => rfl
  simp_arith [h0, e2, oSl, cut1, h1, wipeL]
  refine lc_zip e3 (by simp) (by simp) (by decide) (by rfl) (by decide) (by decide) (by omega) ?_
  intro S' h2 h3
  simp_arith [bTuple_lst h2]
  exact ⟨by rw [e5 k hk], h3⟩
end Ly
set_option Elab.async false
set_option linter.all false
set_option maxRecDepth 100000
namespace Ly
open PySem PySem.Spec L2
open PyProof.Rows hiding St
local macro_rules | `(tactic| simp_arith [$ls,*]) => `(tactic| simp only [Ly.line_le, Ly.atX_no, Ly.v_ok, Ly.v_bad, Ly.v_bind, Ly.k_bd, Ly.v_at, Ly.v_bin, Ly.k_bi, Ly.k_bi2, Ly.v_var, Ly.v_c, Ly.v_un, Ly.k_un, Ly.v_if, Ly.k_ife, Ly.v_and, Ly.k_and, Ly.k_and2, Ly.v_or, Ly.k_or, Ly.k_or2, Ly.v_tup, Ly.k_tup, Ly.v_lst, Ly.k_lst, Ly.v_call, Ly.k_ca, Ly.v_fn, Ly.k_fn, Ly.v_bm, Ly.k_bm, Ly.k_bm2, Ly.v_sl, Ly.k_sl, Ly.k_sl2, Ly.k_sl3, Ly.v_ixK, Ly.k_ixk, Ly.v_inK, Ly.k_ink, Ly.v_notinK, Ly.k_nink, Ly.v_getK2, Ly.k_gk2, Ly.k_gk, Ly.v_get2, Ly.k_g2, Ly.k_g22, Ly.k_g23, Ly.v_nil, Ly.v_cons, Ly.k_co, Ly.k_co2, Ly.v_no, Ly.v_some, Ly.k_so, Ly.k_cm, Ly.v_cmp, Ly.v_tru, Ly.k_tr, Ly.v_notB, Ly.k_no, Ly.v_andB, Ly.k_an, Ly.v_orB, Ly.k_orb, Ly.v_yes, Ly.v_inKB, Ly.k_inkB, Ly.v_notinKB, Ly.k_ninkB, Ly.v_set, Ly.k_st, Ly.v_expr, Ly.k_ex, Ly.v_ret, Ly.k_re, Ly.v_retN, Ly.v_pass, Ly.v_brk, Ly.v_cnt, Ly.v_seq, Ly.k_sq_nx, Ly.k_sq_rt, Ly.k_sq_bk, Ly.k_sq_ct, Ly.v_ifS, Ly.k_ifs, Ly.v_asg, Ly.k_as, Ly.k_as2, Ly.v_aug, Ly.k_au, Ly.v_for, Ly.k_fo, Ly.v_it, Ly.k_it, Ly.k_ij, Ly.v_rng1, Ly.v_rng2, Ly.v_enum, Ly.v_zip, Ly.v_ez, Ly.v_gN, Ly.v_gsN, Ly.v_gsC, Ly.k_gc, Ly.v_gT, Ly.v_gTw, Ly.v_gSb, Ly.k_gsb, Ly.k_gsb2, Ly.k_gsb3, Ly.k_en_rt, Ly.k_en_nx, Ly.k_tu_nx, Ly.k_tu_ct, Ly.k_tu_bk, Ly.k_tu_rt, Ly.v_lc, Ly.k_lc, Ly.v_augI, Ly.k_ag, Ly.k_ag2, Ly.k_ag3, Ly.k_ag4, Ly.k_ag5, Ly.v_del, Ly.k_dl, Ly.k_dl2, Ly.v_setd, Ly.v_pop2, Ly.k_d3, Ly.k_d32, Ly.k_d33, Ly.v_get1, Ly.k_g1, Ly.k_g12, Ly.v_rg1, Ly.k_rg, Ly.v_rg2, Ly.k_rg2, Ly.k_rg22, Ly.v_dicK, Ly.v_dicT, Ly.v_dc, Ly.k_dc, List.getElem?_cons_zero, List.getElem?_cons_succ, List.set_cons_zero, List.set_cons_succ, List.length_cons, List.length_nil, List.map_cons, List.map_nil, List.cons_append, List.nil_append, List.replicate, if_true, if_false, Bool.false_eq_true, Bool.not_true, Bool.not_false, Bool.true_and, Bool.false_and, decide_true, decide_false, decide_eq_true_eq, Nat.zero_add, Nat.reduceAdd, Nat.reduceLeDiff, true_and, and_true, $ls,*])
noncomputable def bT_start : MS := (mRet (mDisp (dpCons (mC (.str "row")) (mFn (mDef 2 6 b_draws) (lCons (mVar 0) (lCons (mC (.int 400)) lNil))) (dpCons (mC (.str "at")) (mC (.int 0)) dpNil))))
noncomputable def mT_start : MD := mDef 1 0 bT_start
noncomputable def bT_take : MS := (mSeq (mSet 1 (mCall bInt (lCons (mBin oIx (mVar 0) (mC (.str "at"))) lNil)))
    (mSeq (mAsg (mBin oAdd (mVar 1) (mC (.int 1))) (gSb (mVar 0) (mC (.str "at"))))
    (mRet (mBin oAdd (mCall bInt (lCons (mBin oIx (mBin oIx (mVar 0) (mC (.str "row"))) (mBin oMod (mVar 1) (mC (.int 400)))) lNil)) (mBin oFdiv (mVar 1) (mC (.int 400)))))))
noncomputable def mT_take : MD := mDef 1 1 bT_take
noncomputable def bT_word : MS := (mSeq (mSet 1 (mLst (lCons (mC (.int 0)) (lCons (mC (.int 1)) (lCons (mC (.int 2)) (lCons (mC (.int 3)) (lCons (mC (.int 5)) (lCons (mC (.int 7)) (lCons (mC (.int 31)) (lCons (mC (.int 32)) (lCons (mC (.int 4294967295)) (lCons (mC (.int 2147483648)) (lCons (mC (.int 4)) (lCons (mC (.int 8)) lNil))))))))))))))
    (mRet (mBin oIx (mVar 1) (mBin oMod (mFn mT_take (lCons (mVar 0) lNil)) (mC (.int 12))))))
noncomputable def mT_word : MD := mDef 1 1 bT_word
noncomputable def bT_sign : MS := (mRet (mBin oIx (mLst (lCons (mC (.str "+")) (lCons (mC (.str "-")) (lCons (mC (.str "*")) (lCons (mC (.str "&")) (lCons (mC (.str "|")) (lCons (mC (.str "^")) (lCons (mC (.str "<<")) (lCons (mC (.str ">>")) (lCons (mC (.str "==")) (lCons (mC (.str "<")) (lCons (mC (.str "<=")) (lCons (mC (.str "div")) (lCons (mC (.str "mod")) lNil)))))))))))))) (mBin oMod (mFn mT_take (lCons (mVar 0) lNil)) (mC (.int 13)))))
noncomputable def mT_sign : MD := mDef 1 0 bT_sign
noncomputable def bT_row : MS := (mSeq (mSet 3 (mBin oMod (mFn mT_take (lCons (mVar 0) lNil)) (mC (.int 12))))
    (mSeq (mSet 4 (mLc (mRng1 (lCons (mC (.int 4)) lNil)) (cN 5) mYes (mBin oMod (mFn mT_take (lCons (mVar 0) lNil)) (mVar 2)) [5]))
    (mSeq (mIfS (mCmp oLt (mVar 3) (mC (.int 2))) (mRet (mTup (lCons (mC (.str "const")) (lCons (mBin oIx (mVar 4) (mC (.int 0))) (lCons (mFn mT_word (lCons (mVar 0) lNil)) lNil))))) mPass)
    (mSeq (mIfS (mCmp oLt (mVar 3) (mC (.int 4))) (mRet (mTup (lCons (mC (.str "copy")) (lCons (mBin oIx (mVar 4) (mC (.int 0))) (lCons (mBin oIx (mVar 4) (mC (.int 1))) lNil))))) mPass)
    (mSeq (mIfS (mOrB (mCmp oLt (mVar 3) (mC (.int 8))) (mAndB (mCmp oEq (mVar 1) (mTup lNil)) (mCmp oGt (mVar 3) (mC (.int 8))))) (mRet (mTup (lCons (mC (.str "op")) (lCons (mFn mT_sign (lCons (mVar 0) lNil)) (lCons (mBin oIx (mVar 4) (mC (.int 0))) (lCons (mBin oIx (mVar 4) (mC (.int 1))) (lCons (mBin oIx (mVar 4) (mC (.int 2))) lNil))))))) mPass)
    (mSeq (mIfS (mCmp oEq (mVar 3) (mC (.int 8))) (mRet (mTup (lCons (mC (.str "select")) (lCons (mBin oIx (mVar 4) (mC (.int 0))) (lCons (mBin oIx (mVar 4) (mC (.int 1))) (lCons (mBin oIx (mVar 4) (mC (.int 2))) (lCons (mBin oIx (mVar 4) (mC (.int 3))) lNil))))))) mPass)
    (mSeq (mIfS (mCmp oEq (mVar 3) (mC (.int 9))) (mRet (mTup (lCons (mC (.str "load")) (lCons (mBin oIx (mVar 4) (mC (.int 0))) (lCons (mBin oMod (mFn mT_take (lCons (mVar 0) lNil)) (mCall bLen (lCons (mVar 1) lNil))) (lCons (mBin oIx (mVar 4) (mC (.int 1))) lNil)))))) mPass)
    (mSeq (mIfS (mCmp oEq (mVar 3) (mC (.int 10))) (mRet (mTup (lCons (mC (.str "store")) (lCons (mBin oMod (mFn mT_take (lCons (mVar 0) lNil)) (mCall bLen (lCons (mVar 1) lNil))) (lCons (mBin oIx (mVar 4) (mC (.int 1))) (lCons (mBin oIx (mVar 4) (mC (.int 2))) lNil)))))) mPass)
    (mRet (mTup (lCons (mC (.str "out")) (lCons (mBin oIx (mVar 4) (mC (.int 0))) lNil))))))))))))
noncomputable def mT_row : MD := mDef 3 3 bT_row
noncomputable def lbT_way_0 : MS := (mSeq (mSet 7 (mBin oSub (mBin oSub (mVar 2) (mVar 1)) (mC (.int 1))))
    (mIfS (mOrB (mCmp oEq (mVar 7) (mC (.int 0))) (mCmp oEq (mBin oMod (mFn mT_take (lCons (mVar 0) lNil)) (mC (.int 5))) (mC (.int 0)))) (mExpr (mBM "list" oAppend (mVar 5) (lCons (mBin oMod (mFn mT_take (lCons (mVar 0) lNil)) (mVar 2)) lNil))) (mExpr (mBM "list" oAppend (mVar 5) (lCons (mBin oAdd (mBin oAdd (mVar 1) (mC (.int 1))) (mBin oMod (mFn mT_take (lCons (mVar 0) lNil)) (mVar 7))) lNil)))))
noncomputable def bT_way : MS := (mSeq (mSet 4 (mBin oMod (mFn mT_take (lCons (mVar 0) lNil)) (mC (.int 8))))
    (mSeq (mSet 5 (mLst lNil))
    (mSeq (mFor (mRng1 (lCons (mC (.int 2)) lNil)) (gN 6) lbT_way_0)
    (mSeq (mIfS (mOrB (mCmp oEq (mVar 4) (mC (.int 0))) (mAndB (mCmp oEq (mVar 1) (mBin oSub (mVar 2) (mC (.int 1)))) (mCmp oLt (mVar 4) (mC (.int 6))))) (mRet (mTup (lCons (mC (.str "stop")) (lCons (mBin oMod (mFn mT_take (lCons (mVar 0) lNil)) (mVar 3)) lNil)))) mPass)
    (mSeq (mIfS (mCmp oLt (mVar 4) (mC (.int 4))) (mRet (mTup (lCons (mC (.str "jump")) (lCons (mBin oIx (mVar 5) (mC (.int 0))) lNil)))) mPass)
    (mRet (mTup (lCons (mC (.str "branch")) (lCons (mBin oMod (mFn mT_take (lCons (mVar 0) lNil)) (mVar 3)) (lCons (mBin oIx (mVar 5) (mC (.int 0))) (lCons (mBin oIx (mVar 5) (mC (.int 1))) lNil)))))))))))
noncomputable def mT_way : MD := mDef 4 4 bT_way
noncomputable def lbT_program_0 : MS := (mSeq (mSet 7 (mLc (mRng1 (lCons (mBin oIx (mLst (lCons (mC (.int 0)) (lCons (mC (.int 1)) (lCons (mC (.int 3)) (lCons (mC (.int 5)) (lCons (mC (.int 7)) lNil)))))) (mBin oMod (mFn mT_take (lCons (mVar 0) lNil)) (mC (.int 5)))) lNil)) (cN 8) mYes (mFn mT_row (lCons (mVar 0) (lCons (mVar 3) (lCons (mVar 2) lNil)))) [8]))
    (mExpr (mBM "list" oAppend (mVar 5) (lCons (mCall bTuple (lCons (mBin oAdd (mVar 7) (mLst (lCons (mFn mT_way (lCons (mVar 0) (lCons (mVar 6) (lCons (mVar 4) (lCons (mVar 2) lNil))))) lNil))) lNil)) lNil))))
noncomputable def bT_program : MS := (mSeq (mSet 3 (mSl (mTup (lCons (mTup (lCons (mC (.str "a")) (lCons (mC (.int 1)) (lCons (mC (.str "public")) lNil)))) (lCons (mTup (lCons (mC (.str "b")) (lCons (mC (.int 3)) (lCons (mC (.str "secret")) lNil)))) (lCons (mTup (lCons (mC (.str "c")) (lCons (mC (.int 8)) (lCons (mC (.str "public")) lNil)))) lNil)))) oNo (oSome (mBin oMod (mFn mT_take (lCons (mVar 0) lNil)) (mC (.int 4))))))
    (mSeq (mSet 4 (mBin oAdd (mC (.int 1)) (mBin oMod (mFn mT_take (lCons (mVar 0) lNil)) (mVar 1))))
    (mSeq (mSet 5 (mLst lNil))
    (mSeq (mFor (mRng1 (lCons (mVar 4) lNil)) (gN 6) lbT_program_0)
    (mRet (mTup (lCons (mVar 3) (lCons (mBin oMod (mFn mT_take (lCons (mVar 0) lNil)) (mC (.int 4))) (lCons (mCall bTuple (lCons (mVar 5) lNil)) lNil)))))))))
noncomputable def mT_program : MD := mDef 3 6 bT_program
def tkK (j : Nat) (a : Int) : List (Key × D) := [(.inr "row", .ref j), (.inr "at", .int a)]
structure Tk (S : Hs) (i j : Nat) (row : List Int) (a : Int) : Prop where
  d : S[i]? = some (.dic (tkK j a))
  r : S[j]? = some (.lst (row.map D.int))
  ne : i ≠ j
  nn : 0 ≤ a
  ln : row.length = 400
def TkA (S : Hs) (i j : Nat) (row : List Int) : Prop := ∃ a, Tk S i j row a
theorem TkA.new {S g : Hs} {i j : Nat} {row : List Int} (h : TkA S i j row) : TkA (S ++ g) i j row := by
  obtain ⟨a, h⟩ := h
  exact ⟨a, by rw [List.getElem?_append_left (Real.lt h.d)]; exact h.d, by rw [List.getElem?_append_left (Real.lt h.r)]; exact h.r, h.ne, h.nn, h.ln⟩
theorem TkA.lt {S : Hs} {i j : Nat} {row : List Int} (h : TkA S i j row) : i < S.length := by obtain ⟨a, h⟩ := h; exact Real.lt h.d
theorem TkA.ltj {S : Hs} {i j : Nat} {row : List Int} (h : TkA S i j row) : j < S.length := by obtain ⟨a, h⟩ := h; exact Real.lt h.r
theorem TkA.kp {S S' : Hs} {i j : Nat} {row : List Int} {A : List Nat} (h : TkA S i j row) (k : Kp A S S') (hi : i ∉ A) (hj : j ∉ A) : TkA S' i j row := by
  obtain ⟨a, h⟩ := h
  exact ⟨a, k.get h.d hi, k.get h.r hj, h.ne, h.nn, h.ln⟩
theorem tkK_at {j : Nat} {a : Int} : getK (tkK j a) (.inr "at") = some (.int a) := by simp [getK, tkK, ofString_inj]
theorem tkK_row {j : Nat} {a : Int} : getK (tkK j a) (.inr "row") = some (.ref j) := by simp [getK, tkK]
theorem tkK_set {j : Nat} {a b : Int} : setK (tkK j a) (.inr "at") (.int b) = tkK j b := by simp [setK, tkK, ofString_inj]
theorem take_ok {S : Hs} {i j : Nat} {row : List Int} (h : TkA S i j row) : Wp NoX (mT_take [.ref i] S) fun v S' => ∃ k : Int, v = .int k ∧ TkA S' i j row ∧ Kp [i] S S' := by
  obtain ⟨a, h⟩ := h
  refine wp_def0 rfl ?_
  unfold bT_take
  have hd := h.d
  have hd2 : (S.set i (.dic (tkK j (a + 1))))[i]? = some (.dic (tkK j (a + 1))) := get_put hd
  have hr2 : (S.set i (.dic (tkK j (a + 1))))[j]? = some (.lst (row.map D.int)) := by rw [List.getElem?_set_ne h.ne]; exact h.r
  have nn := h.nn
  have m0 : 0 ≤ a % 400 := Int.emod_nonneg _ (by omega)
  have m1 : a % 400 < 400 := Int.emod_lt_of_pos _ (by omega)
  have hl : (row.map D.int).length = 400 := by rw [List.length_map]; exact h.ln
  have hx : oIx (.ref j) (.int (a % 400)) (S.set i (.dic (tkK j (a + 1)))) = .ok (.int (row.getD (a % 400).toNat 0)) (S.set i (.dic (tkK j (a + 1)))) := by
    refine oIx_lst hr2 m0 (by omega) ?_
    have : (a % 400).toNat < row.length := by have := h.ln; omega
    simp [List.getD, List.getElem?_eq_getElem this]
  simp_arith [oIx_dic hd key_str tkK_at, bInt_int, oAdd_int, oSet_dic hd key_str (show (tkK j a).length < sizeLine from (by decide : (2:Nat) < sizeLine)), tkK_set, oIx_dic hd2 key_str tkK_row, oMod_int (show (0:Int) < 400 by decide), hx, oFdiv_int (show (0:Int) < 400 by decide) (show Nat.log2 400 < 9000 by decide)]
  exact ⟨_, rfl, ⟨a + 1, hd2, hr2, h.ne, by omega, h.ln⟩, Kp.set (by simp)⟩
theorem takeM {Q : D → Hs → Prop} {X : XP} {S : Hs} {i j : Nat} {g : M} {l : Ls} {n : Int} {row : List Int} (h : TkA S i j row) (hn : 0 < n) (hg : ∀ S, g l S = .ok (.int n) S) (H : ∀ (k : Nat) S', (k : Int) < n → TkA S' i j row → Kp [i] S S' → Q (nD k) S') :
    Wp X (mT_take [.ref i] S) (biK X oMod g l Q) := by
  refine Wp.call (take_ok h) ?_
  rintro _ S' ⟨k, rfl, h', u⟩
  rw [k_bi, hg]
  simp_arith [oMod_int hn]
  have e : D.int (k % n) = nD (k % n).toNat := by unfold nD; rw [Int.toNat_of_nonneg (Int.emod_nonneg _ (by omega))]
  rw [e]
  have h1 := Int.emod_nonneg k (show n ≠ 0 by omega)
  have h2 := Int.emod_lt_of_pos k hn
  exact H _ S' (by omega) h' u
theorem draws_len {S : Hs} {x : D} {ns : List Int} {many : Nat} (hx : seqD x S = some (ns.map D.int)) (hn : ns.length ≤ 63) (h1 : many ≤ 10000) :
    Wp NoX (mDef 2 6 b_draws [x, .int (many : Int)] S) fun v S' => ∃ (q : Nat) (row : List Int), v = .ref q ∧ S'[q]? = some (.lst (row.map D.int)) ∧ row.length = many ∧ S.length ≤ q ∧ Kp [] S S' := by
  refine wp_def0 rfl ?_
  unfold b_draws
  have hlen : bLen [x] (S ++ [.lst []]) = .ok (.int (ns.length : Int)) (S ++ [.lst []]) := by
    have := lenD_seq (seqD_more (g := [.lst []]) hx)
    simp [bLen, this]
  simp_arith [hlen, rng1 (n := (ns.length : Int)) (S ++ [.lst []]) (by omega) (by omega), Int.toNat_natCast]
  refine wp_rng (fun k l S' => (∃ (mixed : Int) (o4 o5 o6 o7 : Option D), l = [some x, some (.int many), some (.ref S.length), some (.int mixed), o4, o5, o6, o7]) ∧ OutL S S.length (62 * k) S') ⟨⟨_, _, _, _, _, rfl⟩, [], by simp, by simp, Kp.new, Nat.le_refl _⟩ ?_ ?_
  · intro k l S' hk h
    simp_arith []
    refine (dr1_ok hx k hk hn h).mono (fun _ _ _ _ h => h) ?_
    rintro r S'' ⟨l', rfl, h⟩
    exact h
  · rintro l S' ⟨⟨mixed, o4, o5, o6, o7, rfl⟩, hO⟩
    simp_arith [rng1 (n := many) S' (by omega) (by omega), Int.toNat_natCast]
    refine wp_rng (fun k l S' => (∃ (mixed : Int) (o4 : Option D), l = [some x, some (.int many), some (.ref S.length), some (.int mixed), o4, o5, o6, o7]) ∧ ∃ row : List Int, S'[S.length]? = some (.lst (row.map D.int)) ∧ k ≤ row.length ∧ row.length ≤ 62 * ns.length + k ∧ Kp [] S S') ⟨⟨_, _, rfl⟩, ?_⟩ ?_ ?_
    · obtain ⟨row, e1, e2, e3, e4⟩ := hO
      exact ⟨row, e1, Nat.zero_le _, by omega, e3⟩
    · rintro k l S' hk ⟨⟨mixed, o4, rfl⟩, row, e1, e2, e3, e4⟩
      have hb : (row.map D.int).length < sizeLine := by simp only [List.length_map]; exact line_big (by omega)
      unfold lb_dr2
      simp_arith [oMul_int (mulok_r (show Int.natAbs 16807 < 2 ^ 64 by decide)), oAdd_int, bInt_int, oMod_int (show (0:Int) < 65537 by decide), hasTy_lst e1, oMod_int (show (0:Int) < 997 by decide), oAppend_lst e1 hb]
      refine ⟨⟨_, _, rfl⟩, row ++ [(mixed * 16807 + (0 + (k : Int)) + 1) % 65537 % 997], ?_, ?_, ?_, e4.setNew (Nat.le_refl _)⟩
      · rw [get_put e1]; simp
      · simp; omega
      · simp; omega
    · rintro l S' ⟨⟨mixed, o4, rfl⟩, row, e1, e2, e3, e4⟩
      simp_arith [oSl, e1]
      have hc : cutD (row.map D.int) none (some (many : Int)) = (row.take many).map D.int := by
        simp only [cutD, HT.sIx_none, HT.sIx_nat, List.length_map]
        simp [Nat.min_eq_left e2, List.map_take]
      refine ⟨_, row.take many, rfl, ?_, ?_, ?_, e4.app⟩
      · rw [hc]; simp
      · simp; omega
      · have := e4.le; omega
theorem start_ok {S : Hs} {x : D} {ns : List Int} (hx : seqD x S = some (ns.map D.int)) (hn : ns.length ≤ 63) : Wp NoX (mT_start [x] S) fun v S' => ∃ (i j : Nat) (row : List Int), v = .ref i ∧ TkA S' i j row ∧ S.length ≤ i ∧ S.length ≤ j ∧ Kp [] S S' := by
  refine wp_def0 rfl ?_
  unfold bT_start
  simp_arith []
  refine v_disp ?_
  have hx1 : seqD x (S ++ [.dic []]) = some (ns.map D.int) := seqD_more hx
  simp_arith [v_dpCons, k_dp]
  refine Wp.call (draws_len (many := 400) hx1 hn (by decide)) ?_
  rintro _ S1 ⟨q, row, rfl, hq, hl, hqS, k1⟩
  have hd1 : S1[S.length]? = some (.dic []) := k1.get get_end (by simp)
  have hkeys : keysP [(D.str "row", D.ref q), (D.str "at", D.int 0)] = some (tkK q 0) := by simp [keysP, D.key, tkK]
  have hmerge : mergeD [] (tkK q 0) = tkK q 0 := by simp [mergeD, tkK, setK, ofString_inj]
  simp_arith [k_dp2, v_dpCons, k_dp, v_dpNil, k_dp3, dsK]
  refine ⟨_, hkeys, hd1, by simp [tkK], ?_⟩
  rw [hmerge]
  simp only [List.length_append, List.length_singleton] at hqS
  refine ⟨S.length, q, row, rfl, ⟨0, get_put hd1, by rw [List.getElem?_set_ne (by omega)]; exact hq, by omega, by omega, hl⟩, Nat.le_refl _, by omega, (Kp.new.trans k1).setNew (Nat.le_refl _)⟩
def DrT (i j : Nat) (row : List Int) (S S' : Hs) : Prop := TkA S' i j row ∧ Kp [i] S S'
theorem lcT_draw {α : Type} {X : XP} {Q : D → Hs → Prop} {te : M} {l : Ls} {s : Nat} {lo : Int} {m : Nat} {S : Hs} {i j : Nat} {row : List Int} (f : α → D) (P : Nat → α → Prop) (h : TkA S i j row) (hm : m ≤ 1000000)
    (ht : ∀ k S', k < m → TkA S' i j row → Kp [i] S S' → Wp NoX (te (l.set s (some (.int (lo + k)))) S') fun v S2 => ∃ x, v = f x ∧ P k x ∧ DrT i j row S' S2)
    (hd : ∀ (xs : List α) (S' : Hs), xs.length = m → (∀ k x, xs[k]? = some x → P k x) → S'[S.length]? = some (.lst (xs.map f)) → DrT i j row S S' → Q (.ref S.length) S') :
    Wp X (cLoop (.rng lo m) (cN s) mYes te l S.length 0 (S ++ [.lst []])) Q := by
  have hi := h.lt
  refine wp_lcRng (fun k acc S' => ∃ xs : List α, acc = xs.map f ∧ xs.length = k ∧ (∀ k x, xs[k]? = some x → P k x) ∧ S'[S.length]? = some (.lst acc) ∧ DrT i j row S S') ⟨[], rfl, rfl, by simp, by simp, h.new, Kp.new⟩ ?_ ?_
  · rintro k acc S' hk ⟨xs, rfl, hl, hp, hq, hn, hK⟩
    refine ⟨_, rfl, ?_⟩
    simp_arith []
    refine (ht k S' hk hn hK).mono (fun _ _ _ _ h => h) ?_
    rintro v S2 ⟨x, rfl, px, hn2, hK2⟩
    have hq2 := hK2.get hq (by simp; omega)
    refine ⟨hq2, by simp only [List.length_map]; exact line_big (by omega), xs ++ [x], by simp, by simp [hl], ?_, get_put hq2, ?_, (hK.trans hK2).setNew (Nat.le_refl _)⟩
    · intro k' x' e
      by_cases hk' : k' < xs.length
      · rw [List.getElem?_append_left hk'] at e; exact hp _ _ e
      · rw [List.getElem?_append_right (by omega)] at e
        have : k' - xs.length = 0 := by
          rcases Nat.eq_zero_or_pos (k' - xs.length) with z | z
          · exact z
          · rw [List.getElem?_eq_none (by simp; omega)] at e; cases e
        rw [this] at e
        simp at e
        subst e
        have : k' = k := by omega
        rw [this]; exact px
    · obtain ⟨a, hn2⟩ := hn2
      have hj : j ≠ S.length := by have := h.ltj; omega
      exact ⟨a, by rw [List.getElem?_set_ne (by omega)]; exact hn2.d, by rw [List.getElem?_set_ne (Ne.symm hj)]; exact hn2.r, hn2.ne, hn2.nn, hn2.ln⟩
  · rintro acc S' ⟨xs, rfl, hl, hp, hq, hD⟩
    exact hd xs S' hl hp hq hD
def arrL : List Arr := [⟨"a", 1, "public"⟩, ⟨"b", 3, "secret"⟩, ⟨"c", 8, "public"⟩]
theorem arrL_len {n : Nat} (h : n < 4) : (arrL.take n).length = n := by simp [arrL]; omega
theorem eq_nilT {S : Hs} {xs : List D} (hp : D.plains xs = true) (hd : PyData.depthAll (D.toPs xs) ≤ 30) : cEqD (.tup xs) (.tup []) S = some xs.isEmpty := by
  unfold cEqD
  rw [(pd_tup hp hd).1, (pd_tup (S := S) (xs := []) rfl (by simp [D.toPs, PyData.depthAll])).1]
  simp only [cEqS]
  rw [if_pos ⟨(pd_tup (S := S) hp hd).2, (pd_tup (S := S) (xs := []) rfl (by simp [D.toPs, PyData.depthAll])).2⟩]
  cases xs with
  | nil => rfl
  | cons a xs => rfl
theorem eqNilArr {n : Nat} (h : n < 4) {S : Hs} : oEq (.tup ((arrL.take n).map Arr.D)) (.tup []) S = .ok (.bl (decide (n = 0))) S := by
  have : n = 0 ∨ n = 1 ∨ n = 2 ∨ n = 3 := by omega
  rcases this with rfl | rfl | rfl | rfl <;> (unfold oEq; rw [eq_nilT (by decide +kernel) (by decide +kernel)]; rfl)
theorem wordT_ok {S : Hs} {i j : Nat} {row : List Int} (h : TkA S i j row) : Wp NoX (mT_word [.ref i] S) fun v S' => ∃ n : Int, v = .int n ∧ 0 ≤ n ∧ n ≤ 4294967295 ∧ TkA S' i j row ∧ Kp [i] S S' := by
  refine wp_def0 rfl ?_
  unfold bT_word
  simp_arith []
  refine takeM h.new (by decide) (fun _ => rfl) ?_
  intro k S' hk h' u
  refine wp_ix (u.get get_end (by have := h.lt; simp; omega)) (by omega) (by simpa using hk) ?_
  intro x hx
  have : ∃ n : Int, x = .int n ∧ 0 ≤ n ∧ n ≤ 4294967295 := by
    simp only [List.mem_cons, List.not_mem_nil, or_false] at hx
    rcases hx with rfl | rfl | rfl | rfl | rfl | rfl | rfl | rfl | rfl | rfl | rfl | rfl <;> exact ⟨_, rfl, by omega, by omega⟩
  obtain ⟨n, rfl, n0, n1⟩ := this
  simp_arith []
  exact ⟨n, rfl, n0, n1, h', (Kp.new.trans u)⟩
theorem signT_ok {S : Hs} {i j : Nat} {row : List Int} (h : TkA S i j row) : Wp NoX (mT_sign [.ref i] S) fun v S' => ∃ s : Str, v = .str s ∧ s ∈ signsL ∧ TkA S' i j row ∧ Kp [i] S S' := by
  refine wp_def0 rfl ?_
  unfold bT_sign
  simp_arith []
  refine takeM h.new (by decide) (fun _ => rfl) ?_
  intro k S' hk h' u
  refine wp_ix (u.get get_end (by have := h.lt; simp; omega)) (by omega) (by simpa using hk) ?_
  intro x hx
  obtain ⟨s, hs, rfl⟩ := of_strs (xs := signsL) hx
  simp_arith []
  exact ⟨s, rfl, hs, h', (Kp.new.trans u)⟩
theorem ixq4 {S : Hs} {q a b c d : Nat} (h : S[q]? = some (.lst (nDs [a, b, c, d]))) : oIx (.ref q) (.int 0) S = .ok (nD a) S ∧ oIx (.ref q) (.int 1) S = .ok (nD b) S ∧ oIx (.ref q) (.int 2) S = .ok (nD c) S ∧ oIx (.ref q) (.int 3) S = .ok (nD d) S :=
  ⟨oIx_lst h (by decide) (by simp) rfl, oIx_lst h (by decide) (by simp) rfl, oIx_lst h (by decide) (by simp) rfl, oIx_lst h (by decide) (by simp) rfl⟩
theorem rowT_ok {S : Hs} {i j n nr : Nat} {row : List Int} (h : TkA S i j row) (hn : n < 4) (hr : 0 < nr) (nb : Nat) :
    Wp NoX (mT_row [.ref i, .tup ((arrL.take n).map Arr.D), nD nr] S) fun v S' => ∃ r : Row, v = r.D ∧ r.ok nr n nb ∧ r.last = false ∧ DrT i j row S S' := by
  refine wp_def0 rfl ?_
  unfold bT_row
  simp_arith []
  refine takeM h (by decide) (fun _ => rfl) ?_
  intro turn S1 ht h1 u1
  simp_arith [rng1 (n := 4) S1 (by decide) (by decide), wipe1]
  refine lcT_draw (α := Nat) nD (fun _ r => r < nr) h1 (by decide) ?_ ?_
  · intro k S' hk h' _
    simp_arith []
    refine takeM (n := (nr : Int)) h' (by omega) (fun _ => rfl) ?_
    intro k S'' hk h'' u
    exact ⟨k, rfl, by omega, h'', u⟩
  · rintro xs S2 hl hp hq ⟨h2, u2⟩
    have hx : ∃ a b c d, xs = [a, b, c, d] := by
      rcases xs with _ | ⟨a, _ | ⟨b, _ | ⟨c, _ | ⟨d, _ | ⟨e, r⟩⟩⟩⟩⟩ <;> simp at hl
      exact ⟨a, b, c, d, rfl⟩
    obtain ⟨a, b, c, d, rfl⟩ := hx
    have ha : a < nr := hp 0 a rfl
    have hb : b < nr := hp 1 b rfl
    have hc : c < nr := hp 2 c rfl
    have hd : d < nr := hp 3 d rfl
    have hlen : (arrL.take n).length = n := arrL_len hn
    have hqi : S1.length ≠ i := by have := h1.lt; omega
    obtain ⟨i0, i1, i2, i3⟩ := ixq4 hq
    have u := u1.trans u2
    have i0' : ∀ {S3 : Hs}, Kp [i] S2 S3 → oIx (.ref S1.length) (.int 0) S3 = .ok (nD a) S3 := fun k => (ixq4 (k.get hq (by simpa using hqi))).1
    have i1' : ∀ {S3 : Hs}, Kp [i] S2 S3 → oIx (.ref S1.length) (.int 1) S3 = .ok (nD b) S3 := fun k => (ixq4 (k.get hq (by simpa using hqi))).2.1
    have i2' : ∀ {S3 : Hs}, Kp [i] S2 S3 → oIx (.ref S1.length) (.int 2) S3 = .ok (nD c) S3 := fun k => (ixq4 (k.get hq (by simpa using hqi))).2.2.1
    by_cases c1 : (turn : Int) < 2
    · simp_arith [oLt_int, c1, i0]
      refine Wp.call (wordT_ok h2) ?_
      rintro _ S3 ⟨w, rfl, w0, w1, h3, u3⟩
      simp_arith []
      exact ⟨.const a w, rfl, ⟨ha, w0, w1⟩, rfl, h3, u.trans u3⟩
    · by_cases c2 : (turn : Int) < 4
      · simp_arith [oLt_int, c1, c2, i0, i1]
        exact ⟨.copy a b, rfl, ⟨ha, hb⟩, rfl, h2, u⟩
      · have hop : ∀ {Q : F → Hs → Prop} {l : Ls}, (∀ (s : Str) S3, s ∈ signsL → TkA S3 i j row → Kp [i] S2 S3 → Q (.rt (Row.op s a b c).D) S3) → l[0]? = some (some (.ref i)) → l[4]? = some (some (.ref S1.length)) →
            Wp NoX ((mRet (mTup (lCons (mC (.str "op")) (lCons (mFn mT_sign (lCons (mVar 0) lNil)) (lCons (mBin oIx (mVar 4) (mC (.int 0))) (lCons (mBin oIx (mVar 4) (mC (.int 1))) (lCons (mBin oIx (mVar 4) (mC (.int 2))) lNil))))))) l S2) Q := by
          intro Q l H e0 e4
          simp_arith [e0]
          refine Wp.call (signT_ok h2) ?_
          rintro _ S3 ⟨s, rfl, hs, h3, u3⟩
          simp_arith [e4, i0' u3, i1' u3, i2' u3]
          exact H s S3 hs h3 u3
        by_cases c3 : (turn : Int) < 8
        · simp_arith [oLt_int, c1, c2, c3, -v_ret]
          refine hop ?_ rfl rfl
          intro s S3 hs h3 u3
          simp_arith []
          exact ⟨.op s a b c, rfl, ⟨hs, ha, hb, hc⟩, rfl, h3, u.trans u3⟩
        · have en : ∀ S, oEq (.tup ((arrL.take n).map Arr.D)) (.tup []) S = .ok (.bl (decide (n = 0))) S := fun S => eqNilArr hn
          have hL : (List.map Arr.D (arrL.take n)).length = n := by rw [List.length_map]; exact hlen
          by_cases c0 : n = 0
          · have cz : decide (n = 0) = true := decide_eq_true c0
            by_cases c4 : (8 : Int) < (turn : Int)
            · simp_arith [oLt_int, oGt_int, c1, c2, c3, en, cz, c4, -v_ret]
              refine hop ?_ rfl rfl
              intro s S3 hs h3 u3
              simp_arith []
              exact ⟨.op s a b c, rfl, ⟨hs, ha, hb, hc⟩, rfl, h3, u.trans u3⟩
            · have c5 : (turn : Int) = 8 := by omega
              simp_arith [oLt_int, oGt_int, c1, c2, c3, en, cz, c4, c5, oEq_int, i0, i1, i2, i3]
              exact ⟨.select a b c d, rfl, ⟨ha, hb, hc, hd⟩, rfl, h2, u⟩
          · have cz : decide (n = 0) = false := decide_eq_false c0
            by_cases c5 : (turn : Int) = 8
            · simp_arith [oLt_int, oGt_int, c1, c2, c3, en, cz, c5, oEq_int, i0, i1, i2, i3]
              exact ⟨.select a b c d, rfl, ⟨ha, hb, hc, hd⟩, rfl, h2, u⟩
            · by_cases c6 : (turn : Int) = 9
              · simp_arith [oLt_int, oGt_int, c1, c2, c3, en, cz, c5, c6, oEq_int, i0, i1, i2, i3]
                refine takeM (n := (n : Int)) h2 (by omega) (fun S => by show R.ok (D.int ((List.map Arr.D (arrL.take n)).length : Nat)) S = _; rw [hL]) ?_
                intro k S3 hk h3 u3
                simp_arith [i1' u3]
                exact ⟨.load a k b, rfl, ⟨ha, by omega, hb⟩, rfl, h3, u.trans u3⟩
              · by_cases c7 : (turn : Int) = 10
                · simp_arith [oLt_int, oGt_int, c1, c2, c3, en, cz, c5, c6, c7, oEq_int, i0, i1, i2, i3]
                  refine takeM (n := (n : Int)) h2 (by omega) (fun S => by show R.ok (D.int ((List.map Arr.D (arrL.take n)).length : Nat)) S = _; rw [hL]) ?_
                  intro k S3 hk h3 u3
                  simp_arith [i1' u3, i2' u3]
                  exact ⟨.store k b c, rfl, ⟨by omega, hb, hc⟩, rfl, h3, u.trans u3⟩
                · simp_arith [oLt_int, oGt_int, c1, c2, c3, en, cz, c5, c6, c7, oEq_int, i0, i1, i2, i3]
                  exact ⟨.out a, rfl, ha, rfl, h2, u⟩
theorem wayT_ok {S : Hs} {i j at_ many nr na : Nat} {row : List Int} (h : TkA S i j row) (hat : at_ < many) (hr : 0 < nr) :
    Wp NoX (mT_way [.ref i, nD at_, nD many, nD nr] S) fun v S' => ∃ r : Row, v = r.D ∧ r.ok nr na many ∧ r.last = true ∧ DrT i j row S S' := by
  refine wp_def0 rfl ?_
  unfold bT_way
  simp_arith []
  refine takeM h (by decide) (fun _ => rfl) ?_
  intro turn S1 ht h1 u1
  have hi1 := h1.lt
  have hj1 := h1.ltj
  simp_arith [rng1 (n := 2) (S1 ++ [.lst []]) (by decide) (by decide)]
  refine wp_rng (fun k l S' => ∃ (ws : List Nat) (o6 o7 : Option D), l = [some (.ref i), some (nD at_), some (nD many), some (nD nr), some (nD turn), some (.ref S1.length), o6, o7] ∧ ws.length = k ∧ (∀ w ∈ ws, w < many) ∧ S'[S1.length]? = some (.lst (nDs ws)) ∧ DrT i j row S S')
    ⟨[], none, none, rfl, rfl, by simp, by simp, h1.new, u1.app⟩ ?_ ?_
  · rintro k l S' hk ⟨ws, o6, o7, rfl, hwl, hw, hq, h2, u2⟩
    have push : ∀ {w : Nat} {S3 : Hs}, w < many → TkA S3 i j row → Kp [i] S' S3 → hasTy "list" (.ref S1.length) S3 = true ∧ oAppend (.ref S1.length) [nD w] S3 = .ok .non (S3.set S1.length (.lst (nDs (ws ++ [w])))) ∧
        (S3.set S1.length (.lst (nDs (ws ++ [w]))))[S1.length]? = some (.lst (nDs (ws ++ [w]))) ∧ DrT i j row S (S3.set S1.length (.lst (nDs (ws ++ [w])))) := by
      intro w S3 hwm h3 u3
      have hq3 := u3.get hq (by simp; omega)
      refine ⟨hasTy_lst hq3, ?_, get_put hq3, ?_, (u2.trans u3).setNew (by have := u1.le; omega)⟩
      · rw [oAppend_lst hq3 (by simp only [nDs, List.length_map]; exact line_big (by omega))]; simp
      · obtain ⟨a, h3⟩ := h3
        exact ⟨a, by rw [List.getElem?_set_ne (by omega)]; exact h3.d, by rw [List.getElem?_set_ne (by omega)]; exact h3.r, h3.ne, h3.nn, h3.ln⟩
    have hL : ∀ (x : Nat), x < many → ∀ w ∈ ws ++ [x], w < many := by
      intro x hx w hw'
      rcases List.mem_append.mp hw' with z | z
      · exact hw w z
      · simp only [List.mem_singleton] at z; subst z; exact hx
    have e1 : (many : Int) - (at_ : Int) - 1 = ((many - at_ - 1 : Nat) : Int) := by omega
    unfold lbT_way_0
    simp_arith [oSub_int, e1, oEq_int]
    by_cases c1 : ((many - at_ - 1 : Nat) : Int) = 0
    · have p1' := hasTy_lst hq
      simp_arith [eq_true c1, p1']
      refine takeM (n := (many : Int)) h2 (by omega) (fun _ => rfl) ?_
      intro w S3 hw3 h3 u3
      obtain ⟨p1, p2, p3, p4⟩ := push (w := w) (by omega) h3 u3
      simp_arith [p2]
      exact ⟨ws ++ [w], _, _, rfl, by simp [hwl], hL w (by omega), p3, p4⟩
    · simp_arith [c1]
      refine takeM h2 (by decide) (fun _ => rfl) ?_
      intro z S2 hz h2' u2'
      simp_arith [oEq_int]
      by_cases c2 : (z : Int) = 0
      · have p1' := hasTy_lst (u2'.get hq (by simp; omega))
        simp_arith [eq_true c2, p1']
        refine takeM (n := (many : Int)) h2' (by omega) (fun _ => rfl) ?_
        intro w S3 hw3 h3 u3
        obtain ⟨p1, p2, p3, p4⟩ := push (w := w) (by omega) h3 (u2'.trans u3)
        simp_arith [p2]
        exact ⟨ws ++ [w], _, _, rfl, by simp [hwl], hL w (by omega), p3, p4⟩
      · have p1' := hasTy_lst (u2'.get hq (by simp; omega))
        simp_arith [c2, p1', oAdd_int]
        refine takeM (n := ((many - at_ - 1 : Nat) : Int)) h2' (by omega) (fun _ => rfl) ?_
        intro w S3 hw3 h3 u3
        have e2 : (at_ : Int) + 1 + (w : Int) = ((at_ + 1 + w : Nat) : Int) := by omega
        obtain ⟨p1, p2, p3, p4⟩ := push (w := at_ + 1 + w) (by omega) h3 (u2'.trans u3)
        simp_arith [oAdd_int, e2, p2]
        exact ⟨ws ++ [at_ + 1 + w], _, _, rfl, by simp [hwl], hL _ (by omega), p3, p4⟩
  · rintro l S2 ⟨ws, o6, o7, rfl, hwl, hw, hq, h2, u2⟩
    have hx : ∃ t u, ws = [t, u] := by
      rcases ws with _ | ⟨a, _ | ⟨b, _ | ⟨c, r⟩⟩⟩ <;> simp at hwl
      exact ⟨a, b, rfl⟩
    obtain ⟨t, u, rfl⟩ := hx
    have ht' : t < many := hw t (by simp)
    have hu' : u < many := hw u (by simp)
    have j0 : ∀ {S3 : Hs}, Kp [i] S2 S3 → oIx (.ref S1.length) (.int 0) S3 = .ok (nD t) S3 := fun k => oIx_lst (k.get hq (by simp; omega)) (by decide) (by simp) rfl
    have j1 : ∀ {S3 : Hs}, Kp [i] S2 S3 → oIx (.ref S1.length) (.int 1) S3 = .ok (nD u) S3 := fun k => oIx_lst (k.get hq (by simp; omega)) (by decide) (by simp) rfl
    by_cases c1 : (turn : Int) = 0
    · simp_arith [oEq_int, eq_true c1, true_or]
      refine takeM (n := (nr : Int)) h2 (by omega) (fun _ => rfl) ?_
      intro a S3 ha h3 u3
      simp_arith []
      exact ⟨.stop a, rfl, by show a < nr; omega, rfl, h3, u2.trans u3⟩
    · by_cases c2 : ((at_ : Int) = (many : Int) - 1) ∧ (turn : Int) < 6
      · simp_arith [oEq_int, c1, oSub_int, eq_true c2.1, eq_true c2.2, oLt_int]
        refine takeM (n := (nr : Int)) h2 (by omega) (fun _ => rfl) ?_
        intro a S3 ha h3 u3
        simp_arith []
        exact ⟨.stop a, rfl, by show a < nr; omega, rfl, h3, u2.trans u3⟩
      · have fin : ∀ {Q : F → Hs → Prop}, (∀ (r : Row) S', r.ok nr na many → r.last = true → DrT i j row S S' → Q (.rt r.D) S') → Wp NoX ((mSeq (mIfS (mCmp oLt (mVar 4) (mC (.int 4))) (mRet (mTup (lCons (mC (.str "jump")) (lCons (mBin oIx (mVar 5) (mC (.int 0))) lNil)))) mPass)
            (mRet (mTup (lCons (mC (.str "branch")) (lCons (mBin oMod (mFn mT_take (lCons (mVar 0) lNil)) (mVar 3)) (lCons (mBin oIx (mVar 5) (mC (.int 0))) (lCons (mBin oIx (mVar 5) (mC (.int 1))) lNil))))))) [some (.ref i), some (nD at_), some (nD many), some (nD nr), some (nD turn), some (.ref S1.length), o6, o7] S2) Q := by
          intro Q H
          by_cases c3 : (turn : Int) < 4
          · simp_arith [oLt_int, c3, j0 Kp.refl]
            exact H (.jump t) _ (by show t < many; omega) rfl ⟨h2, u2⟩
          · simp_arith [oLt_int, c3]
            refine takeM (n := (nr : Int)) h2 (by omega) (fun _ => rfl) ?_
            intro a S3 ha h3 u3
            simp_arith [j0 u3, j1 u3]
            exact H (.branch a t u) _ ⟨by omega, ht', hu'⟩ rfl ⟨h3, u2.trans u3⟩
        by_cases c4 : (at_ : Int) = (many : Int) - 1
        · have c5 : ¬ (turn : Int) < 6 := fun z => c2 ⟨c4, z⟩
          simp_arith [-v_seq]
          rw [v_seq]
          simp_arith [oEq_int, c1, oSub_int, eq_true c4, c5, oLt_int, -v_seq]
          refine fin ?_
          intro r S' r1 r2 r3
          simp_arith []
          exact ⟨r, rfl, r1, r2, r3⟩
        · simp_arith [-v_seq]
          rw [v_seq]
          simp_arith [oEq_int, c1, oSub_int, c4, oLt_int, -v_seq]
          refine fin ?_
          intro r S' r1 r2 r3
          simp_arith []
          exact ⟨r, rfl, r1, r2, r3⟩
structure ProgT (most nr : Nat) (arrs : List Arr) (params : Nat) (blocks : List (List Row)) : Prop where
  na : ∃ n, n < 4 ∧ arrs = arrL.take n
  np : params < 4
  nb : 1 ≤ blocks.length ∧ blocks.length ≤ most
  bl : ∀ b ∈ blocks, blockOk nr arrs.length blocks.length b
theorem oSl_tupTo {ds : List D} {n : Nat} {S : Hs} : oSl (.tup ds) none (some (n : Int)) S = .ok (.tup (ds.take n)) S := by
  have : cutD ds none (some (n : Int)) = ds.take n := by
    simp only [cutD, HT.sIx_none, HT.sIx_nat, List.drop_zero, Nat.sub_zero]
    rcases Nat.le_total n ds.length with h | h
    · rw [Nat.min_eq_left h]
    · rw [Nat.min_eq_right h, List.take_of_length_le (Nat.le_refl _), List.take_of_length_le h]
  simp only [oSl, this]
theorem blockT_ok {S : Hs} {i j n at_ many nr q : Nat} {o1 o8 : Option D} {o7 : Option D} {row : List Int} {bs : List (List Row)} (h : TkA S i j row) (hn : n < 4) (hr : 0 < nr) (hat : at_ < many) (hq : S[q]? = some (.lst (bs.map blockD))) (hqi : q ≠ i) (hqj : q ≠ j) (hb : bs.length < 1000) :
    Wp NoX (lbT_program_0 [some (.ref i), o1, some (nD nr), some (.tup ((arrL.take n).map Arr.D)), some (nD many), some (.ref q), some (nD at_), o7, o8] S) fun r S' => ∃ o7 b, r = .nx [some (.ref i), o1, some (nD nr), some (.tup ((arrL.take n).map Arr.D)), some (nD many), some (.ref q), some (nD at_), o7, o8] ∧ blockOk nr n many b ∧ S'[q]? = some (.lst ((bs ++ [b]).map blockD)) ∧ TkA S' i j row ∧ Kp [i, q] S S' := by
  have hi0 := h.lt
  unfold lbT_program_0
  simp_arith []
  refine takeM h.new (by decide) (fun _ => rfl) ?_
  intro k S1 hk h1 u1
  refine wp_ix (u1.get get_end (by simp; omega)) (by omega) (by simpa using hk) ?_
  intro x hx
  have : ∃ m : Nat, x = nD m ∧ m ≤ 7 := by
    simp only [List.mem_cons, List.not_mem_nil, or_false] at hx
    rcases hx with rfl | rfl | rfl | rfl | rfl
    · exact ⟨0, rfl, by omega⟩
    · exact ⟨1, rfl, by omega⟩
    · exact ⟨3, rfl, by omega⟩
    · exact ⟨5, rfl, by omega⟩
    · exact ⟨7, rfl, by omega⟩
  obtain ⟨m, rfl, hm⟩ := this
  have u01 : Kp [i] S S1 := Kp.new.trans u1
  simp_arith [rng1 (n := (m : Int)) S1 (by omega) (by omega), wipe1, Int.toNat_natCast]
  refine lcT_draw (α := Row) Row.D (fun _ r => r.ok nr n many ∧ r.last = false) h1 (by omega) ?_ ?_
  · intro k S' hk h' _
    simp_arith []
    refine Wp.call (rowT_ok h' hn hr many) ?_
    rintro _ S2 ⟨r, rfl, r1, r2, r3⟩
    exact ⟨r, rfl, ⟨r1, r2⟩, r3⟩
  · rintro xs S2 hl hp hq2 ⟨h2, u2⟩
    have g2 := u2.get (u01.get hq (by simpa using hqi)) (by simpa using hqi)
    simp_arith [hasTy_lst g2]
    refine Wp.call (wayT_ok (na := n) h2 hat hr) ?_
    rintro _ S3 ⟨r, rfl, hr1, hr2, h3, u3⟩
    have hx3 : (S3 ++ [O.lst [r.D]])[S1.length]? = some (.lst (xs.map Row.D)) := by
      have := u3.get hq2 (by have e1 := u01.le; simp; omega)
      rw [List.getElem?_append_left (Real.lt this)]; exact this
    have hlx : (xs.map Row.D).length + [r.D].length ≤ sizeLine := by simp only [List.length_map, List.length_singleton]; exact line_le (by omega)
    simp_arith [oAdd_lst hx3 get_end hlx, bTuple_lst get_end]
    have g3 : ((S3 ++ [O.lst [r.D]]) ++ [O.lst (xs.map Row.D ++ [r.D])])[q]? = some (.lst (bs.map blockD)) := by
      have := u3.get g2 (by simpa using hqi)
      rw [List.append_assoc, List.getElem?_append_left (Real.lt this)]; exact this
    simp_arith [oAppend_lst g3 (by simp only [List.length_map]; exact line_big (by omega))]
    have hK : Kp [i] S ((S3 ++ [O.lst [r.D]]) ++ [O.lst (xs.map Row.D ++ [r.D])]) := ((u01.trans u2).trans u3).app.app
    refine ⟨_, xs ++ [r], rfl, ⟨by simp; omega, xs, r, rfl, fun x hx => ?_, hr1, hr2⟩, ?_, ?_, ?_⟩
    · obtain ⟨k, hk⟩ := List.getElem?_of_mem hx
      exact hp k x hk
    · rw [get_put g3]; simp [blockD]
    · obtain ⟨a, h⟩ := (h3.new (g := [O.lst [r.D]])).new (g := [O.lst (xs.map Row.D ++ [r.D])])
      exact ⟨a, by rw [List.getElem?_set_ne hqi]; exact h.d, by rw [List.getElem?_set_ne hqj]; exact h.r, h.ne, h.nn, h.ln⟩
    · exact (hK.sub (by simp)).setIn (by simp)
theorem programT_ok {S : Hs} {i j most nr : Nat} {row : List Int} (h : TkA S i j row) (hm : 0 < most) (hm2 : most ≤ 100) (hr : 0 < nr) :
    Wp NoX (mT_program [.ref i, nD most, nD nr] S) fun v S' => ∃ arrs params blocks, v = progD arrs params blocks ∧ ProgT most nr arrs params blocks ∧ DrT i j row S S' := by
  refine wp_def0 rfl ?_
  unfold bT_program
  simp_arith []
  refine takeM h (by decide) (fun _ => rfl) ?_
  intro n S1 hn h1 u1
  have hn' : n < 4 := by omega
  simp_arith [show ∀ S, oSl (.tup [.tup [.str "a", .int 1, .str "public"], .tup [.str "b", .int 3, .str "secret"], .tup [.str "c", .int 8, .str "public"]]) none (some (n : Int)) S = .ok (.tup ((arrL.take n).map Arr.D)) S from fun S => by rw [oSl_tupTo, List.map_take]; rfl]
  refine takeM (n := (most : Int)) h1 (by omega) (fun _ => rfl) ?_
  intro mn S3 hmn h3 u3
  have e : (1 + (mn : Int)) = ((1 + mn : Nat) : Int) := by omega
  have u13 := u1.trans u3
  have hi3 : i < S3.length := h3.lt
  have hj3 : j < S3.length := h3.ltj
  simp_arith [oAdd_int, e, rng1 (n := ((1 + mn : Nat) : Int)) (S3 ++ [.lst []]) (by omega) (by omega), Int.toNat_natCast]
  refine wp_rng (fun k l S' => ∃ (bs : List (List Row)) (o6 o7 o8 : Option D), l = [some (.ref i), some (nD most), some (nD nr), some (.tup ((arrL.take n).map Arr.D)), some (nD (1 + mn)), some (.ref S3.length), o6, o7, o8] ∧ bs.length = k ∧ (∀ b ∈ bs, blockOk nr n (1 + mn) b) ∧ S'[S3.length]? = some (.lst (bs.map blockD)) ∧ DrT i j row S S')
    ⟨[], none, none, none, rfl, rfl, by simp, by simp, h3.new, u13.app⟩ ?_ ?_
  · rintro k l S' hk ⟨bs, o6, o7, o8, rfl, hbl, hbs, hq, h4, u4⟩
    have ek : (D.int (0 + (k : Int))) = nD k := by simp
    simp_arith [ek]
    refine (blockT_ok h4 hn' hr (by omega) hq (by omega) (by omega) (by omega)).mono (fun _ _ _ _ h => h) ?_
    rintro r S4 ⟨o7, b, rfl, hb, hq4, h5, u5⟩
    have hS : S.length ≤ S3.length := by have := u13.le; omega
    refine ⟨bs ++ [b], _, o7, _, rfl, by simp [hbl], ?_, hq4, h5, u4.after u5 ?_⟩
    · intro x hx
      rcases List.mem_append.mp hx with hx | hx
      · exact hbs x hx
      · simp only [List.mem_singleton] at hx; subst hx; exact hb
    · intro z hz hz2
      simp only [List.mem_cons, List.not_mem_nil, or_false] at hz
      rcases hz with rfl | rfl
      · simp
      · omega
  · rintro l S' ⟨bs, o6, o7, o8, rfl, hbl, hbs, hq, h4, u4⟩
    simp_arith []
    refine takeM h4 (by decide) (fun _ => rfl) ?_
    intro pn S5 hpn h5 u5
    have hq5 := u5.get hq (by simp; omega)
    simp_arith [bTuple_lst hq5]
    refine ⟨arrL.take n, pn, bs, rfl, ⟨⟨n, hn', rfl⟩, by omega, by omega, fun b hb => ?_⟩, h5, u4.trans u5⟩
    rw [hbl, arrL_len hn']; exact hbs b hb
end Ly
set_option Elab.async false
set_option linter.all false
set_option maxRecDepth 100000
namespace Ly
open PySem PySem.Spec L2
open PyProof.Rows hiding St
local macro_rules | `(tactic| simp_arith [$ls,*]) => `(tactic| simp only [Ly.line_le, Ly.atX_no, Ly.v_ok, Ly.v_bad, Ly.v_bind, Ly.k_bd, Ly.v_at, Ly.v_bin, Ly.k_bi, Ly.k_bi2, Ly.v_var, Ly.v_c, Ly.v_un, Ly.k_un, Ly.v_if, Ly.k_ife, Ly.v_and, Ly.k_and, Ly.k_and2, Ly.v_or, Ly.k_or, Ly.k_or2, Ly.v_tup, Ly.k_tup, Ly.v_lst, Ly.k_lst, Ly.v_call, Ly.k_ca, Ly.v_fn, Ly.k_fn, Ly.v_bm, Ly.k_bm, Ly.k_bm2, Ly.v_sl, Ly.k_sl, Ly.k_sl2, Ly.k_sl3, Ly.v_ixK, Ly.k_ixk, Ly.v_inK, Ly.k_ink, Ly.v_notinK, Ly.k_nink, Ly.v_getK2, Ly.k_gk2, Ly.k_gk, Ly.v_get2, Ly.k_g2, Ly.k_g22, Ly.k_g23, Ly.v_nil, Ly.v_cons, Ly.k_co, Ly.k_co2, Ly.v_no, Ly.v_some, Ly.k_so, Ly.k_cm, Ly.v_cmp, Ly.v_tru, Ly.k_tr, Ly.v_notB, Ly.k_no, Ly.v_andB, Ly.k_an, Ly.v_orB, Ly.k_orb, Ly.v_yes, Ly.v_inKB, Ly.k_inkB, Ly.v_notinKB, Ly.k_ninkB, Ly.v_set, Ly.k_st, Ly.v_expr, Ly.k_ex, Ly.v_ret, Ly.k_re, Ly.v_retN, Ly.v_pass, Ly.v_brk, Ly.v_cnt, Ly.v_seq, Ly.k_sq_nx, Ly.k_sq_rt, Ly.k_sq_bk, Ly.k_sq_ct, Ly.v_ifS, Ly.k_ifs, Ly.v_asg, Ly.k_as, Ly.k_as2, Ly.v_aug, Ly.k_au, Ly.v_for, Ly.k_fo, Ly.v_it, Ly.k_it, Ly.k_ij, Ly.v_rng1, Ly.v_rng2, Ly.v_enum, Ly.v_zip, Ly.v_ez, Ly.v_gN, Ly.v_gsN, Ly.v_gsC, Ly.k_gc, Ly.v_gT, Ly.v_gTw, Ly.v_gSb, Ly.k_gsb, Ly.k_gsb2, Ly.k_gsb3, Ly.k_en_rt, Ly.k_en_nx, Ly.k_tu_nx, Ly.k_tu_ct, Ly.k_tu_bk, Ly.k_tu_rt, Ly.v_lc, Ly.k_lc, Ly.v_augI, Ly.k_ag, Ly.k_ag2, Ly.k_ag3, Ly.k_ag4, Ly.k_ag5, Ly.v_del, Ly.k_dl, Ly.k_dl2, Ly.v_setd, Ly.v_pop2, Ly.k_d3, Ly.k_d32, Ly.k_d33, Ly.v_get1, Ly.k_g1, Ly.k_g12, Ly.v_rg1, Ly.k_rg, Ly.v_rg2, Ly.k_rg2, Ly.k_rg22, Ly.v_dicK, Ly.v_dicT, Ly.v_dc, Ly.k_dc, List.getElem?_cons_zero, List.getElem?_cons_succ, List.set_cons_zero, List.set_cons_succ, List.length_cons, List.length_nil, List.map_cons, List.map_nil, List.cons_append, List.nil_append, List.replicate, if_true, if_false, Bool.false_eq_true, Bool.not_true, Bool.not_false, Bool.true_and, Bool.false_and, decide_true, decide_false, decide_eq_true_eq, Nat.zero_add, Nat.reduceAdd, Nat.reduceLeDiff, true_and, and_true, $ls,*])
def secArr (arrs : List Arr) (i : Nat) : Bool := match arrs[i]? with
  | some a => decide (a.label = "secret")
  | none => false
def secLoad (arrs : List Arr) : Row → Bool
  | .load _ i _ => secArr arrs i
  | _ => false
inductive Sec (arrs : List Arr) (labels : List Str) (rows : List Row) : Nat → Prop
  | param {k : Nat} : labels[k]? = some ("secret" : Str) → Sec arrs labels rows k
  | load {r : Row} {d : Nat} : r ∈ rows → secLoad arrs r = true → r.wr = some d → Sec arrs labels rows d
  | dep {r : Row} {d x : Nat} : r ∈ rows → r.wr = some d → x ∈ r.rd → Sec arrs labels rows x → Sec arrs labels rows d
theorem Sec.lt {arrs : List Arr} {labels : List Str} {rows : List Row} {nr na nb n : Nat} (h : Sec arrs labels rows n) (hl : labels.length ≤ nr) (hr : ∀ r ∈ rows, r.ok nr na nb) : n < nr := by
  induction h with
  | param h => obtain ⟨h, _⟩ := List.getElem?_eq_some_iff.mp h; omega
  | load h1 h2 h3 => exact (hr _ h1).wr_lt h3
  | dep h1 h2 h3 h4 ih => exact (hr _ h1).wr_lt h2
def mkDic (ps : List (Nat × Nat)) : List (Key × D) := ps.map fun p => ((Sum.inl (p.1 : Int) : Key), D.ref p.2)
structure Mk (S : Hs) (m : Nat) (ps : List (Nat × Nat)) (f : Nat → List Nat) : Prop where
  d : S[m]? = some (.dic (mkDic ps))
  n1 : (ps.map (·.1)).Nodup
  n2 : (ps.map (·.2)).Nodup
  lo : ∀ p ∈ ps, m < p.2
  li : ∀ p ∈ ps, S[p.2]? = some (.lst (nDs (f p.1)))
  no : ∀ n, n ∉ ps.map (·.1) → f n = []
theorem nodup_inj {α β : Type} {g : α → β} {xs : List α} (h : (xs.map g).Nodup) {a b : α} (ha : a ∈ xs) (hb : b ∈ xs) (e : g a = g b) : a = b := by
  induction xs with
  | nil => cases ha
  | cons x xs ih =>
    simp only [List.map_cons, List.nodup_cons] at h
    rcases List.mem_cons.mp ha with ea | ha'
    · rcases List.mem_cons.mp hb with eb | hb'
      · rw [ea, eb]
      · exact absurd (List.mem_map.mpr ⟨b, hb', by rw [← e, ea]⟩) h.1
    · rcases List.mem_cons.mp hb with eb | hb'
      · exact absurd (List.mem_map.mpr ⟨a, ha', by rw [e, eb]⟩) h.1
      · exact ih h.2 ha' hb'
theorem mkDic_get {ps : List (Nat × Nat)} (h : (ps.map (·.1)).Nodup) {n r : Nat} (hm : (n, r) ∈ ps) : getK (mkDic ps) (.inl (n : Int)) = some (.ref r) := by
  induction ps with
  | nil => cases hm
  | cons a ps ih =>
    simp only [List.map_cons, List.nodup_cons] at h
    unfold mkDic getK at *
    simp only [List.map_cons, List.find?_cons]
    rcases List.mem_cons.mp hm with e | hm
    · subst e; simp
    · have h1 : a.1 ≠ n := fun e => h.1 (by rw [e]; exact List.mem_map.mpr ⟨_, hm, rfl⟩)
      have h2 : ¬ ((Sum.inl (a.1 : Int) : Key) = Sum.inl (n : Int)) := by simp; omega
      simp only [decide_eq_false h2]
      exact ih h.2 hm
theorem mkDic_none {ps : List (Nat × Nat)} {n : Nat} (h : n ∉ ps.map (·.1)) : getK (mkDic ps) (.inl (n : Int)) = none := by
  unfold mkDic getK
  rw [Option.map_eq_none_iff, List.find?_eq_none]
  intro x hx
  rw [List.mem_map] at hx
  obtain ⟨p, hp, rfl⟩ := hx
  simp only [decide_eq_true_eq, Sum.inl.injEq]
  intro e
  exact h (List.mem_map.mpr ⟨p, hp, by show p.1 = n; omega⟩)
theorem mkDic_new {ps : List (Nat × Nat)} {n r : Nat} (h : n ∉ ps.map (·.1)) : setK (mkDic ps) (.inl (n : Int)) (.ref r) = mkDic (ps ++ [(n, r)]) := by
  unfold setK
  have : ((mkDic ps).any fun kv => decide (kv.1 = (Sum.inl (n : Int) : Key))) = false := by
    rw [List.any_eq_false]
    intro x hx
    unfold mkDic at hx
    rw [List.mem_map] at hx
    obtain ⟨p, hp, rfl⟩ := hx
    simp only [decide_eq_true_eq, Sum.inl.injEq]
    intro e
    exact h (List.mem_map.mpr ⟨p, hp, by show p.1 = n; omega⟩)
  rw [if_neg (by rw [this]; simp)]; simp [mkDic]
def updF (f : Nat → List Nat) (n w : Nat) : Nat → List Nat := fun x => if x = n then f x ++ [w] else f x
theorem Mk.keep {S S' : Hs} {m : Nat} {ps : List (Nat × Nat)} {f : Nat → List Nat} (h : Mk S m ps f) {A : List Nat} (k : Kp A S S') (hA : ∀ i ∈ A, i < m) : Mk S' m ps f :=
  ⟨k.get h.d (fun e => by have := hA _ e; omega), h.n1, h.n2, h.lo, fun p hp => k.get (h.li p hp) (fun e => by have := hA _ e; have := h.lo p hp; omega), h.no⟩
def Kb (b : Nat) (S S' : Hs) : Prop := S.length ≤ S'.length ∧ ∀ i, i < b → S'[i]? = S[i]?
theorem Kb.trans {b : Nat} {S S1 S2 : Hs} (h : Kb b S S1) (h' : Kb b S1 S2) : Kb b S S2 := ⟨Nat.le_trans h.1 h'.1, fun i hi => (h'.2 i hi).trans (h.2 i hi)⟩
theorem Kb.of {b : Nat} {A : List Nat} {S S' : Hs} (h : Kp A S S') (hA : ∀ i ∈ A, b ≤ i) (hb : b ≤ S.length) : Kb b S S' := ⟨h.1, fun i hi => h.2 i (by omega) fun e => by have := hA i e; omega⟩
theorem Kb.refl {b : Nat} {S : Hs} : Kb b S S := ⟨Nat.le_refl _, fun _ _ => rfl⟩
theorem Kb.get {b i : Nat} {S S' : Hs} {o : O} (h : Kb b S S') (e : S[i]? = some o) (hi : i < b) : S'[i]? = some o := (h.2 i hi).trans e
theorem Kb.kp {b : Nat} {S0 S S' : Hs} (k : Kp [] S0 S) (h : Kb b S S') (hb : S0.length ≤ b) : Kp [] S0 S' := ⟨Nat.le_trans k.1 h.1, fun i hi hn => (h.2 i (by omega)).trans (k.2 i hi hn)⟩
theorem setd_ok {S : Hs} {m : Nat} {ps : List (Nat × Nat)} {f : Nat → List Nat} {n w : Nat} {l : Ls} {i j k : Nat} (h : Mk S m ps f) (hi : l[i]? = some (some (.ref m))) (hj : l[j]? = some (some (nD n))) (hk : l[k]? = some (some (nD w))) (hf : (f n).length < 1000000) (hp : ps.length < 1000000) :
    Wp NoX (mExpr (mBM "list" oAppend (mSetd (mVar i) (mVar j) (mLst lNil)) (lCons (mVar k) lNil)) l S) fun r S' => r = .nx l ∧ (∃ ps', Mk S' m ps' (updF f n w) ∧ ps'.length ≤ ps.length + 1) ∧ Kb m S S' := by
  have hm : m < S.length := Real.lt h.d
  have ht : hasTy "dict" (.ref m) S = true := by simp [hasTy, h.d]
  simp_arith [hi, hj, hk, ht]
  have hd1 : (S ++ [O.lst []])[m]? = some (.dic (mkDic ps)) := by rw [List.getElem?_append_left hm]; exact h.d
  have hps : (mkDic ps).length < sizeLine := by simp only [mkDic, List.length_map]; exact line_big (by omega)
  by_cases hn : n ∈ ps.map (·.1)
  · rw [List.mem_map] at hn
    obtain ⟨⟨n', r⟩, hm', rfl⟩ := hn
    simp only at hj hf ⊢
    have e1 : oSetd (.ref m) (nD n') (.ref S.length) (S ++ [O.lst []]) = .ok (.ref r) (S ++ [O.lst []]) := by
      simp only [oSetd, hd1, key_int, hps, if_true, mkDic_get h.n1 hm']
    have hr : S[r]? = some (.lst (nDs (f n'))) := h.li _ hm'
    have hr1 : (S ++ [O.lst []])[r]? = some (.lst (nDs (f n'))) := by rw [List.getElem?_append_left (Real.lt hr)]; exact hr
    simp_arith [e1, hasTy_lst hr1, hk, oAppend_lst hr1 (by simp only [List.length_map]; exact line_big (by omega))]
    have hmr : m < r := h.lo _ hm'
    refine ⟨⟨ps, ⟨by rw [List.getElem?_set_ne (by omega)]; exact hd1, h.n1, h.n2, h.lo, fun p hp => ?_, fun x hx => ?_⟩, by omega⟩, ?_⟩
    · by_cases hpr : p.2 = r
      · have : p = (n', r) := nodup_inj h.n2 hp hm' hpr
        subst this
        simp only
        rw [get_put hr1]; simp [updF]
      · rw [List.getElem?_set_ne (Ne.symm hpr), List.getElem?_append_left (Real.lt (h.li p hp)), h.li p hp]
        have : p.1 ≠ n' := fun e => hpr (congrArg Prod.snd (nodup_inj h.n1 hp hm' e))
        simp [updF, this]
    · have : x ≠ n' := fun e => hx (e ▸ List.mem_map.mpr ⟨_, hm', rfl⟩)
      simp [updF, this, h.no x hx]
    · exact ⟨by simp, fun i hi => by rw [List.getElem?_set_ne (by omega), List.getElem?_append_left (by omega)]⟩
  · have e1 : oSetd (.ref m) (nD n) (.ref S.length) (S ++ [O.lst []]) = .ok (.ref S.length) ((S ++ [O.lst []]).set m (.dic (mkDic (ps ++ [(n, S.length)])))) := by
      simp only [oSetd, hd1, key_int, hps, if_true, mkDic_none hn, mkDic_new hn]
    have hr1 : ((S ++ [O.lst []]).set m (.dic (mkDic (ps ++ [(n, S.length)]))))[S.length]? = some (.lst []) := by rw [List.getElem?_set_ne (by omega)]; simp
    simp_arith [e1, hasTy_lst hr1, hk, oAppend_lst hr1 (by simp only [List.length_nil]; exact line_big (by omega))]
    have hfn := h.no n hn
    have hlt : ∀ p ∈ ps, p.2 < S.length := fun p hp => Real.lt (h.li p hp)
    refine ⟨⟨ps ++ [(n, S.length)], ⟨?_, ?_, ?_, ?_, ?_, ?_⟩, by simp⟩, ?_⟩
    · rw [List.getElem?_set_ne (by omega)]; exact get_put hd1
    · rw [List.map_append, List.nodup_append]
      exact ⟨h.n1, by simp, fun a ha b hb e => by simp at hb; subst hb; subst e; exact hn ha⟩
    · rw [List.map_append, List.nodup_append]
      refine ⟨h.n2, by simp, fun a ha b hb e => ?_⟩
      simp at hb; subst hb; subst e
      rw [List.mem_map] at ha
      obtain ⟨p, hp, e⟩ := ha
      have := hlt p hp; omega
    · intro p hp
      rcases List.mem_append.mp hp with hp | hp
      · exact h.lo p hp
      · simp at hp; subst hp; exact hm
    · intro p hp
      rcases List.mem_append.mp hp with hp | hp
      · have h1 := hlt p hp
        have h2 := h.lo p hp
        have : p.1 ≠ n := fun e => hn (e ▸ List.mem_map.mpr ⟨p, hp, rfl⟩)
        rw [List.getElem?_set_ne (by omega), List.getElem?_set_ne (by omega), List.getElem?_append_left h1, h.li p hp]
        simp [updF, this]
      · simp at hp; subst hp
        rw [get_put hr1]
        simp [updF, hfn]
    · intro x hx
      simp only [List.map_append, List.map_cons, List.map_nil, List.mem_append, List.mem_singleton, not_or] at hx
      simp [updF, hx.2, h.no x hx.1]
    · exact ⟨by simp, fun i hi => by rw [List.getElem?_set_ne (by omega), List.getElem?_set_ne (by omega), List.getElem?_append_left (by omega)]⟩
noncomputable def lb_sec0 : MS := (mExpr (mBM "list" oAppend (mSetd (mVar 3) (mVar 7) (mLst lNil)) (lCons (mVar 6) lNil)))
noncomputable def lb_sec1 : MS := (mSeq (mIfS (mAndB (mCmp oEq (mBin oIx (mVar 5) (mC (.int 0))) (mC (.str "load"))) (mCmp oEq (mBin oIx (mBin oIx (mBin oIx (mVar 0) (mC (.int 0))) (mBin oIx (mVar 5) (mC (.int 2)))) (mC (.int 2))) (mC (.str "secret")))) (mExpr (mBM "list" oAppend (mVar 2) (lCons (mVar 6) lNil))) mPass)
    (mFor (mIt (mFn m_partsL (lCons (mVar 5) (lCons (mC (.str "read")) lNil)))) (gN 7) lb_sec0))
noncomputable def lb_sec2 : MS := (mFor (mIt (mFn m_partsL (lCons (mVar 5) (lCons (mC (.str "write")) lNil)))) (gN 6) lb_sec1)
noncomputable def lb_sec3 : MS := (mFor (mIt (mVar 4)) (gN 5) lb_sec2)
noncomputable def c_sec4 : MB := (mTru (mVar 2))
noncomputable def lb_sec5 : MS := (mSeq (mSet 6 (mBM "list" oPop (mVar 2) lNil))
    (mIfS (mCmp oNotIn (mVar 6) (mVar 8)) (mSeq (mAsg (mC (.bl true)) (gSb (mVar 8) (mVar 6)))
    (mExpr (mBM "list" oExtend (mVar 2) (lCons (mGet2 (mVar 3) (mVar 6) (mLst lNil)) lNil)))) mPass))
noncomputable def b_secR : MS := (mSeq (mSet 2 (mLc (mEnum (lCons (mVar 1) lNil)) (cT [6, 9]) (mCmp oEq (mVar 9) (mC (.str "secret"))) (mVar 6) [6, 9]))
    (mSeq (mSet 3 mDicK)
    (mSeq (mFor (mIt (mBin oIx (mVar 0) (mC (.int 2)))) (gN 4) lb_sec3)
    (mSeq (mSet 8 mDicK)
    (mSeq (mWhile c_sec4 lb_sec5)
    (mRet (mVar 8)))))))
noncomputable def m_secR : MD := mDef 2 8 b_secR
section
variable {arrs : List Arr} {labels : List Str} {rows : List Row} {nr na nb : Nat}
structure Gath (arrs : List Arr) (labels : List Str) (done : List Row) (W : List Nat) (f : Nat → List Nat) : Prop where
  gw : ∀ x, x ∈ W ↔ labels[x]? = some ("secret" : Str) ∨ ∃ r ∈ done, secLoad arrs r = true ∧ r.wr = some x
  gf : ∀ x y, y ∈ f x ↔ ∃ r ∈ done, r.wr = some y ∧ x ∈ r.rd
  gwl : W.length ≤ labels.length + done.length
  gfl : ∀ x, (f x).length ≤ 3 * done.length
theorem sec0_loop {S : Hs} {m d : Nat} {f : Nat → List Nat} {ps : List (Nat × Nat)} {xs : List Nat} {l : Ls} (hm : Mk S m ps f) (hl : l.length = 10) (h3 : l[3]? = some (some (.ref m))) (h6 : l[6]? = some (some (nD d))) (hf : ∀ x, (f x).length ≤ 900000) (hp : ps.length < 900000) (hx : xs.length ≤ 3) :
    Wp NoX (fLoop (.tup (nDs xs)) (gN 7) lb_sec0 0 l S) fun r S' => ∃ l' ps' f', r = .nx l' ∧ (∃ o, l' = l.set 7 o ∨ l' = l) ∧ Mk S' m ps' f' ∧ ps'.length ≤ ps.length + 3 ∧ Kb m S S' ∧ (∀ x y, y ∈ f' x ↔ y ∈ f x ∨ (y = d ∧ x ∈ xs)) ∧ (∀ x, (f' x).length ≤ (f x).length + xs.length) := by
  refine wp_tupM nD (fun pre l' S' => ∃ ps' f', (∃ o, l' = l.set 7 o ∨ l' = l) ∧ Mk S' m ps' f' ∧ ps'.length ≤ ps.length + pre.length ∧ Kb m S S' ∧ (∀ x y, y ∈ f' x ↔ y ∈ f x ∨ (y = d ∧ x ∈ pre)) ∧ (∀ x, (f' x).length ≤ (f x).length + pre.length))
    ⟨ps, f, ⟨none, .inr rfl⟩, hm, by simp, Kb.refl, by simp, by simp⟩ ?_ ?_
  · rintro pre x post l' S' rfl ⟨ps', f', ⟨o, hl'⟩, hM, hpl, hK, hf1, hf2⟩
    have hpre : pre.length ≤ 2 := by simp at hx; omega
    simp_arith []
    unfold lb_sec0
    have e3 : (l'.set 7 (some (nD x)))[3]? = some (some (.ref m)) := by
      rw [List.getElem?_set_ne (by decide)]; rcases hl' with rfl | rfl
      · rw [List.getElem?_set_ne (by decide)]; exact h3
      · exact h3
    have e6 : (l'.set 7 (some (nD x)))[6]? = some (some (nD d)) := by
      rw [List.getElem?_set_ne (by decide)]; rcases hl' with rfl | rfl
      · rw [List.getElem?_set_ne (by decide)]; exact h6
      · exact h6
    have e7 : (l'.set 7 (some (nD x)))[7]? = some (some (nD x)) := by
      refine List.getElem?_set_self ?_
      rcases hl' with rfl | rfl <;> simp [hl]
    have g1 := hf2 x
    have g2 := hf x
    refine (setd_ok hM e3 e7 e6 (by omega) (by omega)).mono (fun _ _ _ _ h => h) ?_
    rintro r S2 ⟨rfl, ⟨ps2, hM2, hp2⟩, hK2⟩
    refine ⟨ps2, updF f' x d, ⟨some (nD x), ?_⟩, hM2, by simp; omega, hK.trans hK2, fun z y => ?_, fun z => ?_⟩
    · rcases hl' with rfl | rfl
      · left; rw [List.set_set]
      · left; rfl
    · unfold updF
      split
      · rename_i e; subst e
        simp only [List.mem_append, hf1, List.mem_singleton]
        constructor
        · rintro ((h | h) | h)
          · exact .inl h
          · exact .inr ⟨h.1, .inl h.2⟩
          · exact .inr ⟨h, by simp⟩
        · rintro (h | ⟨h1, h2⟩)
          · exact .inl (.inl h)
          · exact .inr h1
      · rename_i e
        simp only [List.mem_append, hf1, List.mem_singleton, e, or_false]
    · unfold updF
      have := hf2 z
      split
      · simp; omega
      · simp; omega
  · rintro l' S' ⟨ps', f', hl', hM, hpl, hK, hf1, hf2⟩
    exact ⟨l', ps', f', rfl, hl', hM, by omega, hK, hf1, hf2⟩
def SecL (arrs : List Arr) (params : Nat) (blocks : List (List Row)) (labels : List Str) (q m : Nat) (l : Ls) : Prop :=
  ∃ o4 o5 o6 o7 : Option D, l = [some (progD arrs params blocks), some (.tup (labels.map D.str)), some (.ref q), some (.ref m), o4, o5, o6, o7, none, none]
def SecS (arrs : List Arr) (labels : List Str) (S0 : Hs) (q m : Nat) (done : List Row) (S : Hs) : Prop :=
  ∃ W f ps, Gath arrs labels done W f ∧ S[q]? = some (.lst (nDs W)) ∧ Mk S m ps f ∧ ps.length ≤ 3 * done.length ∧ Kp [] S0 S ∧ S0.length ≤ q ∧ q < m
theorem prog_arrs {params : Nat} {blocks : List (List Row)} {S : Hs} : oIx (progD arrs params blocks) (.int 0) S = .ok (.tup (arrs.map Arr.D)) S := oIx_tup (n := 0) rfl
theorem prog_blocks {params : Nat} {blocks : List (List Row)} {S : Hs} : oIx (progD arrs params blocks) (.int 2) S = .ok (.tup (blocks.map blockD)) S := oIx_tup (n := 2) rfl
theorem arr_at {i : Nat} (h : i < arrs.length) {S : Hs} : oIx (.tup (arrs.map Arr.D)) (nD i) S = .ok arrs[i].D S := oIx_tup (n := i) (by simp [List.getElem?_eq_getElem h])
theorem arr_label {a : Arr} {S : Hs} : oIx a.D (.int 2) S = .ok (.str a.label) S := oIx_tup (n := 2) rfl
theorem row_word (r : Row) : ∃ w : Str, (∀ S, oIx r.D (.int 0) S = .ok (.str w) S) ∧ (w = "load" ↔ ∃ d i a, r = .load d i a) := by
  cases r <;> refine ⟨_, fun S => oIx_tup (n := 0) rfl, ?_⟩ <;> simp [ofString_inj]
theorem sec2_ok {S S0 : Hs} {q m params : Nat} {blocks : List (List Row)} {done : List Row} {r : Row} {l : Ls} (hr : r.ok nr arrs.length nb) (hL : SecL arrs params blocks labels q m l) (h5 : l[5]? = some (some r.D)) (hS : SecS arrs labels S0 q m done S) (hd : done.length ≤ 100000) (hlb : labels.length ≤ 100000) :
    Wp NoX (lb_sec2 l S) fun x S' => ∃ l', x = .nx l' ∧ SecL arrs params blocks labels q m l' ∧ SecS arrs labels S0 q m (done ++ [r]) S' := by
  obtain ⟨o4, o5, o6, o7, rfl⟩ := hL
  simp only [List.getElem?_cons_succ, List.getElem?_cons_zero, Option.some.injEq] at h5
  subst h5
  obtain ⟨W, f, ps, hG, hq, hM, hps, hK, hq0, hqm⟩ := hS
  unfold lb_sec2
  simp_arith []
  refine Wp.call (partsL_ok r (.inl rfl)) ?_
  rintro _ S1 ⟨rfl, k1⟩
  have hq1 := k1.get hq (by simp)
  have hM1 := hM.keep k1 (by simp)
  have hK1 := hK.trans k1
  simp_arith [oIt]
  have hkw : kindOf r "write" = r.wr.toList := by simp [kindOf]
  have hkr : kindOf r "read" = r.rd := by simp [kindOf, ofString_inj]
  rw [hkw]
  cases hw : r.wr with
  | none =>
    refine wp_tup0 ⟨_, rfl, ⟨_, _, _, _, rfl⟩, W, f, ps, ⟨fun x => ?_, fun x y => ?_, ?_, fun x => ?_⟩, hq1, hM1, by simp; omega, hK1, hq0, hqm⟩
    · rw [hG.gw x]
      constructor
      · rintro (h | ⟨r', h1, h2⟩)
        · exact .inl h
        · exact .inr ⟨r', List.mem_append_left _ h1, h2⟩
      · rintro (h | ⟨r', h1, h2, h3⟩)
        · exact .inl h
        · rcases List.mem_append.mp h1 with h1 | h1
          · exact .inr ⟨r', h1, h2, h3⟩
          · simp at h1; subst h1; rw [hw] at h3; cases h3
    · rw [hG.gf x y]
      constructor
      · rintro ⟨r', h1, h2⟩; exact ⟨r', List.mem_append_left _ h1, h2⟩
      · rintro ⟨r', h1, h2, h3⟩
        rcases List.mem_append.mp h1 with h1 | h1
        · exact ⟨r', h1, h2, h3⟩
        · simp at h1; subst h1; rw [hw] at h2; cases h2
    · have := hG.gwl; simp; omega
    · have := hG.gfl x; simp; omega
  | some d =>
    refine wp_tup1 ?_
    obtain ⟨w, hw1, hw2⟩ := row_word r
    unfold lb_sec1
    simp_arith [-v_for, hw1, oEq_str]
    have rest : ∀ (W' : List Nat) (S2 : Hs), S2[q]? = some (.lst (nDs W')) → Mk S2 m ps f → Kp [] S0 S2 → (∀ x, x ∈ W' ↔ x ∈ W ∨ (secLoad arrs r = true ∧ x = d)) → W'.length ≤ W.length + 1 →
        Wp NoX (mFor (mIt (mFn m_partsL (lCons (mVar 5) (lCons (mC (.str "read")) lNil)))) (gN 7) lb_sec0 [some (progD arrs params blocks), some (.tup (labels.map D.str)), some (.ref q), some (.ref m), o4, some r.D, some (nD d), o7, none, none] S2)
          (tuK (fun l2 S2 => ∃ l', F.nx l2 = .nx l' ∧ SecL arrs params blocks labels q m l' ∧ SecS arrs labels S0 q m (done ++ [r]) S2) fun x S' => ∃ l', x = .nx l' ∧ SecL arrs params blocks labels q m l' ∧ SecS arrs labels S0 q m (done ++ [r]) S') := by
      intro W' S2 hq2 hM2 hK2 hW' hWl
      simp_arith []
      refine Wp.call (partsL_ok r (.inr rfl)) ?_
      rintro _ S3 ⟨rfl, k3⟩
      simp_arith [oIt, hkr]
      refine (sec0_loop (hM2.keep k3 (by simp)) (by simp) (by rfl) (by rfl) (fun x => by have := hG.gfl x; omega) (by omega) (rd_len r)).mono (fun _ _ _ _ h => h) ?_
      rintro x S4 ⟨l', ps', f', rfl, ⟨o, hl'⟩, hM4, hp4, hK4, hf1, hf2⟩
      have hq4 := hK4.get (k3.get hq2 (by simp)) hqm
      have hmS : S0.length ≤ m := by omega
      refine ⟨l', rfl, ?_, W', f', ps', ⟨fun x => ?_, fun x y => ?_, ?_, fun x => ?_⟩, hq4, hM4, by simp; omega, Kb.kp (hK2.trans k3) hK4 hmS, hq0, hqm⟩
      · rcases hl' with rfl | rfl
        · exact ⟨_, _, _, _, rfl⟩
        · exact ⟨_, _, _, _, rfl⟩
      · rw [hW' x, hG.gw x]
        constructor
        · rintro ((h | ⟨r', h1, h2⟩) | ⟨h1, h2⟩)
          · exact .inl h
          · exact .inr ⟨r', List.mem_append_left _ h1, h2⟩
          · exact .inr ⟨r, by simp, h1, by rw [hw, h2]⟩
        · rintro (h | ⟨r', h1, h2, h3⟩)
          · exact .inl (.inl h)
          · rcases List.mem_append.mp h1 with h1 | h1
            · exact .inl (.inr ⟨r', h1, h2, h3⟩)
            · simp at h1; subst h1; rw [hw] at h3; cases h3; exact .inr ⟨h2, rfl⟩
      · rw [hf1 x y, hG.gf x y]
        constructor
        · rintro (⟨r', h1, h2⟩ | ⟨h1, h2⟩)
          · exact ⟨r', List.mem_append_left _ h1, h2⟩
          · exact ⟨r, by simp, by rw [hw, h1], h2⟩
        · rintro ⟨r', h1, h2, h3⟩
          rcases List.mem_append.mp h1 with h1 | h1
          · exact .inl ⟨r', h1, h2, h3⟩
          · simp at h1; subst h1; rw [hw] at h2; cases h2; exact .inr ⟨rfl, h3⟩
      · have := hG.gwl; simp; omega
      · have := hf2 x; have := hG.gfl x; have := rd_len r; simp; omega
    by_cases hload : w = "load"
    · obtain ⟨d', i, a, rfl⟩ := hw2.mp hload
      have hi : i < arrs.length := hr.2.1
      have h2 : ∀ S, oIx (Row.load d' i a).D (.int 2) S = .ok (nD i) S := fun S => oIx_tup (n := 2) rfl
      have hsl : secLoad arrs (Row.load d' i a) = decide (arrs[i].label = "secret") := by simp [secLoad, secArr, List.getElem?_eq_getElem hi]
      simp_arith [-v_for, hload, prog_arrs, h2, arr_at hi, arr_label, oEq_str]
      by_cases hsec : arrs[i].label = "secret"
      · have hb : (nDs W).length < sizeLine := by simp only [List.length_map]; refine line_big ?_; have := hG.gwl; omega
        simp_arith [-v_for, hsec, hasTy_lst hq1, oAppend_lst hq1 hb]
        refine rest (W ++ [d]) _ (by rw [get_put hq1]; simp) (hM1.keep (Kp.set (A := [q]) (by simp)) (by simpa using hqm)) (hK1.setNew hq0) (fun x => by rw [hsl]; simp [hsec]) (by simp)
      · simp_arith [-v_for, hsec]
        exact rest W _ hq1 hM1 hK1 (fun x => by rw [hsl]; simp [hsec]) (by omega)
    · simp_arith [-v_for, hload]
      refine rest W _ hq1 hM1 hK1 (fun x => ?_) (by omega)
      have : secLoad arrs r = false := by
        cases r <;> first | rfl | exact absurd (hw2.mpr ⟨_, _, _, rfl⟩) hload
      simp [this]
end
section
variable {arrs : List Arr} {labels : List Str} {nr nb : Nat}
theorem Mk.keep2 {S S' : Hs} {m : Nat} {ps : List (Nat × Nat)} {f : Nat → List Nat} (h : Mk S m ps f) {A : List Nat} (k : Kp A S S') (hA : m ∉ A) (hB : ∀ p ∈ ps, p.2 ∉ A) : Mk S' m ps f :=
  ⟨k.get h.d hA, h.n1, h.n2, h.lo, fun p hp => k.get (h.li p hp) (hB p hp), h.no⟩
theorem Mk.get {S : Hs} {m : Nat} {ps : List (Nat × Nat)} {f : Nat → List Nat} (h : Mk S m ps f) (n : Nat) : (∃ r, (n, r) ∈ ps ∧ dGet (.ref m) (nD n) S = some (some (.ref r)) ∧ S[r]? = some (.lst (nDs (f n)))) ∨ (dGet (.ref m) (nD n) S = some none ∧ f n = []) := by
  by_cases hn : n ∈ ps.map (·.1)
  · rw [List.mem_map] at hn
    obtain ⟨⟨n', r⟩, hm', rfl⟩ := hn
    exact .inl ⟨r, hm', by rw [dGet_dic h.d key_int, mkDic_get h.n1 hm'], h.li _ hm'⟩
  · exact .inr ⟨by rw [dGet_dic h.d key_int, mkDic_none hn], h.no n hn⟩
structure Wrk (arrs : List Arr) (labels : List Str) (rows : List Row) (f : Nat → List Nat) (nr : Nat) (L W : List Nat) : Prop where
  nd : L.Nodup
  lt : ∀ x ∈ L, x < nr
  so : ∀ x, x ∈ L ∨ x ∈ W → Sec arrs labels rows x
  ba : ∀ x : Nat, labels[x]? = some ("secret" : Str) ∨ (∃ r ∈ rows, secLoad arrs r = true ∧ r.wr = some x) → x ∈ L ∨ x ∈ W
  cl : ∀ x ∈ L, ∀ y ∈ f x, y ∈ L ∨ y ∈ W
  wl : W.length ≤ labels.length + rows.length + L.length * (3 * rows.length)
theorem Wrk.done {rows : List Row} {f : Nat → List Nat} {L W0 : List Nat} (h : Wrk arrs labels rows f nr L []) (hG : Gath arrs labels rows W0 f) (x : Nat) : x ∈ L ↔ Sec arrs labels rows x := by
  refine ⟨fun hx => h.so x (.inl hx), fun hx => ?_⟩
  have e : ∀ y, y ∈ L ∨ y ∈ ([] : List Nat) → y ∈ L := fun y hy => hy.elim id (by simp)
  induction hx with
  | param h1 => exact e _ (h.ba _ (.inl h1))
  | load h1 h2 h3 => exact e _ (h.ba _ (.inr ⟨_, h1, h2, h3⟩))
  | dep h1 h2 h3 h4 ih => exact e _ (h.cl _ ih _ ((hG.gf _ _).mpr ⟨_, h1, h2, h3⟩))
structure WhS (arrs : List Arr) (labels : List Str) (rows : List Row) (nr : Nat) (S0 : Hs) (q m s : Nat) (f : Nat → List Nat) (ps : List (Nat × Nat)) (L W : List Nat) (S : Hs) : Prop where
  wk : Wrk arrs labels rows f nr L W
  hq : S[q]? = some (.lst (nDs W))
  hs : S[s]? = some (.dic (natDic L (.bl true)))
  hm : Mk S m ps f
  ps : ∀ p ∈ ps, p.2 < s
  k : Kp [] S0 S
  q0 : S0.length ≤ q
  qm : q < m
  ms : m < s
def WhL (arrs : List Arr) (params : Nat) (blocks : List (List Row)) (labels : List Str) (q m s : Nat) (l : Ls) : Prop :=
  ∃ o4 o5 o6 o7 : Option D, l = [some (progD arrs params blocks), some (.tup (labels.map D.str)), some (.ref q), some (.ref m), o4, o5, o6, o7, some (.ref s), none]
theorem tru_lst {S : Hs} {q : Nat} {ds : List D} (h : S[q]? = some (.lst ds)) : oTru (.ref q) S = .ok (!ds.isEmpty) S := by simp [oTru, tru, h]
theorem sec5_ok {rows : List Row} {params : Nat} {blocks : List (List Row)} {S0 S : Hs} {q m s : Nat} {f : Nat → List Nat} {ps : List (Nat × Nat)} {L W0 W : List Nat} {x : Nat} {l : Ls} (hG : Gath arrs labels rows W0 f) (hx : ∀ y, Sec arrs labels rows y → y < nr)
    (hsz : labels.length + rows.length + (nr + 1) * (3 * rows.length + 1) ≤ 1000000) (hL : WhL arrs params blocks labels q m s l) (h : WhS arrs labels rows nr S0 q m s f ps L (W ++ [x]) S) :
    Wp NoX (lb_sec5 l S) fun r S' => ∃ l' L' W', r = .nx l' ∧ WhL arrs params blocks labels q m s l' ∧ WhS arrs labels rows nr S0 q m s f ps L' W' S' ∧ ((L' = L ∧ W' = W) ∨ (L'.length = L.length + 1 ∧ W'.length ≤ W.length + 3 * rows.length)) := by
  obtain ⟨o4, o5, o6, o7, rfl⟩ := hL
  have hxn := hx x (h.wk.so x (.inr (by simp)))
  have hLl := nodup_len h.wk.nd h.wk.lt
  have hpop : oPop (.ref q) [] S = .ok (nD x) (S.set q (.lst (nDs W))) := by
    simp [oPop, h.hq]
  unfold lb_sec5
  simp_arith [hasTy_lst h.hq, hpop]
  have ne1 : s ≠ q := by have := h.qm; have := h.ms; omega
  have hs1 : (S.set q (.lst (nDs W)))[s]? = some (.dic (natDic L (.bl true))) := by rw [List.getElem?_set_ne (Ne.symm ne1)]; exact h.hs
  have hq1 : (S.set q (.lst (nDs W)))[q]? = some (.lst (nDs W)) := get_put h.hq
  have hM1 : Mk (S.set q (.lst (nDs W))) m ps f := h.hm.keep (Kp.set (A := [q]) (by simp)) (by simpa using h.qm)
  have hK1 : Kp [] S0 (S.set q (.lst (nDs W))) := h.k.setNew h.q0
  simp_arith [oNotIn_dic hs1]
  by_cases hin : x ∈ L
  · simp_arith [hin]
    refine ⟨_, L, W, rfl, ⟨_, _, _, _, rfl⟩, ⟨⟨h.wk.nd, h.wk.lt, fun y hy => h.wk.so y (hy.imp id fun h => by simp [h]), fun y hy => ?_, fun y hy z hz => ?_, ?_⟩, hq1, hs1, hM1, h.ps, hK1, h.q0, h.qm, h.ms⟩, .inl ⟨rfl, rfl⟩⟩
    · rcases h.wk.ba y hy with h1 | h1
      · exact .inl h1
      · simp only [List.mem_append, List.mem_singleton] at h1
        rcases h1 with h1 | rfl
        · exact .inr h1
        · exact .inl hin
    · rcases h.wk.cl y hy z hz with h1 | h1
      · exact .inl h1
      · simp only [List.mem_append, List.mem_singleton] at h1
        rcases h1 with h1 | rfl
        · exact .inr h1
        · exact .inl hin
    · have := h.wk.wl; simp at this; omega
  · have hlen : (natDic L (.bl true)).length < sizeLine := by simp only [natDic, List.length_map]; refine line_big ?_; have : (nr + 1) * 1 ≤ (nr + 1) * (3 * rows.length + 1) := Nat.mul_le_mul_left _ (by omega); omega
    have hset : oSet (.ref s) (nD x) (.bl true) (S.set q (.lst (nDs W))) = .ok () ((S.set q (.lst (nDs W))).set s (.dic (natDic (addN L x) (.bl true)))) := by
      rw [oSet_dic hs1 key_int hlen, natDic_set]
    simp_arith [hin, hset]
    generalize hS2 : (S.set q (.lst (nDs W))).set s (.dic (natDic (addN L x) (.bl true))) = S2
    have hs2 : S2[s]? = some (.dic (natDic (addN L x) (.bl true))) := by rw [← hS2]; exact get_put hs1
    have hq2 : S2[q]? = some (.lst (nDs W)) := by rw [← hS2, List.getElem?_set_ne ne1]; exact hq1
    have hM2 : Mk S2 m ps f := by
      rw [← hS2]
      exact hM1.keep2 (Kp.set (A := [s]) (by simp)) (by simp; have := h.ms; omega) (fun p hp => by simp; have := h.ps p hp; omega)
    have hK2 : Kp [] S0 S2 := by rw [← hS2]; exact hK1.setNew (by have := h.q0; have := h.qm; have := h.ms; omega)
    have htd : hasTy "dict" (.ref m) S2 = true := by simp [hasTy, hM2.d]
    simp_arith [hasTy_lst hq2, htd]
    have hadd : addN L x = L ++ [x] := by simp [addN, hin]
    have hwl := h.wk.wl
    have hfl := hG.gfl x
    have hmul : L.length * (3 * rows.length) ≤ nr * (3 * rows.length) := Nat.mul_le_mul_right _ hLl
    have hmul2 : (nr + 1) * (3 * rows.length + 1) = nr * (3 * rows.length) + 3 * rows.length + nr + 1 := by rw [Nat.add_mul, Nat.mul_add, Nat.mul_one, Nat.one_mul]; omega
    simp only [List.length_append, List.length_singleton] at hwl
    have fin : ∀ (S3 : Hs), Kp [q] S2 S3 → S3[q]? = some (.lst (nDs (W ++ f x))) → ∃ l' L' W', F.nx [some (progD arrs params blocks), some (D.tup (labels.map D.str)), some (D.ref q), some (D.ref m), o4, o5, some (nD x), o7, some (D.ref s), none] = .nx l' ∧ WhL arrs params blocks labels q m s l' ∧ WhS arrs labels rows nr S0 q m s f ps L' W' S3 ∧ ((L' = L ∧ W' = W) ∨ (L'.length = L.length + 1 ∧ W'.length ≤ W.length + 3 * rows.length)) := by
      intro S3 k3 hq3
      refine ⟨_, L ++ [x], W ++ f x, rfl, ⟨_, _, _, _, rfl⟩, ⟨⟨by rw [← hadd]; exact nodup_addN h.wk.nd, ?_, ?_, ?_, ?_, ?_⟩, hq3, ?_, ?_, h.ps, ?_, h.q0, h.qm, h.ms⟩, .inr ⟨by simp, by simp; omega⟩⟩
      · intro y hy
        simp only [List.mem_append, List.mem_singleton] at hy
        rcases hy with hy | rfl
        · exact h.wk.lt y hy
        · exact hxn
      · intro y hy
        simp only [List.mem_append, List.mem_singleton] at hy
        rcases hy with (hy | rfl) | (hy | hy)
        · exact h.wk.so y (.inl hy)
        · exact h.wk.so y (.inr (by simp))
        · exact h.wk.so y (.inr (by simp [hy]))
        · obtain ⟨r, h1, h2, h3⟩ := (hG.gf x y).mp hy
          exact .dep h1 h2 h3 (h.wk.so x (.inr (by simp)))
      · intro y hy
        have := h.wk.ba y hy
        simp only [List.mem_append, List.mem_singleton] at this ⊢
        rcases this with h1 | h1 | h1
        · exact .inl (.inl h1)
        · exact .inr (.inl h1)
        · exact .inl (.inr h1)
      · intro y hy z hz
        simp only [List.mem_append, List.mem_singleton] at hy ⊢
        rcases hy with hy | rfl
        · have := h.wk.cl y hy z hz
          simp only [List.mem_append, List.mem_singleton] at this
          rcases this with h1 | h1 | h1
          · exact .inl (.inl h1)
          · exact .inr (.inl h1)
          · exact .inl (.inr h1)
        · exact .inr (.inr hz)
      · simp only [List.length_append, List.length_singleton, Nat.add_mul, Nat.one_mul]; omega
      · rw [← hadd]; exact k3.get hs2 (by simpa using ne1)
      · exact hM2.keep k3 (by simpa using h.qm)
      · exact hK2.after k3 (by intro i hi hi2; simp at hi; subst hi; have := h.q0; omega)
    have hlt2 : (S2 ++ [O.lst []]).length = S2.length + 1 := by simp
    have hqA : (S2 ++ [O.lst []])[q]? = some (.lst (nDs W)) := by rw [List.getElem?_append_left (Real.lt hq2)]; exact hq2
    have hMA : Mk (S2 ++ [O.lst []]) m ps f := hM2.keep (A := []) Kp.new (by simp)
    rcases hMA.get x with ⟨r, hr, e1, e2⟩ | ⟨e1, e2⟩
    · have hbig : (nDs W).length + (nDs (f x)).length ≤ sizeLine := by simp only [List.length_map]; exact line_le (by omega)
      have hex : oExtend (.ref q) [.ref r] (S2 ++ [O.lst []]) = .ok .non ((S2 ++ [O.lst []]).set q (.lst (nDs W ++ nDs (f x)))) := by simp only [oExtend, hqA, e2, if_pos hbig]
      simp_arith [e1, hex]
      exact fin _ (Kp.new.trans (Kp.set (by simp))) (by rw [get_put hqA]; simp)
    · have e3 : (S2 ++ [O.lst []])[S2.length]? = some (.lst []) := get_end
      have hbig : (nDs W).length + ([] : List D).length ≤ sizeLine := by simp only [List.length_map, List.length_nil]; exact line_le (by omega)
      have hex : oExtend (.ref q) [.ref S2.length] (S2 ++ [O.lst []]) = .ok .non ((S2 ++ [O.lst []]).set q (.lst (nDs W ++ []))) := by simp only [oExtend, hqA, e3, if_pos hbig]
      simp_arith [e1, hex]
      exact fin _ (Kp.new.trans (Kp.set (by simp))) (by rw [get_put hqA, e2]; simp)
theorem secR_ok {S : Hs} {params : Nat} {blocks : List (List Row)} (hr : ∀ b ∈ blocks, ∀ r ∈ b, r.ok nr arrs.length nb) (hl : labels.length ≤ nr)
    (hsz : labels.length + blocks.flatten.length + (nr + 1) * (3 * blocks.flatten.length + 1) ≤ 100000) :
    Wp NoX (m_secR [progD arrs params blocks, .tup (labels.map D.str)] S) fun v S' => ∃ s L, v = .ref s ∧ S'[s]? = some (.dic (natDic L (.bl true))) ∧ L.Nodup ∧ (∀ x, x ∈ L ↔ Sec arrs labels blocks.flatten x) ∧ Kp [] S S' ∧ S.length ≤ s := by
  refine wp_def0 rfl ?_
  unfold b_secR
  have hen : ∀ S, oEnum [.tup (labels.map D.str)] S = .ok (.enum (.t (labels.map D.str))) S := fun S => rfl
  simp_arith [hen, wipeL]
  refine lc_pure (α := Nat) (fun k => .tup [nD k, .str (labels.getD k "")]) (xs := List.range labels.length) (fun k => if labels.getD k "" = "secret" then some (nD k) else none) ?_ (by simp; omega) ?_ ?_
  · intro S' _ k hk
    simp only [List.length_range] at hk
    simp only [itGo, Sq.at, Option.bind_some, List.length_map]
    rw [if_pos hk]
    rcases Nat.lt_or_ge k labels.length with h | h
    · simp [List.getElem?_eq_getElem h, List.getElem?_range h, List.getD]
    · rw [List.getElem?_eq_none (by simpa using h), List.getElem?_eq_none (by simpa using h)]; rfl
  · intro k hk S' k1
    refine ⟨_, rfl, ?_⟩
    simp only [List.zip_cons_cons, List.zip_nil_right, List.foldl_cons, List.foldl_nil]
    simp_arith [oEq_str]
    refine ⟨Kp.refl, ?_⟩
    by_cases hc : labels.getD k "" = "secret"
    · rw [if_pos (by simpa using hc), if_pos hc]; exact ⟨Kp.refl, rfl⟩
    · rw [if_neg (by simpa using hc), if_neg hc]
  · intro S1 hq1 k1
    simp_arith [prog_blocks, oIt]
    have hW : (List.range labels.length).filterMap (fun k => if labels.getD k "" = "secret" then some (nD k) else none) = nDs ((List.range labels.length).filter fun k => decide (labels.getD k "" = "secret")) := by
      generalize List.range labels.length = xs
      induction xs with
      | nil => rfl
      | cons a xs ih =>
        simp only [List.filterMap_cons, List.filter_cons, decide_eq_true_eq]
        split <;> rename_i e <;> split at e <;> simp_all
    rw [hW] at hq1
    generalize hWW : (List.range labels.length).filter (fun k => decide (labels.getD k "" = "secret")) = W0 at hq1
    have hqlt := Real.lt hq1
    have hG0 : Gath arrs labels [] W0 (fun _ => []) := by
      refine ⟨fun x => ?_, fun x y => by simp, ?_, fun x => by simp⟩
      · rw [← hWW]
        simp only [List.mem_filter, List.mem_range, decide_eq_true_eq, List.not_mem_nil, false_and, exists_false, or_false]
        constructor
        · rintro ⟨h1, h2⟩
          rw [← h2]; simp [List.getD, List.getElem?_eq_getElem h1]
        · intro h
          obtain ⟨h1, h2⟩ := List.getElem?_eq_some_iff.mp h
          exact ⟨h1, by simpa [List.getD, List.getElem?_eq_getElem h1] using h2⟩
      · rw [← hWW]; have := List.length_filter_le (fun k => decide (labels.getD k "" = "secret")) (List.range labels.length); simp at this; simp; omega
    have hflat : ∀ pre b post, blocks = pre ++ b :: post → pre.flatten.length + b.length ≤ blocks.flatten.length := by
      rintro pre b post rfl; simp <;> omega
    refine wp_tupM blockD (fun pre l' S' => SecL arrs params blocks labels S.length S1.length l' ∧ SecS arrs labels S S.length S1.length pre.flatten S') ?_ ?_ ?_
    · refine ⟨⟨_, _, _, _, rfl⟩, W0, fun _ => [], [], hG0, ?_, ⟨by simp [mkDic], by simp, by simp, by simp, by simp, by simp⟩, by simp, k1.app, Nat.le_refl _, hqlt⟩
      rw [List.getElem?_append_left hqlt]; exact hq1
    · rintro pre b post l' S' hsp ⟨⟨o4, o5, o6, o7, rfl⟩, hS⟩
      have hlen := hflat pre b post hsp
      have hb : b ∈ blocks := by rw [hsp]; simp
      simp_arith []
      unfold lb_sec3
      simp_arith [oIt]
      refine wp_tupM Row.D (fun pre2 l' S' => SecL arrs params blocks labels S.length S1.length l' ∧ SecS arrs labels S S.length S1.length (pre.flatten ++ pre2) S') ⟨⟨_, _, _, _, rfl⟩, by simpa using hS⟩ ?_ ?_
      · rintro pre2 r post2 l2 S2 hsp2 ⟨⟨o4, o5, o6, o7, rfl⟩, hS2⟩
        have hrb : r ∈ b := by rw [hsp2]; simp
        have hl2 : pre2.length ≤ b.length := by rw [hsp2]; simp
        simp_arith []
        refine (sec2_ok (hr b hb r hrb) ⟨_, _, _, _, rfl⟩ (by rfl) hS2 (by rw [List.length_append]; omega) (by omega)).mono (fun _ _ _ _ h => h) ?_
        rintro x S3 ⟨l3, rfl, h3, h4⟩
        exact ⟨h3, by rw [← List.append_assoc]; exact h4⟩
      · rintro l2 S2 ⟨hL2, hS2⟩
        exact ⟨hL2, by simpa using hS2⟩
    · rintro l' S' ⟨⟨o4, o5, o6, o7, rfl⟩, W, f, ps, hG, hq, hM, hps, hK, hq0, hqm⟩
      simp_arith []
      have hxl : ∀ y, Sec arrs labels blocks.flatten y → y < nr := fun y hy => hy.lt hl (nb := nb) (na := arrs.length) (fun r hr' => by
        rw [List.mem_flatten] at hr'
        obtain ⟨b, h1, h2⟩ := hr'
        exact hr b h1 r h2)
      have hqlt' := Real.lt hq
      refine wp_while (fun mm l2 S2 => ∃ L W, WhL arrs params blocks labels S.length S1.length S'.length l2 ∧ WhS arrs labels blocks.flatten nr S S.length S1.length S'.length f ps L W S2 ∧ mm = (nr - L.length) * (3 * blocks.flatten.length + 1) + W.length) ?_ _ _ _
        ⟨[], W, ⟨_, _, _, _, rfl⟩, ⟨⟨by simp, by simp, ?_, ?_, by simp, ?_⟩, ?_, by simp [natDic], hM.keep (A := []) Kp.new (by simp), fun p hp => Real.lt (hM.li p hp), hK.app, hq0, hqm, Real.lt hM.d⟩, rfl⟩
      · rintro mm l2 S2 ⟨L, W2, ⟨p4, p5, p6, p7, rfl⟩, hw, rfl⟩
        unfold c_sec4
        simp_arith [tru_lst hw.hq]
        rcases List.eq_nil_or_concat W2 with rfl | ⟨W3, x, rfl⟩
        · simp_arith [List.isEmpty_nil]
          exact ⟨_, L, rfl, hw.hs, hw.wk.nd, hw.wk.done hG, hw.k, by have := hw.q0; have := hw.qm; have := hw.ms; omega⟩
        · rw [List.concat_eq_append] at *
          have hne : (nDs (W3 ++ [x])).isEmpty = false := by simp
          simp only [hne, Bool.not_false, if_true]
          refine (sec5_ok hG hxl (by omega) ⟨_, _, _, _, rfl⟩ hw).mono (fun _ _ _ _ h => h) ?_
          rintro r S3 ⟨l3, L3, W4, rfl, hL3, hw3, hc⟩
          have hLl := nodup_len hw3.wk.nd hw3.wk.lt
          refine ⟨_, ?_, L3, W4, hL3, hw3, rfl⟩
          rcases hc with ⟨rfl, rfl⟩ | ⟨e1, e2⟩
          · simp
          · rw [e1]
            have : nr - L.length = (nr - (L.length + 1)) + 1 := by omega
            rw [this, Nat.add_mul, Nat.one_mul]
            simp only [List.length_append, List.length_singleton]; omega
      · rintro x (h | h)
        · simp at h
        · rcases (hG.gw x).mp h with h | ⟨r, h1, h2, h3⟩
          · exact .param h
          · exact .load h1 h2 h3
      · intro x hx; exact .inr ((hG.gw x).mpr hx)
      · have := hG.gwl; simp only [List.length_nil, Nat.zero_mul, Nat.add_zero]; exact this
      · rw [List.getElem?_append_left hqlt']; exact hq
end
end Ly
set_option Elab.async false
set_option linter.all false
set_option maxRecDepth 100000
namespace Ly
open PySem PySem.Spec L2
open PyProof.Rows hiding St
local macro_rules | `(tactic| simp_arith [$ls,*]) => `(tactic| simp only [Ly.line_le, Ly.atX_no, Ly.v_ok, Ly.v_bad, Ly.v_bind, Ly.k_bd, Ly.v_at, Ly.v_bin, Ly.k_bi, Ly.k_bi2, Ly.v_var, Ly.v_c, Ly.v_un, Ly.k_un, Ly.v_if, Ly.k_ife, Ly.v_and, Ly.k_and, Ly.k_and2, Ly.v_or, Ly.k_or, Ly.k_or2, Ly.v_tup, Ly.k_tup, Ly.v_lst, Ly.k_lst, Ly.v_call, Ly.k_ca, Ly.v_fn, Ly.k_fn, Ly.v_bm, Ly.k_bm, Ly.k_bm2, Ly.v_sl, Ly.k_sl, Ly.k_sl2, Ly.k_sl3, Ly.v_ixK, Ly.k_ixk, Ly.v_inK, Ly.k_ink, Ly.v_notinK, Ly.k_nink, Ly.v_getK2, Ly.k_gk2, Ly.k_gk, Ly.v_get2, Ly.k_g2, Ly.k_g22, Ly.k_g23, Ly.v_nil, Ly.v_cons, Ly.k_co, Ly.k_co2, Ly.v_no, Ly.v_some, Ly.k_so, Ly.k_cm, Ly.v_cmp, Ly.v_tru, Ly.k_tr, Ly.v_notB, Ly.k_no, Ly.v_andB, Ly.k_an, Ly.v_orB, Ly.k_orb, Ly.v_yes, Ly.v_inKB, Ly.k_inkB, Ly.v_notinKB, Ly.k_ninkB, Ly.v_set, Ly.k_st, Ly.v_expr, Ly.k_ex, Ly.v_ret, Ly.k_re, Ly.v_retN, Ly.v_pass, Ly.v_brk, Ly.v_cnt, Ly.v_seq, Ly.k_sq_nx, Ly.k_sq_rt, Ly.k_sq_bk, Ly.k_sq_ct, Ly.v_ifS, Ly.k_ifs, Ly.v_asg, Ly.k_as, Ly.k_as2, Ly.v_aug, Ly.k_au, Ly.v_for, Ly.k_fo, Ly.v_it, Ly.k_it, Ly.k_ij, Ly.v_rng1, Ly.v_rng2, Ly.v_enum, Ly.v_zip, Ly.v_ez, Ly.v_gN, Ly.v_gsN, Ly.v_gsC, Ly.k_gc, Ly.v_gT, Ly.v_gTw, Ly.v_gSb, Ly.k_gsb, Ly.k_gsb2, Ly.k_gsb3, Ly.k_en_rt, Ly.k_en_nx, Ly.k_tu_nx, Ly.k_tu_ct, Ly.k_tu_bk, Ly.k_tu_rt, Ly.v_lc, Ly.k_lc, Ly.v_augI, Ly.k_ag, Ly.k_ag2, Ly.k_ag3, Ly.k_ag4, Ly.k_ag5, Ly.v_del, Ly.k_dl, Ly.k_dl2, Ly.v_setd, Ly.v_pop2, Ly.k_d3, Ly.k_d32, Ly.k_d33, Ly.v_get1, Ly.k_g1, Ly.k_g12, Ly.v_rg1, Ly.k_rg, Ly.v_rg2, Ly.k_rg2, Ly.k_rg22, Ly.v_dicK, Ly.v_dicT, Ly.v_dc, Ly.k_dc, List.getElem?_cons_zero, List.getElem?_cons_succ, List.set_cons_zero, List.set_cons_succ, List.length_cons, List.length_nil, List.map_cons, List.map_nil, List.cons_append, List.nil_append, List.replicate, if_true, if_false, Bool.false_eq_true, Bool.not_true, Bool.not_false, Bool.true_and, Bool.false_and, decide_true, decide_false, decide_eq_true_eq, Nat.zero_add, Nat.reduceAdd, Nat.reduceLeDiff, true_and, and_true, $ls,*])
def Row.regs (r : Row) : List Nat := r.wr.toList ++ r.rd
section
variable {arrs : List Arr} {labels : List Str} {nr nb : Nat}
structure NmS (S0 : Hs) (nr s : Nat) (P : Nat → Prop) (S : Hs) : Prop where
  ex : ∃ L : List Nat, S[s]? = some (.dic (natDic L (.bl true))) ∧ L.Nodup ∧ (∀ x ∈ L, x < nr) ∧ ∀ x, x ∈ L ↔ P x
  k : Kp [] S0 S
  lo : S0.length ≤ s
theorem NmS.mono {S0 S S' : Hs} {s : Nat} {P P' : Nat → Prop} (h : NmS S0 nr s P S) (k : Kp [] S S') (e : ∀ x, P x ↔ P' x) : NmS S0 nr s P' S' := by
  obtain ⟨L, h1, h2, h3, h4⟩ := h.ex
  exact ⟨⟨L, k.get h1 (by simp), h2, h3, fun x => (h4 x).trans (e x)⟩, h.k.trans k, h.lo⟩
theorem seqAt_lst {S : Hs} {i : Nat} {ds : List D} (h : S[i]? = some (.lst ds)) : seqAt S i = some ds := by simp [seqAt, seqD, h]
theorem oIt_lst {S : Hs} {i : Nat} {ds : List D} (h : S[i]? = some (.lst ds)) : oIt (.ref i) S = .ok (.lst i) S := by simp [oIt, seqAt_lst h]
def pubArr (arrs : List Arr) (i : Nat) : Bool := match arrs[i]? with
  | some a => decide (a.label = "public")
  | none => false
def watched (arrs : List Arr) : Row → List Nat
  | .branch a _ _ => [a]
  | .out a => [a]
  | .load _ _ a => [a]
  | .store i a v => if pubArr arrs i = true then [a, v] else [a]
  | .op s _ a b => if s = "div" ∨ s = "mod" then [a, b] else []
  | _ => []
noncomputable def b_watched : MS := (mSeq (mSet 2 (mBin oIx (mVar 0) (mC (.int 0))))
    (mSeq (mIfS (mCmp oIn (mVar 2) (mTup (lCons (mC (.str "branch")) (lCons (mC (.str "out")) lNil)))) (mRet (mTup (lCons (mBin oIx (mVar 0) (mC (.int 1))) lNil))) mPass)
    (mSeq (mIfS (mCmp oEq (mVar 2) (mC (.str "load"))) (mRet (mTup (lCons (mBin oIx (mVar 0) (mC (.int 3))) lNil))) mPass)
    (mSeq (mIfS (mCmp oEq (mVar 2) (mC (.str "store"))) (mRet (mIf (mCmp oEq (mBin oIx (mBin oIx (mVar 1) (mBin oIx (mVar 0) (mC (.int 1)))) (mC (.int 2))) (mC (.str "public"))) (mTup (lCons (mBin oIx (mVar 0) (mC (.int 2))) (lCons (mBin oIx (mVar 0) (mC (.int 3))) lNil))) (mTup (lCons (mBin oIx (mVar 0) (mC (.int 2))) lNil)))) mPass)
    (mSeq (mIfS (mAndB (mCmp oEq (mVar 2) (mC (.str "op"))) (mCmp oIn (mBin oIx (mVar 0) (mC (.int 1))) (mTup (lCons (mC (.str "div")) (lCons (mC (.str "mod")) lNil))))) (mRet (mTup (lCons (mBin oIx (mVar 0) (mC (.int 3))) (lCons (mBin oIx (mVar 0) (mC (.int 4))) lNil)))) mPass)
    (mRet (mTup lNil)))))))
noncomputable def m_watched : MD := mDef 2 1 b_watched
theorem oIn_lit2 {S : Hs} {x a b : Str} : oIn (.str x) (.tup [.str a, .str b]) S = .ok (.bl (decide (x = a ∨ x = b))) S := by
  have := oIn_strs (S := S) (x := x) (xs := [a, b]) (.inl rfl)
  simpa using this
theorem ix0 {S : Hs} {d : D} {ds : List D} : oIx (.tup (d :: ds)) (.int 0) S = .ok d S := oIx_tup (n := 0) rfl
theorem ix1 {S : Hs} {d e : D} {ds : List D} : oIx (.tup (d :: e :: ds)) (.int 1) S = .ok e S := oIx_tup (n := 1) rfl
theorem ix2 {S : Hs} {d e f : D} {ds : List D} : oIx (.tup (d :: e :: f :: ds)) (.int 2) S = .ok f S := oIx_tup (n := 2) rfl
theorem ix3 {S : Hs} {d e f g : D} {ds : List D} : oIx (.tup (d :: e :: f :: g :: ds)) (.int 3) S = .ok g S := oIx_tup (n := 3) rfl
theorem ix4 {S : Hs} {d e f g h : D} {ds : List D} : oIx (.tup (d :: e :: f :: g :: h :: ds)) (.int 4) S = .ok h S := oIx_tup (n := 4) rfl
theorem watched_ok {S : Hs} {r : Row} (hr : r.ok nr arrs.length nb) : Wp NoX (m_watched [r.D, .tup (arrs.map Arr.D)] S) fun v S' => v = .tup (nDs (watched arrs r)) ∧ S' = S := by
  refine wp_def0 rfl ?_
  unfold b_watched
  cases r with
  | store i a v =>
    have hi : i < arrs.length := hr.1
    simp_arith [Row.D, ix0, ix1, ix2, ix3, oIn_lit2, oEq_str, ofString_inj, String.reduceEq, or_false, or_true, false_or, arr_at hi, arr_label]
    by_cases hp : arrs[i].label = "public"
    · simp [hp, watched, pubArr, List.getElem?_eq_getElem hi]
    · simp [hp, watched, pubArr, List.getElem?_eq_getElem hi]
  | op s d a b =>
    by_cases hs : s = "div" ∨ s = "mod"
    · simp_arith [Row.D, ix0, ix1, ix2, ix3, ix4, oIn_lit2, oEq_str, ofString_inj, String.reduceEq, or_false, or_true, false_or, hs]
      simp [watched, hs]
    · simp_arith [Row.D, ix0, ix1, ix2, ix3, ix4, oIn_lit2, oEq_str, ofString_inj, String.reduceEq, or_false, or_true, false_or, hs]
      simp [watched, hs]
  | _ =>
    simp_arith [Row.D, ix0, ix1, ix2, ix3, ix4, oIn_lit2, oEq_str, ofString_inj, String.reduceEq, or_false, or_true, false_or]
    simp [watched]
end
noncomputable def lb_keep0 : MS := (mIfS (mCmp oIn (mVar 5) (mVar 2)) (mRet (mC (.bl false))) mPass)
noncomputable def lb_keep1 : MS := (mFor (mIt (mFn m_watched (lCons (mVar 4) (lCons (mBin oIx (mVar 0) (mC (.int 0))) lNil)))) (gN 5) lb_keep0)
noncomputable def lb_keep2 : MS := (mFor (mIt (mVar 3)) (gN 4) lb_keep1)
noncomputable def b_keep : MS := (mSeq (mSet 2 (mFn m_secR (lCons (mVar 0) (lCons (mVar 1) lNil))))
    (mSeq (mFor (mIt (mBin oIx (mVar 0) (mC (.int 2)))) (gN 3) lb_keep2)
    (mRet (mC (.bl true)))))
noncomputable def m_keep : MD := mDef 2 4 b_keep
section
variable {arrs : List Arr} {labels : List Str} {nr nb : Nat}
def Keeps (arrs : List Arr) (P : Nat → Prop) (rows : List Row) : Prop := ∀ r ∈ rows, ∀ x ∈ watched arrs r, ¬ P x
theorem keep_ok {S : Hs} {params : Nat} {blocks : List (List Row)} (hr : ∀ b ∈ blocks, ∀ r ∈ b, r.ok nr arrs.length nb) (hl : labels.length ≤ nr)
    (hsz : labels.length + blocks.flatten.length + (nr + 1) * (3 * blocks.flatten.length + 1) ≤ 100000) :
    Wp NoX (m_keep [progD arrs params blocks, .tup (labels.map D.str)] S) fun v S' => (∃ b : Bool, v = .bl b ∧ (b = true ↔ Keeps arrs (Sec arrs labels blocks.flatten) blocks.flatten)) ∧ Kp [] S S' := by
  refine wp_def0 rfl ?_
  unfold b_keep
  simp_arith []
  refine Wp.call (secR_ok hr hl hsz) ?_
  rintro _ S1 ⟨s, L, rfl, hs, hLn, hLs, k1, hs0⟩
  simp_arith [prog_blocks, oIt]
  have bad : ∀ (r : Row) (x : Nat), r ∈ blocks.flatten → x ∈ watched arrs r → x ∈ L → (∃ b : Bool, D.bl false = .bl b ∧ (b = true ↔ Keeps arrs (Sec arrs labels blocks.flatten) blocks.flatten)) ∧ Kp [] S S1 := fun r x h1 h2 h3 =>
    ⟨⟨false, rfl, by simp; exact fun h => h r h1 x h2 ((hLs x).mp h3)⟩, k1⟩
  refine wp_tupM blockD (fun pre l' S' => (∃ o3 o4 o5 : Option D, l' = [some (progD arrs params blocks), some (.tup (labels.map D.str)), some (.ref s), o3, o4, o5]) ∧ S' = S1 ∧ Keeps arrs (· ∈ L) pre.flatten) ⟨⟨_, _, _, rfl⟩, rfl, by simp [Keeps]⟩ ?_ ?_
  · rintro pre b post l' S' hsp ⟨⟨o3, o4, o5, rfl⟩, rfl, hk⟩
    have hb : b ∈ blocks := by rw [hsp]; simp
    simp_arith []
    unfold lb_keep2
    simp_arith [oIt]
    refine wp_tupM Row.D (fun pre2 l' S2 => (∃ o3 o4 o5 : Option D, l' = [some (progD arrs params blocks), some (.tup (labels.map D.str)), some (.ref s), o3, o4, o5]) ∧ S2 = S' ∧ Keeps arrs (· ∈ L) (pre.flatten ++ pre2)) ⟨⟨_, _, _, rfl⟩, rfl, by simpa using hk⟩ ?_ ?_
    · rintro pre2 r post2 l2 S2 hsp2 ⟨⟨o3, o4, o5, rfl⟩, rfl, hk2⟩
      have hrb : r ∈ b := by rw [hsp2]; simp
      have hrf : r ∈ blocks.flatten := List.mem_flatten.mpr ⟨b, hb, hrb⟩
      simp_arith []
      unfold lb_keep1
      simp_arith [prog_arrs]
      refine Wp.call (watched_ok (hr b hb r hrb)) ?_
      rintro _ S3 ⟨rfl, rfl⟩
      simp_arith [oIt]
      refine wp_tupM nD (fun pre3 l' S4 => (∃ o3 o4 o5 : Option D, l' = [some (progD arrs params blocks), some (.tup (labels.map D.str)), some (.ref s), o3, o4, o5]) ∧ S4 = S3 ∧ ∀ x ∈ pre3, x ∉ L) ⟨⟨_, _, _, rfl⟩, rfl, by simp⟩ ?_ ?_
      · rintro pre3 x post3 l3 S4 hsp3 ⟨⟨o3, o4, o5, rfl⟩, rfl, hk3⟩
        have hxw : x ∈ watched arrs r := by rw [hsp3]; simp
        unfold lb_keep0
        simp_arith [oIn_dic hs]
        by_cases hx : x ∈ L
        · simp_arith [hx]
          exact bad r x hrf hxw hx
        · simp_arith [hx]
          refine ⟨⟨_, _, _, rfl⟩, fun y hy => ?_⟩
          rcases List.mem_append.mp hy with hy | hy
          · exact hk3 y hy
          · simp only [List.mem_singleton] at hy; subst hy; exact hx
      · rintro l3 S4 ⟨⟨o3, o4, o5, rfl⟩, rfl, hk3⟩
        refine ⟨⟨_, _, _, rfl⟩, rfl, ?_⟩
        rw [← List.append_assoc]
        intro r' hr' y hy
        rcases List.mem_append.mp hr' with h | h
        · exact hk2 r' h y hy
        · simp only [List.mem_singleton] at h; subst h; exact hk3 y hy
    · rintro l2 S2 ⟨hL2, rfl, hk2⟩
      exact ⟨hL2, rfl, by simpa using hk2⟩
  · rintro l' S' ⟨⟨o3, o4, o5, rfl⟩, rfl, hk⟩
    simp_arith []
    exact ⟨⟨true, rfl, by simp; exact fun r h1 x h2 h3 => hk r h1 x h2 ((hLs x).mpr h3)⟩, k1⟩
end
end Ly
set_option Elab.async false
set_option linter.all false
set_option maxRecDepth 100000
namespace Ly
open PySem PySem.Spec L2
open PyProof.Rows hiding St
theorem depth_nats {L : List Nat} : PyData.depthAll (D.toPs (nDs L)) ≤ 30 := by
  refine depthAll_mem _ fun y hy => ?_
  rw [List.mem_map] at hy; obtain ⟨n, _, rfl⟩ := hy
  simp [D.toP, PyData.depth]
theorem cut2 {a b : D} {ds : List D} : cutD (a :: b :: ds) (some 2) none = ds := by simp [cutD, HT.sIx]
theorem cut3 {a b c : D} {ds : List D} : cutD (a :: b :: c :: ds) (some 3) none = ds := by simp [cutD, HT.sIx]
theorem oNeg_int {a : Int} {S : Hs} : oNeg (.int a) S = .ok (.int (-a)) S := nr rfl
end Ly
set_option Elab.async false
set_option linter.all false
set_option maxRecDepth 100000
namespace Ly
open PySem PySem.Spec L2
open PyProof.Rows hiding St
mutual
def noB : D → Bool
  | .non => true
  | .int _ => true
  | .str s => PyData.strOk s
  | .tup xs => noBs xs
  | _ => false
def noBs : List D → Bool
  | [] => true
  | d :: ds => noB d && noBs ds
end
mutual
theorem noB_plain : ∀ (d : D), noB d = true → d.plain = true
  | .non, _ => by simp [D.plain]
  | .int _, _ => by simp [D.plain]
  | .str s, h => by simpa [D.plain, noB] using h
  | .tup xs, h => by simp only [D.plain]; exact noBs_plain xs (by simpa [noB] using h)
  | .bl _, h => by simp [noB] at h
  | .wt _, h => by simp [noB] at h
  | .wl _, h => by simp [noB] at h
  | .ref _, h => by simp [noB] at h
  | .cst _, h => by simp [noB] at h
theorem noBs_plain : ∀ (ds : List D), noBs ds = true → D.plains ds = true
  | [], _ => by simp [D.plains]
  | d :: ds, h => by
    simp only [noBs, Bool.and_eq_true] at h
    simp only [D.plains, Bool.and_eq_true]
    exact ⟨noB_plain d h.1, noBs_plain ds h.2⟩
end
mutual
theorem eqv_noB : ∀ (x y : D), noB x = true → noB y = true → (PyData.eqv x.toP y.toP = true ↔ x = y)
  | .non, y, _, hy => by cases y <;> simp [D.toP, PyData.eqv, noB] at hy ⊢
  | .int i, y, _, hy => by cases y <;> simp [D.toP, PyData.eqv, noB] at hy ⊢
  | .str s, y, _, hy => by cases y <;> simp [D.toP, PyData.eqv, noB] at hy ⊢
  | .tup xs, .tup ys, hx, hy => by
    simp only [noB] at hx hy
    have := eqv_noBs xs ys hx hy
    simp [D.toP, PyData.eqv, this]
  | .tup xs, .non, _, _ => by simp [D.toP, PyData.eqv]
  | .tup xs, .int _, _, _ => by simp [D.toP, PyData.eqv]
  | .tup xs, .str _, _, _ => by simp [D.toP, PyData.eqv]
  | .tup xs, .bl _, _, h => by simp [noB] at h
  | .tup xs, .wt _, _, h => by simp [noB] at h
  | .tup xs, .wl _, _, h => by simp [noB] at h
  | .tup xs, .ref _, _, h => by simp [noB] at h
  | .tup xs, .cst _, _, h => by simp [noB] at h
  | .bl _, _, h, _ => by simp [noB] at h
  | .wt _, _, h, _ => by simp [noB] at h
  | .wl _, _, h, _ => by simp [noB] at h
  | .ref _, _, h, _ => by simp [noB] at h
  | .cst _, _, h, _ => by simp [noB] at h
theorem eqv_noBs : ∀ (xs ys : List D), noBs xs = true → noBs ys = true → (PyData.eqvAll (D.toPs xs) (D.toPs ys) = true ↔ xs = ys)
  | [], [], _, _ => by simp [D.toPs, PyData.eqvAll]
  | [], y :: ys, _, _ => by simp [D.toPs, PyData.eqvAll]
  | x :: xs, [], _, _ => by simp [D.toPs, PyData.eqvAll]
  | x :: xs, y :: ys, hx, hy => by
    simp only [noBs, Bool.and_eq_true] at hx hy
    have h1 := eqv_noB x y hx.1 hy.1
    have h2 := eqv_noBs xs ys hx.2 hy.2
    simp [D.toPs, PyData.eqvAll, h1, h2]
end
section
variable {S : Hs} {xs ys : List D}
theorem cEq_tups (hx : noBs xs = true) (hy : noBs ys = true) (dx : PyData.depthAll (D.toPs xs) ≤ 30) (dy : PyData.depthAll (D.toPs ys) ≤ 30) : ∃ b, cEqD (.tup xs) (.tup ys) S = some b ∧ (b = true ↔ xs = ys) := by
  have e1 := pd_tup (S := S) (noBs_plain _ hx) dx
  have e2 := pd_tup (S := S) (noBs_plain _ hy) dy
  refine ⟨PyData.eqv (.tuple (D.toPs xs)) (.tuple (D.toPs ys)), ?_, ?_⟩
  · unfold cEqD
    rw [show cEqS (.tup xs) (.tup ys) = none from rfl, e1.1, e2.1]
    simp only [e1.2, e2.2, and_self, if_true]
  · simp only [PyData.eqv]
    exact eqv_noBs xs ys hx hy
theorem cEq_lsts {i j : Nat} (hi : S[i]? = some (.lst xs)) (hj : S[j]? = some (.lst ys)) (hx : noBs xs = true) (hy : noBs ys = true) (dx : PyData.depthAll (D.toPs xs) ≤ 30) (dy : PyData.depthAll (D.toPs ys) ≤ 30) : ∃ b, cEqD (.ref i) (.ref j) S = some b ∧ (b = true ↔ xs = ys) := by
  have e1 := pd_lst hi (noBs_plain _ hx) dx
  have e2 := pd_lst hj (noBs_plain _ hy) dy
  refine ⟨PyData.eqv (.list (D.toPs xs)) (.list (D.toPs ys)), ?_, ?_⟩
  · unfold cEqD
    rw [show cEqS (.ref i) (.ref j) = none from rfl, e1.1, e2.1]
    simp only []
    rw [if_pos ⟨e1.2, e2.2⟩]
  · simp only [PyData.eqv]
    exact eqv_noBs xs ys hx hy
theorem noBs_mem : ∀ {ds : List D}, (∀ d ∈ ds, noB d = true) → noBs ds = true
  | [], _ => rfl
  | d :: ds, h => by simp only [noBs, Bool.and_eq_true]; exact ⟨h d (by simp), noBs_mem fun x hx => h x (by simp [hx])⟩
theorem noBs_nats {L : List Nat} : noBs (nDs L) = true := noBs_mem fun d hd => by
  obtain ⟨n, _, rfl⟩ := List.mem_map.mp hd; simp [nD, noB]
theorem oEq_tups (hx : noBs xs = true) (hy : noBs ys = true) (dx : PyData.depthAll (D.toPs xs) ≤ 30) (dy : PyData.depthAll (D.toPs ys) ≤ 30) : ∃ b, oEq (.tup xs) (.tup ys) S = .ok (.bl b) S ∧ (b = true ↔ xs = ys) := by
  obtain ⟨b, e, hb⟩ := cEq_tups (S := S) hx hy dx dy
  exact ⟨b, by unfold oEq; rw [e], hb⟩
end
end Ly
set_option Elab.async false
set_option linter.all false
set_option maxRecDepth 100000
namespace GK45
open PySem PySem.Spec L2 Ly
open PyProof.Rows hiding St
def d_WRITTEN : List (Str × D) := [("const", (.int 1)), ("copy", (.int 1)), ("op", (.int 2)), ("select", (.int 1)), ("load", (.int 1))]
def d_FORMS : List (Str × D) := [("const", (.wt [(.str "write"), (.str "word")])), ("copy", (.wt [(.str "write"), (.str "read")])), ("op", (.wt [(.str "sign"), (.str "write"), (.str "read"), (.str "read")])), ("select", (.wt [(.str "write"), (.str "read"), (.str "read"), (.str "read")])), ("load", (.wt [(.str "write"), (.str "array"), (.str "read")])), ("store", (.wt [(.str "array"), (.str "read"), (.str "read")])), ("out", (.wt [(.str "read")])), ("jump", (.wt [(.str "block")])), ("branch", (.wt [(.str "read"), (.str "block"), (.str "block")])), ("stop", (.wt [(.str "read")]))]
noncomputable def lb__law_draws_0 : MS := (mIfS (mCmp oGt (mVar 6) (mC (.int 0))) (mSeq (mExpr (mBM "list" oAppend (mVar 2) (lCons (mBin oMod (mCall bInt (lCons (mVar 6) lNil)) (mC (.int 997))) lNil)))
    (mSet 6 (mBin oFdiv (mVar 6) (mC (.int 997))))) mPass)
noncomputable def lb__law_draws_1 : MS := (mSeq (mSet 5 (mCall bAbs (lCons (mCall bInt (lCons (mBin oIx (mVar 0) (mVar 4)) lNil)) lNil)))
    (mSeq (mSet 3 (mBin oMod (mCall bInt (lCons (mBin oAdd (mBin oAdd (mBin oMul (mVar 3) (mC (.int 48271))) (mBin oMod (mVar 5) (mC (.int 1000003)))) (mVar 4)) lNil)) (mC (.int 65537))))
    (mSeq (mSet 6 (mC (.int 0)))
    (mSeq (mIfS (mCmp oGe (mVar 5) (mBin oPow (mC (.int 10)) (mC (.int 18)))) (mSet 6 (mVar 5)) (mSeq (mExpr (mBM "list" oAppend (mVar 2) (lCons (mBin oMod (mCall bInt (lCons (mVar 5) lNil)) (mC (.int 997))) lNil)))
    (mExpr (mBM "list" oAppend (mVar 2) (lCons (mBin oMod (mBin oMod (mCall bInt (lCons (mBin oAdd (mBin oMul (mVar 3) (mC (.int 69621))) (mC (.int 5))) lNil)) (mC (.int 65521))) (mC (.int 997))) lNil)))))
    (mFor (mRng1 (lCons (mC (.int 60)) lNil)) (gN 7) lb__law_draws_0)))))
noncomputable def lb__law_draws_2 : MS := (mSeq (mSet 3 (mBin oMod (mCall bInt (lCons (mBin oAdd (mBin oAdd (mBin oMul (mVar 3) (mC (.int 16807))) (mVar 4)) (mC (.int 1))) lNil)) (mC (.int 65537))))
    (mExpr (mBM "list" oAppend (mVar 2) (lCons (mBin oMod (mCall bInt (lCons (mVar 3) lNil)) (mC (.int 997))) lNil))))
noncomputable def b__law_draws : MS := (mSeq (mSet 2 (mLst lNil))
    (mSeq (mSet 3 (mC (.int 7)))
    (mSeq (mFor (mRng1 (lCons (mCall bLen (lCons (mVar 0) lNil)) lNil)) (gN 4) lb__law_draws_1)
    (mSeq (mFor (mRng1 (lCons (mVar 1) lNil)) (gN 4) lb__law_draws_2)
    (mRet (mSl (mVar 2) oNo (oSome (mVar 1))))))))
noncomputable def m__law_draws : MD := mDef 2 6 b__law_draws
theorem len__law_draws (ds : List D) (S : Hs) (h : ds.length ≠ 2) : m__law_draws ds S = .bad := mDef_len ds S h
noncomputable def b__law_start : MS := (mRet (mDisp (dpCons (mC (.str "row")) (mFn m__law_draws (lCons (mVar 0) (lCons (mC (.int 400)) lNil))) (dpCons (mC (.str "at")) (mC (.int 0)) dpNil))))
noncomputable def m__law_start : MD := mDef 1 0 b__law_start
theorem len__law_start (ds : List D) (S : Hs) (h : ds.length ≠ 1) : m__law_start ds S = .bad := mDef_len ds S h
noncomputable def b__law_take : MS := (mSeq (mSet 1 (mCall bInt (lCons (mBin oIx (mVar 0) (mC (.str "at"))) lNil)))
    (mSeq (mAsg (mBin oAdd (mVar 1) (mC (.int 1))) (gSb (mVar 0) (mC (.str "at"))))
    (mRet (mBin oAdd (mCall bInt (lCons (mBin oIx (mBin oIx (mVar 0) (mC (.str "row"))) (mBin oMod (mVar 1) (mC (.int 400)))) lNil)) (mBin oFdiv (mVar 1) (mC (.int 400)))))))
noncomputable def m__law_take : MD := mDef 1 1 b__law_take
theorem len__law_take (ds : List D) (S : Hs) (h : ds.length ≠ 1) : m__law_take ds S = .bad := mDef_len ds S h
noncomputable def lb__law_again_0 : MS := (mSeq (mExpr (mBM "list" oAppend (mVar 4) (lCons (mVar 5) lNil)))
    (mSeq (mSet 6 (mBin oIx (mVar 4) (mBin oMod (mFn m__law_take (lCons (mVar 0) lNil)) (mCall bLen (lCons (mVar 4) lNil)))))
    (mIfS (mAndB (mCmp oIn (mBin oIx (mVar 6) (mC (.int 0))) (mTup (lCons (mC (.str "op")) (lCons (mC (.str "select")) (lCons (mC (.str "load")) lNil))))) (mCmp oGt (mBin oMod (mFn m__law_take (lCons (mVar 0) lNil)) (mC (.int 3))) (mC (.int 0)))) (mSeq (mSet 7 (mBin oIx (mLst (lCons (mBin oMod (mFn m__law_take (lCons (mVar 0) lNil)) (mC (.int 6))) (lCons (mBin oAdd (mC (.int 10)) (mBin oMod (mFn m__law_take (lCons (mVar 0) lNil)) (mC (.int 90)))) lNil))) (mBin oMod (mFn m__law_take (lCons (mVar 0) lNil)) (mC (.int 2)))))
    (mIfS (mCmp oEq (mBin oIx (mVar 6) (mC (.int 0))) (mC (.str "op"))) (mExpr (mBM "list" oAppend (mVar 4) (lCons (mBin oAdd (mBin oAdd (mSl (mVar 6) oNo (oSome (mC (.int 2)))) (mTup (lCons (mVar 7) lNil))) (mSl (mVar 6) (oSome (mC (.int 3))) oNo)) lNil))) (mExpr (mBM "list" oAppend (mVar 4) (lCons (mBin oAdd (mBin oAdd (mSl (mVar 6) oNo (oSome (mC (.int 1)))) (mTup (lCons (mVar 7) lNil))) (mSl (mVar 6) (oSome (mC (.int 2))) oNo)) lNil))))) mPass)))
noncomputable def lb__law_again_1 : MS := (mSeq (mSet 4 (mLst lNil))
    (mSeq (mFor (mIt (mSl (mVar 3) oNo (oSome (mUn oNeg (mC (.int 1)))))) (gN 5) lb__law_again_0)
    (mExpr (mBM "list" oAppend (mVar 2) (lCons (mBin oAdd (mCall bTuple (lCons (mVar 4) lNil)) (mTup (lCons (mBin oIx (mVar 3) (mUn oNeg (mC (.int 1)))) lNil))) lNil)))))
noncomputable def b__law_again : MS := (mSeq (mSet 2 (mLst lNil))
    (mSeq (mFor (mIt (mBin oIx (mVar 1) (mC (.int 2)))) (gN 3) lb__law_again_1)
    (mRet (mTup (lCons (mBin oIx (mVar 1) (mC (.int 0))) (lCons (mBin oIx (mVar 1) (mC (.int 1))) (lCons (mCall bTuple (lCons (mVar 2) lNil)) lNil)))))))
noncomputable def m__law_again : MD := mDef 2 6 b__law_again
theorem len__law_again (ds : List D) (S : Hs) (h : ds.length ≠ 2) : m__law_again ds S = .bad := mDef_len ds S h
noncomputable def b__law_word : MS := (mSeq (mSet 1 (mLst (lCons (mC (.int 0)) (lCons (mC (.int 1)) (lCons (mC (.int 2)) (lCons (mC (.int 3)) (lCons (mC (.int 5)) (lCons (mC (.int 7)) (lCons (mC (.int 31)) (lCons (mC (.int 32)) (lCons (mC (.int 4294967295)) (lCons (mC (.int 2147483648)) (lCons (mC (.int 4)) (lCons (mC (.int 8)) lNil))))))))))))))
    (mRet (mBin oIx (mVar 1) (mBin oMod (mFn m__law_take (lCons (mVar 0) lNil)) (mC (.int 12))))))
noncomputable def m__law_word : MD := mDef 1 1 b__law_word
theorem len__law_word (ds : List D) (S : Hs) (h : ds.length ≠ 1) : m__law_word ds S = .bad := mDef_len ds S h
noncomputable def b__law_sign : MS := (mRet (mBin oIx (mLst (lCons (mC (.str "+")) (lCons (mC (.str "-")) (lCons (mC (.str "*")) (lCons (mC (.str "&")) (lCons (mC (.str "|")) (lCons (mC (.str "^")) (lCons (mC (.str "<<")) (lCons (mC (.str ">>")) (lCons (mC (.str "==")) (lCons (mC (.str "<")) (lCons (mC (.str "<=")) (lCons (mC (.str "div")) (lCons (mC (.str "mod")) lNil)))))))))))))) (mBin oMod (mFn m__law_take (lCons (mVar 0) lNil)) (mC (.int 13)))))
noncomputable def m__law_sign : MD := mDef 1 0 b__law_sign
theorem len__law_sign (ds : List D) (S : Hs) (h : ds.length ≠ 1) : m__law_sign ds S = .bad := mDef_len ds S h
noncomputable def b__law_row : MS := (mSeq (mSet 3 (mBin oMod (mFn m__law_take (lCons (mVar 0) lNil)) (mC (.int 12))))
    (mSeq (mSet 4 (mLc (mRng1 (lCons (mC (.int 4)) lNil)) (cN 5) mYes (mBin oMod (mFn m__law_take (lCons (mVar 0) lNil)) (mVar 2)) [5]))
    (mSeq (mIfS (mCmp oLt (mVar 3) (mC (.int 2))) (mRet (mTup (lCons (mC (.str "const")) (lCons (mBin oIx (mVar 4) (mC (.int 0))) (lCons (mFn m__law_word (lCons (mVar 0) lNil)) lNil))))) mPass)
    (mSeq (mIfS (mCmp oLt (mVar 3) (mC (.int 4))) (mRet (mTup (lCons (mC (.str "copy")) (lCons (mBin oIx (mVar 4) (mC (.int 0))) (lCons (mBin oIx (mVar 4) (mC (.int 1))) lNil))))) mPass)
    (mSeq (mIfS (mOrB (mCmp oLt (mVar 3) (mC (.int 8))) (mAndB (mCmp oEq (mVar 1) (mTup lNil)) (mCmp oGt (mVar 3) (mC (.int 8))))) (mRet (mTup (lCons (mC (.str "op")) (lCons (mFn m__law_sign (lCons (mVar 0) lNil)) (lCons (mBin oIx (mVar 4) (mC (.int 0))) (lCons (mBin oIx (mVar 4) (mC (.int 1))) (lCons (mBin oIx (mVar 4) (mC (.int 2))) lNil))))))) mPass)
    (mSeq (mIfS (mCmp oEq (mVar 3) (mC (.int 8))) (mRet (mTup (lCons (mC (.str "select")) (lCons (mBin oIx (mVar 4) (mC (.int 0))) (lCons (mBin oIx (mVar 4) (mC (.int 1))) (lCons (mBin oIx (mVar 4) (mC (.int 2))) (lCons (mBin oIx (mVar 4) (mC (.int 3))) lNil))))))) mPass)
    (mSeq (mIfS (mCmp oEq (mVar 3) (mC (.int 9))) (mRet (mTup (lCons (mC (.str "load")) (lCons (mBin oIx (mVar 4) (mC (.int 0))) (lCons (mBin oMod (mFn m__law_take (lCons (mVar 0) lNil)) (mCall bLen (lCons (mVar 1) lNil))) (lCons (mBin oIx (mVar 4) (mC (.int 1))) lNil)))))) mPass)
    (mSeq (mIfS (mCmp oEq (mVar 3) (mC (.int 10))) (mRet (mTup (lCons (mC (.str "store")) (lCons (mBin oMod (mFn m__law_take (lCons (mVar 0) lNil)) (mCall bLen (lCons (mVar 1) lNil))) (lCons (mBin oIx (mVar 4) (mC (.int 1))) (lCons (mBin oIx (mVar 4) (mC (.int 2))) lNil)))))) mPass)
    (mRet (mTup (lCons (mC (.str "out")) (lCons (mBin oIx (mVar 4) (mC (.int 0))) lNil))))))))))))
noncomputable def m__law_row : MD := mDef 3 3 b__law_row
theorem len__law_row (ds : List D) (S : Hs) (h : ds.length ≠ 3) : m__law_row ds S = .bad := mDef_len ds S h
noncomputable def lb__law_way_0 : MS := (mSeq (mSet 7 (mBin oSub (mBin oSub (mVar 2) (mVar 1)) (mC (.int 1))))
    (mIfS (mOrB (mCmp oEq (mVar 7) (mC (.int 0))) (mCmp oEq (mBin oMod (mFn m__law_take (lCons (mVar 0) lNil)) (mC (.int 5))) (mC (.int 0)))) (mExpr (mBM "list" oAppend (mVar 5) (lCons (mBin oMod (mFn m__law_take (lCons (mVar 0) lNil)) (mVar 2)) lNil))) (mExpr (mBM "list" oAppend (mVar 5) (lCons (mBin oAdd (mBin oAdd (mVar 1) (mC (.int 1))) (mBin oMod (mFn m__law_take (lCons (mVar 0) lNil)) (mVar 7))) lNil)))))
noncomputable def b__law_way : MS := (mSeq (mSet 4 (mBin oMod (mFn m__law_take (lCons (mVar 0) lNil)) (mC (.int 8))))
    (mSeq (mSet 5 (mLst lNil))
    (mSeq (mFor (mRng1 (lCons (mC (.int 2)) lNil)) (gN 6) lb__law_way_0)
    (mSeq (mIfS (mOrB (mCmp oEq (mVar 4) (mC (.int 0))) (mAndB (mCmp oEq (mVar 1) (mBin oSub (mVar 2) (mC (.int 1)))) (mCmp oLt (mVar 4) (mC (.int 6))))) (mRet (mTup (lCons (mC (.str "stop")) (lCons (mBin oMod (mFn m__law_take (lCons (mVar 0) lNil)) (mVar 3)) lNil)))) mPass)
    (mSeq (mIfS (mCmp oLt (mVar 4) (mC (.int 4))) (mRet (mTup (lCons (mC (.str "jump")) (lCons (mBin oIx (mVar 5) (mC (.int 0))) lNil)))) mPass)
    (mRet (mTup (lCons (mC (.str "branch")) (lCons (mBin oMod (mFn m__law_take (lCons (mVar 0) lNil)) (mVar 3)) (lCons (mBin oIx (mVar 5) (mC (.int 0))) (lCons (mBin oIx (mVar 5) (mC (.int 1))) lNil)))))))))))
noncomputable def m__law_way : MD := mDef 4 4 b__law_way
theorem len__law_way (ds : List D) (S : Hs) (h : ds.length ≠ 4) : m__law_way ds S = .bad := mDef_len ds S h
noncomputable def lb__law_program_0 : MS := (mSeq (mSet 7 (mLc (mRng1 (lCons (mBin oIx (mLst (lCons (mC (.int 0)) (lCons (mC (.int 1)) (lCons (mC (.int 3)) (lCons (mC (.int 5)) (lCons (mC (.int 7)) lNil)))))) (mBin oMod (mFn m__law_take (lCons (mVar 0) lNil)) (mC (.int 5)))) lNil)) (cN 8) mYes (mFn m__law_row (lCons (mVar 0) (lCons (mVar 3) (lCons (mVar 2) lNil)))) [8]))
    (mExpr (mBM "list" oAppend (mVar 5) (lCons (mCall bTuple (lCons (mBin oAdd (mVar 7) (mLst (lCons (mFn m__law_way (lCons (mVar 0) (lCons (mVar 6) (lCons (mVar 4) (lCons (mVar 2) lNil))))) lNil))) lNil)) lNil))))
noncomputable def b__law_program : MS := (mSeq (mSet 3 (mSl (mTup (lCons (mTup (lCons (mC (.str "a")) (lCons (mC (.int 1)) (lCons (mC (.str "public")) lNil)))) (lCons (mTup (lCons (mC (.str "b")) (lCons (mC (.int 3)) (lCons (mC (.str "secret")) lNil)))) (lCons (mTup (lCons (mC (.str "c")) (lCons (mC (.int 8)) (lCons (mC (.str "public")) lNil)))) lNil)))) oNo (oSome (mBin oMod (mFn m__law_take (lCons (mVar 0) lNil)) (mC (.int 4))))))
    (mSeq (mSet 4 (mBin oAdd (mC (.int 1)) (mBin oMod (mFn m__law_take (lCons (mVar 0) lNil)) (mVar 1))))
    (mSeq (mSet 5 (mLst lNil))
    (mSeq (mFor (mRng1 (lCons (mVar 4) lNil)) (gN 6) lb__law_program_0)
    (mRet (mTup (lCons (mVar 3) (lCons (mBin oMod (mFn m__law_take (lCons (mVar 0) lNil)) (mC (.int 4))) (lCons (mCall bTuple (lCons (mVar 5) lNil)) lNil)))))))))
noncomputable def m__law_program : MD := mDef 3 6 b__law_program
theorem len__law_program (ds : List D) (S : Hs) (h : ds.length ≠ 3) : m__law_program ds S = .bad := mDef_len ds S h
noncomputable def b_written : MS := (mSeq (mSet 1 (mGetK2 d_WRITTEN (mBin oIx (mVar 0) (mC (.int 0))) (mC (.int 0))))
    (mRet (mIf (mCmp oGt (mVar 1) (mC (.int 0))) (mBin oIx (mVar 0) (mVar 1)) (mUn oNeg (mC (.int 1))))))
noncomputable def m_written : MD := mDef 1 1 b_written
theorem len_written (ds : List D) (S : Hs) (h : ds.length ≠ 1) : m_written ds S = .bad := mDef_len ds S h
noncomputable def b_Present_m___init__ (cA : Nat → Addr) : MS := (mSeq (mFldSet [cA 0] "noted" mDicT (mVar 0))
    (mSeq (mFldSet [cA 0] "readers" mDicK (mVar 0))
    (mFldSet [cA 0] "loads" mDicK (mVar 0))))
noncomputable def m_Present_m___init__ (cA : Nat → Addr) : MD := mDef 1 0 (b_Present_m___init__ cA)
theorem len_Present_m___init__ {cA : Nat → Addr} (ds : List D) (S : Hs) (h : ds.length ≠ 1) : (m_Present_m___init__ cA) ds S = .bad := mDef_len ds S h
noncomputable def b_value_of : MS := (mSeq (mIfS (mCmp oNotIn (mBin oIx (mVar 0) (mC (.int 0))) (mTup (lCons (mC (.str "op")) (lCons (mC (.str "select")) (lCons (mC (.str "load")) lNil))))) (mRet (mC .non)) mPass)
    (mSeq (mSet 1 (mIxK d_WRITTEN (mBin oIx (mVar 0) (mC (.int 0)))))
    (mRet (mBin oAdd (mSl (mVar 0) oNo (oSome (mVar 1))) (mSl (mVar 0) (oSome (mBin oAdd (mVar 1) (mC (.int 1)))) oNo)))))
noncomputable def m_value_of : MD := mDef 1 1 b_value_of
theorem len_value_of (ds : List D) (S : Hs) (h : ds.length ≠ 1) : m_value_of ds S = .bad := mDef_len ds S h
noncomputable def lb_Present_m_take_off_0 (cA : Nat → Addr) : MS := (mExpr (mBM "dict" oPopT (mFld [cA 0] "noted" (mVar 0)) (lCons (mVar 2) (lCons (mC .non) lNil))))
noncomputable def b_Present_m_take_off (cA : Nat → Addr) : MS := (mLock (mVar 1) (mFor (mIt (mVar 1)) (gN 2) (lb_Present_m_take_off_0 cA)))
noncomputable def m_Present_m_take_off (cA : Nat → Addr) : MD := mDef 2 1 (b_Present_m_take_off cA)
theorem len_Present_m_take_off {cA : Nat → Addr} (ds : List D) (S : Hs) (h : ds.length ≠ 2) : (m_Present_m_take_off cA) ds S = .bad := mDef_len ds S h
noncomputable def b_Present_m_go (cA : Nat → Addr) : MS := (mSeq (mExpr (mMeth [(cA 0, (m_Present_m_take_off cA))] "take_off" (mVar 0) (lCons (mPop2 (mFld [cA 0] "readers" (mVar 0)) (mFn m_written (lCons (mVar 1) lNil)) mDicT) lNil)))
    (mIfS (mCmp oEq (mBin oIx (mVar 1) (mC (.int 0))) (mC (.str "store"))) (mExpr (mMeth [(cA 0, (m_Present_m_take_off cA))] "take_off" (mVar 0) (lCons (mPop2 (mFld [cA 0] "loads" (mVar 0)) (mBin oIx (mVar 1) (mC (.int 1))) mDicT) lNil))) mPass))
noncomputable def m_Present_m_go (cA : Nat → Addr) : MD := mDef 2 0 (b_Present_m_go cA)
theorem len_Present_m_go {cA : Nat → Addr} (ds : List D) (S : Hs) (h : ds.length ≠ 2) : (m_Present_m_go cA) ds S = .bad := mDef_len ds S h
noncomputable def b_parts_like : MS := (mSeq (mSet 2 (mIxK d_FORMS (mBin oIx (mVar 0) (mC (.int 0)))))
    (mRet (mCall bTuple (lCons (mLc (mZip (lCons (mSl (mVar 0) (oSome (mC (.int 1))) oNo) (lCons (mVar 2) lNil))) (cT [3, 4]) (mCmp oEq (mVar 4) (mVar 1)) (mVar 3) [3, 4]) lNil))))
noncomputable def m_parts_like : MD := mDef 2 3 b_parts_like
theorem len_parts_like (ds : List D) (S : Hs) (h : ds.length ≠ 2) : m_parts_like ds S = .bad := mDef_len ds S h
noncomputable def lb_Present_m_note_0 (cA : Nat → Addr) : MS := (mAsg (mC (.bl true)) (gSb (mSetd (mFld [cA 0] "readers" (mVar 0)) (mVar 3) mDicT) (mVar 2)))
noncomputable def b_Present_m_note (cA : Nat → Addr) : MS := (mSeq (mSet 2 (mFn m_value_of (lCons (mVar 1) lNil)))
    (mSeq (mAsg (mFn m_written (lCons (mVar 1) lNil)) (gSb (mFld [cA 0] "noted" (mVar 0)) (mVar 2)))
    (mSeq (mFor (mIt (mFn m_parts_like (lCons (mVar 1) (lCons (mC (.str "read")) lNil)))) (gN 3) (lb_Present_m_note_0 cA))
    (mIfS (mCmp oEq (mBin oIx (mVar 1) (mC (.int 0))) (mC (.str "load"))) (mAsg (mC (.bl true)) (gSb (mSetd (mFld [cA 0] "loads" (mVar 0)) (mBin oIx (mVar 1) (mC (.int 2))) mDicT) (mVar 2))) mPass))))
noncomputable def m_Present_m_note (cA : Nat → Addr) : MD := mDef 2 2 (b_Present_m_note cA)
theorem len_Present_m_note {cA : Nat → Addr} (ds : List D) (S : Hs) (h : ds.length ≠ 2) : (m_Present_m_note cA) ds S = .bad := mDef_len ds S h
noncomputable def lb__shared_0 (cA : Nat → Addr) : MS := (mSeq (mSet 5 (mFn m_value_of (lCons (mVar 4) lNil)))
    (mSeq (mIfS (mCmp oInN (mVar 5) (mFld [cA 0] "noted" (mVar 2))) (mSeq (mExpr (mBM "list" oAppend (mVar 3) (lCons (mTup (lCons (mC (.str "copy")) (lCons (mFn m_written (lCons (mVar 4) lNil)) (lCons (mBin oIx (mFld [cA 0] "noted" (mVar 2)) (mVar 5)) lNil)))) lNil)))
    (mSeq (mExpr (mMeth [(cA 0, (m_Present_m_go cA))] "go" (mVar 2) (lCons (mVar 4) lNil)))
    mCnt)) mPass)
    (mSeq (mExpr (mBM "list" oAppend (mVar 3) (lCons (mVar 4) lNil)))
    (mSeq (mExpr (mMeth [(cA 0, (m_Present_m_go cA))] "go" (mVar 2) (lCons (mVar 4) lNil)))
    (mIfS (mAndB (mCmp oIsNot (mVar 5) (mC .non)) (mAndB (mCmp oEq (mBin oIx (mVar 1) (mFn m_written (lCons (mVar 4) lNil))) (mC (.int 1))) (mCmp oNotIn (mFn m_written (lCons (mVar 4) lNil)) (mFn m_parts_like (lCons (mVar 4) (lCons (mC (.str "read")) lNil)))))) (mExpr (mMeth [(cA 0, (m_Present_m_note cA))] "note" (mVar 2) (lCons (mVar 4) lNil))) mPass)))))
noncomputable def b__shared (cA : Nat → Addr) : MS := (mSeq (mSet 2 (mMake (cA 0) (m_Present_m___init__ cA) lNil))
    (mSeq (mSet 3 (mLst lNil))
    (mSeq (mFor (mIt (mVar 0)) (gN 4) (lb__shared_0 cA))
    (mRet (mCall bTuple (lCons (mVar 3) lNil))))))
noncomputable def m__shared (cA : Nat → Addr) : MD := mDef 2 4 (b__shared cA)
theorem len__shared {cA : Nat → Addr} (ds : List D) (S : Hs) (h : ds.length ≠ 2) : (m__shared cA) ds S = .bad := mDef_len ds S h
noncomputable def lb_common_0 (cA : Nat → Addr) : MS := (mAsg (mBin oAdd (mGet2 (mVar 4) (mFn m_written (lCons (mVar 6) lNil)) (mC (.int 0))) (mC (.int 1))) (gSb (mVar 4) (mFn m_written (lCons (mVar 6) lNil))))
noncomputable def lb_common_1 (cA : Nat → Addr) : MS := (mFor (mIt (mVar 5)) (gN 6) (lb_common_0 cA))
noncomputable def b_common (cA : Nat → Addr) : MS := (mSeq (mAsg (mVar 0) (gT 3 (gsC (gN 1) (gsC (gN 2) (gsC (gN 3) gsN)))))
    (mSeq (mSet 4 (mDc (mRng1 (lCons (mVar 2) lNil)) (cN 7) mYes (mVar 7) (mC (.int 1)) [7]))
    (mSeq (mFor (mIt (mVar 3)) (gN 5) (lb_common_1 cA))
    (mRet (mTup (lCons (mVar 1) (lCons (mVar 2) (lCons (mCall bTuple (lCons (mLc (mIt (mVar 3)) (cN 5) mYes (mFn (m__shared cA) (lCons (mVar 5) (lCons (mVar 4) lNil))) [5]) lNil)) lNil))))))))
noncomputable def m_common (cA : Nat → Addr) : MD := mDef 1 7 (b_common cA)
theorem len_common {cA : Nat → Addr} (ds : List D) (S : Hs) (h : ds.length ≠ 1) : (m_common cA) ds S = .bad := mDef_len ds S h
noncomputable def b__law_writes : MS := (mSeq (mIfS (mCmp oEq (mBin oIx (mVar 0) (mC (.int 0))) (mC (.str "op"))) (mRet (mBin oIx (mVar 0) (mC (.int 2)))) mPass)
    (mSeq (mIfS (mCmp oIn (mBin oIx (mVar 0) (mC (.int 0))) (mTup (lCons (mC (.str "const")) (lCons (mC (.str "copy")) (lCons (mC (.str "select")) (lCons (mC (.str "load")) lNil)))))) (mRet (mBin oIx (mVar 0) (mC (.int 1)))) mPass)
    (mRet (mUn oNeg (mC (.int 1))))))
noncomputable def m__law_writes : MD := mDef 1 0 b__law_writes
theorem len__law_writes (ds : List D) (S : Hs) (h : ds.length ≠ 1) : m__law_writes ds S = .bad := mDef_len ds S h
noncomputable def b__law_stays : MS := (mSeq (mAsg (mVar 0) (gT 2 (gsC (gN 2) (gsC (gN 3) gsN))))
    (mSeq (mIfS (mCmp oEq (mBin oIx (mVar 1) (mC (.int 0))) (mC (.str "store"))) (mRet (mOr (mBin oNe (mBin oIx (mVar 2) (mC (.int 0))) (mC (.str "load"))) (mBin oNe (mBin oIx (mVar 2) (mC (.int 1))) (mBin oIx (mVar 1) (mC (.int 1)))))) mPass)
    (mSeq (mSet 4 (mFn m__law_writes (lCons (mVar 1) lNil)))
    (mSeq (mIfS (mCmp oLt (mVar 4) (mC (.int 0))) (mRet (mC (.bl true))) mPass)
    (mRet (mAnd (mBin oNe (mVar 3) (mVar 4)) (mBin oNotIn (mVar 4) (mSl (mVar 2) (oSome (mBin oAdd (mC (.int 1)) (mCall bInt (lCons (mBin oNe (mBin oIx (mVar 2) (mC (.int 0))) (mC (.str "select"))) lNil)))) oNo))))))))
noncomputable def m__law_stays : MD := mDef 2 3 b__law_stays
theorem len__law_stays (ds : List D) (S : Hs) (h : ds.length ≠ 2) : m__law_stays ds S = .bad := mDef_len ds S h
noncomputable def b__law_reads : MS := (mSeq (mIfS (mCmp oIn (mBin oIx (mVar 0) (mC (.int 0))) (mTup (lCons (mC (.str "op")) (lCons (mC (.str "load")) lNil)))) (mRet (mCall bList (lCons (mSl (mVar 0) (oSome (mC (.int 3))) oNo) lNil))) mPass)
    (mSeq (mIfS (mCmp oIn (mBin oIx (mVar 0) (mC (.int 0))) (mTup (lCons (mC (.str "copy")) (lCons (mC (.str "select")) (lCons (mC (.str "store")) lNil))))) (mRet (mCall bList (lCons (mSl (mVar 0) (oSome (mC (.int 2))) oNo) lNil))) mPass)
    (mSeq (mIfS (mCmp oIn (mBin oIx (mVar 0) (mC (.int 0))) (mTup (lCons (mC (.str "out")) (lCons (mC (.str "branch")) (lCons (mC (.str "stop")) lNil))))) (mRet (mLst (lCons (mBin oIx (mVar 0) (mC (.int 1))) lNil))) mPass)
    (mRet (mLst lNil)))))
noncomputable def m__law_reads : MD := mDef 1 0 b__law_reads
theorem len__law_reads (ds : List D) (S : Hs) (h : ds.length ≠ 1) : m__law_reads ds S = .bad := mDef_len ds S h
noncomputable def lb__law_writers_0 : MS := (mSet 2 (mBin oAdd (mVar 2) (mCall bLen (lCons (mLc (mIt (mVar 3)) (cN 4) (mCmp oEq (mFn m__law_writes (lCons (mVar 4) lNil)) (mVar 1)) (mVar 4) [4]) lNil))))
noncomputable def b__law_writers : MS := (mSeq (mSet 2 (mCall bInt (lCons (mBin oLt (mVar 1) (mBin oIx (mVar 0) (mC (.int 1)))) lNil)))
    (mSeq (mFor (mIt (mBin oIx (mVar 0) (mC (.int 2)))) (gN 3) lb__law_writers_0)
    (mRet (mVar 2))))
noncomputable def m__law_writers : MD := mDef 2 3 b__law_writers
theorem len__law_writers (ds : List D) (S : Hs) (h : ds.length ≠ 2) : m__law_writers ds S = .bad := mDef_len ds S h
noncomputable def b__law_value : MS := (mSeq (mIfS (mCmp oEq (mBin oIx (mVar 0) (mC (.int 0))) (mC (.str "op"))) (mRet (mBin oAdd (mSl (mVar 0) oNo (oSome (mC (.int 2)))) (mSl (mVar 0) (oSome (mC (.int 3))) oNo))) mPass)
    (mRet (mBin oAdd (mSl (mVar 0) oNo (oSome (mC (.int 1)))) (mSl (mVar 0) (oSome (mC (.int 2))) oNo))))
noncomputable def m__law_value : MD := mDef 1 0 b__law_value
theorem len__law_value (ds : List D) (S : Hs) (h : ds.length ≠ 1) : m__law_value ds S = .bad := mDef_len ds S h
noncomputable def lb__law_common_0 : MS := (mSeq (mSet 6 (mVar 5))
    (mSeq (mIfS (mCmp oIn (mBin oIx (mVar 5) (mC (.int 0))) (mTup (lCons (mC (.str "op")) (lCons (mC (.str "select")) (lCons (mC (.str "load")) lNil))))) (mSeq (mSet 7 (mLc (mIt (mVar 3)) (cT [9, 10]) (mCmp oEq (mVar 9) (mFn m__law_value (lCons (mVar 5) lNil))) (mVar 10) [9, 10]))
    (mIfS (mCmp oNe (mVar 7) (mLst lNil)) (mSet 6 (mTup (lCons (mC (.str "copy")) (lCons (mFn m__law_writes (lCons (mVar 5) lNil)) (lCons (mBin oIx (mVar 7) (mC (.int 0))) lNil))))) mPass)) mPass)
    (mSeq (mExpr (mBM "list" oAppend (mVar 4) (lCons (mVar 6) lNil)))
    (mSeq (mSet 3 (mLc (mIt (mVar 3)) (cN 11) (mTru (mFn m__law_stays (lCons (mVar 11) (lCons (mVar 5) lNil)))) (mVar 11) [11]))
    (mSeq (mSet 8 (mFn m__law_writes (lCons (mVar 5) lNil)))
    (mIfS (mAndB (mCmp oEq (mVar 6) (mVar 5)) (mAndB (mCmp oIn (mBin oIx (mVar 5) (mC (.int 0))) (mTup (lCons (mC (.str "op")) (lCons (mC (.str "select")) (lCons (mC (.str "load")) lNil))))) (mAndB (mCmp oNotIn (mVar 8) (mFn m__law_reads (lCons (mVar 5) lNil))) (mCmp oEq (mFn m__law_writers (lCons (mVar 0) (lCons (mVar 8) lNil))) (mC (.int 1)))))) (mExpr (mBM "list" oAppend (mVar 3) (lCons (mTup (lCons (mFn m__law_value (lCons (mVar 5) lNil)) (lCons (mVar 8) lNil))) lNil))) mPass))))))
noncomputable def lb__law_common_1 : MS := (mSeq (mSet 3 (mLst lNil))
    (mSeq (mSet 4 (mLst lNil))
    (mSeq (mFor (mIt (mVar 2)) (gN 5) lb__law_common_0)
    (mExpr (mBM "list" oAppend (mVar 1) (lCons (mCall bTuple (lCons (mVar 4) lNil)) lNil))))))
noncomputable def b__law_common : MS := (mSeq (mSet 1 (mLst lNil))
    (mSeq (mFor (mIt (mBin oIx (mVar 0) (mC (.int 2)))) (gN 2) lb__law_common_1)
    (mRet (mTup (lCons (mBin oIx (mVar 0) (mC (.int 0))) (lCons (mBin oIx (mVar 0) (mC (.int 1))) (lCons (mCall bTuple (lCons (mVar 1) lNil)) lNil)))))))
noncomputable def m__law_common : MD := mDef 1 11 b__law_common
theorem len__law_common (ds : List D) (S : Hs) (h : ds.length ≠ 1) : m__law_common ds S = .bad := mDef_len ds S h
noncomputable def lb_law_0 (cA : Nat → Addr) : MS := (mSeq (mSet 3 (mFn m__law_again (lCons (mVar 1) (lCons (mFn m__law_program (lCons (mVar 1) (lCons (mC (.int 4)) (lCons (mC (.int 6)) lNil)))) lNil))))
    (mIfS (mCmp oNe (mFn (m_common cA) (lCons (mVar 3) lNil)) (mFn m__law_common (lCons (mVar 3) lNil))) (mRet (mC (.bl false))) mPass))
noncomputable def b_law (cA : Nat → Addr) : MS := (mSeq (mSet 1 (mFn m__law_start (lCons (mVar 0) lNil)))
    (mSeq (mFor (mRng1 (lCons (mC (.int 2)) lNil)) (gN 2) (lb_law_0 cA))
    (mRet (mC (.bl true)))))
noncomputable def m_law (cA : Nat → Addr) : MD := mDef 1 3 (b_law cA)
end GK45
set_option Elab.async false
set_option linter.all false
set_option maxRecDepth 100000
set_option maxHeartbeats 4000000
namespace GK45
open PySem PySem.Spec L2 Ly
open PyProof.Rows hiding St
def top (i : Nat) : Stmt := PySem.Challenge.pw_sameclock_k45_common_values.main.body.getD i (.Pass ⟨0, 0, 0, 0⟩)
abbrev s__law_draws : Stmt := top 12
abbrev s__law_start : Stmt := top 14
abbrev s__law_take : Stmt := top 13
abbrev s__law_again : Stmt := top 25
abbrev s__law_word : Stmt := top 15
abbrev s__law_sign : Stmt := top 16
abbrev s__law_row : Stmt := top 17
abbrev s__law_way : Stmt := top 18
abbrev s__law_program : Stmt := top 19
abbrev s_written : Stmt := top 4
abbrev s_Present_m___init__ : Stmt := (C8.clsBody (top 6)).getD 0 (.Pass ⟨0, 0, 0, 0⟩)
abbrev s_value_of : Stmt := top 7
abbrev s_Present_m_take_off : Stmt := (C8.clsBody (top 6)).getD 2 (.Pass ⟨0, 0, 0, 0⟩)
abbrev s_Present_m_go : Stmt := (C8.clsBody (top 6)).getD 1 (.Pass ⟨0, 0, 0, 0⟩)
abbrev s_parts_like : Stmt := top 3
abbrev s_Present_m_note : Stmt := (C8.clsBody (top 6)).getD 3 (.Pass ⟨0, 0, 0, 0⟩)
abbrev s__shared : Stmt := top 10
abbrev s_common : Stmt := top 9
abbrev s__law_writes : Stmt := top 21
abbrev s__law_stays : Stmt := top 27
abbrev s__law_reads : Stmt := top 20
abbrev s__law_writers : Stmt := top 26
abbrev s__law_value : Stmt := top 24
abbrev s__law_common : Stmt := top 28
abbrev s_law : Stmt := top 29
section
variable {P : Program} {w : World} {K : PySem.W.Frag} {mg : Str → Option Value} {base : Heap}
theorem sc__law_draws : FnScope ["script", "many", "draws", "mixed", "k", "cell", "rest", "turn"] ["script", "many"] (defScope s__law_draws) := ⟨rfl, rfl, rfl, by decide +kernel, rfl, by decide +kernel, by decide +kernel⟩
theorem ok__law_draws {f__law_draws : Addr} {fd__law_draws : FuncData} (D__law_draws : DefAt K mg "_law_draws" s__law_draws ["script", "many"] f__law_draws fd__law_draws) (z_range : mg "range" = none) (z_len : mg "len" = none) (z_abs : mg "abs" = none) (z_int : mg "int" = none) : FnOk P w K mg base (L2.CX P w) 1 f__law_draws fd__law_draws ["script", "many"] (spM K 2 (m__law_draws)) := by
  have sc := sc__law_draws
  refine fn_def (m := b__law_draws) D__law_draws.F sc rfl rfl fun cdv A outer s H E hr => ?_
  unfold b__law_draws
  exact (SMs.cons (s_set (i := 2) sc.nd (e_lst l_nil))
    (SMs.cons (s_set (i := 3) sc.nd e_int)
    (SMs.cons (s_for (passes_of rfl) rfl (i_rng1 z_range (l_cons (c_len z_len (l_cons (e_v 0) l_nil)) l_nil)) (g_n (i := 4) sc.nd) (SMs.cons (s_set (i := 5) sc.nd (c_abs z_abs (l_cons (c_int z_int (l_cons (e_ix (hu_of hr) (e_v 0) (e_v 4)) l_nil)) l_nil)))
    (SMs.cons (s_set (i := 3) sc.nd (e_mod (c_int z_int (l_cons (e_add (e_add (e_mul (e_v 3) e_int) (e_mod (e_v 5) e_int)) (e_v 4)) l_nil)) e_int))
    (SMs.cons (s_set (i := 6) sc.nd e_int)
    (SMs.cons (s_if (b_cmp op_ge ok_ge (e_v 5) (e_pow e_int e_int) (nomark _)) (SMs.one (s_set (i := 6) sc.nd (e_v 5))) (SMs.cons (s_expr (e_bm PySem.F.plainAttrs_list PySem.F.slot_list_append PySem.F.type_list_append mt_append ok_append (e_v 2) (l_cons (e_mod (c_int z_int (l_cons (e_v 5) l_nil)) e_int) l_nil)))
    (SMs.one (s_expr (e_bm PySem.F.plainAttrs_list PySem.F.slot_list_append PySem.F.type_list_append mt_append ok_append (e_v 2) (l_cons (e_mod (e_mod (c_int z_int (l_cons (e_add (e_mul (e_v 3) e_int) e_int) l_nil)) e_int) e_int) l_nil))))))
    (SMs.one (s_for (passes_of rfl) rfl (i_rng1 z_range (l_cons e_int l_nil)) (g_n (i := 7) sc.nd) (SMs.one (s_if (b_cmp op_gt ok_gt (e_v 6) e_int (nomark _)) (SMs.cons (s_expr (e_bm PySem.F.plainAttrs_list PySem.F.slot_list_append PySem.F.type_list_append mt_append ok_append (e_v 2) (l_cons (e_mod (c_int z_int (l_cons (e_v 6) l_nil)) e_int) l_nil)))
    (SMs.one (s_set (i := 6) sc.nd (e_fdiv (e_v 6) e_int)))) SMs.nil)))))))))
    (SMs.cons (s_for (passes_of rfl) rfl (i_rng1 z_range (l_cons (e_v 1) l_nil)) (g_n (i := 4) sc.nd) (SMs.cons (s_set (i := 3) sc.nd (e_mod (c_int z_int (l_cons (e_add (e_add (e_mul (e_v 3) e_int) (e_v 4)) e_int) l_nil)) e_int))
    (SMs.one (s_expr (e_bm PySem.F.plainAttrs_list PySem.F.slot_list_append PySem.F.type_list_append mt_append ok_append (e_v 2) (l_cons (e_mod (c_int z_int (l_cons (e_v 3) l_nil)) e_int) l_nil))))))
    (SMs.one (s_ret (e_slice (e_v 2) o_no (o_some (e_v 1)))))))))
theorem sc__law_start : FnScope ["script"] ["script"] (defScope s__law_start) := ⟨rfl, rfl, rfl, by decide +kernel, rfl, by decide +kernel, by decide +kernel⟩
theorem ok__law_start {f__law_start : Addr} {fd__law_start : FuncData} {f__law_draws : Addr} {fd__law_draws : FuncData} (D__law_start : DefAt K mg "_law_start" s__law_start ["script"] f__law_start fd__law_start) (D__law_draws : DefAt K mg "_law_draws" s__law_draws ["script", "many"] f__law_draws fd__law_draws) (G__law_draws : FnOk P w K mg base (L2.CX P w) 1 f__law_draws fd__law_draws ["script", "many"] (spM K 2 m__law_draws)) : FnOk P w K mg base (L2.CX P w) 2 f__law_start fd__law_start ["script"] (spM K 1 (m__law_start)) := by
  have sc := sc__law_start
  refine fn_def (m := b__law_start) D__law_start.F sc rfl rfl fun cdv A outer s H E hr => ?_
  unfold b__law_start
  exact (SMs.one (s_ret (e_disp (dp_cons e_str (e_fn G__law_draws len__law_draws (hr.mono (by decide)) (by rfl) D__law_draws.g D__law_draws.F.kp D__law_draws.b (fun _ => Passes.at pass_def _) (l_cons (e_v 0) (l_cons e_int l_nil))) (dp_cons e_str e_int dp_nil)))))
theorem sc__law_take : FnScope ["d", "at"] ["d"] (defScope s__law_take) := ⟨rfl, rfl, rfl, by decide +kernel, rfl, by decide +kernel, by decide +kernel⟩
theorem ok__law_take {f__law_take : Addr} {fd__law_take : FuncData} (D__law_take : DefAt K mg "_law_take" s__law_take ["d"] f__law_take fd__law_take) (z_int : mg "int" = none) : FnOk P w K mg base (L2.CX P w) 1 f__law_take fd__law_take ["d"] (spM K 1 (m__law_take)) := by
  have sc := sc__law_take
  refine fn_def (m := b__law_take) D__law_take.F sc rfl rfl fun cdv A outer s H E hr => ?_
  unfold b__law_take
  exact (SMs.cons (s_set (i := 1) sc.nd (c_int z_int (l_cons (e_ix (hu_of hr) (e_v 0) e_str) l_nil)))
    (SMs.cons (s_sub (hu_of hr) (e_add (e_v 1) e_int) (e_v 0) e_str)
    (SMs.one (s_ret (e_add (c_int z_int (l_cons (e_ix (hu_of hr) (e_ix (hu_of hr) (e_v 0) e_str) (e_mod (e_v 1) e_int)) l_nil)) (e_fdiv (e_v 1) e_int))))))
theorem sc__law_again : FnScope ["d", "program", "blocks", "block", "rows", "row", "other", "fresh"] ["d", "program"] (defScope s__law_again) := ⟨rfl, rfl, rfl, by decide +kernel, rfl, by decide +kernel, by decide +kernel⟩
theorem ok__law_again {f__law_again : Addr} {fd__law_again : FuncData} {f__law_take : Addr} {fd__law_take : FuncData} (D__law_again : DefAt K mg "_law_again" s__law_again ["d", "program"] f__law_again fd__law_again) (D__law_take : DefAt K mg "_law_take" s__law_take ["d"] f__law_take fd__law_take) (G__law_take : FnOk P w K mg base (L2.CX P w) 1 f__law_take fd__law_take ["d"] (spM K 1 m__law_take)) (z_len : mg "len" = none) (z_tuple : mg "tuple" = none) : FnOk P w K mg base (L2.CX P w) 2 f__law_again fd__law_again ["d", "program"] (spM K 2 (m__law_again)) := by
  have sc := sc__law_again
  refine fn_def (m := b__law_again) D__law_again.F sc rfl rfl fun cdv A outer s H E hr => ?_
  unfold b__law_again
  exact (SMs.cons (s_set (i := 2) sc.nd (e_lst l_nil))
    (SMs.cons (s_for (passes_of rfl) rfl (i_it (e_ix (hu_of hr) (e_v 1) e_int)) (g_n (i := 3) sc.nd) (SMs.cons (s_set (i := 4) sc.nd (e_lst l_nil))
    (SMs.cons (s_for (passes_of rfl) rfl (i_it (e_slice (e_v 3) o_no (o_some (e_neg e_int)))) (g_n (i := 5) sc.nd) (SMs.cons (s_expr (e_bm PySem.F.plainAttrs_list PySem.F.slot_list_append PySem.F.type_list_append mt_append ok_append (e_v 4) (l_cons (e_v 5) l_nil)))
    (SMs.cons (s_set (i := 6) sc.nd (e_ix (hu_of hr) (e_v 4) (e_mod (e_fn G__law_take len__law_take (hr.mono (by decide)) (by rfl) D__law_take.g D__law_take.F.kp D__law_take.b (fun _ => Passes.at pass_def _) (l_cons (e_v 0) l_nil)) (c_len z_len (l_cons (e_v 4) l_nil)))))
    (SMs.one (s_if (b_of (w_and (b_cmp (or_inAll hr) ok_in (e_ix (hu_of hr) (e_v 6) e_int) (e_tup (l_cons e_str (l_cons e_str (l_cons e_str l_nil)))) (by rfl)) (w_and1 (b_cmp op_gt ok_gt (e_mod (e_fn G__law_take len__law_take (hr.mono (by decide)) (by rfl) D__law_take.g D__law_take.F.kp D__law_take.b (fun _ => Passes.at pass_def _) (l_cons (e_v 0) l_nil)) e_int) e_int (nomark _))))) (SMs.cons (s_set (i := 7) sc.nd (e_ix (hu_of hr) (e_lst (l_cons (e_mod (e_fn G__law_take len__law_take (hr.mono (by decide)) (by rfl) D__law_take.g D__law_take.F.kp D__law_take.b (fun _ => Passes.at pass_def _) (l_cons (e_v 0) l_nil)) e_int) (l_cons (e_add e_int (e_mod (e_fn G__law_take len__law_take (hr.mono (by decide)) (by rfl) D__law_take.g D__law_take.F.kp D__law_take.b (fun _ => Passes.at pass_def _) (l_cons (e_v 0) l_nil)) e_int)) l_nil))) (e_mod (e_fn G__law_take len__law_take (hr.mono (by decide)) (by rfl) D__law_take.g D__law_take.F.kp D__law_take.b (fun _ => Passes.at pass_def _) (l_cons (e_v 0) l_nil)) e_int)))
    (SMs.one (s_if (b_cmp (or_eqA hr) ok_eq (e_ix (hu_of hr) (e_v 6) e_int) e_str (nomark _)) (SMs.one (s_expr (e_bm PySem.F.plainAttrs_list PySem.F.slot_list_append PySem.F.type_list_append mt_append ok_append (e_v 4) (l_cons (e_add (e_add (e_slice (e_v 6) o_no (o_some e_int)) (e_tup (l_cons (e_v 7) l_nil))) (e_slice (e_v 6) (o_some e_int) o_no)) l_nil)))) (SMs.one (s_expr (e_bm PySem.F.plainAttrs_list PySem.F.slot_list_append PySem.F.type_list_append mt_append ok_append (e_v 4) (l_cons (e_add (e_add (e_slice (e_v 6) o_no (o_some e_int)) (e_tup (l_cons (e_v 7) l_nil))) (e_slice (e_v 6) (o_some e_int) o_no)) l_nil))))))) SMs.nil)))))
    (SMs.one (s_expr (e_bm PySem.F.plainAttrs_list PySem.F.slot_list_append PySem.F.type_list_append mt_append ok_append (e_v 2) (l_cons (e_add (c_tuple z_tuple (l_cons (e_v 4) l_nil)) (e_tup (l_cons (e_ix (hu_of hr) (e_v 3) (e_neg e_int)) l_nil))) l_nil)))))))
    (SMs.one (s_ret (e_tup (l_cons (e_ix (hu_of hr) (e_v 1) e_int) (l_cons (e_ix (hu_of hr) (e_v 1) e_int) (l_cons (c_tuple z_tuple (l_cons (e_v 2) l_nil)) l_nil))))))))
theorem sc__law_word : FnScope ["d", "words"] ["d"] (defScope s__law_word) := ⟨rfl, rfl, rfl, by decide +kernel, rfl, by decide +kernel, by decide +kernel⟩
theorem ok__law_word {f__law_word : Addr} {fd__law_word : FuncData} {f__law_take : Addr} {fd__law_take : FuncData} (D__law_word : DefAt K mg "_law_word" s__law_word ["d"] f__law_word fd__law_word) (D__law_take : DefAt K mg "_law_take" s__law_take ["d"] f__law_take fd__law_take) (G__law_take : FnOk P w K mg base (L2.CX P w) 1 f__law_take fd__law_take ["d"] (spM K 1 m__law_take)) : FnOk P w K mg base (L2.CX P w) 2 f__law_word fd__law_word ["d"] (spM K 1 (m__law_word)) := by
  have sc := sc__law_word
  refine fn_def (m := b__law_word) D__law_word.F sc rfl rfl fun cdv A outer s H E hr => ?_
  unfold b__law_word
  exact (SMs.cons (s_set (i := 1) sc.nd (e_lst (l_cons e_int (l_cons e_int (l_cons e_int (l_cons e_int (l_cons e_int (l_cons e_int (l_cons e_int (l_cons e_int (l_cons e_int (l_cons e_int (l_cons e_int (l_cons e_int l_nil))))))))))))))
    (SMs.one (s_ret (e_ix (hu_of hr) (e_v 1) (e_mod (e_fn G__law_take len__law_take (hr.mono (by decide)) (by rfl) D__law_take.g D__law_take.F.kp D__law_take.b (fun _ => Passes.at pass_def _) (l_cons (e_v 0) l_nil)) e_int)))))
theorem sc__law_sign : FnScope ["d"] ["d"] (defScope s__law_sign) := ⟨rfl, rfl, rfl, by decide +kernel, rfl, by decide +kernel, by decide +kernel⟩
theorem ok__law_sign {f__law_sign : Addr} {fd__law_sign : FuncData} {f__law_take : Addr} {fd__law_take : FuncData} (D__law_sign : DefAt K mg "_law_sign" s__law_sign ["d"] f__law_sign fd__law_sign) (D__law_take : DefAt K mg "_law_take" s__law_take ["d"] f__law_take fd__law_take) (G__law_take : FnOk P w K mg base (L2.CX P w) 1 f__law_take fd__law_take ["d"] (spM K 1 m__law_take)) : FnOk P w K mg base (L2.CX P w) 2 f__law_sign fd__law_sign ["d"] (spM K 1 (m__law_sign)) := by
  have sc := sc__law_sign
  refine fn_def (m := b__law_sign) D__law_sign.F sc rfl rfl fun cdv A outer s H E hr => ?_
  unfold b__law_sign
  exact (SMs.one (s_ret (e_ix (hu_of hr) (e_lst (l_cons e_str (l_cons e_str (l_cons e_str (l_cons e_str (l_cons e_str (l_cons e_str (l_cons e_str (l_cons e_str (l_cons e_str (l_cons e_str (l_cons e_str (l_cons e_str (l_cons e_str l_nil)))))))))))))) (e_mod (e_fn G__law_take len__law_take (hr.mono (by decide)) (by rfl) D__law_take.g D__law_take.F.kp D__law_take.b (fun _ => Passes.at pass_def _) (l_cons (e_v 0) l_nil)) e_int))))
theorem sc__law_row : FnScope ["d", "arrays", "many", "turn", "regs", "k"] ["d", "arrays", "many"] (defScope s__law_row) := ⟨rfl, rfl, rfl, by decide +kernel, rfl, by decide +kernel, by decide +kernel⟩
theorem ok__law_row {f__law_row : Addr} {fd__law_row : FuncData} {f__law_take : Addr} {fd__law_take : FuncData} {f__law_word : Addr} {fd__law_word : FuncData} {f__law_sign : Addr} {fd__law_sign : FuncData} (D__law_row : DefAt K mg "_law_row" s__law_row ["d", "arrays", "many"] f__law_row fd__law_row) (D__law_take : DefAt K mg "_law_take" s__law_take ["d"] f__law_take fd__law_take) (D__law_word : DefAt K mg "_law_word" s__law_word ["d"] f__law_word fd__law_word) (D__law_sign : DefAt K mg "_law_sign" s__law_sign ["d"] f__law_sign fd__law_sign) (G__law_take : FnOk P w K mg base (L2.CX P w) 1 f__law_take fd__law_take ["d"] (spM K 1 m__law_take)) (G__law_word : FnOk P w K mg base (L2.CX P w) 2 f__law_word fd__law_word ["d"] (spM K 1 m__law_word)) (G__law_sign : FnOk P w K mg base (L2.CX P w) 2 f__law_sign fd__law_sign ["d"] (spM K 1 m__law_sign)) (z_range : mg "range" = none) (z_len : mg "len" = none) : FnOk P w K mg base (L2.CX P w) 3 f__law_row fd__law_row ["d", "arrays", "many"] (spM K 3 (m__law_row)) := by
  have sc := sc__law_row
  refine fn_def (m := b__law_row) D__law_row.F sc rfl rfl fun cdv A outer s H E hr => ?_
  unfold b__law_row
  exact (SMs.cons (s_set (i := 3) sc.nd (e_mod (e_fn G__law_take len__law_take (hr.mono (by decide)) (by rfl) D__law_take.g D__law_take.F.kp D__law_take.b (fun _ => Passes.at pass_def _) (l_cons (e_v 0) l_nil)) e_int))
    (SMs.cons (s_setLc (i := 4) rfl sc.nd (sw_true rfl rfl rfl (by decide +kernel)) (i_rng1 z_range (l_cons e_int l_nil)) (blkOk_by (own := [("k", 5)]) (by rfl)) (gok_n (i := 5) rfl) (fun _ _ _ _ _ => pg_name (i := 5) sc.nd rfl (by first | exact Or.inl rfl | exact Or.inr rfl)) (fun _ _ _ _ _ => ct_nil) (fun _ _ _ _ _ => (e_mod (e_fn G__law_take len__law_take (hr.mono (by decide)) (by rfl) D__law_take.g D__law_take.F.kp D__law_take.b (fun _ => Passes.at passL _) (l_cons (e_v 0) l_nil)) (e_v 2))))
    (SMs.cons (s_if (b_cmp op_lt ok_lt (e_v 3) e_int (nomark _)) (SMs.one (s_ret (e_tup (l_cons e_str (l_cons (e_ix (hu_of hr) (e_v 4) e_int) (l_cons (e_fn G__law_word len__law_word (hr.mono (by decide)) (by rfl) D__law_word.g D__law_word.F.kp D__law_word.b (fun _ => Passes.at pass_def _) (l_cons (e_v 0) l_nil)) l_nil)))))) SMs.nil)
    (SMs.cons (s_if (b_cmp op_lt ok_lt (e_v 3) e_int (nomark _)) (SMs.one (s_ret (e_tup (l_cons e_str (l_cons (e_ix (hu_of hr) (e_v 4) e_int) (l_cons (e_ix (hu_of hr) (e_v 4) e_int) l_nil)))))) SMs.nil)
    (SMs.cons (s_if (b_of (w_or (b_cmp op_lt ok_lt (e_v 3) e_int (nomark _)) (w_or1 (b_of (w_and (b_cmp (or_eqA hr) ok_eq (e_v 1) (e_tup l_nil) (nomark _)) (w_and1 (b_cmp op_gt ok_gt (e_v 3) e_int (nomark _)))))))) (SMs.one (s_ret (e_tup (l_cons e_str (l_cons (e_fn G__law_sign len__law_sign (hr.mono (by decide)) (by rfl) D__law_sign.g D__law_sign.F.kp D__law_sign.b (fun _ => Passes.at pass_def _) (l_cons (e_v 0) l_nil)) (l_cons (e_ix (hu_of hr) (e_v 4) e_int) (l_cons (e_ix (hu_of hr) (e_v 4) e_int) (l_cons (e_ix (hu_of hr) (e_v 4) e_int) l_nil)))))))) SMs.nil)
    (SMs.cons (s_if (b_cmp (or_eqA hr) ok_eq (e_v 3) e_int (nomark _)) (SMs.one (s_ret (e_tup (l_cons e_str (l_cons (e_ix (hu_of hr) (e_v 4) e_int) (l_cons (e_ix (hu_of hr) (e_v 4) e_int) (l_cons (e_ix (hu_of hr) (e_v 4) e_int) (l_cons (e_ix (hu_of hr) (e_v 4) e_int) l_nil)))))))) SMs.nil)
    (SMs.cons (s_if (b_cmp (or_eqA hr) ok_eq (e_v 3) e_int (nomark _)) (SMs.one (s_ret (e_tup (l_cons e_str (l_cons (e_ix (hu_of hr) (e_v 4) e_int) (l_cons (e_mod (e_fn G__law_take len__law_take (hr.mono (by decide)) (by rfl) D__law_take.g D__law_take.F.kp D__law_take.b (fun _ => Passes.at pass_def _) (l_cons (e_v 0) l_nil)) (c_len z_len (l_cons (e_v 1) l_nil))) (l_cons (e_ix (hu_of hr) (e_v 4) e_int) l_nil))))))) SMs.nil)
    (SMs.cons (s_if (b_cmp (or_eqA hr) ok_eq (e_v 3) e_int (nomark _)) (SMs.one (s_ret (e_tup (l_cons e_str (l_cons (e_mod (e_fn G__law_take len__law_take (hr.mono (by decide)) (by rfl) D__law_take.g D__law_take.F.kp D__law_take.b (fun _ => Passes.at pass_def _) (l_cons (e_v 0) l_nil)) (c_len z_len (l_cons (e_v 1) l_nil))) (l_cons (e_ix (hu_of hr) (e_v 4) e_int) (l_cons (e_ix (hu_of hr) (e_v 4) e_int) l_nil))))))) SMs.nil)
    (SMs.one (s_ret (e_tup (l_cons e_str (l_cons (e_ix (hu_of hr) (e_v 4) e_int) l_nil)))))))))))))
theorem sc__law_way : FnScope ["d", "at", "many", "regs", "turn", "to", "k", "ahead"] ["d", "at", "many", "regs"] (defScope s__law_way) := ⟨rfl, rfl, rfl, by decide +kernel, rfl, by decide +kernel, by decide +kernel⟩
theorem ok__law_way {f__law_way : Addr} {fd__law_way : FuncData} {f__law_take : Addr} {fd__law_take : FuncData} (D__law_way : DefAt K mg "_law_way" s__law_way ["d", "at", "many", "regs"] f__law_way fd__law_way) (D__law_take : DefAt K mg "_law_take" s__law_take ["d"] f__law_take fd__law_take) (G__law_take : FnOk P w K mg base (L2.CX P w) 1 f__law_take fd__law_take ["d"] (spM K 1 m__law_take)) (z_range : mg "range" = none) : FnOk P w K mg base (L2.CX P w) 2 f__law_way fd__law_way ["d", "at", "many", "regs"] (spM K 4 (m__law_way)) := by
  have sc := sc__law_way
  refine fn_def (m := b__law_way) D__law_way.F sc rfl rfl fun cdv A outer s H E hr => ?_
  unfold b__law_way
  exact (SMs.cons (s_set (i := 4) sc.nd (e_mod (e_fn G__law_take len__law_take (hr.mono (by decide)) (by rfl) D__law_take.g D__law_take.F.kp D__law_take.b (fun _ => Passes.at pass_def _) (l_cons (e_v 0) l_nil)) e_int))
    (SMs.cons (s_set (i := 5) sc.nd (e_lst l_nil))
    (SMs.cons (s_for (passes_of rfl) rfl (i_rng1 z_range (l_cons e_int l_nil)) (g_n (i := 6) sc.nd) (SMs.cons (s_set (i := 7) sc.nd (e_sub (e_sub (e_v 2) (e_v 1)) e_int))
    (SMs.one (s_if (b_of (w_or (b_cmp (or_eqA hr) ok_eq (e_v 7) e_int (nomark _)) (w_or1 (b_cmp (or_eqA hr) ok_eq (e_mod (e_fn G__law_take len__law_take (hr.mono (by decide)) (by rfl) D__law_take.g D__law_take.F.kp D__law_take.b (fun _ => Passes.at pass_def _) (l_cons (e_v 0) l_nil)) e_int) e_int (nomark _))))) (SMs.one (s_expr (e_bm PySem.F.plainAttrs_list PySem.F.slot_list_append PySem.F.type_list_append mt_append ok_append (e_v 5) (l_cons (e_mod (e_fn G__law_take len__law_take (hr.mono (by decide)) (by rfl) D__law_take.g D__law_take.F.kp D__law_take.b (fun _ => Passes.at pass_def _) (l_cons (e_v 0) l_nil)) (e_v 2)) l_nil)))) (SMs.one (s_expr (e_bm PySem.F.plainAttrs_list PySem.F.slot_list_append PySem.F.type_list_append mt_append ok_append (e_v 5) (l_cons (e_add (e_add (e_v 1) e_int) (e_mod (e_fn G__law_take len__law_take (hr.mono (by decide)) (by rfl) D__law_take.g D__law_take.F.kp D__law_take.b (fun _ => Passes.at pass_def _) (l_cons (e_v 0) l_nil)) (e_v 7))) l_nil))))))))
    (SMs.cons (s_if (b_of (w_or (b_cmp (or_eqA hr) ok_eq (e_v 4) e_int (nomark _)) (w_or1 (b_of (w_and (b_cmp (or_eqA hr) ok_eq (e_v 1) (e_sub (e_v 2) e_int) (nomark _)) (w_and1 (b_cmp op_lt ok_lt (e_v 4) e_int (nomark _)))))))) (SMs.one (s_ret (e_tup (l_cons e_str (l_cons (e_mod (e_fn G__law_take len__law_take (hr.mono (by decide)) (by rfl) D__law_take.g D__law_take.F.kp D__law_take.b (fun _ => Passes.at pass_def _) (l_cons (e_v 0) l_nil)) (e_v 3)) l_nil))))) SMs.nil)
    (SMs.cons (s_if (b_cmp op_lt ok_lt (e_v 4) e_int (nomark _)) (SMs.one (s_ret (e_tup (l_cons e_str (l_cons (e_ix (hu_of hr) (e_v 5) e_int) l_nil))))) SMs.nil)
    (SMs.one (s_ret (e_tup (l_cons e_str (l_cons (e_mod (e_fn G__law_take len__law_take (hr.mono (by decide)) (by rfl) D__law_take.g D__law_take.F.kp D__law_take.b (fun _ => Passes.at pass_def _) (l_cons (e_v 0) l_nil)) (e_v 3)) (l_cons (e_ix (hu_of hr) (e_v 5) e_int) (l_cons (e_ix (hu_of hr) (e_v 5) e_int) l_nil))))))))))))
theorem sc__law_program : FnScope ["d", "most", "regs", "arrays", "many", "blocks", "at", "rows", "k"] ["d", "most", "regs"] (defScope s__law_program) := ⟨rfl, rfl, rfl, by decide +kernel, rfl, by decide +kernel, by decide +kernel⟩
theorem ok__law_program {f__law_program : Addr} {fd__law_program : FuncData} {f__law_take : Addr} {fd__law_take : FuncData} {f__law_row : Addr} {fd__law_row : FuncData} {f__law_way : Addr} {fd__law_way : FuncData} (D__law_program : DefAt K mg "_law_program" s__law_program ["d", "most", "regs"] f__law_program fd__law_program) (D__law_take : DefAt K mg "_law_take" s__law_take ["d"] f__law_take fd__law_take) (D__law_row : DefAt K mg "_law_row" s__law_row ["d", "arrays", "many"] f__law_row fd__law_row) (D__law_way : DefAt K mg "_law_way" s__law_way ["d", "at", "many", "regs"] f__law_way fd__law_way) (G__law_take : FnOk P w K mg base (L2.CX P w) 1 f__law_take fd__law_take ["d"] (spM K 1 m__law_take)) (G__law_row : FnOk P w K mg base (L2.CX P w) 3 f__law_row fd__law_row ["d", "arrays", "many"] (spM K 3 m__law_row)) (G__law_way : FnOk P w K mg base (L2.CX P w) 2 f__law_way fd__law_way ["d", "at", "many", "regs"] (spM K 4 m__law_way)) (z_range : mg "range" = none) (z_tuple : mg "tuple" = none) : FnOk P w K mg base (L2.CX P w) 4 f__law_program fd__law_program ["d", "most", "regs"] (spM K 3 (m__law_program)) := by
  have sc := sc__law_program
  refine fn_def (m := b__law_program) D__law_program.F sc rfl rfl fun cdv A outer s H E hr => ?_
  unfold b__law_program
  exact (SMs.cons (s_set (i := 3) sc.nd (e_slice (e_tup (l_cons (e_tup (l_cons e_str (l_cons e_int (l_cons e_str l_nil)))) (l_cons (e_tup (l_cons e_str (l_cons e_int (l_cons e_str l_nil)))) (l_cons (e_tup (l_cons e_str (l_cons e_int (l_cons e_str l_nil)))) l_nil)))) o_no (o_some (e_mod (e_fn G__law_take len__law_take (hr.mono (by decide)) (by rfl) D__law_take.g D__law_take.F.kp D__law_take.b (fun _ => Passes.at pass_def _) (l_cons (e_v 0) l_nil)) e_int))))
    (SMs.cons (s_set (i := 4) sc.nd (e_add e_int (e_mod (e_fn G__law_take len__law_take (hr.mono (by decide)) (by rfl) D__law_take.g D__law_take.F.kp D__law_take.b (fun _ => Passes.at pass_def _) (l_cons (e_v 0) l_nil)) (e_v 1))))
    (SMs.cons (s_set (i := 5) sc.nd (e_lst l_nil))
    (SMs.cons (s_for (passes_of rfl) rfl (i_rng1 z_range (l_cons (e_v 4) l_nil)) (g_n (i := 6) sc.nd) (SMs.cons (s_setLc (i := 7) rfl sc.nd (sw_true rfl rfl rfl (by decide +kernel)) (i_rng1 z_range (l_cons (e_ix (hu_of hr) (e_lst (l_cons e_int (l_cons e_int (l_cons e_int (l_cons e_int (l_cons e_int l_nil)))))) (e_mod (e_fn G__law_take len__law_take (hr.mono (by decide)) (by rfl) D__law_take.g D__law_take.F.kp D__law_take.b (fun _ => Passes.at pass_def _) (l_cons (e_v 0) l_nil)) e_int)) l_nil)) (blkOk_by (own := [("k", 8)]) (by rfl)) (gok_n (i := 8) rfl) (fun _ _ _ _ _ => pg_name (i := 8) sc.nd rfl (by first | exact Or.inl rfl | exact Or.inr rfl)) (fun _ _ _ _ _ => ct_nil) (fun _ _ _ _ _ => (e_fn G__law_row len__law_row (hr.mono (by decide)) (by rfl) D__law_row.g D__law_row.F.kp D__law_row.b (fun _ => Passes.at passL _) (l_cons (e_v 0) (l_cons (e_v 3) (l_cons (e_v 2) l_nil))))))
    (SMs.one (s_expr (e_bm PySem.F.plainAttrs_list PySem.F.slot_list_append PySem.F.type_list_append mt_append ok_append (e_v 5) (l_cons (c_tuple z_tuple (l_cons (e_add (e_v 7) (e_lst (l_cons (e_fn G__law_way len__law_way (hr.mono (by decide)) (by rfl) D__law_way.g D__law_way.F.kp D__law_way.b (fun _ => Passes.at pass_def _) (l_cons (e_v 0) (l_cons (e_v 6) (l_cons (e_v 4) (l_cons (e_v 2) l_nil))))) l_nil))) l_nil)) l_nil))))))
    (SMs.one (s_ret (e_tup (l_cons (e_v 3) (l_cons (e_mod (e_fn G__law_take len__law_take (hr.mono (by decide)) (by rfl) D__law_take.g D__law_take.F.kp D__law_take.b (fun _ => Passes.at pass_def _) (l_cons (e_v 0) l_nil)) e_int) (l_cons (c_tuple z_tuple (l_cons (e_v 5) l_nil)) l_nil))))))))))
theorem sc_written : FnScope ["row", "at"] ["row"] (defScope s_written) := ⟨rfl, rfl, rfl, by decide +kernel, rfl, by decide +kernel, by decide +kernel⟩
theorem ok_written {f_written : Addr} {fd_written : FuncData} (D_written : DefAt K mg "written" s_written ["row"] f_written fd_written) (g_WRITTEN : KD K w mg "WRITTEN" d_WRITTEN) : FnOk P w K mg base (L2.CX P w) 1 f_written fd_written ["row"] (spM K 1 (m_written)) := by
  have sc := sc_written
  refine fn_def (m := b_written) D_written.F sc rfl rfl fun cdv A outer s H E hr => ?_
  unfold b_written
  exact (SMs.cons (s_set (i := 1) sc.nd (e_getK2 g_WRITTEN (e_ix (hu_of hr) (e_v 0) e_int) e_int))
    (SMs.one (s_ret (e_if (b_cmp op_gt ok_gt (e_v 1) e_int (nomark _)) (e_ix (hu_of hr) (e_v 0) (e_v 1)) (e_neg e_int)))))
theorem sc_Present_m___init__ : FnScope ["self"] ["self"] (defScope s_Present_m___init__) := ⟨rfl, rfl, rfl, by decide +kernel, rfl, by decide +kernel, by decide +kernel⟩
theorem ok_Present_m___init__ {f_Present_m___init__ : Addr} {fd_Present_m___init__ : FuncData} {cA : Nat → Addr} (D_Present_m___init__ : MetAt K "__init__" "Present.__init__" s_Present_m___init__ ["self"] f_Present_m___init__ fd_Present_m___init__) (fo_noted : FOk K [cA 0] "noted") (fo_readers : FOk K [cA 0] "readers") (fo_loads : FOk K [cA 0] "loads") : FnOk P w K mg base (L2.CX P w) 1 f_Present_m___init__ fd_Present_m___init__ ["self"] (spM K 1 (m_Present_m___init__ cA)) := by
  have sc := sc_Present_m___init__
  refine fn_def (m := b_Present_m___init__ cA) D_Present_m___init__.F sc rfl rfl fun cdv A outer s H E hr => ?_
  unfold b_Present_m___init__
  exact (SMs.cons (s_fldset fo_noted e_dicT (e_v 0))
    (SMs.cons (s_fldset fo_readers e_dicK (e_v 0))
    (SMs.one (s_fldset fo_loads e_dicK (e_v 0)))))
theorem sc_value_of : FnScope ["row", "at"] ["row"] (defScope s_value_of) := ⟨rfl, rfl, rfl, by decide +kernel, rfl, by decide +kernel, by decide +kernel⟩
theorem ok_value_of {f_value_of : Addr} {fd_value_of : FuncData} (D_value_of : DefAt K mg "value_of" s_value_of ["row"] f_value_of fd_value_of) (g_WRITTEN : KD K w mg "WRITTEN" d_WRITTEN) : FnOk P w K mg base (L2.CX P w) 1 f_value_of fd_value_of ["row"] (spM K 1 (m_value_of)) := by
  have sc := sc_value_of
  refine fn_def (m := b_value_of) D_value_of.F sc rfl rfl fun cdv A outer s H E hr => ?_
  unfold b_value_of
  exact (SMs.cons (s_if (b_cmp (or_notinAll hr) ok_notin (e_ix (hu_of hr) (e_v 0) e_int) (e_tup (l_cons e_str (l_cons e_str (l_cons e_str l_nil)))) (by rfl)) (SMs.one (s_ret e_non)) SMs.nil)
    (SMs.cons (s_set (i := 1) sc.nd (e_ixK g_WRITTEN (e_ix (hu_of hr) (e_v 0) e_int)))
    (SMs.one (s_ret (e_add (e_slice (e_v 0) o_no (o_some (e_v 1))) (e_slice (e_v 0) (o_some (e_add (e_v 1) e_int)) o_no))))))
theorem sc_Present_m_take_off : FnScope ["self", "found", "value"] ["self", "found"] (defScope s_Present_m_take_off) := ⟨rfl, rfl, rfl, by decide +kernel, rfl, by decide +kernel, by decide +kernel⟩
theorem ok_Present_m_take_off {f_Present_m_take_off : Addr} {fd_Present_m_take_off : FuncData} {cA : Nat → Addr} (D_Present_m_take_off : MetAt K "take_off" "Present.take_off" s_Present_m_take_off ["self", "found"] f_Present_m_take_off fd_Present_m_take_off) (fo_noted : FOk K [cA 0] "noted") : FnOk P w K mg base (L2.CX P w) 1 f_Present_m_take_off fd_Present_m_take_off ["self", "found"] (spM K 2 (m_Present_m_take_off cA)) := by
  have sc := sc_Present_m_take_off
  refine fn_def (m := b_Present_m_take_off cA) D_Present_m_take_off.F sc rfl rfl fun cdv A outer s H E hr => ?_
  unfold b_Present_m_take_off
  exact (SMs.one (s_lock (mVar 1) (s_for (passes_of rfl) rfl (i_it (e_v 1)) (g_n (i := 2) sc.nd) (SMs.one (s_expr (e_bm PySem.F.plainAttrs_dict PySem.F.slot_dict_pop PySem.F.type_dict_pop (L2.DX.mt_popT (hu_of hr)) ok_popT (e_fld fo_noted (e_v 0)) (l_cons (e_v 2) (l_cons e_non l_nil))))))))
theorem sc_Present_m_go : FnScope ["self", "row"] ["self", "row"] (defScope s_Present_m_go) := ⟨rfl, rfl, rfl, by decide +kernel, rfl, by decide +kernel, by decide +kernel⟩
theorem ok_Present_m_go {f_Present_m_go : Addr} {fd_Present_m_go : FuncData} {f_written : Addr} {fd_written : FuncData} {f_Present_m_take_off : Addr} {fd_Present_m_take_off : FuncData} {cA : Nat → Addr} (D_Present_m_go : MetAt K "go" "Present.go" s_Present_m_go ["self", "row"] f_Present_m_go fd_Present_m_go) (D_written : DefAt K mg "written" s_written ["row"] f_written fd_written) (D_Present_m_take_off : MetAt K "take_off" "Present.take_off" s_Present_m_take_off ["self", "found"] f_Present_m_take_off fd_Present_m_take_off) (G_written : FnOk P w K mg base (L2.CX P w) 1 f_written fd_written ["row"] (spM K 1 m_written)) (G_Present_m_take_off : FnOk P w K mg base (L2.CX P w) 1 f_Present_m_take_off fd_Present_m_take_off ["self", "found"] (spM K 2 (m_Present_m_take_off cA))) (X_Present_take_off : Cls K (cA 0) ∧ Meth K (cA 0) "take_off" f_Present_m_take_off) (fo_readers : FOk K [cA 0] "readers") (fo_loads : FOk K [cA 0] "loads") : FnOk P w K mg base (L2.CX P w) 2 f_Present_m_go fd_Present_m_go ["self", "row"] (spM K 2 (m_Present_m_go cA)) := by
  have sc := sc_Present_m_go
  refine fn_def (m := b_Present_m_go cA) D_Present_m_go.F sc rfl rfl fun cdv A outer s H E hr => ?_
  unfold b_Present_m_go
  exact (SMs.cons (s_expr (e_meth (k := 1) (MOks.one (mok X_Present_take_off.1 X_Present_take_off.2 G_Present_m_take_off (by decide) D_Present_m_take_off.b len_Present_m_take_off)) (hr.mono (by decide)) pass_def (e_v 0) (l_cons (e_pop2 (e_fld fo_readers (e_v 0)) (e_fn G_written len_written (hr.mono (by decide)) (by rfl) D_written.g D_written.F.kp D_written.b (fun _ => Passes.at pass_def _) (l_cons (e_v 1) l_nil)) e_dicT) l_nil)))
    (SMs.one (s_if (b_cmp (or_eqA hr) ok_eq (e_ix (hu_of hr) (e_v 1) e_int) e_str (nomark _)) (SMs.one (s_expr (e_meth (k := 1) (MOks.one (mok X_Present_take_off.1 X_Present_take_off.2 G_Present_m_take_off (by decide) D_Present_m_take_off.b len_Present_m_take_off)) (hr.mono (by decide)) pass_def (e_v 0) (l_cons (e_pop2 (e_fld fo_loads (e_v 0)) (e_ix (hu_of hr) (e_v 1) e_int) e_dicT) l_nil)))) SMs.nil)))
theorem sc_parts_like : FnScope ["row", "kind", "form", "part", "like"] ["row", "kind"] (defScope s_parts_like) := ⟨rfl, rfl, rfl, by decide +kernel, rfl, by decide +kernel, by decide +kernel⟩
theorem ok_parts_like {f_parts_like : Addr} {fd_parts_like : FuncData} (D_parts_like : DefAt K mg "parts_like" s_parts_like ["row", "kind"] f_parts_like fd_parts_like) (g_FORMS : KD K w mg "FORMS" d_FORMS) (z_tuple : mg "tuple" = none) (z_zip : mg "zip" = none) : FnOk P w K mg base (L2.CX P w) 1 f_parts_like fd_parts_like ["row", "kind"] (spM K 2 (m_parts_like)) := by
  have sc := sc_parts_like
  refine fn_def (m := b_parts_like) D_parts_like.F sc rfl rfl fun cdv A outer s H E hr => ?_
  unfold b_parts_like
  exact (SMs.cons (s_set (i := 2) sc.nd (e_ixK g_FORMS (e_ix (hu_of hr) (e_v 0) e_int)))
    (SMs.one (s_ret (c_tuple z_tuple (l_cons (e_lc rfl sc.nd (i_zip z_zip (l_cons (e_slice (e_v 0) (o_some e_int) o_no) (l_cons (e_v 2) l_nil))) (blkOk_by (own := [("part", 3), ("like", 4)]) (by rfl)) (gok_t (is := [3, 4]) (by decide)) (fun _ _ _ _ _ => pg_tup rfl (pgs_cons (pg_name (i := 3) sc.nd rfl (by first | exact Or.inl rfl | exact Or.inr rfl)) (pgs_cons (pg_name (i := 4) sc.nd rfl (by first | exact Or.inl rfl | exact Or.inr rfl)) pgs_nil))) (fun _ _ _ _ _ => ct_one (b_cmp (or_eqA hr) ok_eq (e_v 4) (e_v 1) (nomark _))) (fun _ _ _ _ _ => (e_v 3))) l_nil)))))
theorem sc_Present_m_note : FnScope ["self", "row", "value", "a"] ["self", "row"] (defScope s_Present_m_note) := ⟨rfl, rfl, rfl, by decide +kernel, rfl, by decide +kernel, by decide +kernel⟩
theorem ok_Present_m_note {f_Present_m_note : Addr} {fd_Present_m_note : FuncData} {f_value_of : Addr} {fd_value_of : FuncData} {f_written : Addr} {fd_written : FuncData} {f_parts_like : Addr} {fd_parts_like : FuncData} {cA : Nat → Addr} (D_Present_m_note : MetAt K "note" "Present.note" s_Present_m_note ["self", "row"] f_Present_m_note fd_Present_m_note) (D_value_of : DefAt K mg "value_of" s_value_of ["row"] f_value_of fd_value_of) (D_written : DefAt K mg "written" s_written ["row"] f_written fd_written) (D_parts_like : DefAt K mg "parts_like" s_parts_like ["row", "kind"] f_parts_like fd_parts_like) (G_value_of : FnOk P w K mg base (L2.CX P w) 1 f_value_of fd_value_of ["row"] (spM K 1 m_value_of)) (G_written : FnOk P w K mg base (L2.CX P w) 1 f_written fd_written ["row"] (spM K 1 m_written)) (G_parts_like : FnOk P w K mg base (L2.CX P w) 1 f_parts_like fd_parts_like ["row", "kind"] (spM K 2 m_parts_like)) (fo_noted : FOk K [cA 0] "noted") (fo_readers : FOk K [cA 0] "readers") (fo_loads : FOk K [cA 0] "loads") : FnOk P w K mg base (L2.CX P w) 2 f_Present_m_note fd_Present_m_note ["self", "row"] (spM K 2 (m_Present_m_note cA)) := by
  have sc := sc_Present_m_note
  refine fn_def (m := b_Present_m_note cA) D_Present_m_note.F sc rfl rfl fun cdv A outer s H E hr => ?_
  unfold b_Present_m_note
  exact (SMs.cons (s_set (i := 2) sc.nd (e_fn G_value_of len_value_of (hr.mono (by decide)) (by rfl) D_value_of.g D_value_of.F.kp D_value_of.b (fun _ => Passes.at pass_def _) (l_cons (e_v 1) l_nil)))
    (SMs.cons (s_sub (hu_of hr) (e_fn G_written len_written (hr.mono (by decide)) (by rfl) D_written.g D_written.F.kp D_written.b (fun _ => Passes.at pass_def _) (l_cons (e_v 1) l_nil)) (e_fld fo_noted (e_v 0)) (e_v 2))
    (SMs.cons (s_for (passes_of rfl) rfl (i_it (e_fn G_parts_like len_parts_like (hr.mono (by decide)) (by rfl) D_parts_like.g D_parts_like.F.kp D_parts_like.b (fun _ => Passes.at pass_def _) (l_cons (e_v 1) (l_cons e_str l_nil)))) (g_n (i := 3) sc.nd) (SMs.one (s_sub (hu_of hr) e_bl (e_setd (e_fld fo_readers (e_v 0)) (e_v 3) e_dicT) (e_v 2))))
    (SMs.one (s_if (b_cmp (or_eqA hr) ok_eq (e_ix (hu_of hr) (e_v 1) e_int) e_str (nomark _)) (SMs.one (s_sub (hu_of hr) e_bl (e_setd (e_fld fo_loads (e_v 0)) (e_ix (hu_of hr) (e_v 1) e_int) e_dicT) (e_v 2))) SMs.nil)))))
theorem sc__shared : FnScope ["block", "times", "present", "rows", "row", "value"] ["block", "times"] (defScope s__shared) := ⟨rfl, rfl, rfl, by decide +kernel, rfl, by decide +kernel, by decide +kernel⟩
theorem ok__shared {f__shared : Addr} {fd__shared : FuncData} {f_Present_m___init__ : Addr} {fd_Present_m___init__ : FuncData} {f_value_of : Addr} {fd_value_of : FuncData} {f_written : Addr} {fd_written : FuncData} {f_Present_m_go : Addr} {fd_Present_m_go : FuncData} {f_parts_like : Addr} {fd_parts_like : FuncData} {f_Present_m_note : Addr} {fd_Present_m_note : FuncData} {cA : Nat → Addr} (D__shared : DefAt K mg "_shared" s__shared ["block", "times"] f__shared fd__shared) (D_Present_m___init__ : MetAt K "__init__" "Present.__init__" s_Present_m___init__ ["self"] f_Present_m___init__ fd_Present_m___init__) (D_value_of : DefAt K mg "value_of" s_value_of ["row"] f_value_of fd_value_of) (D_written : DefAt K mg "written" s_written ["row"] f_written fd_written) (D_Present_m_go : MetAt K "go" "Present.go" s_Present_m_go ["self", "row"] f_Present_m_go fd_Present_m_go) (D_parts_like : DefAt K mg "parts_like" s_parts_like ["row", "kind"] f_parts_like fd_parts_like) (D_Present_m_note : MetAt K "note" "Present.note" s_Present_m_note ["self", "row"] f_Present_m_note fd_Present_m_note) (G_Present_m___init__ : FnOk P w K mg base (L2.CX P w) 1 f_Present_m___init__ fd_Present_m___init__ ["self"] (spM K 1 (m_Present_m___init__ cA))) (G_value_of : FnOk P w K mg base (L2.CX P w) 1 f_value_of fd_value_of ["row"] (spM K 1 m_value_of)) (G_written : FnOk P w K mg base (L2.CX P w) 1 f_written fd_written ["row"] (spM K 1 m_written)) (G_Present_m_go : FnOk P w K mg base (L2.CX P w) 2 f_Present_m_go fd_Present_m_go ["self", "row"] (spM K 2 (m_Present_m_go cA))) (G_parts_like : FnOk P w K mg base (L2.CX P w) 1 f_parts_like fd_parts_like ["row", "kind"] (spM K 2 m_parts_like)) (G_Present_m_note : FnOk P w K mg base (L2.CX P w) 2 f_Present_m_note fd_Present_m_note ["self", "row"] (spM K 2 (m_Present_m_note cA))) (z_tuple : mg "tuple" = none) (N_Present : mg "Present" = some (.ref (cA 0))) (M_Present : Mk K (cA 0) f_Present_m___init__) (X_Present_go : Cls K (cA 0) ∧ Meth K (cA 0) "go" f_Present_m_go) (X_Present_note : Cls K (cA 0) ∧ Meth K (cA 0) "note" f_Present_m_note) (fo_noted : FOk K [cA 0] "noted") : FnOk P w K mg base (L2.CX P w) 3 f__shared fd__shared ["block", "times"] (spM K 2 (m__shared cA)) := by
  have sc := sc__shared
  refine fn_def (m := b__shared cA) D__shared.F sc rfl rfl fun cdv A outer s H E hr => ?_
  unfold b__shared
  exact (SMs.cons (s_set (i := 2) sc.nd (e_make0 M_Present G_Present_m___init__ len_Present_m___init__ (hr.mono (by decide)) (by rfl) N_Present D_Present_m___init__.b pass_def))
    (SMs.cons (s_set (i := 3) sc.nd (e_lst l_nil))
    (SMs.cons (s_for (passes_of rfl) rfl (i_it (e_v 0)) (g_n (i := 4) sc.nd) (SMs.cons (s_set (i := 5) sc.nd (e_fn G_value_of len_value_of (hr.mono (by decide)) (by rfl) D_value_of.g D_value_of.F.kp D_value_of.b (fun _ => Passes.at pass_def _) (l_cons (e_v 4) l_nil)))
    (SMs.cons (s_if (b_cmp (or_inN hr) ok_inN (e_v 5) (e_fld fo_noted (e_v 2)) (by rfl)) (SMs.cons (s_expr (e_bm PySem.F.plainAttrs_list PySem.F.slot_list_append PySem.F.type_list_append mt_append ok_append (e_v 3) (l_cons (e_tup (l_cons e_str (l_cons (e_fn G_written len_written (hr.mono (by decide)) (by rfl) D_written.g D_written.F.kp D_written.b (fun _ => Passes.at pass_def _) (l_cons (e_v 4) l_nil)) (l_cons (e_ix (hu_of hr) (e_fld fo_noted (e_v 2)) (e_v 5)) l_nil)))) l_nil)))
    (SMs.cons (s_expr (e_meth (k := 2) (MOks.one (mok X_Present_go.1 X_Present_go.2 G_Present_m_go (by decide) D_Present_m_go.b len_Present_m_go)) (hr.mono (by decide)) pass_def (e_v 2) (l_cons (e_v 4) l_nil)))
    (SMs.one s_cnt))) SMs.nil)
    (SMs.cons (s_expr (e_bm PySem.F.plainAttrs_list PySem.F.slot_list_append PySem.F.type_list_append mt_append ok_append (e_v 3) (l_cons (e_v 4) l_nil)))
    (SMs.cons (s_expr (e_meth (k := 2) (MOks.one (mok X_Present_go.1 X_Present_go.2 G_Present_m_go (by decide) D_Present_m_go.b len_Present_m_go)) (hr.mono (by decide)) pass_def (e_v 2) (l_cons (e_v 4) l_nil)))
    (SMs.one (s_if (b_of (w_and (b_cmp or_isnotA ok_isnot (e_v 5) e_non (nomark _)) (w_and (b_cmp (or_eqA hr) ok_eq (e_ix (hu_of hr) (e_v 1) (e_fn G_written len_written (hr.mono (by decide)) (by rfl) D_written.g D_written.F.kp D_written.b (fun _ => Passes.at pass_def _) (l_cons (e_v 4) l_nil))) e_int (nomark _)) (w_and1 (b_cmp (or_notinAll hr) ok_notin (e_fn G_written len_written (hr.mono (by decide)) (by rfl) D_written.g D_written.F.kp D_written.b (fun _ => Passes.at pass_def _) (l_cons (e_v 4) l_nil)) (e_fn G_parts_like len_parts_like (hr.mono (by decide)) (by rfl) D_parts_like.g D_parts_like.F.kp D_parts_like.b (fun _ => Passes.at pass_def _) (l_cons (e_v 4) (l_cons e_str l_nil))) (by rfl)))))) (SMs.one (s_expr (e_meth (k := 2) (MOks.one (mok X_Present_note.1 X_Present_note.2 G_Present_m_note (by decide) D_Present_m_note.b len_Present_m_note)) (hr.mono (by decide)) pass_def (e_v 2) (l_cons (e_v 4) l_nil)))) SMs.nil)))))))
    (SMs.one (s_ret (c_tuple z_tuple (l_cons (e_v 3) l_nil)))))))
theorem sc_common : FnScope ["program", "arrays", "params", "blocks", "times", "block", "row", "number"] ["program"] (defScope s_common) := ⟨rfl, rfl, rfl, by decide +kernel, rfl, by decide +kernel, by decide +kernel⟩
theorem ok_common {f_common : Addr} {fd_common : FuncData} {f_written : Addr} {fd_written : FuncData} {f__shared : Addr} {fd__shared : FuncData} {cA : Nat → Addr} (D_common : DefAt K mg "common" s_common ["program"] f_common fd_common) (D_written : DefAt K mg "written" s_written ["row"] f_written fd_written) (D__shared : DefAt K mg "_shared" s__shared ["block", "times"] f__shared fd__shared) (G_written : FnOk P w K mg base (L2.CX P w) 1 f_written fd_written ["row"] (spM K 1 m_written)) (G__shared : FnOk P w K mg base (L2.CX P w) 3 f__shared fd__shared ["block", "times"] (spM K 2 (m__shared cA))) (z_range : mg "range" = none) (z_tuple : mg "tuple" = none) : FnOk P w K mg base (L2.CX P w) 4 f_common fd_common ["program"] (spM K 1 (m_common cA)) := by
  have sc := sc_common
  refine fn_def (m := b_common cA) D_common.F sc rfl rfl fun cdv A outer s H E hr => ?_
  unfold b_common
  exact (SMs.cons (s_asg (e_v 0) (g_tup rfl (gs_cons (g_n (i := 1) sc.nd) (gs_cons (g_n (i := 2) sc.nd) (gs_cons (g_n (i := 3) sc.nd) gs_nil)))))
    (SMs.cons (s_set (i := 4) sc.nd (e_dc rfl sc.nd (i_rng1 z_range (l_cons (e_v 2) l_nil)) (blkOk_by (own := [("number", 7)]) (by rfl)) (gok_n (i := 7) rfl) (fun _ _ _ _ _ => pg_name (i := 7) sc.nd rfl (by first | exact Or.inl rfl | exact Or.inr rfl)) (fun _ _ _ _ _ => ct_nil) (fun _ _ _ _ _ => (e_v 7)) (fun _ _ _ _ _ => e_int)))
    (SMs.cons (s_for (passes_of rfl) rfl (i_it (e_v 3)) (g_n (i := 5) sc.nd) (SMs.one (s_for (passes_of rfl) rfl (i_it (e_v 5)) (g_n (i := 6) sc.nd) (SMs.one (s_sub (hu_of hr) (e_add (e_get2 (hu_of hr) (e_v 4) (e_fn G_written len_written (hr.mono (by decide)) (by rfl) D_written.g D_written.F.kp D_written.b (fun _ => Passes.at pass_def _) (l_cons (e_v 6) l_nil)) e_int) e_int) (e_v 4) (e_fn G_written len_written (hr.mono (by decide)) (by rfl) D_written.g D_written.F.kp D_written.b (fun _ => Passes.at pass_def _) (l_cons (e_v 6) l_nil)))))))
    (SMs.one (s_ret (e_tup (l_cons (e_v 1) (l_cons (e_v 2) (l_cons (c_tuple z_tuple (l_cons (e_lc rfl sc.nd (i_it (e_v 3)) (blkOk_by (own := [("block", 5)]) (by rfl)) (gok_n (i := 5) rfl) (fun _ _ _ _ _ => pg_name (i := 5) sc.nd rfl (by first | exact Or.inl rfl | exact Or.inr rfl)) (fun _ _ _ _ _ => ct_nil) (fun _ _ _ _ _ => (e_fn G__shared len__shared (hr.mono (by decide)) (by rfl) D__shared.g D__shared.F.kp D__shared.b (fun _ => Passes.at passL _) (l_cons (e_v 5) (l_cons (e_v 4) l_nil))))) l_nil)) l_nil)))))))))
theorem sc__law_writes : FnScope ["row"] ["row"] (defScope s__law_writes) := ⟨rfl, rfl, rfl, by decide +kernel, rfl, by decide +kernel, by decide +kernel⟩
theorem ok__law_writes {f__law_writes : Addr} {fd__law_writes : FuncData} (D__law_writes : DefAt K mg "_law_writes" s__law_writes ["row"] f__law_writes fd__law_writes) : FnOk P w K mg base (L2.CX P w) 1 f__law_writes fd__law_writes ["row"] (spM K 1 (m__law_writes)) := by
  have sc := sc__law_writes
  refine fn_def (m := b__law_writes) D__law_writes.F sc rfl rfl fun cdv A outer s H E hr => ?_
  unfold b__law_writes
  exact (SMs.cons (s_if (b_cmp (or_eqA hr) ok_eq (e_ix (hu_of hr) (e_v 0) e_int) e_str (nomark _)) (SMs.one (s_ret (e_ix (hu_of hr) (e_v 0) e_int))) SMs.nil)
    (SMs.cons (s_if (b_cmp (or_inAll hr) ok_in (e_ix (hu_of hr) (e_v 0) e_int) (e_tup (l_cons e_str (l_cons e_str (l_cons e_str (l_cons e_str l_nil))))) (by rfl)) (SMs.one (s_ret (e_ix (hu_of hr) (e_v 0) e_int))) SMs.nil)
    (SMs.one (s_ret (e_neg e_int)))))
theorem sc__law_stays : FnScope ["pair", "row", "value", "noted", "d"] ["pair", "row"] (defScope s__law_stays) := ⟨rfl, rfl, rfl, by decide +kernel, rfl, by decide +kernel, by decide +kernel⟩
theorem ok__law_stays {f__law_stays : Addr} {fd__law_stays : FuncData} {f__law_writes : Addr} {fd__law_writes : FuncData} (D__law_stays : DefAt K mg "_law_stays" s__law_stays ["pair", "row"] f__law_stays fd__law_stays) (D__law_writes : DefAt K mg "_law_writes" s__law_writes ["row"] f__law_writes fd__law_writes) (G__law_writes : FnOk P w K mg base (L2.CX P w) 1 f__law_writes fd__law_writes ["row"] (spM K 1 m__law_writes)) (z_int : mg "int" = none) : FnOk P w K mg base (L2.CX P w) 2 f__law_stays fd__law_stays ["pair", "row"] (spM K 2 (m__law_stays)) := by
  have sc := sc__law_stays
  refine fn_def (m := b__law_stays) D__law_stays.F sc rfl rfl fun cdv A outer s H E hr => ?_
  unfold b__law_stays
  exact (SMs.cons (s_asg (e_v 0) (g_tup rfl (gs_cons (g_n (i := 2) sc.nd) (gs_cons (g_n (i := 3) sc.nd) gs_nil))))
    (SMs.cons (s_if (b_cmp (or_eqA hr) ok_eq (e_ix (hu_of hr) (e_v 1) e_int) e_str (nomark _)) (SMs.one (s_ret (e_or (e_cmp (or_neA hr) ok_ne (e_ix (hu_of hr) (e_v 2) e_int) e_str (nomark _)) (e_one (e_cmp (or_neA hr) ok_ne (e_ix (hu_of hr) (e_v 2) e_int) (e_ix (hu_of hr) (e_v 1) e_int) (nomark _)))))) SMs.nil)
    (SMs.cons (s_set (i := 4) sc.nd (e_fn G__law_writes len__law_writes (hr.mono (by decide)) (by rfl) D__law_writes.g D__law_writes.F.kp D__law_writes.b (fun _ => Passes.at pass_def _) (l_cons (e_v 1) l_nil)))
    (SMs.cons (s_if (b_cmp op_lt ok_lt (e_v 4) e_int (nomark _)) (SMs.one (s_ret e_bl)) SMs.nil)
    (SMs.one (s_ret (e_and (e_cmp (or_neA hr) ok_ne (e_v 3) (e_v 4) (nomark _)) (e_one (e_cmp (or_notinAll hr) ok_notin (e_v 4) (e_slice (e_v 2) (o_some (e_add e_int (c_int z_int (l_cons (e_cmp (or_neA hr) ok_ne (e_ix (hu_of hr) (e_v 2) e_int) e_str (nomark _)) l_nil)))) o_no) (by rfl))))))))))
theorem sc__law_reads : FnScope ["row"] ["row"] (defScope s__law_reads) := ⟨rfl, rfl, rfl, by decide +kernel, rfl, by decide +kernel, by decide +kernel⟩
theorem ok__law_reads {f__law_reads : Addr} {fd__law_reads : FuncData} (D__law_reads : DefAt K mg "_law_reads" s__law_reads ["row"] f__law_reads fd__law_reads) (z_list : mg "list" = none) : FnOk P w K mg base (L2.CX P w) 1 f__law_reads fd__law_reads ["row"] (spM K 1 (m__law_reads)) := by
  have sc := sc__law_reads
  refine fn_def (m := b__law_reads) D__law_reads.F sc rfl rfl fun cdv A outer s H E hr => ?_
  unfold b__law_reads
  exact (SMs.cons (s_if (b_cmp (or_inAll hr) ok_in (e_ix (hu_of hr) (e_v 0) e_int) (e_tup (l_cons e_str (l_cons e_str l_nil))) (by rfl)) (SMs.one (s_ret (c_list rfl z_list (l_cons (e_slice (e_v 0) (o_some e_int) o_no) l_nil)))) SMs.nil)
    (SMs.cons (s_if (b_cmp (or_inAll hr) ok_in (e_ix (hu_of hr) (e_v 0) e_int) (e_tup (l_cons e_str (l_cons e_str (l_cons e_str l_nil)))) (by rfl)) (SMs.one (s_ret (c_list rfl z_list (l_cons (e_slice (e_v 0) (o_some e_int) o_no) l_nil)))) SMs.nil)
    (SMs.cons (s_if (b_cmp (or_inAll hr) ok_in (e_ix (hu_of hr) (e_v 0) e_int) (e_tup (l_cons e_str (l_cons e_str (l_cons e_str l_nil)))) (by rfl)) (SMs.one (s_ret (e_lst (l_cons (e_ix (hu_of hr) (e_v 0) e_int) l_nil)))) SMs.nil)
    (SMs.one (s_ret (e_lst l_nil))))))
theorem sc__law_writers : FnScope ["program", "reg", "many", "block", "row"] ["program", "reg"] (defScope s__law_writers) := ⟨rfl, rfl, rfl, by decide +kernel, rfl, by decide +kernel, by decide +kernel⟩
theorem ok__law_writers {f__law_writers : Addr} {fd__law_writers : FuncData} {f__law_writes : Addr} {fd__law_writes : FuncData} (D__law_writers : DefAt K mg "_law_writers" s__law_writers ["program", "reg"] f__law_writers fd__law_writers) (D__law_writes : DefAt K mg "_law_writes" s__law_writes ["row"] f__law_writes fd__law_writes) (G__law_writes : FnOk P w K mg base (L2.CX P w) 1 f__law_writes fd__law_writes ["row"] (spM K 1 m__law_writes)) (z_int : mg "int" = none) (z_len : mg "len" = none) : FnOk P w K mg base (L2.CX P w) 2 f__law_writers fd__law_writers ["program", "reg"] (spM K 2 (m__law_writers)) := by
  have sc := sc__law_writers
  refine fn_def (m := b__law_writers) D__law_writers.F sc rfl rfl fun cdv A outer s H E hr => ?_
  unfold b__law_writers
  exact (SMs.cons (s_set (i := 2) sc.nd (c_int z_int (l_cons (e_cmp op_lt ok_lt (e_v 1) (e_ix (hu_of hr) (e_v 0) e_int) (nomark _)) l_nil)))
    (SMs.cons (s_for (passes_of rfl) rfl (i_it (e_ix (hu_of hr) (e_v 0) e_int)) (g_n (i := 3) sc.nd) (SMs.one (s_set (i := 2) sc.nd (e_add (e_v 2) (c_len z_len (l_cons (e_lc rfl sc.nd (i_it (e_v 3)) (blkOk_by (own := [("row", 4)]) (by rfl)) (gok_n (i := 4) rfl) (fun _ _ _ _ _ => pg_name (i := 4) sc.nd rfl (by first | exact Or.inl rfl | exact Or.inr rfl)) (fun _ _ _ _ _ => ct_one (b_cmp (or_eqA hr) ok_eq (e_fn G__law_writes len__law_writes (hr.mono (by decide)) (by rfl) D__law_writes.g D__law_writes.F.kp D__law_writes.b (fun _ => Passes.at passL _) (l_cons (e_v 4) l_nil)) (e_v 1) (nomark _))) (fun _ _ _ _ _ => (e_v 4))) l_nil))))))
    (SMs.one (s_ret (e_v 2)))))
theorem sc__law_value : FnScope ["row"] ["row"] (defScope s__law_value) := ⟨rfl, rfl, rfl, by decide +kernel, rfl, by decide +kernel, by decide +kernel⟩
theorem ok__law_value {f__law_value : Addr} {fd__law_value : FuncData} (D__law_value : DefAt K mg "_law_value" s__law_value ["row"] f__law_value fd__law_value) : FnOk P w K mg base (L2.CX P w) 1 f__law_value fd__law_value ["row"] (spM K 1 (m__law_value)) := by
  have sc := sc__law_value
  refine fn_def (m := b__law_value) D__law_value.F sc rfl rfl fun cdv A outer s H E hr => ?_
  unfold b__law_value
  exact (SMs.cons (s_if (b_cmp (or_eqA hr) ok_eq (e_ix (hu_of hr) (e_v 0) e_int) e_str (nomark _)) (SMs.one (s_ret (e_add (e_slice (e_v 0) o_no (o_some e_int)) (e_slice (e_v 0) (o_some e_int) o_no)))) SMs.nil)
    (SMs.one (s_ret (e_add (e_slice (e_v 0) o_no (o_some e_int)) (e_slice (e_v 0) (o_some e_int) o_no)))))
theorem sc__law_common : FnScope ["program", "blocks", "block", "there", "rows", "row", "new", "same", "d", "value", "noted", "pair"] ["program"] (defScope s__law_common) := ⟨rfl, rfl, rfl, by decide +kernel, rfl, by decide +kernel, by decide +kernel⟩
theorem ok__law_common {f__law_common : Addr} {fd__law_common : FuncData} {f__law_value : Addr} {fd__law_value : FuncData} {f__law_writes : Addr} {fd__law_writes : FuncData} {f__law_stays : Addr} {fd__law_stays : FuncData} {f__law_reads : Addr} {fd__law_reads : FuncData} {f__law_writers : Addr} {fd__law_writers : FuncData} (D__law_common : DefAt K mg "_law_common" s__law_common ["program"] f__law_common fd__law_common) (D__law_value : DefAt K mg "_law_value" s__law_value ["row"] f__law_value fd__law_value) (D__law_writes : DefAt K mg "_law_writes" s__law_writes ["row"] f__law_writes fd__law_writes) (D__law_stays : DefAt K mg "_law_stays" s__law_stays ["pair", "row"] f__law_stays fd__law_stays) (D__law_reads : DefAt K mg "_law_reads" s__law_reads ["row"] f__law_reads fd__law_reads) (D__law_writers : DefAt K mg "_law_writers" s__law_writers ["program", "reg"] f__law_writers fd__law_writers) (G__law_value : FnOk P w K mg base (L2.CX P w) 1 f__law_value fd__law_value ["row"] (spM K 1 m__law_value)) (G__law_writes : FnOk P w K mg base (L2.CX P w) 1 f__law_writes fd__law_writes ["row"] (spM K 1 m__law_writes)) (G__law_stays : FnOk P w K mg base (L2.CX P w) 2 f__law_stays fd__law_stays ["pair", "row"] (spM K 2 m__law_stays)) (G__law_reads : FnOk P w K mg base (L2.CX P w) 1 f__law_reads fd__law_reads ["row"] (spM K 1 m__law_reads)) (G__law_writers : FnOk P w K mg base (L2.CX P w) 2 f__law_writers fd__law_writers ["program", "reg"] (spM K 2 m__law_writers)) (z_tuple : mg "tuple" = none) : FnOk P w K mg base (L2.CX P w) 3 f__law_common fd__law_common ["program"] (spM K 1 (m__law_common)) := by
  have sc := sc__law_common
  refine fn_def (m := b__law_common) D__law_common.F sc rfl rfl fun cdv A outer s H E hr => ?_
  unfold b__law_common
  exact (SMs.cons (s_set (i := 1) sc.nd (e_lst l_nil))
    (SMs.cons (s_for (passes_of rfl) rfl (i_it (e_ix (hu_of hr) (e_v 0) e_int)) (g_n (i := 2) sc.nd) (SMs.cons (s_set (i := 3) sc.nd (e_lst l_nil))
    (SMs.cons (s_set (i := 4) sc.nd (e_lst l_nil))
    (SMs.cons (s_for (passes_of rfl) rfl (i_it (e_v 2)) (g_n (i := 5) sc.nd) (SMs.cons (s_set (i := 6) sc.nd (e_v 5))
    (SMs.cons (s_if (b_cmp (or_inAll hr) ok_in (e_ix (hu_of hr) (e_v 5) e_int) (e_tup (l_cons e_str (l_cons e_str (l_cons e_str l_nil)))) (by rfl)) (SMs.cons (s_setLc (i := 7) rfl sc.nd (sw_true rfl rfl rfl (by decide +kernel)) (i_it (e_v 3)) (blkOk_by (own := [("value", 9), ("noted", 10)]) (by rfl)) (gok_t (is := [9, 10]) (by decide)) (fun _ _ _ _ _ => pg_tup rfl (pgs_cons (pg_name (i := 9) sc.nd rfl (by first | exact Or.inl rfl | exact Or.inr rfl)) (pgs_cons (pg_name (i := 10) sc.nd rfl (by first | exact Or.inl rfl | exact Or.inr rfl)) pgs_nil))) (fun _ _ _ _ _ => ct_one (b_cmp (or_eqA hr) ok_eq (e_v 9) (e_fn G__law_value len__law_value (hr.mono (by decide)) (by rfl) D__law_value.g D__law_value.F.kp D__law_value.b (fun _ => Passes.at passL _) (l_cons (e_v 5) l_nil)) (nomark _))) (fun _ _ _ _ _ => (e_v 10)))
    (SMs.one (s_if (b_cmp (or_neA hr) ok_ne (e_v 7) (e_lst l_nil) (nomark _)) (SMs.one (s_set (i := 6) sc.nd (e_tup (l_cons e_str (l_cons (e_fn G__law_writes len__law_writes (hr.mono (by decide)) (by rfl) D__law_writes.g D__law_writes.F.kp D__law_writes.b (fun _ => Passes.at pass_def _) (l_cons (e_v 5) l_nil)) (l_cons (e_ix (hu_of hr) (e_v 7) e_int) l_nil)))))) SMs.nil))) SMs.nil)
    (SMs.cons (s_expr (e_bm PySem.F.plainAttrs_list PySem.F.slot_list_append PySem.F.type_list_append mt_append ok_append (e_v 4) (l_cons (e_v 6) l_nil)))
    (SMs.cons (s_setLc (i := 3) rfl sc.nd (sw_true rfl rfl rfl (by decide +kernel)) (i_it (e_v 3)) (blkOk_by (own := [("pair", 11)]) (by rfl)) (gok_n (i := 11) rfl) (fun _ _ _ _ _ => pg_name (i := 11) sc.nd rfl (by first | exact Or.inl rfl | exact Or.inr rfl)) (fun _ _ _ _ _ => ct_one (b_tru (e_fn G__law_stays len__law_stays (hr.mono (by decide)) (by rfl) D__law_stays.g D__law_stays.F.kp D__law_stays.b (fun _ => Passes.at passL _) (l_cons (e_v 11) (l_cons (e_v 5) l_nil))))) (fun _ _ _ _ _ => (e_v 11)))
    (SMs.cons (s_set (i := 8) sc.nd (e_fn G__law_writes len__law_writes (hr.mono (by decide)) (by rfl) D__law_writes.g D__law_writes.F.kp D__law_writes.b (fun _ => Passes.at pass_def _) (l_cons (e_v 5) l_nil)))
    (SMs.one (s_if (b_of (w_and (b_cmp (or_eqA hr) ok_eq (e_v 6) (e_v 5) (nomark _)) (w_and (b_cmp (or_inAll hr) ok_in (e_ix (hu_of hr) (e_v 5) e_int) (e_tup (l_cons e_str (l_cons e_str (l_cons e_str l_nil)))) (by rfl)) (w_and (b_cmp (or_notinAll hr) ok_notin (e_v 8) (e_fn G__law_reads len__law_reads (hr.mono (by decide)) (by rfl) D__law_reads.g D__law_reads.F.kp D__law_reads.b (fun _ => Passes.at pass_def _) (l_cons (e_v 5) l_nil)) (by rfl)) (w_and1 (b_cmp (or_eqA hr) ok_eq (e_fn G__law_writers len__law_writers (hr.mono (by decide)) (by rfl) D__law_writers.g D__law_writers.F.kp D__law_writers.b (fun _ => Passes.at pass_def _) (l_cons (e_v 0) (l_cons (e_v 8) l_nil))) e_int (nomark _))))))) (SMs.one (s_expr (e_bm PySem.F.plainAttrs_list PySem.F.slot_list_append PySem.F.type_list_append mt_append ok_append (e_v 3) (l_cons (e_tup (l_cons (e_fn G__law_value len__law_value (hr.mono (by decide)) (by rfl) D__law_value.g D__law_value.F.kp D__law_value.b (fun _ => Passes.at pass_def _) (l_cons (e_v 5) l_nil)) (l_cons (e_v 8) l_nil))) l_nil)))) SMs.nil))))))))
    (SMs.one (s_expr (e_bm PySem.F.plainAttrs_list PySem.F.slot_list_append PySem.F.type_list_append mt_append ok_append (e_v 1) (l_cons (c_tuple z_tuple (l_cons (e_v 4) l_nil)) l_nil))))))))
    (SMs.one (s_ret (e_tup (l_cons (e_ix (hu_of hr) (e_v 0) e_int) (l_cons (e_ix (hu_of hr) (e_v 0) e_int) (l_cons (c_tuple z_tuple (l_cons (e_v 1) l_nil)) l_nil))))))))
theorem sc_law : FnScope ["script", "d", "turn", "program"] ["script"] (defScope s_law) := ⟨rfl, rfl, rfl, by decide +kernel, rfl, by decide +kernel, by decide +kernel⟩
theorem ok_law {f_law : Addr} {fd_law : FuncData} {f__law_start : Addr} {fd__law_start : FuncData} {f__law_again : Addr} {fd__law_again : FuncData} {f__law_program : Addr} {fd__law_program : FuncData} {f_common : Addr} {fd_common : FuncData} {f__law_common : Addr} {fd__law_common : FuncData} {cA : Nat → Addr} (D_law : DefAt K mg "law" s_law ["script"] f_law fd_law) (D__law_start : DefAt K mg "_law_start" s__law_start ["script"] f__law_start fd__law_start) (D__law_again : DefAt K mg "_law_again" s__law_again ["d", "program"] f__law_again fd__law_again) (D__law_program : DefAt K mg "_law_program" s__law_program ["d", "most", "regs"] f__law_program fd__law_program) (D_common : DefAt K mg "common" s_common ["program"] f_common fd_common) (D__law_common : DefAt K mg "_law_common" s__law_common ["program"] f__law_common fd__law_common) (G__law_start : FnOk P w K mg base (L2.CX P w) 2 f__law_start fd__law_start ["script"] (spM K 1 m__law_start)) (G__law_again : FnOk P w K mg base (L2.CX P w) 2 f__law_again fd__law_again ["d", "program"] (spM K 2 m__law_again)) (G__law_program : FnOk P w K mg base (L2.CX P w) 4 f__law_program fd__law_program ["d", "most", "regs"] (spM K 3 m__law_program)) (G_common : FnOk P w K mg base (L2.CX P w) 4 f_common fd_common ["program"] (spM K 1 (m_common cA))) (G__law_common : FnOk P w K mg base (L2.CX P w) 3 f__law_common fd__law_common ["program"] (spM K 1 m__law_common)) (z_range : mg "range" = none) : FnOk P w K mg base (L2.CX P w) 5 f_law fd_law ["script"] (spM K 1 (m_law cA)) := by
  have sc := sc_law
  refine fn_def (m := b_law cA) D_law.F sc rfl rfl fun cdv A outer s H E hr => ?_
  unfold b_law
  exact (SMs.cons (s_set (i := 1) sc.nd (e_fn G__law_start len__law_start (hr.mono (by decide)) (by rfl) D__law_start.g D__law_start.F.kp D__law_start.b (fun _ => Passes.at pass_def _) (l_cons (e_v 0) l_nil)))
    (SMs.cons (s_for (passes_of rfl) rfl (i_rng1 z_range (l_cons e_int l_nil)) (g_n (i := 2) sc.nd) (SMs.cons (s_set (i := 3) sc.nd (e_fn G__law_again len__law_again (hr.mono (by decide)) (by rfl) D__law_again.g D__law_again.F.kp D__law_again.b (fun _ => Passes.at pass_def _) (l_cons (e_v 1) (l_cons (e_fn G__law_program len__law_program (hr.mono (by decide)) (by rfl) D__law_program.g D__law_program.F.kp D__law_program.b (fun _ => Passes.at pass_def _) (l_cons (e_v 1) (l_cons e_int (l_cons e_int l_nil)))) l_nil))))
    (SMs.one (s_if (b_cmp (or_neA hr) ok_ne (e_fn G_common len_common (hr.mono (by decide)) (by rfl) D_common.g D_common.F.kp D_common.b (fun _ => Passes.at pass_def _) (l_cons (e_v 3) l_nil)) (e_fn G__law_common len__law_common (hr.mono (by decide)) (by rfl) D__law_common.g D__law_common.F.kp D__law_common.b (fun _ => Passes.at pass_def _) (l_cons (e_v 3) l_nil)) (nomark _)) (SMs.one (s_ret e_bl)) SMs.nil))))
    (SMs.one (s_ret e_bl))))
end
end GK45
set_option Elab.async false
set_option linter.all false
set_option maxRecDepth 100000
namespace GK45
open PySem L2 Ly
open PySem.Spec hiding Row
open PyProof.Rows hiding St
local macro_rules | `(tactic| simp_arith [$ls,*]) => `(tactic| simp only [Ly.line_le, Ly.atX_no, Ly.v_ok, Ly.v_bad, Ly.v_bind, Ly.k_bd, Ly.v_at, Ly.v_bin, Ly.k_bi, Ly.k_bi2, Ly.v_var, Ly.v_c, Ly.v_un, Ly.k_un, Ly.v_if, Ly.k_ife, Ly.v_and, Ly.k_and, Ly.k_and2, Ly.v_or, Ly.k_or, Ly.k_or2, Ly.v_tup, Ly.k_tup, Ly.v_lst, Ly.k_lst, Ly.v_call, Ly.k_ca, Ly.v_fn, Ly.k_fn, Ly.v_bm, Ly.k_bm, Ly.k_bm2, Ly.v_sl, Ly.k_sl, Ly.k_sl2, Ly.k_sl3, Ly.v_ixK, Ly.k_ixk, Ly.v_inK, Ly.k_ink, Ly.v_notinK, Ly.k_nink, Ly.v_getK2, Ly.k_gk2, Ly.k_gk, Ly.v_get2, Ly.k_g2, Ly.k_g22, Ly.k_g23, Ly.v_nil, Ly.v_cons, Ly.k_co, Ly.k_co2, Ly.v_no, Ly.v_some, Ly.k_so, Ly.k_cm, Ly.v_cmp, Ly.v_tru, Ly.k_tr, Ly.v_notB, Ly.k_no, Ly.v_andB, Ly.k_an, Ly.v_orB, Ly.k_orb, Ly.v_yes, Ly.v_inKB, Ly.k_inkB, Ly.v_notinKB, Ly.k_ninkB, Ly.v_set, Ly.k_st, Ly.v_expr, Ly.k_ex, Ly.v_ret, Ly.k_re, Ly.v_retN, Ly.v_pass, Ly.v_brk, Ly.v_cnt, Ly.v_seq, Ly.k_sq_nx, Ly.k_sq_rt, Ly.k_sq_bk, Ly.k_sq_ct, Ly.v_ifS, Ly.k_ifs, Ly.v_asg, Ly.k_as, Ly.k_as2, Ly.v_aug, Ly.k_au, Ly.v_for, Ly.k_fo, Ly.v_it, Ly.k_it, Ly.k_ij, Ly.v_rng1, Ly.v_rng2, Ly.v_enum, Ly.v_zip, Ly.v_ez, Ly.v_gN, Ly.v_gsN, Ly.v_gsC, Ly.k_gc, Ly.v_gT, Ly.v_gTw, Ly.v_gSb, Ly.k_gsb, Ly.k_gsb2, Ly.k_gsb3, Ly.k_en_rt, Ly.k_en_nx, Ly.k_tu_nx, Ly.k_tu_ct, Ly.k_tu_bk, Ly.k_tu_rt, Ly.v_lc, Ly.k_lc, Ly.v_augI, Ly.k_ag, Ly.k_ag2, Ly.k_ag3, Ly.k_ag4, Ly.k_ag5, Ly.v_del, Ly.k_dl, Ly.k_dl2, Ly.v_setd, Ly.v_pop2, Ly.k_d3, Ly.k_d32, Ly.k_d33, Ly.v_get1, Ly.k_g1, Ly.k_g12, Ly.v_rg1, Ly.k_rg, Ly.v_rg2, Ly.k_rg2, Ly.k_rg22, Ly.v_dicK, Ly.v_dicT, Ly.v_dc, Ly.k_dc, List.getElem?_cons_zero, List.getElem?_cons_succ, List.set_cons_zero, List.set_cons_succ, List.length_cons, List.length_nil, List.map_cons, List.map_nil, List.cons_append, List.nil_append, List.replicate, if_true, if_false, Bool.false_eq_true, Bool.not_true, Bool.not_false, Bool.true_and, Bool.false_and, decide_true, decide_false, decide_eq_true_eq, Nat.zero_add, Nat.reduceAdd, Nat.reduceLeDiff, true_and, and_true, $ls,*])
theorem is_program : m__law_program = mT_program := rfl
theorem is_start : m__law_start = mT_start := rfl
theorem is_take : m__law_take = mT_take := rfl
theorem is_parts : m_parts_like = m_partsL := rfl
abbrev Vl := List Key
abbrev kN (n : Nat) : Key := .inl (n : Int)
abbrev kS (x : Str) : Key := .inr x
def valR : Row → Option Vl
  | .op s _ a b => some [kS "op", kS s, kN a, kN b]
  | .select _ c a b => some [kS "select", kN c, kN a, kN b]
  | .load _ i a => some [kS "load", kN i, kN a]
  | _ => none
abbrev valD (k : Vl) : D := .tup (k.map kD)
theorem keys_kD : ∀ k : Vl, D.keys (k.map kD) = some k
  | [] => rfl
  | .inl i :: k => by simp only [List.map_cons, D.keys, kD, D.key, keys_kD k]
  | .inr x :: k => by simp only [List.map_cons, D.keys, kD, D.key, keys_kD k]
theorem valD_key (k : Vl) : (valD k).tkey = some k := keys_kD k
def rdV (k : Vl) : List Key := if k.head? = some (kS "select") then k.drop 1 else k.drop 2
def ldV (k : Vl) : Option Key := if k.head? = some (kS "load") then k[1]? else none
theorem kN_inj {a b : Nat} (h : kN a = kN b) : a = b := by injection h with e; omega
theorem rdV_val {r : Row} {k : Vl} (h : valR r = some k) : rdV k = r.rd.map kN := by
  cases r <;> simp only [valR, Option.some.injEq, reduceCtorEq] at h <;> subst h <;> simp [rdV, Row.rd, ofString_inj]
theorem ldV_val {r : Row} {k : Vl} (h : valR r = some k) : ldV k = match r with | .load _ i _ => some (kN i) | _ => none := by
  cases r <;> simp only [valR, Option.some.injEq, reduceCtorEq] at h <;> subst h <;> simp [ldV, ofString_inj]
def hasK (L : List Key) (k : Key) : Bool := L.any fun y => decide (y = k)
theorem hasK_iff {L : List Key} {k : Key} : hasK L k = true ↔ k ∈ L := by simp [hasK]
abbrev Tb := List (Vl × Nat)
def wrN (r : Row) : Nat := r.wr.getD 0
def staysP (r : Row) (x : Vl × Nat) : Bool := match r with
  | .store i _ _ => decide (ldV x.1 ≠ some (kN i))
  | r => match r.wr with
    | some d => decide (x.2 ≠ d) && !hasK (rdV x.1) (kN d)
    | none => true
def lookT (T : Tb) (k : Vl) : Option Nat := (T.find? fun x => decide (x.1 = k)).map (·.2)
def stepC (W : Nat → Nat) (st : Tb × List Row) (r : Row) : Tb × List Row := match valR r with
  | none => (st.1.filter (staysP r), st.2 ++ [r])
  | some k => match lookT st.1 k with
    | some n => (st.1.filter (staysP r), st.2 ++ [.copy (wrN r) n])
    | none => (st.1.filter (staysP r) ++ (if wrN r ∉ r.rd ∧ W (wrN r) = 1 then [(k, wrN r)] else []), st.2 ++ [r])
theorem oIn_tS {S : Hs} {x : Str} {xs : List Str} : oIn (.str x) (.tup (xs.map D.str)) S = .ok (.bl (decide (x ∈ xs))) S := oIn_strs (.inl rfl)
theorem oNotIn_tS {S : Hs} {x : Str} {xs : List Str} : oNotIn (.str x) (.tup (xs.map D.str)) S = .ok (.bl (!decide (x ∈ xs))) S := by
  have := oIn_tS (S := S) (x := x) (xs := xs)
  unfold oIn at this; unfold oNotIn
  cases hc : cIn (D.str x) (.tup (xs.map D.str)) S with
  | none => rw [hc] at this; cases this
  | some b => rw [hc] at this; injection this with h1 h2; injection h1 with h1; subst h1; rfl
theorem oIn_t2 {S : Hs} {x a b : Str} : oIn (.str x) (.tup [.str a, .str b]) S = .ok (.bl (decide (x = a ∨ x = b))) S := by
  have := oIn_tS (S := S) (x := x) (xs := [a, b]); simpa using this
theorem oIn_t3 {S : Hs} {x a b c : Str} : oIn (.str x) (.tup [.str a, .str b, .str c]) S = .ok (.bl (decide (x = a ∨ x = b ∨ x = c))) S := by
  have := oIn_tS (S := S) (x := x) (xs := [a, b, c]); simpa using this
theorem oNotIn_t3 {S : Hs} {x a b c : Str} : oNotIn (.str x) (.tup [.str a, .str b, .str c]) S = .ok (.bl (!decide (x = a ∨ x = b ∨ x = c))) S := by
  have := oNotIn_tS (S := S) (x := x) (xs := [a, b, c]); simpa using this
theorem oIn_t4 {S : Hs} {x a b c d : Str} : oIn (.str x) (.tup [.str a, .str b, .str c, .str d]) S = .ok (.bl (decide (x = a ∨ x = b ∨ x = c ∨ x = d))) S := by
  have := oIn_tS (S := S) (x := x) (xs := [a, b, c, d]); simpa using this
theorem ix0' {a : D} {ds : List D} {S : Hs} : oIx (.tup (a :: ds)) (.int 0) S = .ok a S := oIx_tup (n := 0) rfl
theorem ix1' {a b : D} {ds : List D} {S : Hs} : oIx (.tup (a :: b :: ds)) (.int 1) S = .ok b S := oIx_tup (n := 1) rfl
theorem ix2' {a b c : D} {ds : List D} {S : Hs} : oIx (.tup (a :: b :: c :: ds)) (.int 2) S = .ok c S := oIx_tup (n := 2) rfl
def wrI (r : Row) : Int := match r.wr with | some d => (d : Int) | none => -1
theorem writes_ok {S : Hs} (r : Row) : Wp NoX (m__law_writes [r.D] S) fun v S' => v = .int (wrI r) ∧ S' = S := by
  refine wp_def0 rfl ?_
  unfold b__law_writes
  cases r <;> simp_arith [Row.D, ix0', ix1', ix2', oEq_str, ofString_inj, String.reduceEq, oIn_t4, or_false, or_true, false_or, true_or, oNeg_int, wrI, Row.wr]
theorem reads_ok {S : Hs} (r : Row) : Wp NoX (m__law_reads [r.D] S) fun v S' => ∃ q, v = .ref q ∧ S'[q]? = some (.lst (nDs r.rd)) ∧ Kp [] S S' := by
  refine wp_def0 rfl ?_
  unfold b__law_reads
  have hb : ∀ (ds : List D) S, bList [.tup ds] S = .ok (.ref S.length) (S ++ [.lst ds]) := fun ds S => rfl
  cases r <;> simp_arith [Row.D, ix0', ix1', ix2', ofString_inj, String.reduceEq, oIn_t2, oIn_t3, or_false, or_true, false_or, true_or, oSl, cut2, cut3, Row.rd, hb]
  all_goals exact ⟨_, rfl, get_end, Kp.new⟩
theorem wrt_look : ∀ (x : Str), (d_WRITTEN.lookup x) = if x = "const" then some (.int 1) else if x = "copy" then some (.int 1) else if x = "op" then some (.int 2) else if x = "select" then some (.int 1) else if x = "load" then some (.int 1) else none := by
  intro x
  unfold d_WRITTEN
  simp only [List.lookup]
  repeat' split
  all_goals simp_all
theorem written_ok {S : Hs} (r : Row) : Wp NoX (m_written [r.D] S) fun v S' => v = .int (wrI r) ∧ S' = S := by
  refine wp_def0 rfl ?_
  unfold b_written
  cases r <;> simp_arith [Row.D, ix0', ix1', ix2', wrt_look, ofString_inj, String.reduceEq, oGt_int, oNeg_int, wrI, Row.wr]
  all_goals simp [ix1', ix2', oGt_int, v_ok, k_cm, oNeg_int, wrI, Row.wr]
theorem cutT1 {a : D} {ds : List D} : Ly.cutD (a :: ds) none (some 1) = [a] := by simp [Ly.cutD, HT.sIx]
theorem cutT2 {a b : D} {ds : List D} : Ly.cutD (a :: b :: ds) none (some 2) = [a, b] := by simp [Ly.cutD, HT.sIx]
def valO : Option Vl → D
  | some k => valD k
  | none => .non
theorem addT {a b : List D} {S : Hs} (h : a.length + b.length ≤ 1000) : oAdd (.tup a) (.tup b) S = .ok (.tup (a ++ b)) S := by
  simp only [oAdd]
  rw [if_pos (line_le (by omega))]
theorem value_ok {S : Hs} (r : Row) : Wp NoX (m_value_of [r.D] S) fun v S' => v = valO (valR r) ∧ S' = S := by
  refine wp_def0 rfl ?_
  unfold b_value_of
  cases r <;> simp_arith [Row.D, ix0', oNotIn_t3, wrt_look, ofString_inj, String.reduceEq, or_false, or_true, false_or, true_or, oSl, cutT1, cutT2, cut2, cut3, oAdd_int, Int.reduceAdd, valR, valO, valD, kD]
  all_goals (rw [addT (by simp)]; simp_arith [kD])
theorem lvalue_ok {S : Hs} {r : Row} {k : Vl} (h : valR r = some k) : Wp NoX (m__law_value [r.D] S) fun v S' => v = valD k ∧ S' = S := by
  refine wp_def0 rfl ?_
  unfold b__law_value
  cases r <;> simp only [valR, Option.some.injEq, reduceCtorEq] at h <;> subst h <;> simp_arith [Row.D, ix0', oEq_str, ofString_inj, String.reduceEq, oSl, cutT1, cutT2, cut2, cut3, valD, kD]
  all_goals (rw [addT (by simp)]; simp_arith [kD])
def isV (r : Row) : Bool := (valR r).isSome
theorem word3 {S : Hs} (r : Row) : ∃ w, (∀ S, oIx r.D (.int 0) S = .ok (.str w) S) ∧ (w = "op" ∨ w = "select" ∨ w = "load" ↔ isV r = true) ∧ (w = "store" ↔ ∃ i a v, r = .store i a v) := by
  cases r <;> exact ⟨_, fun S => oIx_tup (n := 0) rfl, by simp [isV, valR, ofString_inj], by simp [ofString_inj]⟩
theorem isV_some {r : Row} (h : isV r = true) : ∃ k, valR r = some k ∧ r.wr = some (wrN r) := by
  cases r <;> simp [isV, valR] at h <;> exact ⟨_, rfl, rfl⟩
end GK45
set_option Elab.async false
set_option linter.all false
set_option maxRecDepth 100000
namespace GK45
open PySem L2 Ly
open PySem.Spec hiding Row
open PyProof.Rows hiding St
local macro_rules | `(tactic| simp_arith [$ls,*]) => `(tactic| simp only [Ly.line_le, Ly.atX_no, Ly.v_ok, Ly.v_bad, Ly.v_bind, Ly.k_bd, Ly.v_at, Ly.v_bin, Ly.k_bi, Ly.k_bi2, Ly.v_var, Ly.v_c, Ly.v_un, Ly.k_un, Ly.v_if, Ly.k_ife, Ly.v_and, Ly.k_and, Ly.k_and2, Ly.v_or, Ly.k_or, Ly.k_or2, Ly.v_tup, Ly.k_tup, Ly.v_lst, Ly.k_lst, Ly.v_call, Ly.k_ca, Ly.v_fn, Ly.k_fn, Ly.v_bm, Ly.k_bm, Ly.k_bm2, Ly.v_sl, Ly.k_sl, Ly.k_sl2, Ly.k_sl3, Ly.v_ixK, Ly.k_ixk, Ly.v_inK, Ly.k_ink, Ly.v_notinK, Ly.k_nink, Ly.v_getK2, Ly.k_gk2, Ly.k_gk, Ly.v_get2, Ly.k_g2, Ly.k_g22, Ly.k_g23, Ly.v_nil, Ly.v_cons, Ly.k_co, Ly.k_co2, Ly.v_no, Ly.v_some, Ly.k_so, Ly.k_cm, Ly.v_cmp, Ly.v_tru, Ly.k_tr, Ly.v_notB, Ly.k_no, Ly.v_andB, Ly.k_an, Ly.v_orB, Ly.k_orb, Ly.v_yes, Ly.v_inKB, Ly.k_inkB, Ly.v_notinKB, Ly.k_ninkB, Ly.v_set, Ly.k_st, Ly.v_expr, Ly.k_ex, Ly.v_ret, Ly.k_re, Ly.v_retN, Ly.v_pass, Ly.v_brk, Ly.v_cnt, Ly.v_seq, Ly.k_sq_nx, Ly.k_sq_rt, Ly.k_sq_bk, Ly.k_sq_ct, Ly.v_ifS, Ly.k_ifs, Ly.v_asg, Ly.k_as, Ly.k_as2, Ly.v_aug, Ly.k_au, Ly.v_for, Ly.k_fo, Ly.v_it, Ly.k_it, Ly.k_ij, Ly.v_rng1, Ly.v_rng2, Ly.v_enum, Ly.v_zip, Ly.v_ez, Ly.v_gN, Ly.v_gsN, Ly.v_gsC, Ly.k_gc, Ly.v_gT, Ly.v_gTw, Ly.v_gSb, Ly.k_gsb, Ly.k_gsb2, Ly.k_gsb3, Ly.k_en_rt, Ly.k_en_nx, Ly.k_tu_nx, Ly.k_tu_ct, Ly.k_tu_bk, Ly.k_tu_rt, Ly.v_lc, Ly.k_lc, Ly.v_augI, Ly.k_ag, Ly.k_ag2, Ly.k_ag3, Ly.k_ag4, Ly.k_ag5, Ly.v_del, Ly.k_dl, Ly.k_dl2, Ly.v_setd, Ly.v_pop2, Ly.k_d3, Ly.k_d32, Ly.k_d33, Ly.v_get1, Ly.k_g1, Ly.k_g12, Ly.v_rg1, Ly.k_rg, Ly.v_rg2, Ly.k_rg2, Ly.k_rg22, Ly.v_dicK, Ly.v_dicT, Ly.v_dc, Ly.k_dc, List.getElem?_cons_zero, List.getElem?_cons_succ, List.set_cons_zero, List.set_cons_succ, List.length_cons, List.length_nil, List.map_cons, List.map_nil, List.cons_append, List.nil_append, List.replicate, if_true, if_false, Bool.false_eq_true, Bool.not_true, Bool.not_false, Bool.true_and, Bool.false_and, decide_true, decide_false, decide_eq_true_eq, Nat.zero_add, Nat.reduceAdd, Nat.reduceLeDiff, true_and, and_true, $ls,*])
section
variable {S S' : Hs} {cA : Nat → Addr} {p nd rx lx j : Nat} {kvs L : List (Vl × D)}
def inL (L : List (Vl × D)) (k : Vl) : Bool := L.any fun y => decide (y.1 = k)
abbrev prF (nd rx lx : Nat) : List (Str × D) := [("noted", .ref nd), ("readers", .ref rx), ("loads", .ref lx)]
theorem prF_n {nd rx lx : Nat} : (prF nd rx lx).lookup ("noted" : Str) = some (.ref nd) := by simp [List.lookup]
theorem prF_r {nd rx lx : Nat} : (prF nd rx lx).lookup ("readers" : Str) = some (.ref rx) := by simp [List.lookup, beq_lit]
theorem prF_l {nd rx lx : Nat} : (prF nd rx lx).lookup ("loads" : Str) = some (.ref lx) := by simp [List.lookup, beq_lit]
theorem hasTyT {S : Hs} {i : Nat} {kvs : List (List Key × D)} (h : S[i]? = some (.dit kvs)) : hasTy "dict" (.ref i) S = true := by simp [hasTy, h]
theorem off_ok (hp : S[p]? = some (.ins (cA 0) (prF nd rx lx))) (hn : S[nd]? = some (.dit kvs)) (hj : S[j]? = some (.dit L)) (h1 : j ≠ nd) (h2 : j ≠ p) (h3 : nd ≠ p) :
    Wp NoX (m_Present_m_take_off cA [.ref p, .ref j] S) fun v S' => S'[nd]? = some (.dit (kvs.filter fun q => !inL L q.1)) ∧ Kp [nd] S S' := by
  refine wp_def0 rfl ?_
  unfold b_Present_m_take_off
  refine v_lockT (j := j) (L := L) rfl hj ?_
  have hjS := Real.lt hj
  have b1 : (S.set j (.fdt L))[j]? = some (.fdt L) := List.getElem?_set_self hjS
  have b2 : (S.set j (.fdt L))[nd]? = some (.dit kvs) := by rw [List.getElem?_set_ne h1]; exact hn
  have b3 : (S.set j (.fdt L))[p]? = some (.ins (cA 0) (prF nd rx lx)) := by rw [List.getElem?_set_ne h2]; exact hp
  simp_arith [Ly.v_fld, Ly.v_meth, Ly.k_me2, Ly.v_make, Ly.k_mk, Ly.v_fldset, Ly.k_fs, Ly.v_fldaug, Ly.k_fa2, Ly.look1, List.mem_cons, List.not_mem_nil, or_false, true_or, or_true, oIt_fdt b1]
  refine wp_fkT (L := L) (fun pre l S' => (∃ o2, l = [some (.ref p), some (.ref j), o2]) ∧ S'[nd]? = some (.dit (kvs.filter fun q => !inL pre q.1)) ∧ Kp [nd] (S.set j (.fdt L)) S') (fun pre l S' h => h.2.2.get b1 (by simpa using h1)) ⟨⟨_, rfl⟩, by rw [show (kvs.filter fun q => !inL [] q.1) = kvs from by simp [inL]]; exact b2, Kp.refl⟩ ?_ ?_
  · rintro pre x post l S' hsp ⟨⟨o2, rfl⟩, g1, K⟩
    have b3' := K.get b3 (by simpa using Ne.symm h3)
    unfold lb_Present_m_take_off_0
    have e0 : (kvs.filter fun q => !inL (pre ++ [x]) q.1) = dropT (kvs.filter fun q => !inL pre q.1) x.1 := by
      unfold dropT
      rw [List.filter_filter]
      refine List.filter_congr fun q _ => ?_
      unfold inL
      rw [List.any_append]
      by_cases c2 : q.1 = x.1
      · simp [c2]
      · simp [c2, Ne.symm c2]
    simp_arith [Ly.v_fld, Ly.v_meth, Ly.k_me2, Ly.v_make, Ly.k_mk, Ly.v_fldset, Ly.k_fs, Ly.v_fldaug, Ly.k_fa2, Ly.look1, List.mem_cons, List.not_mem_nil, or_false, true_or, or_true, k_fl b3', prF_n]
    cases hg : getK (kvs.filter fun q => !inL pre q.1) x.1 with
    | some d =>
      simp_arith [Ly.v_fld, Ly.v_meth, Ly.k_me2, Ly.v_make, Ly.k_mk, Ly.v_fldset, Ly.k_fs, Ly.v_fldaug, Ly.k_fa2, Ly.look1, List.mem_cons, List.not_mem_nil, or_false, true_or, or_true, hasTyT g1, oPopT_some g1 (valD_key x.1) hg]
      refine ⟨⟨_, rfl⟩, ?_, K.trans (Kp.set (by simp))⟩
      rw [e0]; exact get_put g1
    | none =>
      simp_arith [Ly.v_fld, Ly.v_meth, Ly.k_me2, Ly.v_make, Ly.k_mk, Ly.v_fldset, Ly.k_fs, Ly.v_fldaug, Ly.k_fa2, Ly.look1, List.mem_cons, List.not_mem_nil, or_false, true_or, or_true, hasTyT g1, oPopT_none g1 (valD_key x.1) hg]
      refine ⟨⟨_, rfl⟩, ?_, K⟩
      rw [e0, dropT_none hg]; exact g1
  · rintro l S' ⟨⟨o2, rfl⟩, g1, K⟩
    refine ⟨L, K.get b1 (by simpa using h1), ?_⟩
    have g2 := K.get b1 (by simpa using h1)
    refine ⟨by rw [List.getElem?_set_ne h1]; exact g1, ?_⟩
    refine ⟨by simpa using K.le, fun i hi hA => ?_⟩
    by_cases e : i = j
    · subst e
      rw [List.getElem?_set_self (by have := K.le; simp at this; omega), hj]
    · rw [List.getElem?_set_ne (Ne.symm e), K.2 i (by simpa using hi) hA, List.getElem?_set_ne (Ne.symm e)]
structure PrAt (C : Addr) (S : Hs) (p nd rx lx : Nat) (kvs : List (Vl × D)) (rk lk : List (Key × Nat)) (n : Nat) : Prop where
  ob : S[p]? = some (.ins C (prF nd rx lx))
  hn : S[nd]? = some (.dit kvs)
  hr : S[rx]? = some (.dic (rk.map fun q => (q.1, .ref q.2)))
  hl : S[lx]? = some (.dic (lk.map fun q => (q.1, .ref q.2)))
  ne : ([p, nd, rx, lx] ++ (rk.map (·.2) ++ lk.map (·.2))).Nodup
  rok : ∀ q ∈ rk, ∃ L, S[q.2]? = some (.dit L) ∧ L.length ≤ n ∧ ∀ kv ∈ L, q.1 ∈ rdV kv.1
  lok : ∀ q ∈ lk, ∃ L, S[q.2]? = some (.dit L) ∧ L.length ≤ n ∧ ∀ kv ∈ L, ldV kv.1 = some q.1
  rc : ∀ kv ∈ kvs, ∀ a ∈ rdV kv.1, ∃ q ∈ rk, q.1 = a ∧ ∀ L, S[q.2]? = some (.dit L) → inL L kv.1 = true
  lc : ∀ kv ∈ kvs, ∀ a, ldV kv.1 = some a → ∃ q ∈ lk, q.1 = a ∧ ∀ L, S[q.2]? = some (.dit L) → inL L kv.1 = true
  rn : (rk.map (·.1)).Nodup
  ln : (lk.map (·.1)).Nodup
  bd : kvs.length ≤ n ∧ rk.length + lk.length ≤ n
section
variable {C : Addr} {rk lk : List (Key × Nat)} {n : Nat}
theorem PrAt.kp {A : List Nat} (h : PrAt C S p nd rx lx kvs rk lk n) (k : Kp A S S') (hA : ∀ x ∈ [p, nd, rx, lx] ++ (rk.map (·.2) ++ lk.map (·.2)), x ∉ A) : PrAt C S' p nd rx lx kvs rk lk n where
  ob := k.get h.ob (hA _ (by simp))
  hn := k.get h.hn (hA _ (by simp))
  hr := k.get h.hr (hA _ (by simp))
  hl := k.get h.hl (hA _ (by simp))
  ne := h.ne
  rok := fun q hq => by
    obtain ⟨L, h1, h2⟩ := h.rok q hq
    exact ⟨L, k.get h1 (hA _ (by simp; exact .inr (.inr (.inr (.inr (.inl ⟨q.1, hq⟩)))))), h2⟩
  lok := fun q hq => by
    obtain ⟨L, h1, h2⟩ := h.lok q hq
    exact ⟨L, k.get h1 (hA _ (by simp; exact .inr (.inr (.inr (.inr (.inr ⟨q.1, hq⟩)))))), h2⟩
  rc := fun kv hk a ha => by
    obtain ⟨q, hq, e, h1⟩ := h.rc kv hk a ha
    obtain ⟨L, h2, _⟩ := h.rok q hq
    refine ⟨q, hq, e, fun L' h3 => ?_⟩
    rw [k.get h2 (hA _ (by simp; exact .inr (.inr (.inr (.inr (.inl ⟨q.1, hq⟩))))))] at h3
    injection h3 with h3
    injection h3 with h3
    subst h3
    exact h1 _ h2
  lc := fun kv hk a ha => by
    obtain ⟨q, hq, e, h1⟩ := h.lc kv hk a ha
    obtain ⟨L, h2, _⟩ := h.lok q hq
    refine ⟨q, hq, e, fun L' h3 => ?_⟩
    rw [k.get h2 (hA _ (by simp; exact .inr (.inr (.inr (.inr (.inr ⟨q.1, hq⟩))))))] at h3
    injection h3 with h3
    injection h3 with h3
    subst h3
    exact h1 _ h2
  rn := h.rn
  ln := h.ln
  bd := h.bd
theorem PrAt.kp0 (h : PrAt C S p nd rx lx kvs rk lk n) (k : Kp [] S S') : PrAt C S' p nd rx lx kvs rk lk n := h.kp k fun _ _ => by simp
end
end
end GK45
set_option Elab.async false
set_option linter.all false
set_option maxRecDepth 100000
namespace GK45
open PySem L2 Ly
open PySem.Spec hiding Row
open PyProof.Rows hiding St
section
variable {S S' S2 : Hs} {cA : Nat → Addr} {C : Addr} {p nd rx lx j : Nat} {kvs L : List (Vl × D)} {rk lk : List (Key × Nat)} {n : Nat}
abbrev rfs (rk : List (Key × Nat)) : List (Key × D) := rk.map fun q => (q.1, D.ref q.2)
def cutR (kvs : List (Vl × D)) (w : Key) : List (Vl × D) := kvs.filter fun q => !hasK (rdV q.1) w
def cutL (kvs : List (Vl × D)) (w : Key) : List (Vl × D) := kvs.filter fun q => !decide (ldV q.1 = some w)
def offK (rk : List (Key × Nat)) (w : Key) : List (Key × Nat) := rk.filter fun q => decide (q.1 ≠ w)
theorem dropD_rfs (rk : List (Key × Nat)) (w : Key) : dropD (rfs rk) w = rfs (offK rk w) := by
  unfold dropD offK rfs
  rw [List.filter_map]; rfl
theorem PrAt.nedR (h : PrAt C S p nd rx lx kvs rk lk n) {q : Key × Nat} (hq : q ∈ rk) : q.2 ≠ p ∧ q.2 ≠ nd ∧ q.2 ≠ rx ∧ q.2 ≠ lx := by
  have := h.ne
  rw [List.nodup_append] at this
  have h2 := fun a ha => this.2.2 a ha q.2 (List.mem_append_left _ (List.mem_map.mpr ⟨q, hq, rfl⟩))
  exact ⟨fun e => h2 p (by simp) e.symm, fun e => h2 nd (by simp) e.symm, fun e => h2 rx (by simp) e.symm, fun e => h2 lx (by simp) e.symm⟩
theorem PrAt.nedL (h : PrAt C S p nd rx lx kvs rk lk n) {q : Key × Nat} (hq : q ∈ lk) : q.2 ≠ p ∧ q.2 ≠ nd ∧ q.2 ≠ rx ∧ q.2 ≠ lx := by
  have := h.ne
  rw [List.nodup_append] at this
  have h2 := fun a ha => this.2.2 a ha q.2 (List.mem_append_right _ (List.mem_map.mpr ⟨q, hq, rfl⟩))
  exact ⟨fun e => h2 p (by simp) e.symm, fun e => h2 nd (by simp) e.symm, fun e => h2 rx (by simp) e.symm, fun e => h2 lx (by simp) e.symm⟩
theorem PrAt.base (h : PrAt C S p nd rx lx kvs rk lk n) : p ≠ nd ∧ p ≠ rx ∧ p ≠ lx ∧ nd ≠ rx ∧ nd ≠ lx ∧ rx ≠ lx := by
  have := h.ne
  rw [List.nodup_append] at this
  have h1 := this.1
  simp at h1
  exact ⟨h1.1.1, h1.1.2.1, h1.1.2.2, h1.2.1.1, h1.2.1.2, h1.2.2⟩
theorem ne_sub {a : List Nat} {b b' c c' : List Nat} (h : (a ++ (b ++ c)).Nodup) (h1 : b'.Sublist b) (h2 : c'.Sublist c) : (a ++ (b' ++ c')).Nodup :=
  ((List.Sublist.refl a).append (h1.append h2)).nodup h
theorem PrAt.offR (h : PrAt C S p nd rx lx kvs rk lk n) (w : Key) (k : Kp [nd, rx] S S2) (g1 : S2[nd]? = some (.dit (cutR kvs w))) (g2 : S2[rx]? = some (.dic (rfs (offK rk w)))) :
    PrAt C S2 p nd rx lx (cutR kvs w) (offK rk w) lk n := by
  obtain ⟨b1, b2, b3, b4, b5, b6⟩ := h.base
  have inR : ∀ q ∈ rk, q.2 ∉ [nd, rx] := fun q hq => by obtain ⟨a1, a2, a3, a4⟩ := h.nedR hq; simp [a2, a3]
  have inLk : ∀ q ∈ lk, q.2 ∉ [nd, rx] := fun q hq => by obtain ⟨a1, a2, a3, a4⟩ := h.nedL hq; simp [a2, a3]
  have sub : (offK rk w).Sublist rk := List.filter_sublist
  refine ⟨k.get h.ob (by simp [b1, b2]), g1, g2, k.get h.hl (by simp [b5.symm, b6.symm]), ne_sub h.ne (sub.map _) (List.Sublist.refl _), fun q hq => ?_, fun q hq => ?_, fun kv hk a ha => ?_, fun kv hk a ha => ?_, (sub.map _).nodup h.rn, h.ln, ?_⟩
  · have hq2 := sub.subset hq
    obtain ⟨L, h1, h2⟩ := h.rok q hq2
    exact ⟨L, k.get h1 (inR q hq2), h2⟩
  · obtain ⟨L, h1, h2⟩ := h.lok q hq
    exact ⟨L, k.get h1 (inLk q hq), h2⟩
  · obtain ⟨hk1, hk2⟩ := List.mem_filter.mp hk
    obtain ⟨q, hq, e, h1⟩ := h.rc kv hk1 a ha
    obtain ⟨L, h2, _⟩ := h.rok q hq
    refine ⟨q, List.mem_filter.mpr ⟨hq, ?_⟩, e, fun L' h3 => ?_⟩
    · rw [decide_eq_true_eq]
      rintro rfl
      rw [e] at hk2
      have : hasK (rdV kv.1) a = true := hasK_iff.mpr ha
      rw [this] at hk2; cases hk2
    · rw [k.get h2 (inR q hq)] at h3
      injection h3 with h3
      injection h3 with h3
      subst h3
      exact h1 _ h2
  · obtain ⟨hk1, hk2⟩ := List.mem_filter.mp hk
    obtain ⟨q, hq, e, h1⟩ := h.lc kv hk1 a ha
    obtain ⟨L, h2, _⟩ := h.lok q hq
    refine ⟨q, hq, e, fun L' h3 => ?_⟩
    rw [k.get h2 (inLk q hq)] at h3
    injection h3 with h3
    injection h3 with h3
    subst h3
    exact h1 _ h2
  · have := h.bd
    have e1 := (List.filter_sublist (p := fun q : Vl × D => !hasK (rdV q.1) w) (l := kvs)).length_le
    have e2 := sub.length_le
    unfold cutR
    omega
theorem PrAt.offL (h : PrAt C S p nd rx lx kvs rk lk n) (w : Key) (k : Kp [nd, lx] S S2) (g1 : S2[nd]? = some (.dit (cutL kvs w))) (g2 : S2[lx]? = some (.dic (rfs (offK lk w)))) :
    PrAt C S2 p nd rx lx (cutL kvs w) rk (offK lk w) n := by
  obtain ⟨b1, b2, b3, b4, b5, b6⟩ := h.base
  have inR : ∀ q ∈ rk, q.2 ∉ [nd, lx] := fun q hq => by obtain ⟨a1, a2, a3, a4⟩ := h.nedR hq; simp [a2, a4]
  have inLk : ∀ q ∈ lk, q.2 ∉ [nd, lx] := fun q hq => by obtain ⟨a1, a2, a3, a4⟩ := h.nedL hq; simp [a2, a4]
  have sub : (offK lk w).Sublist lk := List.filter_sublist
  refine ⟨k.get h.ob (by simp [b1, b3]), g1, k.get h.hr (by simp [b4.symm, b6]), g2, ne_sub h.ne (List.Sublist.refl _) (sub.map _), fun q hq => ?_, fun q hq => ?_, fun kv hk a ha => ?_, fun kv hk a ha => ?_, h.rn, (sub.map _).nodup h.ln, ?_⟩
  · obtain ⟨L, h1, h2⟩ := h.rok q hq
    exact ⟨L, k.get h1 (inR q hq), h2⟩
  · have hq2 := sub.subset hq
    obtain ⟨L, h1, h2⟩ := h.lok q hq2
    exact ⟨L, k.get h1 (inLk q hq2), h2⟩
  · obtain ⟨hk1, hk2⟩ := List.mem_filter.mp hk
    obtain ⟨q, hq, e, h1⟩ := h.rc kv hk1 a ha
    obtain ⟨L, h2, _⟩ := h.rok q hq
    refine ⟨q, hq, e, fun L' h3 => ?_⟩
    rw [k.get h2 (inR q hq)] at h3
    injection h3 with h3
    injection h3 with h3
    subst h3
    exact h1 _ h2
  · obtain ⟨hk1, hk2⟩ := List.mem_filter.mp hk
    obtain ⟨q, hq, e, h1⟩ := h.lc kv hk1 a ha
    obtain ⟨L, h2, _⟩ := h.lok q hq
    refine ⟨q, List.mem_filter.mpr ⟨hq, ?_⟩, e, fun L' h3 => ?_⟩
    · rw [decide_eq_true_eq]
      rintro rfl
      rw [e] at hk2
      rw [ha] at hk2; simp at hk2
    · rw [k.get h2 (inLk q hq)] at h3
      injection h3 with h3
      injection h3 with h3
      subst h3
      exact h1 _ h2
  · have := h.bd
    have e1 := (List.filter_sublist (p := fun q : Vl × D => !decide (ldV q.1 = some w)) (l := kvs)).length_le
    have e2 := sub.length_le
    unfold cutL
    omega
theorem getK_rfs {rk : List (Key × Nat)} {w : Key} : (getK (rfs rk) w = none ∧ ∀ q ∈ rk, q.1 ≠ w) ∨ ∃ j, getK (rfs rk) w = some (.ref j) ∧ (w, j) ∈ rk := by
  induction rk with
  | nil => exact .inl ⟨rfl, fun q hq => by cases hq⟩
  | cons a rk ih =>
    by_cases e : a.1 = w
    · refine .inr ⟨a.2, ?_, by rw [← e]; simp⟩
      unfold getK rfs
      rw [List.map_cons, List.find?_cons_of_pos (by simpa using e)]; rfl
    · have e2 : getK (rfs (a :: rk)) w = getK (rfs rk) w := by
        unfold getK rfs
        rw [List.map_cons, List.find?_cons_of_neg (by simpa using e)]
      rw [e2]
      rcases ih with ⟨h1, h2⟩ | ⟨j, h1, h2⟩
      · exact .inl ⟨h1, fun q hq => by rcases List.mem_cons.mp hq with rfl | hq; exact e; exact h2 q hq⟩
      · exact .inr ⟨j, h1, List.mem_cons_of_mem _ h2⟩
theorem offK_none {rk : List (Key × Nat)} {w : Key} (h : ∀ q ∈ rk, q.1 ≠ w) : offK rk w = rk := by
  unfold offK; rw [List.filter_eq_self]; intro q hq; simpa using h q hq
theorem inL_mem {L : List (Vl × D)} {k : Vl} : inL L k = true ↔ ∃ d, (k, d) ∈ L := by
  unfold inL
  rw [List.any_eq_true]
  constructor
  · rintro ⟨y, hy, e⟩
    have e : y.1 = k := by simpa using e
    subst e
    exact ⟨y.2, hy⟩
  · rintro ⟨d, h⟩
    exact ⟨_, h, by simp⟩
theorem nod_inj : ∀ {rk : List (Key × Nat)}, (rk.map (·.1)).Nodup → ∀ {a b : Key × Nat}, a ∈ rk → b ∈ rk → a.1 = b.1 → a = b
  | [], _, a, b, ha, _, _ => by cases ha
  | c :: rk, h, a, b, ha, hb, e => by
    rw [List.map_cons, List.nodup_cons] at h
    rcases List.mem_cons.mp ha with rfl | ha2 <;> rcases List.mem_cons.mp hb with rfl | hb2
    · rfl
    · exact (h.1 (List.mem_map.mpr ⟨b, hb2, e.symm⟩)).elim
    · exact (h.1 (List.mem_map.mpr ⟨a, ha2, e⟩)).elim
    · exact nod_inj h.2 ha2 hb2 e
theorem PrAt.cutR_eq (h : PrAt C S p nd rx lx kvs rk lk n) {w : Key} {j : Nat} (hj : (w, j) ∈ rk) (hL : S[j]? = some (.dit L)) : (kvs.filter fun q => !inL L q.1) = cutR kvs w := by
  unfold cutR
  refine List.filter_congr fun kv hk => ?_
  congr 1
  obtain ⟨L2, h1, _, h2⟩ := h.rok _ hj
  rw [hL] at h1
  injection h1 with h1
  injection h1 with h1
  subst h1
  rw [Bool.eq_iff_iff, hasK_iff]
  constructor
  · intro c
    obtain ⟨d, hd⟩ := inL_mem.mp c
    exact h2 (kv.1, d) hd
  · intro c
    obtain ⟨q, hq, e, h3⟩ := h.rc kv hk w c
    have : q = (w, j) := by
      have := nod_inj h.rn hq hj e
      exact this
    subst this
    exact h3 L hL
theorem PrAt.cutL_eq (h : PrAt C S p nd rx lx kvs rk lk n) {w : Key} {j : Nat} (hj : (w, j) ∈ lk) (hL : S[j]? = some (.dit L)) : (kvs.filter fun q => !inL L q.1) = cutL kvs w := by
  unfold cutL
  refine List.filter_congr fun kv hk => ?_
  congr 1
  obtain ⟨L2, h1, _, h2⟩ := h.lok _ hj
  rw [hL] at h1
  injection h1 with h1
  injection h1 with h1
  subst h1
  rw [Bool.eq_iff_iff, decide_eq_true_eq]
  constructor
  · intro c
    obtain ⟨d, hd⟩ := inL_mem.mp c
    exact h2 (kv.1, d) hd
  · intro c
    obtain ⟨q, hq, e, h3⟩ := h.lc kv hk w c
    have : q = (w, j) := nod_inj h.ln hq hj e
    subst this
    exact h3 L hL
theorem PrAt.cutR_no (h : PrAt C S p nd rx lx kvs rk lk n) {w : Key} (hno : ∀ q ∈ rk, q.1 ≠ w) : cutR kvs w = kvs := by
  unfold cutR
  rw [List.filter_eq_self]
  intro kv hk
  cases hh : hasK (rdV kv.1) w with
  | false => rfl
  | true =>
    obtain ⟨q, hq, e, _⟩ := h.rc kv hk w (hasK_iff.mp hh)
    exact absurd e (hno q hq)
theorem PrAt.cutL_no (h : PrAt C S p nd rx lx kvs rk lk n) {w : Key} (hno : ∀ q ∈ lk, q.1 ≠ w) : cutL kvs w = kvs := by
  unfold cutL
  rw [List.filter_eq_self]
  intro kv hk
  by_cases hh : ldV kv.1 = some w
  · obtain ⟨q, hq, e, _⟩ := h.lc kv hk w hh
    exact absurd e (hno q hq)
  · simp [hh]
end
end GK45
set_option Elab.async false
set_option linter.all false
set_option maxRecDepth 100000
namespace GK45
open PySem L2 Ly
open PySem.Spec hiding Row
open PyProof.Rows hiding St
local macro_rules | `(tactic| simp_arith [$ls,*]) => `(tactic| simp only [Ly.line_le, Ly.atX_no, Ly.v_ok, Ly.v_bad, Ly.v_bind, Ly.k_bd, Ly.v_at, Ly.v_bin, Ly.k_bi, Ly.k_bi2, Ly.v_var, Ly.v_c, Ly.v_un, Ly.k_un, Ly.v_if, Ly.k_ife, Ly.v_and, Ly.k_and, Ly.k_and2, Ly.v_or, Ly.k_or, Ly.k_or2, Ly.v_tup, Ly.k_tup, Ly.v_lst, Ly.k_lst, Ly.v_call, Ly.k_ca, Ly.v_fn, Ly.k_fn, Ly.v_bm, Ly.k_bm, Ly.k_bm2, Ly.v_sl, Ly.k_sl, Ly.k_sl2, Ly.k_sl3, Ly.v_ixK, Ly.k_ixk, Ly.v_inK, Ly.k_ink, Ly.v_notinK, Ly.k_nink, Ly.v_getK2, Ly.k_gk2, Ly.k_gk, Ly.v_get2, Ly.k_g2, Ly.k_g22, Ly.k_g23, Ly.v_nil, Ly.v_cons, Ly.k_co, Ly.k_co2, Ly.v_no, Ly.v_some, Ly.k_so, Ly.k_cm, Ly.v_cmp, Ly.v_tru, Ly.k_tr, Ly.v_notB, Ly.k_no, Ly.v_andB, Ly.k_an, Ly.v_orB, Ly.k_orb, Ly.v_yes, Ly.v_inKB, Ly.k_inkB, Ly.v_notinKB, Ly.k_ninkB, Ly.v_set, Ly.k_st, Ly.v_expr, Ly.k_ex, Ly.v_ret, Ly.k_re, Ly.v_retN, Ly.v_pass, Ly.v_brk, Ly.v_cnt, Ly.v_seq, Ly.k_sq_nx, Ly.k_sq_rt, Ly.k_sq_bk, Ly.k_sq_ct, Ly.v_ifS, Ly.k_ifs, Ly.v_asg, Ly.k_as, Ly.k_as2, Ly.v_aug, Ly.k_au, Ly.v_for, Ly.k_fo, Ly.v_it, Ly.k_it, Ly.k_ij, Ly.v_rng1, Ly.v_rng2, Ly.v_enum, Ly.v_zip, Ly.v_ez, Ly.v_gN, Ly.v_gsN, Ly.v_gsC, Ly.k_gc, Ly.v_gT, Ly.v_gTw, Ly.v_gSb, Ly.k_gsb, Ly.k_gsb2, Ly.k_gsb3, Ly.k_en_rt, Ly.k_en_nx, Ly.k_tu_nx, Ly.k_tu_ct, Ly.k_tu_bk, Ly.k_tu_rt, Ly.v_lc, Ly.k_lc, Ly.v_augI, Ly.k_ag, Ly.k_ag2, Ly.k_ag3, Ly.k_ag4, Ly.k_ag5, Ly.v_del, Ly.k_dl, Ly.k_dl2, Ly.v_setd, Ly.v_pop2, Ly.k_d3, Ly.k_d32, Ly.k_d33, Ly.v_get1, Ly.k_g1, Ly.k_g12, Ly.v_rg1, Ly.k_rg, Ly.v_rg2, Ly.k_rg2, Ly.k_rg22, Ly.v_dicK, Ly.v_dicT, Ly.v_dc, Ly.k_dc, List.getElem?_cons_zero, List.getElem?_cons_succ, List.set_cons_zero, List.set_cons_succ, List.length_cons, List.length_nil, List.map_cons, List.map_nil, List.cons_append, List.nil_append, List.replicate, if_true, if_false, Bool.false_eq_true, Bool.not_true, Bool.not_false, Bool.true_and, Bool.false_and, decide_true, decide_false, decide_eq_true_eq, Nat.zero_add, Nat.reduceAdd, Nat.reduceLeDiff, true_and, and_true, $ls,*])
section
variable {S S' S2 : Hs} {cA : Nat → Addr} {p nd rx lx j : Nat} {kvs L : List (Vl × D)} {rk lk : List (Key × Nat)} {n : Nat}
theorem hasTyC {S : Hs} {i : Nat} {kvs : List (Key × D)} (h : S[i]? = some (.dic kvs)) : hasTy "dict" (.ref i) S = true := by simp [hasTy, h]
theorem oPop2_some {kvs : List (Key × D)} {y z d : D} {k : Key} (h : S[j]? = some (.dic kvs)) (hk : y.key = some k) (hg : getK kvs k = some d) : oPop2 (.ref j) y z S = .ok d (S.set j (.dic (dropD kvs k))) := by simp [oPop2, h, hk, hg]
theorem oPop2_none {kvs : List (Key × D)} {y z : D} {k : Key} (h : S[j]? = some (.dic kvs)) (hk : y.key = some k) (hg : getK kvs k = none) : oPop2 (.ref j) y z S = .ok z S := by simp [oPop2, h, hk, hg]
theorem pop_R (h : PrAt (cA 0) S p nd rx lx kvs rk lk n) (w : Key) : ∃ d S1, (∀ y, y.key = some w → oPop2 (.ref rx) y (.ref S.length) (S ++ [O.dit []]) = .ok d S1) ∧ Wp NoX (m_Present_m_take_off cA [.ref p, d] S1) fun v S2 => PrAt (cA 0) S2 p nd rx lx (cutR kvs w) (offK rk w) lk n ∧ Kp [nd, rx] S S2 := by
  obtain ⟨b1, b2, b3, b4, b5, b6⟩ := h.base
  have hS := h.kp0 (Kp.new (g := [O.dit []]))
  have hps := Real.lt h.ob
  have hns := Real.lt h.hn
  have hrs := Real.lt h.hr
  rcases getK_rfs (rk := rk) (w := w) with ⟨e, hno⟩ | ⟨j, e, hj⟩
  · refine ⟨.ref S.length, S ++ [O.dit []], fun y hy => oPop2_none hS.hr hy e, ?_⟩
    refine (off_ok (L := []) hS.ob hS.hn get_end (by omega) (by omega) b1.symm).mono (fun _ _ _ _ h => h) fun v S2 q => ?_
    obtain ⟨g1, k⟩ := q
    have e2 : (kvs.filter fun q => !inL [] q.1) = cutR kvs w := by rw [h.cutR_no hno]; simp [inL]
    rw [e2] at g1
    have k2 : Kp [nd, rx] S S2 := (Kp.new (A := [nd, rx]) (g := [O.dit []])).trans (k.sub (by simp))
    refine ⟨h.offR w k2 g1 ?_, k2⟩
    rw [offK_none hno]
    exact k.get hS.hr (by simp [b4.symm])
  · obtain ⟨L, hL, _⟩ := hS.rok _ hj
    obtain ⟨a1, a2, a3, a4⟩ := h.nedR hj
    refine ⟨.ref j, (S ++ [O.dit []]).set rx (O.dic (dropD (rfs rk) w)), fun y hy => oPop2_some hS.hr hy e, ?_⟩
    have g0 : ∀ x, x ≠ rx → ((S ++ [O.dit []]).set rx (O.dic (dropD (rfs rk) w)))[x]? = (S ++ [O.dit []])[x]? := fun x hx => List.getElem?_set_ne (Ne.symm hx)
    refine (off_ok (L := L) (by rw [g0 p b2]; exact hS.ob) (by rw [g0 nd b4]; exact hS.hn) (by rw [g0 j a3]; exact hL) a2 a1 b1.symm).mono (fun _ _ _ _ h => h) fun v S2 q => ?_
    obtain ⟨g1, k⟩ := q
    rw [hS.cutR_eq hj hL] at g1
    have k2 : Kp [nd, rx] S S2 := ((Kp.new (A := [nd, rx]) (g := [O.dit []])).trans (Kp.set (A := [nd, rx]) (by simp))).trans (k.sub (by simp))
    refine ⟨h.offR w k2 g1 ?_, k2⟩
    rw [← dropD_rfs]
    exact k.get (get_put hS.hr) (by simp [b4.symm])
theorem pop_L (h : PrAt (cA 0) S p nd rx lx kvs rk lk n) (w : Key) : ∃ d S1, (∀ y, y.key = some w → oPop2 (.ref lx) y (.ref S.length) (S ++ [O.dit []]) = .ok d S1) ∧ Wp NoX (m_Present_m_take_off cA [.ref p, d] S1) fun v S2 => PrAt (cA 0) S2 p nd rx lx (cutL kvs w) rk (offK lk w) n ∧ Kp [nd, lx] S S2 := by
  obtain ⟨b1, b2, b3, b4, b5, b6⟩ := h.base
  have hS := h.kp0 (Kp.new (g := [O.dit []]))
  have hps := Real.lt h.ob
  have hns := Real.lt h.hn
  have hrs := Real.lt h.hl
  rcases getK_rfs (rk := lk) (w := w) with ⟨e, hno⟩ | ⟨j, e, hj⟩
  · refine ⟨.ref S.length, S ++ [O.dit []], fun y hy => oPop2_none hS.hl hy e, ?_⟩
    refine (off_ok (L := []) hS.ob hS.hn get_end (by omega) (by omega) b1.symm).mono (fun _ _ _ _ h => h) fun v S2 q => ?_
    obtain ⟨g1, k⟩ := q
    have e2 : (kvs.filter fun q => !inL [] q.1) = cutL kvs w := by rw [h.cutL_no hno]; simp [inL]
    rw [e2] at g1
    have k2 : Kp [nd, lx] S S2 := (Kp.new (A := [nd, lx]) (g := [O.dit []])).trans (k.sub (by simp))
    refine ⟨h.offL w k2 g1 ?_, k2⟩
    rw [offK_none hno]
    exact k.get hS.hl (by simp [b5.symm])
  · obtain ⟨L, hL, _⟩ := hS.lok _ hj
    obtain ⟨a1, a2, a3, a4⟩ := h.nedL hj
    refine ⟨.ref j, (S ++ [O.dit []]).set lx (O.dic (dropD (rfs lk) w)), fun y hy => oPop2_some hS.hl hy e, ?_⟩
    have g0 : ∀ x, x ≠ lx → ((S ++ [O.dit []]).set lx (O.dic (dropD (rfs lk) w)))[x]? = (S ++ [O.dit []])[x]? := fun x hx => List.getElem?_set_ne (Ne.symm hx)
    refine (off_ok (L := L) (by rw [g0 p b3]; exact hS.ob) (by rw [g0 nd b5]; exact hS.hn) (by rw [g0 j a4]; exact hL) a2 a1 b1.symm).mono (fun _ _ _ _ h => h) fun v S2 q => ?_
    obtain ⟨g1, k⟩ := q
    rw [hS.cutL_eq hj hL] at g1
    have k2 : Kp [nd, lx] S S2 := ((Kp.new (A := [nd, lx]) (g := [O.dit []])).trans (Kp.set (A := [nd, lx]) (by simp))).trans (k.sub (by simp))
    refine ⟨h.offL w k2 g1 ?_, k2⟩
    rw [← dropD_rfs]
    exact k.get (get_put hS.hl) (by simp [b5.symm])
theorem pr_noM {f : Str} (h : f = "take_off" ∨ f = "go" ∨ f = "note") : (prF nd rx lx).lookup f = none := by
  rcases h with rfl | rfl | rfl <;> simp [List.lookup, beq_lit]
def goV (kvs : List (Vl × D)) (r : Row) : List (Vl × D) := match r with
  | .store i _ _ => cutL (cutR kvs (.inl (wrI r))) (kN i)
  | r => cutR kvs (.inl (wrI r))
theorem sub_own {rk rk' lk lk' : List (Key × Nat)} (h1 : rk'.Sublist rk) (h2 : lk'.Sublist lk) : ∀ x ∈ rk'.map (·.2) ++ lk'.map (·.2), x ∈ rk.map (·.2) ++ lk.map (·.2) := fun x hx => ((h1.map _).append (h2.map _)).subset hx
theorem go_ok (h : PrAt (cA 0) S p nd rx lx kvs rk lk n) (r : Row) : Wp NoX (m_Present_m_go cA [.ref p, r.D] S) fun v S' => (∃ rk' lk', PrAt (cA 0) S' p nd rx lx (goV kvs r) rk' lk' n ∧ ∀ x ∈ rk'.map (·.2) ++ lk'.map (·.2), x ∈ rk.map (·.2) ++ lk.map (·.2)) ∧ Kp [nd, rx, lx] S S' := by
  refine wp_def0 rfl ?_
  unfold b_Present_m_go
  rw [v_seq]
  obtain ⟨w, hw, _, hst⟩ := word3 (S := S) r
  simp_arith [Ly.v_fld, Ly.v_meth, Ly.k_me2, Ly.v_make, Ly.k_mk, Ly.v_fldset, Ly.k_fs, Ly.v_fldaug, Ly.k_fa2, Ly.look1, List.mem_cons, List.not_mem_nil, or_false, true_or, or_true, k_me h.ob, pr_noM (.inl rfl), k_fl h.ob, prF_r, hasTyC h.hr, -v_seq, -v_ifS]
  refine Wp.call (written_ok r) ?_
  rintro v0 S0 ⟨ev, es⟩
  rw [ev, es]
  obtain ⟨d, S1, e1, h1⟩ := pop_R (cA := cA) h (.inl (wrI r))
  simp_arith [Ly.v_fld, Ly.v_meth, Ly.k_me2, Ly.v_make, Ly.k_mk, Ly.v_fldset, Ly.k_fs, Ly.v_fldaug, Ly.k_fa2, Ly.look1, List.mem_cons, List.not_mem_nil, or_false, true_or, or_true, e1 (.int (wrI r)) rfl, -v_seq, -v_ifS]
  refine Wp.call h1 ?_
  rintro v1 S2 ⟨h2, k2⟩
  have k2' : Kp [nd, rx, lx] S S2 := k2.sub (by simp)
  simp_arith [Ly.v_fld, Ly.v_meth, Ly.k_me2, Ly.v_make, Ly.k_mk, Ly.v_fldset, Ly.k_fs, Ly.v_fldaug, Ly.k_fa2, Ly.look1, List.mem_cons, List.not_mem_nil, or_false, true_or, or_true, hw, oEq_str, -v_expr]
  by_cases hs : w = "store"
  · obtain ⟨i, a, v, rfl⟩ := hst.mp hs
    have hD : ∀ S, oIx (Row.store i a v).D (.int 1) S = .ok (nD i) S := fun S => ix1'
    simp_arith [Ly.v_fld, Ly.v_meth, Ly.k_me2, Ly.v_make, Ly.k_mk, Ly.v_fldset, Ly.k_fs, Ly.v_fldaug, Ly.k_fa2, Ly.look1, List.mem_cons, List.not_mem_nil, or_false, true_or, or_true, hs, k_me h2.ob, pr_noM (.inl rfl), k_fl h2.ob, prF_l, hasTyC h2.hl, hD]
    obtain ⟨d, S3, e3, h3⟩ := pop_L (cA := cA) h2 (kN i)
    simp_arith [Ly.v_fld, Ly.v_meth, Ly.k_me2, Ly.v_make, Ly.k_mk, Ly.v_fldset, Ly.k_fs, Ly.v_fldaug, Ly.k_fa2, Ly.look1, List.mem_cons, List.not_mem_nil, or_false, true_or, or_true, e3 (nD i) rfl]
    refine Wp.call h3 ?_
    rintro v3 S4 ⟨h4, k4⟩
    simp_arith [Ly.v_fld, Ly.v_meth, Ly.k_me2, Ly.v_make, Ly.k_mk, Ly.v_fldset, Ly.k_fs, Ly.v_fldaug, Ly.k_fa2, Ly.look1, List.mem_cons, List.not_mem_nil, or_false, true_or, or_true]
    exact ⟨⟨_, _, h4, sub_own (rk' := offK rk _) (lk' := offK lk _) List.filter_sublist List.filter_sublist⟩, k2'.trans (k4.sub (by simp))⟩
  · simp_arith [Ly.v_fld, Ly.v_meth, Ly.k_me2, Ly.v_make, Ly.k_mk, Ly.v_fldset, Ly.k_fs, Ly.v_fldaug, Ly.k_fa2, Ly.look1, List.mem_cons, List.not_mem_nil, or_false, true_or, or_true, hs]
    have e : goV kvs r = cutR kvs (.inl (wrI r)) := by
      cases r <;> first | rfl | (exact absurd (hst.mpr ⟨_, _, _, rfl⟩) hs)
    rw [e]
    exact ⟨⟨_, _, h2, sub_own (rk' := offK rk _) (lk' := lk) List.filter_sublist (List.Sublist.refl _)⟩, k2'⟩
end
end GK45
set_option Elab.async false
set_option linter.all false
set_option maxRecDepth 100000
namespace GK45
open PySem L2 Ly
open PySem.Spec hiding Row
open PyProof.Rows hiding St
section
variable {S S' S1 S2 : Hs} {cA : Nat → Addr} {C : Addr} {p nd rx lx j : Nat} {kvs L : List (Vl × D)} {rk lk rk2 lk2 : List (Key × Nat)} {n : Nat} {k : Vl} {a : Key}
def Reg (S : Hs) (rk : List (Key × Nat)) (k : Vl) (a : Key) : Prop := ∃ q ∈ rk, q.1 = a ∧ ∃ L, S[q.2]? = some (.dit L) ∧ inL L k = true
structure PrB (C : Addr) (S : Hs) (p nd rx lx : Nat) (kvs : List (Vl × D)) (rk lk : List (Key × Nat)) (n m : Nat) : Prop where
  ob : S[p]? = some (.ins C (prF nd rx lx))
  hn : S[nd]? = some (.dit kvs)
  hr : S[rx]? = some (.dic (rfs rk))
  hl : S[lx]? = some (.dic (rfs lk))
  ne : ([p, nd, rx, lx] ++ (rk.map (·.2) ++ lk.map (·.2))).Nodup
  rok : ∀ q ∈ rk, ∃ L, S[q.2]? = some (.dit L) ∧ L.length ≤ n ∧ ∀ kv ∈ L, q.1 ∈ rdV kv.1
  lok : ∀ q ∈ lk, ∃ L, S[q.2]? = some (.dit L) ∧ L.length ≤ n ∧ ∀ kv ∈ L, ldV kv.1 = some q.1
  rn : (rk.map (·.1)).Nodup
  ln : (lk.map (·.1)).Nodup
  bd : rk.length + lk.length ≤ m
theorem PrAt.toB (h : PrAt C S p nd rx lx kvs rk lk n) : PrB C S p nd rx lx kvs rk lk n n ∧ (∀ kv ∈ kvs, ∀ a ∈ rdV kv.1, Reg S rk kv.1 a) ∧ ∀ kv ∈ kvs, ∀ a, ldV kv.1 = some a → Reg S lk kv.1 a := by
  refine ⟨⟨h.ob, h.hn, h.hr, h.hl, h.ne, h.rok, h.lok, h.rn, h.ln, h.bd.2⟩, fun kv hk a ha => ?_, fun kv hk a ha => ?_⟩
  · obtain ⟨q, hq, e, h1⟩ := h.rc kv hk a ha
    obtain ⟨L, h2, _⟩ := h.rok q hq
    exact ⟨q, hq, e, L, h2, h1 L h2⟩
  · obtain ⟨q, hq, e, h1⟩ := h.lc kv hk a ha
    obtain ⟨L, h2, _⟩ := h.lok q hq
    exact ⟨q, hq, e, L, h2, h1 L h2⟩
theorem Reg.all {rk : List (Key × Nat)} (h : Reg S rk k a) : ∃ q ∈ rk, q.1 = a ∧ ∀ L, S[q.2]? = some (.dit L) → inL L k = true := by
  obtain ⟨q, hq, e, L, h1, h2⟩ := h
  refine ⟨q, hq, e, fun L' h3 => ?_⟩
  rw [h1] at h3
  injection h3 with h3
  injection h3 with h3
  subst h3; exact h2
theorem inL_set {L : List (Vl × D)} {k k2 : Vl} {d : D} : inL (setK L k d) k2 = true ↔ inL L k2 = true ∨ k2 = k := by
  unfold setK
  split
  · rename_i hc
    have e : ∀ L : List (Vl × D), inL (L.map fun kv => if kv.1 = k then (kv.1, d) else kv) k2 = inL L k2 := by
      intro L
      unfold inL
      rw [List.any_map]
      congr 1
      funext y
      simp only [Function.comp]
      split <;> rfl
    rw [e]
    constructor
    · exact .inl
    · rintro (h | rfl)
      · exact h
      · exact hc
  · unfold inL
    rw [List.any_append, Bool.or_eq_true]
    simp only [List.any_cons, List.any_nil, Bool.or_false, decide_eq_true_eq]
    constructor
    · rintro (h | h)
      · exact .inl h
      · exact .inr h.symm
    · rintro (h | h)
      · exact .inl h
      · exact .inr h.symm
theorem setK_len' {κ : Type} [DecidableEq κ] {L : List (κ × D)} {k : κ} {d : D} : (setK L k d).length ≤ L.length + 1 := by
  unfold setK; split <;> simp
theorem setK_keys {L : List (Vl × D)} {k : Vl} {d : D} : ∀ kv ∈ setK L k d, kv.1 = k ∨ ∃ kv2 ∈ L, kv2.1 = kv.1 := by
  intro kv h
  unfold setK at h
  split at h
  · obtain ⟨y, hy, rfl⟩ := List.mem_map.mp h
    by_cases e : y.1 = k
    · left; simp [e]
    · right; exact ⟨y, hy, by simp [e]⟩
  · rcases List.mem_append.mp h with h | h
    · exact .inr ⟨kv, h, rfl⟩
    · left; simp at h; rw [h]
theorem setK_new {κ : Type} [DecidableEq κ] {L : List (κ × D)} {k : κ} {d : D} (h : getK L k = none) : setK L k d = L ++ [(k, d)] := by
  unfold setK
  rw [if_neg]
  rw [List.any_eq_true]
  rintro ⟨y, hy, e⟩
  exact getK_none h y hy (by simpa using e)
variable {n' : Nat}
theorem PrB.ned (h : PrB C S p nd rx lx kvs rk lk n n') {j : Nat} (hj : j ∈ rk.map (·.2) ++ lk.map (·.2)) : j ≠ p ∧ j ≠ nd ∧ j ≠ rx ∧ j ≠ lx := by
  have := h.ne
  rw [List.nodup_append] at this
  have h2 := fun a ha => this.2.2 a ha j hj
  exact ⟨fun e => h2 p (by simp) e.symm, fun e => h2 nd (by simp) e.symm, fun e => h2 rx (by simp) e.symm, fun e => h2 lx (by simp) e.symm⟩
theorem nod_inj2 : ∀ {rk : List (Key × Nat)}, (rk.map (·.2)).Nodup → ∀ {a b : Key × Nat}, a ∈ rk → b ∈ rk → a.2 = b.2 → a = b
  | [], _, a, b, ha, _, _ => by cases ha
  | c :: rk, h, a, b, ha, hb, e => by
    rw [List.map_cons, List.nodup_cons] at h
    rcases List.mem_cons.mp ha with rfl | ha2 <;> rcases List.mem_cons.mp hb with rfl | hb2
    · rfl
    · exact (h.1 (List.mem_map.mpr ⟨b, hb2, e.symm⟩)).elim
    · exact (h.1 (List.mem_map.mpr ⟨a, ha2, e⟩)).elim
    · exact nod_inj2 h.2 ha2 hb2 e
theorem PrB.put (h : PrB C S p nd rx lx kvs rk lk n n') {q0 : Key × Nat} (hL : S[q0.2]? = some (.dit L)) (hq : (q0 ∈ rk ∧ q0.1 ∈ rdV k) ∨ (q0 ∈ lk ∧ ldV k = some q0.1)) :
    PrB C (S.set q0.2 (.dit (setK L k (.bl true)))) p nd rx lx kvs rk lk (n + 1) n' ∧ (∀ k2 a2, (Reg S rk k2 a2 ∨ (q0 ∈ rk ∧ k2 = k ∧ a2 = q0.1)) → Reg (S.set q0.2 (.dit (setK L k (.bl true)))) rk k2 a2) ∧ (∀ k2 a2, (Reg S lk k2 a2 ∨ (q0 ∈ lk ∧ k2 = k ∧ a2 = q0.1)) → Reg (S.set q0.2 (.dit (setK L k (.bl true)))) lk k2 a2) := by
  have hin : q0.2 ∈ rk.map (·.2) ++ lk.map (·.2) := by
    rcases hq with ⟨h1, _⟩ | ⟨h1, _⟩
    · exact List.mem_append_left _ (List.mem_map.mpr ⟨_, h1, rfl⟩)
    · exact List.mem_append_right _ (List.mem_map.mpr ⟨_, h1, rfl⟩)
  obtain ⟨a1, a2, a3, a4⟩ := h.ned hin
  have hjS := Real.lt hL
  have nd2 := h.ne
  rw [List.nodup_append] at nd2
  have ndr := List.nodup_append.mp nd2.2.1
  have self : (S.set q0.2 (.dit (setK L k (.bl true))))[q0.2]? = some (.dit (setK L k (.bl true))) := List.getElem?_set_self hjS
  have oth : ∀ x, x ≠ q0.2 → (S.set q0.2 (.dit (setK L k (.bl true))))[x]? = S[x]? := fun x hx => List.getElem?_set_ne (Ne.symm hx)
  have reg : ∀ {rr : List (Key × Nat)} {k2 a2}, Reg S rr k2 a2 → Reg (S.set q0.2 (.dit (setK L k (.bl true)))) rr k2 a2 := by
    rintro rr k2 a2 ⟨q, hq, e, L2, h1, h2⟩
    by_cases ej : q.2 = q0.2
    · rw [ej, hL] at h1
      injection h1 with h1
      injection h1 with h1
      subst h1
      exact ⟨q, hq, e, _, by rw [ej]; exact self, inL_set.mpr (.inl h2)⟩
    · exact ⟨q, hq, e, L2, by rw [oth _ ej]; exact h1, h2⟩
  refine ⟨⟨by rw [oth p (Ne.symm a1)]; exact h.ob, by rw [oth nd (Ne.symm a2)]; exact h.hn, by rw [oth rx (Ne.symm a3)]; exact h.hr, by rw [oth lx (Ne.symm a4)]; exact h.hl, h.ne, fun q hq2 => ?_, fun q hq2 => ?_, h.rn, h.ln, h.bd⟩, ?_, ?_⟩
  · obtain ⟨L2, h1, h2, h3⟩ := h.rok q hq2
    by_cases ej : q.2 = q0.2
    · rw [ej, hL] at h1
      injection h1 with h1
      injection h1 with h1
      subst h1
      refine ⟨_, by rw [ej]; exact self, by have := setK_len' (L := L) (k := k) (d := .bl true); omega, fun kv hkv => ?_⟩
      have hqa : q.1 ∈ rdV k := by
        rcases hq with ⟨h4, h5⟩ | ⟨h4, h5⟩
        · rw [nod_inj2 ndr.1 hq2 h4 ej]; exact h5
        · exact (ndr.2.2 q.2 (List.mem_map.mpr ⟨q, hq2, rfl⟩) q0.2 (List.mem_map.mpr ⟨q0, h4, rfl⟩) ej).elim
      rcases setK_keys kv hkv with e | ⟨kv2, hk2, e⟩
      · rw [e]; exact hqa
      · rw [← e]; exact h3 kv2 hk2
    · exact ⟨L2, by rw [oth _ ej]; exact h1, by omega, h3⟩
  · obtain ⟨L2, h1, h2, h3⟩ := h.lok q hq2
    by_cases ej : q.2 = q0.2
    · rw [ej, hL] at h1
      injection h1 with h1
      injection h1 with h1
      subst h1
      refine ⟨_, by rw [ej]; exact self, by have := setK_len' (L := L) (k := k) (d := .bl true); omega, fun kv hkv => ?_⟩
      have hqa : ldV k = some q.1 := by
        rcases hq with ⟨h4, h5⟩ | ⟨h4, h5⟩
        · exact (ndr.2.2 q0.2 (List.mem_map.mpr ⟨q0, h4, rfl⟩) q.2 (List.mem_map.mpr ⟨q, hq2, rfl⟩) ej.symm).elim
        · rw [nod_inj2 ndr.2.1 hq2 h4 ej]; exact h5
      rcases setK_keys kv hkv with e | ⟨kv2, hk2, e⟩
      · rw [e]; exact hqa
      · rw [← e]; exact h3 kv2 hk2
    · exact ⟨L2, by rw [oth _ ej]; exact h1, by omega, h3⟩
  · rintro k2 a2 (h1 | ⟨h1, rfl, rfl⟩)
    · exact reg h1
    · exact ⟨q0, h1, rfl, _, self, inL_set.mpr (.inr rfl)⟩
  · rintro k2 a2 (h1 | ⟨h1, rfl, rfl⟩)
    · exact reg h1
    · exact ⟨q0, h1, rfl, _, self, inL_set.mpr (.inr rfl)⟩
theorem ne_add {A B C : List Nat} {x : Nat} (h : (A ++ (B ++ C)).Nodup) (hx : ∀ y ∈ A ++ (B ++ C), y ≠ x) : (A ++ ((B ++ [x]) ++ C)).Nodup := by
  have e : A ++ ((B ++ [x]) ++ C) = (A ++ B) ++ x :: C := by simp
  rw [e, List.perm_middle.nodup_iff, List.nodup_cons]
  refine ⟨fun c => ?_, by simpa using h⟩
  exact hx x (by simpa using c) rfl
theorem PrB.newR (h : PrB C S p nd rx lx kvs rk lk n n') (hno : ∀ q ∈ rk, q.1 ≠ a) : PrB C ((S ++ [O.dit []]).set rx (.dic (rfs (rk ++ [(a, S.length)])))) p nd rx lx kvs (rk ++ [(a, S.length)]) lk n (n' + 1) ∧ (∀ rr k2 a2, Reg S rr k2 a2 → Reg ((S ++ [O.dit []]).set rx (.dic (rfs (rk ++ [(a, S.length)])))) rr k2 a2) ∧ ((S ++ [O.dit []]).set rx (.dic (rfs (rk ++ [(a, S.length)]))))[S.length]? = some (.dit []) := by
  have l1 := Real.lt h.ob
  have l2 := Real.lt h.hn
  have l3 := Real.lt h.hr
  have l4 := Real.lt h.hl
  have hb : p ≠ nd ∧ p ≠ rx ∧ p ≠ lx ∧ nd ≠ rx ∧ nd ≠ lx ∧ rx ≠ lx := by
    have := h.ne
    rw [List.nodup_append] at this
    have h1 := this.1
    simp at h1
    exact ⟨h1.1.1, h1.1.2.1, h1.1.2.2, h1.2.1.1, h1.2.1.2, h1.2.2⟩
  obtain ⟨b1, b2, b3, b4, b5, b6⟩ := hb
  have old : ∀ x o, S[x]? = some o → x ≠ rx → ((S ++ [O.dit []]).set rx (.dic (rfs (rk ++ [(a, S.length)]))))[x]? = some o := fun x o hx hne => by
    rw [List.getElem?_set_ne (Ne.symm hne), List.getElem?_append_left (Real.lt hx)]; exact hx
  have nr : ∀ q ∈ rk, q.2 ≠ rx := fun q hq => (h.ned (List.mem_append_left _ (List.mem_map.mpr ⟨q, hq, rfl⟩))).2.2.1
  have nl : ∀ q ∈ lk, q.2 ≠ rx := fun q hq => (h.ned (List.mem_append_right _ (List.mem_map.mpr ⟨q, hq, rfl⟩))).2.2.1
  have new : ((S ++ [O.dit []]).set rx (.dic (rfs (rk ++ [(a, S.length)]))))[S.length]? = some (.dit []) := by
    rw [List.getElem?_set_ne (by omega)]; exact get_end
  have ltr : ∀ x ∈ rk.map (·.2) ++ lk.map (·.2), x < S.length := by
    intro x hx
    rcases List.mem_append.mp hx with hx | hx
    · obtain ⟨q, hq, rfl⟩ := List.mem_map.mp hx
      obtain ⟨L, h1, _⟩ := h.rok q hq
      exact Real.lt h1
    · obtain ⟨q, hq, rfl⟩ := List.mem_map.mp hx
      obtain ⟨L, h1, _⟩ := h.lok q hq
      exact Real.lt h1
  refine ⟨⟨old _ _ h.ob b2, old _ _ h.hn b4, ?_, old _ _ h.hl b6.symm, ?_, fun q hq => ?_, fun q hq => ?_, ?_, h.ln, by have := h.bd; simp; omega⟩, ?_, new⟩
  · rw [List.getElem?_set_self (by simp; omega)]
  · rw [List.map_append]
    refine ne_add h.ne fun y hy => ?_
    show y ≠ S.length
    rcases List.mem_append.mp hy with hy | hy
    · simp at hy; omega
    · have := ltr y hy; omega
  · rcases List.mem_append.mp hq with hq | hq
    · obtain ⟨L, h1, h2⟩ := h.rok q hq
      exact ⟨L, old _ _ h1 (nr q hq), h2⟩
    · rw [List.mem_singleton.mp hq]
      exact ⟨[], new, by simp, fun kv hkv => by cases hkv⟩
  · obtain ⟨L, h1, h2⟩ := h.lok q hq
    exact ⟨L, old _ _ h1 (nl q hq), h2⟩
  · rw [List.map_append, List.nodup_append]
    refine ⟨h.rn, by simp, ?_⟩
    rintro x hx y hy rfl
    obtain ⟨q, hq, rfl⟩ := List.mem_map.mp hx
    simp at hy
    exact hno q hq hy
  · rintro rr k2 a2 ⟨q, hq, e, L, h1, h2⟩
    have : q.2 ≠ rx := by
      intro e2
      rw [e2, h.hr] at h1; cases h1
    exact ⟨q, hq, e, L, old _ _ h1 this, h2⟩
theorem PrB.newL (h : PrB C S p nd rx lx kvs rk lk n n') (hno : ∀ q ∈ lk, q.1 ≠ a) : PrB C ((S ++ [O.dit []]).set lx (.dic (rfs (lk ++ [(a, S.length)])))) p nd rx lx kvs rk (lk ++ [(a, S.length)]) n (n' + 1) ∧ (∀ rr k2 a2, Reg S rr k2 a2 → Reg ((S ++ [O.dit []]).set lx (.dic (rfs (lk ++ [(a, S.length)])))) rr k2 a2) ∧ ((S ++ [O.dit []]).set lx (.dic (rfs (lk ++ [(a, S.length)]))))[S.length]? = some (.dit []) := by
  have l1 := Real.lt h.ob
  have l2 := Real.lt h.hn
  have l3 := Real.lt h.hr
  have l4 := Real.lt h.hl
  have hb : p ≠ nd ∧ p ≠ rx ∧ p ≠ lx ∧ nd ≠ rx ∧ nd ≠ lx ∧ rx ≠ lx := by
    have := h.ne
    rw [List.nodup_append] at this
    have h1 := this.1
    simp at h1
    exact ⟨h1.1.1, h1.1.2.1, h1.1.2.2, h1.2.1.1, h1.2.1.2, h1.2.2⟩
  obtain ⟨b1, b2, b3, b4, b5, b6⟩ := hb
  have old : ∀ x o, S[x]? = some o → x ≠ lx → ((S ++ [O.dit []]).set lx (.dic (rfs (lk ++ [(a, S.length)]))))[x]? = some o := fun x o hx hne => by
    rw [List.getElem?_set_ne (Ne.symm hne), List.getElem?_append_left (Real.lt hx)]; exact hx
  have nr : ∀ q ∈ rk, q.2 ≠ lx := fun q hq => (h.ned (List.mem_append_left _ (List.mem_map.mpr ⟨q, hq, rfl⟩))).2.2.2
  have nl : ∀ q ∈ lk, q.2 ≠ lx := fun q hq => (h.ned (List.mem_append_right _ (List.mem_map.mpr ⟨q, hq, rfl⟩))).2.2.2
  have new : ((S ++ [O.dit []]).set lx (.dic (rfs (lk ++ [(a, S.length)]))))[S.length]? = some (.dit []) := by
    rw [List.getElem?_set_ne (by omega)]; exact get_end
  have ltr : ∀ x ∈ rk.map (·.2) ++ lk.map (·.2), x < S.length := by
    intro x hx
    rcases List.mem_append.mp hx with hx | hx
    · obtain ⟨q, hq, rfl⟩ := List.mem_map.mp hx
      obtain ⟨L, h1, _⟩ := h.rok q hq
      exact Real.lt h1
    · obtain ⟨q, hq, rfl⟩ := List.mem_map.mp hx
      obtain ⟨L, h1, _⟩ := h.lok q hq
      exact Real.lt h1
  refine ⟨⟨old _ _ h.ob b3, old _ _ h.hn b5, old _ _ h.hr b6, ?_, ?_, fun q hq => ?_, fun q hq => ?_, h.rn, ?_, by have := h.bd; simp; omega⟩, ?_, new⟩
  · rw [List.getElem?_set_self (by simp; omega)]
  · rw [List.map_append]
    rw [← List.append_assoc ([p, nd, rx, lx]), ← List.append_assoc]
    have := ne_add (A := [p, nd, rx, lx] ++ rk.map (·.2)) (B := lk.map (·.2)) (C := []) (x := S.length) (by simpa using h.ne) fun y hy => ?_
    · simpa using this
    simp only [List.append_nil, List.append_assoc] at hy
    show y ≠ S.length
    rcases List.mem_append.mp hy with hy | hy
    · simp at hy; omega
    · have := ltr y hy; omega
  · obtain ⟨L, h1, h2⟩ := h.rok q hq
    exact ⟨L, old _ _ h1 (nr q hq), h2⟩
  · rcases List.mem_append.mp hq with hq | hq
    · obtain ⟨L, h1, h2⟩ := h.lok q hq
      exact ⟨L, old _ _ h1 (nl q hq), h2⟩
    · rw [List.mem_singleton.mp hq]
      exact ⟨[], new, by simp, fun kv hkv => by cases hkv⟩
  · rw [List.map_append, List.nodup_append]
    refine ⟨h.ln, by simp, ?_⟩
    rintro x hx y hy rfl
    obtain ⟨q, hq, rfl⟩ := List.mem_map.mp hx
    simp at hy
    exact hno q hq hy
  · rintro rr k2 a2 ⟨q, hq, e, L, h1, h2⟩
    have : q.2 ≠ lx := by
      intro e2
      rw [e2, h.hl] at h1; cases h1
    exact ⟨q, hq, e, L, old _ _ h1 this, h2⟩
end
end GK45
set_option Elab.async false
set_option linter.all false
set_option maxRecDepth 100000
namespace GK45
open PySem L2 Ly
open PySem.Spec hiding Row
open PyProof.Rows hiding St
section
variable {S S' S1 S2 : Hs} {cA : Nat → Addr} {C : Addr} {p nd rx lx j : Nat} {kvs L : List (Vl × D)} {rk lk rk2 lk2 : List (Key × Nat)} {n n' : Nat} {k : Vl} {a : Key}
theorem PrB.kp0 (h : PrB C S p nd rx lx kvs rk lk n n') (K : Kp [] S S') : PrB C S' p nd rx lx kvs rk lk n n' :=
  ⟨K.get h.ob (by simp), K.get h.hn (by simp), K.get h.hr (by simp), K.get h.hl (by simp), h.ne, fun q hq => by obtain ⟨L, h1, h2⟩ := h.rok q hq; exact ⟨L, K.get h1 (by simp), h2⟩, fun q hq => by obtain ⟨L, h1, h2⟩ := h.lok q hq; exact ⟨L, K.get h1 (by simp), h2⟩, h.rn, h.ln, h.bd⟩
theorem PrB.mono {m m' : Nat} (h : PrB C S p nd rx lx kvs rk lk n n') (h1 : n ≤ m) (h2 : n' ≤ m') : PrB C S p nd rx lx kvs rk lk m m' :=
  ⟨h.ob, h.hn, h.hr, h.hl, h.ne, fun q hq => by obtain ⟨L, e1, e2, e3⟩ := h.rok q hq; exact ⟨L, e1, by omega, e3⟩, fun q hq => by obtain ⟨L, e1, e2, e3⟩ := h.lok q hq; exact ⟨L, e1, by omega, e3⟩, h.rn, h.ln, by have := h.bd; omega⟩
theorem Reg.kp0 (h : Reg S rk k a) (K : Kp [] S S') : Reg S' rk k a := by
  obtain ⟨q, hq, e, L, h1, h2⟩ := h
  exact ⟨q, hq, e, L, K.get h1 (by simp), h2⟩
theorem oSetd_some {kvs : List (Key × D)} {y z d : D} {k : Key} (h : S[j]? = some (.dic kvs)) (hk : y.key = some k) (hl : kvs.length < sizeLine) (hg : getK kvs k = some d) : oSetd (.ref j) y z S = .ok d S := by simp [oSetd, h, hk, hl, hg]
theorem oSetd_none {kvs : List (Key × D)} {y z : D} {k : Key} (h : S[j]? = some (.dic kvs)) (hk : y.key = some k) (hl : kvs.length < sizeLine) (hg : getK kvs k = none) : oSetd (.ref j) y z S = .ok z (S.set j (.dic (setK kvs k z))) := by simp [oSetd, h, hk, hl, hg]
theorem oSet_dit {kvs : List (List Key × D)} {y d : D} {k : List Key} (h : S[j]? = some (.dit kvs)) (hk : y.tkey = some k) (hl : kvs.length < sizeLine) : oSet (.ref j) y d S = .ok () (S.set j (.dit (setK kvs k d))) := by simp [oSet, h, hk, hl]
theorem regR (h : PrB C S p nd rx lx kvs rk lk n n') (ha : a ∈ rdV k) (hb : n ≤ 1000) (hb' : n' ≤ 1000) : ∃ j S1 S2 rk2, (∀ y, y.key = some a → oSetd (.ref rx) y (.ref S.length) (S ++ [O.dit []]) = .ok (.ref j) S1) ∧ oSet (.ref j) (valD k) (.bl true) S1 = .ok () S2 ∧
    PrB C S2 p nd rx lx kvs rk2 lk (n + 1) (n' + 1) ∧ (∀ k2 a2, (Reg S rk k2 a2 ∨ (k2 = k ∧ a2 = a)) → Reg S2 rk2 k2 a2) ∧ (∀ k2 a2, Reg S lk k2 a2 → Reg S2 lk k2 a2) ∧ Kp (rx :: rk.map (·.2)) S S2 ∧ (∀ x ∈ rk2.map (·.2), x ∈ rk.map (·.2) ∨ S.length ≤ x) := by
  have K0 : Kp [] S (S ++ [O.dit []]) := Kp.new
  have h0 := h.kp0 K0
  have hl3 := Real.lt h.hr
  have hsz : ∀ {α : Type} {L : List α}, L.length ≤ 1000 → L.length < sizeLine := fun {α L} h => line_big (by omega)
  have hrl : (rfs rk).length < sizeLine := hsz (by rw [List.length_map]; have := h.bd; omega)
  rcases getK_rfs (rk := rk) (w := a) with ⟨e, hno⟩ | ⟨j, e, hj⟩
  · obtain ⟨h1, r1, n1⟩ := h.newR hno
    have e2 : setK (rfs rk) a (.ref S.length) = rfs (rk ++ [(a, S.length)]) := by
      rw [setK_new e]; simp
    obtain ⟨h2, r2, r3⟩ := h1.put (q0 := (a, S.length)) (k := k) n1 (.inl ⟨by simp, ha⟩)
    refine ⟨S.length, _, _, rk ++ [(a, S.length)], fun y hy => oSetd_none h0.hr hy hrl e, ?_, h2, fun k2 a2 hh => ?_, fun k2 a2 hh => r3 _ _ (.inl (r1 _ _ _ hh)), ?_, fun x hx => ?_⟩
    · rw [e2]
      exact oSet_dit n1 (valD_key k) (hsz (by simp))
    · rcases hh with hh | ⟨rfl, rfl⟩
      · obtain ⟨q, hq, e, hh⟩ := r1 _ _ _ hh
        exact r2 _ _ (.inl ⟨q, List.mem_append_left _ hq, e, hh⟩)
      · exact r2 _ _ (.inr ⟨by simp, rfl, rfl⟩)
    · have k1 : Kp (rx :: rk.map (·.2)) S ((S ++ [O.dit []]).set rx (.dic (rfs (rk ++ [(a, S.length)])))) := (K0.sub (by simp)).trans (Kp.set (by simp))
      exact k1.setNew (Nat.le_refl _)
    · rw [List.map_append] at hx
      rcases List.mem_append.mp hx with hx | hx
      · exact .inl hx
      · simp at hx; exact .inr (by omega)
  · obtain ⟨L, hL, hLn, _⟩ := h0.rok _ hj
    obtain ⟨h2, r2, r3⟩ := h0.put (q0 := (a, j)) (k := k) hL (.inl ⟨hj, ha⟩)
    refine ⟨j, _, _, rk, fun y hy => oSetd_some h0.hr hy hrl e, oSet_dit hL (valD_key k) (hsz (by omega)), h2.mono (Nat.le_refl _) (Nat.le_succ _), fun k2 a2 hh => ?_, fun k2 a2 hh => r3 _ _ (.inl (hh.kp0 K0)), ?_, fun x hx => .inl hx⟩
    · rcases hh with hh | ⟨rfl, rfl⟩
      · exact r2 _ _ (.inl (hh.kp0 K0))
      · exact r2 _ _ (.inr ⟨hj, rfl, rfl⟩)
    · exact (K0.sub (by simp)).trans (Kp.set (A := rx :: rk.map (·.2)) (by simp; exact .inr ⟨_, hj⟩))
theorem regL (h : PrB C S p nd rx lx kvs rk lk n n') (ha : ldV k = some a) (hb : n ≤ 1000) (hb' : n' ≤ 1000) : ∃ j S1 S2 lk2, (∀ y, y.key = some a → oSetd (.ref lx) y (.ref S.length) (S ++ [O.dit []]) = .ok (.ref j) S1) ∧ oSet (.ref j) (valD k) (.bl true) S1 = .ok () S2 ∧
    PrB C S2 p nd rx lx kvs rk lk2 (n + 1) (n' + 1) ∧ (∀ k2 a2, (Reg S lk k2 a2 ∨ (k2 = k ∧ a2 = a)) → Reg S2 lk2 k2 a2) ∧ (∀ k2 a2, Reg S rk k2 a2 → Reg S2 rk k2 a2) ∧ Kp (lx :: lk.map (·.2)) S S2 ∧ (∀ x ∈ lk2.map (·.2), x ∈ lk.map (·.2) ∨ S.length ≤ x) := by
  have K0 : Kp [] S (S ++ [O.dit []]) := Kp.new
  have h0 := h.kp0 K0
  have hl3 := Real.lt h.hl
  have hsz : ∀ {α : Type} {L : List α}, L.length ≤ 1000 → L.length < sizeLine := fun {α L} h => line_big (by omega)
  have hrl : (rfs lk).length < sizeLine := hsz (by rw [List.length_map]; have := h.bd; omega)
  rcases getK_rfs (rk := lk) (w := a) with ⟨e, hno⟩ | ⟨j, e, hj⟩
  · obtain ⟨h1, r1, n1⟩ := h.newL hno
    have e2 : setK (rfs lk) a (.ref S.length) = rfs (lk ++ [(a, S.length)]) := by
      rw [setK_new e]; simp
    obtain ⟨h2, r2, r3⟩ := h1.put (q0 := (a, S.length)) (k := k) n1 (.inr ⟨by simp, ha⟩)
    refine ⟨S.length, _, _, lk ++ [(a, S.length)], fun y hy => oSetd_none h0.hl hy hrl e, ?_, h2, fun k2 a2 hh => ?_, fun k2 a2 hh => r2 _ _ (.inl (r1 _ _ _ hh)), ?_, fun x hx => ?_⟩
    · rw [e2]
      exact oSet_dit n1 (valD_key k) (hsz (by simp))
    · rcases hh with hh | ⟨rfl, rfl⟩
      · obtain ⟨q, hq, e, hh⟩ := r1 _ _ _ hh
        exact r3 _ _ (.inl ⟨q, List.mem_append_left _ hq, e, hh⟩)
      · exact r3 _ _ (.inr ⟨by simp, rfl, rfl⟩)
    · have k1 : Kp (lx :: lk.map (·.2)) S ((S ++ [O.dit []]).set lx (.dic (rfs (lk ++ [(a, S.length)])))) := (K0.sub (by simp)).trans (Kp.set (by simp))
      exact k1.setNew (Nat.le_refl _)
    · rw [List.map_append] at hx
      rcases List.mem_append.mp hx with hx | hx
      · exact .inl hx
      · simp at hx; exact .inr (by omega)
  · obtain ⟨L, hL, hLn, _⟩ := h0.lok _ hj
    obtain ⟨h2, r2, r3⟩ := h0.put (q0 := (a, j)) (k := k) hL (.inr ⟨hj, ha⟩)
    refine ⟨j, _, _, lk, fun y hy => oSetd_some h0.hl hy hrl e, oSet_dit hL (valD_key k) (hsz (by omega)), h2.mono (Nat.le_refl _) (Nat.le_succ _), fun k2 a2 hh => ?_, fun k2 a2 hh => r2 _ _ (.inl (hh.kp0 K0)), ?_, fun x hx => .inl hx⟩
    · rcases hh with hh | ⟨rfl, rfl⟩
      · exact r3 _ _ (.inl (hh.kp0 K0))
      · exact r3 _ _ (.inr ⟨hj, rfl, rfl⟩)
    · exact (K0.sub (by simp)).trans (Kp.set (A := lx :: lk.map (·.2)) (by simp; exact .inr ⟨_, hj⟩))
end
end GK45
set_option Elab.async false
set_option linter.all false
set_option maxRecDepth 100000
namespace GK45
open PySem L2 Ly
open PySem.Spec hiding Row
open PyProof.Rows hiding St
local macro_rules | `(tactic| simp_arith [$ls,*]) => `(tactic| simp only [Ly.line_le, Ly.atX_no, Ly.v_ok, Ly.v_bad, Ly.v_bind, Ly.k_bd, Ly.v_at, Ly.v_bin, Ly.k_bi, Ly.k_bi2, Ly.v_var, Ly.v_c, Ly.v_un, Ly.k_un, Ly.v_if, Ly.k_ife, Ly.v_and, Ly.k_and, Ly.k_and2, Ly.v_or, Ly.k_or, Ly.k_or2, Ly.v_tup, Ly.k_tup, Ly.v_lst, Ly.k_lst, Ly.v_call, Ly.k_ca, Ly.v_fn, Ly.k_fn, Ly.v_bm, Ly.k_bm, Ly.k_bm2, Ly.v_sl, Ly.k_sl, Ly.k_sl2, Ly.k_sl3, Ly.v_ixK, Ly.k_ixk, Ly.v_inK, Ly.k_ink, Ly.v_notinK, Ly.k_nink, Ly.v_getK2, Ly.k_gk2, Ly.k_gk, Ly.v_get2, Ly.k_g2, Ly.k_g22, Ly.k_g23, Ly.v_nil, Ly.v_cons, Ly.k_co, Ly.k_co2, Ly.v_no, Ly.v_some, Ly.k_so, Ly.k_cm, Ly.v_cmp, Ly.v_tru, Ly.k_tr, Ly.v_notB, Ly.k_no, Ly.v_andB, Ly.k_an, Ly.v_orB, Ly.k_orb, Ly.v_yes, Ly.v_inKB, Ly.k_inkB, Ly.v_notinKB, Ly.k_ninkB, Ly.v_set, Ly.k_st, Ly.v_expr, Ly.k_ex, Ly.v_ret, Ly.k_re, Ly.v_retN, Ly.v_pass, Ly.v_brk, Ly.v_cnt, Ly.v_seq, Ly.k_sq_nx, Ly.k_sq_rt, Ly.k_sq_bk, Ly.k_sq_ct, Ly.v_ifS, Ly.k_ifs, Ly.v_asg, Ly.k_as, Ly.k_as2, Ly.v_aug, Ly.k_au, Ly.v_for, Ly.k_fo, Ly.v_it, Ly.k_it, Ly.k_ij, Ly.v_rng1, Ly.v_rng2, Ly.v_enum, Ly.v_zip, Ly.v_ez, Ly.v_gN, Ly.v_gsN, Ly.v_gsC, Ly.k_gc, Ly.v_gT, Ly.v_gTw, Ly.v_gSb, Ly.k_gsb, Ly.k_gsb2, Ly.k_gsb3, Ly.k_en_rt, Ly.k_en_nx, Ly.k_tu_nx, Ly.k_tu_ct, Ly.k_tu_bk, Ly.k_tu_rt, Ly.v_lc, Ly.k_lc, Ly.v_augI, Ly.k_ag, Ly.k_ag2, Ly.k_ag3, Ly.k_ag4, Ly.k_ag5, Ly.v_del, Ly.k_dl, Ly.k_dl2, Ly.v_setd, Ly.v_pop2, Ly.k_d3, Ly.k_d32, Ly.k_d33, Ly.v_get1, Ly.k_g1, Ly.k_g12, Ly.v_rg1, Ly.k_rg, Ly.v_rg2, Ly.k_rg2, Ly.k_rg22, Ly.v_dicK, Ly.v_dicT, Ly.v_dc, Ly.k_dc, List.getElem?_cons_zero, List.getElem?_cons_succ, List.set_cons_zero, List.set_cons_succ, List.length_cons, List.length_nil, List.map_cons, List.map_nil, List.cons_append, List.nil_append, List.replicate, if_true, if_false, Bool.false_eq_true, Bool.not_true, Bool.not_false, Bool.true_and, Bool.false_and, decide_true, decide_false, decide_eq_true_eq, Nat.zero_add, Nat.reduceAdd, Nat.reduceLeDiff, true_and, and_true, $ls,*])
section
variable {S S' S1 S2 : Hs} {cA : Nat → Addr} {C : Addr} {p nd rx lx j : Nat} {kvs L : List (Vl × D)} {rk lk rk2 lk2 : List (Key × Nat)} {n n' : Nat} {k : Vl} {a : Key}
def own (nd rx lx : Nat) (rk lk : List (Key × Nat)) : List Nat := nd :: rx :: lx :: (rk.map (·.2) ++ lk.map (·.2))
theorem PrB.setN {kvs2 : List (Vl × D)} (h : PrB C S p nd rx lx kvs rk lk n n') : PrB C (S.set nd (.dit kvs2)) p nd rx lx kvs2 rk lk n n' ∧ (∀ k a, Reg S rk k a → Reg (S.set nd (.dit kvs2)) rk k a) ∧ ∀ k a, Reg S lk k a → Reg (S.set nd (.dit kvs2)) lk k a := by
  have hb : p ≠ nd ∧ nd ≠ rx ∧ nd ≠ lx := by
    have := h.ne
    rw [List.nodup_append] at this
    have h1 := this.1
    simp at h1
    exact ⟨h1.1.1, h1.2.1.1, h1.2.1.2⟩
  obtain ⟨b1, b4, b5⟩ := hb
  have old : ∀ x, x ≠ nd → (S.set nd (.dit kvs2))[x]? = S[x]? := fun x hx => List.getElem?_set_ne (Ne.symm hx)
  have nr : ∀ q ∈ rk, q.2 ≠ nd := fun q hq => (h.ned (List.mem_append_left _ (List.mem_map.mpr ⟨q, hq, rfl⟩))).2.1
  have nl : ∀ q ∈ lk, q.2 ≠ nd := fun q hq => (h.ned (List.mem_append_right _ (List.mem_map.mpr ⟨q, hq, rfl⟩))).2.1
  refine ⟨⟨by rw [old p b1]; exact h.ob, get_put h.hn, by rw [old rx b4.symm]; exact h.hr, by rw [old lx b5.symm]; exact h.hl, h.ne, fun q hq => ?_, fun q hq => ?_, h.rn, h.ln, h.bd⟩, ?_, ?_⟩
  · obtain ⟨L, h1, h2⟩ := h.rok q hq
    exact ⟨L, by rw [old _ (nr q hq)]; exact h1, h2⟩
  · obtain ⟨L, h1, h2⟩ := h.lok q hq
    exact ⟨L, by rw [old _ (nl q hq)]; exact h1, h2⟩
  · rintro k a ⟨q, hq, e, L, h1, h2⟩
    exact ⟨q, hq, e, L, by rw [old _ (nr q hq)]; exact h1, h2⟩
  · rintro k a ⟨q, hq, e, L, h1, h2⟩
    exact ⟨q, hq, e, L, by rw [old _ (nl q hq)]; exact h1, h2⟩
theorem note_ok (h : PrAt (cA 0) S p nd rx lx kvs rk lk n) {r : Row} (hk : valR r = some k) (hno : getK kvs k = none) (hb : n ≤ 200) :
    Wp NoX (m_Present_m_note cA [.ref p, r.D] S) fun v S' => (∃ rk' lk', PrAt (cA 0) S' p nd rx lx (kvs ++ [(k, nD (wrN r))]) rk' lk' (n + 4) ∧ ∀ x ∈ own nd rx lx rk' lk', x ∈ own nd rx lx rk lk ∨ S.length ≤ x) ∧ Kp (own nd rx lx rk lk) S S' := by
  refine wp_def0 rfl ?_
  unfold b_Present_m_note
  rw [v_seq]
  obtain ⟨hB, hR, hL⟩ := h.toB
  have hbd := h.bd
  obtain ⟨b1, b2, b3, b4, b5, b6⟩ := h.base
  simp_arith [Ly.v_fld, Ly.v_meth, Ly.k_me2, Ly.v_make, Ly.k_mk, Ly.v_fldset, Ly.k_fs, Ly.v_fldaug, Ly.k_fa2, Ly.look1, List.mem_cons, List.not_mem_nil, or_false, true_or, or_true, -v_seq, -v_ifS, -v_for, -v_asg]
  refine Wp.call (value_ok r) ?_
  rintro v0 S0 ⟨ev, es⟩
  rw [ev, es, hk]
  have hwr : wrI r = ((wrN r : Nat) : Int) := by
    cases r <;> first | rfl | (cases hk)
  simp_arith [Ly.v_fld, Ly.v_meth, Ly.k_me2, Ly.v_make, Ly.k_mk, Ly.v_fldset, Ly.k_fs, Ly.v_fldaug, Ly.k_fa2, Ly.look1, List.mem_cons, List.not_mem_nil, or_false, true_or, or_true, valO, -v_seq, -v_ifS, -v_for, -v_asg]
  rw [v_seq]
  simp_arith [Ly.v_fld, Ly.v_meth, Ly.k_me2, Ly.v_make, Ly.k_mk, Ly.v_fldset, Ly.k_fs, Ly.v_fldaug, Ly.k_fa2, Ly.look1, List.mem_cons, List.not_mem_nil, or_false, true_or, or_true, -v_seq, -v_ifS, -v_for]
  refine Wp.call (written_ok r) ?_
  rintro v0 S0 ⟨ev, es⟩
  rw [ev, es, hwr]
  have hst : oSet (.ref nd) (valD k) (.int ((wrN r : Nat) : Int)) S = .ok () (S.set nd (.dit (kvs ++ [(k, nD (wrN r))]))) := by
    rw [oSet_dit h.hn (valD_key k) (line_big (by omega)), setK_new hno]
  simp_arith [Ly.v_fld, Ly.v_meth, Ly.k_me2, Ly.v_make, Ly.k_mk, Ly.v_fldset, Ly.k_fs, Ly.v_fldaug, Ly.k_fa2, Ly.look1, List.mem_cons, List.not_mem_nil, or_false, true_or, or_true, k_fl h.ob, prF_n, hst, -v_seq, -v_ifS, -v_for]
  obtain ⟨hB2, mR, mL⟩ := hB.setN (kvs2 := kvs ++ [(k, nD (wrN r))])
  have K2 : Kp (own nd rx lx rk lk) S (S.set nd (.dit (kvs ++ [(k, nD (wrN r))]))) := Kp.set (by simp [own])
  generalize S.set nd (.dit (kvs ++ [(k, nD (wrN r))])) = S2 at *
  rw [v_seq]
  simp_arith [Ly.v_fld, Ly.v_meth, Ly.k_me2, Ly.v_make, Ly.k_mk, Ly.v_fldset, Ly.k_fs, Ly.v_fldaug, Ly.k_fa2, Ly.look1, List.mem_cons, List.not_mem_nil, or_false, true_or, or_true, is_parts, -v_seq, -v_ifS]
  refine Wp.call (partsL_ok r (.inr rfl)) ?_
  rintro v3 S3 ⟨ev3, k3⟩
  rw [ev3]
  have hkind : Ly.kindOf r "read" = r.rd := by cases r <;> simp [Ly.kindOf, ofString_inj]
  rw [hkind]
  have hB3 := hB2.kp0 k3
  have hrd := rd_len r
  have hval := rdV_val hk
  have hS3 : S.length ≤ S3.length := Nat.le_trans K2.le k3.le
  simp_arith [Ly.v_fld, Ly.v_meth, Ly.k_me2, Ly.v_make, Ly.k_mk, Ly.v_fldset, Ly.k_fs, Ly.v_fldaug, Ly.k_fa2, Ly.look1, List.mem_cons, List.not_mem_nil, or_false, true_or, or_true, oIt, -v_seq, -v_ifS]
  refine wp_tupM nD (xs := r.rd) (fun pre l S' => (∃ o3, l = [some (.ref p), some r.D, some (valD k), o3]) ∧ (∃ rk', PrB (cA 0) S' p nd rx lx (kvs ++ [(k, nD (wrN r))]) rk' lk (n + pre.length) (n + pre.length) ∧ (∀ k2 a2, (Reg S rk k2 a2 ∨ (k2 = k ∧ a2 ∈ pre.map kN)) → Reg S' rk' k2 a2) ∧ ∀ x ∈ rk'.map (·.2), x ∈ rk.map (·.2) ∨ S.length ≤ x) ∧ (∀ k2 a2, Reg S lk k2 a2 → Reg S' lk k2 a2) ∧ Kp (own nd rx lx rk lk) S S') ⟨⟨_, rfl⟩, ⟨rk, hB3, fun k2 a2 hh => ?_, fun x hx => .inl hx⟩, fun k2 a2 hh => (mL _ _ hh).kp0 k3, K2.trans (k3.sub (by simp))⟩ ?_ ?_
  · rcases hh with hh | ⟨_, hh⟩
    · exact (mR _ _ hh).kp0 k3
    · simp at hh
  · rintro pre x post l S4 hsp ⟨⟨o3, rfl⟩, ⟨rk', hB4, g1, g2⟩, g3, K4⟩
    have hxr : kN x ∈ rdV k := by rw [hval, hsp]; simp
    have hpl : pre.length ≤ 3 := by have := congrArg List.length hsp; simp at this; omega
    obtain ⟨j, S5, S6, rk2, e1, e2, h5, h6, h7, h8, h9⟩ := regR hB4 hxr (by omega) (by omega)
    unfold lb_Present_m_note_0
    simp_arith [Ly.v_fld, Ly.v_meth, Ly.k_me2, Ly.v_make, Ly.k_mk, Ly.v_fldset, Ly.k_fs, Ly.v_fldaug, Ly.k_fa2, Ly.look1, List.mem_cons, List.not_mem_nil, or_false, true_or, or_true, k_fl hB4.ob, prF_r, hasTyC hB4.hr, e1 (nD x) rfl, e2]
    refine ⟨⟨_, rfl⟩, ⟨rk2, by simpa [Nat.add_assoc] using h5, fun k2 a2 hh => h6 k2 a2 ?_, fun y hy => ?_⟩, fun k2 a2 hh => h7 _ _ (g3 _ _ hh), ?_⟩
    · rcases hh with hh | ⟨rfl, hh⟩
      · exact .inl (g1 _ _ (.inl hh))
      · rw [List.map_append] at hh
        rcases List.mem_append.mp hh with hh | hh
        · exact .inl (g1 _ _ (.inr ⟨rfl, hh⟩))
        · simp at hh; exact .inr ⟨rfl, hh⟩
    · rcases h9 y hy with hy | hy
      · exact g2 y hy
      · exact .inr (Nat.le_trans K4.le hy)
    · refine ⟨Nat.le_trans K4.le h8.le, fun i hi hA => ?_⟩
      rw [h8.2 i (Nat.lt_of_lt_of_le hi K4.le) ?_]
      · exact K4.2 i hi hA
      · intro c
        rcases List.mem_cons.mp c with rfl | c
        · exact hA (by simp [own])
        · rcases g2 i c with c | c
          · exact hA (by simp [own] at c ⊢; exact .inr (.inr (.inr (.inl c))))
          · omega
  · rintro l S4 ⟨⟨o3, rfl⟩, ⟨rk', hB4, g1, g2⟩, g3, K4⟩
    rw [k_sq_nx]
    obtain ⟨w, hw, _⟩ := word3 (S := S) r
    have ownR : ∀ x ∈ own nd rx lx rk' lk, x ∈ own nd rx lx rk lk ∨ S.length ≤ x := by
      intro x hx
      simp only [own, List.mem_cons, List.mem_append] at hx ⊢
      rcases hx with rfl | rfl | rfl | hx | hx
      · simp
      · simp
      · simp
      · rcases g2 x hx with c | c
        · exact .inl (.inr (.inr (.inr (.inl c))))
        · exact .inr c
      · exact .inl (.inr (.inr (.inr (.inr hx))))
    have fin : ∀ {S6 : Hs} {rk2 lk2 : List (Key × Nat)} {m m' : Nat}, PrB (cA 0) S6 p nd rx lx (kvs ++ [(k, nD (wrN r))]) rk2 lk2 m m' → m ≤ n + 4 → m' ≤ n + 4 → (∀ k2 a2, (Reg S rk k2 a2 ∨ (k2 = k ∧ a2 ∈ r.rd.map kN)) → Reg S6 rk2 k2 a2) → (∀ k2 a2, (Reg S lk k2 a2 ∨ (k2 = k ∧ ldV k = some a2)) → Reg S6 lk2 k2 a2) → PrAt (cA 0) S6 p nd rx lx (kvs ++ [(k, nD (wrN r))]) rk2 lk2 (n + 4) := by
      intro S6 rk2 lk2 m m' hB6 hm hm2 c1 c2
      have hB7 := hB6.mono hm hm2
      refine ⟨hB7.ob, hB7.hn, hB7.hr, hB7.hl, hB7.ne, hB7.rok, hB7.lok, fun kv hkv a ha => (c1 _ _ ?_).all, fun kv hkv a ha => (c2 _ _ ?_).all, hB7.rn, hB7.ln, ⟨by simp; omega, hB7.bd⟩⟩
      · rcases List.mem_append.mp hkv with c | c
        · exact .inl (hR kv c a ha)
        · simp at c; subst c; rw [hval] at ha; exact .inr ⟨rfl, ha⟩
      · rcases List.mem_append.mp hkv with c | c
        · exact .inl (hL kv c a ha)
        · simp at c; subst c; exact .inr ⟨rfl, ha⟩
    have hbd4 := hB4.bd
    by_cases hl : ∃ d i a, r = .load d i a
    · obtain ⟨d, i, a, rfl⟩ := hl
      have hD0 : ∀ S, oIx (Row.load d i a).D (.int 0) S = .ok (.str "load") S := fun S => ix0'
      have hD2 : ∀ S, oIx (Row.load d i a).D (.int 2) S = .ok (nD i) S := fun S => ix2'
      have hld : ldV k = some (kN i) := ldV_val hk
      obtain ⟨j, S5, S6, lk2, e1, e2, h5, h6, h7, h8, h9⟩ := regL hB4 hld (by omega) (by omega)
      simp_arith [Ly.v_fld, Ly.v_meth, Ly.k_me2, Ly.v_make, Ly.k_mk, Ly.v_fldset, Ly.k_fs, Ly.v_fldaug, Ly.k_fa2, Ly.look1, List.mem_cons, List.not_mem_nil, or_false, true_or, or_true, hD0, oEq_str, k_fl hB4.ob, prF_l, hasTyC hB4.hl, hD2, e1 (nD i) rfl, e2]
      have hb6 := h5.bd
      refine ⟨⟨rk', lk2, fin h5 (by simp [Row.rd]) (by simp [Row.rd]) (fun k2 a2 hh => h7 _ _ (g1 k2 a2 hh)) (fun k2 a2 hh => h6 k2 a2 ?_), fun x hx => ?_⟩, ?_⟩
      · rcases hh with hh | ⟨rfl, hh⟩
        · exact .inl (g3 _ _ hh)
        · rw [hld] at hh; injection hh with hh; exact .inr ⟨rfl, hh.symm⟩
      · simp only [own, List.mem_cons, List.mem_append] at hx ⊢
        rcases hx with rfl | rfl | rfl | hx | hx
        · simp
        · simp
        · simp
        · rcases g2 x hx with c | c
          · exact .inl (.inr (.inr (.inr (.inl c))))
          · exact .inr c
        · rcases h9 x hx with c | c
          · exact .inl (.inr (.inr (.inr (.inr c))))
          · exact .inr (Nat.le_trans K4.le c)
      · refine ⟨Nat.le_trans K4.le h8.le, fun i hi hA => ?_⟩
        rw [h8.2 i (Nat.lt_of_lt_of_le hi K4.le) ?_]
        · exact K4.2 i hi hA
        · intro c
          rcases List.mem_cons.mp c with rfl | c
          · exact hA (by simp [own])
          · exact hA (by simp [own] at c ⊢; exact .inr (.inr (.inr (.inr c))))
    · have hw2 : w ≠ "load" := by
        rintro rfl
        cases r <;> first | (exact hl ⟨_, _, _, rfl⟩) | (have := hw S; simp [Row.D, ix0', ofString_inj] at this)
      simp_arith [Ly.v_fld, Ly.v_meth, Ly.k_me2, Ly.v_make, Ly.k_mk, Ly.v_fldset, Ly.k_fs, Ly.v_fldaug, Ly.k_fa2, Ly.look1, List.mem_cons, List.not_mem_nil, or_false, true_or, or_true, hw, oEq_str, hw2]
      refine ⟨⟨rk', lk, fin hB4 (by omega) (by omega) g1 (fun k2 a2 hh => ?_), ownR⟩, K4⟩
      · rcases hh with hh | ⟨rfl, hh⟩
        · exact g3 _ _ hh
        · exfalso
          rw [ldV_val hk] at hh
          cases r <;> first | (exact hl ⟨_, _, _, rfl⟩) | (cases hh)
end
end GK45
set_option Elab.async false
set_option linter.all false
set_option maxRecDepth 100000
namespace GK45
open PySem L2 Ly
open PySem.Spec hiding Row
open PyProof.Rows hiding St
section
variable {W : Nat → Nat} {pre post b : List Row} {r : Row} {T : Tb} {k : Vl} {m : Nat}
def gT (T : Tb) : List (Vl × D) := T.map fun x => (x.1, nD x.2)
structure TI (W : Nat → Nat) (pre : List Row) (T : Tb) : Prop where
  row : ∀ x ∈ T, (∃ r ∈ pre, valR r = some x.1 ∧ r.wr = some x.2) ∧ W x.2 = 1
theorem getK_gT : getK (gT T) k = (lookT T k).map nD := by
  unfold getK gT lookT
  induction T with
  | nil => rfl
  | cons a T ih =>
    rw [List.map_cons]
    by_cases e : a.1 = k
    · rw [List.find?_cons_of_pos (by simpa using e), List.find?_cons_of_pos (by simpa using e)]; rfl
    · rw [List.find?_cons_of_neg (by simpa using e), List.find?_cons_of_neg (by simpa using e)]; exact ih
theorem rdV_kN (h : valR r = some k) {w : Key} (hw : w ∈ rdV k) : ∃ n : Nat, w = kN n := by
  rw [rdV_val h] at hw
  obtain ⟨n, _, rfl⟩ := List.mem_map.mp hw
  exact ⟨n, rfl⟩
def cntR (b : List Row) (d : Nat) : Nat := (b.filter fun r => decide (r.wr = some d)).length
theorem cntR_two {d : Nat} (h1 : ∃ r ∈ pre, r.wr = some d) (h2 : r.wr = some d) : 2 ≤ cntR (pre ++ r :: post) d := by
  unfold cntR
  obtain ⟨r0, hr, e⟩ := h1
  rw [List.filter_append, List.filter_cons_of_pos (by simpa using h2), List.length_append, List.length_cons]
  have : 0 < (pre.filter fun r => decide (r.wr = some d)).length := List.length_pos_of_mem (List.mem_filter.mpr ⟨hr, by simpa using e⟩)
  omega
theorem go_gT (hT : TI W pre T) (hW : ∀ d, cntR (pre ++ r :: post) d ≤ W d) : gT (T.filter (staysP r)) = goV (gT T) r := by
  have key : ∀ x ∈ T, ∀ d : Nat, r.wr = some d → x.2 ≠ d := by
    rintro x hx d hd rfl
    obtain ⟨⟨r0, hr, _, e⟩, h1⟩ := hT.row x hx
    have := cntR_two (post := post) ⟨r0, hr, e⟩ hd
    have := hW x.2
    omega
  have m1 : cutR (gT T) (.inl (-1)) = gT T := by
    unfold cutR
    rw [List.filter_eq_self]
    intro y hy
    obtain ⟨x, hx, rfl⟩ := List.mem_map.mp hy
    obtain ⟨⟨r0, hr, e, _⟩, _⟩ := hT.row x hx
    cases hh : hasK (rdV x.1) (.inl (-1)) with
    | false => rfl
    | true =>
      obtain ⟨n, e2⟩ := rdV_kN e (hasK_iff.mp hh)
      injection e2 with e2
      omega
  have gen : ∀ d : Nat, r.wr = some d → staysP r = (fun x : Vl × Nat => decide (x.2 ≠ d) && !hasK (rdV x.1) (kN d)) → gT (T.filter (staysP r)) = cutR (gT T) (kN d) := by
    intro d hd e
    unfold gT cutR
    rw [List.filter_map, e]
    congr 1
    refine List.filter_congr fun x hx => ?_
    simp only [Function.comp]
    rw [decide_eq_true (key x hx d hd), Bool.true_and]
  cases r with
  | store i a v =>
    show gT (T.filter (staysP (.store i a v))) = cutL (cutR (gT T) (.inl (-1))) (kN i)
    rw [m1]
    unfold gT cutL
    rw [List.filter_map]
    congr 1
    refine List.filter_congr fun x hx => ?_
    simp [staysP]
  | const d n => exact gen d rfl rfl
  | copy d a => exact gen d rfl rfl
  | op s d a b => exact gen d rfl rfl
  | select d c a b => exact gen d rfl rfl
  | load d i a => exact gen d rfl rfl
  | out a =>
    show gT (T.filter (staysP (.out a))) = cutR (gT T) (.inl (-1))
    rw [m1]; congr 1; exact List.filter_eq_self.mpr fun _ _ => rfl
  | jump t =>
    show gT (T.filter (staysP (.jump t))) = cutR (gT T) (.inl (-1))
    rw [m1]; congr 1; exact List.filter_eq_self.mpr fun _ _ => rfl
  | branch a t u =>
    show gT (T.filter (staysP (.branch a t u))) = cutR (gT T) (.inl (-1))
    rw [m1]; congr 1; exact List.filter_eq_self.mpr fun _ _ => rfl
  | stop a =>
    show gT (T.filter (staysP (.stop a))) = cutR (gT T) (.inl (-1))
    rw [m1]; congr 1; exact List.filter_eq_self.mpr fun _ _ => rfl
theorem TI.sub (h : TI W pre T) : TI W (pre ++ [r]) (T.filter (staysP r)) := ⟨fun x hx => by
  obtain ⟨⟨r0, h1, h2⟩, h3⟩ := h.row x (List.mem_filter.mp hx).1
  exact ⟨⟨r0, List.mem_append_left _ h1, h2⟩, h3⟩⟩
theorem TI.step {st : Tb × List Row} (h : TI W pre st.1) : TI W (pre ++ [r]) (stepC W st r).1 := by
  unfold stepC
  cases hv : valR r with
  | none => exact h.sub
  | some k =>
    simp only
    cases lookT st.1 k with
    | some n => exact h.sub
    | none =>
      simp only
      by_cases hc : wrN r ∉ r.rd ∧ W (wrN r) = 1
      · rw [if_pos hc]
        refine ⟨fun x hx => ?_⟩
        rcases List.mem_append.mp hx with hx | hx
        · exact (TI.sub h).row x hx
        · simp at hx
          subst hx
          refine ⟨⟨r, by simp, hv, ?_⟩, hc.2⟩
          cases r <;> first | rfl | (cases hv)
      · rw [if_neg hc, List.append_nil]; exact h.sub
end
end GK45
set_option Elab.async false
set_option linter.all false
set_option maxRecDepth 100000
namespace GK45
open PySem L2 Ly
open PySem.Spec hiding Row
open PyProof.Rows hiding St
local macro_rules | `(tactic| simp_arith [$ls,*]) => `(tactic| simp only [Ly.line_le, Ly.atX_no, Ly.v_ok, Ly.v_bad, Ly.v_bind, Ly.k_bd, Ly.v_at, Ly.v_bin, Ly.k_bi, Ly.k_bi2, Ly.v_var, Ly.v_c, Ly.v_un, Ly.k_un, Ly.v_if, Ly.k_ife, Ly.v_and, Ly.k_and, Ly.k_and2, Ly.v_or, Ly.k_or, Ly.k_or2, Ly.v_tup, Ly.k_tup, Ly.v_lst, Ly.k_lst, Ly.v_call, Ly.k_ca, Ly.v_fn, Ly.k_fn, Ly.v_bm, Ly.k_bm, Ly.k_bm2, Ly.v_sl, Ly.k_sl, Ly.k_sl2, Ly.k_sl3, Ly.v_ixK, Ly.k_ixk, Ly.v_inK, Ly.k_ink, Ly.v_notinK, Ly.k_nink, Ly.v_getK2, Ly.k_gk2, Ly.k_gk, Ly.v_get2, Ly.k_g2, Ly.k_g22, Ly.k_g23, Ly.v_nil, Ly.v_cons, Ly.k_co, Ly.k_co2, Ly.v_no, Ly.v_some, Ly.k_so, Ly.k_cm, Ly.v_cmp, Ly.v_tru, Ly.k_tr, Ly.v_notB, Ly.k_no, Ly.v_andB, Ly.k_an, Ly.v_orB, Ly.k_orb, Ly.v_yes, Ly.v_inKB, Ly.k_inkB, Ly.v_notinKB, Ly.k_ninkB, Ly.v_set, Ly.k_st, Ly.v_expr, Ly.k_ex, Ly.v_ret, Ly.k_re, Ly.v_retN, Ly.v_pass, Ly.v_brk, Ly.v_cnt, Ly.v_seq, Ly.k_sq_nx, Ly.k_sq_rt, Ly.k_sq_bk, Ly.k_sq_ct, Ly.v_ifS, Ly.k_ifs, Ly.v_asg, Ly.k_as, Ly.k_as2, Ly.v_aug, Ly.k_au, Ly.v_for, Ly.k_fo, Ly.v_it, Ly.k_it, Ly.k_ij, Ly.v_rng1, Ly.v_rng2, Ly.v_enum, Ly.v_zip, Ly.v_ez, Ly.v_gN, Ly.v_gsN, Ly.v_gsC, Ly.k_gc, Ly.v_gT, Ly.v_gTw, Ly.v_gSb, Ly.k_gsb, Ly.k_gsb2, Ly.k_gsb3, Ly.k_en_rt, Ly.k_en_nx, Ly.k_tu_nx, Ly.k_tu_ct, Ly.k_tu_bk, Ly.k_tu_rt, Ly.v_lc, Ly.k_lc, Ly.v_augI, Ly.k_ag, Ly.k_ag2, Ly.k_ag3, Ly.k_ag4, Ly.k_ag5, Ly.v_del, Ly.k_dl, Ly.k_dl2, Ly.v_setd, Ly.v_pop2, Ly.k_d3, Ly.k_d32, Ly.k_d33, Ly.v_get1, Ly.k_g1, Ly.k_g12, Ly.v_rg1, Ly.k_rg, Ly.v_rg2, Ly.k_rg2, Ly.k_rg22, Ly.v_dicK, Ly.v_dicT, Ly.v_dc, Ly.k_dc, List.getElem?_cons_zero, List.getElem?_cons_succ, List.set_cons_zero, List.set_cons_succ, List.length_cons, List.length_nil, List.map_cons, List.map_nil, List.cons_append, List.nil_append, List.replicate, if_true, if_false, Bool.false_eq_true, Bool.not_true, Bool.not_false, Bool.true_and, Bool.false_and, decide_true, decide_false, decide_eq_true_eq, Nat.zero_add, Nat.reduceAdd, Nat.reduceLeDiff, true_and, and_true, $ls,*])
section
variable {S S' S1 S2 : Hs} {cA : Nat → Addr} {p nd rx lx j tq q : Nat} {kvs L : List (Vl × D)} {tks : List (Key × D)} {W : Nat → Nat} {b : List Row} {r : Row} {k : Vl}
theorem inN_none (h : S[nd]? = some (.dit kvs)) : oInN .non (.ref nd) S = .ok (.bl false) S := by simp [oInN, h]
theorem inN_some (h : S[nd]? = some (.dit kvs)) : oInN (valD k) (.ref nd) S = .ok (.bl (getK kvs k).isSome) S := by
  have : cIn (valD k) (.ref nd) S = some (getK kvs k).isSome := by
    simp only [cIn, h, dGet, valD_key, Option.map_some]
  simp only [oInN, oIn, this]
theorem oIx_dit {y d : D} {k : List Key} (h : S[j]? = some (.dit kvs)) (hk : y.tkey = some k) (hg : getK kvs k = some d) : oIx (.ref j) y S = .ok d S := by
  simp only [oIx, h, dGet, hk, hg]
theorem notin_natsT {L : List Nat} {n : Nat} : oNotIn (nD n) (.tup (nDs L)) S = .ok (.bl (!decide (n ∈ L))) S := by
  have e : cIn (nD n) (.tup (nDs L)) S = some (decide (n ∈ L)) := by
    have hf : (flatD (nD n) && (nDs L).all flatD) = true := by rw [flat_nats]; rfl
    simp only [cIn, hf, if_true, any_nats]
  simp only [oNotIn, e]
theorem make_ok : Wp NoX (m_Present_m___init__ cA [.ref S.length] (S ++ [.ins (cA 0) []])) fun v S' => v = .non ∧ PrAt (cA 0) S' S.length (S.length + 1) (S.length + 2) (S.length + 3) [] [] [] 0 ∧ Kp [] S S' ∧ S.length + 4 = S'.length := by
  refine wp_def0 rfl ?_
  unfold b_Present_m___init__
  have pd1 : ∀ d, putD "noted" d [] = [(("noted" : Str), d)] := fun d => by simp [putD]
  have pd2 : ∀ d e, putD "readers" d [(("noted" : Str), e)] = [(("noted" : Str), e), ("readers", d)] := fun d e => by simp [putD, ofString_inj]
  have pd3 : ∀ d e f, putD "loads" d [(("noted" : Str), e), ("readers", f)] = [(("noted" : Str), e), ("readers", f), ("loads", d)] := fun d e f => by simp [putD, ofString_inj]
  have a1 : ((S ++ [O.ins (cA 0) []]) ++ [O.dit []])[S.length]? = some (.ins (cA 0) []) := by
    rw [List.getElem?_append_left (by simp)]; exact get_end
  rw [v_seq]
  simp_arith [Ly.v_fld, Ly.v_meth, Ly.k_me2, Ly.v_make, Ly.k_mk, Ly.v_fldset, Ly.k_fs, Ly.v_fldaug, Ly.k_fa2, Ly.look1, List.mem_cons, List.not_mem_nil, or_false, true_or, or_true, k_fs2 a1, pd1, -v_seq]
  have K1 : Kp [] S (((S ++ [O.ins (cA 0) []]) ++ [O.dit []]).set S.length (.ins (cA 0) [("noted", .ref (S.length + 1))])) := (Kp.new.trans Kp.new).setNew (Nat.le_refl _)
  have p1 : (((S ++ [O.ins (cA 0) []]) ++ [O.dit []]).set S.length (.ins (cA 0) [("noted", .ref (S.length + 1))]))[S.length]? = some (.ins (cA 0) [("noted", .ref (S.length + 1))]) := List.getElem?_set_self (by simp)
  have d1 : (((S ++ [O.ins (cA 0) []]) ++ [O.dit []]).set S.length (.ins (cA 0) [("noted", .ref (S.length + 1))]))[S.length + 1]? = some (.dit []) := by
    rw [List.getElem?_set_ne (by omega)]
    have : (S ++ [O.ins (cA 0) []]).length = S.length + 1 := by simp
    rw [← this]; exact get_end
  have l1 : (((S ++ [O.ins (cA 0) []]) ++ [O.dit []]).set S.length (.ins (cA 0) [("noted", .ref (S.length + 1))])).length = S.length + 2 := by simp
  simp only [List.length_append, List.length_singleton] at *
  generalize ((S ++ [O.ins (cA 0) []]) ++ [O.dit []]).set S.length (.ins (cA 0) [("noted", .ref (S.length + 1))]) = S1 at *
  have q1 := Kp.get (A := []) (Kp.new (g := [O.dic []])) p1 (by simp)
  rw [v_seq]
  simp_arith [Ly.v_fld, Ly.v_meth, Ly.k_me2, Ly.v_make, Ly.k_mk, Ly.v_fldset, Ly.k_fs, Ly.v_fldaug, Ly.k_fa2, Ly.look1, List.mem_cons, List.not_mem_nil, or_false, true_or, or_true, k_fs2 q1, pd2, l1, -v_seq]
  have K2 : Kp [] S ((S1 ++ [O.dic []]).set S.length (.ins (cA 0) [("noted", .ref (S.length + 1)), ("readers", .ref (S.length + 2))])) := (K1.trans Kp.new).setNew (Nat.le_refl _)
  have p2 : ((S1 ++ [O.dic []]).set S.length (.ins (cA 0) [("noted", .ref (S.length + 1)), ("readers", .ref (S.length + 2))]))[S.length]? = some (.ins (cA 0) [("noted", .ref (S.length + 1)), ("readers", .ref (S.length + 2))]) := get_put q1
  have d2 : ((S1 ++ [O.dic []]).set S.length (.ins (cA 0) [("noted", .ref (S.length + 1)), ("readers", .ref (S.length + 2))]))[S.length + 1]? = some (.dit []) := by
    rw [List.getElem?_set_ne (by omega), List.getElem?_append_left (by omega)]; exact d1
  have r2 : ((S1 ++ [O.dic []]).set S.length (.ins (cA 0) [("noted", .ref (S.length + 1)), ("readers", .ref (S.length + 2))]))[S.length + 2]? = some (.dic []) := by
    rw [List.getElem?_set_ne (by omega), ← l1]; exact get_end
  have l2 : ((S1 ++ [O.dic []]).set S.length (.ins (cA 0) [("noted", .ref (S.length + 1)), ("readers", .ref (S.length + 2))])).length = S.length + 3 := by simp [l1]
  generalize (S1 ++ [O.dic []]).set S.length (.ins (cA 0) [("noted", .ref (S.length + 1)), ("readers", .ref (S.length + 2))]) = S2 at *
  have q2 := Kp.get (A := []) (Kp.new (g := [O.dic []])) p2 (by simp)
  simp_arith [Ly.v_fld, Ly.v_meth, Ly.k_me2, Ly.v_make, Ly.k_mk, Ly.v_fldset, Ly.k_fs, Ly.v_fldaug, Ly.k_fa2, Ly.look1, List.mem_cons, List.not_mem_nil, or_false, true_or, or_true, k_fs2 q2, pd3, l2]
  refine ⟨by decide, by decide, by decide, ⟨get_put q2, ?_, ?_, ?_, ?_, fun q hq => (by cases hq), fun q hq => (by cases hq), fun kv hk => (by cases hk), fun kv hk => (by cases hk), by simp, by simp, ⟨by simp, by simp⟩⟩, (K2.trans Kp.new).setNew (Nat.le_refl _), by rw [List.length_set, List.length_append, l2]; rfl⟩
  · rw [List.getElem?_set_ne (by omega), List.getElem?_append_left (by omega)]; exact d2
  · rw [List.getElem?_set_ne (by omega), List.getElem?_append_left (by omega)]; exact r2
  · rw [List.getElem?_set_ne (by omega), ← l2]; exact get_end
  · simp
structure ShAt (cA : Nat → Addr) (W : Nat → Nat) (S0 S : Hs) (p q : Nat) (pre : List Row) (st : Tb × List Row) : Prop where
  pr : ∃ nd rx lx rk lk n, PrAt (cA 0) S p nd rx lx (gT st.1) rk lk n ∧ n ≤ 4 * pre.length ∧ ∀ x ∈ own nd rx lx rk lk, S0.length ≤ x ∧ x ≠ q
  rows : S[q]? = some (.lst (st.2.map Row.D))
  hq : S0.length ≤ q
  hp : S0.length ≤ p ∧ p ≠ q
  ti : TI W pre st.1
  len : st.2.length = pre.length
  kp : Kp [] S0 S
theorem row_law {S0 : Hs} {pre post : List Row} {st : Tb × List Row} {o4 o5 : Option D} {bD : D} (hb : pre.length ≤ 20) (hW : ∀ d, cntR (pre ++ r :: post) d ≤ W d) (ht : S0[tq]? = some (.dic tks)) (htk : ∀ d, r.wr = some d → getK tks (kN d) = some (nD (W d)))
    (h : ShAt cA W S0 S p q pre st) : Wp NoX (lb__shared_0 cA [some bD, some (.ref tq), some (.ref p), some (.ref q), some r.D, o5] S) fun f S' => (∃ o5, f = .nx [some bD, some (.ref tq), some (.ref p), some (.ref q), some r.D, o5] ∨ f = .ct [some bD, some (.ref tq), some (.ref p), some (.ref q), some r.D, o5]) ∧ ShAt cA W S0 S' p q (pre ++ [r]) (stepC W st r) := by
  obtain ⟨⟨nd, rx, lx, rk, lk, n, hP, hn, hown⟩, hrows, hq, ⟨hp, hpq⟩, hti, hlen, hkp⟩ := h
  have hqS := Real.lt hrows
  unfold lb__shared_0
  rw [v_seq]
  simp_arith [Ly.v_fld, Ly.v_meth, Ly.k_me2, Ly.v_make, Ly.k_mk, Ly.v_fldset, Ly.k_fs, Ly.v_fldaug, Ly.k_fa2, Ly.look1, List.mem_cons, List.not_mem_nil, or_false, true_or, or_true, -v_seq, -v_ifS]
  refine Wp.call (value_ok r) ?_
  rintro v0 _ ⟨ev, es⟩
  rw [ev, es]
  have app : ∀ d : D, PrAt (cA 0) (S.set q (.lst (st.2.map Row.D ++ [d]))) p nd rx lx (gT st.1) rk lk n ∧ Kp [q] S (S.set q (.lst (st.2.map Row.D ++ [d]))) := fun d => by
    have K : Kp [q] S (S.set q (.lst (st.2.map Row.D ++ [d]))) := Kp.set (by simp)
    refine ⟨hP.kp K fun x hx => ?_, K⟩
    rcases List.mem_append.mp hx with hx | hx
    · simp at hx
      rcases hx with rfl | rfl | rfl | rfl
      · simpa using hpq
      · simpa using (hown _ (by simp [own])).2
      · simpa using (hown _ (by simp [own])).2
      · simpa using (hown _ (by simp [own])).2
    · simpa using (hown x (by simp only [own, List.mem_cons]; exact .inr (.inr (.inr hx)))).2
  have hap : ∀ d, oAppend (.ref q) [d] S = .ok .non (S.set q (.lst (st.2.map Row.D ++ [d]))) := fun d => oAppend_lst hrows (by rw [List.length_map, hlen]; exact line_big (by omega))
  have hgo := go_gT (post := post) hti hW
  have goStep : ∀ {S1 : Hs}, PrAt (cA 0) S1 p nd rx lx (gT st.1) rk lk n → Wp NoX (m_Present_m_go cA [.ref p, r.D] S1) fun v S' => (∃ rk' lk', PrAt (cA 0) S' p nd rx lx (gT (st.1.filter (staysP r))) rk' lk' n ∧ ∀ x ∈ own nd rx lx rk' lk', x ∈ own nd rx lx rk lk) ∧ Kp (own nd rx lx rk lk) S1 S' := fun {S1} h1 => by
    refine (go_ok h1 r).mono (fun _ _ _ _ h => h) ?_
    rintro v S' ⟨⟨rk', lk', h2, h3⟩, k⟩
    rw [hgo]
    refine ⟨⟨rk', lk', h2, fun x hx => ?_⟩, k.sub (by simp [own])⟩
    simp only [own, List.mem_cons] at hx ⊢
    rcases hx with hx | hx | hx | hx
    · exact .inl hx
    · exact .inr (.inl hx)
    · exact .inr (.inr (.inl hx))
    · exact .inr (.inr (.inr (h3 x hx)))
  have fin : ∀ {d : Row} {S2 : Hs} {T2 : Tb} {rk' lk' : List (Key × Nat)} {n2 : Nat}, PrAt (cA 0) (S.set q (.lst (st.2.map Row.D ++ [d.D]))) p nd rx lx (gT st.1) rk lk n → Kp [q] S (S.set q (.lst (st.2.map Row.D ++ [d.D]))) → PrAt (cA 0) S2 p nd rx lx (gT T2) rk' lk' n2 → (∀ x ∈ own nd rx lx rk' lk', x ∈ own nd rx lx rk lk ∨ (S.set q (.lst (st.2.map Row.D ++ [d.D]))).length ≤ x) → Kp (own nd rx lx rk lk) (S.set q (.lst (st.2.map Row.D ++ [d.D]))) S2 → n2 ≤ 4 * (pre.length + 1) → TI W (pre ++ [r]) T2 → ShAt cA W S0 S2 p q (pre ++ [r]) (T2, st.2 ++ [d]) := by
    intro d S2 T2 rk' lk' n2 hA kA hP2 ho2 k2 hn2 hti2
    have K0 : Kp [] S0 (S.set q (.lst (st.2.map Row.D ++ [d.D]))) := hkp.after kA (by simpa using hq)
    refine ⟨⟨nd, rx, lx, rk', lk', n2, hP2, by simpa using hn2, fun x hx => ?_⟩, ?_, hq, ⟨hp, hpq⟩, hti2, by simp [hlen], K0.after k2 fun x hx hlt => absurd hlt (by have := (hown x hx).1; omega)⟩
    · rcases ho2 x hx with c | c
      · exact hown x c
      · have := K0.le
        rw [List.length_set] at c
        exact ⟨by have := hkp.le; omega, by omega⟩
    · rw [k2.get (get_put hrows) fun c => (hown q c).2 rfl]
      simp
  cases hv : valR r with
  | none =>
    have est : stepC W st r = (st.1.filter (staysP r), st.2 ++ [r]) := by unfold stepC; rw [hv]
    rw [est]
    simp_arith [Ly.v_fld, Ly.v_meth, Ly.k_me2, Ly.v_make, Ly.k_mk, Ly.v_fldset, Ly.k_fs, Ly.v_fldaug, Ly.k_fa2, Ly.look1, List.mem_cons, List.not_mem_nil, or_false, true_or, or_true, valO, -v_seq, -v_ifS]
    rw [v_seq]
    simp_arith [Ly.v_fld, Ly.v_meth, Ly.k_me2, Ly.v_make, Ly.k_mk, Ly.v_fldset, Ly.k_fs, Ly.v_fldaug, Ly.k_fa2, Ly.look1, List.mem_cons, List.not_mem_nil, or_false, true_or, or_true, k_fl hP.ob, prF_n, inN_none hP.hn, -v_seq]
    rw [v_seq]
    simp_arith [Ly.v_fld, Ly.v_meth, Ly.k_me2, Ly.v_make, Ly.k_mk, Ly.v_fldset, Ly.k_fs, Ly.v_fldaug, Ly.k_fa2, Ly.look1, List.mem_cons, List.not_mem_nil, or_false, true_or, or_true, hasTy_lst hrows, hap, -v_seq, -v_ifS]
    obtain ⟨hA, kA⟩ := app r.D
    rw [v_seq]
    simp_arith [Ly.v_fld, Ly.v_meth, Ly.k_me2, Ly.v_make, Ly.k_mk, Ly.v_fldset, Ly.k_fs, Ly.v_fldaug, Ly.k_fa2, Ly.look1, List.mem_cons, List.not_mem_nil, or_false, true_or, or_true, k_me hA.ob, pr_noM (.inr (.inl rfl)), -v_seq, -v_ifS]
    refine Wp.call (goStep hA) ?_
    rintro v1 S2 ⟨⟨rk', lk', hP2, ho2⟩, k2⟩
    simp_arith [Ly.v_fld, Ly.v_meth, Ly.k_me2, Ly.v_make, Ly.k_mk, Ly.v_fldset, Ly.k_fs, Ly.v_fldaug, Ly.k_fa2, Ly.look1, List.mem_cons, List.not_mem_nil, or_false, true_or, or_true, show ∀ S, oIsNot .non .non S = .ok (.bl false) S from fun _ => rfl]
    exact ⟨⟨_, .inl rfl⟩, fin (d := r) hA kA hP2 (fun x hx => .inl (ho2 x hx)) k2 (by omega) hti.sub⟩
  | some k =>
    have hwr : r.wr = some (wrN r) ∧ wrI r = ((wrN r : Nat) : Int) := by
      cases r <;> first | exact ⟨rfl, rfl⟩ | (cases hv)
    cases hl : lookT st.1 k with
    | some m =>
      have est : stepC W st r = (st.1.filter (staysP r), st.2 ++ [.copy (wrN r) m]) := by unfold stepC; rw [hv]; simp only [hl]
      rw [est]
      have hg : getK (gT st.1) k = some (nD m) := by rw [getK_gT, hl]; rfl
      simp_arith [Ly.v_fld, Ly.v_meth, Ly.k_me2, Ly.v_make, Ly.k_mk, Ly.v_fldset, Ly.k_fs, Ly.v_fldaug, Ly.k_fa2, Ly.look1, List.mem_cons, List.not_mem_nil, or_false, true_or, or_true, valO, -v_seq, -v_ifS]
      rw [v_seq]
      simp_arith [Ly.v_fld, Ly.v_meth, Ly.k_me2, Ly.v_make, Ly.k_mk, Ly.v_fldset, Ly.k_fs, Ly.v_fldaug, Ly.k_fa2, Ly.look1, List.mem_cons, List.not_mem_nil, or_false, true_or, or_true, k_fl hP.ob, prF_n, inN_some hP.hn, hg, Option.isSome_some, -v_seq]
      rw [v_seq]
      simp_arith [Ly.v_fld, Ly.v_meth, Ly.k_me2, Ly.v_make, Ly.k_mk, Ly.v_fldset, Ly.k_fs, Ly.v_fldaug, Ly.k_fa2, Ly.look1, List.mem_cons, List.not_mem_nil, or_false, true_or, or_true, hasTy_lst hrows, -v_seq, -v_ifS]
      refine Wp.call (written_ok r) ?_
      rintro v0 _ ⟨ev, es⟩
      rw [ev, es, hwr.2]
      simp_arith [Ly.v_fld, Ly.v_meth, Ly.k_me2, Ly.v_make, Ly.k_mk, Ly.v_fldset, Ly.k_fs, Ly.v_fldaug, Ly.k_fa2, Ly.look1, List.mem_cons, List.not_mem_nil, or_false, true_or, or_true, k_fl hP.ob, prF_n, oIx_dit hP.hn (valD_key k) hg, hasTy_lst hrows, hap, -v_seq, -v_ifS]
      obtain ⟨hA, kA⟩ := app (.tup [.str "copy", .int ((wrN r : Nat) : Int), nD m])
      rw [v_seq]
      simp_arith [Ly.v_fld, Ly.v_meth, Ly.k_me2, Ly.v_make, Ly.k_mk, Ly.v_fldset, Ly.k_fs, Ly.v_fldaug, Ly.k_fa2, Ly.look1, List.mem_cons, List.not_mem_nil, or_false, true_or, or_true, k_me hA.ob, pr_noM (.inr (.inl rfl)), -v_seq, -v_ifS]
      refine Wp.call (goStep hA) ?_
      rintro v1 S2 ⟨⟨rk', lk', hP2, ho2⟩, k2⟩
      simp_arith [Ly.v_fld, Ly.v_meth, Ly.k_me2, Ly.v_make, Ly.k_mk, Ly.v_fldset, Ly.k_fs, Ly.v_fldaug, Ly.k_fa2, Ly.look1, List.mem_cons, List.not_mem_nil, or_false, true_or, or_true]
      exact ⟨⟨_, .inr rfl⟩, fin (d := .copy (wrN r) m) hA kA hP2 (fun x hx => .inl (ho2 x hx)) k2 (by omega) hti.sub⟩
    | none =>
      have est : stepC W st r = (st.1.filter (staysP r) ++ (if wrN r ∉ r.rd ∧ W (wrN r) = 1 then [(k, wrN r)] else []), st.2 ++ [r]) := by unfold stepC; rw [hv]; simp only [hl]
      have hti2 := TI.step (r := r) hti
      rw [est] at hti2 ⊢
      generalize hT2 : st.1.filter (staysP r) ++ (if wrN r ∉ r.rd ∧ W (wrN r) = 1 then [(k, wrN r)] else []) = T2 at hti2 ⊢
      have hg : getK (gT st.1) k = none := by rw [getK_gT, hl]; rfl
      simp_arith [Ly.v_fld, Ly.v_meth, Ly.k_me2, Ly.v_make, Ly.k_mk, Ly.v_fldset, Ly.k_fs, Ly.v_fldaug, Ly.k_fa2, Ly.look1, List.mem_cons, List.not_mem_nil, or_false, true_or, or_true, valO, -v_seq, -v_ifS]
      rw [v_seq]
      simp_arith [Ly.v_fld, Ly.v_meth, Ly.k_me2, Ly.v_make, Ly.k_mk, Ly.v_fldset, Ly.k_fs, Ly.v_fldaug, Ly.k_fa2, Ly.look1, List.mem_cons, List.not_mem_nil, or_false, true_or, or_true, k_fl hP.ob, prF_n, inN_some hP.hn, hg, Option.isSome_none, -v_seq]
      rw [v_seq]
      simp_arith [Ly.v_fld, Ly.v_meth, Ly.k_me2, Ly.v_make, Ly.k_mk, Ly.v_fldset, Ly.k_fs, Ly.v_fldaug, Ly.k_fa2, Ly.look1, List.mem_cons, List.not_mem_nil, or_false, true_or, or_true, hasTy_lst hrows, hap, -v_seq, -v_ifS]
      obtain ⟨hA, kA⟩ := app r.D
      rw [v_seq]
      simp_arith [Ly.v_fld, Ly.v_meth, Ly.k_me2, Ly.v_make, Ly.k_mk, Ly.v_fldset, Ly.k_fs, Ly.v_fldaug, Ly.k_fa2, Ly.look1, List.mem_cons, List.not_mem_nil, or_false, true_or, or_true, k_me hA.ob, pr_noM (.inr (.inl rfl)), -v_seq, -v_ifS]
      refine Wp.call (goStep hA) ?_
      rintro v1 S2 ⟨⟨rk', lk', hP2, ho2⟩, k2⟩
      have K2 : Kp [] S0 S2 := (hkp.after kA (by simpa using hq)).after k2 fun x hx hlt => absurd hlt (by have := (hown x hx).1; omega)
      have ht2 := K2.get ht (by simp)
      simp_arith [Ly.v_fld, Ly.v_meth, Ly.k_me2, Ly.v_make, Ly.k_mk, Ly.v_fldset, Ly.k_fs, Ly.v_fldaug, Ly.k_fa2, Ly.look1, List.mem_cons, List.not_mem_nil, or_false, true_or, or_true, show ∀ S, oIsNot (valD k) .non S = .ok (.bl true) S from fun _ => rfl, -v_seq]
      refine Wp.call (written_ok r) ?_
      rintro v0 _ ⟨ev, es⟩
      rw [ev, es, hwr.2]
      have hix : oIx (.ref tq) (.int ((wrN r : Nat) : Int)) S2 = .ok (nD (W (wrN r))) S2 := oIx_dic ht2 rfl (htk _ hwr.1)
      have e1 : oEq (nD (W (wrN r))) (.int 1) S2 = .ok (.bl (decide (W (wrN r) = 1))) S2 := by
        rw [oEq_int]; congr 2; exact decide_eq_decide.mpr (by omega)
      simp_arith [Ly.v_fld, Ly.v_meth, Ly.k_me2, Ly.v_make, Ly.k_mk, Ly.v_fldset, Ly.k_fs, Ly.v_fldaug, Ly.k_fa2, Ly.look1, List.mem_cons, List.not_mem_nil, or_false, true_or, or_true, hix, e1, -v_seq]
      by_cases hw1 : W (wrN r) = 1
      · simp_arith [Ly.v_fld, Ly.v_meth, Ly.k_me2, Ly.v_make, Ly.k_mk, Ly.v_fldset, Ly.k_fs, Ly.v_fldaug, Ly.k_fa2, Ly.look1, List.mem_cons, List.not_mem_nil, or_false, true_or, or_true, hw1, -v_seq]
        refine Wp.call (written_ok r) ?_
        rintro v0 _ ⟨ev, es⟩
        rw [ev, es, hwr.2]
        simp_arith [Ly.v_fld, Ly.v_meth, Ly.k_me2, Ly.v_make, Ly.k_mk, Ly.v_fldset, Ly.k_fs, Ly.v_fldaug, Ly.k_fa2, Ly.look1, List.mem_cons, List.not_mem_nil, or_false, true_or, or_true, is_parts, -v_seq]
        refine Wp.call (partsL_ok r (.inr rfl)) ?_
        rintro v3 S3 ⟨ev3, k3⟩
        rw [ev3]
        have hkind : Ly.kindOf r "read" = r.rd := by cases r <;> simp [Ly.kindOf, ofString_inj]
        rw [hkind]
        simp_arith [Ly.v_fld, Ly.v_meth, Ly.k_me2, Ly.v_make, Ly.k_mk, Ly.v_fldset, Ly.k_fs, Ly.v_fldaug, Ly.k_fa2, Ly.look1, List.mem_cons, List.not_mem_nil, or_false, true_or, or_true, notin_natsT, -v_seq]
        have hP3 := hP2.kp0 k3
        by_cases hin : wrN r ∈ r.rd
        · simp_arith [Ly.v_fld, Ly.v_meth, Ly.k_me2, Ly.v_make, Ly.k_mk, Ly.v_fldset, Ly.k_fs, Ly.v_fldaug, Ly.k_fa2, Ly.look1, List.mem_cons, List.not_mem_nil, or_false, true_or, or_true, hin]
          rw [if_neg (fun c => c.1 hin), List.append_nil] at hT2
          subst hT2
          exact ⟨⟨_, .inl rfl⟩, fin (d := r) hA kA hP3 (fun x hx => .inl (ho2 x hx)) (k2.trans (k3.sub (by simp))) (by omega) hti2⟩
        · simp_arith [Ly.v_fld, Ly.v_meth, Ly.k_me2, Ly.v_make, Ly.k_mk, Ly.v_fldset, Ly.k_fs, Ly.v_fldaug, Ly.k_fa2, Ly.look1, List.mem_cons, List.not_mem_nil, or_false, true_or, or_true, hin, k_me hP3.ob, pr_noM (.inr (.inr rfl))]
          have hno : getK (gT (st.1.filter (staysP r))) k = none := by
            rw [getK_gT]
            rw [getK_gT] at hg
            rw [Option.map_eq_none_iff] at hg ⊢
            unfold lookT at hg ⊢
            rw [Option.map_eq_none_iff, List.find?_eq_none] at hg ⊢
            exact fun x hx => hg x (List.mem_filter.mp hx).1
          refine Wp.call (note_ok hP3 hv hno (by omega)) ?_
          rintro v4 S4 ⟨⟨rk3, lk3, hP4, ho4⟩, k4⟩
          have e2 : gT (st.1.filter (staysP r)) ++ [(k, nD (wrN r))] = gT (st.1.filter (staysP r) ++ [(k, wrN r)]) := by simp [gT]
          rw [e2] at hP4
          rw [if_pos ⟨hin, hw1⟩] at hT2
          subst hT2
          simp_arith [Ly.v_fld, Ly.v_meth, Ly.k_me2, Ly.v_make, Ly.k_mk, Ly.v_fldset, Ly.k_fs, Ly.v_fldaug, Ly.k_fa2, Ly.look1, List.mem_cons, List.not_mem_nil, or_false, true_or, or_true]
          have k24 := (k2.trans (k3.sub (by simp))).after k4 fun x hx hlt => (ho2 x hx)
          refine ⟨⟨_, .inl rfl⟩, fin (d := r) hA kA hP4 (fun x hx => ?_) k24 (by omega) hti2⟩
          rcases ho4 x hx with c | c
          · exact .inl (ho2 x c)
          · exact .inr (Nat.le_trans (Nat.le_trans k2.le k3.le) c)
      · simp_arith [Ly.v_fld, Ly.v_meth, Ly.k_me2, Ly.v_make, Ly.k_mk, Ly.v_fldset, Ly.k_fs, Ly.v_fldaug, Ly.k_fa2, Ly.look1, List.mem_cons, List.not_mem_nil, or_false, true_or, or_true, hw1]
        rw [if_neg (fun c => hw1 c.2), List.append_nil] at hT2
        subst hT2
        exact ⟨⟨_, .inl rfl⟩, fin (d := r) hA kA hP2 (fun x hx => .inl (ho2 x hx)) k2 (by omega) hti2⟩
end
end GK45
set_option Elab.async false
set_option linter.all false
set_option maxRecDepth 100000
namespace GK45
open PySem L2 Ly
open PySem.Spec hiding Row
open PyProof.Rows hiding St
local macro_rules | `(tactic| simp_arith [$ls,*]) => `(tactic| simp only [Ly.line_le, Ly.atX_no, Ly.v_ok, Ly.v_bad, Ly.v_bind, Ly.k_bd, Ly.v_at, Ly.v_bin, Ly.k_bi, Ly.k_bi2, Ly.v_var, Ly.v_c, Ly.v_un, Ly.k_un, Ly.v_if, Ly.k_ife, Ly.v_and, Ly.k_and, Ly.k_and2, Ly.v_or, Ly.k_or, Ly.k_or2, Ly.v_tup, Ly.k_tup, Ly.v_lst, Ly.k_lst, Ly.v_call, Ly.k_ca, Ly.v_fn, Ly.k_fn, Ly.v_bm, Ly.k_bm, Ly.k_bm2, Ly.v_sl, Ly.k_sl, Ly.k_sl2, Ly.k_sl3, Ly.v_ixK, Ly.k_ixk, Ly.v_inK, Ly.k_ink, Ly.v_notinK, Ly.k_nink, Ly.v_getK2, Ly.k_gk2, Ly.k_gk, Ly.v_get2, Ly.k_g2, Ly.k_g22, Ly.k_g23, Ly.v_nil, Ly.v_cons, Ly.k_co, Ly.k_co2, Ly.v_no, Ly.v_some, Ly.k_so, Ly.k_cm, Ly.v_cmp, Ly.v_tru, Ly.k_tr, Ly.v_notB, Ly.k_no, Ly.v_andB, Ly.k_an, Ly.v_orB, Ly.k_orb, Ly.v_yes, Ly.v_inKB, Ly.k_inkB, Ly.v_notinKB, Ly.k_ninkB, Ly.v_set, Ly.k_st, Ly.v_expr, Ly.k_ex, Ly.v_ret, Ly.k_re, Ly.v_retN, Ly.v_pass, Ly.v_brk, Ly.v_cnt, Ly.v_seq, Ly.k_sq_nx, Ly.k_sq_rt, Ly.k_sq_bk, Ly.k_sq_ct, Ly.v_ifS, Ly.k_ifs, Ly.v_asg, Ly.k_as, Ly.k_as2, Ly.v_aug, Ly.k_au, Ly.v_for, Ly.k_fo, Ly.v_it, Ly.k_it, Ly.k_ij, Ly.v_rng1, Ly.v_rng2, Ly.v_enum, Ly.v_zip, Ly.v_ez, Ly.v_gN, Ly.v_gsN, Ly.v_gsC, Ly.k_gc, Ly.v_gT, Ly.v_gTw, Ly.v_gSb, Ly.k_gsb, Ly.k_gsb2, Ly.k_gsb3, Ly.k_en_rt, Ly.k_en_nx, Ly.k_tu_nx, Ly.k_tu_ct, Ly.k_tu_bk, Ly.k_tu_rt, Ly.v_lc, Ly.k_lc, Ly.v_augI, Ly.k_ag, Ly.k_ag2, Ly.k_ag3, Ly.k_ag4, Ly.k_ag5, Ly.v_del, Ly.k_dl, Ly.k_dl2, Ly.v_setd, Ly.v_pop2, Ly.k_d3, Ly.k_d32, Ly.k_d33, Ly.v_get1, Ly.k_g1, Ly.k_g12, Ly.v_rg1, Ly.k_rg, Ly.v_rg2, Ly.k_rg2, Ly.k_rg22, Ly.v_dicK, Ly.v_dicT, Ly.v_dc, Ly.k_dc, List.getElem?_cons_zero, List.getElem?_cons_succ, List.set_cons_zero, List.set_cons_succ, List.length_cons, List.length_nil, List.map_cons, List.map_nil, List.cons_append, List.nil_append, List.replicate, if_true, if_false, Bool.false_eq_true, Bool.not_true, Bool.not_false, Bool.true_and, Bool.false_and, decide_true, decide_false, decide_eq_true_eq, Nat.zero_add, Nat.reduceAdd, Nat.reduceLeDiff, true_and, and_true, $ls,*])
section
variable {S S' S1 S2 : Hs} {cA : Nat → Addr} {p nd rx lx j tq q : Nat} {kvs L : List (Vl × D)} {tks : List (Key × D)} {W : Nat → Nat} {b : List Row} {r : Row} {k : Vl}
def rowsC (W : Nat → Nat) (b : List Row) : List Row := (b.foldl (stepC W) ([], [])).2
theorem shared_ok (hb : b.length ≤ 20) (hW : ∀ d, cntR b d ≤ W d) (ht : S[tq]? = some (.dic tks)) (htk : ∀ r ∈ b, ∀ d, r.wr = some d → getK tks (kN d) = some (nD (W d))) :
    Wp NoX (m__shared cA [blockD b, .ref tq] S) fun v S' => v = blockD (rowsC W b) ∧ Kp [] S S' := by
  refine wp_def0 rfl ?_
  unfold b__shared
  rw [v_seq]
  simp_arith [Ly.v_fld, Ly.v_meth, Ly.k_me2, Ly.v_make, Ly.k_mk, Ly.v_fldset, Ly.k_fs, Ly.v_fldaug, Ly.k_fa2, Ly.look1, List.mem_cons, List.not_mem_nil, or_false, true_or, or_true, -v_seq]
  refine Wp.call make_ok ?_
  rintro v S1 ⟨rfl, hP, k1, hl1⟩
  simp_arith [Ly.v_fld, Ly.v_meth, Ly.k_me2, Ly.v_make, Ly.k_mk, Ly.v_fldset, Ly.k_fs, Ly.v_fldaug, Ly.k_fa2, Ly.look1, List.mem_cons, List.not_mem_nil, or_false, true_or, or_true, -v_seq]
  rw [v_seq]
  simp_arith [Ly.v_fld, Ly.v_meth, Ly.k_me2, Ly.v_make, Ly.k_mk, Ly.v_fldset, Ly.k_fs, Ly.v_fldaug, Ly.k_fa2, Ly.look1, List.mem_cons, List.not_mem_nil, or_false, true_or, or_true, -v_seq]
  have hq : (S1 ++ [O.lst []])[S1.length]? = some (.lst []) := get_end
  rw [v_seq]
  simp_arith [Ly.v_fld, Ly.v_meth, Ly.k_me2, Ly.v_make, Ly.k_mk, Ly.v_fldset, Ly.k_fs, Ly.v_fldaug, Ly.k_fa2, Ly.look1, List.mem_cons, List.not_mem_nil, or_false, true_or, or_true, blockD, oIt, -v_seq]
  refine wp_tupM Row.D (xs := b) (fun pre l S' => (∃ o4 o5, l = [some (.tup (b.map Row.D)), some (.ref tq), some (.ref S.length), some (.ref S1.length), o4, o5]) ∧ ShAt cA W S S' S.length S1.length pre (pre.foldl (stepC W) ([], []))) ⟨⟨_, _, rfl⟩, ?_⟩ ?_ ?_
  · refine ⟨⟨_, _, _, _, _, _, hP.kp0 Kp.new, by simp, fun x hx => ?_⟩, hq, by have := k1.le; omega, ⟨Nat.le_refl _, by omega⟩, ⟨fun x hx => by cases hx⟩, rfl, k1.trans Kp.new⟩
    simp [own] at hx
    rcases hx with rfl | rfl | rfl <;> omega
  · rintro pre x post l S' hsp ⟨⟨o4, o5, rfl⟩, h⟩
    have hx : x ∈ b := by rw [hsp]; simp
    have hpl : pre.length ≤ 20 := by have := congrArg List.length hsp; simp at this; omega
    simp_arith [Ly.v_fld, Ly.v_meth, Ly.k_me2, Ly.v_make, Ly.k_mk, Ly.v_fldset, Ly.k_fs, Ly.v_fldaug, Ly.k_fa2, Ly.look1, List.mem_cons, List.not_mem_nil, or_false, true_or, or_true]
    refine Wp.call (row_law (r := x) (post := post) (o4 := o4) hpl (by rw [← hsp]; exact hW) ht (htk x hx) h) ?_
    rintro f S2 ⟨⟨o5, hf⟩, h2⟩
    rw [List.foldl_append]
    rcases hf with rfl | rfl
    · exact ⟨⟨_, _, rfl⟩, h2⟩
    · exact ⟨⟨_, _, rfl⟩, h2⟩
  · rintro l S' ⟨⟨o4, o5, rfl⟩, h⟩
    simp_arith [Ly.v_fld, Ly.v_meth, Ly.k_me2, Ly.v_make, Ly.k_mk, Ly.v_fldset, Ly.k_fs, Ly.v_fldaug, Ly.k_fa2, Ly.look1, List.mem_cons, List.not_mem_nil, or_false, true_or, or_true, bTuple_lst h.rows]
    exact ⟨rfl, h.kp⟩
def cntI (params : Nat) (rs : List Row) (z : Int) : Nat := (if 0 ≤ z ∧ z < params then 1 else 0) + (rs.filter fun r => decide (wrI r = z)).length
structure TmAt (S : Hs) (tq : Nat) (params : Nat) (rs : List Row) : Prop where
  ex : ∃ tks, S[tq]? = some (.dic tks) ∧ tks.length ≤ params + rs.length ∧ ∀ z : Int, getK tks (.inl z) = if cntI params rs z = 0 then none else some (nD (cntI params rs z))
theorem getK_set' {kvs : List (Key × D)} {k k' : Key} {v : D} : getK (setK kvs k v) k' = if k' = k then some v else getK kvs k' := by
  unfold setK
  split
  · rename_i h
    induction kvs with
    | nil => simp at h
    | cons x kvs ih =>
      unfold getK at ih ⊢
      simp only [List.map_cons, List.find?_cons]
      by_cases hx : x.1 = k
      · rw [if_pos hx]
        by_cases hk : k' = k
        · have : decide (x.1 = k') = true := by simp [hx, hk]
          simp only [this, if_pos hk]; rfl
        · have h1 : decide (x.1 = k') = false := by simp [hx]; exact fun e => hk e.symm
          simp only [h1, if_neg hk]
          by_cases ha : (kvs.any fun kv => decide (kv.1 = k)) = true
          · have := ih ha
            rw [if_neg hk] at this; exact this
          · have e : kvs.map (fun kv => if kv.1 = k then (kv.1, v) else kv) = kvs := by
              have : ∀ kv ∈ kvs, ¬ kv.1 = k := fun kv hm e => ha (List.any_eq_true.mpr ⟨kv, hm, by simp [e]⟩)
              conv => rhs; rw [← List.map_id kvs]
              exact List.map_congr_left fun kv hm => by rw [if_neg (this kv hm)]; rfl
            rw [e]
      · rw [if_neg hx]
        have ha : (kvs.any fun kv => decide (kv.1 = k)) = true := by
          simp only [List.any_cons, Bool.or_eq_true, decide_eq_true_eq] at h
          exact h.resolve_left hx
        by_cases hk' : x.1 = k'
        · have : decide (x.1 = k') = true := by simp [hk']
          have hkk : ¬ k' = k := fun e => hx (hk'.trans e)
          simp only [this, if_neg hkk]
        · have : decide (x.1 = k') = false := by simp [hk']
          simp only [this]
          exact ih ha
  · rename_i h
    unfold getK
    rw [List.find?_append]
    by_cases hk : k' = k
    · rw [if_pos hk]
      have : kvs.find? (fun kv => decide (kv.1 = k')) = none := by
        rw [List.find?_eq_none]
        intro x hx e
        refine h (List.any_eq_true.mpr ⟨x, hx, ?_⟩)
        rw [← hk]; exact e
      rw [this]; simp [hk]
    · rw [if_neg hk]
      have : decide (k = k') = false := by simp; exact fun e => hk e.symm
      simp [this]
theorem cntI_app {params : Nat} {rs : List Row} {z : Int} : cntI params (rs ++ [r]) z = cntI params rs z + if wrI r = z then 1 else 0 := by
  unfold cntI
  rw [List.filter_append, List.length_append]
  by_cases e : wrI r = z
  · rw [if_pos e, List.filter_cons_of_pos (by simpa using e)]; simp; omega
  · rw [if_neg e, List.filter_cons_of_neg (by simpa using e)]; simp
theorem cntI_le {params : Nat} {rs : List Row} {z : Int} : cntI params rs z ≤ 1 + rs.length := by
  have := (List.filter_sublist (p := fun r => decide (wrI r = z)) (l := rs)).length_le
  unfold cntI; split <;> omega
theorem tm_step {params : Nat} {rs : List Row} {l : Ls} (h : TmAt S tq params rs) (hb : params + rs.length ≤ 1000) (h4 : l[4]? = some (some (.ref tq))) (h6 : l[6]? = some (some r.D)) :
    Wp NoX (lb_common_0 cA l S) fun f S' => f = .nx l ∧ TmAt S' tq params (rs ++ [r]) ∧ Kp [tq] S S' := by
  obtain ⟨tks, ht, hlen, hg⟩ := h
  have hset : ∀ d, oSet (.ref tq) (.int (wrI r)) d S = .ok () (S.set tq (.dic (setK tks (.inl (wrI r)) d))) := fun d => by
    have : tks.length < sizeLine := line_big (by omega)
    simp [oSet, ht, D.key, this]
  have hd : dGet (.ref tq) (.int (wrI r)) S = some (getK tks (.inl (wrI r))) := by simp [dGet, ht, D.key]
  have hcl := cntI_le (params := params) (rs := rs) (z := wrI r)
  have fin : TmAt (S.set tq (.dic (setK tks (.inl (wrI r)) (.int ((cntI params rs (wrI r) : Nat) + 1))))) tq params (rs ++ [r]) := by
    refine ⟨_, get_put ht, by have := setK_len' (L := tks) (k := .inl (wrI r)) (d := .int ((cntI params rs (wrI r) : Nat) + 1)); simp; omega, fun z => ?_⟩
    rw [getK_set', cntI_app]
    by_cases e : z = wrI r
    · subst e
      rw [if_pos rfl, if_pos rfl, if_neg (by omega)]
      congr 1
    · have e3 : (if wrI r = z then 1 else 0) = 0 := if_neg (fun c => e c.symm)
      rw [if_neg (fun c => e (by injection c)), e3, Nat.add_zero]
      exact hg z
  unfold lb_common_0
  simp_arith [Ly.v_fld, Ly.v_meth, Ly.k_me2, Ly.v_make, Ly.k_mk, Ly.v_fldset, Ly.k_fs, Ly.v_fldaug, Ly.k_fa2, Ly.look1, List.mem_cons, List.not_mem_nil, or_false, true_or, or_true, h4, h6, hasTyC ht]
  refine Wp.call (written_ok r) ?_
  rintro v0 _ ⟨ev, es⟩
  rw [ev, es]
  simp_arith [Ly.v_fld, Ly.v_meth, Ly.k_me2, Ly.v_make, Ly.k_mk, Ly.v_fldset, Ly.k_fs, Ly.v_fldaug, Ly.k_fa2, Ly.look1, List.mem_cons, List.not_mem_nil, or_false, true_or, or_true, hd, hg (wrI r)]
  by_cases hc : cntI params rs (wrI r) = 0
  · rw [hc] at fin
    simp_arith [Ly.v_fld, Ly.v_meth, Ly.k_me2, Ly.v_make, Ly.k_mk, Ly.v_fldset, Ly.k_fs, Ly.v_fldaug, Ly.k_fa2, Ly.look1, List.mem_cons, List.not_mem_nil, or_false, true_or, or_true, hc, oAdd_int, h4, h6]
    refine Wp.call (written_ok r) ?_
    rintro v0 _ ⟨ev, es⟩
    rw [ev, es]
    simp_arith [Ly.v_fld, Ly.v_meth, Ly.k_me2, Ly.v_make, Ly.k_mk, Ly.v_fldset, Ly.k_fs, Ly.v_fldaug, Ly.k_fa2, Ly.look1, List.mem_cons, List.not_mem_nil, or_false, true_or, or_true, hset]
    exact ⟨fin, Kp.set (by simp)⟩
  · simp_arith [Ly.v_fld, Ly.v_meth, Ly.k_me2, Ly.v_make, Ly.k_mk, Ly.v_fldset, Ly.k_fs, Ly.v_fldaug, Ly.k_fa2, Ly.look1, List.mem_cons, List.not_mem_nil, or_false, true_or, or_true, hc, oAdd_int, h4, h6]
    refine Wp.call (written_ok r) ?_
    rintro v0 _ ⟨ev, es⟩
    rw [ev, es]
    simp_arith [Ly.v_fld, Ly.v_meth, Ly.k_me2, Ly.v_make, Ly.k_mk, Ly.v_fldset, Ly.k_fs, Ly.v_fldaug, Ly.k_fa2, Ly.look1, List.mem_cons, List.not_mem_nil, or_false, true_or, or_true, hset]
    exact ⟨fin, Kp.set (by simp)⟩
def Wc (params : Nat) (bs : List (List Row)) (d : Nat) : Nat := cntI params bs.flatten (d : Int)
theorem wrI_nat {d : Nat} : wrI r = (d : Int) ↔ r.wr = some d := by
  unfold wrI
  cases r.wr with
  | none => simp
  | some e => simp; omega
theorem cnt_mem {params : Nat} {bs : List (List Row)} (hb : b ∈ bs) (d : Nat) : cntR b d ≤ Wc params bs d := by
  have e : cntR b d = (b.filter fun r => decide (wrI r = (d : Int))).length := by
    unfold cntR
    congr 1
    exact List.filter_congr fun r _ => decide_eq_decide.mpr wrI_nat.symm
  have h2 : (b.filter fun r => decide (wrI r = (d : Int))).length ≤ (bs.flatten.filter fun r => decide (wrI r = (d : Int))).length := by
    obtain ⟨s, t, rfl⟩ := List.append_of_mem hb
    simp only [List.flatten_append, List.flatten_cons, List.filter_append, List.length_append]
    omega
  unfold Wc cntI
  omega
theorem cnt_pos {params : Nat} {bs : List (List Row)} (hb : b ∈ bs) {d : Nat} (hr : r ∈ b) (hd : r.wr = some d) : 0 < Wc params bs d := by
  have := cnt_mem (params := params) hb d
  have h2 : 0 < cntR b d := List.length_pos_of_mem (List.mem_filter.mpr ⟨hr, by simpa using hd⟩)
  omega
variable {arrs : List Arr} {params : Nat} {bs : List (List Row)}
theorem flat_len {bs : List (List Row)} {m : Nat} (h : ∀ b ∈ bs, b.length ≤ m) : bs.flatten.length ≤ m * bs.length := by
  induction bs with
  | nil => simp
  | cons b bs ih =>
    have h1 := h b (by simp)
    have h2 := ih fun x hx => h x (by simp [hx])
    simp only [List.flatten_cons, List.length_append, List.length_cons, Nat.mul_add]
    omega
theorem common_ok (hp : params ≤ 10) (hbs : bs.length ≤ 10) (hb : ∀ b ∈ bs, b.length ≤ 20) : Wp NoX (m_common cA [progD arrs params bs] S) fun v S' => v = progD arrs params (bs.map (rowsC (Wc params bs))) ∧ Kp [] S S' := by
  refine wp_def0 rfl ?_
  unfold b_common
  have hfl := flat_len hb
  have hfl2 : bs.flatten.length ≤ 200 := by
    have : 20 * bs.length ≤ 200 := by omega
    omega
  rw [v_seq]
  simp_arith [Ly.v_fld, Ly.v_meth, Ly.k_me2, Ly.v_make, Ly.k_mk, Ly.v_fldset, Ly.k_fs, Ly.v_fldaug, Ly.k_fa2, Ly.look1, List.mem_cons, List.not_mem_nil, or_false, true_or, or_true, progD, -v_seq]
  rw [v_seq]
  simp_arith [Ly.v_fld, Ly.v_meth, Ly.k_me2, Ly.v_make, Ly.k_mk, Ly.v_fldset, Ly.k_fs, Ly.v_fldaug, Ly.k_fa2, Ly.look1, List.mem_cons, List.not_mem_nil, or_false, true_or, or_true, rng1 (n := (params : Int)) S (by omega) (by omega), Int.toNat_natCast, wipe1, -v_seq]
  refine wp_dcRng (fun k acc S' => acc.length ≤ k ∧ (∀ z : Int, getK acc (.inl z) = if 0 ≤ z ∧ z < k then some (nD 1) else none) ∧ S'[S.length]? = some (.dic acc) ∧ Kp [] S S') ⟨by simp, fun z => by rw [if_neg (by omega)]; rfl, get_end, Kp.new⟩ ?_ ?_
  · rintro k acc S' hk ⟨h1, h2, h3, k1⟩
    refine ⟨_, rfl, ?_⟩
    have e : (0 + (k : Int)) = (k : Int) := by omega
    simp_arith [Ly.v_fld, Ly.v_meth, Ly.k_me2, Ly.v_make, Ly.k_mk, Ly.v_fldset, Ly.k_fs, Ly.v_fldaug, Ly.k_fa2, Ly.look1, List.mem_cons, List.not_mem_nil, or_false, true_or, or_true, e]
    refine ⟨h3, line_big (by omega), _, key_int, ⟨by have := setK_len' (L := acc) (k := .inl (k : Int)) (d := .int 1); omega, fun z => ?_, get_put h3, k1.setNew (Nat.le_refl _)⟩⟩
    rw [getK_set', h2]
    by_cases c : z = (k : Int)
    · subst c
      rw [if_pos rfl, if_pos (by omega)]; rfl
    · rw [if_neg (fun h => c (by injection h))]
      by_cases c2 : 0 ≤ z ∧ z < (k : Int)
      · rw [if_pos c2, if_pos (by omega)]
      · rw [if_neg c2, if_neg (by omega)]
  · rintro acc S1 ⟨h1, h2, h3, k1⟩
    have h0 : TmAt S1 S.length params [] := ⟨_, h3, by simpa using h1, fun z => by
      rw [h2]
      unfold cntI
      by_cases c : 0 ≤ z ∧ z < (params : Int)
      · rw [if_pos c, if_pos c]; simp
      · rw [if_neg c, if_neg c]; simp⟩
    simp_arith [Ly.v_fld, Ly.v_meth, Ly.k_me2, Ly.v_make, Ly.k_mk, Ly.v_fldset, Ly.k_fs, Ly.v_fldaug, Ly.k_fa2, Ly.look1, List.mem_cons, List.not_mem_nil, or_false, true_or, or_true, -v_seq]
    rw [v_seq]
    simp_arith [Ly.v_fld, Ly.v_meth, Ly.k_me2, Ly.v_make, Ly.k_mk, Ly.v_fldset, Ly.k_fs, Ly.v_fldaug, Ly.k_fa2, Ly.look1, List.mem_cons, List.not_mem_nil, or_false, true_or, or_true, oIt, -v_seq]
    refine wp_tupM blockD (xs := bs) (fun pre l' S' => (∃ o5 o6 : Option D, l' = [some (progD arrs params bs), some (.tup (arrs.map Arr.D)), some (nD params), some (.tup (bs.map blockD)), some (.ref S.length), o5, o6, none]) ∧ TmAt S' S.length params pre.flatten ∧ Kp [] S S') ⟨⟨_, _, rfl⟩, h0, k1⟩ ?_ ?_
    · rintro pre b post l' S' hsp ⟨⟨o5, o6, rfl⟩, hT, K⟩
      have hb2 : b ∈ bs := by rw [hsp]; simp
      have hle : pre.flatten.length + b.length ≤ 200 := by
        have : bs.flatten.length = pre.flatten.length + (b.length + post.flatten.length) := by rw [hsp]; simp
        omega
      unfold lb_common_1
      simp_arith [Ly.v_fld, Ly.v_meth, Ly.k_me2, Ly.v_make, Ly.k_mk, Ly.v_fldset, Ly.k_fs, Ly.v_fldaug, Ly.k_fa2, Ly.look1, List.mem_cons, List.not_mem_nil, or_false, true_or, or_true, blockD, oIt]
      refine wp_tupM Row.D (xs := b) (fun pre2 l' S' => (∃ o6 : Option D, l' = [some (progD arrs params bs), some (.tup (arrs.map Arr.D)), some (nD params), some (.tup (bs.map blockD)), some (.ref S.length), some (blockD b), o6, none]) ∧ TmAt S' S.length params (pre.flatten ++ pre2) ∧ Kp [] S S') ⟨⟨_, rfl⟩, by simpa using hT, K⟩ ?_ ?_
      · rintro pre2 r post2 l' S' hsp2 ⟨⟨o6, rfl⟩, hT, K⟩
        have hl2 : pre2.length ≤ b.length := by rw [hsp2]; simp
        simp_arith [Ly.v_fld, Ly.v_meth, Ly.k_me2, Ly.v_make, Ly.k_mk, Ly.v_fldset, Ly.k_fs, Ly.v_fldaug, Ly.k_fa2, Ly.look1, List.mem_cons, List.not_mem_nil, or_false, true_or, or_true]
        refine Wp.call (tm_step (r := r) hT (by rw [List.length_append]; omega) rfl rfl) ?_
        rintro f S2 ⟨rfl, hT2, k2⟩
        exact ⟨⟨_, rfl⟩, by simpa using hT2, K.after k2 fun x hx hlt => by simp at hx; omega⟩
      · rintro l' S' ⟨⟨o6, rfl⟩, hT, K⟩
        exact ⟨⟨_, _, rfl⟩, by simpa using hT, K⟩
    · rintro l' S' ⟨⟨o5, o6, rfl⟩, hT, K⟩
      obtain ⟨tks, ht, hlen, hg⟩ := hT
      simp_arith [Ly.v_fld, Ly.v_meth, Ly.k_me2, Ly.v_make, Ly.k_mk, Ly.v_fldset, Ly.k_fs, Ly.v_fldaug, Ly.k_fa2, Ly.look1, List.mem_cons, List.not_mem_nil, or_false, true_or, or_true, oIt, wipe1]
      refine lc_pure blockD (S := S') (xs := bs) (fun b => some (blockD (rowsC (Wc params bs) b))) (fun S2 _ j hj => by simp only [itGo, List.getElem?_map]) (by omega) (fun b hb2 S2 k2 => ⟨_, rfl, ?_⟩) (fun S2 h2 k2 => ?_)
      · simp_arith [Ly.v_fld, Ly.v_meth, Ly.k_me2, Ly.v_make, Ly.k_mk, Ly.v_fldset, Ly.k_fs, Ly.v_fldaug, Ly.k_fa2, Ly.look1, List.mem_cons, List.not_mem_nil, or_false, true_or, or_true]
        refine ⟨Kp.refl, Wp.call (shared_ok (W := Wc params bs) (hb b hb2) (cnt_mem hb2) (k2.get ht (by simp)) fun r hr d hd => ?_) ?_⟩
        · rw [hg (d : Int), if_neg (by have := cnt_pos (params := params) hb2 hr hd; unfold Wc at this; omega)]
          rfl
        · rintro v S3 ⟨rfl, k3⟩
          exact ⟨k3, rfl⟩
      · have e : bs.filterMap (fun b => some (blockD (rowsC (Wc params bs) b))) = (bs.map (rowsC (Wc params bs))).map blockD := by
          rw [List.filterMap_eq_map']; simp
        rw [e] at h2
        simp_arith [Ly.v_fld, Ly.v_meth, Ly.k_me2, Ly.v_make, Ly.k_mk, Ly.v_fldset, Ly.k_fs, Ly.v_fldaug, Ly.k_fa2, Ly.look1, List.mem_cons, List.not_mem_nil, or_false, true_or, or_true, bTuple_lst h2]
        exact K.trans k2
end
end GK45
set_option Elab.async false
set_option linter.all false
set_option maxRecDepth 100000
namespace GK45
open PySem L2 Ly
open PySem.Spec hiding Row
open PyProof.Rows hiding St
local macro_rules | `(tactic| simp_arith [$ls,*]) => `(tactic| simp only [Ly.line_le, Ly.atX_no, Ly.v_ok, Ly.v_bad, Ly.v_bind, Ly.k_bd, Ly.v_at, Ly.v_bin, Ly.k_bi, Ly.k_bi2, Ly.v_var, Ly.v_c, Ly.v_un, Ly.k_un, Ly.v_if, Ly.k_ife, Ly.v_and, Ly.k_and, Ly.k_and2, Ly.v_or, Ly.k_or, Ly.k_or2, Ly.v_tup, Ly.k_tup, Ly.v_lst, Ly.k_lst, Ly.v_call, Ly.k_ca, Ly.v_fn, Ly.k_fn, Ly.v_bm, Ly.k_bm, Ly.k_bm2, Ly.v_sl, Ly.k_sl, Ly.k_sl2, Ly.k_sl3, Ly.v_ixK, Ly.k_ixk, Ly.v_inK, Ly.k_ink, Ly.v_notinK, Ly.k_nink, Ly.v_getK2, Ly.k_gk2, Ly.k_gk, Ly.v_get2, Ly.k_g2, Ly.k_g22, Ly.k_g23, Ly.v_nil, Ly.v_cons, Ly.k_co, Ly.k_co2, Ly.v_no, Ly.v_some, Ly.k_so, Ly.k_cm, Ly.v_cmp, Ly.v_tru, Ly.k_tr, Ly.v_notB, Ly.k_no, Ly.v_andB, Ly.k_an, Ly.v_orB, Ly.k_orb, Ly.v_yes, Ly.v_inKB, Ly.k_inkB, Ly.v_notinKB, Ly.k_ninkB, Ly.v_set, Ly.k_st, Ly.v_expr, Ly.k_ex, Ly.v_ret, Ly.k_re, Ly.v_retN, Ly.v_pass, Ly.v_brk, Ly.v_cnt, Ly.v_seq, Ly.k_sq_nx, Ly.k_sq_rt, Ly.k_sq_bk, Ly.k_sq_ct, Ly.v_ifS, Ly.k_ifs, Ly.v_asg, Ly.k_as, Ly.k_as2, Ly.v_aug, Ly.k_au, Ly.v_for, Ly.k_fo, Ly.v_it, Ly.k_it, Ly.k_ij, Ly.v_rng1, Ly.v_rng2, Ly.v_enum, Ly.v_zip, Ly.v_ez, Ly.v_gN, Ly.v_gsN, Ly.v_gsC, Ly.k_gc, Ly.v_gT, Ly.v_gTw, Ly.v_gSb, Ly.k_gsb, Ly.k_gsb2, Ly.k_gsb3, Ly.k_en_rt, Ly.k_en_nx, Ly.k_tu_nx, Ly.k_tu_ct, Ly.k_tu_bk, Ly.k_tu_rt, Ly.v_lc, Ly.k_lc, Ly.v_augI, Ly.k_ag, Ly.k_ag2, Ly.k_ag3, Ly.k_ag4, Ly.k_ag5, Ly.v_del, Ly.k_dl, Ly.k_dl2, Ly.v_setd, Ly.v_pop2, Ly.k_d3, Ly.k_d32, Ly.k_d33, Ly.v_get1, Ly.k_g1, Ly.k_g12, Ly.v_rg1, Ly.k_rg, Ly.v_rg2, Ly.k_rg2, Ly.k_rg22, Ly.v_dicK, Ly.v_dicT, Ly.v_dc, Ly.k_dc, List.getElem?_cons_zero, List.getElem?_cons_succ, List.set_cons_zero, List.set_cons_succ, List.length_cons, List.length_nil, List.map_cons, List.map_nil, List.cons_append, List.nil_append, List.replicate, if_true, if_false, Bool.false_eq_true, Bool.not_true, Bool.not_false, Bool.true_and, Bool.false_and, decide_true, decide_false, decide_eq_true_eq, Nat.zero_add, Nat.reduceAdd, Nat.reduceLeDiff, true_and, and_true, $ls,*])
section
variable {S S' S1 S2 : Hs} {cA : Nat → Addr} {W : Nat → Nat} {b : List Row} {r r0 : Row} {k : Vl} {n : Nat}
def pD (x : Vl × Nat) : D := .tup [valD x.1, nD x.2]
theorem val_facts (h : valR r0 = some k) : ∃ (w0 : Str) (c : Int), (∀ S, oIx (valD k) (.int 0) S = .ok (.str w0) S) ∧ (∀ S, oSl (valD k) (some c) none S = .ok (.tup (nDs r0.rd)) S) ∧ (c = if w0 = "select" then 1 else 2) ∧
    (w0 = "load" → ∃ i : Nat, (∀ S, oIx (valD k) (.int 1) S = .ok (nD i) S) ∧ ldV k = some (kN i)) ∧ (w0 ≠ "load" → ldV k = none) := by
  cases r0 <;> simp only [valR, Option.some.injEq, reduceCtorEq] at h <;> subst h
  · exact ⟨"op", 2, fun S => ix0', fun S => by simp [oSl, kD, cut2, Row.rd], by simp [ofString_inj], fun h => by simp [ofString_inj] at h, fun _ => by simp [ldV, ofString_inj]⟩
  · exact ⟨"select", 1, fun S => ix0', fun S => by simp [oSl, kD, cut1, Row.rd], by simp, fun h => by simp [ofString_inj] at h, fun _ => by simp [ldV, ofString_inj]⟩
  · exact ⟨"load", 2, fun S => ix0', fun S => by simp [oSl, kD, cut2, Row.rd], by simp [ofString_inj], fun _ => ⟨_, fun S => ix1', by simp [ldV]⟩, fun h => absurd rfl h⟩
theorem bInt_b {b : Bool} : bInt [.bl b] S = .ok (.int (if b = true then 1 else 0)) S := by cases b <;> rfl
theorem stays_ok (h : valR r0 = some k) : Wp NoX (m__law_stays [pD (k, n), r.D] S) fun v S' => v = .bl (staysP r (k, n)) ∧ S' = S := by
  refine wp_def0 rfl ?_
  unfold b__law_stays
  obtain ⟨w0, c, f0, f1, hc, f2, f3⟩ := val_facts h
  obtain ⟨w, hw, _, hst⟩ := word3 (S := S) r
  rw [v_seq]
  simp_arith [Ly.v_fld, Ly.v_meth, Ly.k_me2, Ly.v_make, Ly.k_mk, Ly.v_fldset, Ly.k_fs, Ly.v_fldaug, Ly.k_fa2, Ly.look1, List.mem_cons, List.not_mem_nil, or_false, true_or, or_true, pD, -v_seq, -v_ifS]
  rw [v_seq]
  simp_arith [Ly.v_fld, Ly.v_meth, Ly.k_me2, Ly.v_make, Ly.k_mk, Ly.v_fldset, Ly.k_fs, Ly.v_fldaug, Ly.k_fa2, Ly.look1, List.mem_cons, List.not_mem_nil, or_false, true_or, or_true, hw, oEq_str, -v_seq]
  by_cases hs : w = "store"
  · obtain ⟨i, a, v, rfl⟩ := hst.mp hs
    have hD : ∀ S, oIx (Row.store i a v).D (.int 1) S = .ok (nD i) S := fun S => ix1'
    simp_arith [Ly.v_fld, Ly.v_meth, Ly.k_me2, Ly.v_make, Ly.k_mk, Ly.v_fldset, Ly.k_fs, Ly.v_fldaug, Ly.k_fa2, Ly.look1, List.mem_cons, List.not_mem_nil, or_false, true_or, or_true, hs, f0, oNe_str]
    by_cases hl : w0 = "load"
    · obtain ⟨i2, g1, g2⟩ := f2 hl
      simp_arith [Ly.v_fld, Ly.v_meth, Ly.k_me2, Ly.v_make, Ly.k_mk, Ly.v_fldset, Ly.k_fs, Ly.v_fldaug, Ly.k_fa2, Ly.look1, List.mem_cons, List.not_mem_nil, or_false, true_or, or_true, hl, oTru_bl, g1, hD, oNe_int]
      simp only [staysP, g2]
      congr 1
      by_cases e : i2 = i
      · subst e; simp
      · have : ((i2 : Int)) ≠ (i : Int) := by omega
        simp [this, e]
    · simp_arith [Ly.v_fld, Ly.v_meth, Ly.k_me2, Ly.v_make, Ly.k_mk, Ly.v_fldset, Ly.k_fs, Ly.v_fldaug, Ly.k_fa2, Ly.look1, List.mem_cons, List.not_mem_nil, or_false, true_or, or_true, hl, oTru_bl]
      simp [staysP, f3 hl]
  · simp_arith [Ly.v_fld, Ly.v_meth, Ly.k_me2, Ly.v_make, Ly.k_mk, Ly.v_fldset, Ly.k_fs, Ly.v_fldaug, Ly.k_fa2, Ly.look1, List.mem_cons, List.not_mem_nil, or_false, true_or, or_true, hs, -v_seq]
    rw [v_seq]
    simp_arith [Ly.v_fld, Ly.v_meth, Ly.k_me2, Ly.v_make, Ly.k_mk, Ly.v_fldset, Ly.k_fs, Ly.v_fldaug, Ly.k_fa2, Ly.look1, List.mem_cons, List.not_mem_nil, or_false, true_or, or_true, -v_seq]
    refine Wp.call (writes_ok r) ?_
    rintro v0 _ ⟨ev, es⟩
    rw [ev, es]
    simp_arith [Ly.v_fld, Ly.v_meth, Ly.k_me2, Ly.v_make, Ly.k_mk, Ly.v_fldset, Ly.k_fs, Ly.v_fldaug, Ly.k_fa2, Ly.look1, List.mem_cons, List.not_mem_nil, or_false, true_or, or_true, oLt_int, -v_seq]
    have nst : ∀ i a v, r ≠ .store i a v := fun i a v e => hs (hst.mpr ⟨i, a, v, e⟩)
    cases hwr : r.wr with
    | none =>
      have e : wrI r = -1 := by unfold wrI; rw [hwr]
      have e2 : staysP r (k, n) = true := by
        cases r <;> first | (exact absurd rfl (nst _ _ _)) | rfl | (cases hwr)
      simp_arith [Ly.v_fld, Ly.v_meth, Ly.k_me2, Ly.v_make, Ly.k_mk, Ly.v_fldset, Ly.k_fs, Ly.v_fldaug, Ly.k_fa2, Ly.look1, List.mem_cons, List.not_mem_nil, or_false, true_or, or_true, e, e2, oLt_int, show decide ((-1 : Int) < 0) = true from rfl]
    | some d =>
      have e : wrI r = (d : Int) := by unfold wrI; rw [hwr]
      have e2 : staysP r (k, n) = (decide (n ≠ d) && !hasK (rdV k) (kN d)) := by
        cases r <;> first | (exact absurd rfl (nst _ _ _)) | (cases hwr; rfl) | (cases hwr)
      have hh : hasK (rdV k) (kN d) = decide (d ∈ r0.rd) := by
        rw [Bool.eq_iff_iff, hasK_iff, rdV_val h, decide_eq_true_eq, List.mem_map]
        constructor
        · rintro ⟨x, hx, e⟩
          rw [← kN_inj e]; exact hx
        · intro hx; exact ⟨d, hx, rfl⟩
      rw [e2, hh]
      have hn : ¬ ((d : Int) < 0) := by omega
      have hcc : (1 : Int) + (if (!decide (w0 = "select")) = true then 1 else 0) = c := by
        rw [hc]; by_cases e : w0 = "select" <;> simp [e]
      simp_arith [Ly.v_fld, Ly.v_meth, Ly.k_me2, Ly.v_make, Ly.k_mk, Ly.v_fldset, Ly.k_fs, Ly.v_fldaug, Ly.k_fa2, Ly.look1, List.mem_cons, List.not_mem_nil, or_false, true_or, or_true, e, oLt_int, hn, oNe_int]
      by_cases hd : n = d
      · subst hd
        simp_arith [Ly.v_fld, Ly.v_meth, Ly.k_me2, Ly.v_make, Ly.k_mk, Ly.v_fldset, Ly.k_fs, Ly.v_fldaug, Ly.k_fa2, Ly.look1, List.mem_cons, List.not_mem_nil, or_false, true_or, or_true, oTru_bl]
        simp
      · have : ((n : Int)) ≠ (d : Int) := by omega
        simp_arith [Ly.v_fld, Ly.v_meth, Ly.k_me2, Ly.v_make, Ly.k_mk, Ly.v_fldset, Ly.k_fs, Ly.v_fldaug, Ly.k_fa2, Ly.look1, List.mem_cons, List.not_mem_nil, or_false, true_or, or_true, this, oTru_bl, f0, oNe_str, bInt_b, oAdd_int, hcc, f1, notin_natsT]
        simp [hd]
variable {arrs : List Arr} {params : Nat} {bs : List (List Row)}
theorem ixP1 : oIx (progD arrs params bs) (.int 1) S = .ok (nD params) S := ix1'
theorem ixP2 : oIx (progD arrs params bs) (.int 2) S = .ok (.tup (bs.map blockD)) S := ix2'
theorem ixP0 : oIx (progD arrs params bs) (.int 0) S = .ok (.tup (arrs.map Arr.D)) S := ix0'
theorem fm_dec {α : Type} {P : α → Prop} [DecidablePred P] {f : α → D} {L : List α} : (L.filterMap fun r => if decide (P r) = true then some (f r) else none) = (L.filter fun r => decide (P r)).map f := by
  induction L with
  | nil => rfl
  | cons a L ih =>
    rw [List.filterMap_cons, List.filter_cons]
    by_cases e : P a
    · simp only [e, decide_true, if_true, List.map_cons, ih]
    · simp only [e, decide_false, Bool.false_eq_true, if_false, ih]
theorem writers_ok (hbs : bs.length ≤ 10) (hb : ∀ b ∈ bs, b.length ≤ 20) {d : Nat} : Wp NoX (m__law_writers [progD arrs params bs, nD d] S) fun v S' => v = nD (Wc params bs d) ∧ Kp [] S S' := by
  refine wp_def0 rfl ?_
  unfold b__law_writers
  rw [v_seq]
  simp_arith [Ly.v_fld, Ly.v_meth, Ly.k_me2, Ly.v_make, Ly.k_mk, Ly.v_fldset, Ly.k_fs, Ly.v_fldaug, Ly.k_fa2, Ly.look1, List.mem_cons, List.not_mem_nil, or_false, true_or, or_true, ixP1, oLt_int, bInt_b, -v_seq]
  rw [v_seq]
  simp_arith [Ly.v_fld, Ly.v_meth, Ly.k_me2, Ly.v_make, Ly.k_mk, Ly.v_fldset, Ly.k_fs, Ly.v_fldaug, Ly.k_fa2, Ly.look1, List.mem_cons, List.not_mem_nil, or_false, true_or, or_true, ixP2, oIt, -v_seq]
  have h0 : (if (d : Int) < (params : Int) then (1 : Int) else 0) = ((cntI params [] (d : Int) : Nat) : Int) := by
    unfold cntI
    by_cases c : (d : Int) < (params : Int)
    · rw [if_pos c, if_pos ⟨by omega, c⟩]; rfl
    · rw [if_neg c, if_neg (fun h => c h.2)]; rfl
  refine wp_tupM blockD (xs := bs) (fun pre l' S' => (∃ o3 : Option D, l' = [some (progD arrs params bs), some (nD d), some (nD (cntI params pre.flatten (d : Int))), o3, none]) ∧ Kp [] S S') ⟨⟨_, by rw [h0]; rfl⟩, Kp.refl⟩ ?_ ?_
  · rintro pre b post l' S' hsp ⟨⟨o3, rfl⟩, K⟩
    have hb2 : b ∈ bs := by rw [hsp]; simp
    have := hb b hb2
    unfold lb__law_writers_0
    simp_arith [Ly.v_fld, Ly.v_meth, Ly.k_me2, Ly.v_make, Ly.k_mk, Ly.v_fldset, Ly.k_fs, Ly.v_fldaug, Ly.k_fa2, Ly.look1, List.mem_cons, List.not_mem_nil, or_false, true_or, or_true, blockD, oIt, wipe1]
    refine lc_pure Row.D (S := S') (xs := b) (fun r => if decide (wrI r = (d : Int)) = true then some r.D else none) (fun S2 _ j hj => by simp only [itGo, List.getElem?_map]) (by omega) (fun r hr S2 k2 => ⟨_, rfl, ?_⟩) (fun S2 h2 k2 => ?_)
    · simp_arith [Ly.v_fld, Ly.v_meth, Ly.k_me2, Ly.v_make, Ly.k_mk, Ly.v_fldset, Ly.k_fs, Ly.v_fldaug, Ly.k_fa2, Ly.look1, List.mem_cons, List.not_mem_nil, or_false, true_or, or_true]
      refine Wp.call (writes_ok r) ?_
      rintro v0 _ ⟨ev, es⟩
      rw [ev, es]
      simp_arith [Ly.v_fld, Ly.v_meth, Ly.k_me2, Ly.v_make, Ly.k_mk, Ly.v_fldset, Ly.k_fs, Ly.v_fldaug, Ly.k_fa2, Ly.look1, List.mem_cons, List.not_mem_nil, or_false, true_or, or_true, oEq_int]
      refine ⟨Kp.refl, ?_⟩
      by_cases e : wrI r = (d : Int)
      · simp_arith [Ly.v_fld, Ly.v_meth, Ly.k_me2, Ly.v_make, Ly.k_mk, Ly.v_fldset, Ly.k_fs, Ly.v_fldaug, Ly.k_fa2, Ly.look1, List.mem_cons, List.not_mem_nil, or_false, true_or, or_true, e]; exact Kp.refl
      · simp [e]
    · rw [fm_dec] at h2
      simp_arith [Ly.v_fld, Ly.v_meth, Ly.k_me2, Ly.v_make, Ly.k_mk, Ly.v_fldset, Ly.k_fs, Ly.v_fldaug, Ly.k_fa2, Ly.look1, List.mem_cons, List.not_mem_nil, or_false, true_or, or_true, bLen_lst h2, List.length_map, oAdd_int]
      refine ⟨⟨some (blockD b), ?_⟩, K.trans k2⟩
      have e2 : cntI params (pre ++ [b]).flatten (d : Int) = cntI params pre.flatten (d : Int) + (b.filter fun r => decide (wrI r = (d : Int))).length := by
        unfold cntI
        simp only [List.flatten_append, List.flatten_cons, List.flatten_nil, List.append_nil, List.filter_append, List.length_append]
        omega
      rw [e2]
      rfl
  · rintro l' S' ⟨⟨o3, rfl⟩, K⟩
    simp_arith [Ly.v_fld, Ly.v_meth, Ly.k_me2, Ly.v_make, Ly.k_mk, Ly.v_fldset, Ly.k_fs, Ly.v_fldaug, Ly.k_fa2, Ly.look1, List.mem_cons, List.not_mem_nil, or_false, true_or, or_true]
    exact ⟨rfl, K⟩
end
end GK45
set_option Elab.async false
set_option linter.all false
set_option maxRecDepth 100000
namespace GK45
open PySem L2 Ly
open PySem.Spec hiding Row
open PyProof.Rows hiding St
local macro_rules | `(tactic| simp_arith [$ls,*]) => `(tactic| simp only [Ly.line_le, Ly.atX_no, Ly.v_ok, Ly.v_bad, Ly.v_bind, Ly.k_bd, Ly.v_at, Ly.v_bin, Ly.k_bi, Ly.k_bi2, Ly.v_var, Ly.v_c, Ly.v_un, Ly.k_un, Ly.v_if, Ly.k_ife, Ly.v_and, Ly.k_and, Ly.k_and2, Ly.v_or, Ly.k_or, Ly.k_or2, Ly.v_tup, Ly.k_tup, Ly.v_lst, Ly.k_lst, Ly.v_call, Ly.k_ca, Ly.v_fn, Ly.k_fn, Ly.v_bm, Ly.k_bm, Ly.k_bm2, Ly.v_sl, Ly.k_sl, Ly.k_sl2, Ly.k_sl3, Ly.v_ixK, Ly.k_ixk, Ly.v_inK, Ly.k_ink, Ly.v_notinK, Ly.k_nink, Ly.v_getK2, Ly.k_gk2, Ly.k_gk, Ly.v_get2, Ly.k_g2, Ly.k_g22, Ly.k_g23, Ly.v_nil, Ly.v_cons, Ly.k_co, Ly.k_co2, Ly.v_no, Ly.v_some, Ly.k_so, Ly.k_cm, Ly.v_cmp, Ly.v_tru, Ly.k_tr, Ly.v_notB, Ly.k_no, Ly.v_andB, Ly.k_an, Ly.v_orB, Ly.k_orb, Ly.v_yes, Ly.v_inKB, Ly.k_inkB, Ly.v_notinKB, Ly.k_ninkB, Ly.v_set, Ly.k_st, Ly.v_expr, Ly.k_ex, Ly.v_ret, Ly.k_re, Ly.v_retN, Ly.v_pass, Ly.v_brk, Ly.v_cnt, Ly.v_seq, Ly.k_sq_nx, Ly.k_sq_rt, Ly.k_sq_bk, Ly.k_sq_ct, Ly.v_ifS, Ly.k_ifs, Ly.v_asg, Ly.k_as, Ly.k_as2, Ly.v_aug, Ly.k_au, Ly.v_for, Ly.k_fo, Ly.v_it, Ly.k_it, Ly.k_ij, Ly.v_rng1, Ly.v_rng2, Ly.v_enum, Ly.v_zip, Ly.v_ez, Ly.v_gN, Ly.v_gsN, Ly.v_gsC, Ly.k_gc, Ly.v_gT, Ly.v_gTw, Ly.v_gSb, Ly.k_gsb, Ly.k_gsb2, Ly.k_gsb3, Ly.k_en_rt, Ly.k_en_nx, Ly.k_tu_nx, Ly.k_tu_ct, Ly.k_tu_bk, Ly.k_tu_rt, Ly.v_lc, Ly.k_lc, Ly.v_augI, Ly.k_ag, Ly.k_ag2, Ly.k_ag3, Ly.k_ag4, Ly.k_ag5, Ly.v_del, Ly.k_dl, Ly.k_dl2, Ly.v_setd, Ly.v_pop2, Ly.k_d3, Ly.k_d32, Ly.k_d33, Ly.v_get1, Ly.k_g1, Ly.k_g12, Ly.v_rg1, Ly.k_rg, Ly.v_rg2, Ly.k_rg2, Ly.k_rg22, Ly.v_dicK, Ly.v_dicT, Ly.v_dc, Ly.k_dc, List.getElem?_cons_zero, List.getElem?_cons_succ, List.set_cons_zero, List.set_cons_succ, List.length_cons, List.length_nil, List.map_cons, List.map_nil, List.cons_append, List.nil_append, List.replicate, if_true, if_false, Bool.false_eq_true, Bool.not_true, Bool.not_false, Bool.true_and, Bool.false_and, decide_true, decide_false, decide_eq_true_eq, Nat.zero_add, Nat.reduceAdd, Nat.reduceLeDiff, true_and, and_true, $ls,*])
section
variable {S S' S1 S2 : Hs} {cA : Nat → Addr} {b pre : List Row} {r r0 : Row} {k k2 : Vl} {n : Nat} {arrs : List Arr} {params : Nat} {bs : List (List Row)}
def okT (r : Row) : Prop := match r with
  | .op s _ _ _ => PyData.strOk s = true
  | _ => True
theorem strs_ok : PyData.strOk "op" = true ∧ PyData.strOk "select" = true ∧ PyData.strOk "load" = true ∧ PyData.strOk "copy" = true ∧ PyData.strOk "const" = true ∧ PyData.strOk "store" = true ∧ PyData.strOk "out" = true ∧ PyData.strOk "jump" = true ∧ PyData.strOk "branch" = true ∧ PyData.strOk "stop" = true := by decide +kernel
def rowL (r : Row) : List D := match r.D with | .tup ds => ds | _ => []
theorem rowL_eq : r.D = .tup (rowL r) := by cases r <;> rfl
theorem rowL_ok (h : okT r) : noBs (rowL r) = true ∧ PyData.depthAll (D.toPs (rowL r)) ≤ 30 := by
  obtain ⟨s1, s2, s3, s4, s5, s6, s7, s8, s9, s10⟩ := strs_ok
  cases r <;> simp_all [rowL, Row.D, noBs, noB, nD, D.toPs, D.toP, PyData.depthAll, PyData.depth, okT]
theorem val_ok (hr : okT r) (h : valR r = some k) : noBs (k.map kD) = true ∧ PyData.depthAll (D.toPs (k.map kD)) ≤ 30 := by
  obtain ⟨s1, s2, s3, s4, s5, s6, s7, s8, s9, s10⟩ := strs_ok
  cases r <;> simp only [valR, Option.some.injEq, reduceCtorEq] at h <;> subst h <;> simp_all [kD, noBs, noB, D.toPs, D.toP, PyData.depthAll, PyData.depth, okT]
theorem kD_inj : ∀ {a b : Key}, kD a = kD b → a = b
  | .inl a, .inl b, h => by injection h with h; rw [h]
  | .inr a, .inr b, h => by injection h with h; rw [h]
  | .inl a, .inr b, h => by cases h
  | .inr a, .inl b, h => by cases h
theorem kDs_inj : ∀ {a b : Vl}, a.map kD = b.map kD → a = b
  | [], [], _ => rfl
  | [], _ :: _, h => by cases h
  | _ :: _, [], h => by cases h
  | x :: a, y :: b, h => by
    simp only [List.map_cons] at h
    injection h with h1 h2
    rw [kD_inj h1, kDs_inj h2]
theorem eq_val (h1 : okT r) (e1 : valR r = some k) (h2 : okT r0) (e2 : valR r0 = some k2) : oEq (valD k) (valD k2) S = .ok (.bl (decide (k = k2))) S := by
  obtain ⟨a1, a2⟩ := val_ok h1 e1
  obtain ⟨b1, b2⟩ := val_ok h2 e2
  obtain ⟨b, e, hb⟩ := oEq_tups (S := S) a1 b1 a2 b2
  rw [e]
  congr 2
  rw [Bool.eq_iff_iff, hb, decide_eq_true_eq]
  exact ⟨kDs_inj, fun h => by rw [h]⟩
theorem eq_row_same (h : okT r) : oEq r.D r.D S = .ok (.bl true) S := by
  obtain ⟨a1, a2⟩ := rowL_ok h
  obtain ⟨b, e, hb⟩ := oEq_tups (S := S) a1 a1 a2 a2
  rw [rowL_eq, e, hb.mpr rfl]
theorem eq_row_copy (h : okT r) (hv : valR r = some k) {d m : Nat} : oEq (Row.copy d m).D r.D S = .ok (.bl false) S := by
  obtain ⟨a1, a2⟩ := rowL_ok h
  obtain ⟨b1, b2⟩ := rowL_ok (r := .copy d m) trivial
  obtain ⟨b, e, hb⟩ := oEq_tups (S := S) b1 a1 b2 a2
  rw [rowL_eq, rowL_eq (r := r), e]
  cases b with
  | false => rfl
  | true =>
    have := hb.mp rfl
    cases r <;> first | (cases hv; done) | (simp [rowL, Row.D, ofString_inj] at this)
theorem nil_ne {i j : Nat} {L : List Nat} (hi : S[i]? = some (.lst (nDs L))) (hj : S[j]? = some (.lst [])) : oNe (.ref i) (.ref j) S = .ok (.bl (!L.isEmpty)) S := by
  obtain ⟨b, e, hb⟩ := cEq_lsts hi hj noBs_nats rfl depth_nats (by simp [D.toPs, PyData.depthAll])
  unfold oNe
  rw [e]
  cases L with
  | nil => rw [hb.mpr rfl]; rfl
  | cons a L =>
    cases b with
    | false => rfl
    | true => have := hb.mp rfl; cases this
structure LAt (S0 S : Hs) (t q : Nat) (pre : List Row) (st : Tb × List Row) : Prop where
  there : S[t]? = some (.lst (st.1.map pD))
  rows : S[q]? = some (.lst (st.2.map Row.D))
  ht : S0.length ≤ t
  hq : S0.length ≤ q
  ne : t ≠ q
  tv : ∀ x ∈ st.1, ∃ r0, okT r0 ∧ valR r0 = some x.1
  len : st.1.length ≤ pre.length ∧ st.2.length = pre.length
  kp : Kp [] S0 S
theorem LAt.kp0 {S0 : Hs} {t q : Nat} {st : Tb × List Row} (h : LAt S0 S t q pre st) (k : Kp [] S S') : LAt S0 S' t q pre st := ⟨k.get h.there (by simp), k.get h.rows (by simp), h.ht, h.hq, h.ne, h.tv, h.len, h.kp.trans k⟩
theorem notin_lst {q : Nat} {L : List Nat} {n : Nat} (h : S[q]? = some (.lst (nDs L))) : oNotIn (nD n) (.ref q) S = .ok (.bl (!decide (n ∈ L))) S := by
  have e : cIn (nD n) (.ref q) S = some (decide (n ∈ L)) := by
    have hf : (flatD (nD n) && (nDs L).all flatD) = true := by rw [flat_nats]; rfl
    simp only [cIn, h, hf, if_true, any_nats]
  simp only [oNotIn, e]
theorem in3 {w x y z : Str} {S : Hs} : oIn (.str w) (.tup [.str x, .str y, .str z]) S = .ok (.bl (decide (w = x ∨ w = y ∨ w = z))) S := oIn_t3
theorem fm_snd {T : Tb} {k : Vl} : (T.filterMap fun x => if decide (x.1 = k) = true then some (nD x.2) else none) = nDs ((T.filter fun x => decide (x.1 = k)).map (·.2)) := by
  rw [fm_dec (P := fun x : Vl × Nat => x.1 = k) (f := fun x => nD x.2)]; simp [Function.comp_def]
theorem fm_b {α : Type} {c : α → Bool} {f : α → D} {L : List α} : (L.filterMap fun x => if c x = true then some (f x) else none) = (L.filter c).map f := by
  induction L with
  | nil => rfl
  | cons a L ih =>
    rw [List.filterMap_cons, List.filter_cons]
    cases c a with
    | true => simp only [if_true, List.map_cons, ih]
    | false => simp only [Bool.false_eq_true, if_false, ih]
theorem look_nil {T : Tb} {k : Vl} (h : lookT T k = none) : (T.filter fun x => decide (x.1 = k)).map (·.2) = [] := by
  unfold lookT at h
  rw [Option.map_eq_none_iff, List.find?_eq_none] at h
  rw [List.map_eq_nil_iff, List.filter_eq_nil_iff]
  exact h
theorem look_head {T : Tb} {k : Vl} {m : Nat} (h : lookT T k = some m) : ∃ L, (T.filter fun x => decide (x.1 = k)).map (·.2) = m :: L := by
  unfold lookT at h
  rw [Option.map_eq_some_iff] at h
  obtain ⟨x, hx, rfl⟩ := h
  rw [← List.head?_filter] at hx
  cases hf : T.filter fun x => decide (x.1 = k) with
  | nil => rw [hf] at hx; cases hx
  | cons y L =>
    rw [hf] at hx
    injection hx with hx
    subst hx
    exact ⟨L.map (·.2), rfl⟩
variable {o2 o6 o7 o8 : Option D} {out t q : Nat}
theorem lrow_ok {S0 : Hs} {st : Tb × List Row} (hbs : bs.length ≤ 10) (hb : ∀ b ∈ bs, b.length ≤ 20) (hr : okT r) (hp : pre.length ≤ 20) (h : LAt S0 S t q pre st) :
    Wp NoX (lb__law_common_0 [some (progD arrs params bs), some (.ref out), o2, some (.ref t), some (.ref q), some r.D, o6, o7, o8, none, none, none] S) fun f S' => (∃ t' o6 o7 o8, f = .nx [some (progD arrs params bs), some (.ref out), o2, some (.ref t'), some (.ref q), some r.D, o6, o7, o8, none, none, none] ∧ LAt S0 S' t' q (pre ++ [r]) (stepC (Wc params bs) st r)) := by
  obtain ⟨hth, hrows, hht, hhq, hne, htv, ⟨hl1, hl2⟩, hkp⟩ := h
  obtain ⟨w, hw, hw3, _⟩ := word3 (S := S) r
  unfold lb__law_common_0
  rw [v_seq]
  simp_arith [Ly.v_fld, Ly.v_meth, Ly.k_me2, Ly.v_make, Ly.k_mk, Ly.v_fldset, Ly.k_fs, Ly.v_fldaug, Ly.k_fa2, Ly.look1, List.mem_cons, List.not_mem_nil, or_false, true_or, or_true, -v_seq, -v_ifS]
  have half : ∀ {S1 : Hs} {new : Row} {o7 : Option D}, S1[t]? = some (.lst (st.1.map pD)) → S1[q]? = some (.lst (st.2.map Row.D)) → Kp [] S0 S1 →
      (∀ S, oEq new.D r.D S = .ok (.bl (decide (isV r = false ∨ lookT st.1 ((valR r).getD []) = none))) S) → stepC (Wc params bs) st r = (st.1.filter (staysP r) ++ (if isV r = true ∧ lookT st.1 ((valR r).getD []) = none ∧ wrN r ∉ r.rd ∧ Wc params bs (wrN r) = 1 then [((valR r).getD [], wrN r)] else []), st.2 ++ [new]) →
      Wp NoX ((mSeq (mExpr (mBM "list" oAppend (mVar 4) (lCons (mVar 6) lNil)))
    (mSeq (mSet 3 (mLc (mIt (mVar 3)) (cN 11) (mTru (mFn m__law_stays (lCons (mVar 11) (lCons (mVar 5) lNil)))) (mVar 11) [11]))
    (mSeq (mSet 8 (mFn m__law_writes (lCons (mVar 5) lNil)))
    (mIfS (mAndB (mCmp oEq (mVar 6) (mVar 5)) (mAndB (mCmp oIn (mBin oIx (mVar 5) (mC (.int 0))) (mTup (lCons (mC (.str "op")) (lCons (mC (.str "select")) (lCons (mC (.str "load")) lNil))))) (mAndB (mCmp oNotIn (mVar 8) (mFn m__law_reads (lCons (mVar 5) lNil))) (mCmp oEq (mFn m__law_writers (lCons (mVar 0) (lCons (mVar 8) lNil))) (mC (.int 1)))))) (mExpr (mBM "list" oAppend (mVar 3) (lCons (mTup (lCons (mFn m__law_value (lCons (mVar 5) lNil)) (lCons (mVar 8) lNil))) lNil))) mPass)))) [some (progD arrs params bs), some (.ref out), o2, some (.ref t), some (.ref q), some r.D, some new.D, o7, o8, none, none, none] S1) (fun f S' => (∃ t' o6 o7 o8, f = .nx [some (progD arrs params bs), some (.ref out), o2, some (.ref t'), some (.ref q), some r.D, o6, o7, o8, none, none, none] ∧ LAt S0 S' t' q (pre ++ [r]) (stepC (Wc params bs) st r))) := by
    intro S1 new o7 g1 g2 K1 heq hst
    have hq1 := Real.lt g2
    rw [v_seq]
    have happ : oAppend (.ref q) [new.D] S1 = .ok .non (S1.set q (.lst (st.2.map Row.D ++ [new.D]))) := oAppend_lst g2 (by rw [List.length_map]; exact line_big (by omega))
    simp_arith [Ly.v_fld, Ly.v_meth, Ly.k_me2, Ly.v_make, Ly.k_mk, Ly.v_fldset, Ly.k_fs, Ly.v_fldaug, Ly.k_fa2, Ly.look1, List.mem_cons, List.not_mem_nil, or_false, true_or, or_true, hasTy_lst g2, happ, -v_seq, -v_ifS]
    have b1 : (S1.set q (.lst (st.2.map Row.D ++ [new.D])))[t]? = some (.lst (st.1.map pD)) := by rw [List.getElem?_set_ne (Ne.symm hne)]; exact g1
    have b2 : (S1.set q (.lst (st.2.map Row.D ++ [new.D])))[q]? = some (.lst ((st.2 ++ [new]).map Row.D)) := by rw [List.getElem?_set_self hq1]; simp
    have K2 : Kp [] S0 (S1.set q (.lst (st.2.map Row.D ++ [new.D]))) := K1.setNew hhq
    generalize S1.set q (.lst (st.2.map Row.D ++ [new.D])) = S2 at *
    rw [v_seq]
    simp_arith [Ly.v_fld, Ly.v_meth, Ly.k_me2, Ly.v_make, Ly.k_mk, Ly.v_fldset, Ly.k_fs, Ly.v_fldaug, Ly.k_fa2, Ly.look1, List.mem_cons, List.not_mem_nil, or_false, true_or, or_true, oIt_lst b1, wipe1, -v_seq, -v_ifS]
    refine lc_pure pD (S := S2) (xs := st.1) (fun x => if staysP r x = true then some (pD x) else none) (fun S' k' j hj => by simp only [itGo, seqAt_lst (k'.get b1 (by simp)), Option.map_some, List.getElem?_map]) (by omega) (fun x hx S' k' => ⟨_, rfl, ?_⟩) (fun S3 h3 k3 => ?_)
    · obtain ⟨r0, _, hv0⟩ := htv x hx
      simp_arith [Ly.v_fld, Ly.v_meth, Ly.k_me2, Ly.v_make, Ly.k_mk, Ly.v_fldset, Ly.k_fs, Ly.v_fldaug, Ly.k_fa2, Ly.look1, List.mem_cons, List.not_mem_nil, or_false, true_or, or_true]
      refine Wp.call (stays_ok (r := r) (n := x.2) hv0) ?_
      rintro v0 _ ⟨ev, es⟩
      rw [ev, es]
      simp_arith [Ly.v_fld, Ly.v_meth, Ly.k_me2, Ly.v_make, Ly.k_mk, Ly.v_fldset, Ly.k_fs, Ly.v_fldaug, Ly.k_fa2, Ly.look1, List.mem_cons, List.not_mem_nil, or_false, true_or, or_true, oTru_bl]
      have e0 : staysP r x = staysP r (x.1, x.2) := rfl
      rw [e0]
      refine ⟨Kp.refl, ?_⟩
      cases staysP r (x.1, x.2) with
      | true => simp only [if_true]; exact ⟨Kp.refl, trivial⟩
      | false => simp
    · rw [fm_b] at h3
      have ht3 := Real.lt h3
      have c2 := k3.get b2 (by simp)
      have hlt : (st.1.filter (staysP r)).length ≤ st.1.length := List.length_filter_le ..
      have K3 := K2.trans k3
      have htq : S2.length ≠ q := by have := Real.lt b2; omega
      simp_arith [Ly.v_fld, Ly.v_meth, Ly.k_me2, Ly.v_make, Ly.k_mk, Ly.v_fldset, Ly.k_fs, Ly.v_fldaug, Ly.k_fa2, Ly.look1, List.mem_cons, List.not_mem_nil, or_false, true_or, or_true, -v_seq, -v_ifS]
      rw [v_seq]
      simp_arith [Ly.v_fld, Ly.v_meth, Ly.k_me2, Ly.v_make, Ly.k_mk, Ly.v_fldset, Ly.k_fs, Ly.v_fldaug, Ly.k_fa2, Ly.look1, List.mem_cons, List.not_mem_nil, or_false, true_or, or_true, -v_seq, -v_ifS]
      refine Wp.call (writes_ok r) ?_
      rintro v0 S4 ⟨ev, es⟩
      rw [ev, es]
      have tv2 : ∀ x ∈ st.1.filter (staysP r), ∃ r0, okT r0 ∧ valR r0 = some x.1 := fun x hx => htv x (List.mem_filter.mp hx).1
      have fin : stepC (Wc params bs) st r = (st.1.filter (staysP r), st.2 ++ [new]) → LAt S0 S3 S2.length q (pre ++ [r]) (stepC (Wc params bs) st r) := fun e => by
        rw [e]
        exact ⟨h3, c2, K2.le, hhq, htq, tv2, ⟨by simp; omega, by simp [hl2]⟩, K3⟩
      simp_arith [Ly.v_fld, Ly.v_meth, Ly.k_me2, Ly.v_make, Ly.k_mk, Ly.v_fldset, Ly.k_fs, Ly.v_fldaug, Ly.k_fa2, Ly.look1, List.mem_cons, List.not_mem_nil, or_false, true_or, or_true, heq]
      by_cases hA : isV r = false ∨ lookT st.1 ((valR r).getD []) = none
      · simp_arith [Ly.v_fld, Ly.v_meth, Ly.k_me2, Ly.v_make, Ly.k_mk, Ly.v_fldset, Ly.k_fs, Ly.v_fldaug, Ly.k_fa2, Ly.look1, List.mem_cons, List.not_mem_nil, or_false, true_or, or_true, hA, hw, in3]
        by_cases hB : isV r = true
        · have hw2 := hw3.mpr hB
          obtain ⟨k, hk, hwr⟩ := isV_some hB
          have hlk : lookT st.1 k = none := by
            rcases hA with c | c
            · rw [hB] at c; cases c
            · rw [hk] at c; exact c
          have hwI : wrI r = ((wrN r : Nat) : Int) := by unfold wrI; rw [hwr]
          simp_arith [Ly.v_fld, Ly.v_meth, Ly.k_me2, Ly.v_make, Ly.k_mk, Ly.v_fldset, Ly.k_fs, Ly.v_fldaug, Ly.k_fa2, Ly.look1, List.mem_cons, List.not_mem_nil, or_false, true_or, or_true, hw2]
          refine Wp.call (reads_ok r) ?_
          rintro _ S5 ⟨q5, rfl, g5, k5⟩
          rw [hwI]
          simp_arith [Ly.v_fld, Ly.v_meth, Ly.k_me2, Ly.v_make, Ly.k_mk, Ly.v_fldset, Ly.k_fs, Ly.v_fldaug, Ly.k_fa2, Ly.look1, List.mem_cons, List.not_mem_nil, or_false, true_or, or_true, notin_lst g5]
          by_cases hC : wrN r ∈ r.rd
          · simp_arith [Ly.v_fld, Ly.v_meth, Ly.k_me2, Ly.v_make, Ly.k_mk, Ly.v_fldset, Ly.k_fs, Ly.v_fldaug, Ly.k_fa2, Ly.look1, List.mem_cons, List.not_mem_nil, or_false, true_or, or_true, hC]
            have e1 : stepC (Wc params bs) st r = (st.1.filter (staysP r), st.2 ++ [new]) := by rw [hst, if_neg (fun c => c.2.2.1 hC), List.append_nil]
            have := fin e1
            exact ⟨_, _, _, _, rfl, this.kp0 k5⟩
          · simp_arith [Ly.v_fld, Ly.v_meth, Ly.k_me2, Ly.v_make, Ly.k_mk, Ly.v_fldset, Ly.k_fs, Ly.v_fldaug, Ly.k_fa2, Ly.look1, List.mem_cons, List.not_mem_nil, or_false, true_or, or_true, hC]
            refine Wp.call (writers_ok hbs hb) ?_
            rintro _ S6 ⟨rfl, k6⟩
            have e0 : oEq (nD (Wc params bs (wrN r))) (.int 1) S6 = .ok (.bl (decide (Wc params bs (wrN r) = 1))) S6 := by
              rw [oEq_int]; congr 2; exact decide_eq_decide.mpr (by omega)
            simp_arith [Ly.v_fld, Ly.v_meth, Ly.k_me2, Ly.v_make, Ly.k_mk, Ly.v_fldset, Ly.k_fs, Ly.v_fldaug, Ly.k_fa2, Ly.look1, List.mem_cons, List.not_mem_nil, or_false, true_or, or_true, e0]
            by_cases hD : Wc params bs (wrN r) = 1
            · have k56 := k5.trans k6
              have h6 := k56.get h3 (by simp)
              have c6 := k56.get c2 (by simp)
              simp_arith [Ly.v_fld, Ly.v_meth, Ly.k_me2, Ly.v_make, Ly.k_mk, Ly.v_fldset, Ly.k_fs, Ly.v_fldaug, Ly.k_fa2, Ly.look1, List.mem_cons, List.not_mem_nil, or_false, true_or, or_true, hD, hasTy_lst h6]
              refine Wp.call (lvalue_ok hk) ?_
              rintro v7 S7 ⟨ev, es⟩
              rw [ev, es]
              have happ2 : oAppend (.ref S2.length) [.tup [valD k, nD (wrN r)]] S6 = .ok .non (S6.set S2.length (.lst ((st.1.filter (staysP r)).map pD ++ [.tup [valD k, nD (wrN r)]]))) := oAppend_lst h6 (by rw [List.length_map]; exact line_big (by omega))
              simp_arith [Ly.v_fld, Ly.v_meth, Ly.k_me2, Ly.v_make, Ly.k_mk, Ly.v_fldset, Ly.k_fs, Ly.v_fldaug, Ly.k_fa2, Ly.look1, List.mem_cons, List.not_mem_nil, or_false, true_or, or_true, happ2]
              have e1 : stepC (Wc params bs) st r = (st.1.filter (staysP r) ++ [(k, wrN r)], st.2 ++ [new]) := by rw [hst, if_pos ⟨hB, by rw [hk]; exact hlk, hC, hD⟩, hk]; rfl
              rw [e1]
              refine ⟨_, _, _, _, rfl, ?_, by rw [List.getElem?_set_ne htq]; exact c6, K2.le, hhq, htq, fun x hx => ?_, ⟨by simp; omega, by simp [hl2]⟩, (K3.trans k56).setNew K2.le⟩
              · rw [List.getElem?_set_self (Real.lt h6)]; simp [pD]
              · rcases List.mem_append.mp hx with c | c
                · exact tv2 x c
                · simp at c; subst c; exact ⟨r, hr, hk⟩
            · simp_arith [Ly.v_fld, Ly.v_meth, Ly.k_me2, Ly.v_make, Ly.k_mk, Ly.v_fldset, Ly.k_fs, Ly.v_fldaug, Ly.k_fa2, Ly.look1, List.mem_cons, List.not_mem_nil, or_false, true_or, or_true, hD]
              have e1 : stepC (Wc params bs) st r = (st.1.filter (staysP r), st.2 ++ [new]) := by rw [hst, if_neg (fun c => hD c.2.2.2), List.append_nil]
              exact ⟨_, _, _, _, rfl, (fin e1).kp0 (k5.trans k6)⟩
        · have hw2 : ¬ (w = "op" ∨ w = "select" ∨ w = "load") := fun c => hB (hw3.mp c)
          simp_arith [Ly.v_fld, Ly.v_meth, Ly.k_me2, Ly.v_make, Ly.k_mk, Ly.v_fldset, Ly.k_fs, Ly.v_fldaug, Ly.k_fa2, Ly.look1, List.mem_cons, List.not_mem_nil, or_false, true_or, or_true, hw2]
          have e1 : stepC (Wc params bs) st r = (st.1.filter (staysP r), st.2 ++ [new]) := by rw [hst, if_neg (fun c => hB c.1), List.append_nil]
          exact ⟨_, _, _, _, rfl, fin e1⟩
      · simp_arith [Ly.v_fld, Ly.v_meth, Ly.k_me2, Ly.v_make, Ly.k_mk, Ly.v_fldset, Ly.k_fs, Ly.v_fldaug, Ly.k_fa2, Ly.look1, List.mem_cons, List.not_mem_nil, or_false, true_or, or_true, hA]
        have e1 : stepC (Wc params bs) st r = (st.1.filter (staysP r), st.2 ++ [new]) := by rw [hst, if_neg (fun c => hA (.inr c.2.1)), List.append_nil]
        exact ⟨_, _, _, _, rfl, fin e1⟩
  rw [v_seq]
  simp_arith [Ly.v_fld, Ly.v_meth, Ly.k_me2, Ly.v_make, Ly.k_mk, Ly.v_fldset, Ly.k_fs, Ly.v_fldaug, Ly.k_fa2, Ly.look1, List.mem_cons, List.not_mem_nil, or_false, true_or, or_true, hw, in3, -v_seq]
  by_cases hB : isV r = true
  · have hw2 := hw3.mpr hB
    obtain ⟨k, hk, hwr⟩ := isV_some hB
    have hwI : wrI r = ((wrN r : Nat) : Int) := by unfold wrI; rw [hwr]
    simp_arith [Ly.v_fld, Ly.v_meth, Ly.k_me2, Ly.v_make, Ly.k_mk, Ly.v_fldset, Ly.k_fs, Ly.v_fldaug, Ly.k_fa2, Ly.look1, List.mem_cons, List.not_mem_nil, or_false, true_or, or_true, hw2, oIt_lst hth, -v_seq, -v_ifS]
    rw [v_seq]
    simp_arith [Ly.v_fld, Ly.v_meth, Ly.k_me2, Ly.v_make, Ly.k_mk, Ly.v_fldset, Ly.k_fs, Ly.v_fldaug, Ly.k_fa2, Ly.look1, List.mem_cons, List.not_mem_nil, or_false, true_or, or_true, oIt_lst hth, wipeL, -v_seq, -v_ifS]
    refine lc_pure pD (S := S) (xs := st.1) (fun x => if decide (x.1 = k) = true then some (nD x.2) else none) (fun S' k' j hj => by simp only [itGo, seqAt_lst (k'.get hth (by simp)), Option.map_some, List.getElem?_map]) (by omega) (fun x hx S' k' => ⟨_, rfl, ?_⟩) (fun S3 h3 k3 => ?_)
    · obtain ⟨r0, h0, hv0⟩ := htv x hx
      simp_arith [Ly.v_fld, Ly.v_meth, Ly.k_me2, Ly.v_make, Ly.k_mk, Ly.v_fldset, Ly.k_fs, Ly.v_fldaug, Ly.k_fa2, Ly.look1, List.mem_cons, List.not_mem_nil, or_false, true_or, or_true, List.zip, List.zipWith, List.foldl_cons, List.foldl_nil]
      refine Wp.call (lvalue_ok hk) ?_
      rintro v0 S0 ⟨ev, es⟩
      rw [ev, es]
      simp_arith [Ly.v_fld, Ly.v_meth, Ly.k_me2, Ly.v_make, Ly.k_mk, Ly.v_fldset, Ly.k_fs, Ly.v_fldaug, Ly.k_fa2, Ly.look1, List.mem_cons, List.not_mem_nil, or_false, true_or, or_true, eq_val h0 hv0 hr hk]
      refine ⟨Kp.refl, ?_⟩
      by_cases e : x.1 = k
      · simp_arith [Ly.v_fld, Ly.v_meth, Ly.k_me2, Ly.v_make, Ly.k_mk, Ly.v_fldset, Ly.k_fs, Ly.v_fldaug, Ly.k_fa2, Ly.look1, List.mem_cons, List.not_mem_nil, or_false, true_or, or_true, e]; exact Kp.refl
      · simp [e]
    · rw [fm_snd] at h3
      have q1 := Kp.get (A := []) (Kp.new (g := [O.lst []])) h3 (by simp)
      have q2 : (S3 ++ [O.lst []])[S3.length]? = some (.lst []) := get_end
      have K3 : Kp [] S (S3 ++ [O.lst []]) := k3.trans Kp.new
      have g1 := K3.get hth (by simp)
      have g2 := K3.get hrows (by simp)
      simp_arith [Ly.v_fld, Ly.v_meth, Ly.k_me2, Ly.v_make, Ly.k_mk, Ly.v_fldset, Ly.k_fs, Ly.v_fldaug, Ly.k_fa2, Ly.look1, List.mem_cons, List.not_mem_nil, or_false, true_or, or_true, nil_ne q1 q2, -v_seq]
      cases hl : lookT st.1 k with
      | none =>
        simp_arith [Ly.v_fld, Ly.v_meth, Ly.k_me2, Ly.v_make, Ly.k_mk, Ly.v_fldset, Ly.k_fs, Ly.v_fldaug, Ly.k_fa2, Ly.look1, List.mem_cons, List.not_mem_nil, or_false, true_or, or_true, look_nil hl, List.isEmpty_nil, -v_seq, -v_ifS]
        refine half (new := r) g1 g2 (hkp.trans K3) (fun S => ?_) ?_
        · rw [eq_row_same hr, hk]; simp [hl]
        · unfold stepC
          rw [hk]
          simp [hl, hB]
      | some m =>
        obtain ⟨L, hL⟩ := look_head hl
        rw [hL] at q1 ⊢
        have hix : oIx (.ref S.length) (.int 0) (S3 ++ [O.lst []]) = .ok (nD m) (S3 ++ [O.lst []]) := oIx_lst q1 (by decide) (by simp) rfl
        simp_arith [Ly.v_fld, Ly.v_meth, Ly.k_me2, Ly.v_make, Ly.k_mk, Ly.v_fldset, Ly.k_fs, Ly.v_fldaug, Ly.k_fa2, Ly.look1, List.mem_cons, List.not_mem_nil, or_false, true_or, or_true, List.isEmpty_cons, -v_seq, -v_ifS]
        refine Wp.call (writes_ok r) ?_
        rintro v0 S0 ⟨ev, es⟩
        rw [ev, es, hwI]
        simp_arith [Ly.v_fld, Ly.v_meth, Ly.k_me2, Ly.v_make, Ly.k_mk, Ly.v_fldset, Ly.k_fs, Ly.v_fldaug, Ly.k_fa2, Ly.look1, List.mem_cons, List.not_mem_nil, or_false, true_or, or_true, hix, -v_seq, -v_ifS]
        refine half (new := .copy (wrN r) m) g1 g2 (hkp.trans K3) (fun S => ?_) ?_
        · rw [eq_row_copy hr hk, hk]; simp [hl, hB]
        · unfold stepC
          rw [hk]
          simp [hl]
  · have hw2 : ¬ (w = "op" ∨ w = "select" ∨ w = "load") := fun c => hB (hw3.mp c)
    have hBf : isV r = false := by cases h : isV r <;> simp_all
    have hvn : valR r = none := by cases h : valR r <;> simp_all [isV]
    simp_arith [Ly.v_fld, Ly.v_meth, Ly.k_me2, Ly.v_make, Ly.k_mk, Ly.v_fldset, Ly.k_fs, Ly.v_fldaug, Ly.k_fa2, Ly.look1, List.mem_cons, List.not_mem_nil, or_false, true_or, or_true, hw2, -v_seq, -v_ifS]
    refine half (new := r) hth hrows hkp (fun S => ?_) ?_
    · rw [eq_row_same hr]; simp [hBf]
    · unfold stepC; rw [hvn]; simp [hBf]
end
end GK45
set_option Elab.async false
set_option linter.all false
set_option maxRecDepth 100000
namespace GK45
open PySem L2 Ly
open PySem.Spec hiding Row
open PyProof.Rows hiding St
local macro_rules | `(tactic| simp_arith [$ls,*]) => `(tactic| simp only [Ly.line_le, Ly.atX_no, Ly.v_ok, Ly.v_bad, Ly.v_bind, Ly.k_bd, Ly.v_at, Ly.v_bin, Ly.k_bi, Ly.k_bi2, Ly.v_var, Ly.v_c, Ly.v_un, Ly.k_un, Ly.v_if, Ly.k_ife, Ly.v_and, Ly.k_and, Ly.k_and2, Ly.v_or, Ly.k_or, Ly.k_or2, Ly.v_tup, Ly.k_tup, Ly.v_lst, Ly.k_lst, Ly.v_call, Ly.k_ca, Ly.v_fn, Ly.k_fn, Ly.v_bm, Ly.k_bm, Ly.k_bm2, Ly.v_sl, Ly.k_sl, Ly.k_sl2, Ly.k_sl3, Ly.v_ixK, Ly.k_ixk, Ly.v_inK, Ly.k_ink, Ly.v_notinK, Ly.k_nink, Ly.v_getK2, Ly.k_gk2, Ly.k_gk, Ly.v_get2, Ly.k_g2, Ly.k_g22, Ly.k_g23, Ly.v_nil, Ly.v_cons, Ly.k_co, Ly.k_co2, Ly.v_no, Ly.v_some, Ly.k_so, Ly.k_cm, Ly.v_cmp, Ly.v_tru, Ly.k_tr, Ly.v_notB, Ly.k_no, Ly.v_andB, Ly.k_an, Ly.v_orB, Ly.k_orb, Ly.v_yes, Ly.v_inKB, Ly.k_inkB, Ly.v_notinKB, Ly.k_ninkB, Ly.v_set, Ly.k_st, Ly.v_expr, Ly.k_ex, Ly.v_ret, Ly.k_re, Ly.v_retN, Ly.v_pass, Ly.v_brk, Ly.v_cnt, Ly.v_seq, Ly.k_sq_nx, Ly.k_sq_rt, Ly.k_sq_bk, Ly.k_sq_ct, Ly.v_ifS, Ly.k_ifs, Ly.v_asg, Ly.k_as, Ly.k_as2, Ly.v_aug, Ly.k_au, Ly.v_for, Ly.k_fo, Ly.v_it, Ly.k_it, Ly.k_ij, Ly.v_rng1, Ly.v_rng2, Ly.v_enum, Ly.v_zip, Ly.v_ez, Ly.v_gN, Ly.v_gsN, Ly.v_gsC, Ly.k_gc, Ly.v_gT, Ly.v_gTw, Ly.v_gSb, Ly.k_gsb, Ly.k_gsb2, Ly.k_gsb3, Ly.k_en_rt, Ly.k_en_nx, Ly.k_tu_nx, Ly.k_tu_ct, Ly.k_tu_bk, Ly.k_tu_rt, Ly.v_lc, Ly.k_lc, Ly.v_augI, Ly.k_ag, Ly.k_ag2, Ly.k_ag3, Ly.k_ag4, Ly.k_ag5, Ly.v_del, Ly.k_dl, Ly.k_dl2, Ly.v_setd, Ly.v_pop2, Ly.k_d3, Ly.k_d32, Ly.k_d33, Ly.v_get1, Ly.k_g1, Ly.k_g12, Ly.v_rg1, Ly.k_rg, Ly.v_rg2, Ly.k_rg2, Ly.k_rg22, Ly.v_dicK, Ly.v_dicT, Ly.v_dc, Ly.k_dc, List.getElem?_cons_zero, List.getElem?_cons_succ, List.set_cons_zero, List.set_cons_succ, List.length_cons, List.length_nil, List.map_cons, List.map_nil, List.cons_append, List.nil_append, List.replicate, if_true, if_false, Bool.false_eq_true, Bool.not_true, Bool.not_false, Bool.true_and, Bool.false_and, decide_true, decide_false, decide_eq_true_eq, Nat.zero_add, Nat.reduceAdd, Nat.reduceLeDiff, true_and, and_true, $ls,*])
section
variable {S S' S1 S2 : Hs} {cA : Nat → Addr} {b pre : List Row} {r r0 : Row} {k k2 : Vl} {n : Nat} {arrs : List Arr} {params : Nat} {bs : List (List Row)}
theorem lcommon_ok (hbs : bs.length ≤ 10) (hb : ∀ b ∈ bs, b.length ≤ 20) (hr : ∀ b ∈ bs, ∀ r ∈ b, okT r) : Wp NoX (m__law_common [progD arrs params bs] S) fun v S' => v = progD arrs params (bs.map (rowsC (Wc params bs))) ∧ Kp [] S S' := by
  refine wp_def0 rfl ?_
  unfold b__law_common
  rw [v_seq]
  simp_arith [Ly.v_fld, Ly.v_meth, Ly.k_me2, Ly.v_make, Ly.k_mk, Ly.v_fldset, Ly.k_fs, Ly.v_fldaug, Ly.k_fa2, Ly.look1, List.mem_cons, List.not_mem_nil, or_false, true_or, or_true, -v_seq]
  have h0 : (S ++ [O.lst []])[S.length]? = some (.lst []) := get_end
  have K0 : Kp [] S (S ++ [O.lst []]) := Kp.new
  generalize S ++ [O.lst []] = S1 at *
  rw [v_seq]
  simp_arith [Ly.v_fld, Ly.v_meth, Ly.k_me2, Ly.v_make, Ly.k_mk, Ly.v_fldset, Ly.k_fs, Ly.v_fldaug, Ly.k_fa2, Ly.look1, List.mem_cons, List.not_mem_nil, or_false, true_or, or_true, ixP2, oIt, -v_seq]
  refine wp_tupM blockD (xs := bs) (fun pre l' S' => (∃ o2 o3 o4 o5 o6 o7 o8 : Option D, l' = [some (progD arrs params bs), some (.ref S.length), o2, o3, o4, o5, o6, o7, o8, none, none, none]) ∧ S'[S.length]? = some (.lst ((pre.map (rowsC (Wc params bs))).map blockD)) ∧ Kp [] S S') ⟨⟨_, _, _, _, _, _, _, rfl⟩, h0, K0⟩ ?_ ?_
  · rintro pre b post l' S' hsp ⟨⟨o2, o3, o4, o5, o6, o7, o8, rfl⟩, hq, K⟩
    have hb2 : b ∈ bs := by rw [hsp]; simp
    have hpl : pre.length ≤ 10 := by have := congrArg List.length hsp; simp at this; omega
    unfold lb__law_common_1
    simp_arith [Ly.v_fld, Ly.v_meth, Ly.k_me2, Ly.v_make, Ly.k_mk, Ly.v_fldset, Ly.k_fs, Ly.v_fldaug, Ly.k_fa2, Ly.look1, List.mem_cons, List.not_mem_nil, or_false, true_or, or_true, -v_seq]
    rw [v_seq]
    simp_arith [Ly.v_fld, Ly.v_meth, Ly.k_me2, Ly.v_make, Ly.k_mk, Ly.v_fldset, Ly.k_fs, Ly.v_fldaug, Ly.k_fa2, Ly.look1, List.mem_cons, List.not_mem_nil, or_false, true_or, or_true, -v_seq]
    rw [v_seq]
    simp_arith [Ly.v_fld, Ly.v_meth, Ly.k_me2, Ly.v_make, Ly.k_mk, Ly.v_fldset, Ly.k_fs, Ly.v_fldaug, Ly.k_fa2, Ly.look1, List.mem_cons, List.not_mem_nil, or_false, true_or, or_true, -v_seq]
    rw [v_seq]
    simp_arith [Ly.v_fld, Ly.v_meth, Ly.k_me2, Ly.v_make, Ly.k_mk, Ly.v_fldset, Ly.k_fs, Ly.v_fldaug, Ly.k_fa2, Ly.look1, List.mem_cons, List.not_mem_nil, or_false, true_or, or_true, blockD, oIt, -v_seq]
    have hl : (S' ++ [O.lst []]).length = S'.length + 1 := by simp
    have t0 : ((S' ++ [O.lst []]) ++ [O.lst []])[S'.length]? = some (.lst []) := by rw [List.getElem?_append_left (by simp)]; exact get_end
    have q0 : ((S' ++ [O.lst []]) ++ [O.lst []])[S'.length + 1]? = some (.lst []) := by rw [← hl]; exact get_end
    have Kq : Kp [] S' ((S' ++ [O.lst []]) ++ [O.lst []]) := Kp.new.trans Kp.new
    generalize (S' ++ [O.lst []]) ++ [O.lst []] = S2 at *
    refine wp_tupM Row.D (xs := b) (fun pre2 l' S3 => ∃ t o5 o6 o7 o8, l' = [some (progD arrs params bs), some (.ref S.length), some (blockD b), some (.ref t), some (.ref (S'.length + 1)), o5, o6, o7, o8, none, none, none] ∧ LAt S' S3 t (S'.length + 1) pre2 (pre2.foldl (stepC (Wc params bs)) ([], []))) ⟨S'.length, _, _, _, _, by rw [hl], t0, q0, Nat.le_refl _, by omega, by omega, fun x hx => (by cases hx), ⟨by simp, rfl⟩, Kq⟩ ?_ ?_
    · rintro pre2 x post2 l' S3 hsp2 ⟨t, o5, o6, o7, o8, rfl, h⟩
      have hx : x ∈ b := by rw [hsp2]; simp
      have hpl2 : pre2.length ≤ 20 := by have := hb b hb2; have := congrArg List.length hsp2; simp at this; omega
      simp_arith [Ly.v_fld, Ly.v_meth, Ly.k_me2, Ly.v_make, Ly.k_mk, Ly.v_fldset, Ly.k_fs, Ly.v_fldaug, Ly.k_fa2, Ly.look1, List.mem_cons, List.not_mem_nil, or_false, true_or, or_true]
      refine Wp.call (lrow_ok (r := x) hbs hb (hr b hb2 x hx) hpl2 h) ?_
      rintro f S4 ⟨t', o6, o7, o8, rfl, h2⟩
      rw [List.foldl_append]
      exact ⟨_, _, _, _, _, rfl, h2⟩
    · rintro l' S3 ⟨t, o5, o6, o7, o8, rfl, h⟩
      have hq3 := h.kp.get hq (by simp)
      simp_arith [Ly.v_fld, Ly.v_meth, Ly.k_me2, Ly.v_make, Ly.k_mk, Ly.v_fldset, Ly.k_fs, Ly.v_fldaug, Ly.k_fa2, Ly.look1, List.mem_cons, List.not_mem_nil, or_false, true_or, or_true, bTuple_lst h.rows, hasTy_lst hq3, oAppend_lst hq3 (by simp only [List.length_map]; exact line_big (by omega))]
      refine ⟨⟨_, _, _, _, _, _, _, rfl⟩, ?_, (K.trans h.kp).setNew (Nat.le_refl _)⟩
      rw [List.getElem?_set_self (Real.lt hq3)]
      simp [blockD, rowsC]
  · rintro l' S' ⟨⟨o2, o3, o4, o5, o6, o7, o8, rfl⟩, hq, K⟩
    simp_arith [Ly.v_fld, Ly.v_meth, Ly.k_me2, Ly.v_make, Ly.k_mk, Ly.v_fldset, Ly.k_fs, Ly.v_fldaug, Ly.k_fa2, Ly.look1, List.mem_cons, List.not_mem_nil, or_false, true_or, or_true, ixP0, ixP1, bTuple_lst hq]
    exact ⟨rfl, K⟩
end
end GK45
set_option Elab.async false
set_option linter.all false
set_option maxRecDepth 100000
namespace GK45
open PySem L2 Ly
open PySem.Spec hiding Row
open PyProof.Rows hiding St
local macro_rules | `(tactic| simp_arith [$ls,*]) => `(tactic| simp only [Ly.line_le, Ly.atX_no, Ly.v_ok, Ly.v_bad, Ly.v_bind, Ly.k_bd, Ly.v_at, Ly.v_bin, Ly.k_bi, Ly.k_bi2, Ly.v_var, Ly.v_c, Ly.v_un, Ly.k_un, Ly.v_if, Ly.k_ife, Ly.v_and, Ly.k_and, Ly.k_and2, Ly.v_or, Ly.k_or, Ly.k_or2, Ly.v_tup, Ly.k_tup, Ly.v_lst, Ly.k_lst, Ly.v_call, Ly.k_ca, Ly.v_fn, Ly.k_fn, Ly.v_bm, Ly.k_bm, Ly.k_bm2, Ly.v_sl, Ly.k_sl, Ly.k_sl2, Ly.k_sl3, Ly.v_ixK, Ly.k_ixk, Ly.v_inK, Ly.k_ink, Ly.v_notinK, Ly.k_nink, Ly.v_getK2, Ly.k_gk2, Ly.k_gk, Ly.v_get2, Ly.k_g2, Ly.k_g22, Ly.k_g23, Ly.v_nil, Ly.v_cons, Ly.k_co, Ly.k_co2, Ly.v_no, Ly.v_some, Ly.k_so, Ly.k_cm, Ly.v_cmp, Ly.v_tru, Ly.k_tr, Ly.v_notB, Ly.k_no, Ly.v_andB, Ly.k_an, Ly.v_orB, Ly.k_orb, Ly.v_yes, Ly.v_inKB, Ly.k_inkB, Ly.v_notinKB, Ly.k_ninkB, Ly.v_set, Ly.k_st, Ly.v_expr, Ly.k_ex, Ly.v_ret, Ly.k_re, Ly.v_retN, Ly.v_pass, Ly.v_brk, Ly.v_cnt, Ly.v_seq, Ly.k_sq_nx, Ly.k_sq_rt, Ly.k_sq_bk, Ly.k_sq_ct, Ly.v_ifS, Ly.k_ifs, Ly.v_asg, Ly.k_as, Ly.k_as2, Ly.v_aug, Ly.k_au, Ly.v_for, Ly.k_fo, Ly.v_it, Ly.k_it, Ly.k_ij, Ly.v_rng1, Ly.v_rng2, Ly.v_enum, Ly.v_zip, Ly.v_ez, Ly.v_gN, Ly.v_gsN, Ly.v_gsC, Ly.k_gc, Ly.v_gT, Ly.v_gTw, Ly.v_gSb, Ly.k_gsb, Ly.k_gsb2, Ly.k_gsb3, Ly.k_en_rt, Ly.k_en_nx, Ly.k_tu_nx, Ly.k_tu_ct, Ly.k_tu_bk, Ly.k_tu_rt, Ly.v_lc, Ly.k_lc, Ly.v_augI, Ly.k_ag, Ly.k_ag2, Ly.k_ag3, Ly.k_ag4, Ly.k_ag5, Ly.v_del, Ly.k_dl, Ly.k_dl2, Ly.v_setd, Ly.v_pop2, Ly.k_d3, Ly.k_d32, Ly.k_d33, Ly.v_get1, Ly.k_g1, Ly.k_g12, Ly.v_rg1, Ly.k_rg, Ly.v_rg2, Ly.k_rg2, Ly.k_rg22, Ly.v_dicK, Ly.v_dicT, Ly.v_dc, Ly.k_dc, List.getElem?_cons_zero, List.getElem?_cons_succ, List.set_cons_zero, List.set_cons_succ, List.length_cons, List.length_nil, List.map_cons, List.map_nil, List.cons_append, List.nil_append, List.replicate, if_true, if_false, Bool.false_eq_true, Bool.not_true, Bool.not_false, Bool.true_and, Bool.false_and, decide_true, decide_false, decide_eq_true_eq, Nat.zero_add, Nat.reduceAdd, Nat.reduceLeDiff, true_and, and_true, $ls,*])
section
variable {S S' S1 S2 : Hs} {i j q out : Nat} {row : List Int} {rs : List Row} {r : Row} {l : Ls} {g : M} {n : Int} {X : XP} {Q : D → Hs → Prop} {P B : D} {o6 o7 : Option D}
theorem takeL (h : TkA S i j row) (hn : 0 < n) (hg : ∀ S', Kp [i] S S' → g l S' = .ok (.int n) S') (H : ∀ (k : Nat) S', (k : Int) < n → TkA S' i j row → Kp [i] S S' → Q (nD k) S') :
    Wp X (mT_take [.ref i] S) (biK X oMod g l Q) := by
  refine Wp.call (take_ok h) ?_
  rintro _ S' ⟨k, rfl, h', u⟩
  rw [k_bi, hg _ u]
  simp_arith [oMod_int hn]
  have e : D.int (k % n) = nD (k % n).toNat := by unfold nD; rw [Int.toNat_of_nonneg (Int.emod_nonneg _ (by omega))]
  rw [e]
  have h1 := Int.emod_nonneg k (show n ≠ 0 by omega)
  have h2 := Int.emod_lt_of_pos k hn
  exact H _ S' (by omega) h' u
theorem again_row (h : TkA S i j row) (hq : S[q]? = some (.lst (rs.map Row.D))) (hqi : q ≠ i) (hqj : q ≠ j) (hr : okT r) (hrs : ∀ x ∈ rs, okT x) (hl : rs.length ≤ 40) :
    Wp NoX (lb__law_again_0 [some (.ref i), some P, some (.ref out), some B, some (.ref q), some r.D, o6, o7] S) fun f S' => ∃ (rs' : List Row) (o6 o7 : Option D), f = .nx [some (.ref i), some P, some (.ref out), some B, some (.ref q), some r.D, o6, o7] ∧ S'[q]? = some (.lst (rs'.map Row.D)) ∧ (∀ x ∈ rs', okT x) ∧ (rs.length < rs'.length ∧ rs'.length ≤ rs.length + 2) ∧ TkA S' i j row ∧ Kp [i, q] S S' := by
  unfold lb__law_again_0
  rw [v_seq]
  simp_arith [Ly.v_fld, Ly.v_meth, Ly.k_me2, Ly.v_make, Ly.k_mk, Ly.v_fldset, Ly.k_fs, Ly.v_fldaug, Ly.k_fa2, Ly.look1, List.mem_cons, List.not_mem_nil, or_false, true_or, or_true, hasTy_lst hq, oAppend_lst hq (by rw [List.length_map]; exact line_big (by omega)), -v_seq, -v_ifS]
  have q1 : (S.set q (.lst (rs.map Row.D ++ [r.D])))[q]? = some (.lst ((rs ++ [r]).map Row.D)) := by rw [List.getElem?_set_self (Real.lt hq)]; simp
  have K1 : Kp [i, q] S (S.set q (.lst (rs.map Row.D ++ [r.D]))) := Kp.set (by simp)
  have h1 : TkA (S.set q (.lst (rs.map Row.D ++ [r.D]))) i j row := h.kp (A := [q]) (Kp.set (by simp)) (by simpa using Ne.symm hqi) (by simpa using Ne.symm hqj)
  have ok1 : ∀ x ∈ rs ++ [r], okT x := fun x hx => by
    rcases List.mem_append.mp hx with c | c
    · exact hrs x c
    · rw [List.mem_singleton.mp c]; exact hr
  have len1 : (rs ++ [r]).length = rs.length + 1 := by simp
  generalize S.set q (.lst (rs.map Row.D ++ [r.D])) = S1 at *
  rw [v_seq]
  simp_arith [Ly.v_fld, Ly.v_meth, Ly.k_me2, Ly.v_make, Ly.k_mk, Ly.v_fldset, Ly.k_fs, Ly.v_fldaug, Ly.k_fa2, Ly.look1, List.mem_cons, List.not_mem_nil, or_false, true_or, or_true, is_take, -v_seq, -v_ifS]
  refine takeL h1 (n := ((rs ++ [r]).length : Int)) (by omega) (fun S' k => ?_) ?_
  · have := k.get q1 (by simpa using hqi)
    show (bLen [.ref q] S') = _
    rw [bLen_lst this, List.length_map]
  intro k S2 hk h2 k2
  have q2 := k2.get q1 (by simpa using hqi)
  refine wp_ix q2 (by omega) (by rw [List.length_map]; omega) fun d hd => ?_
  obtain ⟨x, hx, rfl⟩ := List.mem_map.mp hd
  have K2 := K1.trans (k2.sub (B := [i, q]) (by simp))
  obtain ⟨w, hw, hw3, _⟩ := word3 (S := S) x
  simp_arith [Ly.v_fld, Ly.v_meth, Ly.k_me2, Ly.v_make, Ly.k_mk, Ly.v_fldset, Ly.k_fs, Ly.v_fldaug, Ly.k_fa2, Ly.look1, List.mem_cons, List.not_mem_nil, or_false, true_or, or_true, hw, in3, -v_seq]
  by_cases hB : isV x = true
  · have hw2 := hw3.mpr hB
    simp_arith [Ly.v_fld, Ly.v_meth, Ly.k_me2, Ly.v_make, Ly.k_mk, Ly.v_fldset, Ly.k_fs, Ly.v_fldaug, Ly.k_fa2, Ly.look1, List.mem_cons, List.not_mem_nil, or_false, true_or, or_true, hw2, is_take, -v_seq]
    refine takeM h2 (by decide) (fun _ => rfl) ?_
    intro k3 S3 hk3 h3 u3
    have q3 := u3.get q2 (by simpa using hqi)
    have K3 := K2.trans (u3.sub (B := [i, q]) (by simp))
    simp_arith [Ly.v_fld, Ly.v_meth, Ly.k_me2, Ly.v_make, Ly.k_mk, Ly.v_fldset, Ly.k_fs, Ly.v_fldaug, Ly.k_fa2, Ly.look1, List.mem_cons, List.not_mem_nil, or_false, true_or, or_true, oGt_int, -v_seq]
    by_cases hk0 : (k3 : Int) > 0
    · simp_arith [Ly.v_fld, Ly.v_meth, Ly.k_me2, Ly.v_make, Ly.k_mk, Ly.v_fldset, Ly.k_fs, Ly.v_fldaug, Ly.k_fa2, Ly.look1, List.mem_cons, List.not_mem_nil, or_false, true_or, or_true, hk0, -v_seq]
      rw [v_seq]
      simp_arith [Ly.v_fld, Ly.v_meth, Ly.k_me2, Ly.v_make, Ly.k_mk, Ly.v_fldset, Ly.k_fs, Ly.v_fldaug, Ly.k_fa2, Ly.look1, List.mem_cons, List.not_mem_nil, or_false, true_or, or_true, is_take, -v_seq, -v_ifS]
      refine takeM h3 (by decide) (fun _ => rfl) ?_
      intro a S4 ha h4 u4
      simp_arith [Ly.v_fld, Ly.v_meth, Ly.k_me2, Ly.v_make, Ly.k_mk, Ly.v_fldset, Ly.k_fs, Ly.v_fldaug, Ly.k_fa2, Ly.look1, List.mem_cons, List.not_mem_nil, or_false, true_or, or_true, is_take, -v_seq, -v_ifS]
      refine takeM h4 (by decide) (fun _ => rfl) ?_
      intro b S5 hb h5 u5
      simp_arith [Ly.v_fld, Ly.v_meth, Ly.k_me2, Ly.v_make, Ly.k_mk, Ly.v_fldset, Ly.k_fs, Ly.v_fldaug, Ly.k_fa2, Ly.look1, List.mem_cons, List.not_mem_nil, or_false, true_or, or_true, oAdd_int, is_take, -v_seq, -v_ifS]
      have hz : (S5 ++ [O.lst [nD a, .int (10 + (b : Int))]])[S5.length]? = some (.lst [nD a, .int (10 + (b : Int))]) := get_end
      refine takeM h5.new (by decide) (fun _ => rfl) ?_
      intro c S6 hc h6 u6
      have hi5 := h5.lt
      have hz6 := u6.get hz (by simp; omega)
      refine wp_ix hz6 (by omega) (by simp; omega) fun d hd => ?_
      have hd2 : ∃ e : Nat, d = nD e := by
        simp only [List.mem_cons, List.not_mem_nil, or_false] at hd
        rcases hd with rfl | rfl
        · exact ⟨a, rfl⟩
        · exact ⟨10 + b, by simp [nD]⟩
      obtain ⟨e, rfl⟩ := hd2
      have u36 : Kp [i] S3 S6 := ((u4.trans u5).trans Kp.new).trans u6
      have q6 := u36.get q3 (by simpa using hqi)
      have K6 := K3.trans (u36.sub (B := [i, q]) (by simp))
      have q6l := Real.lt q6
      have fin : ∀ y : Row, okT y → ∃ (rs' : List Row) (o6 o7 : Option D), F.nx [some (D.ref i), some P, some (D.ref out), some B, some (D.ref q), some r.D, some x.D, some (nD e)] = .nx [some (.ref i), some P, some (.ref out), some B, some (.ref q), some r.D, o6, o7] ∧ (S6.set q (.lst ((rs ++ [r]).map Row.D ++ [y.D])))[q]? = some (.lst (rs'.map Row.D)) ∧ (∀ x ∈ rs', okT x) ∧ (rs.length < rs'.length ∧ rs'.length ≤ rs.length + 2) ∧ TkA (S6.set q (.lst ((rs ++ [r]).map Row.D ++ [y.D]))) i j row ∧ Kp [i, q] S (S6.set q (.lst ((rs ++ [r]).map Row.D ++ [y.D]))) := fun y hy => by
        refine ⟨rs ++ [r] ++ [y], _, _, rfl, ?_, fun z hz => ?_, ⟨by simp, by simp⟩, h6.kp (A := [q]) (Kp.set (by simp)) (by simpa using Ne.symm hqi) (by simpa using Ne.symm hqj), K6.trans (Kp.set (by simp))⟩
        · rw [List.getElem?_set_self q6l]; simp
        · rcases List.mem_append.mp hz with c | c
          · exact ok1 z c
          · rw [List.mem_singleton.mp c]; exact hy
      have happ : ∀ d, oAppend (.ref q) [d] S6 = .ok .non (S6.set q (.lst ((rs ++ [r]).map Row.D ++ [d]))) := fun d => oAppend_lst q6 (by rw [List.length_map]; exact line_big (by omega))
      have okx := ok1 x hx
      cases x with
      | op sg d a1 b1 =>
        have hx0 : ∀ S, oIx (Row.op sg d a1 b1).D (.int 0) S = .ok (.str "op") S := fun S => ix0'
        have hs1 : ∀ S, oSl (Row.op sg d a1 b1).D none (some 2) S = .ok (.tup [.str "op", .str sg]) S := fun S => by simp [Row.D, oSl, cutT2]
        have hs2 : ∀ S, oSl (Row.op sg d a1 b1).D (some 3) none S = .ok (.tup [nD a1, nD b1]) S := fun S => by simp [Row.D, oSl, cut3]
        have ha1 : ∀ S, oAdd (.tup [.str "op", .str sg]) (.tup [nD e]) S = .ok (.tup [.str "op", .str sg, nD e]) S := fun S => addT (by simp)
        have ha2 : ∀ S, oAdd (.tup [.str "op", .str sg, nD e]) (.tup [nD a1, nD b1]) S = .ok (.tup [.str "op", .str sg, nD e, nD a1, nD b1]) S := fun S => addT (by simp)
        simp_arith [Ly.v_fld, Ly.v_meth, Ly.k_me2, Ly.v_make, Ly.k_mk, Ly.v_fldset, Ly.k_fs, Ly.v_fldaug, Ly.k_fa2, Ly.look1, List.mem_cons, List.not_mem_nil, or_false, true_or, or_true, hx0, oEq_str, ofString_inj, String.reduceEq, hs1, hs2, ha1, ha2, hasTy_lst q6, happ]
        exact fin (.op sg e a1 b1) okx
      | select d c1 a1 b1 =>
        have hx0 : ∀ S, oIx (Row.select d c1 a1 b1).D (.int 0) S = .ok (.str "select") S := fun S => ix0'
        have hs1 : ∀ S, oSl (Row.select d c1 a1 b1).D none (some 1) S = .ok (.tup [.str "select"]) S := fun S => by simp [Row.D, oSl, cutT1]
        have hs2 : ∀ S, oSl (Row.select d c1 a1 b1).D (some 2) none S = .ok (.tup [nD c1, nD a1, nD b1]) S := fun S => by simp [Row.D, oSl, cut2]
        have ha1 : ∀ S, oAdd (.tup [.str "select"]) (.tup [nD e]) S = .ok (.tup [.str "select", nD e]) S := fun S => addT (by simp)
        have ha2 : ∀ S, oAdd (.tup [.str "select", nD e]) (.tup [nD c1, nD a1, nD b1]) S = .ok (.tup [.str "select", nD e, nD c1, nD a1, nD b1]) S := fun S => addT (by simp)
        simp_arith [Ly.v_fld, Ly.v_meth, Ly.k_me2, Ly.v_make, Ly.k_mk, Ly.v_fldset, Ly.k_fs, Ly.v_fldaug, Ly.k_fa2, Ly.look1, List.mem_cons, List.not_mem_nil, or_false, true_or, or_true, hx0, oEq_str, ofString_inj, String.reduceEq, hs1, hs2, ha1, ha2, hasTy_lst q6, happ]
        exact fin (.select e c1 a1 b1) trivial
      | load d i1 a1 =>
        have hx0 : ∀ S, oIx (Row.load d i1 a1).D (.int 0) S = .ok (.str "load") S := fun S => ix0'
        have hs1 : ∀ S, oSl (Row.load d i1 a1).D none (some 1) S = .ok (.tup [.str "load"]) S := fun S => by simp [Row.D, oSl, cutT1]
        have hs2 : ∀ S, oSl (Row.load d i1 a1).D (some 2) none S = .ok (.tup [nD i1, nD a1]) S := fun S => by simp [Row.D, oSl, cut2]
        have ha1 : ∀ S, oAdd (.tup [.str "load"]) (.tup [nD e]) S = .ok (.tup [.str "load", nD e]) S := fun S => addT (by simp)
        have ha2 : ∀ S, oAdd (.tup [.str "load", nD e]) (.tup [nD i1, nD a1]) S = .ok (.tup [.str "load", nD e, nD i1, nD a1]) S := fun S => addT (by simp)
        simp_arith [Ly.v_fld, Ly.v_meth, Ly.k_me2, Ly.v_make, Ly.k_mk, Ly.v_fldset, Ly.k_fs, Ly.v_fldaug, Ly.k_fa2, Ly.look1, List.mem_cons, List.not_mem_nil, or_false, true_or, or_true, hx0, oEq_str, ofString_inj, String.reduceEq, hs1, hs2, ha1, ha2, hasTy_lst q6, happ]
        exact fin (.load e i1 a1) trivial
      | _ => simp [isV, valR] at hB
    · simp_arith [Ly.v_fld, Ly.v_meth, Ly.k_me2, Ly.v_make, Ly.k_mk, Ly.v_fldset, Ly.k_fs, Ly.v_fldaug, Ly.k_fa2, Ly.look1, List.mem_cons, List.not_mem_nil, or_false, true_or, or_true, hk0]
      exact ⟨rs ++ [r], _, _, rfl, q3, ok1, ⟨by omega, by omega⟩, h3, K3⟩
  · have hw2 : ¬ (w = "op" ∨ w = "select" ∨ w = "load") := fun c => hB (hw3.mp c)
    simp_arith [Ly.v_fld, Ly.v_meth, Ly.k_me2, Ly.v_make, Ly.k_mk, Ly.v_fldset, Ly.k_fs, Ly.v_fldaug, Ly.k_fa2, Ly.look1, List.mem_cons, List.not_mem_nil, or_false, true_or, or_true, hw2]
    exact ⟨rs ++ [r], _, _, rfl, q2, ok1, ⟨by omega, by omega⟩, h2, K2⟩
end
end GK45
set_option Elab.async false
set_option linter.all false
set_option maxRecDepth 100000
namespace GK45
open PySem L2 Ly
open PySem.Spec hiding Row
open PyProof.Rows hiding St
local macro_rules | `(tactic| simp_arith [$ls,*]) => `(tactic| simp only [Ly.line_le, Ly.atX_no, Ly.v_ok, Ly.v_bad, Ly.v_bind, Ly.k_bd, Ly.v_at, Ly.v_bin, Ly.k_bi, Ly.k_bi2, Ly.v_var, Ly.v_c, Ly.v_un, Ly.k_un, Ly.v_if, Ly.k_ife, Ly.v_and, Ly.k_and, Ly.k_and2, Ly.v_or, Ly.k_or, Ly.k_or2, Ly.v_tup, Ly.k_tup, Ly.v_lst, Ly.k_lst, Ly.v_call, Ly.k_ca, Ly.v_fn, Ly.k_fn, Ly.v_bm, Ly.k_bm, Ly.k_bm2, Ly.v_sl, Ly.k_sl, Ly.k_sl2, Ly.k_sl3, Ly.v_ixK, Ly.k_ixk, Ly.v_inK, Ly.k_ink, Ly.v_notinK, Ly.k_nink, Ly.v_getK2, Ly.k_gk2, Ly.k_gk, Ly.v_get2, Ly.k_g2, Ly.k_g22, Ly.k_g23, Ly.v_nil, Ly.v_cons, Ly.k_co, Ly.k_co2, Ly.v_no, Ly.v_some, Ly.k_so, Ly.k_cm, Ly.v_cmp, Ly.v_tru, Ly.k_tr, Ly.v_notB, Ly.k_no, Ly.v_andB, Ly.k_an, Ly.v_orB, Ly.k_orb, Ly.v_yes, Ly.v_inKB, Ly.k_inkB, Ly.v_notinKB, Ly.k_ninkB, Ly.v_set, Ly.k_st, Ly.v_expr, Ly.k_ex, Ly.v_ret, Ly.k_re, Ly.v_retN, Ly.v_pass, Ly.v_brk, Ly.v_cnt, Ly.v_seq, Ly.k_sq_nx, Ly.k_sq_rt, Ly.k_sq_bk, Ly.k_sq_ct, Ly.v_ifS, Ly.k_ifs, Ly.v_asg, Ly.k_as, Ly.k_as2, Ly.v_aug, Ly.k_au, Ly.v_for, Ly.k_fo, Ly.v_it, Ly.k_it, Ly.k_ij, Ly.v_rng1, Ly.v_rng2, Ly.v_enum, Ly.v_zip, Ly.v_ez, Ly.v_gN, Ly.v_gsN, Ly.v_gsC, Ly.k_gc, Ly.v_gT, Ly.v_gTw, Ly.v_gSb, Ly.k_gsb, Ly.k_gsb2, Ly.k_gsb3, Ly.k_en_rt, Ly.k_en_nx, Ly.k_tu_nx, Ly.k_tu_ct, Ly.k_tu_bk, Ly.k_tu_rt, Ly.v_lc, Ly.k_lc, Ly.v_augI, Ly.k_ag, Ly.k_ag2, Ly.k_ag3, Ly.k_ag4, Ly.k_ag5, Ly.v_del, Ly.k_dl, Ly.k_dl2, Ly.v_setd, Ly.v_pop2, Ly.k_d3, Ly.k_d32, Ly.k_d33, Ly.v_get1, Ly.k_g1, Ly.k_g12, Ly.v_rg1, Ly.k_rg, Ly.v_rg2, Ly.k_rg2, Ly.k_rg22, Ly.v_dicK, Ly.v_dicT, Ly.v_dc, Ly.k_dc, List.getElem?_cons_zero, List.getElem?_cons_succ, List.set_cons_zero, List.set_cons_succ, List.length_cons, List.length_nil, List.map_cons, List.map_nil, List.cons_append, List.nil_append, List.replicate, if_true, if_false, Bool.false_eq_true, Bool.not_true, Bool.not_false, Bool.true_and, Bool.false_and, decide_true, decide_false, decide_eq_true_eq, Nat.zero_add, Nat.reduceAdd, Nat.reduceLeDiff, true_and, and_true, $ls,*])
section
variable {S S' S1 S2 : Hs} {i j q out : Nat} {row : List Int} {rs : List Row} {r : Row} {arrs : List Arr} {params : Nat} {bs : List (List Row)} {W : Nat → Nat} {b : List Row} {cA : Nat → Addr}
theorem sign_okT {nr na nb : Nat} (h : r.ok nr na nb) : okT r := by
  cases r with
  | op s d a b =>
    have hs : s ∈ signsL := h.1
    have : signsL.all (fun s => PyData.strOk s) = true := by decide +kernel
    exact List.all_eq_true.mp this s hs
  | _ => trivial
theorem ixM1T {ds : List D} {d : D} : oIx (.tup (ds ++ [d])) (.int (-1)) S = .ok d S := by
  have : L2.atI (ds ++ [d]) (-1) = some d := by
    simp only [L2.atI, L2.ixN, List.length_append, List.length_singleton]
    rw [if_neg (by omega), if_pos (by omega)]
    have e : (-1 + ((ds.length + 1 : Nat) : Int)).toNat = ds.length := by omega
    rw [Option.bind_some, e]
    simp
  simp [oIx, this]
theorem cutM1 {ds : List D} {d : D} : Ly.cutD (ds ++ [d]) none (some (-1)) = ds := by
  unfold Ly.cutD
  have e1 : HT.sIx (ds ++ [d]).length 0 none = 0 := rfl
  have e2 : HT.sIx (ds ++ [d]).length (ds ++ [d]).length (some (-1)) = ds.length := by
    simp only [HT.sIx, List.length_append, List.length_singleton]
    rw [if_pos (by omega)]; omega
  rw [e1, e2]
  simp
theorem again_ok {most nr : Nat} (h : TkA S i j row) (hP : ProgT most nr arrs params bs) (hm : most ≤ 10) : Wp NoX (m__law_again [.ref i, progD arrs params bs] S) fun v S' => ∃ bs' : List (List Row), v = progD arrs params bs' ∧ bs'.length = bs.length ∧ (∀ b ∈ bs', b.length ≤ 20) ∧ (∀ b ∈ bs', ∀ r ∈ b, okT r) ∧ TkA S' i j row ∧ Kp [i] S S' := by
  refine wp_def0 rfl ?_
  unfold b__law_again
  rw [v_seq]
  simp_arith [Ly.v_fld, Ly.v_meth, Ly.k_me2, Ly.v_make, Ly.k_mk, Ly.v_fldset, Ly.k_fs, Ly.v_fldaug, Ly.k_fa2, Ly.look1, List.mem_cons, List.not_mem_nil, or_false, true_or, or_true, -v_seq]
  have h0 : (S ++ [O.lst []])[S.length]? = some (.lst []) := get_end
  have K0 : Kp [i] S (S ++ [O.lst []]) := Kp.new
  have hT0 : TkA (S ++ [O.lst []]) i j row := h.new
  have hi := h.lt
  have hj := h.ltj
  have hbl := hP.nb.2
  generalize S ++ [O.lst []] = S1 at *
  rw [v_seq]
  simp_arith [Ly.v_fld, Ly.v_meth, Ly.k_me2, Ly.v_make, Ly.k_mk, Ly.v_fldset, Ly.k_fs, Ly.v_fldaug, Ly.k_fa2, Ly.look1, List.mem_cons, List.not_mem_nil, or_false, true_or, or_true, ixP2, oIt, -v_seq]
  refine wp_tupM blockD (xs := bs) (fun pre l' S' => (∃ o3 o4 o5 o6 o7 : Option D, l' = [some (.ref i), some (progD arrs params bs), some (.ref S.length), o3, o4, o5, o6, o7]) ∧ (∃ bs' : List (List Row), S'[S.length]? = some (.lst (bs'.map blockD)) ∧ bs'.length = pre.length ∧ (∀ b ∈ bs', b.length ≤ 20) ∧ (∀ b ∈ bs', ∀ r ∈ b, okT r)) ∧ TkA S' i j row ∧ Kp [i] S S') ⟨⟨_, _, _, _, _, rfl⟩, ⟨[], h0, rfl, fun b hb => (by cases hb), fun b hb => (by cases hb)⟩, hT0, K0⟩ ?_ ?_
  · rintro pre b post l' S2 hsp ⟨⟨o3, o4, o5, o6, o7, rfl⟩, ⟨bs', hq, e1, e2, e3⟩, hT, K⟩
    have hb2 : b ∈ bs := by rw [hsp]; simp
    have hpl : pre.length ≤ bs.length := by rw [hsp]; simp
    obtain ⟨hlen, body, r, rfl, hbody, hr, _⟩ := hP.bl b hb2
    have hbl2 : body.length ≤ 7 := by simp at hlen; omega
    have hsl : ∀ S, oSl (blockD (body ++ [r])) none (some (-1)) S = .ok (.tup (body.map Row.D)) S := fun S => by
      unfold blockD; rw [List.map_append]; simp only [oSl, List.map_cons, List.map_nil]; rw [cutM1]
    have hm1 : ∀ S, oIx (blockD (body ++ [r])) (.int (-1)) S = .ok r.D S := fun S => by
      unfold blockD; rw [List.map_append]; exact ixM1T
    unfold lb__law_again_1
    simp_arith [Ly.v_fld, Ly.v_meth, Ly.k_me2, Ly.v_make, Ly.k_mk, Ly.v_fldset, Ly.k_fs, Ly.v_fldaug, Ly.k_fa2, Ly.look1, List.mem_cons, List.not_mem_nil, or_false, true_or, or_true, -v_seq]
    rw [v_seq]
    simp_arith [Ly.v_fld, Ly.v_meth, Ly.k_me2, Ly.v_make, Ly.k_mk, Ly.v_fldset, Ly.k_fs, Ly.v_fldaug, Ly.k_fa2, Ly.look1, List.mem_cons, List.not_mem_nil, or_false, true_or, or_true, -v_seq]
    have hqn : (S2 ++ [O.lst []])[S2.length]? = some (.lst []) := get_end
    have hT2 : TkA (S2 ++ [O.lst []]) i j row := hT.new
    have hi2 := hT.lt
    have hj2 := hT.ltj
    rw [v_seq]
    simp_arith [Ly.v_fld, Ly.v_meth, Ly.k_me2, Ly.v_make, Ly.k_mk, Ly.v_fldset, Ly.k_fs, Ly.v_fldaug, Ly.k_fa2, Ly.look1, List.mem_cons, List.not_mem_nil, or_false, true_or, or_true, oNeg_int, hsl, oIt, -v_seq]
    refine wp_tupM Row.D (xs := body) (fun pre2 l' S3 => (∃ o5 o6 o7 : Option D, l' = [some (.ref i), some (progD arrs params bs), some (.ref S.length), some (blockD (body ++ [r])), some (.ref S2.length), o5, o6, o7]) ∧ (∃ rs : List Row, S3[S2.length]? = some (.lst (rs.map Row.D)) ∧ (∀ x ∈ rs, okT x) ∧ rs.length ≤ 2 * pre2.length) ∧ TkA S3 i j row ∧ Kp [i] S2 S3) ⟨⟨_, _, _, rfl⟩, ⟨[], hqn, fun x hx => (by cases hx), by simp⟩, hT2, Kp.new⟩ ?_ ?_
    · rintro pre2 x post2 l' S3 hsp2 ⟨⟨o5, o6, o7, rfl⟩, ⟨rs, g1, g2, g3⟩, hT3, K3⟩
      have hx : x ∈ body := by rw [hsp2]; simp
      have hpl2 : pre2.length ≤ 7 := by have := congrArg List.length hsp2; simp at this; omega
      simp_arith [Ly.v_fld, Ly.v_meth, Ly.k_me2, Ly.v_make, Ly.k_mk, Ly.v_fldset, Ly.k_fs, Ly.v_fldaug, Ly.k_fa2, Ly.look1, List.mem_cons, List.not_mem_nil, or_false, true_or, or_true]
      refine Wp.call (again_row hT3 g1 (by omega) (by omega) (sign_okT (hbody x hx).1) g2 (by omega)) ?_
      rintro f S4 ⟨rs', o6, o7, rfl, g4, g5, g6, hT4, k4⟩
      refine ⟨⟨_, _, _, rfl⟩, ⟨rs', g4, g5, by simp; omega⟩, hT4, K3.after k4 fun y hy hlt => ?_⟩
      simp at hy
      rcases hy with rfl | rfl
      · simp
      · omega
    · rintro l' S3 ⟨⟨o5, o6, o7, rfl⟩, ⟨rs, g1, g2, g3⟩, hT3, K3⟩
      have hq3 := K3.get hq (by simp; omega)
      have hadd : oAdd (.tup (rs.map Row.D)) (.tup [r.D]) S3 = .ok (.tup (rs.map Row.D ++ [r.D])) S3 := addT (by simp; omega)
      simp_arith [Ly.v_fld, Ly.v_meth, Ly.k_me2, Ly.v_make, Ly.k_mk, Ly.v_fldset, Ly.k_fs, Ly.v_fldaug, Ly.k_fa2, Ly.look1, List.mem_cons, List.not_mem_nil, or_false, true_or, or_true, bTuple_lst g1, oNeg_int, hm1, hadd, hasTy_lst hq3, oAppend_lst hq3 (by rw [List.length_map]; exact line_big (by omega))]
      have hqS := Real.lt hq3
      refine ⟨⟨_, _, _, _, _, rfl⟩, ⟨bs' ++ [rs ++ [r]], ?_, by simp [e1], fun y hy => ?_, fun y hy => ?_⟩, hT3.kp (A := [S.length]) (Kp.set (by simp)) (by simp; omega) (by simp; omega), (K.trans K3).setNew (Nat.le_refl _)⟩
      · rw [List.getElem?_set_self hqS]; simp [blockD]
      · rcases List.mem_append.mp hy with c | c
        · exact e2 y c
        · rw [List.mem_singleton.mp c]; simp; omega
      · rcases List.mem_append.mp hy with c | c
        · exact e3 y c
        · rw [List.mem_singleton.mp c]
          intro z hz
          rcases List.mem_append.mp hz with c | c
          · exact g2 z c
          · rw [List.mem_singleton.mp c]; exact sign_okT hr
  · rintro l' S2 ⟨⟨o3, o4, o5, o6, o7, rfl⟩, ⟨bs', hq, e1, e2, e3⟩, hT, K⟩
    simp_arith [Ly.v_fld, Ly.v_meth, Ly.k_me2, Ly.v_make, Ly.k_mk, Ly.v_fldset, Ly.k_fs, Ly.v_fldaug, Ly.k_fa2, Ly.look1, List.mem_cons, List.not_mem_nil, or_false, true_or, or_true, ixP0, ixP1, bTuple_lst hq]
    exact ⟨bs', rfl, by simpa using e1, e2, e3, hT, K⟩
theorem rowsC_ok (h : ∀ r ∈ b, okT r) : ∀ r ∈ rowsC W b, okT r := by
  have : ∀ (b : List Row) (st : Tb × List Row), (∀ r ∈ b, okT r) → (∀ r ∈ st.2, okT r) → ∀ r ∈ (b.foldl (stepC W) st).2, okT r := by
    intro b
    induction b with
    | nil => intro st _ h; exact h
    | cons a b ih =>
      intro st ha hs
      refine ih _ (fun x hx => ha x (List.mem_cons_of_mem _ hx)) fun x hx => ?_
      have hra := ha a (by simp)
      unfold stepC at hx
      cases hv : valR a with
      | none =>
        rw [hv] at hx
        rcases List.mem_append.mp hx with c | c
        · exact hs x c
        · rw [List.mem_singleton.mp c]; exact hra
      | some k =>
        rw [hv] at hx
        simp only at hx
        cases hl : lookT st.1 k with
        | some m =>
          rw [hl] at hx
          rcases List.mem_append.mp hx with c | c
          · exact hs x c
          · rw [List.mem_singleton.mp c]; trivial
        | none =>
          rw [hl] at hx
          rcases List.mem_append.mp hx with c | c
          · exact hs x c
          · rw [List.mem_singleton.mp c]; exact hra
  exact this b _ h fun x hx => by cases hx
theorem arr_plain {a : Arr} (h : a ∈ arrL) : a.D.plain = true ∧ a.D.toP.depth ≤ 2 := by
  simp only [arrL, List.mem_cons, List.not_mem_nil, or_false] at h
  rcases h with rfl | rfl | rfl <;> exact ⟨by decide +kernel, by decide +kernel⟩
theorem row_plainT (h : okT r) : r.D.plain = true := by
  have := (rowL_ok h).1
  refine noB_plain _ ?_
  rw [rowL_eq]; exact this
theorem row_depth2 {r : Row} : r.D.toP.depth ≤ 2 := by
  cases r <;> simp [Row.D, D.toP, D.toPs, PyData.depth, PyData.depthAll]
theorem ne_progs {n : Nat} (hr : ∀ b ∈ bs, ∀ r ∈ b, okT r) : oNe (progD (arrL.take n) params bs) (progD (arrL.take n) params bs) S = .ok (.bl false) S := by
  have h1 : D.plains ([.tup ((arrL.take n).map Arr.D), nD params, .tup (bs.map blockD)] : List D) = true := by
    have e1 : D.plains ((arrL.take n).map Arr.D) = true := by
      rw [plains_mem]; intro x hx; rw [List.mem_map] at hx; obtain ⟨a, ha, rfl⟩ := hx; exact (arr_plain (List.mem_of_mem_take ha)).1
    have e2 : D.plains (bs.map blockD) = true := by
      rw [plains_mem]; intro x hx; rw [List.mem_map] at hx; obtain ⟨b, hb, rfl⟩ := hx
      show D.plains (b.map Row.D) = true
      rw [plains_mem]; intro x hx; rw [List.mem_map] at hx; obtain ⟨r, h, rfl⟩ := hx
      exact row_plainT (hr b hb r h)
    simp only [D.plains, D.plain, e1, e2, Bool.and_true]
  have h2 : PyData.depthAll (D.toPs ([.tup ((arrL.take n).map Arr.D), nD params, .tup (bs.map blockD)] : List D)) ≤ 30 := by
    have e1 : PyData.depthAll (D.toPs ((arrL.take n).map Arr.D)) ≤ 10 := depthAll_mem _ fun y hy => by
      rw [List.mem_map] at hy; obtain ⟨a, ha, rfl⟩ := hy; have := (arr_plain (List.mem_of_mem_take ha)).2; omega
    have e2 : PyData.depthAll (D.toPs (bs.map blockD)) ≤ 10 := depthAll_mem _ fun y hy => by
      rw [List.mem_map] at hy; obtain ⟨b, hb, rfl⟩ := hy
      show (D.tup (b.map Row.D)).toP.depth ≤ 10
      simp only [D.toP, PyData.depth]
      have : PyData.depthAll (D.toPs (b.map Row.D)) ≤ 2 := depthAll_mem _ fun y hy => by
        rw [List.mem_map] at hy; obtain ⟨r, _, rfl⟩ := hy; exact row_depth2
      omega
    refine depthAll_mem _ fun y hy => ?_
    simp only [List.mem_cons, List.not_mem_nil, or_false] at hy
    rcases hy with rfl | rfl | rfl
    · simp only [D.toP, PyData.depth]; omega
    · simp [nD, D.toP, PyData.depth]
    · simp only [D.toP, PyData.depth]; omega
  have := cEqD_same (x := progD (arrL.take n) params bs) (y := progD (arrL.take n) params bs) (S := S) rfl (pd_tup h1 h2).1 (pd_tup h1 h2).1 (pd_tup (S := S) h1 h2).2
  simp only [oNe, this, Bool.not_true]
theorem law_true (cA : Nat → Addr) : LawTrue (m_law cA) := by
  intro ns x S hn _ _ _ _ hx _
  have main : Wp NoX (m_law cA [x] S) fun v S' => v = .bl true := by
    refine wp_def0 rfl ?_
    unfold b_law
    rw [v_seq]
    simp_arith [Ly.v_fld, Ly.v_meth, Ly.k_me2, Ly.v_make, Ly.k_mk, Ly.v_fldset, Ly.k_fs, Ly.v_fldaug, Ly.k_fa2, Ly.look1, List.mem_cons, List.not_mem_nil, or_false, true_or, or_true, is_start, -v_seq]
    refine Wp.call (start_ok hx hn) ?_
    rintro _ S1 ⟨i, j, row, rfl, h1, hi, hj, k1⟩
    simp_arith [Ly.v_fld, Ly.v_meth, Ly.k_me2, Ly.v_make, Ly.k_mk, Ly.v_fldset, Ly.k_fs, Ly.v_fldaug, Ly.k_fa2, Ly.look1, List.mem_cons, List.not_mem_nil, or_false, true_or, or_true, -v_seq]
    rw [v_seq]
    simp_arith [Ly.v_fld, Ly.v_meth, Ly.k_me2, Ly.v_make, Ly.k_mk, Ly.v_fldset, Ly.k_fs, Ly.v_fldaug, Ly.k_fa2, Ly.look1, List.mem_cons, List.not_mem_nil, or_false, true_or, or_true, rng1 (n := 2) S1 (by decide) (by decide), -v_seq]
    refine wp_rng (fun k l' S2 => (∃ o2 o3 : Option D, l' = [some x, some (.ref i), o2, o3]) ∧ TkA S2 i j row) ⟨⟨_, _, rfl⟩, h1⟩ ?_ ?_
    · rintro k l S2 hk ⟨⟨o2, o3, rfl⟩, h2⟩
      unfold lb_law_0
      simp_arith [Ly.v_fld, Ly.v_meth, Ly.k_me2, Ly.v_make, Ly.k_mk, Ly.v_fldset, Ly.k_fs, Ly.v_fldaug, Ly.k_fa2, Ly.look1, List.mem_cons, List.not_mem_nil, or_false, true_or, or_true, -v_seq]
      rw [v_seq]
      simp_arith [Ly.v_fld, Ly.v_meth, Ly.k_me2, Ly.v_make, Ly.k_mk, Ly.v_fldset, Ly.k_fs, Ly.v_fldaug, Ly.k_fa2, Ly.look1, List.mem_cons, List.not_mem_nil, or_false, true_or, or_true, is_program, -v_seq, -v_ifS]
      refine Wp.call (programT_ok h2 (most := 4) (nr := 6) (by decide) (by decide) (by decide)) ?_
      rintro _ S3 ⟨arrs, params, bs, rfl, hP, hT, k3⟩
      simp_arith [Ly.v_fld, Ly.v_meth, Ly.k_me2, Ly.v_make, Ly.k_mk, Ly.v_fldset, Ly.k_fs, Ly.v_fldaug, Ly.k_fa2, Ly.look1, List.mem_cons, List.not_mem_nil, or_false, true_or, or_true, -v_seq, -v_ifS]
      refine Wp.call (again_ok hT hP (by decide)) ?_
      rintro _ S4 ⟨bs', rfl, e1, e2, e3, h4, k4⟩
      have hb4 : bs'.length ≤ 10 := by have := hP.nb.2; omega
      simp_arith [Ly.v_fld, Ly.v_meth, Ly.k_me2, Ly.v_make, Ly.k_mk, Ly.v_fldset, Ly.k_fs, Ly.v_fldaug, Ly.k_fa2, Ly.look1, List.mem_cons, List.not_mem_nil, or_false, true_or, or_true]
      refine Wp.call (common_ok (by have := hP.np; omega) hb4 e2) ?_
      rintro _ S5 ⟨rfl, k5⟩
      simp_arith [Ly.v_fld, Ly.v_meth, Ly.k_me2, Ly.v_make, Ly.k_mk, Ly.v_fldset, Ly.k_fs, Ly.v_fldaug, Ly.k_fa2, Ly.look1, List.mem_cons, List.not_mem_nil, or_false, true_or, or_true]
      refine Wp.call (lcommon_ok hb4 e2 e3) ?_
      rintro _ S6 ⟨rfl, k6⟩
      obtain ⟨n, hn4, rfl⟩ := hP.na
      have hr : ∀ b ∈ bs'.map (rowsC (Wc params bs')), ∀ r ∈ b, okT r := fun b hb => by
        obtain ⟨b0, h0, rfl⟩ := List.mem_map.mp hb
        exact rowsC_ok (e3 b0 h0)
      simp_arith [Ly.v_fld, Ly.v_meth, Ly.k_me2, Ly.v_make, Ly.k_mk, Ly.v_fldset, Ly.k_fs, Ly.v_fldaug, Ly.k_fa2, Ly.look1, List.mem_cons, List.not_mem_nil, or_false, true_or, or_true, ne_progs hr]
      have kk : Kp [] S4 S6 := k5.trans k6
      exact ⟨⟨_, _, rfl⟩, h4.kp kk (by simp) (by simp)⟩
    · rintro l S2 ⟨⟨o2, o3, rfl⟩, h2⟩
      simp_arith [Ly.v_fld, Ly.v_meth, Ly.k_me2, Ly.v_make, Ly.k_mk, Ly.v_fldset, Ly.k_fs, Ly.v_fldaug, Ly.k_fa2, Ly.look1, List.mem_cons, List.not_mem_nil, or_false, true_or, or_true]
  obtain ⟨v, S', e, rfl⟩ := main.ex
  exact ⟨S', e⟩
end
end GK45
set_option Elab.async false
set_option linter.all false
set_option maxRecDepth 100000
set_option maxHeartbeats 4000000
namespace GK45
open PySem PySem.Spec L2 Ly
open PyProof.Rows hiding St
theorem all_mk {l : PySem.W.OpenLaw} {w : World} {K : PySem.W.Frag} {h : Heap} {mg : Str → Option Value} {fa : Addr} (X : K.In h) (G : h.Ns mainGlobals mg) (hfa : mg "law" = some (.ref fa))
    {k_Present : Addr} {f__law_draws : Addr} {od__law_draws an__law_draws : Option Addr} {sl__law_draws : Array (Option Value)} {oc__law_draws kV__law_draws dc__law_draws pm__law_draws cd__law_draws ct__law_draws : Value} {f__law_start : Addr} {od__law_start an__law_start : Option Addr} {sl__law_start : Array (Option Value)} {oc__law_start kV__law_start dc__law_start pm__law_start cd__law_start ct__law_start : Value} {f__law_take : Addr} {od__law_take an__law_take : Option Addr} {sl__law_take : Array (Option Value)} {oc__law_take kV__law_take dc__law_take pm__law_take cd__law_take ct__law_take : Value} {f__law_again : Addr} {od__law_again an__law_again : Option Addr} {sl__law_again : Array (Option Value)} {oc__law_again kV__law_again dc__law_again pm__law_again cd__law_again ct__law_again : Value} {f__law_word : Addr} {od__law_word an__law_word : Option Addr} {sl__law_word : Array (Option Value)} {oc__law_word kV__law_word dc__law_word pm__law_word cd__law_word ct__law_word : Value} {f__law_sign : Addr} {od__law_sign an__law_sign : Option Addr} {sl__law_sign : Array (Option Value)} {oc__law_sign kV__law_sign dc__law_sign pm__law_sign cd__law_sign ct__law_sign : Value} {f__law_row : Addr} {od__law_row an__law_row : Option Addr} {sl__law_row : Array (Option Value)} {oc__law_row kV__law_row dc__law_row pm__law_row cd__law_row ct__law_row : Value} {f__law_way : Addr} {od__law_way an__law_way : Option Addr} {sl__law_way : Array (Option Value)} {oc__law_way kV__law_way dc__law_way pm__law_way cd__law_way ct__law_way : Value} {f__law_program : Addr} {od__law_program an__law_program : Option Addr} {sl__law_program : Array (Option Value)} {oc__law_program kV__law_program dc__law_program pm__law_program cd__law_program ct__law_program : Value} {f_written : Addr} {od_written an_written : Option Addr} {sl_written : Array (Option Value)} {oc_written kV_written dc_written pm_written cd_written ct_written : Value} {f_Present_m___init__ : Addr} {od_Present_m___init__ an_Present_m___init__ : Option Addr} {sl_Present_m___init__ : Array (Option Value)} {oc_Present_m___init__ kV_Present_m___init__ dc_Present_m___init__ pm_Present_m___init__ cd_Present_m___init__ ct_Present_m___init__ : Value} {f_value_of : Addr} {od_value_of an_value_of : Option Addr} {sl_value_of : Array (Option Value)} {oc_value_of kV_value_of dc_value_of pm_value_of cd_value_of ct_value_of : Value} {f_Present_m_take_off : Addr} {od_Present_m_take_off an_Present_m_take_off : Option Addr} {sl_Present_m_take_off : Array (Option Value)} {oc_Present_m_take_off kV_Present_m_take_off dc_Present_m_take_off pm_Present_m_take_off cd_Present_m_take_off ct_Present_m_take_off : Value} {f_Present_m_go : Addr} {od_Present_m_go an_Present_m_go : Option Addr} {sl_Present_m_go : Array (Option Value)} {oc_Present_m_go kV_Present_m_go dc_Present_m_go pm_Present_m_go cd_Present_m_go ct_Present_m_go : Value} {f_parts_like : Addr} {od_parts_like an_parts_like : Option Addr} {sl_parts_like : Array (Option Value)} {oc_parts_like kV_parts_like dc_parts_like pm_parts_like cd_parts_like ct_parts_like : Value} {f_Present_m_note : Addr} {od_Present_m_note an_Present_m_note : Option Addr} {sl_Present_m_note : Array (Option Value)} {oc_Present_m_note kV_Present_m_note dc_Present_m_note pm_Present_m_note cd_Present_m_note ct_Present_m_note : Value} {f__shared : Addr} {od__shared an__shared : Option Addr} {sl__shared : Array (Option Value)} {oc__shared kV__shared dc__shared pm__shared cd__shared ct__shared : Value} {f_common : Addr} {od_common an_common : Option Addr} {sl_common : Array (Option Value)} {oc_common kV_common dc_common pm_common cd_common ct_common : Value} {f__law_writes : Addr} {od__law_writes an__law_writes : Option Addr} {sl__law_writes : Array (Option Value)} {oc__law_writes kV__law_writes dc__law_writes pm__law_writes cd__law_writes ct__law_writes : Value} {f__law_stays : Addr} {od__law_stays an__law_stays : Option Addr} {sl__law_stays : Array (Option Value)} {oc__law_stays kV__law_stays dc__law_stays pm__law_stays cd__law_stays ct__law_stays : Value} {f__law_reads : Addr} {od__law_reads an__law_reads : Option Addr} {sl__law_reads : Array (Option Value)} {oc__law_reads kV__law_reads dc__law_reads pm__law_reads cd__law_reads ct__law_reads : Value} {f__law_writers : Addr} {od__law_writers an__law_writers : Option Addr} {sl__law_writers : Array (Option Value)} {oc__law_writers kV__law_writers dc__law_writers pm__law_writers cd__law_writers ct__law_writers : Value} {f__law_value : Addr} {od__law_value an__law_value : Option Addr} {sl__law_value : Array (Option Value)} {oc__law_value kV__law_value dc__law_value pm__law_value cd__law_value ct__law_value : Value} {f__law_common : Addr} {od__law_common an__law_common : Option Addr} {sl__law_common : Array (Option Value)} {oc__law_common kV__law_common dc__law_common pm__law_common cd__law_common ct__law_common : Value} {f_law : Addr} {od_law an_law : Option Addr} {sl_law : Array (Option Value)} {oc_law kV_law dc_law pm_law cd_law ct_law : Value} {ad_WRITTEN : Addr} {n_WRITTEN : Nat} {es_WRITTEN : Array DictEntry} {ad_FORMS : Addr} {n_FORMS : Nat} {es_FORMS : Array DictEntry} {ad_FORMS_0 : Addr} {oad_FORMS_0 : Option Addr} {nad_FORMS_0 : Nat} {sad_FORMS_0 : Array (Option Value)} {iad_FORMS_0 : Array Value} {ad_FORMS_1 : Addr} {oad_FORMS_1 : Option Addr} {nad_FORMS_1 : Nat} {sad_FORMS_1 : Array (Option Value)} {iad_FORMS_1 : Array Value} {ad_FORMS_2 : Addr} {oad_FORMS_2 : Option Addr} {nad_FORMS_2 : Nat} {sad_FORMS_2 : Array (Option Value)} {iad_FORMS_2 : Array Value} {ad_FORMS_3 : Addr} {oad_FORMS_3 : Option Addr} {nad_FORMS_3 : Nat} {sad_FORMS_3 : Array (Option Value)} {iad_FORMS_3 : Array Value} {ad_FORMS_4 : Addr} {oad_FORMS_4 : Option Addr} {nad_FORMS_4 : Nat} {sad_FORMS_4 : Array (Option Value)} {iad_FORMS_4 : Array Value} {ad_FORMS_5 : Addr} {oad_FORMS_5 : Option Addr} {nad_FORMS_5 : Nat} {sad_FORMS_5 : Array (Option Value)} {iad_FORMS_5 : Array Value} {ad_FORMS_6 : Addr} {oad_FORMS_6 : Option Addr} {nad_FORMS_6 : Nat} {sad_FORMS_6 : Array (Option Value)} {iad_FORMS_6 : Array Value} {ad_FORMS_7 : Addr} {oad_FORMS_7 : Option Addr} {nad_FORMS_7 : Nat} {sad_FORMS_7 : Array (Option Value)} {iad_FORMS_7 : Array Value} {ad_FORMS_8 : Addr} {oad_FORMS_8 : Option Addr} {nad_FORMS_8 : Nat} {sad_FORMS_8 : Array (Option Value)} {iad_FORMS_8 : Array Value} {ad_FORMS_9 : Addr} {oad_FORMS_9 : Option Addr} {nad_FORMS_9 : Nat} {sad_FORMS_9 : Array (Option Value)} {iad_FORMS_9 : Array Value}
    (a_Present : PySem.W.nsIn K mainGlobals "Present" = some (some (.ref k_Present)))
    (q1_Present : PySem.W.plainGet K k_Present Str.empty = true)
    (q2_Present : PySem.W.hasDictIn K k_Present = true)
    (q3_Present : PySem.W.plainOver K k_Present = true)
    (q4_Present : PySem.W.findIn K (.ref k_Present) "__setattr__" = some (some (.builtin "object.__setattr__")))
    (a__law_draws : PySem.W.nsIn K mainGlobals "_law_draws" = some (some (.ref f__law_draws)))
    (l__law_draws : K.lookup f__law_draws = some ⟨oc__law_draws, od__law_draws, .func (PySem.W.fnOf "_law_draws" "_law_draws" (defArgs s__law_draws) (defBody s__law_draws) (defScope s__law_draws) .none kV__law_draws dc__law_draws pm__law_draws an__law_draws cd__law_draws ct__law_draws), sl__law_draws⟩)
    (c__law_draws : PySem.W.codeIn K cd__law_draws "_law_draws" = true)
    (k__law_draws : PySem.W.keepIn K (.ref f__law_draws) = true)
    (a__law_start : PySem.W.nsIn K mainGlobals "_law_start" = some (some (.ref f__law_start)))
    (l__law_start : K.lookup f__law_start = some ⟨oc__law_start, od__law_start, .func (PySem.W.fnOf "_law_start" "_law_start" (defArgs s__law_start) (defBody s__law_start) (defScope s__law_start) .none kV__law_start dc__law_start pm__law_start an__law_start cd__law_start ct__law_start), sl__law_start⟩)
    (c__law_start : PySem.W.codeIn K cd__law_start "_law_start" = true)
    (k__law_start : PySem.W.keepIn K (.ref f__law_start) = true)
    (a__law_take : PySem.W.nsIn K mainGlobals "_law_take" = some (some (.ref f__law_take)))
    (l__law_take : K.lookup f__law_take = some ⟨oc__law_take, od__law_take, .func (PySem.W.fnOf "_law_take" "_law_take" (defArgs s__law_take) (defBody s__law_take) (defScope s__law_take) .none kV__law_take dc__law_take pm__law_take an__law_take cd__law_take ct__law_take), sl__law_take⟩)
    (c__law_take : PySem.W.codeIn K cd__law_take "_law_take" = true)
    (k__law_take : PySem.W.keepIn K (.ref f__law_take) = true)
    (a__law_again : PySem.W.nsIn K mainGlobals "_law_again" = some (some (.ref f__law_again)))
    (l__law_again : K.lookup f__law_again = some ⟨oc__law_again, od__law_again, .func (PySem.W.fnOf "_law_again" "_law_again" (defArgs s__law_again) (defBody s__law_again) (defScope s__law_again) .none kV__law_again dc__law_again pm__law_again an__law_again cd__law_again ct__law_again), sl__law_again⟩)
    (c__law_again : PySem.W.codeIn K cd__law_again "_law_again" = true)
    (k__law_again : PySem.W.keepIn K (.ref f__law_again) = true)
    (a__law_word : PySem.W.nsIn K mainGlobals "_law_word" = some (some (.ref f__law_word)))
    (l__law_word : K.lookup f__law_word = some ⟨oc__law_word, od__law_word, .func (PySem.W.fnOf "_law_word" "_law_word" (defArgs s__law_word) (defBody s__law_word) (defScope s__law_word) .none kV__law_word dc__law_word pm__law_word an__law_word cd__law_word ct__law_word), sl__law_word⟩)
    (c__law_word : PySem.W.codeIn K cd__law_word "_law_word" = true)
    (k__law_word : PySem.W.keepIn K (.ref f__law_word) = true)
    (a__law_sign : PySem.W.nsIn K mainGlobals "_law_sign" = some (some (.ref f__law_sign)))
    (l__law_sign : K.lookup f__law_sign = some ⟨oc__law_sign, od__law_sign, .func (PySem.W.fnOf "_law_sign" "_law_sign" (defArgs s__law_sign) (defBody s__law_sign) (defScope s__law_sign) .none kV__law_sign dc__law_sign pm__law_sign an__law_sign cd__law_sign ct__law_sign), sl__law_sign⟩)
    (c__law_sign : PySem.W.codeIn K cd__law_sign "_law_sign" = true)
    (k__law_sign : PySem.W.keepIn K (.ref f__law_sign) = true)
    (a__law_row : PySem.W.nsIn K mainGlobals "_law_row" = some (some (.ref f__law_row)))
    (l__law_row : K.lookup f__law_row = some ⟨oc__law_row, od__law_row, .func (PySem.W.fnOf "_law_row" "_law_row" (defArgs s__law_row) (defBody s__law_row) (defScope s__law_row) .none kV__law_row dc__law_row pm__law_row an__law_row cd__law_row ct__law_row), sl__law_row⟩)
    (c__law_row : PySem.W.codeIn K cd__law_row "_law_row" = true)
    (k__law_row : PySem.W.keepIn K (.ref f__law_row) = true)
    (a__law_way : PySem.W.nsIn K mainGlobals "_law_way" = some (some (.ref f__law_way)))
    (l__law_way : K.lookup f__law_way = some ⟨oc__law_way, od__law_way, .func (PySem.W.fnOf "_law_way" "_law_way" (defArgs s__law_way) (defBody s__law_way) (defScope s__law_way) .none kV__law_way dc__law_way pm__law_way an__law_way cd__law_way ct__law_way), sl__law_way⟩)
    (c__law_way : PySem.W.codeIn K cd__law_way "_law_way" = true)
    (k__law_way : PySem.W.keepIn K (.ref f__law_way) = true)
    (a__law_program : PySem.W.nsIn K mainGlobals "_law_program" = some (some (.ref f__law_program)))
    (l__law_program : K.lookup f__law_program = some ⟨oc__law_program, od__law_program, .func (PySem.W.fnOf "_law_program" "_law_program" (defArgs s__law_program) (defBody s__law_program) (defScope s__law_program) .none kV__law_program dc__law_program pm__law_program an__law_program cd__law_program ct__law_program), sl__law_program⟩)
    (c__law_program : PySem.W.codeIn K cd__law_program "_law_program" = true)
    (k__law_program : PySem.W.keepIn K (.ref f__law_program) = true)
    (a_written : PySem.W.nsIn K mainGlobals "written" = some (some (.ref f_written)))
    (l_written : K.lookup f_written = some ⟨oc_written, od_written, .func (PySem.W.fnOf "written" "written" (defArgs s_written) (defBody s_written) (defScope s_written) .none kV_written dc_written pm_written an_written cd_written ct_written), sl_written⟩)
    (c_written : PySem.W.codeIn K cd_written "written" = true)
    (k_written : PySem.W.keepIn K (.ref f_written) = true)
    (a_Present_m___init__ : PySem.W.findIn K (.ref k_Present) "__init__" = some (some (.ref f_Present_m___init__)))
    (l_Present_m___init__ : K.lookup f_Present_m___init__ = some ⟨oc_Present_m___init__, od_Present_m___init__, .func (PySem.W.fnOf "__init__" "Present.__init__" (defArgs s_Present_m___init__) (defBody s_Present_m___init__) (defScope s_Present_m___init__) .none kV_Present_m___init__ dc_Present_m___init__ pm_Present_m___init__ an_Present_m___init__ cd_Present_m___init__ ct_Present_m___init__), sl_Present_m___init__⟩)
    (c_Present_m___init__ : PySem.W.codeIn K cd_Present_m___init__ "Present.__init__" = true)
    (k_Present_m___init__ : PySem.W.keepIn K (.ref f_Present_m___init__) = true)
    (i_Present_m___init__ : PySem.W.isFn K (.ref f_Present_m___init__) = true)
    (a_value_of : PySem.W.nsIn K mainGlobals "value_of" = some (some (.ref f_value_of)))
    (l_value_of : K.lookup f_value_of = some ⟨oc_value_of, od_value_of, .func (PySem.W.fnOf "value_of" "value_of" (defArgs s_value_of) (defBody s_value_of) (defScope s_value_of) .none kV_value_of dc_value_of pm_value_of an_value_of cd_value_of ct_value_of), sl_value_of⟩)
    (c_value_of : PySem.W.codeIn K cd_value_of "value_of" = true)
    (k_value_of : PySem.W.keepIn K (.ref f_value_of) = true)
    (a_Present_m_take_off : PySem.W.findIn K (.ref k_Present) "take_off" = some (some (.ref f_Present_m_take_off)))
    (l_Present_m_take_off : K.lookup f_Present_m_take_off = some ⟨oc_Present_m_take_off, od_Present_m_take_off, .func (PySem.W.fnOf "take_off" "Present.take_off" (defArgs s_Present_m_take_off) (defBody s_Present_m_take_off) (defScope s_Present_m_take_off) .none kV_Present_m_take_off dc_Present_m_take_off pm_Present_m_take_off an_Present_m_take_off cd_Present_m_take_off ct_Present_m_take_off), sl_Present_m_take_off⟩)
    (c_Present_m_take_off : PySem.W.codeIn K cd_Present_m_take_off "Present.take_off" = true)
    (k_Present_m_take_off : PySem.W.keepIn K (.ref f_Present_m_take_off) = true)
    (i_Present_m_take_off : PySem.W.isFn K (.ref f_Present_m_take_off) = true)
    (a_Present_m_go : PySem.W.findIn K (.ref k_Present) "go" = some (some (.ref f_Present_m_go)))
    (l_Present_m_go : K.lookup f_Present_m_go = some ⟨oc_Present_m_go, od_Present_m_go, .func (PySem.W.fnOf "go" "Present.go" (defArgs s_Present_m_go) (defBody s_Present_m_go) (defScope s_Present_m_go) .none kV_Present_m_go dc_Present_m_go pm_Present_m_go an_Present_m_go cd_Present_m_go ct_Present_m_go), sl_Present_m_go⟩)
    (c_Present_m_go : PySem.W.codeIn K cd_Present_m_go "Present.go" = true)
    (k_Present_m_go : PySem.W.keepIn K (.ref f_Present_m_go) = true)
    (i_Present_m_go : PySem.W.isFn K (.ref f_Present_m_go) = true)
    (a_parts_like : PySem.W.nsIn K mainGlobals "parts_like" = some (some (.ref f_parts_like)))
    (l_parts_like : K.lookup f_parts_like = some ⟨oc_parts_like, od_parts_like, .func (PySem.W.fnOf "parts_like" "parts_like" (defArgs s_parts_like) (defBody s_parts_like) (defScope s_parts_like) .none kV_parts_like dc_parts_like pm_parts_like an_parts_like cd_parts_like ct_parts_like), sl_parts_like⟩)
    (c_parts_like : PySem.W.codeIn K cd_parts_like "parts_like" = true)
    (k_parts_like : PySem.W.keepIn K (.ref f_parts_like) = true)
    (a_Present_m_note : PySem.W.findIn K (.ref k_Present) "note" = some (some (.ref f_Present_m_note)))
    (l_Present_m_note : K.lookup f_Present_m_note = some ⟨oc_Present_m_note, od_Present_m_note, .func (PySem.W.fnOf "note" "Present.note" (defArgs s_Present_m_note) (defBody s_Present_m_note) (defScope s_Present_m_note) .none kV_Present_m_note dc_Present_m_note pm_Present_m_note an_Present_m_note cd_Present_m_note ct_Present_m_note), sl_Present_m_note⟩)
    (c_Present_m_note : PySem.W.codeIn K cd_Present_m_note "Present.note" = true)
    (k_Present_m_note : PySem.W.keepIn K (.ref f_Present_m_note) = true)
    (i_Present_m_note : PySem.W.isFn K (.ref f_Present_m_note) = true)
    (a__shared : PySem.W.nsIn K mainGlobals "_shared" = some (some (.ref f__shared)))
    (l__shared : K.lookup f__shared = some ⟨oc__shared, od__shared, .func (PySem.W.fnOf "_shared" "_shared" (defArgs s__shared) (defBody s__shared) (defScope s__shared) .none kV__shared dc__shared pm__shared an__shared cd__shared ct__shared), sl__shared⟩)
    (c__shared : PySem.W.codeIn K cd__shared "_shared" = true)
    (k__shared : PySem.W.keepIn K (.ref f__shared) = true)
    (a_common : PySem.W.nsIn K mainGlobals "common" = some (some (.ref f_common)))
    (l_common : K.lookup f_common = some ⟨oc_common, od_common, .func (PySem.W.fnOf "common" "common" (defArgs s_common) (defBody s_common) (defScope s_common) .none kV_common dc_common pm_common an_common cd_common ct_common), sl_common⟩)
    (c_common : PySem.W.codeIn K cd_common "common" = true)
    (k_common : PySem.W.keepIn K (.ref f_common) = true)
    (a__law_writes : PySem.W.nsIn K mainGlobals "_law_writes" = some (some (.ref f__law_writes)))
    (l__law_writes : K.lookup f__law_writes = some ⟨oc__law_writes, od__law_writes, .func (PySem.W.fnOf "_law_writes" "_law_writes" (defArgs s__law_writes) (defBody s__law_writes) (defScope s__law_writes) .none kV__law_writes dc__law_writes pm__law_writes an__law_writes cd__law_writes ct__law_writes), sl__law_writes⟩)
    (c__law_writes : PySem.W.codeIn K cd__law_writes "_law_writes" = true)
    (k__law_writes : PySem.W.keepIn K (.ref f__law_writes) = true)
    (a__law_stays : PySem.W.nsIn K mainGlobals "_law_stays" = some (some (.ref f__law_stays)))
    (l__law_stays : K.lookup f__law_stays = some ⟨oc__law_stays, od__law_stays, .func (PySem.W.fnOf "_law_stays" "_law_stays" (defArgs s__law_stays) (defBody s__law_stays) (defScope s__law_stays) .none kV__law_stays dc__law_stays pm__law_stays an__law_stays cd__law_stays ct__law_stays), sl__law_stays⟩)
    (c__law_stays : PySem.W.codeIn K cd__law_stays "_law_stays" = true)
    (k__law_stays : PySem.W.keepIn K (.ref f__law_stays) = true)
    (a__law_reads : PySem.W.nsIn K mainGlobals "_law_reads" = some (some (.ref f__law_reads)))
    (l__law_reads : K.lookup f__law_reads = some ⟨oc__law_reads, od__law_reads, .func (PySem.W.fnOf "_law_reads" "_law_reads" (defArgs s__law_reads) (defBody s__law_reads) (defScope s__law_reads) .none kV__law_reads dc__law_reads pm__law_reads an__law_reads cd__law_reads ct__law_reads), sl__law_reads⟩)
    (c__law_reads : PySem.W.codeIn K cd__law_reads "_law_reads" = true)
    (k__law_reads : PySem.W.keepIn K (.ref f__law_reads) = true)
    (a__law_writers : PySem.W.nsIn K mainGlobals "_law_writers" = some (some (.ref f__law_writers)))
    (l__law_writers : K.lookup f__law_writers = some ⟨oc__law_writers, od__law_writers, .func (PySem.W.fnOf "_law_writers" "_law_writers" (defArgs s__law_writers) (defBody s__law_writers) (defScope s__law_writers) .none kV__law_writers dc__law_writers pm__law_writers an__law_writers cd__law_writers ct__law_writers), sl__law_writers⟩)
    (c__law_writers : PySem.W.codeIn K cd__law_writers "_law_writers" = true)
    (k__law_writers : PySem.W.keepIn K (.ref f__law_writers) = true)
    (a__law_value : PySem.W.nsIn K mainGlobals "_law_value" = some (some (.ref f__law_value)))
    (l__law_value : K.lookup f__law_value = some ⟨oc__law_value, od__law_value, .func (PySem.W.fnOf "_law_value" "_law_value" (defArgs s__law_value) (defBody s__law_value) (defScope s__law_value) .none kV__law_value dc__law_value pm__law_value an__law_value cd__law_value ct__law_value), sl__law_value⟩)
    (c__law_value : PySem.W.codeIn K cd__law_value "_law_value" = true)
    (k__law_value : PySem.W.keepIn K (.ref f__law_value) = true)
    (a__law_common : PySem.W.nsIn K mainGlobals "_law_common" = some (some (.ref f__law_common)))
    (l__law_common : K.lookup f__law_common = some ⟨oc__law_common, od__law_common, .func (PySem.W.fnOf "_law_common" "_law_common" (defArgs s__law_common) (defBody s__law_common) (defScope s__law_common) .none kV__law_common dc__law_common pm__law_common an__law_common cd__law_common ct__law_common), sl__law_common⟩)
    (c__law_common : PySem.W.codeIn K cd__law_common "_law_common" = true)
    (k__law_common : PySem.W.keepIn K (.ref f__law_common) = true)
    (a_law : PySem.W.nsIn K mainGlobals "law" = some (some (.ref f_law)))
    (l_law : K.lookup f_law = some ⟨oc_law, od_law, .func (PySem.W.fnOf "law" "law" (defArgs s_law) (defBody s_law) (defScope s_law) .none kV_law dc_law pm_law an_law cd_law ct_law), sl_law⟩)
    (c_law : PySem.W.codeIn K cd_law "law" = true)
    (k_law : PySem.W.keepIn K (.ref f_law) = true)
    (n_Present_noted : PySem.W.findIn K (.ref k_Present) "noted" = some none)
    (n_Present_readers : PySem.W.findIn K (.ref k_Present) "readers" = some none)
    (n_Present_loads : PySem.W.findIn K (.ref k_Present) "loads" = some none)
    (x_Present_take_off : PySem.W.findIn K (.ref k_Present) "take_off" = some (some (.ref f_Present_m_take_off)))
    (q5_Present : PySem.W.makesIn K k_Present = true)
    (q6_Present : PySem.W.findIn K (.ref k_Present) "__init__" = some (some (.ref f_Present_m___init__)))
    (q7_Present : PySem.W.keepIn K (.ref k_Present) = true)
    (x_Present_go : PySem.W.findIn K (.ref k_Present) "go" = some (some (.ref f_Present_m_go)))
    (x_Present_note : PySem.W.findIn K (.ref k_Present) "note" = some (some (.ref f_Present_m_note)))
    (a_WRITTEN : PySem.W.nsIn K mainGlobals "WRITTEN" = some (some (.ref ad_WRITTEN)))
    (l_WRITTEN : K.lookup ad_WRITTEN = some ⟨.type "dict", none, .dict es_WRITTEN n_WRITTEN, #[]⟩)
    (t_wWRITTEN : (ad_WRITTEN == sysModules) = false)
    (t_kWRITTEN : es_WRITTEN.toList.map He.keyOf = He.keysIn w.params ["const", "copy", "op", "select", "load"])
    (t_vWRITTEN : es_WRITTEN.toList.map (fun e => absV e.val) = d_WRITTEN.map (fun q => flatC q.2))
    (a_FORMS : PySem.W.nsIn K mainGlobals "FORMS" = some (some (.ref ad_FORMS)))
    (l_FORMS : K.lookup ad_FORMS = some ⟨.type "dict", none, .dict es_FORMS n_FORMS, #[]⟩)
    (t_wFORMS : (ad_FORMS == sysModules) = false)
    (t_kFORMS : es_FORMS.toList.map He.keyOf = He.keysIn w.params ["const", "copy", "op", "select", "load", "store", "out", "jump", "branch", "stop"])
    (t_vFORMS : es_FORMS.toList.map (·.val) = [.ref ad_FORMS_0, .ref ad_FORMS_1, .ref ad_FORMS_2, .ref ad_FORMS_3, .ref ad_FORMS_4, .ref ad_FORMS_5, .ref ad_FORMS_6, .ref ad_FORMS_7, .ref ad_FORMS_8, .ref ad_FORMS_9])
    (l_ad_FORMS_0 : K.lookup ad_FORMS_0 = some ⟨.type "tuple", oad_FORMS_0, .seq iad_FORMS_0 nad_FORMS_0, sad_FORMS_0⟩)
    (t_ad_FORMS_0 : iad_FORMS_0.toList.map absV = ([.str "write", .str "word"] : List D).map flatC)
    (l_ad_FORMS_1 : K.lookup ad_FORMS_1 = some ⟨.type "tuple", oad_FORMS_1, .seq iad_FORMS_1 nad_FORMS_1, sad_FORMS_1⟩)
    (t_ad_FORMS_1 : iad_FORMS_1.toList.map absV = ([.str "write", .str "read"] : List D).map flatC)
    (l_ad_FORMS_2 : K.lookup ad_FORMS_2 = some ⟨.type "tuple", oad_FORMS_2, .seq iad_FORMS_2 nad_FORMS_2, sad_FORMS_2⟩)
    (t_ad_FORMS_2 : iad_FORMS_2.toList.map absV = ([.str "sign", .str "write", .str "read", .str "read"] : List D).map flatC)
    (l_ad_FORMS_3 : K.lookup ad_FORMS_3 = some ⟨.type "tuple", oad_FORMS_3, .seq iad_FORMS_3 nad_FORMS_3, sad_FORMS_3⟩)
    (t_ad_FORMS_3 : iad_FORMS_3.toList.map absV = ([.str "write", .str "read", .str "read", .str "read"] : List D).map flatC)
    (l_ad_FORMS_4 : K.lookup ad_FORMS_4 = some ⟨.type "tuple", oad_FORMS_4, .seq iad_FORMS_4 nad_FORMS_4, sad_FORMS_4⟩)
    (t_ad_FORMS_4 : iad_FORMS_4.toList.map absV = ([.str "write", .str "array", .str "read"] : List D).map flatC)
    (l_ad_FORMS_5 : K.lookup ad_FORMS_5 = some ⟨.type "tuple", oad_FORMS_5, .seq iad_FORMS_5 nad_FORMS_5, sad_FORMS_5⟩)
    (t_ad_FORMS_5 : iad_FORMS_5.toList.map absV = ([.str "array", .str "read", .str "read"] : List D).map flatC)
    (l_ad_FORMS_6 : K.lookup ad_FORMS_6 = some ⟨.type "tuple", oad_FORMS_6, .seq iad_FORMS_6 nad_FORMS_6, sad_FORMS_6⟩)
    (t_ad_FORMS_6 : iad_FORMS_6.toList.map absV = ([.str "read"] : List D).map flatC)
    (l_ad_FORMS_7 : K.lookup ad_FORMS_7 = some ⟨.type "tuple", oad_FORMS_7, .seq iad_FORMS_7 nad_FORMS_7, sad_FORMS_7⟩)
    (t_ad_FORMS_7 : iad_FORMS_7.toList.map absV = ([.str "block"] : List D).map flatC)
    (l_ad_FORMS_8 : K.lookup ad_FORMS_8 = some ⟨.type "tuple", oad_FORMS_8, .seq iad_FORMS_8 nad_FORMS_8, sad_FORMS_8⟩)
    (t_ad_FORMS_8 : iad_FORMS_8.toList.map absV = ([.str "read", .str "block", .str "block"] : List D).map flatC)
    (l_ad_FORMS_9 : K.lookup ad_FORMS_9 = some ⟨.type "tuple", oad_FORMS_9, .seq iad_FORMS_9 nad_FORMS_9, sad_FORMS_9⟩)
    (t_ad_FORMS_9 : iad_FORMS_9.toList.map absV = ([.str "read"] : List D).map flatC)
    (z_range : PySem.W.nsIn K mainGlobals "range" = some none)
    (z_len : PySem.W.nsIn K mainGlobals "len" = some none)
    (z_abs : PySem.W.nsIn K mainGlobals "abs" = some none)
    (z_int : PySem.W.nsIn K mainGlobals "int" = some none)
    (z_tuple : PySem.W.nsIn K mainGlobals "tuple" = some none)
    (z_zip : PySem.W.nsIn K mainGlobals "zip" = some none)
    (z_list : PySem.W.nsIn K mainGlobals "list" = some none) :
    ∃ fd : FuncData, (∀ (s : Shared) (v : Value), BindsTo s fd ⟨[v], []⟩ [("script", v)]) ∧ ∀ base : Heap, K.In base → base.Ns mainGlobals mg → FnOk l.prog w K mg base (L2.CX l.prog w) 5 fa fd ["script"] (spX K 1 (fun cA => m_law cA)) := by
  have e := hfa.symm.trans (PySem.W.mg_of X G a_law)
  cases e
  have F__law_draws := fun_mk (st := s__law_draws) l__law_draws c__law_draws k__law_draws
  have D__law_draws : DefAt K mg "_law_draws" s__law_draws ["script", "many"] _ _ := ⟨F__law_draws, PySem.W.mg_of X G a__law_draws, F__law_draws.binds fun _ _ _ _ _ _ us hl => match us, hl with | [_, _], _ => rfl⟩
  have F__law_start := fun_mk (st := s__law_start) l__law_start c__law_start k__law_start
  have D__law_start : DefAt K mg "_law_start" s__law_start ["script"] _ _ := ⟨F__law_start, PySem.W.mg_of X G a__law_start, F__law_start.binds fun _ _ _ _ _ _ us hl => match us, hl with | [_], _ => rfl⟩
  have F__law_take := fun_mk (st := s__law_take) l__law_take c__law_take k__law_take
  have D__law_take : DefAt K mg "_law_take" s__law_take ["d"] _ _ := ⟨F__law_take, PySem.W.mg_of X G a__law_take, F__law_take.binds fun _ _ _ _ _ _ us hl => match us, hl with | [_], _ => rfl⟩
  have F__law_again := fun_mk (st := s__law_again) l__law_again c__law_again k__law_again
  have D__law_again : DefAt K mg "_law_again" s__law_again ["d", "program"] _ _ := ⟨F__law_again, PySem.W.mg_of X G a__law_again, F__law_again.binds fun _ _ _ _ _ _ us hl => match us, hl with | [_, _], _ => rfl⟩
  have F__law_word := fun_mk (st := s__law_word) l__law_word c__law_word k__law_word
  have D__law_word : DefAt K mg "_law_word" s__law_word ["d"] _ _ := ⟨F__law_word, PySem.W.mg_of X G a__law_word, F__law_word.binds fun _ _ _ _ _ _ us hl => match us, hl with | [_], _ => rfl⟩
  have F__law_sign := fun_mk (st := s__law_sign) l__law_sign c__law_sign k__law_sign
  have D__law_sign : DefAt K mg "_law_sign" s__law_sign ["d"] _ _ := ⟨F__law_sign, PySem.W.mg_of X G a__law_sign, F__law_sign.binds fun _ _ _ _ _ _ us hl => match us, hl with | [_], _ => rfl⟩
  have F__law_row := fun_mk (st := s__law_row) l__law_row c__law_row k__law_row
  have D__law_row : DefAt K mg "_law_row" s__law_row ["d", "arrays", "many"] _ _ := ⟨F__law_row, PySem.W.mg_of X G a__law_row, F__law_row.binds fun _ _ _ _ _ _ us hl => match us, hl with | [_, _, _], _ => rfl⟩
  have F__law_way := fun_mk (st := s__law_way) l__law_way c__law_way k__law_way
  have D__law_way : DefAt K mg "_law_way" s__law_way ["d", "at", "many", "regs"] _ _ := ⟨F__law_way, PySem.W.mg_of X G a__law_way, F__law_way.binds fun _ _ _ _ _ _ us hl => match us, hl with | [_, _, _, _], _ => rfl⟩
  have F__law_program := fun_mk (st := s__law_program) l__law_program c__law_program k__law_program
  have D__law_program : DefAt K mg "_law_program" s__law_program ["d", "most", "regs"] _ _ := ⟨F__law_program, PySem.W.mg_of X G a__law_program, F__law_program.binds fun _ _ _ _ _ _ us hl => match us, hl with | [_, _, _], _ => rfl⟩
  have F_written := fun_mk (st := s_written) l_written c_written k_written
  have D_written : DefAt K mg "written" s_written ["row"] _ _ := ⟨F_written, PySem.W.mg_of X G a_written, F_written.binds fun _ _ _ _ _ _ us hl => match us, hl with | [_], _ => rfl⟩
  have F_Present_m___init__ := fun_mk (st := s_Present_m___init__) l_Present_m___init__ c_Present_m___init__ k_Present_m___init__
  have D_Present_m___init__ : MetAt K "__init__" "Present.__init__" s_Present_m___init__ ["self"] _ _ := ⟨F_Present_m___init__, F_Present_m___init__.binds fun _ _ _ _ _ _ us hl => match us, hl with | [_], _ => rfl⟩
  have F_value_of := fun_mk (st := s_value_of) l_value_of c_value_of k_value_of
  have D_value_of : DefAt K mg "value_of" s_value_of ["row"] _ _ := ⟨F_value_of, PySem.W.mg_of X G a_value_of, F_value_of.binds fun _ _ _ _ _ _ us hl => match us, hl with | [_], _ => rfl⟩
  have F_Present_m_take_off := fun_mk (st := s_Present_m_take_off) l_Present_m_take_off c_Present_m_take_off k_Present_m_take_off
  have D_Present_m_take_off : MetAt K "take_off" "Present.take_off" s_Present_m_take_off ["self", "found"] _ _ := ⟨F_Present_m_take_off, F_Present_m_take_off.binds fun _ _ _ _ _ _ us hl => match us, hl with | [_, _], _ => rfl⟩
  have F_Present_m_go := fun_mk (st := s_Present_m_go) l_Present_m_go c_Present_m_go k_Present_m_go
  have D_Present_m_go : MetAt K "go" "Present.go" s_Present_m_go ["self", "row"] _ _ := ⟨F_Present_m_go, F_Present_m_go.binds fun _ _ _ _ _ _ us hl => match us, hl with | [_, _], _ => rfl⟩
  have F_parts_like := fun_mk (st := s_parts_like) l_parts_like c_parts_like k_parts_like
  have D_parts_like : DefAt K mg "parts_like" s_parts_like ["row", "kind"] _ _ := ⟨F_parts_like, PySem.W.mg_of X G a_parts_like, F_parts_like.binds fun _ _ _ _ _ _ us hl => match us, hl with | [_, _], _ => rfl⟩
  have F_Present_m_note := fun_mk (st := s_Present_m_note) l_Present_m_note c_Present_m_note k_Present_m_note
  have D_Present_m_note : MetAt K "note" "Present.note" s_Present_m_note ["self", "row"] _ _ := ⟨F_Present_m_note, F_Present_m_note.binds fun _ _ _ _ _ _ us hl => match us, hl with | [_, _], _ => rfl⟩
  have F__shared := fun_mk (st := s__shared) l__shared c__shared k__shared
  have D__shared : DefAt K mg "_shared" s__shared ["block", "times"] _ _ := ⟨F__shared, PySem.W.mg_of X G a__shared, F__shared.binds fun _ _ _ _ _ _ us hl => match us, hl with | [_, _], _ => rfl⟩
  have F_common := fun_mk (st := s_common) l_common c_common k_common
  have D_common : DefAt K mg "common" s_common ["program"] _ _ := ⟨F_common, PySem.W.mg_of X G a_common, F_common.binds fun _ _ _ _ _ _ us hl => match us, hl with | [_], _ => rfl⟩
  have F__law_writes := fun_mk (st := s__law_writes) l__law_writes c__law_writes k__law_writes
  have D__law_writes : DefAt K mg "_law_writes" s__law_writes ["row"] _ _ := ⟨F__law_writes, PySem.W.mg_of X G a__law_writes, F__law_writes.binds fun _ _ _ _ _ _ us hl => match us, hl with | [_], _ => rfl⟩
  have F__law_stays := fun_mk (st := s__law_stays) l__law_stays c__law_stays k__law_stays
  have D__law_stays : DefAt K mg "_law_stays" s__law_stays ["pair", "row"] _ _ := ⟨F__law_stays, PySem.W.mg_of X G a__law_stays, F__law_stays.binds fun _ _ _ _ _ _ us hl => match us, hl with | [_, _], _ => rfl⟩
  have F__law_reads := fun_mk (st := s__law_reads) l__law_reads c__law_reads k__law_reads
  have D__law_reads : DefAt K mg "_law_reads" s__law_reads ["row"] _ _ := ⟨F__law_reads, PySem.W.mg_of X G a__law_reads, F__law_reads.binds fun _ _ _ _ _ _ us hl => match us, hl with | [_], _ => rfl⟩
  have F__law_writers := fun_mk (st := s__law_writers) l__law_writers c__law_writers k__law_writers
  have D__law_writers : DefAt K mg "_law_writers" s__law_writers ["program", "reg"] _ _ := ⟨F__law_writers, PySem.W.mg_of X G a__law_writers, F__law_writers.binds fun _ _ _ _ _ _ us hl => match us, hl with | [_, _], _ => rfl⟩
  have F__law_value := fun_mk (st := s__law_value) l__law_value c__law_value k__law_value
  have D__law_value : DefAt K mg "_law_value" s__law_value ["row"] _ _ := ⟨F__law_value, PySem.W.mg_of X G a__law_value, F__law_value.binds fun _ _ _ _ _ _ us hl => match us, hl with | [_], _ => rfl⟩
  have F__law_common := fun_mk (st := s__law_common) l__law_common c__law_common k__law_common
  have D__law_common : DefAt K mg "_law_common" s__law_common ["program"] _ _ := ⟨F__law_common, PySem.W.mg_of X G a__law_common, F__law_common.binds fun _ _ _ _ _ _ us hl => match us, hl with | [_], _ => rfl⟩
  have F_law := fun_mk (st := s_law) l_law c_law k_law
  have D_law : DefAt K mg "law" s_law ["script"] _ _ := ⟨F_law, PySem.W.mg_of X G a_law, F_law.binds fun _ _ _ _ _ _ us hl => match us, hl with | [_], _ => rfl⟩
  have C_Present : Cls K k_Present := ⟨q1_Present, q2_Present, q3_Present, q4_Present⟩
  have fo_noted : FOk K [k_Present] "noted" := fun C h => by
    simp only [List.mem_cons, List.not_mem_nil, or_false] at h
    rcases h with rfl
    · exact ⟨C_Present, n_Present_noted⟩
  have fo_readers : FOk K [k_Present] "readers" := fun C h => by
    simp only [List.mem_cons, List.not_mem_nil, or_false] at h
    rcases h with rfl
    · exact ⟨C_Present, n_Present_readers⟩
  have fo_loads : FOk K [k_Present] "loads" := fun C h => by
    simp only [List.mem_cons, List.not_mem_nil, or_false] at h
    rcases h with rfl
    · exact ⟨C_Present, n_Present_loads⟩
  have X_Present_take_off : Cls K k_Present ∧ Meth K k_Present "take_off" f_Present_m_take_off := ⟨C_Present, x_Present_take_off, i_Present_m_take_off, k_Present_m_take_off⟩
  have N_Present : mg "Present" = some (.ref k_Present) := PySem.W.mg_of X G a_Present
  have M_Present : Mk K k_Present f_Present_m___init__ := ⟨q5_Present, q6_Present, i_Present_m___init__, q7_Present⟩
  have X_Present_go : Cls K k_Present ∧ Meth K k_Present "go" f_Present_m_go := ⟨C_Present, x_Present_go, i_Present_m_go, k_Present_m_go⟩
  have X_Present_note : Cls K k_Present ∧ Meth K k_Present "note" f_Present_m_note := ⟨C_Present, x_Present_note, i_Present_m_note, k_Present_m_note⟩
  have g_WRITTEN : KD K w mg "WRITTEN" d_WRITTEN := kd_mk (PySem.W.mg_of X G a_WRITTEN) l_WRITTEN t_wWRITTEN t_kWRITTEN (kvs_flat t_vWRITTEN rfl)
  have g_FORMS : KD K w mg "FORMS" d_FORMS := kd_mk (PySem.W.mg_of X G a_FORMS) l_FORMS t_wFORMS t_kFORMS (t_vFORMS ▸ (KVs.cons (kv_flats l_ad_FORMS_0 t_ad_FORMS_0) (KVs.cons (kv_flats l_ad_FORMS_1 t_ad_FORMS_1) (KVs.cons (kv_flats l_ad_FORMS_2 t_ad_FORMS_2) (KVs.cons (kv_flats l_ad_FORMS_3 t_ad_FORMS_3) (KVs.cons (kv_flats l_ad_FORMS_4 t_ad_FORMS_4) (KVs.cons (kv_flats l_ad_FORMS_5 t_ad_FORMS_5) (KVs.cons (kv_flats l_ad_FORMS_6 t_ad_FORMS_6) (KVs.cons (kv_flats l_ad_FORMS_7 t_ad_FORMS_7) (KVs.cons (kv_flats l_ad_FORMS_8 t_ad_FORMS_8) (KVs.cons (kv_flats l_ad_FORMS_9 t_ad_FORMS_9) KVs.nil)))))))))))
  refine ⟨PySem.W.fnOf "law" "law" (defArgs s_law) (defBody s_law) (defScope s_law) .none kV_law dc_law pm_law an_law cd_law ct_law, fun s v => .of_eq rfl, fun base _ _ => ?_⟩
  have G__law_draws := (ok__law_draws (P := l.prog) (w := w) (mg := mg) (base := base) D__law_draws (PySem.W.mg_none_of X G z_range) (PySem.W.mg_none_of X G z_len) (PySem.W.mg_none_of X G z_abs) (PySem.W.mg_none_of X G z_int))
  have G__law_start := (ok__law_start (P := l.prog) (w := w) (mg := mg) (base := base) D__law_start D__law_draws G__law_draws)
  have G__law_take := (ok__law_take (P := l.prog) (w := w) (mg := mg) (base := base) D__law_take (PySem.W.mg_none_of X G z_int))
  have G__law_again := (ok__law_again (P := l.prog) (w := w) (mg := mg) (base := base) D__law_again D__law_take G__law_take (PySem.W.mg_none_of X G z_len) (PySem.W.mg_none_of X G z_tuple))
  have G__law_word := (ok__law_word (P := l.prog) (w := w) (mg := mg) (base := base) D__law_word D__law_take G__law_take)
  have G__law_sign := (ok__law_sign (P := l.prog) (w := w) (mg := mg) (base := base) D__law_sign D__law_take G__law_take)
  have G__law_row := (ok__law_row (P := l.prog) (w := w) (mg := mg) (base := base) D__law_row D__law_take D__law_word D__law_sign G__law_take G__law_word G__law_sign (PySem.W.mg_none_of X G z_range) (PySem.W.mg_none_of X G z_len))
  have G__law_way := (ok__law_way (P := l.prog) (w := w) (mg := mg) (base := base) D__law_way D__law_take G__law_take (PySem.W.mg_none_of X G z_range))
  have G__law_program := (ok__law_program (P := l.prog) (w := w) (mg := mg) (base := base) D__law_program D__law_take D__law_row D__law_way G__law_take G__law_row G__law_way (PySem.W.mg_none_of X G z_range) (PySem.W.mg_none_of X G z_tuple))
  have G_written := (ok_written (P := l.prog) (w := w) (mg := mg) (base := base) D_written g_WRITTEN)
  have G_Present_m___init__ := (ok_Present_m___init__ (P := l.prog) (w := w) (mg := mg) (base := base) (cA := fun i => ([k_Present] : List Addr).getD i 0) D_Present_m___init__ fo_noted fo_readers fo_loads)
  have G_value_of := (ok_value_of (P := l.prog) (w := w) (mg := mg) (base := base) D_value_of g_WRITTEN)
  have G_Present_m_take_off := (ok_Present_m_take_off (P := l.prog) (w := w) (mg := mg) (base := base) (cA := fun i => ([k_Present] : List Addr).getD i 0) D_Present_m_take_off fo_noted)
  have G_Present_m_go := (ok_Present_m_go (P := l.prog) (w := w) (mg := mg) (base := base) (cA := fun i => ([k_Present] : List Addr).getD i 0) D_Present_m_go D_written D_Present_m_take_off G_written G_Present_m_take_off X_Present_take_off fo_readers fo_loads)
  have G_parts_like := (ok_parts_like (P := l.prog) (w := w) (mg := mg) (base := base) D_parts_like g_FORMS (PySem.W.mg_none_of X G z_tuple) (PySem.W.mg_none_of X G z_zip))
  have G_Present_m_note := (ok_Present_m_note (P := l.prog) (w := w) (mg := mg) (base := base) (cA := fun i => ([k_Present] : List Addr).getD i 0) D_Present_m_note D_value_of D_written D_parts_like G_value_of G_written G_parts_like fo_noted fo_readers fo_loads)
  have G__shared := (ok__shared (P := l.prog) (w := w) (mg := mg) (base := base) (cA := fun i => ([k_Present] : List Addr).getD i 0) D__shared D_Present_m___init__ D_value_of D_written D_Present_m_go D_parts_like D_Present_m_note G_Present_m___init__ G_value_of G_written G_Present_m_go G_parts_like G_Present_m_note (PySem.W.mg_none_of X G z_tuple) N_Present M_Present X_Present_go X_Present_note fo_noted)
  have G_common := (ok_common (P := l.prog) (w := w) (mg := mg) (base := base) (cA := fun i => ([k_Present] : List Addr).getD i 0) D_common D_written D__shared G_written G__shared (PySem.W.mg_none_of X G z_range) (PySem.W.mg_none_of X G z_tuple))
  have G__law_writes := (ok__law_writes (P := l.prog) (w := w) (mg := mg) (base := base) D__law_writes)
  have G__law_stays := (ok__law_stays (P := l.prog) (w := w) (mg := mg) (base := base) D__law_stays D__law_writes G__law_writes (PySem.W.mg_none_of X G z_int))
  have G__law_reads := (ok__law_reads (P := l.prog) (w := w) (mg := mg) (base := base) D__law_reads (PySem.W.mg_none_of X G z_list))
  have G__law_writers := (ok__law_writers (P := l.prog) (w := w) (mg := mg) (base := base) D__law_writers D__law_writes G__law_writes (PySem.W.mg_none_of X G z_int) (PySem.W.mg_none_of X G z_len))
  have G__law_value := (ok__law_value (P := l.prog) (w := w) (mg := mg) (base := base) D__law_value)
  have G__law_common := (ok__law_common (P := l.prog) (w := w) (mg := mg) (base := base) D__law_common D__law_value D__law_writes D__law_stays D__law_reads D__law_writers G__law_value G__law_writes G__law_stays G__law_reads G__law_writers (PySem.W.mg_none_of X G z_tuple))
  have G_law := (ok_law (P := l.prog) (w := w) (mg := mg) (base := base) (cA := fun i => ([k_Present] : List Addr).getD i 0) D_law D__law_start D__law_again D__law_program D_common D__law_common G__law_start G__law_again G__law_program G_common G__law_common (PySem.W.mg_none_of X G z_range))
  exact G_law.imp fun vs H Q E h => h _
def fd__law_draws : He.FnD := ⟨("_law_draws", none), "_law_draws", "_law_draws", defArgs s__law_draws, defBody s__law_draws, defScope s__law_draws⟩
def fd__law_start : He.FnD := ⟨("_law_start", none), "_law_start", "_law_start", defArgs s__law_start, defBody s__law_start, defScope s__law_start⟩
def fd__law_take : He.FnD := ⟨("_law_take", none), "_law_take", "_law_take", defArgs s__law_take, defBody s__law_take, defScope s__law_take⟩
def fd__law_again : He.FnD := ⟨("_law_again", none), "_law_again", "_law_again", defArgs s__law_again, defBody s__law_again, defScope s__law_again⟩
def fd__law_word : He.FnD := ⟨("_law_word", none), "_law_word", "_law_word", defArgs s__law_word, defBody s__law_word, defScope s__law_word⟩
def fd__law_sign : He.FnD := ⟨("_law_sign", none), "_law_sign", "_law_sign", defArgs s__law_sign, defBody s__law_sign, defScope s__law_sign⟩
def fd__law_row : He.FnD := ⟨("_law_row", none), "_law_row", "_law_row", defArgs s__law_row, defBody s__law_row, defScope s__law_row⟩
def fd__law_way : He.FnD := ⟨("_law_way", none), "_law_way", "_law_way", defArgs s__law_way, defBody s__law_way, defScope s__law_way⟩
def fd__law_program : He.FnD := ⟨("_law_program", none), "_law_program", "_law_program", defArgs s__law_program, defBody s__law_program, defScope s__law_program⟩
def fd_written : He.FnD := ⟨("written", none), "written", "written", defArgs s_written, defBody s_written, defScope s_written⟩
def fd_Present_m___init__ : He.FnD := ⟨("Present", some "__init__"), "__init__", "Present.__init__", defArgs s_Present_m___init__, defBody s_Present_m___init__, defScope s_Present_m___init__⟩
def fd_value_of : He.FnD := ⟨("value_of", none), "value_of", "value_of", defArgs s_value_of, defBody s_value_of, defScope s_value_of⟩
def fd_Present_m_take_off : He.FnD := ⟨("Present", some "take_off"), "take_off", "Present.take_off", defArgs s_Present_m_take_off, defBody s_Present_m_take_off, defScope s_Present_m_take_off⟩
def fd_Present_m_go : He.FnD := ⟨("Present", some "go"), "go", "Present.go", defArgs s_Present_m_go, defBody s_Present_m_go, defScope s_Present_m_go⟩
def fd_parts_like : He.FnD := ⟨("parts_like", none), "parts_like", "parts_like", defArgs s_parts_like, defBody s_parts_like, defScope s_parts_like⟩
def fd_Present_m_note : He.FnD := ⟨("Present", some "note"), "note", "Present.note", defArgs s_Present_m_note, defBody s_Present_m_note, defScope s_Present_m_note⟩
def fd__shared : He.FnD := ⟨("_shared", none), "_shared", "_shared", defArgs s__shared, defBody s__shared, defScope s__shared⟩
def fd_common : He.FnD := ⟨("common", none), "common", "common", defArgs s_common, defBody s_common, defScope s_common⟩
def fd__law_writes : He.FnD := ⟨("_law_writes", none), "_law_writes", "_law_writes", defArgs s__law_writes, defBody s__law_writes, defScope s__law_writes⟩
def fd__law_stays : He.FnD := ⟨("_law_stays", none), "_law_stays", "_law_stays", defArgs s__law_stays, defBody s__law_stays, defScope s__law_stays⟩
def fd__law_reads : He.FnD := ⟨("_law_reads", none), "_law_reads", "_law_reads", defArgs s__law_reads, defBody s__law_reads, defScope s__law_reads⟩
def fd__law_writers : He.FnD := ⟨("_law_writers", none), "_law_writers", "_law_writers", defArgs s__law_writers, defBody s__law_writers, defScope s__law_writers⟩
def fd__law_value : He.FnD := ⟨("_law_value", none), "_law_value", "_law_value", defArgs s__law_value, defBody s__law_value, defScope s__law_value⟩
def fd__law_common : He.FnD := ⟨("_law_common", none), "_law_common", "_law_common", defArgs s__law_common, defBody s__law_common, defScope s__law_common⟩
def fd_law : He.FnD := ⟨("law", none), "law", "law", defArgs s_law, defBody s_law, defScope s_law⟩
abbrev kR : PySem.W.OpenRow := PySem.W.OpenLaw.row PySem.Challenge.rw_sameclock_k45_common_values
def ts_WRITTEN : He.Tab := (fun K => He.ga K "WRITTEN", ["const", "copy", "op", "select", "load"])
def ts_FORMS : He.Tab := (fun K => He.ga K "FORMS", ["const", "copy", "op", "select", "load", "store", "out", "jump", "branch", "stop"])
def xo_vWRITTEN : (PySem.W.Frag → Option (List (Option V))) × List (Option V) := (fun K => oDV K (He.ga K "WRITTEN"), [some (.int 1), some (.int 1), some (.int 2), some (.int 1), some (.int 1)])
def xo_ad_FORMS_0 : (PySem.W.Frag → Option (List (Option V))) × List (Option V) := (fun K => oT K (dcAt K (He.ga K "FORMS") 0), [some (.str "write"), some (.str "word")])
def xo_ad_FORMS_1 : (PySem.W.Frag → Option (List (Option V))) × List (Option V) := (fun K => oT K (dcAt K (He.ga K "FORMS") 1), [some (.str "write"), some (.str "read")])
def xo_ad_FORMS_2 : (PySem.W.Frag → Option (List (Option V))) × List (Option V) := (fun K => oT K (dcAt K (He.ga K "FORMS") 2), [some (.str "sign"), some (.str "write"), some (.str "read"), some (.str "read")])
def xo_ad_FORMS_3 : (PySem.W.Frag → Option (List (Option V))) × List (Option V) := (fun K => oT K (dcAt K (He.ga K "FORMS") 3), [some (.str "write"), some (.str "read"), some (.str "read"), some (.str "read")])
def xo_ad_FORMS_4 : (PySem.W.Frag → Option (List (Option V))) × List (Option V) := (fun K => oT K (dcAt K (He.ga K "FORMS") 4), [some (.str "write"), some (.str "array"), some (.str "read")])
def xo_ad_FORMS_5 : (PySem.W.Frag → Option (List (Option V))) × List (Option V) := (fun K => oT K (dcAt K (He.ga K "FORMS") 5), [some (.str "array"), some (.str "read"), some (.str "read")])
def xo_ad_FORMS_6 : (PySem.W.Frag → Option (List (Option V))) × List (Option V) := (fun K => oT K (dcAt K (He.ga K "FORMS") 6), [some (.str "read")])
def xo_ad_FORMS_7 : (PySem.W.Frag → Option (List (Option V))) × List (Option V) := (fun K => oT K (dcAt K (He.ga K "FORMS") 7), [some (.str "block")])
def xo_ad_FORMS_8 : (PySem.W.Frag → Option (List (Option V))) × List (Option V) := (fun K => oT K (dcAt K (He.ga K "FORMS") 8), [some (.str "read"), some (.str "block"), some (.str "block")])
def xo_ad_FORMS_9 : (PySem.W.Frag → Option (List (Option V))) × List (Option V) := (fun K => oT K (dcAt K (He.ga K "FORMS") 9), [some (.str "read")])
def xb_vFORMS : PySem.W.Frag → Bool := fun K => eqVs (dcVs K (He.ga K "FORMS")) [.ref (dcAt K (He.ga K "FORMS") 0), .ref (dcAt K (He.ga K "FORMS") 1), .ref (dcAt K (He.ga K "FORMS") 2), .ref (dcAt K (He.ga K "FORMS") 3), .ref (dcAt K (He.ga K "FORMS") 4), .ref (dcAt K (He.ga K "FORMS") 5), .ref (dcAt K (He.ga K "FORMS") 6), .ref (dcAt K (He.ga K "FORMS") 7), .ref (dcAt K (He.ga K "FORMS") 8), .ref (dcAt K (He.ga K "FORMS") 9)]
def kFa_0 : List He.Fa := [.glo "Present", .cls "Present", .glo "_law_draws", .keep "_law_draws", .glo "_law_start", .keep "_law_start", .glo "_law_take", .keep "_law_take", .glo "_law_again", .keep "_law_again", .glo "_law_word", .keep "_law_word", .glo "_law_sign", .keep "_law_sign", .glo "_law_row", .keep "_law_row", .glo "_law_way", .keep "_law_way", .glo "_law_program", .keep "_law_program"]
def kFa_1 : List He.Fa := [.glo "written", .keep "written", .meth "Present" "__init__", .glo "value_of", .keep "value_of", .meth "Present" "take_off", .meth "Present" "go", .glo "parts_like", .keep "parts_like", .meth "Present" "note", .glo "_shared", .keep "_shared", .glo "common", .keep "common", .glo "_law_writes", .keep "_law_writes", .glo "_law_stays", .keep "_law_stays", .glo "_law_reads", .keep "_law_reads"]
def kFa_2 : List He.Fa := [.glo "_law_writers", .keep "_law_writers", .glo "_law_value", .keep "_law_value", .glo "_law_common", .keep "_law_common", .glo "law", .keep "law", .noat "Present" "noted", .noat "Present" "readers", .noat "Present" "loads", .mkr "Present", .glo "WRITTEN", .glo "FORMS", .free "range", .free "len", .free "abs", .free "int", .free "tuple", .free "zip"]
def kFa_3 : List He.Fa := [.free "list"]
def kFa : List He.Fa := kFa_0 ++ kFa_1 ++ kFa_2 ++ kFa_3
def kFn_0 : List He.FnD := [fd__law_draws, fd__law_start, fd__law_take, fd__law_again, fd__law_word, fd__law_sign, fd__law_row, fd__law_way, fd__law_program, fd_written, fd_Present_m___init__, fd_value_of, fd_Present_m_take_off, fd_Present_m_go, fd_parts_like, fd_Present_m_note, fd__shared, fd_common, fd__law_writes, fd__law_stays]
def kFn_1 : List He.FnD := [fd__law_reads, fd__law_writers, fd__law_value, fd__law_common, fd_law]
def kFn : List He.FnD := kFn_0 ++ kFn_1
def kTs : List He.Tab := [ts_WRITTEN, ts_FORMS]
def kXo : List ((PySem.W.Frag → Option (List (Option V))) × List (Option V)) := [xo_vWRITTEN, xo_ad_FORMS_0, xo_ad_FORMS_1, xo_ad_FORMS_2, xo_ad_FORMS_3, xo_ad_FORMS_4, xo_ad_FORMS_5, xo_ad_FORMS_6, xo_ad_FORMS_7, xo_ad_FORMS_8, xo_ad_FORMS_9]
def kXb : List (PySem.W.Frag → Bool) := [xb_vFORMS]
def kNames_0 : List Str := ["FORMS", "WRITTEN", "parts_like", "written", "Present", "value_of", "common", "_shared", "_law_draws", "_law_take", "_law_start", "_law_word", "_law_sign", "_law_row", "_law_way", "_law_program", "_law_reads", "_law_writes", "_law_ways", "_law_come"]
def kNames_1 : List Str := ["_law_value", "_law_again", "_law_writers", "_law_stays", "_law_common"]
def kNames : List Str := kNames_0 ++ kNames_1
def kL : Lk := ⟨kFa, kFn, kTs, kXo, kXb, []⟩
abbrev kQ : Program := PySem.W.view kR.prog [29]
set_option maxHeartbeats 0
theorem k_falseA (w : World) : RunA kR kQ kL 20000 kNames (w.withFollow "special-get-raises" false) := by
  intro os
  kernel_rfl
theorem k_falseB (w : World) : RunB kR kL 20000 (w.withFollow "special-get-raises" false) := by
  intro os
  kernel_rfl
theorem k_trueA (w : World) : RunA kR kQ kL 20000 kNames (w.withFollow "special-get-raises" true) := by
  intro os
  kernel_rfl
theorem k_trueB (w : World) : RunB kR kL 20000 (w.withFollow "special-get-raises" true) := by
  intro os
  kernel_rfl
theorem k_run (w : World) : HandSHeadRun.RunEq kR kQ (hookL kL) (fun s => (obA kL s, obB kL s)) 20000 kNames w := PySem.W.byRow2 "special-get-raises" (fun w => run_ab (k_falseA w) (k_falseB w)) (fun w => run_ab (k_trueA w) (k_trueB w)) w
theorem k_facts {l : PySem.W.OpenLaw} {w : World} {K : PySem.W.Frag} {h : Heap} {mg : Str → Option Value} {fa : Addr} (X : K.In h) (G : h.Ns mainGlobals mg) (hfa : mg "law" = some (.ref fa)) (c : SaysL kL w K) (hlp : l.prog = kR.prog) :
    ∃ fd : FuncData, (∀ (s : Shared) (v : Value), BindsTo s fd ⟨[v], []⟩ [("script", v)]) ∧ ∀ base : Heap, K.In base → base.Ns mainGlobals mg → FnOk l.prog w K mg base (L2.CX l.prog w) 5 fa fd ["script"] (spX K 1 (fun cA => m_law cA)) := by
  obtain ⟨oc__law_draws, od__law_draws, sl__law_draws, kV__law_draws, dc__law_draws, pm__law_draws, an__law_draws, cd__law_draws, ct__law_draws, l__law_draws, c__law_draws⟩ := c.def_ 0 (d := fd__law_draws)
  obtain ⟨oc__law_start, od__law_start, sl__law_start, kV__law_start, dc__law_start, pm__law_start, an__law_start, cd__law_start, ct__law_start, l__law_start, c__law_start⟩ := c.def_ 1 (d := fd__law_start)
  obtain ⟨oc__law_take, od__law_take, sl__law_take, kV__law_take, dc__law_take, pm__law_take, an__law_take, cd__law_take, ct__law_take, l__law_take, c__law_take⟩ := c.def_ 2 (d := fd__law_take)
  obtain ⟨oc__law_again, od__law_again, sl__law_again, kV__law_again, dc__law_again, pm__law_again, an__law_again, cd__law_again, ct__law_again, l__law_again, c__law_again⟩ := c.def_ 3 (d := fd__law_again)
  obtain ⟨oc__law_word, od__law_word, sl__law_word, kV__law_word, dc__law_word, pm__law_word, an__law_word, cd__law_word, ct__law_word, l__law_word, c__law_word⟩ := c.def_ 4 (d := fd__law_word)
  obtain ⟨oc__law_sign, od__law_sign, sl__law_sign, kV__law_sign, dc__law_sign, pm__law_sign, an__law_sign, cd__law_sign, ct__law_sign, l__law_sign, c__law_sign⟩ := c.def_ 5 (d := fd__law_sign)
  obtain ⟨oc__law_row, od__law_row, sl__law_row, kV__law_row, dc__law_row, pm__law_row, an__law_row, cd__law_row, ct__law_row, l__law_row, c__law_row⟩ := c.def_ 6 (d := fd__law_row)
  obtain ⟨oc__law_way, od__law_way, sl__law_way, kV__law_way, dc__law_way, pm__law_way, an__law_way, cd__law_way, ct__law_way, l__law_way, c__law_way⟩ := c.def_ 7 (d := fd__law_way)
  obtain ⟨oc__law_program, od__law_program, sl__law_program, kV__law_program, dc__law_program, pm__law_program, an__law_program, cd__law_program, ct__law_program, l__law_program, c__law_program⟩ := c.def_ 8 (d := fd__law_program)
  obtain ⟨oc_written, od_written, sl_written, kV_written, dc_written, pm_written, an_written, cd_written, ct_written, l_written, c_written⟩ := c.def_ 9 (d := fd_written)
  obtain ⟨oc_Present_m___init__, od_Present_m___init__, sl_Present_m___init__, kV_Present_m___init__, dc_Present_m___init__, pm_Present_m___init__, an_Present_m___init__, cd_Present_m___init__, ct_Present_m___init__, l_Present_m___init__, c_Present_m___init__⟩ := c.def_ 10 (d := fd_Present_m___init__)
  obtain ⟨oc_value_of, od_value_of, sl_value_of, kV_value_of, dc_value_of, pm_value_of, an_value_of, cd_value_of, ct_value_of, l_value_of, c_value_of⟩ := c.def_ 11 (d := fd_value_of)
  obtain ⟨oc_Present_m_take_off, od_Present_m_take_off, sl_Present_m_take_off, kV_Present_m_take_off, dc_Present_m_take_off, pm_Present_m_take_off, an_Present_m_take_off, cd_Present_m_take_off, ct_Present_m_take_off, l_Present_m_take_off, c_Present_m_take_off⟩ := c.def_ 12 (d := fd_Present_m_take_off)
  obtain ⟨oc_Present_m_go, od_Present_m_go, sl_Present_m_go, kV_Present_m_go, dc_Present_m_go, pm_Present_m_go, an_Present_m_go, cd_Present_m_go, ct_Present_m_go, l_Present_m_go, c_Present_m_go⟩ := c.def_ 13 (d := fd_Present_m_go)
  obtain ⟨oc_parts_like, od_parts_like, sl_parts_like, kV_parts_like, dc_parts_like, pm_parts_like, an_parts_like, cd_parts_like, ct_parts_like, l_parts_like, c_parts_like⟩ := c.def_ 14 (d := fd_parts_like)
  obtain ⟨oc_Present_m_note, od_Present_m_note, sl_Present_m_note, kV_Present_m_note, dc_Present_m_note, pm_Present_m_note, an_Present_m_note, cd_Present_m_note, ct_Present_m_note, l_Present_m_note, c_Present_m_note⟩ := c.def_ 15 (d := fd_Present_m_note)
  obtain ⟨oc__shared, od__shared, sl__shared, kV__shared, dc__shared, pm__shared, an__shared, cd__shared, ct__shared, l__shared, c__shared⟩ := c.def_ 16 (d := fd__shared)
  obtain ⟨oc_common, od_common, sl_common, kV_common, dc_common, pm_common, an_common, cd_common, ct_common, l_common, c_common⟩ := c.def_ 17 (d := fd_common)
  obtain ⟨oc__law_writes, od__law_writes, sl__law_writes, kV__law_writes, dc__law_writes, pm__law_writes, an__law_writes, cd__law_writes, ct__law_writes, l__law_writes, c__law_writes⟩ := c.def_ 18 (d := fd__law_writes)
  obtain ⟨oc__law_stays, od__law_stays, sl__law_stays, kV__law_stays, dc__law_stays, pm__law_stays, an__law_stays, cd__law_stays, ct__law_stays, l__law_stays, c__law_stays⟩ := c.def_ 19 (d := fd__law_stays)
  obtain ⟨oc__law_reads, od__law_reads, sl__law_reads, kV__law_reads, dc__law_reads, pm__law_reads, an__law_reads, cd__law_reads, ct__law_reads, l__law_reads, c__law_reads⟩ := c.def_ 20 (d := fd__law_reads)
  obtain ⟨oc__law_writers, od__law_writers, sl__law_writers, kV__law_writers, dc__law_writers, pm__law_writers, an__law_writers, cd__law_writers, ct__law_writers, l__law_writers, c__law_writers⟩ := c.def_ 21 (d := fd__law_writers)
  obtain ⟨oc__law_value, od__law_value, sl__law_value, kV__law_value, dc__law_value, pm__law_value, an__law_value, cd__law_value, ct__law_value, l__law_value, c__law_value⟩ := c.def_ 22 (d := fd__law_value)
  obtain ⟨oc__law_common, od__law_common, sl__law_common, kV__law_common, dc__law_common, pm__law_common, an__law_common, cd__law_common, ct__law_common, l__law_common, c__law_common⟩ := c.def_ 23 (d := fd__law_common)
  obtain ⟨oc_law, od_law, sl_law, kV_law, dc_law, pm_law, an_law, cd_law, ct_law, l_law, c_law⟩ := c.def_ 24 (d := fd_law)
  obtain ⟨es_WRITTEN, n_WRITTEN, l_WRITTEN, t_wWRITTEN, t_kWRITTEN, v_WRITTEN⟩ := dicW_look (c.tab 0 (t := ts_WRITTEN))
  have z_WRITTEN := Option.some.inj (show oDV K (He.ga K "WRITTEN") = some [some (.int 1), some (.int 1), some (.int 2), some (.int 1), some (.int 1)] from c.val 0 (t := xo_vWRITTEN))
  rw [show dcVs K (He.ga K "WRITTEN") = _ from v_WRITTEN, List.map_map] at z_WRITTEN
  obtain ⟨es_FORMS, n_FORMS, l_FORMS, t_wFORMS, t_kFORMS, v_FORMS⟩ := dicW_look (c.tab 1 (t := ts_FORMS))
  obtain ⟨oad_FORMS_0, iad_FORMS_0, nad_FORMS_0, sad_FORMS_0, l_ad_FORMS_0, t_ad_FORMS_0⟩ := oT_ok (show oT K (dcAt K (He.ga K "FORMS") 0) = some [some (.str "write"), some (.str "word")] from c.val 1 (t := xo_ad_FORMS_0))
  obtain ⟨oad_FORMS_1, iad_FORMS_1, nad_FORMS_1, sad_FORMS_1, l_ad_FORMS_1, t_ad_FORMS_1⟩ := oT_ok (show oT K (dcAt K (He.ga K "FORMS") 1) = some [some (.str "write"), some (.str "read")] from c.val 2 (t := xo_ad_FORMS_1))
  obtain ⟨oad_FORMS_2, iad_FORMS_2, nad_FORMS_2, sad_FORMS_2, l_ad_FORMS_2, t_ad_FORMS_2⟩ := oT_ok (show oT K (dcAt K (He.ga K "FORMS") 2) = some [some (.str "sign"), some (.str "write"), some (.str "read"), some (.str "read")] from c.val 3 (t := xo_ad_FORMS_2))
  obtain ⟨oad_FORMS_3, iad_FORMS_3, nad_FORMS_3, sad_FORMS_3, l_ad_FORMS_3, t_ad_FORMS_3⟩ := oT_ok (show oT K (dcAt K (He.ga K "FORMS") 3) = some [some (.str "write"), some (.str "read"), some (.str "read"), some (.str "read")] from c.val 4 (t := xo_ad_FORMS_3))
  obtain ⟨oad_FORMS_4, iad_FORMS_4, nad_FORMS_4, sad_FORMS_4, l_ad_FORMS_4, t_ad_FORMS_4⟩ := oT_ok (show oT K (dcAt K (He.ga K "FORMS") 4) = some [some (.str "write"), some (.str "array"), some (.str "read")] from c.val 5 (t := xo_ad_FORMS_4))
  obtain ⟨oad_FORMS_5, iad_FORMS_5, nad_FORMS_5, sad_FORMS_5, l_ad_FORMS_5, t_ad_FORMS_5⟩ := oT_ok (show oT K (dcAt K (He.ga K "FORMS") 5) = some [some (.str "array"), some (.str "read"), some (.str "read")] from c.val 6 (t := xo_ad_FORMS_5))
  obtain ⟨oad_FORMS_6, iad_FORMS_6, nad_FORMS_6, sad_FORMS_6, l_ad_FORMS_6, t_ad_FORMS_6⟩ := oT_ok (show oT K (dcAt K (He.ga K "FORMS") 6) = some [some (.str "read")] from c.val 7 (t := xo_ad_FORMS_6))
  obtain ⟨oad_FORMS_7, iad_FORMS_7, nad_FORMS_7, sad_FORMS_7, l_ad_FORMS_7, t_ad_FORMS_7⟩ := oT_ok (show oT K (dcAt K (He.ga K "FORMS") 7) = some [some (.str "block")] from c.val 8 (t := xo_ad_FORMS_7))
  obtain ⟨oad_FORMS_8, iad_FORMS_8, nad_FORMS_8, sad_FORMS_8, l_ad_FORMS_8, t_ad_FORMS_8⟩ := oT_ok (show oT K (dcAt K (He.ga K "FORMS") 8) = some [some (.str "read"), some (.str "block"), some (.str "block")] from c.val 9 (t := xo_ad_FORMS_8))
  obtain ⟨oad_FORMS_9, iad_FORMS_9, nad_FORMS_9, sad_FORMS_9, l_ad_FORMS_9, t_ad_FORMS_9⟩ := oT_ok (show oT K (dcAt K (He.ga K "FORMS") 9) = some [some (.str "read")] from c.val 10 (t := xo_ad_FORMS_9))
  exact all_mk (l := l) (w := w) X G hfa (He.eqO_ok (c.fact (.glo "Present") 0)) ((He.cls_ok (c.fact (.cls "Present") 1)).1) ((He.cls_ok (c.fact (.cls "Present") 1)).2) ((He.cls_ok (c.fact (.cls "Present") 1)).3) ((He.cls_ok (c.fact (.cls "Present") 1)).4) (He.eqO_ok (c.fact (.glo "_law_draws") 2)) (l__law_draws) (c__law_draws) (He.keep_ok (c.fact (.keep "_law_draws") 3)) (He.eqO_ok (c.fact (.glo "_law_start") 4)) (l__law_start) (c__law_start) (He.keep_ok (c.fact (.keep "_law_start") 5)) (He.eqO_ok (c.fact (.glo "_law_take") 6)) (l__law_take) (c__law_take) (He.keep_ok (c.fact (.keep "_law_take") 7)) (He.eqO_ok (c.fact (.glo "_law_again") 8)) (l__law_again) (c__law_again) (He.keep_ok (c.fact (.keep "_law_again") 9)) (He.eqO_ok (c.fact (.glo "_law_word") 10)) (l__law_word) (c__law_word) (He.keep_ok (c.fact (.keep "_law_word") 11)) (He.eqO_ok (c.fact (.glo "_law_sign") 12)) (l__law_sign) (c__law_sign) (He.keep_ok (c.fact (.keep "_law_sign") 13)) (He.eqO_ok (c.fact (.glo "_law_row") 14)) (l__law_row) (c__law_row) (He.keep_ok (c.fact (.keep "_law_row") 15)) (He.eqO_ok (c.fact (.glo "_law_way") 16)) (l__law_way) (c__law_way) (He.keep_ok (c.fact (.keep "_law_way") 17)) (He.eqO_ok (c.fact (.glo "_law_program") 18)) (l__law_program) (c__law_program) (He.keep_ok (c.fact (.keep "_law_program") 19)) (He.eqO_ok (c.fact (.glo "written") 20)) (l_written) (c_written) (He.keep_ok (c.fact (.keep "written") 21)) ((He.meth_ok (c.fact (.meth "Present" "__init__") 22)).1) (l_Present_m___init__) (c_Present_m___init__) ((He.meth_ok (c.fact (.meth "Present" "__init__") 22)).3) ((He.meth_ok (c.fact (.meth "Present" "__init__") 22)).2) (He.eqO_ok (c.fact (.glo "value_of") 23)) (l_value_of) (c_value_of) (He.keep_ok (c.fact (.keep "value_of") 24)) ((He.meth_ok (c.fact (.meth "Present" "take_off") 25)).1) (l_Present_m_take_off) (c_Present_m_take_off) ((He.meth_ok (c.fact (.meth "Present" "take_off") 25)).3) ((He.meth_ok (c.fact (.meth "Present" "take_off") 25)).2) ((He.meth_ok (c.fact (.meth "Present" "go") 26)).1) (l_Present_m_go) (c_Present_m_go) ((He.meth_ok (c.fact (.meth "Present" "go") 26)).3) ((He.meth_ok (c.fact (.meth "Present" "go") 26)).2) (He.eqO_ok (c.fact (.glo "parts_like") 27)) (l_parts_like) (c_parts_like) (He.keep_ok (c.fact (.keep "parts_like") 28)) ((He.meth_ok (c.fact (.meth "Present" "note") 29)).1) (l_Present_m_note) (c_Present_m_note) ((He.meth_ok (c.fact (.meth "Present" "note") 29)).3) ((He.meth_ok (c.fact (.meth "Present" "note") 29)).2) (He.eqO_ok (c.fact (.glo "_shared") 30)) (l__shared) (c__shared) (He.keep_ok (c.fact (.keep "_shared") 31)) (He.eqO_ok (c.fact (.glo "common") 32)) (l_common) (c_common) (He.keep_ok (c.fact (.keep "common") 33)) (He.eqO_ok (c.fact (.glo "_law_writes") 34)) (l__law_writes) (c__law_writes) (He.keep_ok (c.fact (.keep "_law_writes") 35)) (He.eqO_ok (c.fact (.glo "_law_stays") 36)) (l__law_stays) (c__law_stays) (He.keep_ok (c.fact (.keep "_law_stays") 37)) (He.eqO_ok (c.fact (.glo "_law_reads") 38)) (l__law_reads) (c__law_reads) (He.keep_ok (c.fact (.keep "_law_reads") 39)) (He.eqO_ok (c.fact (.glo "_law_writers") 40)) (l__law_writers) (c__law_writers) (He.keep_ok (c.fact (.keep "_law_writers") 41)) (He.eqO_ok (c.fact (.glo "_law_value") 42)) (l__law_value) (c__law_value) (He.keep_ok (c.fact (.keep "_law_value") 43)) (He.eqO_ok (c.fact (.glo "_law_common") 44)) (l__law_common) (c__law_common) (He.keep_ok (c.fact (.keep "_law_common") 45)) (He.eqO_ok (c.fact (.glo "law") 46)) (l_law) (c_law) (He.keep_ok (c.fact (.keep "law") 47)) (He.eqO_ok (c.fact (.noat "Present" "noted") 48)) (He.eqO_ok (c.fact (.noat "Present" "readers") 49)) (He.eqO_ok (c.fact (.noat "Present" "loads") 50)) ((He.meth_ok (c.fact (.meth "Present" "take_off") 25)).1) ((He.mkr_ok (c.fact (.mkr "Present") 51)).1) ((He.mkr_ok (c.fact (.mkr "Present") 51)).2) ((He.mkr_ok (c.fact (.mkr "Present") 51)).4) ((He.meth_ok (c.fact (.meth "Present" "go") 26)).1) ((He.meth_ok (c.fact (.meth "Present" "note") 29)).1) (He.eqO_ok (c.fact (.glo "WRITTEN") 52)) (l_WRITTEN) (t_wWRITTEN) (t_kWRITTEN) (z_WRITTEN) (He.eqO_ok (c.fact (.glo "FORMS") 53)) (l_FORMS) (t_wFORMS) (t_kFORMS) (v_FORMS.symm.trans (of_decide_eq_true (show (eqVs (dcVs K (He.ga K "FORMS")) [.ref (dcAt K (He.ga K "FORMS") 0), .ref (dcAt K (He.ga K "FORMS") 1), .ref (dcAt K (He.ga K "FORMS") 2), .ref (dcAt K (He.ga K "FORMS") 3), .ref (dcAt K (He.ga K "FORMS") 4), .ref (dcAt K (He.ga K "FORMS") 5), .ref (dcAt K (He.ga K "FORMS") 6), .ref (dcAt K (He.ga K "FORMS") 7), .ref (dcAt K (He.ga K "FORMS") 8), .ref (dcAt K (He.ga K "FORMS") 9)]) = true from c.chk 0 (f := xb_vFORMS)))) (l_ad_FORMS_0) (t_ad_FORMS_0) (l_ad_FORMS_1) (t_ad_FORMS_1) (l_ad_FORMS_2) (t_ad_FORMS_2) (l_ad_FORMS_3) (t_ad_FORMS_3) (l_ad_FORMS_4) (t_ad_FORMS_4) (l_ad_FORMS_5) (t_ad_FORMS_5) (l_ad_FORMS_6) (t_ad_FORMS_6) (l_ad_FORMS_7) (t_ad_FORMS_7) (l_ad_FORMS_8) (t_ad_FORMS_8) (l_ad_FORMS_9) (t_ad_FORMS_9) (He.eqO_ok (c.fact (.free "range") 54)) (He.eqO_ok (c.fact (.free "len") 55)) (He.eqO_ok (c.fact (.free "abs") 56)) (He.eqO_ok (c.fact (.free "int") 57)) (He.eqO_ok (c.fact (.free "tuple") 58)) (He.eqO_ok (c.fact (.free "zip") 59)) (He.eqO_ok (c.fact (.free "list") 60))
end GK45
open PySem PySem.W
open PyProof.Rows hiding St
set_option maxHeartbeats 0 in
theorem PySem.Challenge.cw_sameclock_k45_common_values_holds : PySem.Challenge.rw_sameclock_k45_common_values.Holds := by
  w_on; o_law
  refine HandSHeadRun.head_any (r := GK45.kR) (q := GK45.kQ) (H := Ly.hookL GK45.kL) (ob := fun s => (Ly.obA GK45.kL s, Ly.obB GK45.kL s)) (M := 20000) (loose := GK45.kNames) (d := HandSHeadRun.topDef GK45.kR.prog 29) (kwd := []) Ly.obL_eq (by kernel_rfl) (fun s => by kernel_rfl) GK45.k_run (by kernel_rfl) (by kernel_rfl) (by kernel_rfl) (by rfl) (by first | assumption | decide +kernel) (by decide +kernel) ⟨rfl, rfl, rfl, rfl, rfl, by decide +kernel⟩ ?hw ?hc
  case hw => w_witness2
  case hc =>
    refine Ly.walk_ofL (l := PySem.Challenge.rw_sameclock_k45_common_values) (n := 63) (k := 5) (x := "script") (CX := fun w => L2.CX (PySem.Challenge.rw_sameclock_k45_common_values).prog w) rfl (by decide) (by kernel_rfl) ⟨rfl, by decide, by decide⟩ ?F (fun w H s e s' => Ly.law_noexc)
    intro w mg fa h Y G hmg0
    obtain ⟨K, KX, c⟩ := Y
    have hmg : mg ("law" : PySem.Str) = some (.ref fa) := by
      have e : (HandSHeadRun.topDef GK45.kR.prog 29).name = ("law" : PySem.Str) := by kernel_rfl
      rw [← e]
      exact hmg0
    obtain ⟨fd, hb, hF⟩ := GK45.k_facts (l := PySem.Challenge.rw_sameclock_k45_common_values) (w := w) KX G hmg c rfl
    exact ⟨K, fd, _, KX, hb, fun H a ns hl hb hO hS => Ly.law_endX (m := fun cA => GK45.m_law cA) GK45.law_true hl hb hO hS, hF⟩
