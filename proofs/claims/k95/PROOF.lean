import PyProof.Rows.All
import Wide.All
import OpenK.AllK
import Wide.FinOn
import HandS.ForMost
import HandS.Exc
import HandS.TryOnly
import HandS.ExcOwn
import HandS.WordsExc
import HandS.Wide
import PyProof.Rows.SeqMore
import HandS.IsInst
import HandS.TupAny
import HandS.Zip
import KE.GoesNew
import HandS.ExcIs
import HandS.Gcd
import HandS.TryMany
import HandS.TupMul
import KE.KDictKeyed
import HandS.Style
import HandS.CallSlots
import HandS.Defaults
import PyProof.ReprRoads
import PyProof.ReprLen
import KE.GoesZip
import PyProof.CollectWalk
import PyProof.ListNew
import KE.KStar
import HandS.Star
import HandS.FltList
import KE.KExcSuper
import HandS.ExcInit
import HandS.ExcValue
import HandS.SortKw
import HandS.ExcField
import PySem.Challenge.RW_leapfolk_k95_refusals_made
set_option Elab.async false
set_option linter.all false
set_option maxRecDepth 100000
set_option maxHeartbeats 8000000
namespace DL
open PySem L2

/-- data: a value as a tree -/
inductive D where
  | non | bl (b : Bool) | int (i : Int) | str (x : Str)
  | tup (xs : List D) | lst (xs : List D)
  | exc (k : Nat) (x : D)
  | ty (n : String) | cls (k : Nat) | obj (a : Addr)
  deriving Inhabited

/-- the program's own classes by number -/
def clsStr : Nat → Str
  | 0 => "FolkError" | 1 => "NoYard" | 2 => "NoStanding" | 3 => "NoLeap" | 4 => "NoRow" | 5 => "NoVector" | 6 => "NoReading" | 7 => "NoWishes" | 8 => "NoCell" | 9 => "NoTable" | 10 => "NoNumber" | 11 => "NoPerson" | _ => "TooMany"
/-- the field of an exception that has one -/
def fldStr : Nat → Str
  | 11 => "person" | _ => "most"
def ClsAt (K : PySem.W.Frag) (k : Nat) (c : Addr) : Prop := PySem.W.nsIn K mainGlobals (clsStr k) = some (some (.ref c))
/-- an exception object of the class at c, its dict d -/
def ExH (c : Addr) (d : Option Addr) (a : Addr) : HO := .ext fun h => ∃ (oe : Obj) (vs : Array Value), h.get? a = some oe ∧ oe.cls = .ref c ∧ oe.dict = d ∧ oe.data = .fields vs

mutual
def Is (K : PySem.W.Frag) (H : Hp) : D → V → Prop
  | .non, v => v = .non
  | .bl b, v => v = .bl b
  | .int i, v => v = .int i
  | .str x, v => v = .str x
  | .ty n, v => v = .ty n
  | .cls k, v => ∃ c, ClsAt K k c ∧ v = .ref c
  | .obj a, v => v = .ref a
  | .tup ds, v => ∃ a xs, v = .ref a ∧ SqT K H a xs ∧ IsA K H ds xs
  | .lst ds, v => ∃ a xs, v = .ref a ∧ SqL K H a xs ∧ IsA K H ds xs
  | .exc k x, v => ∃ a c, ClsAt K k c ∧ v = .ref a ∧ ((k < 11 ∧ x = .non ∧ H a = some (ExH c none a)) ∨
      11 ≤ k ∧ ∃ dd y, H a = some (ExH c (some dd) a) ∧ H dd = some (.xd [(fldStr k, y)]) ∧ Is K H x y)
def IsA (K : PySem.W.Frag) (H : Hp) : List D → List V → Prop
  | [], vs => vs = []
  | d :: ds, vs => ∃ v r, vs = v :: r ∧ Is K H d v ∧ IsA K H ds r
end

theorem Same.tup {K : PySem.W.Frag} {H H' : Hp} {a : Addr} {xs : List V} (e : Same H H') (h : SqT K H a xs) : SqT K H' a xs := by
  rcases h with (h | ⟨o, h⟩) | h
  · exact .inl (.inl (e _ _ h))
  · exact .inl (.inr ⟨o, e _ _ h⟩)
  · exact .inr h

theorem Same.rd {H H' : Hp} {a : Addr} {u : HO} (e : Same H H') (h : Rd H a u) : Rd H' a u := by
  rcases h with h | ⟨o, h⟩
  · exact .inl (e _ _ h)
  · exact .inr ⟨o, e _ _ h⟩

mutual
theorem Is.mono {K : PySem.W.Frag} {H H' : Hp} (e : Same H H') : ∀ (d : D) (v : V), Is K H d v → Is K H' d v
  | .non, v, h => by simpa only [Is] using h
  | .bl b, v, h => by simpa only [Is] using h
  | .int i, v, h => by simpa only [Is] using h
  | .str x, v, h => by simpa only [Is] using h
  | .ty n, v, h => by simpa only [Is] using h
  | .cls c, v, h => by simpa only [Is] using h
  | .obj c, v, h => by simpa only [Is] using h
  | .tup ds, v, h => by
    simp only [Is] at h ⊢
    obtain ⟨a, xs, rfl, h1, h2⟩ := h
    exact ⟨a, xs, rfl, Same.tup e h1, IsA.mono e ds xs h2⟩
  | .lst ds, v, h => by
    simp only [Is] at h ⊢
    obtain ⟨a, xs, rfl, h1, h2⟩ := h
    exact ⟨a, xs, rfl, Same.seq e h1, IsA.mono e ds xs h2⟩
  | .exc c x, v, h => by
    simp only [Is] at h ⊢
    obtain ⟨a, c0, hc, rfl, h | ⟨hk, dd, y, h1, h2, h3⟩⟩ := h
    · exact ⟨a, c0, hc, rfl, .inl ⟨h.1, h.2.1, e _ _ h.2.2⟩⟩
    · exact ⟨a, c0, hc, rfl, .inr ⟨hk, dd, y, e _ _ h1, e _ _ h2, Is.mono e x y h3⟩⟩
theorem IsA.mono {K : PySem.W.Frag} {H H' : Hp} (e : Same H H') : ∀ (ds : List D) (vs : List V), IsA K H ds vs → IsA K H' ds vs
  | [], vs, h => by simpa only [IsA] using h
  | d :: ds, vs, h => by
    simp only [IsA] at h ⊢
    obtain ⟨v, r, rfl, h1, h2⟩ := h
    exact ⟨v, r, rfl, Is.mono e d v h1, IsA.mono e ds r h2⟩
end
section
variable {K : PySem.W.Frag} {H : Hp}
theorem IsA.length : ∀ {ds : List D} {vs : List V}, IsA K H ds vs → vs.length = ds.length
  | [], vs, h => by simp only [IsA] at h; subst h; rfl
  | d :: ds, vs, h => by
    simp only [IsA] at h
    obtain ⟨v, r, rfl, _, h2⟩ := h
    simp [IsA.length h2]
theorem IsA.nil : IsA K H [] [] := by simp only [IsA]
theorem IsA.cons {d : D} {v : V} {ds : List D} {vs : List V} (h : Is K H d v) (hs : IsA K H ds vs) : IsA K H (d :: ds) (v :: vs) := by
  simp only [IsA]; exact ⟨v, vs, rfl, h, hs⟩
theorem IsA.append : ∀ {ds es : List D} {vs ws : List V}, IsA K H ds vs → IsA K H es ws → IsA K H (ds ++ es) (vs ++ ws)
  | [], es, vs, ws, h, h' => by simp only [IsA] at h; subst h; exact h'
  | d :: ds, es, vs, ws, h, h' => by
    simp only [IsA] at h
    obtain ⟨v, r, rfl, h1, h2⟩ := h
    exact IsA.cons h1 (IsA.append h2 h')
theorem IsA.get : ∀ {ds : List D} {vs : List V} {i : Nat} {d : D}, IsA K H ds vs → ds[i]? = some d → ∃ v, vs[i]? = some v ∧ Is K H d v
  | [], vs, i, d, _, e => by simp at e
  | x :: ds, vs, 0, d, h, e => by
    simp only [IsA] at h
    obtain ⟨v, r, rfl, h1, h2⟩ := h
    simp at e; subst e
    exact ⟨v, rfl, h1⟩
  | x :: ds, vs, i + 1, d, h, e => by
    simp only [IsA] at h
    obtain ⟨v, r, rfl, h1, h2⟩ := h
    obtain ⟨w, e1, e2⟩ := IsA.get (i := i) (d := d) h2 (by simpa using e)
    exact ⟨w, by simpa using e1, e2⟩
theorem IsA.get' : ∀ {ds : List D} {vs : List V} {i : Nat} {v : V}, IsA K H ds vs → vs[i]? = some v → ∃ d, ds[i]? = some d ∧ Is K H d v := fun {ds vs i v} h e => by
  have hl := h.length
  obtain ⟨hi, _⟩ := List.getElem?_eq_some_iff.mp e
  have : i < ds.length := by omega
  obtain ⟨w, e1, e2⟩ := h.get (List.getElem?_eq_getElem this)
  rw [e] at e1; cases e1
  exact ⟨_, List.getElem?_eq_getElem this, e2⟩
theorem IsA.set : ∀ {ds : List D} {vs : List V} {d : D} {v : V} (i : Nat), IsA K H ds vs → Is K H d v → IsA K H (ds.set i d) (vs.set i v)
  | [], vs, d, v, i, h, _ => by simp only [IsA] at h; subst h; exact IsA.nil
  | x :: ds, vs, d, v, 0, h, h' => by
    simp only [IsA] at h
    obtain ⟨w, r, rfl, h1, h2⟩ := h
    exact IsA.cons h' h2
  | x :: ds, vs, d, v, i + 1, h, h' => by
    simp only [IsA] at h
    obtain ⟨w, r, rfl, h1, h2⟩ := h
    exact IsA.cons h1 (IsA.set i h2 h')
theorem IsA.take : ∀ {ds : List D} {vs : List V} (n : Nat), IsA K H ds vs → IsA K H (ds.take n) (vs.take n)
  | ds, vs, 0, _ => by simp only [List.take_zero]; exact IsA.nil
  | [], vs, n + 1, h => by simp only [IsA] at h; subst h; exact IsA.nil
  | x :: ds, vs, n + 1, h => by
    simp only [IsA] at h
    obtain ⟨w, r, rfl, h1, h2⟩ := h
    exact IsA.cons h1 (IsA.take n h2)
theorem IsA.drop : ∀ {ds : List D} {vs : List V} (n : Nat), IsA K H ds vs → IsA K H (ds.drop n) (vs.drop n)
  | ds, vs, 0, h => by simpa using h
  | [], vs, n + 1, h => by simp only [IsA] at h; subst h; exact IsA.nil
  | x :: ds, vs, n + 1, h => by
    simp only [IsA] at h
    obtain ⟨w, r, rfl, h1, h2⟩ := h
    exact IsA.drop n h2
theorem Is.nonI : Is K H .non .non := by simp only [Is]
theorem Is.blI {b : Bool} : Is K H (.bl b) (.bl b) := by simp only [Is]
theorem Is.intI {i : Int} : Is K H (.int i) (.int i) := by simp only [Is]
theorem Is.strI {x : Str} : Is K H (.str x) (.str x) := by simp only [Is]
theorem Is.tupI {a : Addr} {xs : List V} {ds : List D} (h : SqT K H a xs) (h' : IsA K H ds xs) : Is K H (.tup ds) (.ref a) := by simp only [Is]; exact ⟨a, xs, rfl, h, h'⟩
theorem Is.lstI {a : Addr} {xs : List V} {ds : List D} (h : SqL K H a xs) (h' : IsA K H ds xs) : Is K H (.lst ds) (.ref a) := by simp only [Is]; exact ⟨a, xs, rfl, h, h'⟩
end

/-! ### states -/
/-- what a slot holds: nothing, a value that stays as it is, a list of one's own (io: of the caller's, to be handed back) -/
inductive Sl where
  | un | va (d : D) | ow (io : Bool) (xs : List D)
  deriving Inhabited
abbrev Rho := List Sl
/-- an expression's worth: a value that stays, a new list that nobody holds, the own list of slot i -/
inductive Rs where
  | va (d : D) | fr (xs : List D) | al (i : Nat)
structure Exn where
  cls : Nat
  x : D
inductive Res (α : Type) where
  | ok (a : α) (ρ : Rho) | er (e : Exn) (ρ : Rho) | stuck
abbrev M (α : Type) := Rho → Res α


def SlR (K : PySem.W.Frag) (Hb H : Hp) : Option V → Sl → Prop
  | _, .un => True
  | o, .va d => ∃ v, o = some v ∧ Is K Hb d v
  | o, .ow _ xs => ∃ p vs, o = some (.ref p) ∧ H p = some (.lst vs) ∧ IsA K Hb xs vs ∧ Hb p = none
def OwnAt (σ : L2.St) (ρ : Rho) (i : Nat) (b : Addr) : Prop := σ[i]? = some (some (.ref b)) ∧ ∃ io xs, ρ[i]? = some (Sl.ow io xs)
def Own (σ : L2.St) (ρ : Rho) (b : Addr) : Prop := ∃ i, OwnAt σ ρ i b
structure StR (K : PySem.W.Frag) (Hb : Hp) (σ : L2.St) (ρ : Rho) (H : Hp) : Prop where
  sub : Same Hb H
  len : σ.length = ρ.length
  sl : ∀ (i : Nat) (s : Sl), ρ[i]? = some s → ∃ o, σ[i]? = some o ∧ SlR K Hb H o s
  dis : ∀ i j b, OwnAt σ ρ i b → OwnAt σ ρ j b → i = j
theorem StR.own {K : PySem.W.Frag} {Hb H : Hp} {σ : L2.St} {ρ : Rho} (S : StR K Hb σ ρ H) {i : Nat} {io : Bool} {xs : List D} (h : ρ[i]? = some (.ow io xs)) :
    ∃ p vs, OwnAt σ ρ i p ∧ σ[i]? = some (some (.ref p)) ∧ H p = some (.lst vs) ∧ IsA K Hb xs vs ∧ Hb p = none := by
  obtain ⟨o, e, p, vs, rfl, h1, h2, h3⟩ := S.sl i _ h
  exact ⟨p, vs, ⟨e, io, xs, h⟩, e, h1, h2, h3⟩
theorem StR.ownH {K : PySem.W.Frag} {Hb H : Hp} {σ : L2.St} {ρ : Rho} (S : StR K Hb σ ρ H) {b : Addr} (h : Own σ ρ b) : ∃ vs, H b = some (.lst vs) ∧ Hb b = none := by
  obtain ⟨i, e, io, xs, h⟩ := h
  obtain ⟨p, vs, _, e', h1, _, h3⟩ := S.own h
  rw [e] at e'; cases e'
  exact ⟨vs, h1, h3⟩
theorem StR.va {K : PySem.W.Frag} {Hb H : Hp} {σ : L2.St} {ρ : Rho} (S : StR K Hb σ ρ H) {i : Nat} {d : D} (h : ρ[i]? = some (.va d)) : ∃ v, σ[i]? = some (some v) ∧ Is K Hb d v := by
  obtain ⟨o, e, v, rfl, h1⟩ := S.sl i _ h
  exact ⟨v, e, h1⟩

/-- from one state to a later one, the slots' values the same (an expression) -/
structure Ste (K : PySem.W.Frag) (σ : L2.St) (Hb : Hp) (ρ : Rho) (H : Hp) (Hb' : Hp) (ρ' : Rho) (H' : Hp) : Prop where
  fr : ∀ b o, H b = some o → ¬ Own σ ρ b → H' b = some o
  th : ∀ b, H' b = none → H b = none
  gr : Same Hb Hb'
  gn : ∀ b o, H b = some o → Hb b = none → ¬ Own σ ρ b → Hb' b = none
  ow : ∀ b, Own σ ρ' b → Own σ ρ b
  io : ∀ (i : Nat) (xs : List D), ρ[i]? = some (Sl.ow true xs) → ∃ ys, ρ'[i]? = some (Sl.ow true ys)
  st : StR K Hb' σ ρ' H'
/-- .. of a statement -/
structure SteS (K : PySem.W.Frag) (Hb : Hp) (σ : L2.St) (ρ : Rho) (H : Hp) (Hb' : Hp) (σ' : L2.St) (ρ' : Rho) (H' : Hp) : Prop where
  fr : ∀ b o, H b = some o → ¬ Own σ ρ b → H' b = some o
  th : ∀ b, H' b = none → H b = none
  gr : Same Hb Hb'
  gn : ∀ b o, H b = some o → Hb b = none → ¬ Own σ ρ b → Hb' b = none
  ow : ∀ b, Own σ' ρ' b → Own σ ρ b ∨ H b = none
  io : ∀ (i : Nat) (xs : List D), ρ[i]? = some (Sl.ow true xs) → σ'[i]? = σ[i]? ∧ ∃ ys, ρ'[i]? = some (Sl.ow true ys)
  len : ρ'.length = ρ.length
  st : StR K Hb' σ' ρ' H'
section
variable {K : PySem.W.Frag} {σ σ1 σ2 : L2.St} {Hb Hb1 Hb2 H H1 H2 : Hp} {ρ ρ1 ρ2 : Rho}
theorem Ste.refl (S : StR K Hb σ ρ H) : Ste K σ Hb ρ H Hb ρ H := ⟨fun _ _ h _ => h, fun _ h => h, Same.refl _, fun _ _ _ h _ => h, fun _ h => h, fun _ xs h => ⟨xs, h⟩, S⟩
theorem Ste.trans (a : Ste K σ Hb ρ H Hb1 ρ1 H1) (b : Ste K σ Hb1 ρ1 H1 Hb2 ρ2 H2) : Ste K σ Hb ρ H Hb2 ρ2 H2 where
  fr := fun c o h n => b.fr c o (a.fr c o h n) fun z => n (a.ow c z)
  th := fun c h => a.th c (b.th c h)
  gr := a.gr.trans b.gr
  gn := fun c o h n q => b.gn c o (a.fr c o h q) (a.gn c o h n q) fun z => q (a.ow c z)
  ow := fun c h => a.ow c (b.ow c h)
  io := fun i xs h => let ⟨ys, h1⟩ := a.io i xs h; b.io i ys h1
  st := b.st
theorem Ste.toS (a : Ste K σ Hb ρ H Hb1 ρ1 H1) (S : StR K Hb σ ρ H) : SteS K Hb σ ρ H Hb1 σ ρ1 H1 :=
  ⟨a.fr, a.th, a.gr, a.gn, fun b h => .inl (a.ow b h), fun i xs h => ⟨rfl, a.io i xs h⟩, by rw [← a.st.len, S.len], a.st⟩
theorem SteS.refl (S : StR K Hb σ ρ H) : SteS K Hb σ ρ H Hb σ ρ H := (Ste.refl S).toS S
theorem SteS.trans (a : SteS K Hb σ ρ H Hb1 σ1 ρ1 H1) (b : SteS K Hb1 σ1 ρ1 H1 Hb2 σ2 ρ2 H2) : SteS K Hb σ ρ H Hb2 σ2 ρ2 H2 := by
  have no : ∀ c o, H c = some o → ¬ Own σ ρ c → ¬ Own σ1 ρ1 c := fun c o h n z => by
    rcases a.ow c z with q | q
    · exact n q
    · rw [h] at q; cases q
  refine ⟨fun c o h n => b.fr c o (a.fr c o h n) (no c o h n), fun c h => a.th c (b.th c h), a.gr.trans b.gr, fun c o h n q => b.gn c o (a.fr c o h q) (a.gn c o h n q) (no c o h q), fun c h => ?_, fun i xs h => ?_, by rw [b.len, a.len], b.st⟩
  · rcases b.ow c h with q | q
    · exact a.ow c q
    · exact .inr (a.th c q)
  · obtain ⟨e, ys, h1⟩ := a.io i xs h
    obtain ⟨e', h2⟩ := b.io i ys h1
    exact ⟨e'.trans e, h2⟩
end

/-! ### what an expression is worth -/
def RsR (K : PySem.W.Frag) (H0 Hb : Hp) (σ : L2.St) (H : Hp) : Rs → V → Prop
  | .va d, v => Is K Hb d v
  | .fr xs, v => ∃ p vs, v = .ref p ∧ H0 p = none ∧ Hb p = none ∧ H p = some (.lst vs) ∧ IsA K Hb xs vs
  | .al i, v => σ[i]? = some (some v)
def rd (ρ : Rho) : Rs → Option D
  | .va d => some d
  | .fr xs => some (.lst xs)
  | .al i => match ρ[i]? with
    | some (.va d) => some d
    | some (.ow _ xs) => some (.lst xs)
    | _ => none
/-- what may be read just now -/
def RdR (K : PySem.W.Frag) (Hb H : Hp) (d : D) (v : V) : Prop := Is K Hb d v ∨ ∃ p vs xs, d = .lst xs ∧ v = .ref p ∧ H p = some (.lst vs) ∧ IsA K Hb xs vs
section
variable {K : PySem.W.Frag} {σ : L2.St} {H0 Hb Hb1 H H1 : Hp} {ρ ρ1 : Rho} {r : Rs} {v : V} {d : D}
theorem RdR.is (s : Same Hb H) (h : RdR K Hb H d v) : Is K H d v := by
  rcases h with h | ⟨p, vs, xs, rfl, rfl, h1, h2⟩
  · exact Is.mono s d v h
  · exact Is.lstI (.inl (.inl h1)) (IsA.mono s _ _ h2)
theorem RdR.lstR {xs : List D} (s : Same Hb H) (h : RdR K Hb H (.lst xs) v) : ∃ p vs, v = .ref p ∧ SqL K H p vs ∧ IsA K Hb xs vs := by
  rcases h with h | ⟨p, vs, xs', e, rfl, h1, h2⟩
  · simp only [Is] at h
    obtain ⟨a, vs, rfl, h1, h2⟩ := h
    exact ⟨a, vs, rfl, Same.seq s h1, h2⟩
  · cases e
    exact ⟨p, vs, rfl, .inl (.inl h1), h2⟩
theorem RdR.lst {xs : List D} (s : Same Hb H) (h : RdR K Hb H (.lst xs) v) : ∃ p vs, v = .ref p ∧ SqL K H p vs ∧ IsA K Hb xs vs := by
  obtain ⟨p, vs, e, h1, h2⟩ := RdR.lstR s h
  exact ⟨p, vs, e, h1, h2⟩
theorem RdR.tup {xs : List D} (s : Same Hb H) (h : RdR K Hb H (.tup xs) v) : ∃ p vs, v = .ref p ∧ SqT K H p vs ∧ IsA K Hb xs vs := by
  rcases h with h | ⟨p, vs, xs', e, rfl, h1, h2⟩
  · simp only [Is] at h
    obtain ⟨a, vs, rfl, h1, h2⟩ := h
    exact ⟨a, vs, rfl, Same.tup s h1, h2⟩
  · cases e
theorem RdR.va (h : Is K Hb d v) : RdR K Hb H d v := .inl h
theorem RdR.int {i : Int} (h : RdR K Hb H (.int i) v) : v = .int i := by
  rcases h with h | ⟨_, _, _, e, _⟩
  · simpa only [Is] using h
  · cases e
theorem RdR.bl {i : Bool} (h : RdR K Hb H (.bl i) v) : v = .bl i := by
  rcases h with h | ⟨_, _, _, e, _⟩
  · simpa only [Is] using h
  · cases e
theorem RdR.str {i : Str} (h : RdR K Hb H (.str i) v) : v = .str i := by
  rcases h with h | ⟨_, _, _, e, _⟩
  · simpa only [Is] using h
  · cases e
theorem RdR.non (h : RdR K Hb H .non v) : v = .non := by
  rcases h with h | ⟨_, _, _, e, _⟩
  · simpa only [Is] using h
  · cases e
theorem rd_ok (S : StR K Hb σ ρ H) (h : RsR K H0 Hb σ H r v) (e : rd ρ r = some d) : RdR K Hb H d v := by
  cases r with
  | va d' => cases e; exact .inl h
  | fr xs =>
    cases e
    obtain ⟨p, vs, rfl, _, _, h1, h2⟩ := h
    exact .inr ⟨p, vs, xs, rfl, rfl, h1, h2⟩
  | al i =>
    have h : σ[i]? = some (some v) := h
    cases q : ρ[i]? with
    | none => simp only [rd, q] at e; cases e
    | some s =>
      cases s with
      | un => simp only [rd, q] at e; cases e
      | va d' =>
        simp only [rd, q] at e; cases e
        obtain ⟨w, e1, h1⟩ := S.va q
        rw [h] at e1; cases e1
        exact .inl h1
      | ow io xs =>
        simp only [rd, q] at e; cases e
        obtain ⟨p, vs, _, e1, h1, h2, _⟩ := S.own q
        rw [h] at e1; cases e1
        exact .inr ⟨p, vs, xs, rfl, rfl, h1, h2⟩
/-- a worth stays over a later step; O: what is owned was there at H0 -/
theorem RsR.step (O : ∀ b, Own σ ρ b → H0 b ≠ none) (s : Ste K σ Hb ρ H Hb1 ρ1 H1) (h : RsR K H0 Hb σ H r v) : RsR K H0 Hb1 σ H1 r v := by
  cases r with
  | va d => exact Is.mono s.gr d v h
  | fr xs =>
    obtain ⟨p, vs, rfl, h0, h1, h2, h3⟩ := h
    have no : ¬ Own σ ρ p := fun z => O p z h0
    exact ⟨p, vs, rfl, h0, s.gn p _ h2 h1 no, s.fr p _ h2 no, IsA.mono s.gr _ _ h3⟩
  | al i => exact h
theorem RsR.older {H00 : Hp} (h : RsR K H0 Hb σ H r v) (o : ∀ b, H0 b = none → H00 b = none) : RsR K H00 Hb σ H r v := by
  cases r with
  | va d => exact h
  | fr xs =>
    obtain ⟨p, vs, rfl, h0, h1⟩ := h
    exact ⟨p, vs, rfl, o p h0, h1⟩
  | al i => exact h
end
end DL

namespace DL
open PySem L2

def bnd {α β : Type} (m : Res α) (f : α → Rho → Res β) : Res β := match m with
  | .ok a ρ => f a ρ
  | .er e ρ => .er e ρ
  | .stuck => .stuck

def ExR (K : PySem.W.Frag) (Hb H : Hp) (e : Exn) (d : Value × Option Addr) : Prop :=
  ∃ c, ClsAt K e.cls c ∧ d.1 = .ref c ∧ ((e.cls < 11 ∧ e.x = .non ∧ d.2 = none) ∨ 11 ≤ e.cls ∧ ∃ dd y, d.2 = some dd ∧ Hb dd = some (.xd [(fldStr e.cls, y)]) ∧ Is K Hb e.x y)

def PostM (K : PySem.W.Frag) (W : WX) (Hb : Hp) (σ : L2.St) (ρ : Rho) (H : Hp) (Q : VK) : Res Rs → Prop
  | .ok r ρ' => ∀ v H' Hb', Ste K σ Hb ρ H Hb' ρ' H' → RsR K H Hb' σ H' r v → Q v H'
  | .er e ρ' => ∀ (d : Value × Option Addr) H' Hb', Ste K σ Hb ρ H Hb' ρ' H' → ExR K Hb' H' e d → W d.1 d.2 σ H'
  | .stuck => False
def PostA (K : PySem.W.Frag) (W : WX) (Hb : Hp) (σ : L2.St) (ρ : Rho) (H : Hp) (Q : List V → Hp → Prop) : Res (List Rs) → Prop
  | .ok rs ρ' => ∀ vs H' Hb', Ste K σ Hb ρ H Hb' ρ' H' → Paired (RsR K H Hb' σ H') rs vs → Q vs H'
  | .er e ρ' => ∀ (d : Value × Option Addr) H' Hb', Ste K σ Hb ρ H Hb' ρ' H' → ExR K Hb' H' e d → W d.1 d.2 σ H'
  | .stuck => False
def PostT (K : PySem.W.Frag) (W : WX) (Hb : Hp) (σ : L2.St) (ρ : Rho) (H : Hp) (Q : Bool → Hp → Prop) : Res Bool → Prop
  | .ok b ρ' => ∀ H' Hb', Ste K σ Hb ρ H Hb' ρ' H' → Q b H'
  | .er e ρ' => ∀ (d : Value × Option Addr) H' Hb', Ste K σ Hb ρ H Hb' ρ' H' → ExR K Hb' H' e d → W d.1 d.2 σ H'
  | .stuck => False
/-- an expression's reading by its meaning -/
def tM (K : PySem.W.Frag) (W : WX) (m : M Rs) : TE := fun σ H Q => ∃ Hb ρ, StR K Hb σ ρ H ∧ PostM K W Hb σ ρ H Q (m ρ)
def tA (K : PySem.W.Frag) (W : WX) (m : M (List Rs)) : TA := fun σ H Q => ∃ Hb ρ, StR K Hb σ ρ H ∧ PostA K W Hb σ ρ H Q (m ρ)
def tT (K : PySem.W.Frag) (W : WX) (m : M Bool) : TT := fun σ H Q => ∃ Hb ρ, StR K Hb σ ρ H ∧ PostT K W Hb σ ρ H Q (m ρ)

section
variable {X : Cx}
theorem PE.imp {e : Expr} {t t' : TE} (h : PE X e t) (i : ∀ σ H Q, t' σ H Q → t σ H Q) : PE X e t' := ⟨fun pins s σ H Q I q => h.run pins s σ H Q I (i σ H Q q)⟩
theorem PT.imp {e : Expr} {t t' : TT} (h : PT X e t) (i : ∀ σ H Q, t' σ H Q → t σ H Q) : PT X e t' := ⟨fun pins s σ H Q I q => h.run pins s σ H Q I (i σ H Q q)⟩
theorem PW.imp {e : Expr} {t t' : TT} (h : PW X e t) (i : ∀ σ H Q, t' σ H Q → t σ H Q) : PW X e t' := ⟨fun wh pins s σ H Q I q => h.run wh pins s σ H Q I (i σ H Q q)⟩
theorem PA.imp {es : List Expr} {t t' : TA} (h : PA X es t) (i : ∀ σ H Q, t' σ H Q → t σ H Q) : PA X es t' := ⟨fun pos pins s σ H Q I q => h.run pos pins s σ H Q I (i σ H Q q)⟩
theorem PS.imp {st : Stmt} {t t' : TS} (h : PS X st t) (i : ∀ D σ H, t' D σ H → t D σ H) : PS X st t' := ⟨fun pins s σ H D I q => h.run pins s σ H D I (i D σ H q)⟩
theorem PSs.imp {st : List Stmt} {t t' : TS} (h : PSs X st t) (i : ∀ D σ H, t' D σ H → t D σ H) : PSs X st t' := ⟨fun pins s σ H D I q => h.run pins s σ H D I (i D σ H q)⟩
end

/-- the heap has only grown -/
structure Gro (Hb H Hb' H' : Hp) : Prop where
  fr : Same H H'
  gr : Same Hb Hb'
  gn : ∀ b o, H b = some o → Hb b = none → Hb' b = none
  sub : Same Hb' H'
theorem Same.new {H : Hp} {p : Addr} {o : HO} (h : H p = none) : Same H (upd H p o) := fun b x e => by
  rw [upd_ne (ne_of_none e h)]
  exact e
theorem Same.new2 {H H' : Hp} {p : Addr} {o : HO} (s : Same H H') : Same (upd H p o) (upd H' p o) := fun b x e => by
  by_cases hb : b = p
  · subst hb; rw [upd_same] at e ⊢; exact e
  · rw [upd_ne hb] at e ⊢; exact s b x e
theorem Same.none {H H' : Hp} (s : Same H H') {b : Addr} (h : H' b = none) : H b = none := s.free h
section
variable {K : PySem.W.Frag} {σ : L2.St} {Hb Hb1 Hb2 H H1 H2 : Hp} {ρ : Rho} {p : Addr} {o : HO}
theorem Gro.refl (s : Same Hb H) : Gro Hb H Hb H := ⟨Same.refl _, Same.refl _, fun _ _ _ h => h, s⟩
theorem Gro.newL (s : Same Hb H) (h : H p = none) : Gro Hb H Hb (upd H p o) := ⟨Same.new h, Same.refl _, fun _ _ _ h => h, s.trans (Same.new h)⟩
theorem Gro.newT (s : Same Hb H) (h : H p = none) : Gro Hb H (upd Hb p o) (upd H p o) :=
  ⟨Same.new h, Same.new (Same.none s h), fun b u e n => by rw [upd_ne (ne_of_none e h)]; exact n, Same.new2 s⟩
theorem Gro.trans (a : Gro Hb H Hb1 H1) (b : Gro Hb1 H1 Hb2 H2) : Gro Hb H Hb2 H2 :=
  ⟨a.fr.trans b.fr, a.gr.trans b.gr, fun c o e n => b.gn c o (a.fr c o e) (a.gn c o e n), b.sub⟩
theorem StR.grow (S : StR K Hb σ ρ H) (g : Gro Hb H Hb1 H1) : StR K Hb1 σ ρ H1 := by
  refine ⟨g.sub, S.len, fun i s e => ?_, S.dis⟩
  obtain ⟨o, h1, h2⟩ := S.sl i s e
  refine ⟨o, h1, ?_⟩
  cases s with
  | un => trivial
  | va d =>
    obtain ⟨v, h3, h4⟩ := h2
    exact ⟨v, h3, Is.mono g.gr _ _ h4⟩
  | ow io xs =>
    obtain ⟨q, vs, h3, h4, h5, h6⟩ := h2
    exact ⟨q, vs, h3, g.fr _ _ h4, IsA.mono g.gr _ _ h5, g.gn _ _ h4 h6⟩
theorem Gro.ste (S : StR K Hb σ ρ H) (g : Gro Hb H Hb1 H1) : Ste K σ Hb ρ H Hb1 ρ H1 :=
  ⟨fun b o e _ => g.fr b o e, fun b h => Same.none g.fr h, g.gr, fun b o e n _ => g.gn b o e n, fun b h => h, fun i xs h => ⟨xs, h⟩, S.grow g⟩
end

section
variable {K : PySem.W.Frag} {W : WX} {X : Cx} {σ : L2.St} {H : Hp} {Q : VK}
theorem RsR.some {H0 Hb : Hp} {r : Rs} {v : V} (h : RsR K H0 Hb [] H r v) : RsR K H0 Hb σ H r v := by
  cases r with
  | va d => exact h
  | fr xs => exact h
  | al i => exact absurd h (by simp [RsR])
theorem own_there {Hb : Hp} {ρ : Rho} (S : StR K Hb σ ρ H) : ∀ b, Own σ ρ b → H b ≠ none := fun b h e => by
  obtain ⟨vs, h1, _⟩ := S.ownH h
  rw [e] at h1; cases h1
theorem own_there' {Hb Hb1 H1 : Hp} {ρ ρ1 : Rho} (S : StR K Hb σ ρ H) (s : Ste K σ Hb ρ H Hb1 ρ1 H1) : ∀ b, Own σ ρ1 b → H b ≠ none := fun b h => own_there S b (s.ow b h)

/-! ### constants and names -/
def mC (d : D) : M Rs := fun ρ => .ok (.va d) ρ
def mV (i : Nat) : M Rs := fun ρ => match ρ[i]? with
  | some (.va d) => .ok (.va d) ρ
  | some (.ow _ _) => .ok (.al i) ρ
  | _ => .stuck
theorem tM_C {d : D} {v : V} (hv : ∀ Hb, Is K Hb d v) (h : tM K W (mC d) σ H Q) : tC v σ H Q := by
  obtain ⟨Hb, ρ, S, P⟩ := h
  exact P v H Hb (Ste.refl S) (hv Hb)
theorem dm_int {i j pos} : PE X (.Constant (.int i) j pos) (tM K W (mC (.int i))) := PE.imp pe_int fun _ _ _ => tM_C fun _ => Is.intI
theorem dm_bl {b j pos} : PE X (.Constant (.bool b) j pos) (tM K W (mC (.bl b))) := PE.imp pe_bl fun _ _ _ => tM_C fun _ => Is.blI
theorem dm_non {j pos} : PE X (.Constant .none j pos) (tM K W (mC .non)) := PE.imp pe_non fun _ _ _ => tM_C fun _ => Is.nonI
theorem dm_str {x j pos} : PE X (.Constant (.str x) j pos) (tM K W (mC (.str x))) := PE.imp pe_str fun _ _ _ => tM_C fun _ => Is.strI
theorem tM_V {i : Nat} (h : tM K W (mV i) σ H Q) : tVar i σ H Q := by
  obtain ⟨Hb, ρ, S, P⟩ := h
  unfold mV at P
  cases e : ρ[i]? with
  | none => simp only [e] at P; exact P.elim
  | some s =>
    cases s with
    | un => simp only [e] at P; exact P.elim
    | va d =>
      simp only [e] at P
      obtain ⟨v, h1, h2⟩ := S.va e
      exact ⟨v, h1, P v H Hb (Ste.refl S) h2⟩
    | ow io xs =>
      simp only [e] at P
      obtain ⟨p, vs, _, h1, _⟩ := S.own e
      exact ⟨.ref p, h1, P _ H Hb (Ste.refl S) h1⟩
theorem dv (i : Nat) {x : Str} {pos : Pos} (hN : X.N[i]? = some x := by rfl) (hv : Vis X.env.scope x := by first | exact Or.inl rfl | exact Or.inr (Or.inl rfl) | exact Or.inr (Or.inr rfl)) (hd : (x == ("__debug__" : Str)) = false := by decide)
    (hcd : (x == ("__classdict__" : Str)) = false := by decide) : PE X (.Name x pos) (tM K W (mV i)) := PE.imp (pe_var hN hv hd hcd) fun _ _ _ => tM_V

/-! ### two in a row, an operator -/
def mBin (f : D → D → Option Rs) (a b : M Rs) : M Rs := fun ρ => bnd (a ρ) fun x ρ1 => bnd (b ρ1) fun y ρ2 => match rd ρ2 x, rd ρ2 y with
  | some dx, some dy => (match f dx dy with
    | some r => .ok r ρ2
    | none => .stuck)
  | _, _ => .stuck
def OpD (K : PySem.W.Frag) (r : R2) (f : D → D → Option Rs) : Prop := ∀ (Hb H : Hp) (x y : V) (dx dy : D) (res : Rs) (Q : VK), Same Hb H → RdR K Hb H dx x → RdR K Hb H dy y → f dx dy = some res →
  (∀ v Hb' H', Gro Hb H Hb' H' → RsR K H Hb' [] H' res v → Q v H') → r x y H Q
theorem tM_bin {r : R2} {f : D → D → Option Rs} {a b : M Rs} (hr : OpD K r f) (h : tM K W (mBin f a b) σ H Q) : tOp r (tM K W a) (tM K W b) σ H Q := by
  obtain ⟨Hb, ρ, S, P⟩ := h
  refine ⟨Hb, ρ, S, ?_⟩
  unfold mBin at P
  cases ea : a ρ with
  | stuck => rw [ea] at P; exact P
  | er e ρ1 => rw [ea] at P; exact P
  | ok x ρ1 =>
    rw [ea] at P
    intro v H1 Hb1 s1 r1
    refine ⟨Hb1, ρ1, s1.st, ?_⟩
    simp only [bnd] at P
    cases eb : b ρ1 with
    | stuck => rw [eb] at P; exact P
    | er e ρ2 =>
      rw [eb] at P
      intro d H2 Hb2 s2 ex
      exact P d H2 Hb2 (s1.trans s2) ex
    | ok y ρ2 =>
      rw [eb] at P
      intro w H2 Hb2 s2 r2
      simp only at P
      have r1' : RsR K H Hb2 σ H2 x v := r1.step (own_there' S s1) s2
      have s12 := s1.trans s2
      cases ex : rd ρ2 x with
      | none => simp only [ex] at P; exact P.elim
      | some dx =>
        cases ey : rd ρ2 y with
        | none => simp only [ex, ey] at P; exact P.elim
        | some dy =>
          simp only [ex, ey] at P
          cases ef : f dx dy with
          | none => simp only [ef] at P; exact P.elim
          | some res =>
            simp only [ef] at P
            refine hr Hb2 H2 v w dx dy res Q s2.st.sub (rd_ok s2.st r1' ex) (rd_ok s2.st r2 ey) ef fun z Hb3 H3 g rz => ?_
            exact P z H3 Hb3 (s12.trans (g.ste s2.st)) ((RsR.some rz).older s12.th)
theorem dm_bin {op : Operator} {r : R2} {f : D → D → Option Rs} {a b : Expr} {ma mb : M Rs} {pos : Pos} (ho : OpR X (binaryOp op) r) (hr : OpD K r f) (ha : PE X a (tM K W ma)) (hb : PE X b (tM K W mb)) :
    PE X (.BinOp a op b pos) (tM K W (mBin f ma mb)) := PE.imp (pe_op ho ha hb) fun _ _ _ => tM_bin hr
theorem dm_cmp {op : CmpOp} {r : R2} {f : D → D → Option Rs} {a b : Expr} {ma mb : M Rs} {pos : Pos} (ho : OpR X (compareOp op) r) (hr : OpD K r f) (ha : PE X a (tM K W ma)) (hb : PE X b (tM K W mb)) (hm : behindInMarks op b = false := by first | exact nomark _ | rfl) :
    PE X (.Compare a [op] [b] pos) (tM K W (mBin f ma mb)) := PE.imp (pe_cmpR ho ha hb hm) fun _ _ _ => tM_bin hr
theorem OpD.or {r r' : R2} {f f' : D → D → Option Rs} (h : OpD K r f) (h' : OpD K r' f') : OpD K (fun x y H Q => r x y H Q ∨ r' x y H Q) (fun x y => match f x y with | some z => some z | none => f' x y) := by
  intro Hb H x y dx dy res Q s rx ry e q
  cases e1 : f dx dy with
  | some z => simp only [e1] at e; exact .inl (h Hb H x y dx dy res Q s rx ry (e1.trans e) q)
  | none => simp only [e1] at e; exact .inr (h' Hb H x y dx dy res Q s rx ry e q)
/-- one operand -/
def mUn (f : D → Option Rs) (a : M Rs) : M Rs := fun ρ => bnd (a ρ) fun x ρ1 => match rd ρ1 x with
  | some dx => (match f dx with
    | some r => .ok r ρ1
    | none => .stuck)
  | none => .stuck
def UnD (K : PySem.W.Frag) (r : V → Hp → VK → Prop) (f : D → Option Rs) : Prop := ∀ (Hb H : Hp) (x : V) (dx : D) (res : Rs) (Q : VK), Same Hb H → RdR K Hb H dx x → f dx = some res →
  (∀ v Hb' H', Gro Hb H Hb' H' → RsR K H Hb' [] H' res v → Q v H') → r x H Q
theorem tM_un {r : V → Hp → VK → Prop} {f : D → Option Rs} {a : M Rs} (hr : UnD K r f) (h : tM K W (mUn f a) σ H Q) : tUn r (tM K W a) σ H Q := by
  obtain ⟨Hb, ρ, S, P⟩ := h
  refine ⟨Hb, ρ, S, ?_⟩
  unfold mUn at P
  cases ea : a ρ with
  | stuck => rw [ea] at P; exact P
  | er e ρ1 => rw [ea] at P; exact P
  | ok x ρ1 =>
    rw [ea] at P
    intro v H1 Hb1 s1 r1
    simp only [bnd] at P
    cases ex : rd ρ1 x with
    | none => simp only [ex] at P; exact P.elim
    | some dx =>
      simp only [ex] at P
      cases ef : f dx with
      | none => simp only [ef] at P; exact P.elim
      | some res =>
        simp only [ef] at P
        refine hr Hb1 H1 v dx res Q s1.st.sub (rd_ok s1.st r1 ex) ef fun z Hb3 H3 g rz => ?_
        exact P z H3 Hb3 (s1.trans (g.ste s1.st)) ((RsR.some rz).older s1.th)
theorem dm_un {op : UnaryOp} {r : V → Hp → VK → Prop} {f : D → Option Rs} {a : Expr} {ma : M Rs} {pos : Pos} (ho : UnR X (unaryOp op) r) (hr : UnD K r f) (ha : PE X a (tM K W ma)) :
    PE X (.UnaryOp op a pos) (tM K W (mUn f ma)) := PE.imp (pe_un ho ha) fun _ _ _ => tM_un hr

/-! ### tests -/
/-- a value that is True or False, as a test -/
def mTv (a : M Rs) : M Bool := fun ρ => bnd (a ρ) fun x ρ1 => match rd ρ1 x with
  | some (.bl b) => .ok b ρ1
  | _ => .stuck
theorem tT_val {a : M Rs} {Q : Bool → Hp → Prop} (h : tT K W (mTv a) σ H Q) : tB (tM K W a) σ H Q := by
  obtain ⟨Hb, ρ, S, P⟩ := h
  refine ⟨Hb, ρ, S, ?_⟩
  unfold mTv at P
  cases ea : a ρ with
  | stuck => rw [ea] at P; exact P
  | er e ρ1 => rw [ea] at P; exact P
  | ok x ρ1 =>
    rw [ea] at P
    intro v H1 Hb1 s1 r1
    simp only [bnd] at P
    cases ex : rd ρ1 x with
    | none => simp only [ex] at P; exact P.elim
    | some dx =>
      have q := rd_ok s1.st r1 ex
      cases dx with
      | bl b =>
        simp only [ex] at P
        exact ⟨b, q.bl, P H1 Hb1 s1⟩
      | _ => simp only [ex] at P; exact P.elim
/-- the test of an expression whose value is True or False -/
theorem dt_val {a : Expr} {ma : M Rs} (ha : PE X a (tM K W ma)) (he : ∀ whole, isTrue a X.env whole = (do let v ← whole; standAt a.pos; holding [v] (truthy v)) := by intro _; rfl) : PT X a (tT K W (mTv ma)) :=
  PT.imp (pt_val ha he) fun _ _ _ => tT_val
theorem dt_cmp {op : CmpOp} {r : R2} {f : D → D → Option Rs} {a b : Expr} {ma mb : M Rs} {pos : Pos} (ho : OpR X (compareOp op) r) (hr : OpD K r f) (ha : PE X a (tM K W ma)) (hb : PE X b (tM K W mb)) (hm : behindInMarks op b = false := by first | exact nomark _ | rfl) :
    PT X (.Compare a [op] [b] pos) (tT K W (mTv (mBin f ma mb))) := by
  refine PT.imp (pt_cmpR ho ha hb hm) fun σ H Q h => ?_
  obtain ⟨Hb, ρ, S, P⟩ := tT_val h
  exact tM_bin hr ⟨Hb, ρ, S, P⟩
def mAnd (a b : M Bool) : M Bool := fun ρ => bnd (a ρ) fun x ρ1 => if x = true then b ρ1 else .ok false ρ1
def mOr (a b : M Bool) : M Bool := fun ρ => bnd (a ρ) fun x ρ1 => if x = true then .ok true ρ1 else b ρ1
def mNot (a : M Bool) : M Bool := fun ρ => bnd (a ρ) fun x ρ1 => .ok (!x) ρ1
theorem tT_seq {a : M Bool} {Q Q' : Bool → Hp → Prop} {f : Bool → Rho → Res Bool} {Hb : Hp} {ρ : Rho} (S : StR K Hb σ ρ H) (P : PostT K W Hb σ ρ H Q (bnd (a ρ) f))
    (h : ∀ b ρ1 Hb1 H1, Ste K σ Hb ρ H Hb1 ρ1 H1 → PostT K W Hb1 σ ρ1 H1 Q (f b ρ1) → Q' b H1) : tT K W a σ H Q' := by
  refine ⟨Hb, ρ, S, ?_⟩
  cases ea : a ρ with
  | stuck => rw [ea] at P; exact P
  | er e ρ1 => rw [ea] at P; exact P
  | ok x ρ1 =>
    rw [ea] at P
    intro H1 Hb1 s1
    refine h x ρ1 Hb1 H1 s1 ?_
    simp only [bnd] at P
    cases ef : f x ρ1 with
    | stuck => rw [ef] at P; exact P
    | er e ρ2 =>
      rw [ef] at P
      exact fun d H2 Hb2 s2 ex => P d H2 Hb2 (s1.trans s2) ex
    | ok y ρ2 =>
      rw [ef] at P
      exact fun H2 Hb2 s2 => P H2 Hb2 (s1.trans s2)
theorem dw_and1 {a : Expr} {pos : Pos} {ma : M Bool} (ha : PT X a (tT K W ma)) : PW X (.BoolOp .And [a] pos) (tT K W ma) := pw_and1 ha
theorem dw_or1 {a : Expr} {pos : Pos} {ma : M Bool} (ha : PT X a (tT K W ma)) : PW X (.BoolOp .Or [a] pos) (tT K W ma) := pw_or1 ha
theorem dw_and {a b : Expr} {rest : List Expr} {pos : Pos} {ma mb : M Bool} (ha : PT X a (tT K W ma)) (hb : PW X (.BoolOp .And (b :: rest) pos) (tT K W mb)) : PW X (.BoolOp .And (a :: b :: rest) pos) (tT K W (mAnd ma mb)) := by
  refine PW.imp (pw_and ha hb) fun σ H Q h => ?_
  obtain ⟨Hb, ρ, S, P⟩ := h
  refine tT_seq S P fun c ρ1 Hb1 H1 s1 P1 => ?_
  cases c with
  | true => exact ⟨Hb1, ρ1, s1.st, P1⟩
  | false => exact P1 H1 Hb1 (Ste.refl s1.st)
theorem dw_or {a b : Expr} {rest : List Expr} {pos : Pos} {ma mb : M Bool} (ha : PT X a (tT K W ma)) (hb : PW X (.BoolOp .Or (b :: rest) pos) (tT K W mb)) : PW X (.BoolOp .Or (a :: b :: rest) pos) (tT K W (mOr ma mb)) := by
  refine PW.imp (pw_or ha hb) fun σ H Q h => ?_
  obtain ⟨Hb, ρ, S, P⟩ := h
  refine tT_seq S P fun c ρ1 Hb1 H1 s1 P1 => ?_
  cases c with
  | true => exact P1 H1 Hb1 (Ste.refl s1.st)
  | false => exact ⟨Hb1, ρ1, s1.st, P1⟩
theorem dt_not {a : Expr} {pos : Pos} {ma : M Bool} (ha : PT X a (tT K W ma)) : PT X (.UnaryOp .Not a pos) (tT K W (mNot ma)) := by
  refine PT.imp (pt_not ha) fun σ H Q h => ?_
  obtain ⟨Hb, ρ, S, P⟩ := h
  exact tT_seq (Q' := fun c H1 => Q (!c) H1) S P fun c ρ1 Hb1 H1 s1 P1 => P1 H1 Hb1 (Ste.refl s1.st)
/-- a if t else b -/
def mIte (t : M Bool) (a b : M Rs) : M Rs := fun ρ => bnd (t ρ) fun c ρ1 => if c = true then a ρ1 else b ρ1
theorem tM_back {Hb Hb1 H1 : Hp} {ρ ρ1 : Rho} {m : Res Rs} (s : Ste K σ Hb ρ H Hb1 ρ1 H1) (P : PostM K W Hb σ ρ H Q m) : PostM K W Hb1 σ ρ1 H1 Q m := by
  cases m with
  | stuck => exact P
  | er e ρ2 => exact fun d H2 Hb2 s2 ex => P d H2 Hb2 (s.trans s2) ex
  | ok r ρ2 => exact fun v H2 Hb2 s2 rr => P v H2 Hb2 (s.trans s2) (rr.older s.th)
theorem dm_ite {t a b : Expr} {pos : Pos} {mt : M Bool} {ma mb : M Rs} (ht : PT X t (tT K W mt)) (ha : PE X a (tM K W ma)) (hb : PE X b (tM K W mb)) : PE X (.IfExp t a b pos) (tM K W (mIte mt ma mb)) := by
  refine PE.imp (pe_ifExp ht ha hb) fun σ H Q h => ?_
  obtain ⟨Hb, ρ, S, P⟩ := h
  refine ⟨Hb, ρ, S, ?_⟩
  unfold mIte at P
  cases ea : mt ρ with
  | stuck => rw [ea] at P; exact P
  | er e ρ1 => rw [ea] at P; exact P
  | ok x ρ1 =>
    rw [ea] at P
    intro H1 Hb1 s1
    simp only [bnd] at P
    cases x with
    | true => exact iteT ⟨Hb1, ρ1, s1.st, tM_back s1 P⟩
    | false => exact iteF ⟨Hb1, ρ1, s1.st, tM_back s1 P⟩
/-- and, or, not as values (of truths) -/
def mAndV (a b : M Rs) : M Rs := fun ρ => bnd (a ρ) fun x ρ1 => match rd ρ1 x with
  | some (.bl true) => b ρ1
  | some (.bl false) => .ok (.va (.bl false)) ρ1
  | _ => .stuck
def mOrV (a b : M Rs) : M Rs := fun ρ => bnd (a ρ) fun x ρ1 => match rd ρ1 x with
  | some (.bl false) => b ρ1
  | some (.bl true) => .ok (.va (.bl true)) ρ1
  | _ => .stuck
theorem dm_one {op : BoolOp} {a : Expr} {pos : Pos} {ma : M Rs} (ha : PE X a (tM K W ma)) : PE X (.BoolOp op [a] pos) (tM K W ma) := pe_one ha

theorem dm_and {a b : Expr} {rest : List Expr} {pos : Pos} {ma mb : M Rs} (ha : PE X a (tM K W ma)) (hb : PE X (.BoolOp .And (b :: rest) pos) (tM K W mb)) : PE X (.BoolOp .And (a :: b :: rest) pos) (tM K W (mAndV ma mb)) := by
  refine PE.imp (pe_and ha hb) fun σ H Q h => ?_
  obtain ⟨Hb, ρ, S, P⟩ := h
  refine ⟨Hb, ρ, S, ?_⟩
  unfold mAndV at P
  cases ea : ma ρ with
  | stuck => rw [ea] at P; exact P
  | er e ρ1 => rw [ea] at P; exact P
  | ok x ρ1 =>
    rw [ea] at P
    intro v H1 Hb1 s1 r1
    simp only [bnd] at P
    cases ex : rd ρ1 x with
    | none => simp only [ex] at P; exact P.elim
    | some dx =>
      have q := rd_ok s1.st r1 ex
      cases dx with
      | bl b =>
        refine ⟨b, q.bl, ?_⟩
        cases b with
        | true => simp only [ex] at P; exact iteT ⟨Hb1, ρ1, s1.st, tM_back s1 P⟩
        | false => simp only [ex] at P; exact iteF (P (.bl false) H1 Hb1 s1 (Is.blI (K := K) (H := Hb1)))
      | _ => simp only [ex] at P; exact P.elim
theorem dm_or {a b : Expr} {rest : List Expr} {pos : Pos} {ma mb : M Rs} (ha : PE X a (tM K W ma)) (hb : PE X (.BoolOp .Or (b :: rest) pos) (tM K W mb)) : PE X (.BoolOp .Or (a :: b :: rest) pos) (tM K W (mOrV ma mb)) := by
  refine PE.imp (pe_or ha hb) fun σ H Q h => ?_
  obtain ⟨Hb, ρ, S, P⟩ := h
  refine ⟨Hb, ρ, S, ?_⟩
  unfold mOrV at P
  cases ea : ma ρ with
  | stuck => rw [ea] at P; exact P
  | er e ρ1 => rw [ea] at P; exact P
  | ok x ρ1 =>
    rw [ea] at P
    intro v H1 Hb1 s1 r1
    simp only [bnd] at P
    cases ex : rd ρ1 x with
    | none => simp only [ex] at P; exact P.elim
    | some dx =>
      have q := rd_ok s1.st r1 ex
      cases dx with
      | bl b =>
        refine ⟨b, q.bl, ?_⟩
        cases b with
        | false => simp only [ex] at P; exact iteF ⟨Hb1, ρ1, s1.st, tM_back s1 P⟩
        | true => simp only [ex] at P; exact iteT (P (.bl true) H1 Hb1 s1 (Is.blI (K := K) (H := Hb1)))
      | _ => simp only [ex] at P; exact P.elim
def mNotV (a : M Rs) : M Rs := fun ρ => bnd (a ρ) fun x ρ1 => match rd ρ1 x with
  | some (.bl b) => .ok (.va (.bl (!b))) ρ1
  | _ => .stuck
theorem dm_not {a : Expr} {pos : Pos} {ma : M Rs} (ha : PE X a (tM K W ma)) : PE X (.UnaryOp .Not a pos) (tM K W (mNotV ma)) := by
  refine PE.imp (pe_not ha) fun σ H Q h => ?_
  obtain ⟨Hb, ρ, S, P⟩ := h
  refine ⟨Hb, ρ, S, ?_⟩
  unfold mNotV at P
  cases ea : ma ρ with
  | stuck => rw [ea] at P; exact P
  | er e ρ1 => rw [ea] at P; exact P
  | ok x ρ1 =>
    rw [ea] at P
    intro v H1 Hb1 s1 r1
    simp only [bnd] at P
    cases ex : rd ρ1 x with
    | none => simp only [ex] at P; exact P.elim
    | some dx =>
      have q := rd_ok s1.st r1 ex
      cases dx with
      | bl b =>
        simp only [ex] at P
        exact ⟨b, q.bl, P (.bl (!b)) H1 Hb1 s1 (Is.blI (K := K) (H := Hb1))⟩
      | _ => simp only [ex] at P; exact P.elim

/-! ### several, from the left; what is new is put down as it comes -/
def soft : Rs → Rs
  | .fr xs => .va (.lst xs)
  | r => r
def mNil : M (List Rs) := fun ρ => .ok [] ρ
def mCons (a : M Rs) (as : M (List Rs)) : M (List Rs) := fun ρ => bnd (a ρ) fun x ρ1 => bnd (as ρ1) fun xs ρ2 => .ok (soft x :: xs) ρ2
/-- a new list is put down: it stays as it is -/
theorem Ste.put {Hb Hb1 H1 : Hp} {ρ ρ1 : Rho} {p : Addr} {vs : List V} (S : StR K Hb σ ρ H) (s : Ste K σ Hb ρ H Hb1 ρ1 H1) (h0 : H p = none) (h1 : H1 p = some (.lst vs)) (hb : Hb1 p = none) : Ste K σ Hb ρ H (upd Hb1 p (.lst vs)) ρ1 H1 ∧ Same Hb1 (upd Hb1 p (.lst vs)) := by
  have sm : Same Hb1 (upd Hb1 p (.lst vs)) := Same.new hb
  refine ⟨⟨s.fr, s.th, s.gr.trans sm, fun b o e n q => by rw [upd_ne (ne_of_none e h0)]; exact s.gn b o e n q, s.ow, s.io, ⟨fun b o e => ?_, s.st.len, fun i sl e => ?_, s.st.dis⟩⟩, sm⟩
  · by_cases hbp : b = p
    · subst hbp; rw [upd_same] at e; cases e; exact h1
    · rw [upd_ne hbp] at e; exact s.st.sub b o e
  · obtain ⟨o, e1, e2⟩ := s.st.sl i sl e
    refine ⟨o, e1, ?_⟩
    cases sl with
    | un => trivial
    | va d =>
      obtain ⟨v, e3, e4⟩ := e2
      exact ⟨v, e3, Is.mono sm _ _ e4⟩
    | ow io xs =>
      obtain ⟨q, ws, e3, e4, e5, e6⟩ := e2
      subst e3
      have nq : q ≠ p := fun z => by
        subst z
        exact own_there S q (s.ow q ⟨i, e1, io, xs, e⟩) h0
      exact ⟨q, ws, rfl, e4, IsA.mono sm _ _ e5, by rw [upd_ne nq]; exact e6⟩
theorem RsR.put {Hb Hb1 H1 : Hp} {ρ ρ1 : Rho} {r : Rs} {v : V} (S : StR K Hb σ ρ H) (s : Ste K σ Hb ρ H Hb1 ρ1 H1) (h : RsR K H Hb1 σ H1 r v) : ∃ Hb2, Ste K σ Hb ρ H Hb2 ρ1 H1 ∧ Same Hb1 Hb2 ∧ RsR K H Hb2 σ H1 (soft r) v := by
  cases r with
  | va d => exact ⟨Hb1, s, Same.refl _, h⟩
  | al i => exact ⟨Hb1, s, Same.refl _, h⟩
  | fr xs =>
    obtain ⟨p, vs, rfl, h0, h1, h2, h3⟩ := h
    obtain ⟨s', sm⟩ := Ste.put S s h0 h2 h1
    exact ⟨_, s', sm, Is.lstI (K := K) (H := upd Hb1 p (.lst vs)) (.inl (.inl upd_same)) (IsA.mono sm _ _ h3)⟩
end
section
variable {K : PySem.W.Frag} {W : WX} {X : Cx} {σ : L2.St} {H : Hp}
theorem da_nil : PA X [] (tA K W mNil) := PA.imp pa_nil fun σ H Q h => by
  obtain ⟨Hb, ρ, S, P⟩ := h
  exact P [] H Hb (Ste.refl S) .nil
theorem soft_step {H0 Hb Hb1 H1 : Hp} {ρ ρ1 : Rho} {r : Rs} {v : V} (O : ∀ b, Own σ ρ b → H0 b ≠ none) (s : Ste K σ Hb ρ H Hb1 ρ1 H1) (h : RsR K H0 Hb σ H r v) : RsR K H0 Hb1 σ H1 r v := RsR.step O s h
theorem da_cons {e : Expr} {es : List Expr} {a : M Rs} {as : M (List Rs)} (ha : PE X e (tM K W a)) (hr : PA X es (tA K W as)) (hs : starEach (e :: es) X.env = (false, eval e X.env) :: starEach es X.env := by rfl) : PA X (e :: es) (tA K W (mCons a as)) := by
  refine PA.imp (pa_cons ha hr hs) fun σ H Q h => ?_
  obtain ⟨Hb, ρ, S, P⟩ := h
  refine ⟨Hb, ρ, S, ?_⟩
  unfold mCons at P
  cases ea : a ρ with
  | stuck => rw [ea] at P; exact P
  | er e ρ1 => rw [ea] at P; exact P
  | ok x ρ1 =>
    rw [ea] at P
    intro v H1 Hb1' s1' r1'
    obtain ⟨Hb1, s1, _, r1⟩ := RsR.put S s1' r1'
    refine ⟨Hb1, ρ1, s1.st, ?_⟩
    simp only [bnd] at P
    cases eb : as ρ1 with
    | stuck => rw [eb] at P; exact P
    | er e ρ2 =>
      rw [eb] at P
      intro d H2 Hb2 s2 ex
      exact P d H2 Hb2 (s1.trans s2) ex
    | ok xs ρ2 =>
      rw [eb] at P
      intro vs H2 Hb2 s2 r2
      refine P (v :: vs) H2 Hb2 (s1.trans s2) (.cons (r1.step (own_there' S s1) s2) (Paired.mapP r2 fun r w hh => hh.older s1.th))

/-! ### to keep: an own list that is kept elsewhere is one's own no more -/
def keep1 (ρ : Rho) : Rs → Option (D × Rho)
  | .va d => some (d, ρ)
  | .fr _ => none
  | .al i => match ρ[i]? with
    | some (.va d) => some (d, ρ)
    | some (.ow false xs) => some (.lst xs, ρ.set i (.va (.lst xs)))
    | _ => none
def keeps (ρ : Rho) : List Rs → Option (List D × Rho)
  | [] => some ([], ρ)
  | r :: rs => match keep1 ρ r with
    | some (d, ρ1) => (match keeps ρ1 rs with
      | some (ds, ρ2) => some (d :: ds, ρ2)
      | none => none)
    | none => none
theorem own_set {i : Nat} {d : D} {ρ : Rho} {b : Addr} (h : Own σ (ρ.set i (.va d)) b) : Own σ ρ b := by
  obtain ⟨j, e, io, xs, q⟩ := h
  by_cases hj : i = j
  · subst hj
    rw [List.getElem?_set] at q
    simp at q
  · rw [List.getElem?_set_ne hj] at q
    exact ⟨j, e, io, xs, q⟩
/-- an own list of slot i is put down -/
theorem Ste.down {Hb : Hp} {ρ : Rho} {i : Nat} {xs : List D} (S : StR K Hb σ ρ H) (h : ρ[i]? = some (.ow false xs)) :
    ∃ p Hb1, σ[i]? = some (some (.ref p)) ∧ Ste K σ Hb ρ H Hb1 (ρ.set i (.va (.lst xs))) H ∧ Is K Hb1 (.lst xs) (.ref p) := by
  obtain ⟨p, vs, oa, h1, h2, h3, h4⟩ := S.own h
  have sm : Same Hb (upd Hb p (.lst vs)) := Same.new h4
  have io' : Is K (upd Hb p (.lst vs)) (.lst xs) (.ref p) := Is.lstI (.inl (.inl upd_same)) (IsA.mono sm _ _ h3)
  have hi : i < ρ.length := (List.getElem?_eq_some_iff.mp h).1
  refine ⟨p, upd Hb p (.lst vs), h1, ⟨fun _ _ e _ => e, fun _ e => e, sm, fun b o e n q => ?_, fun b hb => own_set hb, fun j ys hj => ?_, ⟨fun b o e => ?_, by rw [List.length_set]; exact S.len, fun j s e => ?_, fun j k b hj hk => ?_⟩⟩, io'⟩
  · rw [upd_ne (fun z => q (by subst z; exact ⟨i, oa⟩))]; exact n
  · by_cases hij : i = j
    · subst hij; rw [h] at hj; cases hj
    · exact ⟨ys, by rw [List.getElem?_set_ne hij]; exact hj⟩
  · by_cases hb : b = p
    · subst hb; rw [upd_same] at e; cases e; exact h2
    · rw [upd_ne hb] at e; exact S.sub b o e
  · by_cases hij : i = j
    · subst hij
      rw [List.getElem?_set_self hi] at e; cases e
      exact ⟨_, h1, _, rfl, io'⟩
    · rw [List.getElem?_set_ne hij] at e
      obtain ⟨o, e1, e2⟩ := S.sl j s e
      refine ⟨o, e1, ?_⟩
      cases s with
      | un => trivial
      | va d =>
        obtain ⟨v, e3, e4⟩ := e2
        exact ⟨v, e3, Is.mono sm _ _ e4⟩
      | ow io ys =>
        obtain ⟨q, ws, e3, e4, e5, e6⟩ := e2
        subst e3
        have nq : q ≠ p := fun z => by
          subst z
          exact hij (S.dis i j q oa ⟨e1, io, ys, e⟩)
        exact ⟨q, ws, rfl, e4, IsA.mono sm _ _ e5, by rw [upd_ne nq]; exact e6⟩
  · have f : ∀ {j}, OwnAt σ (ρ.set i (.va (.lst xs))) j b → OwnAt σ ρ j b := fun {j} hj => by
      obtain ⟨e, io, ys, q⟩ := hj
      by_cases hij : i = j
      · subst hij; rw [List.getElem?_set_self hi] at q; cases q
      · rw [List.getElem?_set_ne hij] at q
        exact ⟨e, io, ys, q⟩
    exact S.dis j k b (f hj) (f hk)
theorem keep1_ok {H0 Hb : Hp} {ρ ρ1 : Rho} {r : Rs} {v : V} {d : D} (S : StR K Hb σ ρ H) (h : RsR K H0 Hb σ H r v) (e : keep1 ρ r = some (d, ρ1)) : ∃ Hb1, Ste K σ Hb ρ H Hb1 ρ1 H ∧ Is K Hb1 d v := by
  cases r with
  | va d' => cases e; exact ⟨Hb, Ste.refl S, h⟩
  | fr xs => cases e
  | al i =>
    have h : σ[i]? = some (some v) := h
    cases q : ρ[i]? with
    | none => simp only [keep1, q] at e; cases e
    | some s =>
      cases s with
      | un => simp only [keep1, q] at e; cases e
      | va d' =>
        simp only [keep1, q] at e; cases e
        obtain ⟨w, e1, h1⟩ := S.va q
        rw [h] at e1; cases e1
        exact ⟨Hb, Ste.refl S, h1⟩
      | ow io xs =>
        cases io with
        | true => simp only [keep1, q] at e; cases e
        | false =>
          simp only [keep1, q] at e; cases e
          obtain ⟨p, Hb1, e1, s1, i1⟩ := Ste.down S q
          rw [h] at e1; cases e1
          exact ⟨Hb1, s1, i1⟩
theorem keeps_ok {H0 : Hp} : ∀ {rs : List Rs} {vs : List V} {Hb : Hp} {ρ ρ1 : Rho} {ds : List D}, (∀ b, Own σ ρ b → H0 b ≠ none) → StR K Hb σ ρ H → Paired (RsR K H0 Hb σ H) rs vs → keeps ρ rs = some (ds, ρ1) → ∃ Hb1, Ste K σ Hb ρ H Hb1 ρ1 H ∧ IsA K Hb1 ds vs
  | [], _, Hb, ρ, ρ1, ds, _, S, .nil, e => by
    cases e; exact ⟨Hb, Ste.refl S, IsA.nil⟩
  | r :: rs, _, Hb, ρ, ρ1, ds, O, S, .cons (b := v) (l₂ := vs) h t, e => by
    unfold keeps at e
    cases e1 : keep1 ρ r with
    | none => simp only [e1] at e; cases e
    | some q =>
      obtain ⟨d, ρ2⟩ := q
      simp only [e1] at e
      obtain ⟨Hb2, s2, i2⟩ := keep1_ok S h e1
      cases e3 : keeps ρ2 rs with
      | none => simp only [e3] at e; cases e
      | some q =>
        obtain ⟨ds', ρ3⟩ := q
        simp only [e3] at e
        cases e
        obtain ⟨Hb3, s3, i3⟩ := keeps_ok (fun b hb => O b (s2.ow b hb)) s2.st (Paired.mapP t fun a b hh => RsR.step O s2 hh) e3
        exact ⟨Hb3, s2.trans s3, IsA.cons (Is.mono s3.gr _ _ i2) i3⟩
/-- (a, b, ..) -/
def mTup (as : M (List Rs)) : M Rs := fun ρ => bnd (as ρ) fun rs ρ1 => match keeps ρ1 rs with
  | some (ds, ρ2) => if ds.length ≤ 100000 then .ok (.va (.tup ds)) ρ2 else .stuck
  | none => .stuck
/-- [a, b, ..] -/
def mLst (as : M (List Rs)) : M Rs := fun ρ => bnd (as ρ) fun rs ρ1 => match keeps ρ1 rs with
  | some (ds, ρ2) => if ds.length ≤ 100000 then .ok (.fr ds) ρ2 else .stuck
  | none => .stuck
theorem size_ok {n : Nat} (h : n ≤ 100000) : n ≤ sizeLine := Nat.le_trans h (by decide)
theorem tA_keep {a : M (List Rs)} {Q : VK} {f : List D → Rho → Res Rs} {R : List V → Hp → Prop}
    (k : ∀ (Hb0 H0 Hb : Hp) (ρ0 ρ : Rho) (ds : List D) (vs : List V) (H : Hp), StR K Hb0 σ ρ0 H0 → Ste K σ Hb0 ρ0 H0 Hb ρ H → IsA K Hb ds vs → PostM K W Hb0 σ ρ0 H0 Q (f ds ρ) → R vs H)
    (h : tM K W (fun ρ => bnd (a ρ) fun rs ρ1 => match keeps ρ1 rs with | some (ds, ρ2) => f ds ρ2 | none => .stuck) σ H Q) : tA K W a σ H R := by
  obtain ⟨Hb, ρ, S, P⟩ := h
  refine ⟨Hb, ρ, S, ?_⟩
  simp only [bnd] at P
  cases ea : a ρ with
  | stuck => rw [ea] at P; exact P
  | er e ρ1 => rw [ea] at P; exact P
  | ok rs ρ1 =>
    rw [ea] at P
    intro vs H1 Hb1 s1 r1
    simp only at P
    cases ek : keeps ρ1 rs with
    | none => simp only [ek] at P; exact P.elim
    | some q =>
      obtain ⟨ds, ρ2⟩ := q
      simp only [ek] at P
      obtain ⟨Hb2, s2, i2⟩ := keeps_ok (own_there' S s1) s1.st r1 ek
      exact k Hb H Hb2 ρ ρ2 ds vs H1 S (s1.trans s2) i2 P
theorem dm_tup {es : List Expr} {a : M (List Rs)} {n : Nat} {pos : Pos} (h : PA X es (tA K W a)) : PE X (.Tuple es n pos) (tM K W (mTup a)) := by
  refine PE.imp (pe_tup h) fun σ H Q h => ?_
  refine tA_keep (f := fun ds ρ2 => if ds.length ≤ 100000 then .ok (.va (.tup ds)) ρ2 else .stuck) (fun Hb0 H0 Hb ρ0 ρ ds vs H S s i P => ?_) h
  by_cases hz : ds.length ≤ 100000
  · simp only [if_pos hz] at P
    refine ⟨by rw [i.length]; exact size_ok hz, fun p hp => ?_⟩
    have g : Gro Hb H (upd Hb p (.tup vs)) (upd H p (.tup vs)) := Gro.newT s.st.sub hp
    exact P (.ref p) _ _ (s.trans (g.ste s.st)) (Is.tupI (K := K) (H := upd Hb p (.tup vs)) (.inl (.inl upd_same)) (IsA.mono g.gr _ _ i))
  · simp only [if_neg hz] at P; exact P.elim
theorem dm_lst {es : List Expr} {a : M (List Rs)} {pos : Pos} (h : PA X es (tA K W a)) : PE X (.List es pos) (tM K W (mLst a)) := by
  refine PE.imp (pe_lst h) fun σ H Q h => ?_
  refine tA_keep (f := fun ds ρ2 => if ds.length ≤ 100000 then .ok (.fr ds) ρ2 else .stuck) (fun Hb0 H0 Hb ρ0 ρ ds vs H S s i P => ?_) h
  by_cases hz : ds.length ≤ 100000
  · simp only [if_pos hz] at P
    refine ⟨by rw [i.length]; exact size_ok hz, fun p hp => ?_⟩
    have g : Gro Hb H Hb (upd H p (.lst vs)) := Gro.newL s.st.sub hp
    exact P (.ref p) _ _ (s.trans (g.ste s.st)) ⟨p, vs, rfl, s.th p hp, Same.none s.st.sub hp, upd_same, i⟩
  · simp only [if_neg hz] at P; exact P.elim

/-! ### a built-in called by name, by the data of its arguments -/
def rds (ρ : Rho) : List Rs → Option (List D)
  | [] => some []
  | r :: rs => match rd ρ r with
    | some d => (match rds ρ rs with
      | some ds => some (d :: ds)
      | none => none)
    | none => none
def mBi (f : List D → Option Rs) (as : M (List Rs)) : M Rs := fun ρ => bnd (as ρ) fun rs ρ1 => match rds ρ1 rs with
  | some ds => (match f ds with
    | some r => .ok r ρ1
    | none => .stuck)
  | none => .stuck
def CallD (K : PySem.W.Frag) (r : List V → Hp → VK → Prop) (f : List D → Option Rs) : Prop := ∀ (Hb H : Hp) (xs : List V) (ds : List D) (res : Rs) (Q : VK), Same Hb H → Paired (RdR K Hb H) ds xs → f ds = some res →
  (∀ v Hb' H', Gro Hb H Hb' H' → RsR K H Hb' [] H' res v → Q v H') → r xs H Q
theorem rds_ok {H0 Hb : Hp} {ρ : Rho} (S : StR K Hb σ ρ H) : ∀ {rs : List Rs} {vs : List V} {ds : List D}, Paired (RsR K H0 Hb σ H) rs vs → rds ρ rs = some ds → Paired (RdR K Hb H) ds vs
  | [], _, ds, .nil, e => by cases e; exact .nil
  | r :: rs, _, ds, .cons (b := v) (l₂ := vs) h t, e => by
    unfold rds at e
    cases e1 : rd ρ r with
    | none => simp only [e1] at e; cases e
    | some d =>
      simp only [e1] at e
      cases e2 : rds ρ rs with
      | none => simp only [e2] at e; cases e
      | some ds' =>
        simp only [e2] at e
        cases e
        exact .cons (rd_ok S h e1) (rds_ok S t e2)
theorem tM_bi {r : List V → Hp → VK → Prop} {f : List D → Option Rs} {a : M (List Rs)} {Q : VK} (hr : CallD K r f) (h : tM K W (mBi f a) σ H Q) : tCB r (tA K W a) σ H Q := by
  obtain ⟨Hb, ρ, S, P⟩ := h
  refine ⟨Hb, ρ, S, ?_⟩
  unfold mBi at P
  simp only [bnd] at P
  cases ea : a ρ with
  | stuck => rw [ea] at P; exact P
  | er e ρ1 => rw [ea] at P; exact P
  | ok rs ρ1 =>
    rw [ea] at P
    intro vs H1 Hb1 s1 r1
    simp only at P
    cases ek : rds ρ1 rs with
    | none => simp only [ek] at P; exact P.elim
    | some ds =>
      simp only [ek] at P
      cases ef : f ds with
      | none => simp only [ef] at P; exact P.elim
      | some res =>
        simp only [ef] at P
        exact hr Hb1 H1 vs ds res Q s1.st.sub (rds_ok s1.st r1 ek) ef fun z Hb3 H3 g rz => P z H3 Hb3 (s1.trans (g.ste s1.st)) ((RsR.some rz).older s1.th)
end
end DL

namespace DL
open PySem L2
/-! ### equality of data -/
mutual
def D.eqv : D → D → Bool
  | .non, .non => true
  | .bl a, .bl b => a == b
  | .bl a, .int j => (if a then 1 else 0) == j
  | .int i, .bl b => i == (if b then 1 else 0)
  | .int i, .int j => i == j
  | .str x, .str y => x == y
  | .lst xs, .lst ys => D.eqvs xs ys
  | .tup xs, .tup ys => D.eqvs xs ys
  | _, _ => false
def D.eqvs : List D → List D → Bool
  | [], [] => true
  | x :: xs, y :: ys => D.eqv x y && D.eqvs xs ys
  | _, _ => false
end
mutual
/-- data that may be compared: no exceptions, classes; not too deep -/
def D.fine : Nat → D → Bool
  | _, .non => true
  | _, .bl _ => true
  | _, .int _ => true
  | _, .str x => PyData.strOk x
  | n + 1, .tup xs => D.fines n xs
  | n + 1, .lst xs => D.fines n xs
  | _, _ => false
def D.fines : Nat → List D → Bool
  | _, [] => true
  | n, x :: xs => D.fine n x && D.fines n xs
end
mutual
def D.py : D → PyData
  | .non => .none
  | .bl b => .bool b
  | .int i => .int i
  | .str x => .str x
  | .tup xs => .tuple (D.pys xs)
  | .lst xs => .list (D.pys xs)
  | .exc _ _ => .none
  | .ty _ => .none
  | .cls _ => .none
  | .obj _ => .none
def D.pys : List D → List PyData
  | [] => []
  | x :: xs => D.py x :: D.pys xs
end
mutual
theorem D.py_eqv : ∀ (n m : Nat) (x y : D), D.fine n x = true → D.fine m y = true → PyData.eqv (D.py x) (D.py y) = D.eqv x y
  | n, m, .non, y, _, h => by cases y <;> simp_all [D.py, PyData.eqv, D.eqv, D.fine]
  | n, m, .bl a, y, _, h => by cases y <;> simp_all [D.py, PyData.eqv, D.eqv, D.fine]
  | n, m, .int a, y, _, h => by cases y <;> simp_all [D.py, PyData.eqv, D.eqv, D.fine]
  | n, m, .str a, y, _, h => by cases y <;> simp_all [D.py, PyData.eqv, D.eqv, D.fine]
  | n, m, .exc _ _, y, h, _ => by cases n <;> simp [D.fine] at h
  | n, m, .ty _, y, h, _ => by cases n <;> simp [D.fine] at h
  | n, m, .cls _, y, h, _ => by cases n <;> simp [D.fine] at h
  | n, m, .tup xs, y, h, h' => by
    cases n with
    | zero => simp [D.fine] at h
    | succ n =>
      cases y with
      | tup ys =>
        cases m with
        | zero => simp [D.fine] at h'
        | succ m =>
          simp only [D.fine] at h h'
          simp only [D.py, PyData.eqv, D.eqv]
          exact D.pys_eqv n m xs ys h h'
      | _ => simp_all [D.py, PyData.eqv, D.eqv, D.fine]
  | n, m, .lst xs, y, h, h' => by
    cases n with
    | zero => simp [D.fine] at h
    | succ n =>
      cases y with
      | lst ys =>
        cases m with
        | zero => simp [D.fine] at h'
        | succ m =>
          simp only [D.fine] at h h'
          simp only [D.py, PyData.eqv, D.eqv]
          exact D.pys_eqv n m xs ys h h'
      | _ => simp_all [D.py, PyData.eqv, D.eqv, D.fine]
theorem D.pys_eqv : ∀ (n m : Nat) (xs ys : List D), D.fines n xs = true → D.fines m ys = true → PyData.eqvAll (D.pys xs) (D.pys ys) = D.eqvs xs ys
  | n, m, [], ys, _, _ => by cases ys <;> simp [D.pys, PyData.eqvAll, D.eqvs]
  | n, m, x :: xs, [], _, _ => by simp [D.pys, PyData.eqvAll, D.eqvs]
  | n, m, x :: xs, y :: ys, h, h' => by
    simp only [D.fines, Bool.and_eq_true] at h h'
    simp only [D.pys, PyData.eqvAll, D.eqvs]
    rw [D.py_eqv n m x y h.1 h'.1, D.pys_eqv n m xs ys h.2 h'.2]
end
mutual
theorem D.py_lay : ∀ (n : Nat) (x : D), D.fine n x = true → (D.py x).canLay0 = true ∧ (D.py x).depth ≤ n
  | n, .non, _ => by simp [D.py, PyData.canLay0, PyData.depth]
  | n, .bl a, _ => by simp [D.py, PyData.canLay0, PyData.depth]
  | n, .int a, _ => by simp [D.py, PyData.canLay0, PyData.depth]
  | n, .str a, h => by
    have h : PyData.strOk a = true := by simpa [D.fine] using h
    simp [D.py, PyData.canLay0, PyData.depth, h]
  | n, .exc _ _, h => by cases n <;> simp [D.fine] at h
  | n, .ty _, h => by cases n <;> simp [D.fine] at h
  | n, .cls _, h => by cases n <;> simp [D.fine] at h
  | n, .tup xs, h => by
    cases n with
    | zero => simp [D.fine] at h
    | succ n =>
      simp only [D.fine] at h
      obtain ⟨h1, h2⟩ := D.pys_lay n xs h
      simp only [D.py, PyData.canLay0, PyData.depth]
      exact ⟨h1, by omega⟩
  | n, .lst xs, h => by
    cases n with
    | zero => simp [D.fine] at h
    | succ n =>
      simp only [D.fine] at h
      obtain ⟨h1, h2⟩ := D.pys_lay n xs h
      simp only [D.py, PyData.canLay0, PyData.depth]
      exact ⟨h1, by omega⟩
theorem D.pys_lay : ∀ (n : Nat) (xs : List D), D.fines n xs = true → PyData.canLayAll0 (D.pys xs) = true ∧ PyData.depthAll (D.pys xs) ≤ n
  | n, [], _ => by simp [D.pys, PyData.canLayAll0, PyData.depthAll]
  | n, x :: xs, h => by
    simp only [D.fines, Bool.and_eq_true] at h
    obtain ⟨h1, h2⟩ := D.py_lay n x h.1
    obtain ⟨h3, h4⟩ := D.pys_lay n xs h.2
    simp only [D.pys, PyData.canLayAll0, PyData.depthAll, h1, h3]
    exact ⟨rfl, by omega⟩
end
theorem D.py_shaped {x : D} (h : D.fine 60 x = true) : SeqAt.shaped (D.py x) = true := by
  obtain ⟨h1, h2⟩ := D.py_lay 60 x h
  unfold SeqAt.shaped
  rw [h1, decide_eq_true (by omega)]
  rfl
mutual
theorem Is.dp {K : PySem.W.Frag} {H : Hp} : ∀ (n : Nat) (x : D) (v : V), D.fine n x = true → Is K H x v → Dp K H v (D.py x)
  | n, .non, v, _, h => by simp only [Is] at h; subst h; exact .non
  | n, .bl a, v, _, h => by simp only [Is] at h; subst h; exact .bl a
  | n, .int a, v, _, h => by simp only [Is] at h; subst h; exact .int a
  | n, .str a, v, _, h => by simp only [Is] at h; subst h; exact .str a
  | n, .exc _ _, v, h, _ => by cases n <;> simp [D.fine] at h
  | n, .ty _, v, h, _ => by cases n <;> simp [D.fine] at h
  | n, .cls _, v, h, _ => by cases n <;> simp [D.fine] at h
  | n, .tup xs, v, h, h' => by
    cases n with
    | zero => simp [D.fine] at h
    | succ n =>
      simp only [D.fine] at h
      simp only [Is] at h'
      obtain ⟨a, vs, rfl, h1, h2⟩ := h'
      exact .tup h1 (IsA.dp n xs vs h h2)
  | n, .lst xs, v, h, h' => by
    cases n with
    | zero => simp [D.fine] at h
    | succ n =>
      simp only [D.fine] at h
      simp only [Is] at h'
      obtain ⟨a, vs, rfl, h1, h2⟩ := h'
      exact .lst (h1) (IsA.dp n xs vs h h2)
theorem IsA.dp {K : PySem.W.Frag} {H : Hp} : ∀ (n : Nat) (xs : List D) (vs : List V), D.fines n xs = true → IsA K H xs vs → DpAll K H vs (D.pys xs)
  | n, [], vs, _, h => by simp only [IsA] at h; subst h; exact .nil
  | n, x :: xs, vs, h, h' => by
    simp only [D.fines, Bool.and_eq_true] at h
    simp only [IsA] at h'
    obtain ⟨v, r, rfl, h1, h2⟩ := h'
    exact .cons (Is.dp n x v h.1 h1) (IsA.dp n xs r h.2 h2)
end

section
variable {K : PySem.W.Frag} {W : WX} {X : Cx} {σ : L2.St} {H : Hp}
def eqD (x y : D) : Option Rs := if (D.fine 60 x && D.fine 60 y) = true then some (.va (.bl (D.eqv x y))) else none
def neD (x y : D) : Option Rs := if (D.fine 60 x && D.fine 60 y) = true then some (.va (.bl (!D.eqv x y))) else none
theorem od_eq : OpD K (rEqD K) eqD := by
  intro Hb H x y dx dy res Q s rx ry e q
  unfold eqD at e
  by_cases h : (D.fine 60 dx && D.fine 60 dy) = true
  · rw [if_pos h] at e
    cases e
    rw [Bool.and_eq_true] at h
    refine ⟨D.py dx, D.py dy, Is.dp 60 dx x h.1 (rx.is s), Is.dp 60 dy y h.2 (ry.is s), D.py_shaped h.1, D.py_shaped h.2, ?_⟩
    rw [D.py_eqv 60 60 dx dy h.1 h.2]
    exact q _ Hb H (Gro.refl s) (Is.blI (K := K) (H := Hb))
  · rw [if_neg h] at e; cases e
theorem od_ne : OpD K (rNeD K) neD := by
  intro Hb H x y dx dy res Q s rx ry e q
  unfold neD at e
  by_cases h : (D.fine 60 dx && D.fine 60 dy) = true
  · rw [if_pos h] at e
    cases e
    rw [Bool.and_eq_true] at h
    refine ⟨D.py dx, D.py dy, Is.dp 60 dx x h.1 (rx.is s), Is.dp 60 dy y h.2 (ry.is s), D.py_shaped h.1, D.py_shaped h.2, ?_⟩
    rw [D.py_eqv 60 60 dx dy h.1 h.2]
    exact q _ Hb H (Gro.refl s) (Is.blI (K := K) (H := Hb))
  · rw [if_neg h] at e; cases e
/-! ### ints -/
def iop (g : Int → Int → Option D) (x y : D) : Option Rs := match x, y with
  | .int i, .int j => (match g i j with
    | some d => some (.va d)
    | none => none)
  | _, _ => none
theorem od_int {r : R2} {g : Int → Int → Option D} (h : ∀ i j d H (Q : VK), g i j = some d → (∀ v, (∀ Hb, Is K Hb d v) → Q v H) → r (.int i) (.int j) H Q) : OpD K r (iop g) := by
  intro Hb H x y dx dy res Q s rx ry e q
  unfold iop at e
  cases dx with
  | int i =>
    cases dy with
    | int j =>
      simp only at e
      cases eg : g i j with
      | none => rw [eg] at e; cases e
      | some d =>
        rw [eg] at e; cases e
        rw [rx.int, ry.int]
        exact h i j d H Q eg fun v hv => q v Hb H (Gro.refl s) (hv Hb)
    | _ => cases e
  | _ => cases e
theorem od_I0 {g : Int → Int → Int} : OpD K (rI0 fun i j => .int (g i j)) (iop fun i j => some (.int (g i j))) :=
  od_int fun i j d H Q e q => by cases e; exact ⟨i, j, rfl, rfl, q _ fun _ => Is.intI⟩
theorem od_IC {C : Int → Int → Prop} [∀ i j, Decidable (C i j)] {g : Int → Int → Int} : OpD K (rI C fun i j => .int (g i j)) (iop fun i j => if C i j then some (.int (g i j)) else none) :=
  od_int fun i j d H Q e q => by
    by_cases hc : C i j
    · rw [if_pos hc] at e; cases e; exact ⟨i, j, rfl, rfl, hc, q _ fun _ => Is.intI⟩
    · rw [if_neg hc] at e; cases e
theorem od_B0 {g : Int → Int → Bool} : OpD K (rI0 fun i j => .bl (g i j)) (iop fun i j => some (.bl (g i j))) :=
  od_int fun i j d H Q e q => by cases e; exact ⟨i, j, rfl, rfl, q _ fun _ => Is.blI⟩
instance : ∀ i j, Decidable (CMulW i j) := fun i j => by unfold CMulW; infer_instance
instance : ∀ i j, Decidable (CDivW i j) := fun i j => by unfold CDivW; infer_instance
def ltD : D → D → Option Rs := iop fun i j => some (.bl (decide (i < j)))
def leD : D → D → Option Rs := iop fun i j => some (.bl (decide (i ≤ j)))
def gtD : D → D → Option Rs := iop fun i j => some (.bl (decide (j < i)))
def geD : D → D → Option Rs := iop fun i j => some (.bl (decide (j ≤ i)))
def subD : D → D → Option Rs := iop fun i j => some (.int (i - j))
def mulD : D → D → Option Rs := iop fun i j => if CMulW i j then some (.int (i * j)) else none
def divD : D → D → Option Rs := iop fun i j => if CDivW i j then some (.int (i / j)) else none
def modD : D → D → Option Rs := iop fun i j => if 0 < j then some (.int (i % j)) else none
def powD : D → D → Option Rs := iop fun i j => if 0 ≤ j ∧ j ≤ 1000000 ∧ i.natAbs < 2 ^ 64 then some (.int (i ^ j.toNat)) else none
/-! ### + -/
def rCatL (K : PySem.W.Frag) : R2 := fun x y H Q => ∃ l b xs zs, x = .ref l ∧ y = .ref b ∧ SqL K H l xs ∧ SqL K H b zs ∧ xs.length + zs.length ≤ sizeLine ∧ ∀ p, H p = none → Q (.ref p) (upd H p (.lst (xs ++ zs)))
theorem op_catL : OpR X (binaryOp .Add) (rCatL X.K) := by
  intro pins s σ H x y v u Q I rx ry h
  obtain ⟨l, b, xs, zs, rfl, rfl, hH, hB, hz, q⟩ := h
  cases rx
  cases ry
  obtain ⟨its, r, ⟨⟨c1, d1, t1, sl1⟩, n, e, k1, k2, k3⟩, _⟩ := I.list hH
  obtain ⟨its2, r2, ⟨⟨c2, d2, t2, sl2⟩, n2, e2, k4, k5, k6⟩, _⟩ := I.list hB
  dsimp only at k1 k2 k3 k4 k5 k6
  subst k1 k2 k3 k4 k5 k6
  have hl := r.length
  have hl2 := r2.length
  refine concat_meets ⟨_, e, rfl⟩ ⟨_, e2, rfl⟩ noFill_list_add seq_list_add PySem.F.slot_list_add PySem.F.entry_list_add (PySem.F.args_list_add_2 _ _) (PyProof.Rows.list_addW l b its.toArray its2.toArray n n2 none none sl1 sl2 (by rw [List.size_toArray, List.size_toArray]; omega)) ⟨e, e2, ?_⟩
  have ea : its.toArray ++ its2.toArray = (its ++ its2).toArray := by simp
  rw [ea]
  exact ⟨.ref _, _, I.lnew (t' := s.toks) (r.append r2) (by rw [List.length_append]; omega), rfl, q _ I.fresh⟩
def catL (x y : D) : Option Rs := match x, y with
  | .lst xs, .lst ys => if xs.length + ys.length ≤ 100000 then some (.fr (xs ++ ys)) else none
  | _, _ => none
def catT (x y : D) : Option Rs := match x, y with
  | .tup xs, .tup ys => if xs.length + ys.length ≤ 100000 then some (.va (.tup (xs ++ ys))) else none
  | _, _ => none
def catS (x y : D) : Option Rs := match x, y with
  | .str a, .str b => if a.length + b.length ≤ 100000 then some (.va (.str (a ++ b))) else none
  | _, _ => none
theorem od_catL : OpD K (rCatL K) catL := by
  intro Hb H x y dx dy res Q s rx ry e q
  unfold catL at e
  cases dx with
  | lst xs =>
    cases dy with
    | lst ys =>
      simp only at e
      by_cases hz : xs.length + ys.length ≤ 100000
      · rw [if_pos hz] at e; cases e
        obtain ⟨p, vs, rfl, h1, i1⟩ := rx.lstR s
        obtain ⟨p2, ws, rfl, h2, i2⟩ := ry.lstR s
        refine ⟨p, p2, vs, ws, rfl, rfl, h1, h2, by rw [i1.length, i2.length]; exact size_ok hz, fun t ht => ?_⟩
        exact q _ _ _ (Gro.newL s ht) ⟨t, _, rfl, ht, Same.none s ht, upd_same, i1.append i2⟩
      · rw [if_neg hz] at e; cases e
    | _ => cases e
  | _ => cases e
theorem od_catT : OpD K (rCatA K) catT := by
  intro Hb H x y dx dy res Q s rx ry e q
  unfold catT at e
  cases dx with
  | tup xs =>
    cases dy with
    | tup ys =>
      simp only at e
      by_cases hz : xs.length + ys.length ≤ 100000
      · rw [if_pos hz] at e; cases e
        obtain ⟨p, vs, rfl, h1, i1⟩ := rx.tup s
        obtain ⟨p2, ws, rfl, h2, i2⟩ := ry.tup s
        have ia := i1.append i2
        refine ⟨p, p2, vs, ws, rfl, rfl, h1, h2, by rw [i1.length, i2.length]; exact size_ok hz, fun z => ?_, fun z z2 => ?_, fun _ _ t ht => ?_⟩
        · subst z
          have : xs = [] := by have := i1.length; simp at this; exact List.eq_nil_of_length_eq_zero (by omega)
          subst this
          refine q _ Hb H (Gro.refl s) ?_
          rcases ry with ry | ⟨_, _, _, e, _⟩
          · exact ry
          · cases e
        · subst z2
          have : ys = [] := by have := i2.length; simp at this; exact List.eq_nil_of_length_eq_zero (by omega)
          subst this
          refine q _ Hb H (Gro.refl s) ?_
          rcases rx with rx | ⟨_, _, _, e, _⟩
          · show Is K Hb (.tup (xs ++ [])) _
            rw [List.append_nil]; exact rx
          · cases e
        · have g : Gro Hb H (upd Hb t (.tup (vs ++ ws))) (upd H t (.tup (vs ++ ws))) := Gro.newT s ht
          exact q _ _ _ g (Is.tupI (K := K) (H := upd Hb t (.tup (vs ++ ws))) (.inl (.inl upd_same)) (IsA.mono g.gr _ _ ia))
      · rw [if_neg hz] at e; cases e
    | _ => cases e
  | _ => cases e
theorem od_catS : OpD K (fun x y H Q => ∃ i j, x = .str i ∧ y = .str j ∧ i.length + j.length ≤ sizeLine ∧ Q (.str (i ++ j)) H) catS := by
  intro Hb H x y dx dy res Q s rx ry e q
  unfold catS at e
  cases dx with
  | str a =>
    cases dy with
    | str b =>
      simp only at e
      by_cases hz : a.length + b.length ≤ 100000
      · rw [if_pos hz] at e; cases e
        exact ⟨a, b, rx.str, ry.str, size_ok hz, q _ Hb H (Gro.refl s) (Is.strI (K := K) (H := Hb))⟩
      · rw [if_neg hz] at e; cases e
    | _ => cases e
  | _ => cases e

def or2 (f g : D → D → Option Rs) : D → D → Option Rs := fun x y => match f x y with | some z => some z | none => g x y
def addD : D → D → Option Rs := or2 (iop fun i j => some (.int (i + j))) (or2 catL (or2 catT catS))
theorem od_add : OpD K (fun x y H Q => rI0 (fun i j => .int (i + j)) x y H Q ∨ (rCatL K x y H Q ∨ (rCatA K x y H Q ∨ ∃ i j, x = .str i ∧ y = .str j ∧ i.length + j.length ≤ sizeLine ∧ Q (.str (i ++ j)) H))) addD :=
  od_I0.or (od_catL.or (od_catT.or od_catS))
theorem dm_add {a b : Expr} {ma mb : M Rs} {pos : Pos} (ha : PE X a (tM X.K W ma)) (hb : PE X b (tM X.K W mb)) : PE X (.BinOp a .Add b pos) (tM X.K W (mBin addD ma mb)) := dm_bin (op_add.or (op_catL.or ((op_catA (X := X)).or op_add_str))) od_add ha hb
theorem dm_sub {a b : Expr} {ma mb : M Rs} {pos : Pos} (ha : PE X a (tM K W ma)) (hb : PE X b (tM K W mb)) : PE X (.BinOp a .Sub b pos) (tM K W (mBin subD ma mb)) := dm_bin op_sub od_I0 ha hb
theorem dm_mul {a b : Expr} {ma mb : M Rs} {pos : Pos} (ha : PE X a (tM K W ma)) (hb : PE X b (tM K W mb)) : PE X (.BinOp a .Mult b pos) (tM K W (mBin mulD ma mb)) := dm_bin op_mulW od_IC ha hb
theorem dm_div {a b : Expr} {ma mb : M Rs} {pos : Pos} (ha : PE X a (tM K W ma)) (hb : PE X b (tM K W mb)) : PE X (.BinOp a .FloorDiv b pos) (tM K W (mBin divD ma mb)) := dm_bin op_fdivW od_IC ha hb
theorem dm_mod {a b : Expr} {ma mb : M Rs} {pos : Pos} (ha : PE X a (tM K W ma)) (hb : PE X b (tM K W mb)) : PE X (.BinOp a .Mod b pos) (tM K W (mBin modD ma mb)) := dm_bin op_mod od_IC ha hb
instance : ∀ i j, Decidable (CPow i j) := fun i j => by unfold CPow; infer_instance
theorem dm_pow {a b : Expr} {ma mb : M Rs} {pos : Pos} (ha : PE X a (tM K W ma)) (hb : PE X b (tM K W mb)) : PE X (.BinOp a .Pow b pos) (tM K W (mBin powD ma mb)) := dm_bin op_pow (od_int fun i j d H Q e q => by
    by_cases hc : 0 ≤ j ∧ j ≤ 1000000 ∧ i.natAbs < 2 ^ 64
    · rw [if_pos hc] at e; cases e; exact ⟨i, j, rfl, rfl, hc, q _ fun _ => Is.intI⟩
    · rw [if_neg hc] at e; cases e) ha hb
theorem dm_lt {a b : Expr} {ma mb : M Rs} {pos : Pos} (ha : PE X a (tM K W ma)) (hb : PE X b (tM K W mb)) : PE X (.Compare a [.Lt] [b] pos) (tM K W (mBin ltD ma mb)) := dm_cmp op_lt od_B0 ha hb
theorem dm_le {a b : Expr} {ma mb : M Rs} {pos : Pos} (ha : PE X a (tM K W ma)) (hb : PE X b (tM K W mb)) : PE X (.Compare a [.LtE] [b] pos) (tM K W (mBin leD ma mb)) := dm_cmp op_le od_B0 ha hb
theorem dm_gt {a b : Expr} {ma mb : M Rs} {pos : Pos} (ha : PE X a (tM K W ma)) (hb : PE X b (tM K W mb)) : PE X (.Compare a [.Gt] [b] pos) (tM K W (mBin gtD ma mb)) := dm_cmp op_gt od_B0 ha hb
theorem dm_ge {a b : Expr} {ma mb : M Rs} {pos : Pos} (ha : PE X a (tM K W ma)) (hb : PE X b (tM K W mb)) : PE X (.Compare a [.GtE] [b] pos) (tM K W (mBin geD ma mb)) := dm_cmp op_ge od_B0 ha hb
theorem dm_eq {a b : Expr} {ma mb : M Rs} {pos : Pos} (hu : X.A.units + 64 < cLine) (ha : PE X a (tM X.K W ma)) (hb : PE X b (tM X.K W mb)) : PE X (.Compare a [.Eq] [b] pos) (tM X.K W (mBin eqD ma mb)) := dm_cmp (op_eqD hu) od_eq ha hb
theorem dm_ne {a b : Expr} {ma mb : M Rs} {pos : Pos} (hu : X.A.units + 64 < cLine) (ha : PE X a (tM X.K W ma)) (hb : PE X b (tM X.K W mb)) : PE X (.Compare a [.NotEq] [b] pos) (tM X.K W (mBin neD ma mb)) := dm_cmp (op_neD hu) od_ne ha hb
theorem dt_lt {a b : Expr} {ma mb : M Rs} {pos : Pos} (ha : PE X a (tM K W ma)) (hb : PE X b (tM K W mb)) : PT X (.Compare a [.Lt] [b] pos) (tT K W (mTv (mBin ltD ma mb))) := dt_cmp op_lt od_B0 ha hb
theorem dt_le {a b : Expr} {ma mb : M Rs} {pos : Pos} (ha : PE X a (tM K W ma)) (hb : PE X b (tM K W mb)) : PT X (.Compare a [.LtE] [b] pos) (tT K W (mTv (mBin leD ma mb))) := dt_cmp op_le od_B0 ha hb
theorem dt_gt {a b : Expr} {ma mb : M Rs} {pos : Pos} (ha : PE X a (tM K W ma)) (hb : PE X b (tM K W mb)) : PT X (.Compare a [.Gt] [b] pos) (tT K W (mTv (mBin gtD ma mb))) := dt_cmp op_gt od_B0 ha hb
theorem dt_ge {a b : Expr} {ma mb : M Rs} {pos : Pos} (ha : PE X a (tM K W ma)) (hb : PE X b (tM K W mb)) : PT X (.Compare a [.GtE] [b] pos) (tT K W (mTv (mBin geD ma mb))) := dt_cmp op_ge od_B0 ha hb
theorem dt_eq {a b : Expr} {ma mb : M Rs} {pos : Pos} (hu : X.A.units + 64 < cLine) (ha : PE X a (tM X.K W ma)) (hb : PE X b (tM X.K W mb)) : PT X (.Compare a [.Eq] [b] pos) (tT X.K W (mTv (mBin eqD ma mb))) := dt_cmp (op_eqD hu) od_eq ha hb
theorem dt_ne {a b : Expr} {ma mb : M Rs} {pos : Pos} (hu : X.A.units + 64 < cLine) (ha : PE X a (tM X.K W ma)) (hb : PE X b (tM X.K W mb)) : PT X (.Compare a [.NotEq] [b] pos) (tT X.K W (mTv (mBin neD ma mb))) := dt_cmp (op_neD hu) od_ne ha hb
def negD : D → Option Rs
  | .int i => some (.va (.int (-i)))
  | _ => none
theorem ud_neg : UnD K (rU fun i => .int (-i)) negD := by
  intro Hb H x dx res Q s rx e q
  cases dx with
  | int i =>
    cases e
    exact ⟨i, rx.int, q _ Hb H (Gro.refl s) (Is.intI (K := K) (H := Hb))⟩
  | _ => cases e
theorem dm_neg {a : Expr} {ma : M Rs} {pos : Pos} (ha : PE X a (tM K W ma)) : PE X (.UnaryOp .USub a pos) (tM K W (mUn negD ma)) := dm_un un_neg ud_neg ha
end
end DL

namespace DL
open PySem L2
section
variable {K : PySem.W.Frag} {W : WX} {X : Cx} {σ : L2.St} {H : Hp}
/-! ### in, not in (flat things) -/
def D.flat : D → Bool
  | .non => true | .bl _ => true | .int _ => true | .str _ => true | _ => false
theorem flat_is {d : D} {v : V} {Hb : Hp} (h : Is K Hb d v) (f : d.flat = true) : flatV v = true ∧ (∀ e w Hb', Is K Hb' e w → e.flat = true → eqV v w = D.eqv d e) := by
  cases d with
  | non => simp only [Is] at h; subst h; refine ⟨rfl, fun e w Hb' h' f' => ?_⟩; cases e <;> simp_all [D.flat, Is, eqV, D.eqv]
  | bl b => simp only [Is] at h; subst h; refine ⟨rfl, fun e w Hb' h' f' => ?_⟩; cases e <;> simp_all [D.flat, Is, eqV, D.eqv] <;> (try cases b) <;> (try rfl) <;> simp_all [b2i]
  | int i => simp only [Is] at h; subst h; refine ⟨rfl, fun e w Hb' h' f' => ?_⟩; cases e <;> simp_all [D.flat, Is, eqV, D.eqv] <;> (try simp_all [b2i])
  | str x => simp only [Is] at h; subst h; refine ⟨rfl, fun e w Hb' h' f' => ?_⟩; cases e <;> simp_all [D.flat, Is, eqV, D.eqv]
  | _ => cases f

def inD (neg : Bool) (x y : D) : Option Rs := match y with
  | .lst ys => if (x.flat && ys.all D.flat) = true then some (.va (.bl (if neg then !(ys.any fun y => D.eqv y x) else ys.any fun y => D.eqv y x))) else none
  | .tup ys => if (x.flat && ys.all D.flat) = true then some (.va (.bl (if neg then !(ys.any fun y => D.eqv y x) else ys.any fun y => D.eqv y x))) else none
  | _ => none
theorem all_flat {Hb : Hp} : ∀ {ys : List D} {vs : List V}, IsA K Hb ys vs → ys.all D.flat = true → vs.all flatV = true ∧ ∀ (x : D) (v : V) (Hb' : Hp), Is K Hb' x v → x.flat = true → inV v vs = ys.any fun y => D.eqv y x
  | [], vs, h, _ => by simp only [IsA] at h; subst h; exact ⟨rfl, fun _ _ _ _ _ => rfl⟩
  | y :: ys, vs, h, f => by
    simp only [IsA] at h
    obtain ⟨w, r, rfl, h1, h2⟩ := h
    simp only [List.all_cons, Bool.and_eq_true] at f
    obtain ⟨i1, i2⟩ := all_flat h2 f.2
    obtain ⟨j1, j2⟩ := flat_is h1 f.1
    refine ⟨by simp only [List.all_cons, j1, i1, Bool.and_self], fun x v Hb' hx fx => ?_⟩
    show (eqV w v || inV v r) = (D.eqv y x || ys.any fun y => D.eqv y x)
    rw [j2 x v Hb' hx fx, i2 x v Hb' hx fx]
theorem od_in {neg : Bool} : OpD K (rIn K neg) (inD neg) := by
  intro Hb H x y dx dy res Q s rx ry e q
  have key : ∀ ys, (dx.flat && ys.all D.flat) = true → some (Rs.va (.bl (if neg then !(ys.any fun y => D.eqv y dx) else ys.any fun y => D.eqv y dx))) = some res → ∀ p vs, IsA K Hb ys vs → y = .ref p → (SqL K H p vs ∨ SqT K H p vs) → rIn K neg x y H Q := by
    intro ys hc e p vs iv ey hp
    rw [Bool.and_eq_true] at hc
    cases e
    have hx : Is K Hb dx x := by
      rcases rx with h | ⟨_, _, _, e, _⟩
      · exact h
      · subst e; exact absurd hc.1 (by simp [D.flat])
    obtain ⟨a1, a2⟩ := all_flat iv hc.2
    refine ⟨p, vs, ey, hp, (flat_is hx hc.1).1, a1, ?_⟩
    rw [a2 dx x Hb hx hc.1]
    exact q _ Hb H (Gro.refl s) (Is.blI (K := K) (H := Hb))
  unfold inD at e
  cases dy with
  | lst ys =>
    simp only at e
    by_cases hc : (dx.flat && ys.all D.flat) = true
    · rw [if_pos hc] at e
      obtain ⟨p, vs, ey, h1, i1⟩ := ry.lst s
      exact key ys hc e p vs i1 ey (.inl h1)
    · rw [if_neg hc] at e; cases e
  | tup ys =>
    simp only at e
    by_cases hc : (dx.flat && ys.all D.flat) = true
    · rw [if_pos hc] at e
      obtain ⟨p, vs, ey, h1, i1⟩ := ry.tup s
      exact key ys hc e p vs i1 ey (.inr h1)
    · rw [if_neg hc] at e; cases e
  | _ => cases e
theorem dm_in {a b : Expr} {ma mb : M Rs} {pos : Pos} (ha : PE X a (tM X.K W ma)) (hb : PE X b (tM X.K W mb)) (hm : behindInMarks .In b = false := by rfl) : PE X (.Compare a [.In] [b] pos) (tM X.K W (mBin (inD false) ma mb)) := dm_cmp op_in_seq od_in ha hb hm
theorem dm_notIn {a b : Expr} {ma mb : M Rs} {pos : Pos} (ha : PE X a (tM X.K W ma)) (hb : PE X b (tM X.K W mb)) (hm : behindInMarks .NotIn b = false := by rfl) : PE X (.Compare a [.NotIn] [b] pos) (tM X.K W (mBin (inD true) ma mb)) := dm_cmp op_notIn_seq od_in ha hb hm
theorem dt_in {a b : Expr} {ma mb : M Rs} {pos : Pos} (ha : PE X a (tM X.K W ma)) (hb : PE X b (tM X.K W mb)) (hm : behindInMarks .In b = false := by rfl) : PT X (.Compare a [.In] [b] pos) (tT X.K W (mTv (mBin (inD false) ma mb))) := dt_cmp op_in_seq od_in ha hb hm
theorem dt_notIn {a b : Expr} {ma mb : M Rs} {pos : Pos} (ha : PE X a (tM X.K W ma)) (hb : PE X b (tM X.K W mb)) (hm : behindInMarks .NotIn b = false := by rfl) : PT X (.Compare a [.NotIn] [b] pos) (tT X.K W (mTv (mBin (inD true) ma mb))) := dt_cmp op_notIn_seq od_in ha hb hm

/-! ### is None -/
def D.isNon : D → Bool
  | .non => true
  | _ => false
theorem isNon_ok {Hb : Hp} {d : D} {v : V} (h : RdR K Hb H d v) : decide (v = V.non) = d.isNon := by
  rcases h with h | ⟨_, _, _, rfl, rfl, _⟩
  · cases d <;> simp only [Is] at h
    case non => subst h; rfl
    case tup => obtain ⟨a, _, rfl, _⟩ := h; rfl
    case lst => obtain ⟨a, _, rfl, _⟩ := h; rfl
    case exc => obtain ⟨a, _, _, rfl, _⟩ := h; rfl
    case cls => obtain ⟨a, _, rfl⟩ := h; rfl
    all_goals (subst h; rfl)
  · rfl
def isN (neg : Bool) (d : D) : Option Rs := some (.va (.bl (if neg then !d.isNon else d.isNon)))
theorem dm_isN {a : Expr} {ma : M Rs} {j : Nat} {pos pos' : Pos} (ha : PE X a (tM K W ma)) : PE X (.Compare a [.Is] [.Constant .none j pos'] pos) (tM K W (mUn (isN false) ma)) :=
  PE.imp (pe_cmp (pc_isN ha)) fun σ H Q h => tM_un (r := fun x H Q => Q (.bl (decide (x = .non))) H) (fun Hb H x dx res Q s rx e q => by
    cases e
    rw [isNon_ok rx]
    exact q _ Hb H (Gro.refl s) (Is.blI (K := K) (H := Hb))) h
theorem dm_notN {a : Expr} {ma : M Rs} {j : Nat} {pos pos' : Pos} (ha : PE X a (tM K W ma)) : PE X (.Compare a [.IsNot] [.Constant .none j pos'] pos) (tM K W (mUn (isN true) ma)) :=
  PE.imp (pe_cmp (pc_notN ha)) fun σ H Q h => tM_un (r := fun x H Q => Q (.bl (!decide (x = .non))) H) (fun Hb H x dx res Q s rx e q => by
    cases e
    rw [isNon_ok rx]
    exact q _ Hb H (Gro.refl s) (Is.blI (K := K) (H := Hb))) h
theorem dt_isN {a : Expr} {ma : M Rs} {j : Nat} {pos pos' : Pos} (ha : PE X a (tM K W ma)) : PT X (.Compare a [.Is] [.Constant .none j pos'] pos) (tT K W (mTv (mUn (isN false) ma))) :=
  PT.imp (pt_cmp (pc_isN ha)) fun σ H Q h => by
    obtain ⟨Hb, ρ, S, P⟩ := tT_val h
    exact tM_un (r := fun x H Q => Q (.bl (decide (x = .non))) H) (fun Hb H x dx res Q s rx e q => by
      cases e
      rw [isNon_ok rx]
      exact q _ Hb H (Gro.refl s) (Is.blI (K := K) (H := Hb))) ⟨Hb, ρ, S, P⟩
theorem dt_notN {a : Expr} {ma : M Rs} {j : Nat} {pos pos' : Pos} (ha : PE X a (tM K W ma)) : PT X (.Compare a [.IsNot] [.Constant .none j pos'] pos) (tT K W (mTv (mUn (isN true) ma))) :=
  PT.imp (pt_cmp (pc_notN ha)) fun σ H Q h => by
    obtain ⟨Hb, ρ, S, P⟩ := tT_val h
    exact tM_un (r := fun x H Q => Q (.bl (!decide (x = .non))) H) (fun Hb H x dx res Q s rx e q => by
      cases e
      rw [isNon_ok rx]
      exact q _ Hb H (Gro.refl s) (Is.blI (K := K) (H := Hb))) ⟨Hb, ρ, S, P⟩

/-! ### a op1 b op2 c -/
def mChain (f g : D → D → Option Rs) (a b c : M Rs) : M Rs := fun ρ => bnd (a ρ) fun x ρ1 => bnd (b ρ1) fun y ρ2 => match rd ρ2 x, rd ρ2 y with
  | some dx, some dy => (match f dx dy with
    | some (.va (.bl true)) => bnd (c ρ2) fun z ρ3 => (match rd ρ3 y, rd ρ3 z with
      | some dy', some dz => (match g dy' dz with
        | some (.va (.bl b)) => .ok (.va (.bl b)) ρ3
        | _ => .stuck)
      | _, _ => .stuck)
    | some (.va (.bl false)) => .ok (.va (.bl false)) ρ2
    | _ => .stuck)
  | _, _ => .stuck
/-- tests alone: an operator that gives a truth and leaves the heap -/
def OpB (K : PySem.W.Frag) (r : R2) (f : D → D → Option Rs) : Prop := ∀ (Hb H : Hp) (x y : V) (dx dy : D) (b : Bool) (Q : VK), Same Hb H → RdR K Hb H dx x → RdR K Hb H dy y → f dx dy = some (.va (.bl b)) → Q (.bl b) H → r x y H Q
theorem ob_int {g : Int → Int → Bool} : OpB K (rI0 fun i j => .bl (g i j)) (iop fun i j => some (.bl (g i j))) := by
  intro Hb H x y dx dy b Q s rx ry e q
  unfold iop at e
  cases dx with
  | int i =>
    cases dy with
    | int j => simp only at e; cases e; exact ⟨i, j, rx.int, ry.int, q⟩
    | _ => cases e
  | _ => cases e
theorem tM_chain {r r' : R2} {f g : D → D → Option Rs} {a b c : M Rs} {Q : VK} (hr : OpB K r f) (hr' : OpB K r' g) (h : tM K W (mChain f g a b c) σ H Q) : tChain r r' (tM K W a) (tM K W b) (tM K W c) σ H Q := by
  obtain ⟨Hb, ρ, S, P⟩ := h
  refine ⟨Hb, ρ, S, ?_⟩
  unfold mChain at P
  cases ea : a ρ with
  | stuck => rw [ea] at P; exact P
  | er e ρ1 => rw [ea] at P; exact P
  | ok x ρ1 =>
    rw [ea] at P
    intro v H1 Hb1 s1 r1
    refine ⟨Hb1, ρ1, s1.st, ?_⟩
    simp only [bnd] at P
    cases eb : b ρ1 with
    | stuck => rw [eb] at P; exact P
    | er e ρ2 =>
      rw [eb] at P
      intro d H2 Hb2 s2 ex
      exact P d H2 Hb2 (s1.trans s2) ex
    | ok y ρ2 =>
      rw [eb] at P
      intro w H2 Hb2 s2 r2
      simp only at P
      have r1' : RsR K H Hb2 σ H2 x v := r1.step (own_there' S s1) s2
      have s12 := s1.trans s2
      cases ex : rd ρ2 x with
      | none => simp only [ex] at P; exact P.elim
      | some dx =>
        cases ey : rd ρ2 y with
        | none => simp only [ex, ey] at P; exact P.elim
        | some dy =>
          simp only [ex, ey] at P
          have go : ∀ k, f dx dy = some (.va (.bl k)) → (if k = true then tM K W c σ H2 fun w' H4 => r' w w' H4 Q else Q (.bl false) H2) → r v w H2 fun z H3 => ∃ k, z = .bl k ∧ (if k = true then tM K W c σ H3 fun w' H4 => r' w w' H4 Q else Q (.bl false) H3) := fun k ek q => hr Hb2 H2 v w dx dy k _ s2.st.sub (rd_ok s2.st r1' ex) (rd_ok s2.st r2 ey) ek ⟨k, rfl, q⟩
          cases ef : f dx dy with
          | none => simp only [ef] at P; exact P.elim
          | some res =>
            cases res with
            | fr xs => simp only [ef] at P; exact P.elim
            | al i => simp only [ef] at P; exact P.elim
            | va d =>
              cases d with
              | bl k =>
                cases k with
                | false =>
                  simp only [ef] at P
                  exact go false ef (iteF (P _ H2 Hb2 s12 (Is.blI (K := K) (H := Hb2))))
                | true =>
                  simp only [ef] at P
                  refine go true ef (iteT ⟨Hb2, ρ2, s2.st, ?_⟩)
                  cases ec : c ρ2 with
                  | stuck => rw [ec] at P; exact P
                  | er e ρ3 =>
                    rw [ec] at P
                    intro d H3 Hb3 s3 ex
                    exact P d H3 Hb3 (s12.trans s3) ex
                  | ok z ρ3 =>
                    rw [ec] at P
                    intro w' H3 Hb3 s3 r3
                    simp only at P
                    have r2' : RsR K H1 Hb3 σ H3 y w := r2.step (own_there' s1.st s2) s3
                    cases ey' : rd ρ3 y with
                    | none => simp only [ey'] at P; exact P.elim
                    | some dy' =>
                      cases ez : rd ρ3 z with
                      | none => simp only [ey', ez] at P; exact P.elim
                      | some dz =>
                        simp only [ey', ez] at P
                        cases eg : g dy' dz with
                        | none => simp only [eg] at P; exact P.elim
                        | some res =>
                          cases res with
                          | fr xs => simp only [eg] at P; exact P.elim
                          | al i => simp only [eg] at P; exact P.elim
                          | va d =>
                            cases d with
                            | bl k =>
                              simp only [eg] at P
                              exact hr' Hb3 H3 w w' dy' dz k Q s3.st.sub (rd_ok s3.st r2' ey') (rd_ok s3.st r3 ez) eg (P _ H3 Hb3 (s12.trans s3) (Is.blI (K := K) (H := Hb3)))
                            | _ => simp only [eg] at P; exact P.elim
              | _ => simp only [ef] at P; exact P.elim
theorem dm_chain {op op' : CmpOp} {r r' : R2} {f g : D → D → Option Rs} {a b c : Expr} {ma mb mc : M Rs} {pos : Pos} (ho : OpR X (compareOp op) r) (ho' : OpR X (compareOp op') r') (hr : OpB K r f) (hr' : OpB K r' g) (ha : PE X a (tM K W ma)) (hb : PE X b (tM K W mb)) (hc : PE X c (tM K W mc))
    (hm : lastMarks [op, op'] [b, c] = false := by with_unfolding_all rfl) : PE X (.Compare a [op, op'] [b, c] pos) (tM K W (mChain f g ma mb mc)) := PE.imp (pe_chain ho ho' ha hb hc hm) fun _ _ _ => tM_chain hr hr'
theorem dt_chain {op op' : CmpOp} {r r' : R2} {f g : D → D → Option Rs} {a b c : Expr} {ma mb mc : M Rs} {pos : Pos} (ho : OpR X (compareOp op) r) (ho' : OpR X (compareOp op') r') (hr : OpB K r f) (hr' : OpB K r' g) (ha : PE X a (tM K W ma)) (hb : PE X b (tM K W mb)) (hc : PE X c (tM K W mc))
    (hm : lastMarks [op, op'] [b, c] = false := by with_unfolding_all rfl) : PT X (.Compare a [op, op'] [b, c] pos) (tT K W (mTv (mChain f g ma mb mc))) := by
  refine PT.imp (pt_chain ho ho' ha hb hc hm) fun σ H Q h => ?_
  obtain ⟨Hb, ρ, S, P⟩ := tT_val h
  exact tM_chain hr hr' ⟨Hb, ρ, S, P⟩

/-! ### a[i], a[lo:hi] -/
def ixD (x y : D) : Option Rs := match x, y with
  | .lst xs, .int i => (atI xs i).map .va
  | .tup xs, .int i => (atI xs i).map .va
  | _, _ => none
theorem atI_is {Hb : Hp} {xs : List D} {vs : List V} {i : Int} {d : D} (h : IsA K Hb xs vs) (e : atI xs i = some d) : ∃ v, atI vs i = some v ∧ Is K Hb d v := by
  unfold atI at e ⊢
  rw [h.length]
  cases q : ixN xs.length i with
  | none => rw [q] at e; cases e
  | some j =>
    rw [q] at e
    exact h.get e
theorem od_ix : OpD K (rIx K) ixD := by
  intro Hb H x y dx dy res Q s rx ry e q
  unfold ixD at e
  cases dx with
  | lst xs =>
    cases dy with
    | int i =>
      simp only at e
      cases ea : atI xs i with
      | none => rw [ea] at e; cases e
      | some d =>
        rw [ea] at e; cases e
        obtain ⟨p, vs, rfl, h1, i1⟩ := rx.lst s
        obtain ⟨v, ev, iv⟩ := atI_is i1 ea
        exact .inl ⟨p, vs, i, v, rfl, ry.int, h1, ev, q _ Hb H (Gro.refl s) iv⟩
    | _ => cases e
  | tup xs =>
    cases dy with
    | int i =>
      simp only at e
      cases ea : atI xs i with
      | none => rw [ea] at e; cases e
      | some d =>
        rw [ea] at e; cases e
        obtain ⟨p, vs, rfl, h1, i1⟩ := rx.tup s
        obtain ⟨v, ev, iv⟩ := atI_is i1 ea
        exact .inr (.inl ⟨p, vs, i, v, rfl, ry.int, h1, ev, q _ Hb H (Gro.refl s) iv⟩)
    | _ => cases e
  | _ => cases e
theorem dm_ix {a b : Expr} {ma mb : M Rs} {pos : Pos} (ha : PE X a (tM X.K W ma)) (hb : PE X b (tM X.K W mb)) (hs : PlainIx b := by exact fun _ _ => rfl) : PE X (.Subscript a b pos) (tM X.K W (mBin ixD ma mb)) := PE.imp (pe_ix ix_seq ha hb hs) fun _ _ _ => tM_bin od_ix
def tO (K : PySem.W.Frag) (W : WX) (m : M (Option Int)) : TO := fun σ H Q => ∃ Hb ρ, StR K Hb σ ρ H ∧ (match m ρ with
  | .ok o ρ' => ∀ H' Hb', Ste K σ Hb ρ H Hb' ρ' H' → Q o H'
  | .er e ρ' => ∀ (d : Value × Option Addr) H' Hb', Ste K σ Hb ρ H Hb' ρ' H' → ExR K Hb' H' e d → W d.1 d.2 σ H'
  | .stuck => False)
def mPN : M (Option Int) := fun ρ => .ok none ρ
def mPS (a : M Rs) : M (Option Int) := fun ρ => bnd (a ρ) fun x ρ1 => match rd ρ1 x with
  | some (.int i) => .ok (some i) ρ1
  | _ => .stuck
theorem PO.imp {e : Option Expr} {t t' : TO} (h : PO X e t) (i : ∀ σ H Q, t' σ H Q → t σ H Q) : PO X e t' := ⟨fun pins s σ H Q I q => h.run pins s σ H Q I (i σ H Q q)⟩
theorem do_none : PO X none (tO K W mPN) := PO.imp po_none fun σ H Q h => by
  obtain ⟨Hb, ρ, S, P⟩ := h
  exact P H Hb (Ste.refl S)
theorem do_some {a : Expr} {ma : M Rs} (ha : PE X a (tM K W ma)) : PO X (some a) (tO K W (mPS ma)) := PO.imp (po_some ha) fun σ H Q h => by
  obtain ⟨Hb, ρ, S, P⟩ := h
  refine ⟨Hb, ρ, S, ?_⟩
  unfold mPS at P
  cases ea : ma ρ with
  | stuck => rw [ea] at P; exact P
  | er e ρ1 => rw [ea] at P; exact P
  | ok x ρ1 =>
    rw [ea] at P
    intro v H1 Hb1 s1 r1
    simp only [bnd] at P
    cases ex : rd ρ1 x with
    | none => simp only [ex] at P
    | some dx =>
      have q := rd_ok s1.st r1 ex
      cases dx with
      | int i =>
        simp only [ex] at P
        exact ⟨i, q.int, P H1 Hb1 s1⟩
      | _ => simp only [ex] at P
def cutD (xs : List D) (lo hi : Option Int) : List D := (xs.drop (HT.sIx xs.length 0 lo)).take (HT.sIx xs.length xs.length hi - HT.sIx xs.length 0 lo)
def slD (x : D) (lo hi : Option Int) : Option Rs := match x with
  | .lst xs => some (.fr (cutD xs lo hi))
  | .tup xs => some (.va (.tup (cutD xs lo hi)))
  | _ => none
def mSl (a : M Rs) (lo hi : M (Option Int)) : M Rs := fun ρ => bnd (a ρ) fun x ρ1 => bnd (lo ρ1) fun l ρ2 => bnd (hi ρ2) fun h ρ3 => match rd ρ3 x with
  | some d => (match slD d l h with
    | some r => .ok r ρ3
    | none => .stuck)
  | none => .stuck
theorem cut_is {Hb : Hp} {xs : List D} {vs : List V} {lo hi : Option Int} (h : IsA K Hb xs vs) : IsA K Hb (cutD xs lo hi) (cutV vs lo hi) := by
  unfold cutD cutV
  rw [h.length]
  exact IsA.take _ (IsA.drop _ h)
theorem cut_whole {xs : List D} {lo hi : Option Int} (h : HT.sIx xs.length 0 lo = 0 ∧ HT.sIx xs.length xs.length hi = xs.length) : cutD xs lo hi = xs := by
  unfold cutD
  rw [h.1, h.2]
  simp
theorem dm_sl {a : Expr} {lo hi : Option Expr} {ma : M Rs} {ml mh : M (Option Int)} {pos p2 : Pos} (ha : PE X a (tM X.K W ma)) (hl : PO X lo (tO X.K W ml)) (hh : PO X hi (tO X.K W mh)) : PE X (.Subscript a (.Slice lo hi none p2) pos) (tM X.K W (mSl ma ml mh)) := by
  refine PE.imp (pe_slice (sl_list.or sl_tupA) ha hl hh) fun σ H Q h => ?_
  obtain ⟨Hb, ρ, S, P⟩ := h
  refine ⟨Hb, ρ, S, ?_⟩
  unfold mSl at P
  cases ea : ma ρ with
  | stuck => rw [ea] at P; exact P
  | er e ρ1 => rw [ea] at P; exact P
  | ok x ρ1 =>
    rw [ea] at P
    intro v H1 Hb1 s1 r1
    refine ⟨Hb1, ρ1, s1.st, ?_⟩
    simp only [bnd] at P
    cases el : ml ρ1 with
    | stuck => rw [el] at P; exact P
    | er e ρ2 =>
      rw [el] at P
      intro d H2 Hb2 s2 ex
      exact P d H2 Hb2 (s1.trans s2) ex
    | ok l ρ2 =>
      rw [el] at P
      intro H2 Hb2 s2
      refine ⟨Hb2, ρ2, s2.st, ?_⟩
      have s12 := s1.trans s2
      simp only at P
      cases eh : mh ρ2 with
      | stuck => rw [eh] at P; exact P
      | er e ρ3 =>
        rw [eh] at P
        intro d H3 Hb3 s3 ex
        exact P d H3 Hb3 (s12.trans s3) ex
      | ok u ρ3 =>
        rw [eh] at P
        intro H3 Hb3 s3
        have s13 := s12.trans s3
        have r3 := (r1.step (own_there' S s1) s2).step (own_there' S s12) s3
        simp only at P
        cases ex : rd ρ3 x with
        | none => simp only [ex] at P; exact P.elim
        | some dx =>
          simp only [ex] at P
          have q := rd_ok s3.st r3 ex
          cases dx with
          | lst xs =>
            simp only [slD] at P
            obtain ⟨p, vs, rfl, h1, i1⟩ := q.lst s3.st.sub
            refine .inl ⟨p, vs, rfl, h1, fun t ht => ?_⟩
            have g : Gro Hb3 H3 Hb3 (upd H3 t (.lst (cutV vs l u))) := Gro.newL s3.st.sub ht
            exact P (.ref t) _ _ (s13.trans (g.ste s3.st)) ⟨t, _, rfl, s13.th t ht, Same.none s3.st.sub ht, upd_same, cut_is i1⟩
          | tup xs =>
            simp only [slD] at P
            have q' : Is X.K Hb3 (.tup xs) v := by
              rcases q with q | ⟨_, _, _, e, _⟩
              · exact q
              · cases e
            obtain ⟨p, vs, rfl, h1, i1⟩ := q.tup s3.st.sub
            refine .inr ⟨p, vs, rfl, h1, fun hw => ?_, fun _ t ht => ?_⟩
            · rw [i1.length] at hw
              refine P (.ref p) _ _ s13 ?_
              show Is X.K Hb3 (.tup (cutD xs l u)) _
              rw [cut_whole hw]
              exact q'
            · have g : Gro Hb3 H3 (upd Hb3 t (.tup (cutV vs l u))) (upd H3 t (.tup (cutV vs l u))) := Gro.newT s3.st.sub ht
              exact P (.ref t) _ _ (s13.trans (g.ste s3.st)) (Is.tupI (K := X.K) (H := upd Hb3 t (.tup (cutV vs l u))) (.inl (.inl upd_same)) (IsA.mono g.gr _ _ (cut_is i1)))
          | _ => simp only [slD] at P; exact P.elim
end
end DL

namespace DL
open PySem L2
section
variable {K : PySem.W.Frag} {W : WX} {X : Cx} {σ : L2.St} {H : Hp}
/-! ### built-ins called by name -/
theorem dm_callB {id : String} {r : List V → Hp → VK → Prop} {f : List D → Option Rs} {x : Str} {p pos : Pos} {e : Expr} {es : List Expr} {as : M (List Rs)} (hc : CallR X (.builtin id) r) (hr : CallD K r f) (hg : Gl X x) (hm : X.mg x = none) (hv : bootBuiltins x = some (.builtin id)) (ha : PA X (e :: es) (tA K W as))
    (hn : x ≠ "__name__" := by decide) (hdb : (x == ("__debug__" : Str)) = false := by decide) (he : starEach (e :: es) X.env = (false, eval e X.env) :: starEach es X.env := by rfl) (hpl : (backTo pos (starEach es X.env)).any (·.1) = false := by rfl) :
    PE X (.Call (.Name x p) (e :: es) [] pos) (tM K W (mBi f as)) := PE.imp (pe_callB hc hg hm hv ha hn hdb he hpl) fun _ _ _ => tM_bi hr
theorem dm_callTy {T : String} {r : List V → Hp → VK → Prop} {f : List D → Option Rs} {x : Str} {p pos : Pos} {e : Expr} {es : List Expr} {as : M (List Rs)} (hc : CallR X (.type T) r) (hr : CallD K r f) (hg : Gl X x) (hm : X.mg x = none) (hv : bootBuiltins x = some (.type T)) (ha : PA X (e :: es) (tA K W as))
    (hn : x ≠ "__name__" := by decide) (hdb : (x == ("__debug__" : Str)) = false := by decide) (he : starEach (e :: es) X.env = (false, eval e X.env) :: starEach es X.env := by rfl) (hpl : (backTo pos (starEach es X.env)).any (·.1) = false := by rfl) :
    PE X (.Call (.Name x p) (e :: es) [] pos) (tM K W (mBi f as)) := PE.imp (pe_callTy hc hg hm hv ha hn hdb he hpl) fun _ _ _ => tM_bi hr
theorem dm_tyName {n : String} {x : Str} {pos : Pos} (hg : Gl X x) (hm : X.mg x = none) (hv : bootBuiltins x = some (.type n)) (hn : x ≠ "__name__" := by decide) (hd : (x == ("__debug__" : Str)) = false := by decide) : PE X (.Name x pos) (tM K W (mC (.ty n))) :=
  PE.imp (pe_bltn (v := .ty n) hg hm hv rfl hn hd) fun _ _ _ => tM_C fun _ => by simp only [Is]
theorem dm_glob {x : Str} {d : D} {v : V} {u : Value} {pos : Pos} (hv : ∀ Hb, Is K Hb d v) (hg : Gl X x) (hm : X.mg x = some u) (r : RelV v u) (hd : (x == ("__debug__" : Str)) = false := by decide) : PE X (.Name x pos) (tM K W (mC d)) :=
  PE.imp (pe_glob hg hm r hd) fun _ _ _ => tM_C hv
def lenD : List D → Option Rs
  | [.lst xs] => some (.va (.int xs.length))
  | [.tup xs] => some (.va (.int xs.length))
  | [.str x] => if x.length ≤ 100000 then some (.va (.int x.length)) else none
  | _ => none
theorem pair1 {α β : Type} {F : α → β → Prop} {a : α} {l : List β} (h : Paired F [a] l) : ∃ b, l = [b] ∧ F a b := by
  cases h with
  | cons h t => cases t; exact ⟨_, rfl, h⟩
theorem pair2 {α β : Type} {F : α → β → Prop} {a c : α} {l : List β} (h : Paired F [a, c] l) : ∃ b d, l = [b, d] ∧ F a b ∧ F c d := by
  cases h with
  | cons h t =>
    obtain ⟨d, rfl, h2⟩ := pair1 t
    exact ⟨_, _, rfl, h, h2⟩
theorem cd_len : CallD K (fun xs H Q => (∃ p ys, xs = [.ref p] ∧ (SqL K H p ys ∨ SqT K H p ys) ∧ Q (.int ys.length) H) ∨ ∃ z, xs = [.str z] ∧ z.length ≤ sizeLine ∧ Q (.int z.length) H) lenD := by
  intro Hb H xs ds res Q s r e q
  unfold lenD at e
  split at e
  · rename_i ys
    cases e
    obtain ⟨v, rfl, h⟩ := pair1 r
    obtain ⟨p, vs, rfl, h1, i1⟩ := h.lst s
    refine .inl ⟨p, vs, rfl, .inl h1, ?_⟩
    rw [i1.length]
    exact q _ Hb H (Gro.refl s) (Is.intI (K := K) (H := Hb))
  · rename_i ys
    cases e
    obtain ⟨v, rfl, h⟩ := pair1 r
    obtain ⟨p, vs, rfl, h1, i1⟩ := h.tup s
    refine .inl ⟨p, vs, rfl, .inr h1, ?_⟩
    rw [i1.length]
    exact q _ Hb H (Gro.refl s) (Is.intI (K := K) (H := Hb))
  · rename_i x
    by_cases hz : x.length ≤ 100000
    · rw [if_pos hz] at e; cases e
      obtain ⟨v, rfl, h⟩ := pair1 r
      rw [h.str]
      exact .inr ⟨x, rfl, size_ok hz, q _ Hb H (Gro.refl s) (Is.intI (K := K) (H := Hb))⟩
    · rw [if_neg hz] at e; cases e
  · cases e
def absD : List D → Option Rs
  | [.int i] => some (.va (.int (if i < 0 then -i else i)))
  | _ => none
theorem cd_abs : CallD K (fun xs H Q => ∃ i, xs = [.int i] ∧ Q (.int (if i < 0 then -i else i)) H) absD := by
  intro Hb H xs ds res Q s r e q
  unfold absD at e
  split at e
  · cases e
    obtain ⟨v, rfl, h⟩ := pair1 r
    rw [h.int]
    exact ⟨_, rfl, q _ Hb H (Gro.refl s) (Is.intI (K := K) (H := Hb))⟩
  · cases e
def intD : List D → Option Rs
  | [.int i] => some (.va (.int i))
  | [.bl b] => some (.va (.int (if b then 1 else 0)))
  | _ => none
theorem cd_int : CallD K (fun xs H Q => (∃ i, xs = [.int i] ∧ Q (.int i) H) ∨ ∃ k, xs = [.bl k] ∧ Q (.int (if k then 1 else 0)) H) intD := by
  intro Hb H xs ds res Q s r e q
  unfold intD at e
  split at e
  · cases e
    obtain ⟨v, rfl, h⟩ := pair1 r
    rw [h.int]
    exact .inl ⟨_, rfl, q _ Hb H (Gro.refl s) (Is.intI (K := K) (H := Hb))⟩
  · cases e
    obtain ⟨v, rfl, h⟩ := pair1 r
    rw [h.bl]
    exact .inr ⟨_, rfl, q _ Hb H (Gro.refl s) (Is.intI (K := K) (H := Hb))⟩
  · cases e
def tupD : List D → Option Rs
  | [.lst xs] => some (.va (.tup xs))
  | [.tup xs] => some (.va (.tup xs))
  | _ => none
theorem cd_tup : CallD K (fun xs H Q => ∃ p ys, xs = [.ref p] ∧ ((SqL K H p ys ∧ ∀ l, H l = none → Q (.ref l) (upd H l (.tup ys))) ∨ (SqT K H p ys ∧ Q (.ref p) H))) tupD := by
  intro Hb H xs ds res Q s r e q
  unfold tupD at e
  split at e
  · rename_i ys
    cases e
    obtain ⟨v, rfl, h⟩ := pair1 r
    obtain ⟨p, vs, rfl, h1, i1⟩ := h.lst s
    refine ⟨p, vs, rfl, .inl ⟨h1, fun t ht => ?_⟩⟩
    have g : Gro Hb H (upd Hb t (.tup vs)) (upd H t (.tup vs)) := Gro.newT s ht
    exact q _ _ _ g (Is.tupI (K := K) (H := upd Hb t (.tup vs)) (.inl (.inl upd_same)) (IsA.mono g.gr _ _ i1))
  · rename_i ys
    cases e
    obtain ⟨v, rfl, h⟩ := pair1 r
    have h' : Is K Hb (.tup ys) v := by
      rcases h with h | ⟨_, _, _, e, _⟩
      · exact h
      · cases e
    obtain ⟨p, vs, rfl, h1, i1⟩ := h.tup s
    exact ⟨p, vs, rfl, .inr ⟨h1, q _ Hb H (Gro.refl s) h'⟩⟩
  · cases e
def listD : List D → Option Rs
  | [.lst xs] => some (.fr xs)
  | [.tup xs] => some (.fr xs)
  | _ => none
theorem cd_list : CallD K (fun xs H Q => ∃ p ys, xs = [.ref p] ∧ (SqL K H p ys ∨ SqT K H p ys) ∧ ∀ l, H l = none → Q (.ref l) (upd H l (.lst ys))) listD := by
  intro Hb H xs ds res Q s r e q
  unfold listD at e
  split at e
  · rename_i ys
    cases e
    obtain ⟨v, rfl, h⟩ := pair1 r
    obtain ⟨p, vs, rfl, h1, i1⟩ := h.lst s
    exact ⟨p, vs, rfl, .inl h1, fun t ht => q _ _ _ (Gro.newL s ht) ⟨t, vs, rfl, ht, Same.none s ht, upd_same, i1⟩⟩
  · rename_i ys
    cases e
    obtain ⟨v, rfl, h⟩ := pair1 r
    obtain ⟨p, vs, rfl, h1, i1⟩ := h.tup s
    exact ⟨p, vs, rfl, .inr h1, fun t ht => q _ _ _ (Gro.newL s ht) ⟨t, vs, rfl, ht, Same.none s ht, upd_same, i1⟩⟩
  · cases e
def max2D : List D → Option Rs
  | [.int i, .int j] => some (.va (.int (if j > i then j else i)))
  | _ => none
theorem cd_max2 : CallD K (fun xs H Q => ∃ i j, xs = [.int i, .int j] ∧ Q (.int (if j > i then j else i)) H) max2D := by
  intro Hb H xs ds res Q s r e q
  unfold max2D at e
  split at e
  · cases e
    obtain ⟨v, w, rfl, h, h2⟩ := pair2 r
    rw [h.int, h2.int]
    exact ⟨_, _, rfl, q _ Hb H (Gro.refl s) (Is.intI (K := K) (H := Hb))⟩
  · cases e
def min2D : List D → Option Rs
  | [.int i, .int j] => some (.va (.int (if j < i then j else i)))
  | _ => none
theorem cd_min2 : CallD K (fun xs H Q => ∃ i j, xs = [.int i, .int j] ∧ Q (.int (if j < i then j else i)) H) min2D := by
  intro Hb H xs ds res Q s r e q
  unfold min2D at e
  split at e
  · cases e
    obtain ⟨v, w, rfl, h, h2⟩ := pair2 r
    rw [h.int, h2.int]
    exact ⟨_, _, rfl, q _ Hb H (Gro.refl s) (Is.intI (K := K) (H := Hb))⟩
  · cases e
def strD : List D → Option Rs
  | [.int i] => if i.natAbs.log2 < 1920 then some (.va (.str (toString i))) else none
  | _ => none
theorem cd_str : CallD K (fun xs H Q => ∃ i, xs = [.int i] ∧ i.natAbs.log2 < 1920 ∧ Q (.str (toString i)) H) strD := by
  intro Hb H xs ds res Q s r e q
  unfold strD at e
  split at e
  · rename_i i
    by_cases hz : i.natAbs.log2 < 1920
    · rw [if_pos hz] at e; cases e
      obtain ⟨v, rfl, h⟩ := pair1 r
      rw [h.int]
      exact ⟨_, rfl, hz, q _ Hb H (Gro.refl s) (Is.strI (K := K) (H := Hb))⟩
    · rw [if_neg hz] at e; cases e
  · cases e
/-- all items ints; all items truths -/
def intsOf : List D → Option (List Int)
  | [] => some []
  | .int i :: xs => (match intsOf xs with
    | some r => some (i :: r)
    | none => none)
  | _ => none
def blsOf : List D → Option (List Bool)
  | [] => some []
  | .bl i :: xs => (match blsOf xs with
    | some r => some (i :: r)
    | none => none)
  | _ => none
theorem intsOf_is {Hb : Hp} : ∀ {xs : List D} {vs : List V} {ns : List Int}, IsA K Hb xs vs → intsOf xs = some ns → vs = ns.map V.int
  | [], vs, ns, h, e => by simp only [IsA] at h; subst h; cases e; rfl
  | .int i :: xs, vs, ns, h, e => by
    simp only [IsA] at h
    obtain ⟨v, r, rfl, h1, h2⟩ := h
    simp only [Is] at h1
    subst h1
    unfold intsOf at e
    cases q : intsOf xs with
    | none => simp only [q] at e; cases e
    | some r' => simp only [q] at e; cases e; rw [intsOf_is h2 q]; rfl
  | .non :: xs, vs, ns, h, e => by cases e
  | .bl _ :: xs, vs, ns, h, e => by cases e
  | .str _ :: xs, vs, ns, h, e => by cases e
  | .tup _ :: xs, vs, ns, h, e => by cases e
  | .lst _ :: xs, vs, ns, h, e => by cases e
  | .exc _ _ :: xs, vs, ns, h, e => by cases e
  | .ty _ :: xs, vs, ns, h, e => by cases e
  | .cls _ :: xs, vs, ns, h, e => by cases e
theorem blsOf_is {Hb : Hp} : ∀ {xs : List D} {vs : List V} {ns : List Bool}, IsA K Hb xs vs → blsOf xs = some ns → vs = ns.map V.bl
  | [], vs, ns, h, e => by simp only [IsA] at h; subst h; cases e; rfl
  | .bl i :: xs, vs, ns, h, e => by
    simp only [IsA] at h
    obtain ⟨v, r, rfl, h1, h2⟩ := h
    simp only [Is] at h1
    subst h1
    unfold blsOf at e
    cases q : blsOf xs with
    | none => simp only [q] at e; cases e
    | some r' => simp only [q] at e; cases e; rw [blsOf_is h2 q]; rfl
  | .non :: xs, vs, ns, h, e => by cases e
  | .int _ :: xs, vs, ns, h, e => by cases e
  | .str _ :: xs, vs, ns, h, e => by cases e
  | .tup _ :: xs, vs, ns, h, e => by cases e
  | .lst _ :: xs, vs, ns, h, e => by cases e
  | .exc _ _ :: xs, vs, ns, h, e => by cases e
  | .ty _ :: xs, vs, ns, h, e => by cases e
  | .cls _ :: xs, vs, ns, h, e => by cases e
def sumD : List D → Option Rs
  | [.lst xs] => (match intsOf xs with
    | some ns => some (.va (.int ns.sum))
    | none => none)
  | _ => none
theorem cd_sum : CallD K (rSum K) sumD := by
  intro Hb H xs ds res Q s r e q
  unfold sumD at e
  split at e
  · rename_i ys
    cases ei : intsOf ys with
    | none => rw [ei] at e; cases e
    | some ns =>
      rw [ei] at e; cases e
      obtain ⟨v, rfl, h⟩ := pair1 r
      obtain ⟨p, vs, rfl, h1, i1⟩ := h.lst s
      rw [intsOf_is i1 ei] at h1
      exact ⟨p, ns, rfl, h1, q _ Hb H (Gro.refl s) (Is.intI (K := K) (H := Hb))⟩
  · cases e
def allD : List D → Option Rs
  | [.lst xs] => (match blsOf xs with
    | some ns => some (.va (.bl (ns.all id)))
    | none => none)
  | _ => none
def anyD : List D → Option Rs
  | [.lst xs] => (match blsOf xs with
    | some ns => some (.va (.bl (ns.any id)))
    | none => none)
  | _ => none
theorem cd_all : CallD K (rAll K) allD := by
  intro Hb H xs ds res Q s r e q
  unfold allD at e
  split at e
  · rename_i ys
    cases ei : blsOf ys with
    | none => rw [ei] at e; cases e
    | some ns =>
      rw [ei] at e; cases e
      obtain ⟨v, rfl, h⟩ := pair1 r
      obtain ⟨p, vs, rfl, h1, i1⟩ := h.lst s
      rw [blsOf_is i1 ei] at h1
      exact ⟨p, ns, rfl, h1, q _ Hb H (Gro.refl s) (Is.blI (K := K) (H := Hb))⟩
  · cases e
theorem cd_any : CallD K (rAny K) anyD := by
  intro Hb H xs ds res Q s r e q
  unfold anyD at e
  split at e
  · rename_i ys
    cases ei : blsOf ys with
    | none => rw [ei] at e; cases e
    | some ns =>
      rw [ei] at e; cases e
      obtain ⟨v, rfl, h⟩ := pair1 r
      obtain ⟨p, vs, rfl, h1, i1⟩ := h.lst s
      rw [blsOf_is i1 ei] at h1
      exact ⟨p, ns, rfl, h1, q _ Hb H (Gro.refl s) (Is.blI (K := K) (H := Hb))⟩
  · cases e
/-- isinstance(x, T), T one of the usual built-in types -/
def D.tyName : D → Option String
  | .non => some "NoneType" | .bl _ => some "bool" | .int _ => some "int" | .str _ => some "str" | .tup _ => some "tuple" | .lst _ => some "list" | _ => none
def isiD : List D → Option Rs
  | [d, .ty n] => (match d.tyName with
    | some t => (match kitB t n with
      | some b => some (.va (.bl b))
      | none => none)
    | none => none)
  | _ => none
theorem tyX_of {Hb : Hp} {d : D} {v : V} {t : String} (s : Same Hb H) (h : RdR K Hb H d v) (e : d.tyName = some t) : TyX K H v (.type t) := by
  have h' := h.is s
  cases d with
  | non => cases e; simp only [Is] at h'; subst h'; exact .base .non
  | bl b => cases e; simp only [Is] at h'; subst h'; exact .base (.bl b)
  | int b => cases e; simp only [Is] at h'; subst h'; exact .base (.int b)
  | str b => cases e; simp only [Is] at h'; subst h'; exact .base (.str b)
  | tup ds =>
    cases e; simp only [Is] at h'
    obtain ⟨a, xs, rfl, (h1 | ⟨o, h1⟩) | ⟨o, its, n, h1, h2, _⟩, _⟩ := h'
    · exact .base (.tup h1)
    · exact .fTuple h1
    · exact .kTuple h1 h2
  | lst ds =>
    cases e; simp only [Is] at h'
    obtain ⟨a, xs, rfl, (h1 | ⟨o, h1⟩) | ⟨o, its, n, h1, h2, _⟩, _⟩ := h'
    · exact .base (.lst h1)
    · exact .base (.frz h1)
    · exact .kList h1 h2
  | _ => cases e
theorem cd_isi : CallD K (rIsi K) isiD := by
  intro Hb H xs ds res Q s r e q
  unfold isiD at e
  split at e
  · rename_i d n
    cases et : d.tyName with
    | none => simp only [et] at e; cases e
    | some t =>
      simp only [et] at e
      cases eb : kitB t n with
      | none => simp only [eb] at e; cases e
      | some b =>
        simp only [eb] at e; cases e
        obtain ⟨v, w, rfl, h, h2⟩ := pair2 r
        have h2' : w = .ty n := by
          rcases h2 with h2 | ⟨_, _, _, e, _⟩
          · simpa only [Is] using h2
          · cases e
        subst h2'
        exact ⟨v, .ty n, .type t, .type n, b, rfl, .ty n, tyX_of s h et, kit_ty eb, q _ Hb H (Gro.refl s) (Is.blI (K := K) (H := Hb))⟩
  · cases e
theorem kit1 : kitB "bool" "int" = some true ∧ kitB "int" "int" = some true ∧ kitB "str" "int" = some false ∧ kitB "tuple" "int" = some false ∧ kitB "list" "int" = some false ∧ kitB "NoneType" "int" = some false := by decide +kernel
theorem kit2 : kitB "bool" "bool" = some true ∧ kitB "int" "bool" = some false ∧ kitB "str" "bool" = some false ∧ kitB "tuple" "bool" = some false ∧ kitB "list" "bool" = some false ∧ kitB "NoneType" "bool" = some false := by decide +kernel
theorem kit3 : kitB "bool" "tuple" = some false ∧ kitB "int" "tuple" = some false ∧ kitB "str" "tuple" = some false ∧ kitB "tuple" "tuple" = some true ∧ kitB "list" "tuple" = some false ∧ kitB "NoneType" "tuple" = some false := by decide +kernel
theorem kit4 : kitB "bool" "list" = some false ∧ kitB "int" "list" = some false ∧ kitB "str" "list" = some false ∧ kitB "tuple" "list" = some false ∧ kitB "list" "list" = some true ∧ kitB "NoneType" "list" = some false := by decide +kernel
end
end DL

namespace DL
open PySem L2
/-! ### statements -/
inductive Out where
  | nx (ρ : Rho) | rt (r : Rs) (ρ : Rho) | bk (ρ : Rho) | ct (ρ : Rho) | er (e : Exn) (ρ : Rho) | stuck
abbrev N := Rho → Out
def PostS (K : PySem.W.Frag) (W : WX) (Hb : Hp) (σ : L2.St) (ρ : Rho) (H : Hp) (D : Ends) : Out → Prop
  | .nx ρ' => ∀ σ' H' Hb', SteS K Hb σ ρ H Hb' σ' ρ' H' → D.nx σ' H'
  | .bk ρ' => ∀ σ' H' Hb', SteS K Hb σ ρ H Hb' σ' ρ' H' → D.bk σ' H'
  | .ct ρ' => ∀ σ' H' Hb', SteS K Hb σ ρ H Hb' σ' ρ' H' → D.ct σ' H'
  | .rt r ρ' => ∀ v σ' H' Hb', SteS K Hb σ ρ H Hb' σ' ρ' H' → RsR K H Hb' σ' H' r v → D.rt v H'
  | .er e ρ' => ∀ (d : Value × Option Addr) σ' H' Hb', SteS K Hb σ ρ H Hb' σ' ρ' H' → ExR K Hb' H' e d → W d.1 d.2 σ' H'
  | .stuck => False
def tN (K : PySem.W.Frag) (W : WX) (n : N) : TS := fun D σ H => ∃ Hb ρ, StR K Hb σ ρ H ∧ PostS K W Hb σ ρ H D (n ρ)
section
variable {K : PySem.W.Frag} {W : WX} {X : Cx} {σ σ1 : L2.St} {H H1 Hb Hb1 : Hp} {ρ ρ1 : Rho} {D : Ends}
theorem PostS.back {o : Out} (s : SteS K Hb σ ρ H Hb1 σ1 ρ1 H1) (P : PostS K W Hb σ ρ H D o) : PostS K W Hb1 σ1 ρ1 H1 D o := by
  cases o with
  | stuck => exact P
  | nx ρ2 => exact fun σ2 H2 Hb2 s2 => P σ2 H2 Hb2 (s.trans s2)
  | bk ρ2 => exact fun σ2 H2 Hb2 s2 => P σ2 H2 Hb2 (s.trans s2)
  | ct ρ2 => exact fun σ2 H2 Hb2 s2 => P σ2 H2 Hb2 (s.trans s2)
  | rt r ρ2 => exact fun v σ2 H2 Hb2 s2 rr => P v σ2 H2 Hb2 (s.trans s2) (rr.older s.th)
  | er e ρ2 => exact fun d σ2 H2 Hb2 s2 ex => P d σ2 H2 Hb2 (s.trans s2) ex
theorem PostS.wide {o : Out} {D' : Ends} (P : PostS K W Hb σ ρ H D o) (h1 : ∀ σ H, D.nx σ H → D'.nx σ H) (h2 : ∀ v H, D.rt v H → D'.rt v H) (h3 : ∀ σ H, D.bk σ H → D'.bk σ H) (h4 : ∀ σ H, D.ct σ H → D'.ct σ H) : PostS K W Hb σ ρ H D' o := by
  cases o with
  | stuck => exact P
  | nx ρ2 => exact fun σ2 H2 Hb2 s2 => h1 _ _ (P σ2 H2 Hb2 s2)
  | bk ρ2 => exact fun σ2 H2 Hb2 s2 => h3 _ _ (P σ2 H2 Hb2 s2)
  | ct ρ2 => exact fun σ2 H2 Hb2 s2 => h4 _ _ (P σ2 H2 Hb2 s2)
  | rt r ρ2 => exact fun v σ2 H2 Hb2 s2 rr => h2 _ _ (P v σ2 H2 Hb2 s2 rr)
  | er e ρ2 => exact P
/-- one after another -/
def sbnd (o : Out) (f : Rho → Out) : Out := match o with
  | .nx ρ => f ρ
  | .rt r ρ => .rt r ρ
  | .bk ρ => .bk ρ
  | .ct ρ => .ct ρ
  | .er e ρ => .er e ρ
  | .stuck => .stuck
def nSeq (a b : N) : N := fun ρ => sbnd (a ρ) b
def nNext : N := fun ρ => .nx ρ
theorem PostS.bnd {o : Out} {f : N} (P : PostS K W Hb σ ρ H D (sbnd o f)) : PostS K W Hb σ ρ H { D with nx := tN K W f D } o := by
  cases o with
  | stuck => exact P
  | nx ρ2 => exact fun σ2 H2 Hb2 s2 => ⟨Hb2, ρ2, s2.st, PostS.back s2 P⟩
  | bk ρ2 => exact P
  | ct ρ2 => exact P
  | rt r ρ2 => exact P
  | er e ρ2 => exact P
theorem ds_nil : PSs X [] (tN K W nNext) := PSs.imp pss_nil fun D σ H h => by
  obtain ⟨Hb, ρ, S, P⟩ := h
  exact P σ H Hb (SteS.refl S)
theorem ds_cons {st : Stmt} {rest : List Stmt} {a b : N} (h1 : PS X st (tN K W a)) (h2 : PSs X rest (tN K W b)) : PSs X (st :: rest) (tN K W (nSeq a b)) := PSs.imp (pss_cons h1 h2) fun D σ H h => by
  obtain ⟨Hb, ρ, S, P⟩ := h
  exact ⟨Hb, ρ, S, PostS.bnd P⟩
theorem ds_one {st : Stmt} {a : N} (h1 : PS X st (tN K W a)) : PSs X [st] (tN K W a) := pss_one h1
theorem dn_pass {pos : Pos} : PS X (.Pass pos) (tN K W nNext) := PS.imp ps_pass fun D σ H h => by
  obtain ⟨Hb, ρ, S, P⟩ := h
  exact P σ H Hb (SteS.refl S)
def nBk : N := fun ρ => .bk ρ
def nCt : N := fun ρ => .ct ρ
theorem dn_break {pos : Pos} : PS X (.Break pos) (tN K W nBk) := PS.imp ps_break fun D σ H h => by
  obtain ⟨Hb, ρ, S, P⟩ := h
  exact P σ H Hb (SteS.refl S)
theorem dn_cont {pos : Pos} : PS X (.Continue pos) (tN K W nCt) := PS.imp ps_continue fun D σ H h => by
  obtain ⟨Hb, ρ, S, P⟩ := h
  exact P σ H Hb (SteS.refl S)
/-- a statement that begins with an expression -/
def ebnd {α : Type} (m : Res α) (f : α → Rho → Out) : Out := match m with
  | .ok a ρ => f a ρ
  | .er e ρ => .er e ρ
  | .stuck => .stuck
theorem tM_then {m : M Rs} {f : Rs → Rho → Out} {Q : VK} (S : StR K Hb σ ρ H) (P : PostS K W Hb σ ρ H D (ebnd (m ρ) f))
    (h : ∀ r ρ1 v H1 Hb1, Ste K σ Hb ρ H Hb1 ρ1 H1 → RsR K H Hb1 σ H1 r v → PostS K W Hb1 σ ρ1 H1 D (f r ρ1) → Q v H1) : tM K W m σ H Q := by
  refine ⟨Hb, ρ, S, ?_⟩
  cases ea : m ρ with
  | stuck => rw [ea] at P; exact P
  | er e ρ1 =>
    rw [ea] at P
    exact fun d H1 Hb1 s1 ex => P d σ H1 Hb1 (s1.toS S) ex
  | ok x ρ1 =>
    rw [ea] at P
    exact fun v H1 Hb1 s1 r1 => h x ρ1 v H1 Hb1 s1 r1 (PostS.back (s1.toS S) P)
theorem tM_then0 {m : M Rs} {f : Rs → Rho → Out} {Q : VK} (S : StR K Hb σ ρ H) (P : PostS K W Hb σ ρ H D (ebnd (m ρ) f))
    (h : ∀ r ρ1 v H1 Hb1, Ste K σ Hb ρ H Hb1 ρ1 H1 → RsR K H Hb1 σ H1 r v → PostS K W Hb σ ρ H D (f r ρ1) → Q v H1) : tM K W m σ H Q := by
  refine ⟨Hb, ρ, S, ?_⟩
  cases ea : m ρ with
  | stuck => rw [ea] at P; exact P
  | er e ρ1 =>
    rw [ea] at P
    exact fun d H1 Hb1 s1 ex => P d σ H1 Hb1 (s1.toS S) ex
  | ok x ρ1 =>
    rw [ea] at P
    exact fun v H1 Hb1 s1 r1 => h x ρ1 v H1 Hb1 s1 r1 P
theorem tT_then {m : M Bool} {f : Bool → Rho → Out} {Q : Bool → Hp → Prop} (S : StR K Hb σ ρ H) (P : PostS K W Hb σ ρ H D (ebnd (m ρ) f))
    (h : ∀ b ρ1 H1 Hb1, Ste K σ Hb ρ H Hb1 ρ1 H1 → PostS K W Hb1 σ ρ1 H1 D (f b ρ1) → Q b H1) : tT K W m σ H Q := by
  refine ⟨Hb, ρ, S, ?_⟩
  cases ea : m ρ with
  | stuck => rw [ea] at P; exact P
  | er e ρ1 =>
    rw [ea] at P
    exact fun d H1 Hb1 s1 ex => P d σ H1 Hb1 (s1.toS S) ex
  | ok x ρ1 =>
    rw [ea] at P
    exact fun H1 Hb1 s1 => h x ρ1 H1 Hb1 s1 (PostS.back (s1.toS S) P)
def nIf (t : M Bool) (a b : N) : N := fun ρ => ebnd (t ρ) fun c ρ1 => if c = true then a ρ1 else b ρ1
theorem dn_if {c : Expr} {a b : List Stmt} {pos : Pos} {mc : M Bool} {na nb : N} (hc : PT X c (tT K W mc)) (ha : PSs X a (tN K W na)) (hb : PSs X b (tN K W nb)) : PS X (.If c a b pos) (tN K W (nIf mc na nb)) := by
  refine PS.imp (ps_if hc ha hb) fun D σ H h => ?_
  obtain ⟨Hb, ρ, S, P⟩ := h
  refine tT_then S P fun b ρ1 H1 Hb1 s1 P1 => ?_
  cases b with
  | true => exact iteT ⟨Hb1, ρ1, s1.st, P1⟩
  | false => exact iteF ⟨Hb1, ρ1, s1.st, P1⟩
def nExpr (m : M Rs) : N := fun ρ => ebnd (m ρ) fun _ ρ1 => .nx ρ1
theorem dn_expr {e : Expr} {m : M Rs} {pos : Pos} (he : PE X e (tM K W m)) (hs : swapsWith e none pos.line X.env = pure false := by rfl) : PS X (.Expr e pos) (tN K W (nExpr m)) := by
  refine PS.imp (ps_expr he hs) fun D σ H h => ?_
  obtain ⟨Hb, ρ, S, P⟩ := h
  exact tM_then S P fun r ρ1 v H1 Hb1 s1 r1 P1 => P1 σ H1 Hb1 (SteS.refl s1.st)
theorem dn_doc {x : Str} {j : Nat} {pos pos' : Pos} : PS X (.Expr (.Constant (.str x) j pos) pos') (tN K W nNext) := PS.imp ps_doc fun D σ H h => by
  obtain ⟨Hb, ρ, S, P⟩ := h
  exact P σ H Hb (SteS.refl S)
def nRet (m : M Rs) : N := fun ρ => match m ρ with
  | .ok r ρ1 => .rt r ρ1
  | .er e ρ1 => .er e ρ1
  | .stuck => .stuck
def nRetN : N := fun ρ => .rt (.va .non) ρ
theorem dn_ret {e : Expr} {m : M Rs} {pos : Pos} (he : PE X e (tM K W m)) : PS X (.Return (some e) pos) (tN K W (nRet m)) := by
  refine PS.imp (ps_ret he) fun D σ H h => ?_
  obtain ⟨Hb, ρ, S, P⟩ := h
  refine ⟨Hb, ρ, S, ?_⟩
  unfold nRet at P
  cases ea : m ρ with
  | stuck => rw [ea] at P; exact P
  | er e ρ1 => rw [ea] at P; exact fun d H1 Hb1 s1 ex => P d σ H1 Hb1 (s1.toS S) ex
  | ok x ρ1 => rw [ea] at P; exact fun v H1 Hb1 s1 r1 => P v σ H1 Hb1 (s1.toS S) r1
theorem dn_retN {pos : Pos} : PS X (.Return none pos) (tN K W nRetN) := PS.imp ps_retN fun D σ H h => by
  obtain ⟨Hb, ρ, S, P⟩ := h
  exact P .non σ H Hb (SteS.refl S) (Is.nonI (K := K) (H := Hb))

/-! ### names stored -/
theorem set_own {σ : L2.St} {ρ : Rho} {i j : Nat} {b : Addr} {o : Option V} {s : Sl} (hij : i ≠ j) (h : OwnAt (σ.set i o) (ρ.set i s) j b) : OwnAt σ ρ j b := by
  obtain ⟨e, io, xs, q⟩ := h
  rw [List.getElem?_set_ne hij] at e q
  exact ⟨e, io, xs, q⟩
/-- slot i takes a value that stays -/
theorem SteS.storeV {i : Nat} {v : V} {d : DL.D} (S : StR K Hb σ ρ H) (s : Ste K σ Hb ρ H Hb1 ρ1 H1) (hi : i < ρ1.length) (nio : ∀ xs, ρ1[i]? ≠ some (Sl.ow true xs)) (hv : Is K Hb1 d v) :
    SteS K Hb σ ρ H Hb1 (σ.set i (some v)) (ρ1.set i (.va d)) H1 := by
  have hl : σ.length = ρ1.length := s.st.len
  have own : ∀ {j b}, OwnAt (σ.set i (some v)) (ρ1.set i (.va d)) j b → i ≠ j ∧ OwnAt σ ρ1 j b := fun {j b} h => by
    by_cases hij : i = j
    · subst hij
      obtain ⟨_, io, xs, q⟩ := h
      rw [List.getElem?_set_self hi] at q; cases q
    · exact ⟨hij, set_own hij h⟩
  refine ⟨s.fr, s.th, s.gr, s.gn, fun b h => ?_, fun k xs h => ?_, by rw [List.length_set, ← s.st.len, S.len], ⟨s.st.sub, by rw [List.length_set, List.length_set]; exact hl, fun j sl e => ?_, fun j k b hj hk => s.st.dis j k b (own hj).2 (own hk).2⟩⟩
  · obtain ⟨j, h⟩ := h
    exact .inl (s.ow b ⟨j, (own h).2⟩)
  · obtain ⟨ys, hy⟩ := s.io k xs h
    have hik : i ≠ k := fun z => by subst z; exact nio ys hy
    exact ⟨List.getElem?_set_ne hik, ys, by rw [List.getElem?_set_ne hik]; exact hy⟩
  · by_cases hij : i = j
    · subst hij
      rw [List.getElem?_set_self hi] at e; cases e
      exact ⟨some v, List.getElem?_set_self (by omega), v, rfl, hv⟩
    · rw [List.getElem?_set_ne hij] at e
      obtain ⟨o, e1, e2⟩ := s.st.sl j sl e
      exact ⟨o, by rw [List.getElem?_set_ne hij]; exact e1, e2⟩
/-- slot i takes a new list -/
theorem SteS.storeL {i : Nat} {p : Addr} {xs : List DL.D} {vs : List V} (S : StR K Hb σ ρ H) (s : Ste K σ Hb ρ H Hb1 ρ1 H1) (hi : i < ρ1.length) (nio : ∀ xs, ρ1[i]? ≠ some (Sl.ow true xs))
    (h0 : H p = none) (hb : Hb1 p = none) (h1 : H1 p = some (.lst vs)) (hv : IsA K Hb1 xs vs) : SteS K Hb σ ρ H Hb1 (σ.set i (some (.ref p))) (ρ1.set i (.ow false xs)) H1 := by
  have hl : σ.length = ρ1.length := s.st.len
  have np : ∀ {j b}, OwnAt σ ρ1 j b → b ≠ p := fun {j b} h z => by
    subst z
    exact own_there S b (s.ow b ⟨j, h⟩) h0
  have own : ∀ {j b}, OwnAt (σ.set i (some (.ref p))) (ρ1.set i (.ow false xs)) j b → (i = j ∧ b = p) ∨ (i ≠ j ∧ OwnAt σ ρ1 j b) := fun {j b} h => by
    by_cases hij : i = j
    · subst hij
      obtain ⟨e, _⟩ := h
      rw [List.getElem?_set_self (by omega)] at e; cases e
      exact .inl ⟨rfl, rfl⟩
    · exact .inr ⟨hij, set_own hij h⟩
  refine ⟨s.fr, s.th, s.gr, s.gn, fun b h => ?_, fun k xs h => ?_, by rw [List.length_set, ← s.st.len, S.len], ⟨s.st.sub, by rw [List.length_set, List.length_set]; exact hl, fun j sl e => ?_, fun j k b hj hk => ?_⟩⟩
  · obtain ⟨j, h⟩ := h
    rcases own h with ⟨_, rfl⟩ | ⟨_, h⟩
    · exact .inr h0
    · exact .inl (s.ow b ⟨j, h⟩)
  · obtain ⟨ys, hy⟩ := s.io k xs h
    have hik : i ≠ k := fun z => by subst z; exact nio ys hy
    exact ⟨List.getElem?_set_ne hik, ys, by rw [List.getElem?_set_ne hik]; exact hy⟩
  · by_cases hij : i = j
    · subst hij
      rw [List.getElem?_set_self hi] at e; cases e
      exact ⟨some (.ref p), List.getElem?_set_self (by omega), p, vs, rfl, h1, hv, hb⟩
    · rw [List.getElem?_set_ne hij] at e
      obtain ⟨o, e1, e2⟩ := s.st.sl j sl e
      exact ⟨o, by rw [List.getElem?_set_ne hij]; exact e1, e2⟩
  · rcases own hj with ⟨e1, z1⟩ | ⟨_, o1⟩
    · rcases own hk with ⟨e2, _⟩ | ⟨_, o2⟩
      · omega
      · exact absurd z1 (np o2)
    · rcases own hk with ⟨e2, z2⟩ | ⟨_, o2⟩
      · exact absurd z2 (np o1)
      · exact s.st.dis j k b o1 o2
def isIo : Option Sl → Bool
  | some (.ow true _) => true
  | _ => false
theorem nio_of {o : Option Sl} (h : isIo o = false) : ∀ xs, o ≠ some (Sl.ow true xs) := fun xs e => by subst e; cases h
/-- x = e -/
def setR (i : Nat) (r : Rs) (ρ : Rho) : Out := if i < ρ.length ∧ isIo ρ[i]? = false then (match r with
    | .va d => .nx (ρ.set i (.va d))
    | .fr xs => .nx (ρ.set i (.ow false xs))
    | .al j => (match keep1 ρ (.al j) with
      | some (d, ρ2) => .nx (ρ2.set i (.va d))
      | none => .stuck))
  else .stuck
def nSet (i : Nat) (m : M Rs) : N := fun ρ => ebnd (m ρ) (setR i)
theorem keep1_len {ρ ρ2 : Rho} {r : Rs} {d : DL.D} (h : keep1 ρ r = some (d, ρ2)) : ρ2.length = ρ.length ∧ ∀ (i : Nat) (xs : List DL.D), ρ2[i]? = some (Sl.ow true xs) → ρ[i]? = some (Sl.ow true xs) := by
  cases r with
  | va d' => cases h; exact ⟨rfl, fun _ _ h => h⟩
  | fr xs => cases h
  | al j =>
    unfold keep1 at h
    simp only at h
    split at h
    · cases h; exact ⟨rfl, fun _ _ h => h⟩
    · cases h
      refine ⟨List.length_set, fun i xs e => ?_⟩
      by_cases hij : j = i
      · subst hij
        rw [List.getElem?_set] at e
        simp at e
      · rw [List.getElem?_set_ne hij] at e; exact e
    · cases h
theorem set_ok {i : Nat} {r : Rs} {v : V} (S : StR K Hb σ ρ H) (s : Ste K σ Hb ρ H Hb1 ρ1 H1) (h : RsR K H Hb1 σ H1 r v) (P : PostS K W Hb σ ρ H D (setR i r ρ1)) : D.nx (σ.set i (some v)) H1 := by
  unfold setR at P
  by_cases hc : i < ρ1.length ∧ isIo ρ1[i]? = false
  · rw [if_pos hc] at P
    cases r with
    | va d => exact P _ H1 Hb1 (SteS.storeV S s hc.1 (nio_of hc.2) h)
    | fr xs =>
      obtain ⟨p, vs, rfl, h0, hb, h1, hv⟩ := h
      exact P _ H1 Hb1 (SteS.storeL S s hc.1 (nio_of hc.2) h0 hb h1 hv)
    | al j =>
      simp only at P
      cases ek : keep1 ρ1 (.al j) with
      | none => rw [ek] at P; exact P.elim
      | some q =>
        obtain ⟨d, ρ2⟩ := q
        rw [ek] at P
        obtain ⟨Hb2, s2, i2⟩ := keep1_ok s.st h ek
        obtain ⟨l1, l2⟩ := keep1_len ek
        exact P _ H1 Hb2 (SteS.storeV S (s.trans s2) (by rw [l1]; exact hc.1) (fun xs e => nio_of hc.2 xs (l2 _ _ e)) i2)
  · rw [if_neg hc] at P; exact P.elim
theorem dn_set {i : Nat} {x : Str} {e : Expr} {m : M Rs} {pos pos' : Pos} (hN : X.N.Nodup) (hi : X.N[i]? = some x) (hx : Loc X.env.scope x) (he : PE X e (tM K W m)) (hs : swapsWith e (some (.Name x pos')) pos.line X.env = pure false := by rfl)
    (hf : X.fn x = true ∨ X.env.scope.names.lookup x = some .local := by first | exact .inl rfl | exact .inr rfl | assumption) : PS X (.Assign [.Name x pos'] e pos) (tN K W (nSet i m)) := by
  refine PS.imp (ps_set hN hi hx he hs hf) fun D σ H h => ?_
  obtain ⟨Hb, ρ, S, P⟩ := h
  refine ⟨Hb, ρ, S, ?_⟩
  unfold nSet at P
  cases ea : m ρ with
  | stuck => rw [ea] at P; exact P
  | er e ρ1 => rw [ea] at P; exact fun d H1 Hb1 s1 ex => P d σ H1 Hb1 (s1.toS S) ex
  | ok r ρ1 => rw [ea] at P; exact fun v H1 Hb1 s1 r1 => set_ok S s1 r1 P

/-! ### a, b, .. = e -/
def setVs : List Nat → List DL.D → Rho → Option Rho
  | [], [], ρ => some ρ
  | i :: is, d :: ds, ρ => if i < ρ.length ∧ isIo ρ[i]? = false then setVs is ds (ρ.set i (.va d)) else none
  | _, _, _ => none
def gNs : List Nat → TGs
  | [] => gNil
  | i :: is => gCons (gName i) (gNs is)
theorem setVs_ok {Q : L2.St → Hp → Prop} : ∀ {is : List Nat} {ds : List DL.D} {vs : List V} {ρ ρ2 : Rho} {σ : L2.St} {Hb : Hp}, StR K Hb σ ρ H → IsA K Hb ds vs → setVs is ds ρ = some ρ2 → (∀ σ2, SteS K Hb σ ρ H Hb σ2 ρ2 H → Q σ2 H) → gNs is vs σ H Q
  | [], [], vs, ρ, ρ2, σ, Hb, S, i, e, q => by
    simp only [IsA] at i; subst i; cases e
    exact ⟨rfl, q σ (SteS.refl S)⟩
  | i :: is, d :: ds, vs, ρ, ρ2, σ, Hb, S, h, e, q => by
    simp only [IsA] at h
    obtain ⟨v, r, rfl, h1, h2⟩ := h
    unfold setVs at e
    by_cases hc : i < ρ.length ∧ isIo ρ[i]? = false
    · rw [if_pos hc] at e
      have s := SteS.storeV S (Ste.refl S) hc.1 (nio_of hc.2) h1
      exact ⟨v, r, rfl, setVs_ok s.st h2 e fun σ2 s2 => q σ2 (s.trans s2)⟩
    · rw [if_neg hc] at e; cases e
  | [], d :: ds, vs, ρ, ρ2, σ, Hb, S, i, e, q => by cases e
  | i :: is, [], vs, ρ, ρ2, σ, Hb, S, _, e, q => by cases e
def nUnp (is : List Nat) (m : M Rs) : N := fun ρ => ebnd (m ρ) fun r ρ1 => match r with
  | .va (.tup ds) => (match setVs is ds ρ1 with
    | some ρ2 => .nx ρ2
    | none => .stuck)
  | _ => .stuck
theorem setVs_len : ∀ {is : List Nat} {ds : List DL.D} {ρ ρ2 : Rho}, setVs is ds ρ = some ρ2 → ds.length = is.length
  | [], [], ρ, ρ2, e => rfl
  | i :: is, d :: ds, ρ, ρ2, e => by
    unfold setVs at e
    split at e
    · simp [setVs_len e]
    · cases e
  | [], d :: ds, ρ, ρ2, e => by cases e
  | i :: is, [], ρ, ρ2, e => by cases e
/-- the targets' names, one after another -/
theorem dg_nil : PGs X [] (gNs []) := pgs_nil
theorem dg_cons {i : Nat} {is : List Nat} {x : Str} {pos : Pos} {es : List Expr} (hN : X.N.Nodup) (hi : X.N[i]? = some x) (hx : Loc X.env.scope x) (hr : PGs X es (gNs is)) (hf : X.fn x = true ∨ X.env.scope.names.lookup x = some .local := by first | exact .inl rfl | exact .inr rfl | assumption)
    (hs : (assignEach (.Name x pos :: es) X.env).map (·.2) = assign (.Name x pos) X.env :: (assignEach es X.env).map (·.2) := by rfl) : PGs X (.Name x pos :: es) (gNs (i :: is)) := pgs_cons (pg_name hN hi hx hf) hr hs
theorem dn_unp {is : List Nat} {es : List Expr} {k : Nat} {e : Expr} {m : M Rs} {pos tpos : Pos} (hc : X.calm = true) (hg : PGs X es (gNs is)) (he : PE X e (tM X.K W m))
    (hn : (assignEach es X.env).length = is.length := by rfl) (hst : (assignEach es X.env).findIdx? (·.1) = none := by rfl) (hs : swapsWithSole [.Tuple es k tpos] e pos.line X.env = pure false := by rfl) (hw : swappedStores [.Tuple es k tpos] e X.env = pure none := by rfl)
    (h1 : (assignEach [.Tuple es k tpos] X.env).map (·.2) = [assign (.Tuple es k tpos) X.env] := by rfl) : PS X (.Assign [.Tuple es k tpos] e pos) (tN X.K W (nUnp is m)) := by
  refine PS.imp (ps_asg he (pg_tup hc hg hn hst) hs hw h1) fun D σ H h => ?_
  obtain ⟨Hb, ρ, S, P⟩ := h
  refine ⟨Hb, ρ, S, ?_⟩
  unfold nUnp at P
  cases ea : m ρ with
  | stuck => rw [ea] at P; exact P
  | er e ρ1 => rw [ea] at P; exact fun d H1 Hb1 s1 ex => P d σ H1 Hb1 (s1.toS S) ex
  | ok r ρ1 =>
    rw [ea] at P
    intro v H1 Hb1 s1 r1
    simp only [ebnd] at P
    cases r with
    | fr xs => exact P.elim
    | al i => exact P.elim
    | va d =>
      cases d with
      | tup ds =>
        simp only at P
        cases ev : setVs is ds ρ1 with
        | none => rw [ev] at P; exact P.elim
        | some ρ2 =>
          rw [ev] at P
          have r1' : Is X.K Hb1 (.tup ds) v := r1
          simp only [Is] at r1'
          obtain ⟨a, vs, rfl, h1, i1⟩ := r1'
          refine ⟨a, vs, rfl, Same.tup s1.st.sub h1, ?_, setVs_ok s1.st i1 ev fun σ2 s2 => P σ2 H1 Hb1 ((s1.toS S).trans s2)⟩
          rw [i1.length, setVs_len ev]
      | _ => exact P.elim

/-! ### x += e -/
def nAug (f : DL.D → DL.D → Option Rs) (i : Nat) (m : M Rs) : N := fun ρ => match ρ[i]? with
  | some (.va dx) => ebnd (m ρ) fun r ρ1 => (match rd ρ1 r with
    | some dy => (match f dx dy with
      | some (.va d) => if i < ρ1.length ∧ isIo ρ1[i]? = false then .nx (ρ1.set i (.va d)) else .stuck
      | _ => .stuck)
    | none => .stuck)
  | _ => .stuck
theorem dn_aug {op : Operator} {r : R2} {f : DL.D → DL.D → Option Rs} {i : Nat} {x : Str} {e : Expr} {m : M Rs} {pos pos' : Pos} (ho : OpR X (inplaceOp op) r) (hr : OpD K r f) (hN : X.N.Nodup) (hi : X.N[i]? = some x) (hx : Loc X.env.scope x) (he : PE X e (tM K W m))
    (hf : X.fn x = true ∨ X.env.scope.names.lookup x = some .local := by first | exact .inl rfl | exact .inr rfl | assumption) : PS X (.AugAssign (.Name x pos') op e pos) (tN K W (nAug f i m)) := by
  refine PS.imp (ps_aug hN hi hx he (show PIp X op r from ho) hf) fun D σ H h => ?_
  obtain ⟨Hb, ρ, S, P⟩ := h
  unfold nAug at P
  split at P
  · rename_i dx ex
    obtain ⟨v, ev, iv⟩ := S.va ex
    refine ⟨v, ev, tM_then S P fun r ρ1 w H1 Hb1 s1 r1 P1 => ?_⟩
    cases er : rd ρ1 r with
    | none => rw [er] at P1; exact P1.elim
    | some dy =>
      rw [er] at P1
      simp only at P1
      split at P1
      · rename_i d ed
        by_cases hc : i < ρ1.length ∧ isIo ρ1[i]? = false
        · rw [if_pos hc] at P1
          refine hr Hb1 H1 v w dx dy _ _ s1.st.sub (.inl (Is.mono s1.gr _ _ iv)) (rd_ok s1.st r1 er) ed fun z Hb2 H2 g rz => ?_
          exact P1 _ H2 Hb2 (SteS.storeV s1.st (g.ste s1.st) hc.1 (nio_of hc.2) rz)
        · rw [if_neg hc] at P1; exact P1.elim
      · exact P1.elim
  · exact P.elim
theorem dn_augAdd {i : Nat} {x : Str} {e : Expr} {m : M Rs} {pos pos' : Pos} (hN : X.N.Nodup) (hi : X.N[i]? = some x) (hx : Loc X.env.scope x) (he : PE X e (tM K W m)) (hf : X.fn x = true ∨ X.env.scope.names.lookup x = some .local := by first | exact .inl rfl | exact .inr rfl | assumption) :
    PS X (.AugAssign (.Name x pos') .Add e pos) (tN K W (nAug (or2 (iop fun i j => some (.int (i + j))) catS) i m)) := dn_aug (iop_add.or iop_add_str) (od_I0.or od_catS) hN hi hx he hf
theorem dn_augSub {i : Nat} {x : Str} {e : Expr} {m : M Rs} {pos pos' : Pos} (hN : X.N.Nodup) (hi : X.N[i]? = some x) (hx : Loc X.env.scope x) (he : PE X e (tM K W m)) (hf : X.fn x = true ∨ X.env.scope.names.lookup x = some .local := by first | exact .inl rfl | exact .inr rfl | assumption) :
    PS X (.AugAssign (.Name x pos') .Sub e pos) (tN K W (nAug subD i m)) := dn_aug iop_sub od_I0 hN hi hx he hf

/-! ### own lists changed -/
theorem Ste.mut {k : Nat} {io : Bool} {p : Addr} {xs xs' : List DL.D} {vs' : List V} (S : StR K Hb σ ρ H) (h : ρ[k]? = some (.ow io xs)) (hp : σ[k]? = some (some (.ref p))) (iv : IsA K Hb xs' vs') :
    Ste K σ Hb ρ H Hb (ρ.set k (.ow io xs')) (upd H p (.lst vs')) := by
  obtain ⟨p', vs, oa, e1, h1, h2, h3⟩ := S.own h
  rw [hp] at e1; cases e1
  have hk : k < ρ.length := (List.getElem?_eq_some_iff.mp h).1
  have own : ∀ {j b}, OwnAt σ (ρ.set k (.ow io xs')) j b → OwnAt σ ρ j b := fun {j b} hj => by
    obtain ⟨e, io', ys, q⟩ := hj
    by_cases hkj : k = j
    · subst hkj; exact ⟨e, io, xs, h⟩
    · rw [List.getElem?_set_ne hkj] at q; exact ⟨e, io', ys, q⟩
  refine ⟨fun b o e n => ?_, fun b e => ?_, Same.refl _, fun b o e n _ => n, fun b ⟨j, hj⟩ => ⟨j, own hj⟩, fun j ys hj => ?_, ⟨fun b o e => ?_, by rw [List.length_set]; exact S.len, fun j s e => ?_, fun j l b hj hl => S.dis j l b (own hj) (own hl)⟩⟩
  · rw [upd_ne (fun z => n (by subst z; exact ⟨k, oa⟩))]; exact e
  · by_cases hb : b = p
    · subst hb; rw [upd_same] at e; cases e
    · rw [upd_ne hb] at e; exact e
  · by_cases hkj : k = j
    · subst hkj
      rw [h] at hj; cases hj
      exact ⟨xs', List.getElem?_set_self hk⟩
    · exact ⟨ys, by rw [List.getElem?_set_ne hkj]; exact hj⟩
  · rw [upd_ne (fun z => by subst z; rw [h3] at e; cases e)]; exact S.sub b o e
  · by_cases hkj : k = j
    · subst hkj
      rw [List.getElem?_set_self hk] at e; cases e
      exact ⟨_, hp, p, vs', rfl, upd_same, iv, h3⟩
    · rw [List.getElem?_set_ne hkj] at e
      obtain ⟨o, e1, e2⟩ := S.sl j s e
      refine ⟨o, e1, ?_⟩
      cases s with
      | un => trivial
      | va d => exact e2
      | ow io' ys =>
        obtain ⟨q, ws, e3, e4, e5, e6⟩ := e2
        subst e3
        have nq : q ≠ p := fun z => by
          subst z
          exact hkj (S.dis k j q oa ⟨e1, io', ys, e⟩)
        exact ⟨q, ws, rfl, by rw [upd_ne nq]; exact e4, e5, e6⟩
/-- a value about to be kept: new lists put down, own ones given away -/
def keepR (ρ : Rho) (r : Rs) : Option (DL.D × Rho) := keep1 ρ (soft r)
theorem keepR_ok {r : Rs} {v : V} {d : DL.D} {ρ2 : Rho} (S : StR K Hb σ ρ H) (s : Ste K σ Hb ρ H Hb1 ρ1 H1) (h : RsR K H Hb1 σ H1 r v) (e : keepR ρ1 r = some (d, ρ2)) : ∃ Hb2, Ste K σ Hb ρ H Hb2 ρ2 H1 ∧ Is K Hb2 d v := by
  obtain ⟨Hb2, s2, _, r2⟩ := RsR.put S s h
  obtain ⟨Hb3, s3, i3⟩ := keep1_ok s2.st r2 e
  exact ⟨Hb3, s2.trans s3, i3⟩
/-- xs.append(e), xs the own list of slot k -/
def isOw : Option Sl → Bool
  | some (.ow _ _) => true
  | _ => false
def nApp (k : Nat) (m : M Rs) : N := fun ρ => if isOw ρ[k]? = true then ebnd (m ρ) (fun r ρ1 => match keepR ρ1 r with
  | some (d, ρ2) => (match ρ2[k]? with
    | some (.ow io xs) => if xs.length < 100000 then .nx (ρ2.set k (.ow io (xs ++ [d]))) else .stuck
    | _ => .stuck)
  | none => .stuck) else .stuck
theorem size_lt {n : Nat} (h : n < 100000) : n < sizeLine := Nat.lt_of_lt_of_le h (by decide)
theorem dn_app {k : Nat} {o : Expr} {e : Expr} {m : M Rs} {pos apos spos : Pos} (hbm : PE X (.Call (.Attribute o "append" apos) [e] [] pos) (tBM X.K "list" rAppend (tVar k) (tCons (tM X.K W m) tNil)))
    (hs : swapsWith (.Call (.Attribute o "append" apos) [e] [] pos) none spos.line X.env = pure false := by rfl) : PS X (.Expr (.Call (.Attribute o "append" apos) [e] [] pos) spos) (tN X.K W (nApp k m)) := by
  refine PS.imp (ps_expr hbm hs) fun D σ H h => ?_
  obtain ⟨Hb, ρ, S, P⟩ := h
  unfold nApp at P
  by_cases hw : isOw ρ[k]? = true
  · rw [if_pos hw] at P
    cases eρ : ρ[k]? with
    | none => rw [eρ] at hw; cases hw
    | some sl =>
      cases sl with
      | un => rw [eρ] at hw; cases hw
      | va d => rw [eρ] at hw; cases hw
      | ow io0 xs0 =>
        obtain ⟨p, vs, oa, e1, h1, h2, h3⟩ := S.own eρ
        refine ⟨.ref p, e1, .inl ⟨rfl, vs, .inl (.inl h1)⟩, tM_then0 S P fun r ρ1 v H1 Hb1 s1 r1 P1 => ?_⟩
        cases ek : keepR ρ1 r with
        | none => rw [ek] at P1; exact P1.elim
        | some q =>
          obtain ⟨d, ρ2⟩ := q
          rw [ek] at P1
          obtain ⟨Hb2, s2, i2⟩ := keepR_ok S s1 r1 ek
          simp only at P1
          cases e2 : ρ2[k]? with
          | none => rw [e2] at P1; exact P1.elim
          | some sl =>
            rw [e2] at P1
            cases sl with
            | un => exact P1.elim
            | va d' => exact P1.elim
            | ow io xs =>
              simp only at P1
              by_cases hz : xs.length < 100000
              · rw [if_pos hz] at P1
                obtain ⟨p', vs', oa', e1', h1', h2', h3'⟩ := s2.st.own e2
                rw [e1] at e1'; cases e1'
                refine ⟨p, vs', v, rfl, rfl, h1', by rw [h2'.length]; exact size_lt hz, ?_⟩
                have sm := Ste.mut s2.st e2 e1 (h2'.append (IsA.cons i2 IsA.nil))
                exact P1 σ _ Hb2 ((s2.trans sm).toS S)
              · rw [if_neg hz] at P1; exact P1.elim
  · rw [if_neg hw] at P; exact P.elim
/-- xs[i] = e, xs the own list of slot k -/
def nSetIx (k : Nat) (mi me : M Rs) : N := fun ρ => if isOw ρ[k]? = true then ebnd (me ρ) (fun r ρ1 => match keepR ρ1 r with
  | some (d, ρ2) => ebnd (mi ρ2) (fun ri ρ3 => match rd ρ3 ri with
    | some (.int i) => (match ρ3[k]? with
      | some (.ow io xs) => (match ixN xs.length i with
        | some j => .nx (ρ3.set k (.ow io (xs.set j d)))
        | none => .stuck)
      | _ => .stuck)
    | _ => .stuck)
  | none => .stuck) else .stuck
theorem dn_setIx {k : Nat} {o i e : Expr} {mi me : M Rs} {opos pos : Pos} (ho : PE X o (tVar k)) (hi : PE X i (tM X.K W mi)) (he : PE X e (tM X.K W me))
    (ha : ∀ v, assign (.Subscript o i opos) X.env v = (do
      let ov ← holding [v] (eval o X.env)
      let iv ← holding [v, ov] (eval i X.env)
      standAt opos
      holding [v, ov, iv] (setItem ov iv v)
      release [v, ov, iv] []) := by intro _; rfl)
    (hs : swapsWithSole [.Subscript o i opos] e pos.line X.env = pure false := by rfl) (hw : swappedStores [.Subscript o i opos] e X.env = pure none := by rfl)
    (h1 : (assignEach [.Subscript o i opos] X.env).map (·.2) = [assign (.Subscript o i opos) X.env] := by rfl) : PS X (.Assign [.Subscript o i opos] e pos) (tN X.K W (nSetIx k mi me)) := by
  refine PS.imp (ps_asg he (pg_sub ho hi set_list ha) hs hw h1) fun D σ H h => ?_
  obtain ⟨Hb, ρ, S, P⟩ := h
  unfold nSetIx at P
  by_cases hw : isOw ρ[k]? = true
  · rw [if_pos hw] at P
    have ex : ∃ p, σ[k]? = some (some (.ref p)) := by
      cases eρ : ρ[k]? with
      | none => rw [eρ] at hw; cases hw
      | some sl =>
        cases sl with
        | un => rw [eρ] at hw; cases hw
        | va d => rw [eρ] at hw; cases hw
        | ow io0 xs0 =>
          obtain ⟨p, _, _, e, _⟩ := S.own eρ
          exact ⟨p, e⟩
    obtain ⟨p, e1⟩ := ex
    refine tM_then0 S P fun r ρ1 v H1 Hb1 s1 r1 P1 => ?_
    cases ek : keepR ρ1 r with
    | none => rw [ek] at P1; exact P1.elim
    | some q =>
      obtain ⟨d, ρ2⟩ := q
      rw [ek] at P1
      obtain ⟨Hb2, s2, i2⟩ := keepR_ok S s1 r1 ek
      simp only at P1
      refine ⟨.ref p, e1, ?_⟩
      refine tM_then0 s2.st (PostS.back (s2.toS S) P1) fun ri ρ3 iv H3 Hb3 s3 r3 P3 => ?_
      cases er : rd ρ3 ri with
      | none => rw [er] at P3; exact P3.elim
      | some di =>
        rw [er] at P3
        cases di with
        | int i =>
          simp only at P3
          have ei := (rd_ok s3.st r3 er).int
          subst ei
          cases e2 : ρ3[k]? with
          | none => rw [e2] at P3; exact P3.elim
          | some sl =>
            rw [e2] at P3
            cases sl with
            | un => exact P3.elim
            | va d' => exact P3.elim
            | ow io xs =>
              simp only at P3
              cases ej : ixN xs.length i with
              | none => rw [ej] at P3; exact P3.elim
              | some j =>
                rw [ej] at P3
                obtain ⟨p', vs', oa', e1', h1', h2', h3'⟩ := s3.st.own e2
                rw [e1] at e1'; cases e1'
                have sm := Ste.mut s3.st e2 e1 (h2'.set j (Is.mono s3.gr _ _ i2))
                exact ⟨p, vs', i, j, rfl, rfl, h1', by rw [h2'.length]; exact ej, P3 σ _ Hb3 ((s3.trans sm).toS s2.st)⟩
        | _ => exact P3.elim
  · rw [if_neg hw] at P; exact P.elim
/-! ### raise, while -/
def nRaise (k : Nat) : N := fun ρ => .er ⟨k, .non⟩ ρ
theorem dn_raise {e : Expr} {k : Nat} {c : Addr} {pos : Pos} (hc : X.calm = true) (tk : Takes X W) (hk : ClsAt K k c) (hk11 : k < 11) (he : PMk X e (fun σ H Q => Q (.ref c) none H)) : PS X (.Raise (some e) none pos) (tN K W (nRaise k)) := by
  refine PS.imp (ps_raise hc tk he) fun D σ H h => ?_
  obtain ⟨Hb, ρ, S, P⟩ := h
  exact P (.ref c, none) σ H Hb (SteS.refl S) ⟨c, hk, rfl, .inl ⟨hk11, rfl, rfl⟩⟩
/-- a while, so many turns at most -/
def nWhile (t : M Bool) (b : N) : Nat → N
  | 0, _ => .stuck
  | n + 1, ρ => ebnd (t ρ) fun c ρ1 => if c = true then (match b ρ1 with
    | .nx ρ2 => nWhile t b n ρ2
    | .ct ρ2 => nWhile t b n ρ2
    | .bk ρ2 => .nx ρ2
    | .rt r ρ2 => .rt r ρ2
    | .er e ρ2 => .er e ρ2
    | .stuck => .stuck) else .nx ρ1
theorem dn_while {c : Expr} {body : List Stmt} {mt : M Bool} {nb : N} {F : Rho → Nat} {pos : Pos} (hp : PassesOwn (model X.prog X.w) X.A X.env X.xe) (hc : PT X c (tT K W mt)) (hb : PSs X body (tN K W nb)) : PS X (.While c body [] pos) (tN K W (fun ρ => nWhile mt nb (F ρ) ρ)) := by
  refine PS.imp (ps_while hp hc hb) fun D σ0 H0 h => ?_
  obtain ⟨Hb, ρ, S, P⟩ := h
  refine ⟨fun m σ H => ∃ Hb ρ, StR K Hb σ ρ H ∧ PostS K W Hb σ ρ H D (nWhile mt nb m ρ), ⟨F ρ, Hb, ρ, S, P⟩, ?_⟩
  rintro m σ H ⟨Hb, ρ, S, P⟩
  cases m with
  | zero => exact P.elim
  | succ m =>
    unfold nWhile at P
    refine tT_then S P fun b ρ1 H1 Hb1 s1 P1 => ?_
    cases b with
    | false => exact iteF (P1 σ H1 Hb1 (SteS.refl s1.st))
    | true =>
      refine iteT ⟨fun σ' H' => ∃ Hb ρ, StR K Hb σ' ρ H' ∧ PostS K W Hb σ' ρ H' D (nWhile mt nb m ρ), fun σ' H' h => ⟨m, Nat.lt_succ_self m, h⟩, Hb1, ρ1, s1.st, ?_⟩
      simp only [if_true] at P1
      cases eb : nb ρ1 with
      | stuck => rw [eb] at P1; exact P1
      | nx ρ2 => rw [eb] at P1; exact fun σ2 H2 Hb2 s2 => ⟨Hb2, ρ2, s2.st, PostS.back s2 P1⟩
      | ct ρ2 => rw [eb] at P1; exact fun σ2 H2 Hb2 s2 => ⟨Hb2, ρ2, s2.st, PostS.back s2 P1⟩
      | bk ρ2 => rw [eb] at P1; exact P1
      | rt r ρ2 => rw [eb] at P1; exact P1
      | er e ρ2 => rw [eb] at P1; exact P1
end
end DL

namespace DL
open PySem L2 PyProof.Rows
/-! ### a def by its meaning -/
def argOk : Sl → Bool
  | .va _ => true
  | .ow true _ => true
  | _ => false
def PostF (K : PySem.W.Frag) (Hb : Hp) (vs : List V) (as : List Sl) (H : Hp) (Q : VK) (E : XK) : Res Rs → Prop
  | .ok r as' => ∀ v H' Hb', Ste K (vs.map some) Hb as H Hb' as' H' → RsR K H Hb' [] H' r v → Q v H'
  | .er e as' => ∀ (d : Value × Option Addr) H' Hb', Ste K (vs.map some) Hb as H Hb' as' H' → ExR K Hb' H' e d → E d.1 d.2 H'
  | .stuck => False
def spD (K : PySem.W.Frag) (n : Nat) (sem : M Rs) : Sp := fun vs H Q E => vs.length = n ∧ ∃ Hb as, StR K Hb (vs.map some) as H ∧ as.all argOk = true ∧ PostF K Hb vs as H Q E (sem as)
/-- what is handed back at the parameters -/
def backF : List Sl → List Sl → List Sl
  | [], _ => []
  | .ow true xs :: as, s :: ρ => s :: backF as ρ
  | a :: as, _ :: ρ => a :: backF as ρ
  | as, [] => as
def fin1 (ρ : Rho) : Rs → Option Rs
  | .va d => some (.va d)
  | .fr xs => some (.fr xs)
  | .al i => match ρ[i]? with
    | some (.va d) => some (.va d)
    | some (.ow false xs) => some (.fr xs)
    | _ => none
def fsem (k : Nat) (n : N) : M Rs := fun as => match n (as ++ List.replicate (k - as.length) Sl.un) with
  | .nx ρ => .ok (.va .non) (backF as ρ)
  | .rt r ρ => (match fin1 ρ r with
    | some r' => .ok r' (backF as ρ)
    | none => .stuck)
  | .er e ρ => .er e (backF as ρ)
  | _ => .stuck
theorem backF_get : ∀ {as ρ : List Sl} {i : Nat}, as.length ≤ ρ.length → (backF as ρ)[i]? = (match as[i]? with
    | some (.ow true _) => ρ[i]?
    | o => o)
  | [], ρ, i, _ => by simp [backF]
  | a :: as, [], i, h => by simp at h
  | a :: as, s :: ρ, i, h => by
    have ih : ∀ {j : Nat}, (backF as ρ)[j]? = (match as[j]? with | some (.ow true _) => ρ[j]? | o => o) := backF_get (by simpa using h)
    cases i with
    | zero => cases a with
      | un => rfl
      | va d => rfl
      | ow io xs => cases io <;> rfl
    | succ i => cases a with
      | un => simpa [backF] using ih
      | va d => simpa [backF] using ih
      | ow io xs => cases io <;> simpa [backF] using ih
theorem backF_len : ∀ {as ρ : List Sl}, as.length ≤ ρ.length → (backF as ρ).length = as.length
  | [], ρ, _ => rfl
  | a :: as, [], h => by simp at h
  | a :: as, s :: ρ, h => by
    have ih := backF_len (as := as) (ρ := ρ) (by simpa using h)
    cases a with
    | un => simp [backF, ih]
    | va d => simp [backF, ih]
    | ow io xs => cases io <;> simp [backF, ih]
section
variable {K : PySem.W.Frag} {Hb Hb' H H' : Hp} {vs : List V} {as ρ' : List Sl} {σ' : L2.St} {k : Nat}
theorem start_get {N : List Str} {i : Nat} (h : i < vs.length) : (L2.start N vs)[i]? = (vs.map some)[i]? := by
  unfold L2.start
  rw [List.getElem?_append_left (by simpa using h)]
theorem rho_get {i : Nat} (h : i < as.length) : (as ++ List.replicate (k - as.length) Sl.un)[i]? = as[i]? := List.getElem?_append_left h
theorem StR.start {N : List Str} (S : StR K Hb (vs.map some) as H) (hk : vs.length ≤ N.length) : StR K Hb (L2.start N vs) (as ++ List.replicate (N.length - as.length) Sl.un) H := by
  have hl : vs.length = as.length := by have := S.len; simpa using this
  have own : ∀ {j b}, OwnAt (L2.start N vs) (as ++ List.replicate (N.length - as.length) Sl.un) j b → OwnAt (vs.map some) as j b := fun {j b} h => by
    obtain ⟨e, io, xs, q⟩ := h
    by_cases hj : j < as.length
    · rw [rho_get hj] at q
      rw [start_get (by omega)] at e
      exact ⟨e, io, xs, q⟩
    · rw [List.getElem?_append_right (by omega)] at q
      rw [List.getElem?_replicate] at q
      split at q <;> cases q
  refine ⟨S.sub, ?_, fun i s e => ?_, fun i j b hi hj => S.dis i j b (own hi) (own hj)⟩
  · unfold L2.start
    simp only [List.length_append, List.length_map, List.length_replicate]
    omega
  · by_cases hi : i < as.length
    · rw [rho_get hi] at e
      rw [start_get (by omega)]
      exact S.sl i s e
    · rw [List.getElem?_append_right (by omega), List.getElem?_replicate] at e
      split at e
      · cases e
        unfold L2.start
        rw [List.getElem?_append_right (by simp; omega), List.getElem?_replicate]
        refine ⟨none, ?_, trivial⟩
        rw [if_pos (by simp; omega)]
      · cases e
theorem own_start {N : List Str} (S : StR K Hb (vs.map some) as H) {b : Addr} : Own (L2.start N vs) (as ++ List.replicate (N.length - as.length) Sl.un) b ↔ Own (vs.map some) as b := by
  have hl : vs.length = as.length := by have := S.len; simpa using this
  constructor
  · rintro ⟨j, e, io, xs, q⟩
    by_cases hj : j < as.length
    · rw [rho_get hj] at q
      rw [start_get (by omega)] at e
      exact ⟨j, e, io, xs, q⟩
    · rw [List.getElem?_append_right (by omega), List.getElem?_replicate] at q
      split at q <;> cases q
  · rintro ⟨j, e, io, xs, q⟩
    have hj : j < as.length := (List.getElem?_eq_some_iff.mp q).1
    exact ⟨j, by rw [start_get (by omega)]; exact e, io, xs, by rw [rho_get hj]; exact q⟩
theorem all_get {i : Nat} {s : Sl} (h : as.all argOk = true) (e : as[i]? = some s) : argOk s = true := List.all_eq_true.mp h s (List.mem_of_getElem? e)
theorem Ste.ofS {N : List Str} (S : StR K Hb (vs.map some) as H) (ao : as.all argOk = true) (hk : vs.length ≤ N.length) (s : SteS K Hb (L2.start N vs) (as ++ List.replicate (N.length - as.length) Sl.un) H Hb' σ' ρ' H') :
    Ste K (vs.map some) Hb as H Hb' (backF as ρ') H' := by
  have hl : vs.length = as.length := by have := S.len; simpa using this
  have hl2 : as.length ≤ ρ'.length := by rw [s.len]; simp
  -- an io slot
  have io : ∀ {i : Nat} {xs : List DL.D}, as[i]? = some (.ow true xs) → ∃ p us ys, (vs.map some)[i]? = some (some (.ref p)) ∧ ρ'[i]? = some (.ow true ys) ∧ (backF as ρ')[i]? = some (.ow true ys) ∧ OwnAt σ' ρ' i p ∧ H' p = some (.lst us) ∧ IsA K Hb' ys us ∧ Hb' p = none := fun {i xs} e => by
    have hi : i < as.length := (List.getElem?_eq_some_iff.mp e).1
    obtain ⟨e1, ys, e2⟩ := s.io i xs (by rw [rho_get hi]; exact e)
    rw [start_get (by omega)] at e1
    obtain ⟨p, us, oa, e3, h1, h2, h3⟩ := s.st.own e2
    refine ⟨p, us, ys, by rw [← e1]; exact e3, e2, by rw [backF_get hl2, e]; exact e2, oa, h1, h2, h3⟩
  have nio : ∀ {i : Nat} {s : Sl}, as[i]? = some s → (∀ xs, s ≠ .ow true xs) → (backF as ρ')[i]? = some s ∧ ∃ d, s = .va d := fun {i s} e n => by
    have a := all_get ao e
    cases s with
    | un => cases a
    | va d => exact ⟨by rw [backF_get hl2, e], d, rfl⟩
    | ow io xs =>
      cases io with
      | true => exact absurd rfl (n xs)
      | false => cases a
  have own : ∀ {j b}, OwnAt (vs.map some) (backF as ρ') j b → OwnAt (vs.map some) as j b ∧ OwnAt σ' ρ' j b := fun {j b} h => by
    obtain ⟨e, io', xs, q⟩ := h
    have hj : j < as.length := by
      have := (List.getElem?_eq_some_iff.mp q).1
      rw [backF_len hl2] at this; exact this
    cases ea : as[j]? with
    | none => rw [List.getElem?_eq_none_iff] at ea; omega
    | some sl =>
      by_cases hs : ∃ xs, sl = .ow true xs
      · obtain ⟨ys, rfl⟩ := hs
        obtain ⟨p, us, zs, e1, e2, e3, oa, _⟩ := io ea
        rw [e] at e1; cases e1
        exact ⟨⟨e, true, ys, ea⟩, oa⟩
      · obtain ⟨e1, d, rfl⟩ := nio ea (fun xs z => hs ⟨xs, z⟩)
        rw [e1] at q; cases q
  refine ⟨fun b o e n => s.fr b o e (fun z => n ((own_start S).mp z)), s.th, s.gr, fun b o e n q => s.gn b o e n (fun z => q ((own_start S).mp z)), fun b ⟨j, h⟩ => ⟨j, (own h).1⟩, fun i xs e => ?_, ⟨s.st.sub, ?_, fun i sl e => ?_, fun i j b hi hj => s.st.dis i j b (own hi).2 (own hj).2⟩⟩
  · obtain ⟨p, us, ys, _, _, e3, _⟩ := io e
    exact ⟨ys, e3⟩
  · rw [backF_len hl2]; exact S.len
  · have hi : i < as.length := by
      have := (List.getElem?_eq_some_iff.mp e).1
      rw [backF_len hl2] at this; exact this
    cases ea : as[i]? with
    | none => rw [List.getElem?_eq_none_iff] at ea; omega
    | some s0 =>
      by_cases hs : ∃ xs, s0 = .ow true xs
      · obtain ⟨ys, rfl⟩ := hs
        obtain ⟨p, us, zs, e1, e2, e3, oa, h1, h2, h3⟩ := io ea
        rw [e3] at e; cases e
        exact ⟨_, e1, p, us, rfl, h1, h2, h3⟩
      · obtain ⟨e1, d, rfl⟩ := nio ea (fun xs z => hs ⟨xs, z⟩)
        rw [e1] at e; cases e
        obtain ⟨v, e2, i2⟩ := S.va ea
        exact ⟨_, e2, v, rfl, Is.mono s.gr _ _ i2⟩
theorem fin1_ok {N : List Str} {r r' : Rs} {v : V} (S : StR K Hb (vs.map some) as H) (ao : as.all argOk = true) (hk : vs.length ≤ N.length) (s : SteS K Hb (L2.start N vs) (as ++ List.replicate (N.length - as.length) Sl.un) H Hb' σ' ρ' H')
    (h : RsR K H Hb' σ' H' r v) (e : fin1 ρ' r = some r') : RsR K H Hb' [] H' r' v := by
  cases r with
  | va d => cases e; exact h
  | fr xs => cases e; exact h
  | al i =>
    have h : σ'[i]? = some (some v) := h
    unfold fin1 at e
    simp only at e
    split at e
    · rename_i d q
      cases e
      obtain ⟨w, e1, i1⟩ := s.st.va q
      rw [h] at e1; cases e1
      exact i1
    · rename_i xs q
      cases e
      obtain ⟨p, us, oa, e1, h1, h2, h3⟩ := s.st.own q
      rw [h] at e1; cases e1
      refine ⟨p, us, rfl, ?_, h3, h1, h2⟩
      rcases s.ow p ⟨i, oa⟩ with z | z
      · exfalso
        obtain ⟨j, e2, io, ys, q2⟩ := (own_start S).mp z
        have a := all_get ao q2
        have hj : j < as.length := (List.getElem?_eq_some_iff.mp q2).1
        cases io with
        | false => cases a
        | true =>
          have hl : vs.length = as.length := by have := S.len; simpa using this
          obtain ⟨e3, zs, e4⟩ := s.io j ys (by rw [rho_get hj]; exact q2)
          rw [start_get (by omega), e2] at e3
          have := s.st.dis i j p oa ⟨e3, true, zs, e4⟩
          subst this
          rw [q] at e4; cases e4
      · exact z
    · cases e
end
section
variable {P : Program} {w : World} {K : PySem.W.Frag} {mg : Str → Option Value} {base : Heap}
def WEx (E : XK) : WX := fun cls d _ H => E cls d H
/-- THE RULE for a def by its meaning -/
theorem fun_ok {x qual : Str} {st : Stmt} {f : Addr} {fd : FuncData} {N ps : List Str} {k : Nat} {nb : DL.N} (F : Fun K x qual st f fd) (S : FnScope N ps (defScope st)) (hk : ps.length ≤ N.length)
    (hbody : ∀ (cdv : Value) (A : Around) (outer : List Env) (s : Shared) (H : Hp) (E : XK), Room k (A.deeper (envOfC qual (defScope st) s.heap.objs.size f cdv)) →
      Takes (cxOf (L2.CX P w) P w K mg base N qual (defScope st) f cdv A outer s H E) (WEx E) → PassesOwn (model P w) (cxOf (L2.CX P w) P w K mg base N qual (defScope st) f cdv A outer s H E).A (cxOf (L2.CX P w) P w K mg base N qual (defScope st) f cdv A outer s H E).env (cxOf (L2.CX P w) P w K mg base N qual (defScope st) f cdv A outer s H E).xe → PSs (cxOf (L2.CX P w) P w K mg base N qual (defScope st) f cdv A outer s H E) (defBody st) (tN K (WEx E) nb)) :
    FnOk P w K mg base (L2.CX P w) (k + 1) f fd ps (spD K ps.length (fsem N.length nb)) := by
  refine F.okX S (fun vs H Q E h => h.1) fun cdv A outer s H vs Q E hr h => ?_
  obtain ⟨hl, Hb, as, S0, ao, Pf⟩ := h
  refine ⟨_, hbody cdv A outer s H E hr (takes_of rfl rfl rfl rfl) (passes_of rfl), Hb, as ++ List.replicate (N.length - as.length) Sl.un, S0.start (by omega), ?_⟩
  unfold fsem at Pf
  have hkv : vs.length ≤ N.length := by omega
  cases en : nb (as ++ List.replicate (N.length - as.length) Sl.un) with
  | stuck => rw [en] at Pf; exact Pf
  | bk ρ => rw [en] at Pf; exact Pf.elim
  | ct ρ => rw [en] at Pf; exact Pf.elim
  | nx ρ =>
    rw [en] at Pf
    exact fun σ' H' Hb' s' => Pf .non H' Hb' (Ste.ofS S0 ao hkv s') (Is.nonI (K := K) (H := Hb'))
  | er e ρ =>
    rw [en] at Pf
    exact fun d σ' H' Hb' s' ex => Pf d H' Hb' (Ste.ofS S0 ao hkv s') ex
  | rt r ρ =>
    rw [en] at Pf
    simp only at Pf
    cases ef : fin1 ρ r with
    | none => rw [ef] at Pf; exact Pf.elim
    | some r' =>
      rw [ef] at Pf
      exact fun v σ' H' Hb' s' rr => Pf v H' Hb' (Ste.ofS S0 ao hkv s') (fin1_ok S0 ao hkv s' rr ef)
end
/-! ### a call -/
def toArg (ρ : Rho) : Rs → Sl
  | .va d => .va d
  | .fr _ => .un
  | .al i => match ρ[i]? with
    | some (.va d) => .va d
    | some (.ow _ xs) => .ow true xs
    | _ => .un
def pos? : List Rs → Nat → Option Nat
  | [], _ => none
  | .al j :: rs, i => if j = i then some 0 else (pos? rs i).map (· + 1)
  | _ :: rs, i => (pos? rs i).map (· + 1)
def alNd : List Rs → Bool
  | [] => true
  | .al i :: rs => (pos? rs i).isNone && alNd rs
  | _ :: rs => alNd rs
def upd1 (rs : List Rs) (as' : List Sl) (i : Nat) : Sl → Sl
  | .ow io xs => match pos? rs i with
    | some k => (match as'[k]? with
      | some (.ow true ys) => .ow io ys
      | _ => .ow io xs)
    | none => .ow io xs
  | s => s
def backC (rs : List Rs) (as' : List Sl) : Nat → Rho → Rho
  | _, [] => []
  | i, s :: ρ => upd1 rs as' i s :: backC rs as' (i + 1) ρ
theorem backC_get {rs : List Rs} {as' : List Sl} : ∀ {ρ : Rho} {k i : Nat}, (backC rs as' k ρ)[i]? = (ρ[i]?).map (upd1 rs as' (k + i))
  | [], k, i => by simp [backC]
  | s :: ρ, k, 0 => by simp [backC]
  | s :: ρ, k, i + 1 => by
    simp only [backC, List.getElem?_cons_succ]
    rw [backC_get (ρ := ρ) (k := k + 1) (i := i), show k + 1 + i = k + (i + 1) by omega]
theorem backC_len {rs : List Rs} {as' : List Sl} : ∀ {ρ : Rho} {k : Nat}, (backC rs as' k ρ).length = ρ.length
  | [], k => rfl
  | s :: ρ, k => by simp [backC, backC_len]
theorem pos_get : ∀ {rs : List Rs} {i k : Nat}, pos? rs i = some k → rs[k]? = some (.al i)
  | [], i, k, h => by cases h
  | .al j :: rs, i, k, h => by
    unfold pos? at h
    by_cases e : j = i
    · rw [if_pos e] at h; cases h; subst e; rfl
    · rw [if_neg e] at h
      cases q : pos? rs i with
      | none => rw [q] at h; cases h
      | some m => rw [q] at h; cases h; simpa using pos_get q
  | .va d :: rs, i, k, h => by
    unfold pos? at h
    cases q : pos? rs i with
    | none => rw [q] at h; cases h
    | some m => rw [q] at h; cases h; simpa using pos_get q
  | .fr d :: rs, i, k, h => by
    unfold pos? at h
    cases q : pos? rs i with
    | none => rw [q] at h; cases h
    | some m => rw [q] at h; cases h; simpa using pos_get q
theorem pos_some : ∀ {rs : List Rs} {i k : Nat}, rs[k]? = some (.al i) → ∃ m, pos? rs i = some m
  | [], i, k, h => by simp at h
  | r :: rs, i, 0, h => by
    simp at h; subst h
    exact ⟨0, by simp [pos?]⟩
  | r :: rs, i, k + 1, h => by
    obtain ⟨m, q⟩ := pos_some (rs := rs) (i := i) (k := k) (by simpa using h)
    cases r with
    | va d => exact ⟨m + 1, by simp [pos?, q]⟩
    | fr d => exact ⟨m + 1, by simp [pos?, q]⟩
    | al j =>
      by_cases e : j = i
      · exact ⟨0, by simp [pos?, e]⟩
      · exact ⟨m + 1, by simp [pos?, q, e]⟩
theorem nd_al : ∀ {rs : List Rs} {i k l : Nat}, alNd rs = true → rs[k]? = some (.al i) → rs[l]? = some (.al i) → k = l
  | [], i, k, l, _, h, _ => by simp at h
  | r :: rs, i, 0, 0, _, _, _ => rfl
  | r :: rs, i, k + 1, l + 1, n, h, h' => by
    have n' : alNd rs = true := by
      cases r with
      | va d => exact n
      | fr d => exact n
      | al j => simp only [alNd, Bool.and_eq_true] at n; exact n.2
    exact congrArg (· + 1) (nd_al (i := i) n' (by simpa using h) (by simpa using h'))
  | r :: rs, i, 0, l + 1, n, h, h' => by
    simp at h; subst h
    simp only [alNd, Bool.and_eq_true] at n
    obtain ⟨m, q⟩ := pos_some (rs := rs) (i := i) (k := l) (by simpa using h')
    rw [q] at n; simp at n
  | r :: rs, i, k + 1, 0, n, h', h => by
    simp at h; subst h
    simp only [alNd, Bool.and_eq_true] at n
    obtain ⟨m, q⟩ := pos_some (rs := rs) (i := i) (k := k) (by simpa using h')
    rw [q] at n; simp at n
def mCall (n : Nat) (sem : M Rs) (ms : M (List Rs)) : M Rs := fun ρ => bnd (ms ρ) fun rs ρ1 => if (decide (rs.length = n) && alNd rs && (rs.map (toArg ρ1)).all argOk) = true then (match sem (rs.map (toArg ρ1)) with
    | .ok (.va d) as' => .ok (.va d) (backC rs as' 0 ρ1)
    | .ok (.fr d) as' => .ok (.fr d) (backC rs as' 0 ρ1)
    | .er e as' => .er e (backC rs as' 0 ρ1)
    | _ => .stuck)
  else .stuck
theorem paired_get {α β : Type} {F : α → β → Prop} : ∀ {l : List α} {m : List β} {i : Nat} {a : α}, Paired F l m → l[i]? = some a → ∃ b, m[i]? = some b ∧ F a b
  | _, _, i, a, .nil, h => by simp at h
  | _, _, 0, a, .cons h t, e => by simp at e; subst e; exact ⟨_, rfl, h⟩
  | _, _, i + 1, a, .cons h t, e => by
    obtain ⟨b, e1, f⟩ := paired_get (i := i) (a := a) t (by simpa using e)
    exact ⟨b, by simpa using e1, f⟩
section
variable {K : PySem.W.Frag} {W : WX} {σ : L2.St} {H0 Hb Hb' H H' : Hp} {ρ : Rho} {rs : List Rs} {vs : List V} {as' : List Sl}
theorem toArg_own {k : Nat} {b : Addr} (S : StR K Hb σ ρ H) (p : Paired (RsR K H0 Hb σ H) rs vs) (h : OwnAt (vs.map some) (rs.map (toArg ρ)) k b) : ∃ i, rs[k]? = some (.al i) ∧ OwnAt σ ρ i b := by
  obtain ⟨e, io, xs, q⟩ := h
  rw [List.getElem?_map] at q
  cases er : rs[k]? with
  | none => rw [er] at q; cases q
  | some r =>
    rw [er] at q
    obtain ⟨v, ev, hv⟩ := paired_get p er
    rw [List.getElem?_map, ev] at e
    cases e
    cases r with
    | va d => cases q
    | fr d => cases q
    | al i =>
      have hv : σ[i]? = some (some (.ref b)) := hv
      simp only [Option.map_some, toArg] at q
      cases eρ : ρ[i]? with
      | none => rw [eρ] at q; cases q
      | some sl =>
        cases sl with
        | un => rw [eρ] at q; cases q
        | va d => rw [eρ] at q; cases q
        | ow io' ys => exact ⟨i, rfl, hv, io', ys, eρ⟩
theorem callee_st (S : StR K Hb σ ρ H) (p : Paired (RsR K H0 Hb σ H) rs vs) (nd : alNd rs = true) : StR K Hb (vs.map some) (rs.map (toArg ρ)) H := by
  have hl := Paired.length p
  refine ⟨S.sub, by simp [hl], fun k s e => ?_, fun k l b hk hl => ?_⟩
  · rw [List.getElem?_map] at e
    cases er : rs[k]? with
    | none => rw [er] at e; cases e
    | some r =>
      rw [er] at e
      obtain ⟨v, ev, hv⟩ := paired_get p er
      refine ⟨some v, by rw [List.getElem?_map, ev]; rfl, ?_⟩
      simp only [Option.map_some, Option.some.injEq] at e
      subst e
      cases r with
      | va d => exact ⟨v, rfl, hv⟩
      | fr d => trivial
      | al i =>
        have hv : σ[i]? = some (some v) := hv
        unfold toArg
        simp only
        cases eρ : ρ[i]? with
        | none => trivial
        | some sl =>
          cases sl with
          | un => trivial
          | va d =>
            obtain ⟨w, e1, i1⟩ := S.va eρ
            rw [hv] at e1; cases e1
            exact ⟨v, rfl, i1⟩
          | ow io xs =>
            obtain ⟨q, us, _, e1, h1, h2, h3⟩ := S.own eρ
            rw [hv] at e1; cases e1
            exact ⟨q, us, rfl, h1, h2, h3⟩
  · obtain ⟨i, e1, o1⟩ := toArg_own S p hk
    obtain ⟨j, e2, o2⟩ := toArg_own S p hl
    have := S.dis i j b o1 o2
    subst this
    exact nd_al nd e1 e2
theorem upd1_kind {rs : List Rs} {as' : List Sl} {i : Nat} {s : Sl} {io : Bool} {xs : List DL.D} (h : upd1 rs as' i s = .ow io xs) : ∃ ys, s = .ow io ys := by
  cases s with
  | un => cases h
  | va d => cases h
  | ow io' zs =>
    unfold upd1 at h
    simp only at h
    split at h
    · split at h <;> cases h <;> exact ⟨_, rfl⟩
    · cases h; exact ⟨_, rfl⟩
theorem caller_st (S : StR K Hb σ ρ H) (p : Paired (RsR K H0 Hb σ H) rs vs) (nd : alNd rs = true) (s : Ste K (vs.map some) Hb (rs.map (toArg ρ)) H Hb' as' H') : Ste K σ Hb ρ H Hb' (backC rs as' 0 ρ) H' := by
  have get : ∀ i, (backC rs as' 0 ρ)[i]? = (ρ[i]?).map (upd1 rs as' i) := fun i => by rw [backC_get, Nat.zero_add]
  have ownc : ∀ {b}, Own (vs.map some) (rs.map (toArg ρ)) b → Own σ ρ b := fun ⟨k, h⟩ => let ⟨i, _, o⟩ := toArg_own S p h; ⟨i, o⟩
  have own : ∀ {j b}, OwnAt σ (backC rs as' 0 ρ) j b → OwnAt σ ρ j b := fun {j b} h => by
    obtain ⟨e, io, xs, q⟩ := h
    rw [get] at q
    cases eρ : ρ[j]? with
    | none => rw [eρ] at q; cases q
    | some sl =>
      rw [eρ] at q
      simp only [Option.map_some, Option.some.injEq] at q
      obtain ⟨ys, rfl⟩ := upd1_kind q
      exact ⟨e, io, ys, eρ⟩
  have up : ∀ i (io : Bool) (xs : List DL.D), ∃ ys, upd1 rs as' i (.ow io xs) = .ow io ys := fun i io xs => by
    unfold upd1
    simp only
    split
    · split <;> exact ⟨_, rfl⟩
    · exact ⟨_, rfl⟩
  refine ⟨fun b o e n => s.fr b o e (fun z => n (ownc z)), s.th, s.gr, fun b o e n q => s.gn b o e n (fun z => q (ownc z)), fun b ⟨j, h⟩ => ⟨j, own h⟩, fun i xs e => ?_, ⟨s.st.sub, by rw [backC_len]; exact S.len, fun i sl e => ?_, fun i j b hi hj => S.dis i j b (own hi) (own hj)⟩⟩
  · obtain ⟨ys, h⟩ := up i true xs
    exact ⟨ys, by rw [get, e]; simp [h]⟩
  · rw [get] at e
    cases eρ : ρ[i]? with
    | none => rw [eρ] at e; cases e
    | some s0 =>
      rw [eρ] at e
      simp only [Option.map_some, Option.some.injEq] at e
      subst e
      obtain ⟨o, e1, e2⟩ := S.sl i s0 eρ
      refine ⟨o, e1, ?_⟩
      cases s0 with
      | un => trivial
      | va d =>
        obtain ⟨v, e3, i3⟩ := e2
        exact ⟨v, e3, Is.mono s.gr _ _ i3⟩
      | ow io xs =>
        obtain ⟨q, us, rfl, h1, h2, h3⟩ := e2
        -- the list stands still, if it wasn't handed over
        have still : ¬ Own (vs.map some) (rs.map (toArg ρ)) q → SlR K Hb' H' (some (.ref q)) (.ow io xs) := fun n => ⟨q, us, rfl, s.fr q _ h1 n, IsA.mono s.gr _ _ h2, s.gn q _ h1 h3 n⟩
        unfold upd1
        simp only
        cases ep : pos? rs i with
        | none =>
          refine still fun ⟨k, h⟩ => ?_
          obtain ⟨j, e3, o3⟩ := toArg_own S p h
          have := S.dis i j q ⟨e1, io, xs, eρ⟩ o3
          subst this
          obtain ⟨m, q2⟩ := pos_some e3
          rw [ep] at q2; cases q2
        | some k =>
          have er := pos_get ep
          obtain ⟨v, ev, hv⟩ := paired_get p er
          have hv : σ[i]? = some (some v) := hv
          rw [e1] at hv; cases hv
          have e4 : (rs.map (toArg ρ))[k]? = some (.ow true xs) := by rw [List.getElem?_map, er]; simp [toArg, eρ]
          obtain ⟨ys, e5⟩ := s.io k xs e4
          simp only [e5]
          obtain ⟨q', us', _, e6, h1', h2', h3'⟩ := s.st.own e5
          rw [List.getElem?_map, ev] at e6; cases e6
          exact ⟨q, us', rfl, h1', h2', h3'⟩
end
section
variable {X : Cx} {W : WX} {σ : L2.St} {H : Hp}
def PassW (X : Cx) (W : WX) : Prop := ∀ σ, PassesAt (L2.CX X.prog X.w) X σ (WE W σ)
theorem passW_of (tk : Takes X W) : PassW X W := fun σ => passAt tk σ
theorem passW_none : PassW X (fun _ _ _ _ => False) := fun σ => fun _ _ _ _ _ _ h => by
  obtain ⟨_, _, _, _, _, _, _, _, _, _, _, _, z⟩ := h
  exact z.elim
theorem dm_call {k n : Nat} {f : Addr} {fd : FuncData} {ps : List Str} {x : Str} {p pos : Pos} {e : Expr} {es : List Expr} {sem : M Rs} {ms : M (List Rs)} (F : FnOk X.prog X.w X.K X.mg X.base (L2.CX X.prog X.w) k f fd ps (spD X.K n sem)) (hr : Room k X.A) (hp : PassW X W) (hg : Gl X x) (hm : X.mg x = some (.ref f))
    (hk : PySem.W.keepIn X.K (.ref f) = true) (hb : Binds X.K fd ps []) (ha : PA X (e :: es) (tA X.K W ms)) (hdb : (x == ("__debug__" : Str)) = false := by decide) (he : starEach (e :: es) X.env = (false, eval e X.env) :: starEach es X.env := by rfl) (hpl : (backTo pos (starEach es X.env)).any (·.1) = false := by rfl) :
    PE X (.Call (.Name x p) (e :: es) [] pos) (tM X.K W (mCall n sem ms)) := by
  refine PE.imp (pe_callS F hr hg hm hk hb hp ha hdb he hpl) fun σ H Q h => ?_
  obtain ⟨Hb, ρ, S, P⟩ := h
  refine ⟨Hb, ρ, S, ?_⟩
  unfold mCall at P
  simp only [bnd] at P
  cases ea : ms ρ with
  | stuck => rw [ea] at P; exact P
  | er e ρ1 => rw [ea] at P; exact P
  | ok rs ρ1 =>
    rw [ea] at P
    intro vs H1 Hb1 s1 r1
    simp only at P
    by_cases hc : (decide (rs.length = n) && alNd rs && (rs.map (toArg ρ1)).all argOk) = true
    · rw [if_pos hc] at P
      simp only [Bool.and_eq_true, decide_eq_true_eq] at hc
      obtain ⟨⟨hl, nd⟩, ao⟩ := hc
      refine ⟨by rw [← Paired.length r1]; exact hl, Hb1, rs.map (toArg ρ1), callee_st s1.st r1 nd, ao, ?_⟩
      cases es : sem (rs.map (toArg ρ1)) with
      | stuck => rw [es] at P; exact P
      | er e as' =>
        rw [es] at P
        exact fun d H2 Hb2 s2 ex => P d H2 Hb2 (s1.trans (caller_st s1.st r1 nd s2)) ex
      | ok r as' =>
        rw [es] at P
        cases r with
        | al i => exact P.elim
        | va d => exact fun v H2 Hb2 s2 rr => P v H2 Hb2 (s1.trans (caller_st s1.st r1 nd s2)) ((RsR.some rr).older s1.th)
        | fr xs => exact fun v H2 Hb2 s2 rr => P v H2 Hb2 (s1.trans (caller_st s1.st r1 nd s2)) ((RsR.some rr).older s1.th)
    · rw [if_neg hc] at P; exact P.elim
end
end DL

namespace DL
open PySem L2 PyProof.Rows
/-! ### what is walked -/
structure ItD (K : PySem.W.Frag) (Hb0 : Hp) (J : It) (ds : List DL.D) : Prop where
  go : ∀ Hb H i, Same Hb0 Hb → Same Hb H → i < ds.length → J.go i H
  yld : ∀ Hb H i x H' d, Same Hb0 Hb → Same Hb H → J.yld i H x H' → ds[i]? = some d → ∃ Hb', Gro Hb H Hb' H' ∧ Is K Hb' d x
  stop : ∀ Hb H, Same Hb0 Hb → Same Hb H → J.stop ds.length H
def PostI (K : PySem.W.Frag) (W : WX) (Hb : Hp) (σ : L2.St) (ρ : Rho) (H : Hp) (R : It → Hp → Prop) : Res (List DL.D) → Prop
  | .ok ds ρ1 => ∀ J H1 Hb1, Ste K σ Hb ρ H Hb1 ρ1 H1 → ItD K Hb1 J ds → R J H1
  | .er e ρ' => ∀ (d : Value × Option Addr) H' Hb', Ste K σ Hb ρ H Hb' ρ' H' → ExR K Hb' H' e d → W d.1 d.2 σ H'
  | .stuck => False
def tI (K : PySem.W.Frag) (W : WX) (m : M (List DL.D)) : TI := fun σ H R => ∃ Hb ρ, StR K Hb σ ρ H ∧ PostI K W Hb σ ρ H R (m ρ)
section
variable {X : Cx} {tg : Expr} {K : PySem.W.Frag} {W : WX} {σ : L2.St} {H : Hp}
theorem PI.imp {iter : Expr} {t t' : TI} (h : PI X tg iter t) (i : ∀ σ H R, t' σ H R → t σ H R) : PI X tg iter t' := ⟨fun pins s σ H R I q => h.run pins s σ H R I (i σ H R q)⟩
theorem PI.or {iter : Expr} {t t' : TI} (h : PI X tg iter t) (h' : PI X tg iter t') : PI X tg iter (fun σ H R => t σ H R ∨ t' σ H R) := ⟨fun pins s σ H R I q => by
  rcases q with q | q
  · exact h.run pins s σ H R I q
  · exact h'.run pins s σ H R I q⟩
/-- a list or a tuple -/
def mIter (a : M Rs) : M (List DL.D) := fun ρ => bnd (a ρ) fun r ρ1 => match keepR ρ1 r with
  | some (.lst ds, ρ2) => .ok ds ρ2
  | some (.tup ds, ρ2) => .ok ds ρ2
  | _ => .stuck
theorem itl_is {Hb0 : Hp} {a : Addr} {vs : List V} {ds : List DL.D} (h : SqL K Hb0 a vs) (i : IsA K Hb0 ds vs) : ItD K Hb0 (Itl K a) ds := by
  have sq : ∀ {Hb H}, Same Hb0 Hb → Same Hb H → SqL K H a vs := fun s1 s2 => Same.seq s2 (Same.seq s1 h)
  refine ⟨fun Hb H j s1 s2 hj => ?_, fun Hb H j x H' d s1 s2 y e => ?_, fun Hb H s1 s2 => ⟨vs, sq s1 s2, by rw [i.length]; exact Nat.le_refl _⟩⟩
  · obtain ⟨v, ev, _⟩ := i.get (List.getElem?_eq_getElem hj)
    exact ⟨vs, v, sq s1 s2, ev⟩
  · obtain ⟨rfl, y⟩ := y
    obtain ⟨v, ev, iv⟩ := i.get e
    have := y vs (sq s1 s2)
    rw [ev] at this; cases this
    exact ⟨Hb, Gro.refl s2, Is.mono s1 _ _ iv⟩
theorem itt_is {Hb0 : Hp} {a : Addr} {vs : List V} {ds : List DL.D} (h : SqT K Hb0 a vs) (i : IsA K Hb0 ds vs) : ItD K Hb0 (Itt K a) ds := by
  have sq : ∀ {Hb H}, Same Hb0 Hb → Same Hb H → SqT K H a vs := fun s1 s2 => Same.tup s2 (Same.tup s1 h)
  refine ⟨fun Hb H j s1 s2 hj => ?_, fun Hb H j x H' d s1 s2 y e => ?_, fun Hb H s1 s2 => ⟨vs, sq s1 s2, by rw [i.length]; exact Nat.le_refl _⟩⟩
  · obtain ⟨v, ev, _⟩ := i.get (List.getElem?_eq_getElem hj)
    exact ⟨vs, v, sq s1 s2, ev⟩
  · obtain ⟨rfl, y⟩ := y
    obtain ⟨v, ev, iv⟩ := i.get e
    have := y vs (sq s1 s2)
    rw [ev] at this; cases this
    exact ⟨Hb, Gro.refl s2, Is.mono s1 _ _ iv⟩
theorem di_seq {l : Expr} {a : M Rs} (hl : PE X l (tM X.K W a)) : PI X tg l (tI X.K W (mIter a)) := by
  refine PI.imp (DL.PI.or (pi_list hl) (pi_tup hl)) fun σ H R h => ?_
  obtain ⟨Hb, ρ, S, P⟩ := h
  unfold mIter at P
  cases ea : a ρ with
  | stuck => rw [ea] at P; exact P.elim
  | er e ρ1 =>
    rw [ea] at P
    exact .inl ⟨Hb, ρ, S, by rw [ea]; exact P⟩
  | ok r ρ1 =>
    rw [ea] at P
    simp only [bnd] at P
    cases ek : keepR ρ1 r with
    | none => rw [ek] at P; exact P.elim
    | some q =>
      obtain ⟨d, ρ2⟩ := q
      rw [ek] at P
      cases d with
      | lst ds =>
        refine .inl ⟨Hb, ρ, S, by
          rw [ea]
          intro v H1 Hb1 s1 r1
          obtain ⟨Hb2, s2, i2⟩ := keepR_ok S s1 r1 ek
          simp only [Is] at i2
          obtain ⟨p, vs, rfl, h1, i1⟩ := i2
          exact ⟨p, rfl, ⟨vs, Same.seq s2.st.sub h1⟩, P _ H1 Hb2 s2 (itl_is h1 i1)⟩⟩
      | tup ds =>
        refine .inr ⟨Hb, ρ, S, by
          rw [ea]
          intro v H1 Hb1 s1 r1
          obtain ⟨Hb2, s2, i2⟩ := keepR_ok S s1 r1 ek
          simp only [Is] at i2
          obtain ⟨p, vs, rfl, h1, i1⟩ := i2
          exact ⟨p, rfl, ⟨vs, Same.tup s2.st.sub h1⟩, P _ H1 Hb2 s2 (itt_is h1 i1)⟩⟩
      | _ => exact P.elim
/-- range(n), range(a, b) -/
def rngL (lo : Int) (n : Nat) : List DL.D := (List.range n).map fun (i : Nat) => DL.D.int (lo + (i : Int))
def big62 : Int := 4611686018427387904
def rngD1 : List DL.D → Option (List DL.D)
  | [.int j] => if -big62 ≤ j ∧ j < big62 then some (rngL 0 j.toNat) else none
  | _ => none
def rngD2 : List DL.D → Option (List DL.D)
  | [.int i, .int j] => if (-big62 ≤ i ∧ i < big62) ∧ (-big62 ≤ j ∧ j < big62) then some (rngL i (j - i).toNat) else none
  | _ => none
def mRng (f : List DL.D → Option (List DL.D)) (as : M (List Rs)) : M (List DL.D) := fun ρ => bnd (as ρ) fun rs ρ1 => match rds ρ1 rs with
  | some ds => (match f ds with
    | some xs => .ok xs ρ1
    | none => .stuck)
  | none => .stuck
theorem itr_is {Hb0 : Hp} {lo : Int} {n : Nat} : ItD K Hb0 (Itr lo n) (rngL lo n) := by
  have hl : (rngL lo n).length = n := by simp [rngL]
  refine ⟨fun Hb H j s1 s2 hj => by rw [hl] at hj; exact hj, fun Hb H j x H' d s1 s2 y e => ?_, fun Hb H s1 s2 => by rw [hl]; exact Nat.le_refl _⟩
  obtain ⟨rfl, rfl⟩ := y
  have hj : j < n := by have := (List.getElem?_eq_some_iff.mp e).1; omega
  unfold rngL at e
  rw [List.getElem?_map, List.getElem?_range hj] at e
  cases e
  exact ⟨Hb, Gro.refl s2, Is.intI⟩
theorem tI_rng {f : List DL.D → Option (List DL.D)} {as : M (List Rs)} {R : It → Hp → Prop} {Rv : List V → Hp → Prop} (h : tI K W (mRng f as) σ H R)
    (k : ∀ Hb H1 ds vs xs, Same Hb H1 → Paired (RdR K Hb H1) ds vs → f ds = some xs → (∀ J, ItD K Hb J xs → R J H1) → Rv vs H1) : tA K W as σ H Rv := by
  obtain ⟨Hb, ρ, S, P⟩ := h
  refine ⟨Hb, ρ, S, ?_⟩
  unfold mRng at P
  cases ea : as ρ with
  | stuck => rw [ea] at P; exact P
  | er e ρ1 => rw [ea] at P; exact P
  | ok rs ρ1 =>
    rw [ea] at P
    intro vs H1 Hb1 s1 r1
    simp only [bnd] at P
    cases ek : rds ρ1 rs with
    | none => rw [ek] at P; exact P.elim
    | some ds =>
      rw [ek] at P
      simp only at P
      cases er : f ds with
      | none => rw [er] at P; exact P.elim
      | some xs =>
        rw [er] at P
        exact k Hb1 H1 ds vs xs s1.st.sub (rds_ok s1.st r1 ek) er fun J hJ => P J H1 Hb1 s1 hJ
theorem di_rng1 {a : Expr} {as : M (List Rs)} {p pos : Pos} (hg : Gl X "range") (hm : X.mg "range" = none) (ha : PA X [a] (tA K W as)) (hs : starEach [a] X.env = [(false, eval a X.env)] := by rfl) : PI X tg (.Call (.Name "range" p) [a] [] pos) (tI K W (mRng rngD1 as)) := by
  refine PI.imp (pi_range1 hg hm ha hs) fun σ H R h => tI_rng h fun Hb H1 ds vs xs sb pr er go => ?_
  unfold rngD1 at er
  split at er
  · rename_i j
    by_cases hc : -big62 ≤ j ∧ j < big62
    · rw [if_pos hc] at er; cases er
      obtain ⟨v, rfl, h⟩ := pair1 pr
      rw [h.int]
      have h1 := hc.1
      have h2 := hc.2
      unfold big62 at h1 h2
      exact ⟨j, rfl, by omega, by omega, go _ itr_is⟩
    · rw [if_neg hc] at er; cases er
  · cases er
theorem di_rng2 {a b : Expr} {as : M (List Rs)} {p pos : Pos} (hg : Gl X "range") (hm : X.mg "range" = none) (ha : PA X [a, b] (tA K W as)) (hs : starEach [a, b] X.env = [(false, eval a X.env), (false, eval b X.env)] := by rfl) (hs2 : starEach [b] X.env = [(false, eval b X.env)] := by rfl) : PI X tg (.Call (.Name "range" p) [a, b] [] pos) (tI K W (mRng rngD2 as)) := by
  refine PI.imp (pi_range2 hg hm ha hs hs2) fun σ H R h => tI_rng h fun Hb H1 ds vs xs sb pr er go => ?_
  unfold rngD2 at er
  split at er
  · rename_i i j
    by_cases hc : (-big62 ≤ i ∧ i < big62) ∧ (-big62 ≤ j ∧ j < big62)
    · rw [if_pos hc] at er; cases er
      obtain ⟨v, w, rfl, h, h'⟩ := pair2 pr
      rw [h.int, h'.int]
      obtain ⟨⟨h1, h2⟩, h3, h4⟩ := hc
      unfold big62 at h1 h2 h3 h4
      exact ⟨i, j, rfl, ⟨by omega, by omega, by omega, by omega⟩, go _ itr_is⟩
    · rw [if_neg hc] at er; cases er
  · cases er

/-! ### targets -/
/-- what a target makes of an item -/
def tG (K : PySem.W.Frag) (g : DL.D → Rho → Option Rho) : TG := fun v σ H Q => ∃ Hb ρ d ρ', StR K Hb σ ρ H ∧ Is K Hb d v ∧ g d ρ = some ρ' ∧ ∀ σ2, SteS K Hb σ ρ H Hb σ2 ρ' H → Q σ2 H
def gN (i : Nat) (d : DL.D) (ρ : Rho) : Option Rho := if i < ρ.length ∧ isIo ρ[i]? = false then some (ρ.set i (.va d)) else none
def gT (is : List Nat) (d : DL.D) (ρ : Rho) : Option Rho := match d with
  | .tup ds => setVs is ds ρ
  | _ => none
theorem PG.imp {tgt : Expr} {t t' : TG} (h : PG X tgt t) (i : ∀ v σ H Q, t' v σ H Q → t v σ H Q) : PG X tgt t' := ⟨fun pins s σ H v u Q I r q => h.run pins s σ H v u Q I r (i v σ H Q q)⟩
theorem dg_name {i : Nat} {x : Str} {pos : Pos} (hN : X.N.Nodup) (hi : X.N[i]? = some x) (hx : Loc X.env.scope x) (hf : X.fn x = true ∨ X.env.scope.names.lookup x = some .local := by first | exact .inl rfl | exact .inr rfl | assumption) : PG X (.Name x pos) (tG K (gN i)) := by
  refine PG.imp (pg_name hN hi hx hf) fun v σ H Q h => ?_
  obtain ⟨Hb, ρ, d, ρ', S, hv, e, q⟩ := h
  unfold gN at e
  by_cases hc : i < ρ.length ∧ isIo ρ[i]? = false
  · rw [if_pos hc] at e; cases e
    exact q _ (SteS.storeV S (Ste.refl S) hc.1 (nio_of hc.2) hv)
  · rw [if_neg hc] at e; cases e
theorem dg_tup {is : List Nat} {es : List Expr} {k : Nat} {pos : Pos} (hc : X.calm = true) (h : PGs X es (gNs is)) (hn : (assignEach es X.env).length = is.length := by rfl) (hst : (assignEach es X.env).findIdx? (·.1) = none := by rfl) : PG X (.Tuple es k pos) (tG X.K (gT is)) := by
  refine PG.imp (pg_tup hc h hn hst) fun v σ H Q h => ?_
  obtain ⟨Hb, ρ, d, ρ', S, hv, e, q⟩ := h
  unfold gT at e
  cases d with
  | tup ds =>
    simp only [Is] at hv
    obtain ⟨a, vs, rfl, h1, i1⟩ := hv
    refine ⟨a, vs, rfl, Same.tup S.sub h1, ?_, setVs_ok S i1 e q⟩
    rw [i1.length, setVs_len e]
  | _ => cases e

/-! ### for -/
def forL (g : DL.D → Rho → Option Rho) (nb : N) : List DL.D → N
  | [], ρ => .nx ρ
  | d :: ds, ρ => match g d ρ with
    | none => .stuck
    | some ρ1 => (match nb ρ1 with
      | .nx ρ2 => forL g nb ds ρ2
      | .ct ρ2 => forL g nb ds ρ2
      | .bk ρ2 => .nx ρ2
      | .rt r ρ2 => .rt r ρ2
      | .er e ρ2 => .er e ρ2
      | .stuck => .stuck)
def nFor (m : M (List DL.D)) (g : DL.D → Rho → Option Rho) (nb : N) : N := fun ρ => ebnd (m ρ) fun ds ρ1 => forL g nb ds ρ1
theorem dn_for {tgt iter : Expr} {body : List Stmt} {m : M (List DL.D)} {g : DL.D → Rho → Option Rho} {nb : N} {pos : Pos} (hp : PassesOwn (model X.prog X.w) X.A X.env X.xe) (hc : X.calm = true) (hi : PI X tgt iter (tI K W m)) (hg : PG X tgt (tG K g)) (hb : PSs X body (tN K W nb))
    (hs : ∀ x, foldedSetIterable iter X.env x = pure x := by intro _; rfl) : PS X (.For tgt iter body [] pos) (tN K W (nFor m g nb)) := by
  refine PS.imp (ps_for hp hc hi hg hb hs) fun D σ0 H0 h => ?_
  obtain ⟨Hb, ρ, S, P⟩ := h
  refine ⟨Hb, ρ, S, ?_⟩
  unfold nFor at P
  cases em : m ρ with
  | stuck => rw [em] at P; exact P
  | er e ρ1 => rw [em] at P; exact fun d H1 Hb1 s1 ex => P d σ0 H1 Hb1 (s1.toS S) ex
  | ok ds ρ1 =>
    rw [em] at P
    intro J H1 Hb1 s1 hJ
    have P1 := PostS.back (s1.toS S) P
    refine ⟨fun i m σ H => m = ds.length - i ∧ i ≤ ds.length ∧ ∃ Hb2 ρ2, StR K Hb2 σ ρ2 H ∧ Same Hb1 Hb2 ∧ PostS K W Hb2 σ ρ2 H D (forL g nb (ds.drop i) ρ2), ⟨ds.length, by simp, Nat.zero_le _, Hb1, ρ1, s1.st, Same.refl _, P1⟩, ?_⟩
    rintro i m σ H ⟨rfl, hi, Hb2, ρ2, S2, sm, P2⟩
    by_cases hlt : i < ds.length
    · refine .inr ⟨hJ.go Hb2 H i sm S2.sub hlt, fun σ' H' => ∃ Hb3 ρ3, StR K Hb3 σ' ρ3 H' ∧ Same Hb1 Hb3 ∧ PostS K W Hb3 σ' ρ3 H' D (forL g nb (ds.drop (i + 1)) ρ3), fun σ' H' ⟨Hb3, ρ3, h1, h2, h3⟩ => ⟨ds.length - (i + 1), by omega, rfl, hlt, Hb3, ρ3, h1, h2, h3⟩, fun x H' y => ?_⟩
      obtain ⟨Hb3, gr, hx⟩ := hJ.yld Hb2 H i x H' ds[i] sm S2.sub y (List.getElem?_eq_getElem hlt)
      have ed : ds.drop i = ds[i] :: ds.drop (i + 1) := List.drop_eq_getElem_cons hlt
      rw [ed] at P2
      unfold forL at P2
      have P3 := PostS.back ((gr.ste S2).toS S2) P2
      cases eg : g ds[i] ρ2 with
      | none => rw [eg] at P3; exact P3.elim
      | some ρ3 =>
        rw [eg] at P3
        simp only at P3
        refine ⟨Hb3, ρ2, ds[i], ρ3, S2.grow gr, hx, eg, fun σ2 s2 => ⟨Hb3, ρ3, s2.st, ?_⟩⟩
        have P4 := PostS.back s2 P3
        have sm3 : Same Hb1 Hb3 := sm.trans gr.gr
        cases eb : nb ρ3 with
        | stuck => rw [eb] at P4; exact P4
        | nx ρ4 => rw [eb] at P4; exact fun σ4 H4 Hb4 s4 => ⟨Hb4, ρ4, s4.st, sm3.trans s4.gr, PostS.back s4 P4⟩
        | ct ρ4 => rw [eb] at P4; exact fun σ4 H4 Hb4 s4 => ⟨Hb4, ρ4, s4.st, sm3.trans s4.gr, PostS.back s4 P4⟩
        | bk ρ4 => rw [eb] at P4; exact P4
        | rt r ρ4 => rw [eb] at P4; exact P4
        | er e ρ4 => rw [eb] at P4; exact P4
    · have e : i = ds.length := by omega
      subst e
      rw [List.drop_length] at P2
      exact .inl ⟨hJ.stop Hb2 H sm S2.sub, P2 σ H Hb2 (SteS.refl S2)⟩
end
end DL

namespace DL
open PySem L2 PyProof.Rows
/-! ### list comprehensions -/
def wipeR (ρ : Rho) : List Nat → Rho
  | [] => ρ
  | v :: vs => (wipeR ρ vs).set v .un
/-- the slots at vs as they were -/
def restoR (ρ0 ρ : Rho) : List Nat → Rho
  | [] => ρ
  | v :: vs => match ρ0[v]? with
    | some s => (restoR ρ0 ρ vs).set v s
    | none => restoR ρ0 ρ vs
theorem wipe_get {σ : L2.St} {i : Nat} : ∀ {vs : List Nat}, (wipe σ vs)[i]? = if i ∈ vs ∧ i < σ.length then some none else σ[i]?
  | [] => by simp [wipe]
  | v :: vs => by
    unfold wipe
    by_cases hv : v = i
    · subst hv
      by_cases hl : v < σ.length
      · rw [List.getElem?_set_self (by rw [wipe_length]; exact hl), if_pos ⟨List.mem_cons_self, hl⟩]
      · rw [List.getElem?_eq_none (by rw [List.length_set, wipe_length]; omega), if_neg (fun z => hl z.2), List.getElem?_eq_none (by omega)]
    · rw [List.getElem?_set_ne hv, wipe_get]
      by_cases hl : i < σ.length
      · by_cases hm : i ∈ vs
        · rw [if_pos ⟨hm, hl⟩, if_pos ⟨List.mem_cons_of_mem _ hm, hl⟩]
        · rw [if_neg (fun z => hm z.1), if_neg (fun z => (List.mem_cons.mp z.1).elim (fun e => hv e.symm) hm)]
      · rw [if_neg (fun z => hl z.2), if_neg (fun z => hl z.2)]
theorem wipeR_len {ρ : Rho} : ∀ {vs : List Nat}, (wipeR ρ vs).length = ρ.length
  | [] => rfl
  | v :: vs => by unfold wipeR; rw [List.length_set, wipeR_len]
theorem wipeR_get {ρ : Rho} {i : Nat} : ∀ {vs : List Nat}, (wipeR ρ vs)[i]? = if i ∈ vs ∧ i < ρ.length then some .un else ρ[i]?
  | [] => by simp [wipeR]
  | v :: vs => by
    unfold wipeR
    by_cases hv : v = i
    · subst hv
      by_cases hl : v < ρ.length
      · rw [List.getElem?_set_self (by rw [wipeR_len]; exact hl), if_pos ⟨List.mem_cons_self, hl⟩]
      · rw [List.getElem?_eq_none (by rw [List.length_set, wipeR_len]; omega), if_neg (fun z => hl z.2), List.getElem?_eq_none (by omega)]
    · rw [List.getElem?_set_ne hv, wipeR_get]
      by_cases hl : i < ρ.length
      · by_cases hm : i ∈ vs
        · rw [if_pos ⟨hm, hl⟩, if_pos ⟨List.mem_cons_of_mem _ hm, hl⟩]
        · rw [if_neg (fun z => hm z.1), if_neg (fun z => (List.mem_cons.mp z.1).elim (fun e => hv e.symm) hm)]
      · rw [if_neg (fun z => hl z.2), if_neg (fun z => hl z.2)]
theorem restoR_len {ρ0 ρ : Rho} : ∀ {vs : List Nat}, (restoR ρ0 ρ vs).length = ρ.length
  | [] => rfl
  | v :: vs => by
    unfold restoR
    split
    · rw [List.length_set, restoR_len]
    · exact restoR_len
theorem restoR_get {ρ0 ρ : Rho} {i : Nat} (hl : ρ0.length = ρ.length) : ∀ {vs : List Nat}, (restoR ρ0 ρ vs)[i]? = if i ∈ vs then ρ0[i]? else ρ[i]?
  | [] => by simp [restoR]
  | v :: vs => by
    unfold restoR
    have ih := restoR_get (i := i) hl (vs := vs)
    by_cases hv : v = i
    · subst hv
      rw [if_pos List.mem_cons_self]
      cases e : ρ0[v]? with
      | none =>
        simp only
        rw [ih]
        by_cases hm : v ∈ vs
        · rw [if_pos hm]; exact e
        · rw [if_neg hm]
          rw [List.getElem?_eq_none_iff] at e ⊢; omega
      | some s =>
        simp only
        rw [List.getElem?_set_self (by rw [restoR_len, ← hl]; exact (List.getElem?_eq_some_iff.mp e).1)]
    · have hm : (i ∈ v :: vs) ↔ i ∈ vs := ⟨fun z => (List.mem_cons.mp z).elim (fun e => absurd e.symm hv) id, List.mem_cons_of_mem _⟩
      rw [show (if i ∈ v :: vs then ρ0[i]? else ρ[i]?) = if i ∈ vs then ρ0[i]? else ρ[i]? by simp only [hm]]
      split
      · rw [List.getElem?_set_ne hv]; exact ih
      · exact ih
section
variable {K : PySem.W.Frag} {W : WX} {σ σ2 : L2.St} {H H1 H2 Hb Hb1 Hb2 : Hp} {ρ ρ1 ρ2 : Rho} {vs : List Nat}
theorem own_wipe {i : Nat} {b : Addr} (h : OwnAt (wipe σ vs) (wipeR ρ vs) i b) : i ∉ vs ∧ OwnAt σ ρ i b := by
  obtain ⟨e, io, xs, q⟩ := h
  rw [wipeR_get] at q
  rw [wipe_get] at e
  by_cases hc : i ∈ vs ∧ i < ρ.length
  · rw [if_pos hc] at q; cases q
  · rw [if_neg hc] at q
    by_cases hc2 : i ∈ vs ∧ i < σ.length
    · rw [if_pos hc2] at e; cases e
    · rw [if_neg hc2] at e
      refine ⟨fun z => hc2 ⟨z, (List.getElem?_eq_some_iff.mp e).1⟩, e, io, xs, q⟩
theorem own_wipe' {i : Nat} {b : Addr} (hi : i ∉ vs) (h : OwnAt σ ρ i b) : OwnAt (wipe σ vs) (wipeR ρ vs) i b := by
  obtain ⟨e, io, xs, q⟩ := h
  exact ⟨by rw [wipe_get, if_neg (fun z => hi z.1)]; exact e, io, xs, by rw [wipeR_get, if_neg (fun z => hi z.1)]; exact q⟩
theorem StR.wiped (S : StR K Hb σ ρ H) : StR K Hb (wipe σ vs) (wipeR ρ vs) H := by
  refine ⟨S.sub, by rw [wipe_length, wipeR_len]; exact S.len, fun i s e => ?_, fun i j b hi hj => S.dis i j b (own_wipe hi).2 (own_wipe hj).2⟩
  rw [wipeR_get] at e
  by_cases hc : i ∈ vs ∧ i < ρ.length
  · rw [if_pos hc] at e; cases e
    exact ⟨none, by rw [wipe_get, if_pos ⟨hc.1, by rw [S.len]; exact hc.2⟩], trivial⟩
  · rw [if_neg hc] at e
    have hi : i < ρ.length := (List.getElem?_eq_some_iff.mp e).1
    obtain ⟨o, e1, e2⟩ := S.sl i s e
    exact ⟨o, by rw [wipe_get, if_neg (fun z => hc ⟨z.1, hi⟩)]; exact e1, e2⟩
theorem wipe_idem : wipe (wipe σ vs) vs = wipe σ vs := by
  apply List.ext_getElem?
  intro i
  rw [wipe_get, wipe_get, wipe_length]
  split <;> rfl
/-- what is at a new address, unknown to the base, may change -/
theorem StR.updD {p : Addr} {o : HO} (S : StR K Hb σ ρ H) (hb : Hb p = none) (no : ¬ Own σ ρ p) : StR K Hb σ ρ (upd H p o) := by
  refine ⟨fun b u e => ?_, S.len, fun i s e => ?_, S.dis⟩
  · rw [upd_ne (fun z => by subst z; rw [hb] at e; cases e)]; exact S.sub b u e
  · obtain ⟨q, e1, e2⟩ := S.sl i s e
    refine ⟨q, e1, ?_⟩
    cases s with
    | un => trivial
    | va d => exact e2
    | ow io xs =>
      obtain ⟨r, ws, e3, e4, e5, e6⟩ := e2
      subst e3
      exact ⟨r, ws, rfl, by rw [upd_ne (fun z => no (by subst z; exact ⟨i, e1, io, xs, e⟩))]; exact e4, e5, e6⟩
/-- one turn in the block -/
theorem comp_turn {σw : L2.St} {wR ρ3 ρ6 : Rho} {Hb3 Hb6 H3 H5 : Hp} {p : Addr} {o : HO} (A : Ste K σw Hb1 wR H1 Hb2 ρ2 H2) (gr : Gro Hb2 H2 Hb3 H3) (C : SteS K Hb3 σw ρ2 H3 Hb3 σ2 ρ3 H3) (D : Ste K σ2 Hb3 ρ3 H3 Hb6 ρ6 H5)
    (hw : wipe σ2 vs = σw) (hwR : ∀ (i : Nat) xs, wR[i]? = some (Sl.ow true xs) → i ∉ vs) (p1 : H1 p = none) (p2 : Hb6 p = none) (p3 : ¬ Own σ2 ρ6 p) :
    Ste K σw Hb1 wR H1 Hb6 (wipeR ρ6 vs) (upd H5 p o) := by
  have B := gr.ste A.st
  have AB := A.trans B
  have noC : ∀ b, Own σ2 ρ3 b → Own σw ρ2 b := fun b h => by
    rcases C.ow b h with z | z
    · exact z
    · obtain ⟨us, h1, _⟩ := C.st.ownH h
      rw [z] at h1; cases h1
  refine ⟨fun b u e n => ?_, fun b e => ?_, (AB.gr.trans C.gr).trans D.gr, fun b u e n q => ?_, fun b h => ?_, fun i xs e => ?_, ?_⟩
  · have h3 := AB.fr b u e n
    have n3 : ¬ Own σ2 ρ3 b := fun z => n (AB.ow b (noC b z))
    rw [upd_ne (fun z => by subst z; rw [p1] at e; cases e)]
    exact D.fr b u h3 n3
  · have : b ≠ p := fun z => by subst z; rw [upd_same] at e; cases e
    rw [upd_ne this] at e
    exact AB.th b (D.th b e)
  · have h3 := AB.fr b u e q
    have n3 : ¬ Own σ2 ρ3 b := fun z => q (AB.ow b (noC b z))
    exact D.gn b u h3 (AB.gn b u e n q) n3
  · obtain ⟨i, h⟩ := h
    rw [← hw] at h
    exact AB.ow b (noC b (D.ow b ⟨i, (own_wipe h).2⟩))
  · have hi := hwR i xs e
    obtain ⟨ys, e1⟩ := AB.io i xs e
    obtain ⟨_, zs, e2⟩ := C.io i ys e1
    obtain ⟨us, e3⟩ := D.io i zs e2
    exact ⟨us, by rw [wipeR_get, if_neg (fun z => hi z.1)]; exact e3⟩
  · have S1 : StR K Hb6 (wipe σ2 vs) (wipeR ρ6 vs) H5 := D.st.wiped
    rw [hw] at S1
    refine S1.updD p2 fun ⟨i, h⟩ => p3 ?_
    rw [← hw] at h
    exact ⟨i, (own_wipe h).2⟩
/-- behind the block -/
theorem comp_end {Hb2 : Hp} (S : StR K Hb1 σ ρ1 H1) (A : Ste K (wipe σ vs) Hb1 (wipeR ρ1 vs) H1 Hb2 ρ2 H2) : Ste K σ Hb1 ρ1 H1 Hb2 (restoR ρ1 ρ2 vs) H2 := by
  have hl : ρ1.length = ρ2.length := by have h1 := A.st.len; have h2 := S.len; rw [wipe_length] at h1; omega
  have n1 : ∀ b, ¬ Own σ ρ1 b → ¬ Own (wipe σ vs) (wipeR ρ1 vs) b := fun b n ⟨i, h⟩ => n ⟨i, (own_wipe h).2⟩
  have sg : ∀ i, i ∉ vs → (wipe σ vs)[i]? = σ[i]? := fun i hi => by rw [wipe_get, if_neg (fun z => hi z.1)]
  have own : ∀ {i b}, OwnAt σ (restoR ρ1 ρ2 vs) i b → (i ∈ vs ∧ OwnAt σ ρ1 i b) ∨ (i ∉ vs ∧ OwnAt (wipe σ vs) ρ2 i b) := fun {i b} h => by
    obtain ⟨e, io, xs, q⟩ := h
    rw [restoR_get hl] at q
    by_cases hi : i ∈ vs
    · rw [if_pos hi] at q; exact .inl ⟨hi, e, io, xs, q⟩
    · rw [if_neg hi] at q; exact .inr ⟨hi, by rw [sg i hi]; exact e, io, xs, q⟩
  have back : ∀ {j b}, OwnAt (wipe σ vs) ρ2 j b → ∃ k, k ∉ vs ∧ OwnAt σ ρ1 k b := fun {j b} h => by
    obtain ⟨k, hk⟩ := A.ow b ⟨j, h⟩
    exact ⟨k, (own_wipe hk).1, (own_wipe hk).2⟩
  refine ⟨fun b u e n => A.fr b u e (n1 b n), A.th, A.gr, fun b u e n q => A.gn b u e n (n1 b q), fun b ⟨i, h⟩ => ?_, fun i xs e => ?_, ⟨A.st.sub, by rw [restoR_len, ← hl]; exact S.len, fun i s e => ?_, fun i j b hi hj => ?_⟩⟩
  · rcases own h with ⟨_, h⟩ | ⟨_, h⟩
    · exact ⟨i, h⟩
    · obtain ⟨k, _, h2⟩ := back h
      exact ⟨k, h2⟩
  · rw [restoR_get hl]
    by_cases hi : i ∈ vs
    · rw [if_pos hi]; exact ⟨xs, e⟩
    · rw [if_neg hi]
      exact A.io i xs (by rw [wipeR_get, if_neg (fun z => hi z.1)]; exact e)
  · rw [restoR_get hl] at e
    by_cases hi : i ∈ vs
    · rw [if_pos hi] at e
      obtain ⟨o, e1, e2⟩ := S.sl i s e
      refine ⟨o, e1, ?_⟩
      cases s with
      | un => trivial
      | va d =>
        obtain ⟨v, e3, e4⟩ := e2
        exact ⟨v, e3, Is.mono A.gr _ _ e4⟩
      | ow io xs =>
        obtain ⟨q, us, e3, e4, e5, e6⟩ := e2
        subst e3
        have nq : ¬ Own (wipe σ vs) (wipeR ρ1 vs) q := fun ⟨j, hj⟩ => by
          obtain ⟨hj1, hj2⟩ := own_wipe hj
          have := S.dis i j q ⟨e1, io, xs, e⟩ hj2
          exact hj1 (this ▸ hi)
        exact ⟨q, us, rfl, A.fr q _ e4 nq, IsA.mono A.gr _ _ e5, A.gn q _ e4 e6 nq⟩
    · rw [if_neg hi] at e
      obtain ⟨o, e1, e2⟩ := A.st.sl i s e
      exact ⟨o, by rw [← sg i hi]; exact e1, e2⟩
  · rcases own hi with ⟨i1, oi⟩ | ⟨i1, oi⟩
    · rcases own hj with ⟨j1, oj⟩ | ⟨j1, oj⟩
      · exact S.dis i j b oi oj
      · obtain ⟨k, k1, ok⟩ := back oj
        have := S.dis i k b oi ok
        exact absurd i1 (this ▸ k1)
    · rcases own hj with ⟨j1, oj⟩ | ⟨j1, oj⟩
      · obtain ⟨k, k1, ok⟩ := back oi
        have := S.dis j k b oj ok
        exact absurd j1 (this ▸ k1)
      · exact A.st.dis i j b oi oj
end
/-- a comprehension's target: its slots are the block's own -/
def TGd (K : PySem.W.Frag) (vs : List Nat) (tg : TG) (g : DL.D → Rho → Option Rho) : Prop := ∀ (v : V) (σ : L2.St) (H : Hp) (Q : L2.St → Hp → Prop) (Hb : Hp) (ρ : Rho) (d : DL.D) (ρ' : Rho), StR K Hb σ ρ H → Is K Hb d v → g d ρ = some ρ' →
  (∀ σ2, wipe σ2 vs = wipe σ vs → SteS K Hb σ ρ H Hb σ2 ρ' H → Q σ2 H) → tg v σ H Q
theorem wipe_set {σ : L2.St} {vs : List Nat} {i : Nat} {o : Option V} (hi : i ∈ vs) : wipe (σ.set i o) vs = wipe σ vs := by
  apply List.ext_getElem?
  intro j
  rw [wipe_get, wipe_get, List.length_set]
  by_cases hj : j ∈ vs ∧ j < σ.length
  · rw [if_pos hj, if_pos hj]
  · rw [if_neg hj, if_neg hj]
    by_cases hij : i = j
    · subst hij
      have : ¬ i < σ.length := fun z => hj ⟨hi, z⟩
      rw [List.getElem?_eq_none (by rw [List.length_set]; omega), List.getElem?_eq_none (by omega)]
    · rw [List.getElem?_set_ne hij]
theorem tgd_name {K : PySem.W.Frag} {vs : List Nat} {i : Nat} (hi : i ∈ vs) : TGd K vs (gName i) (gN i) := by
  intro v σ H Q Hb ρ d ρ' S hv e q
  unfold gN at e
  by_cases hc : i < ρ.length ∧ isIo ρ[i]? = false
  · rw [if_pos hc] at e; cases e
    exact q _ (wipe_set hi) (SteS.storeV S (Ste.refl S) hc.1 (nio_of hc.2) hv)
  · rw [if_neg hc] at e; cases e
theorem setVs_w {K : PySem.W.Frag} {H : Hp} {Q : L2.St → Hp → Prop} {us : List Nat} : ∀ {is : List Nat} {ds : List DL.D} {vs : List V} {ρ ρ2 : Rho} {σ : L2.St} {Hb : Hp}, (∀ i ∈ is, i ∈ us) → StR K Hb σ ρ H → IsA K Hb ds vs → setVs is ds ρ = some ρ2 → (∀ σ2, wipe σ2 us = wipe σ us → SteS K Hb σ ρ H Hb σ2 ρ2 H → Q σ2 H) → gNs is vs σ H Q
  | [], [], vs, ρ, ρ2, σ, Hb, _, S, i, e, q => by
    simp only [IsA] at i; subst i; cases e
    exact ⟨rfl, q σ rfl (SteS.refl S)⟩
  | i :: is, d :: ds, vs, ρ, ρ2, σ, Hb, hu, S, h, e, q => by
    simp only [IsA] at h
    obtain ⟨v, r, rfl, h1, h2⟩ := h
    unfold setVs at e
    by_cases hc : i < ρ.length ∧ isIo ρ[i]? = false
    · rw [if_pos hc] at e
      have s := SteS.storeV S (Ste.refl S) hc.1 (nio_of hc.2) h1
      exact ⟨v, r, rfl, setVs_w (fun j hj => hu j (List.mem_cons_of_mem _ hj)) s.st h2 e fun σ2 w s2 => q σ2 (w.trans (wipe_set (hu i List.mem_cons_self))) (s.trans s2)⟩
    · rw [if_neg hc] at e; cases e
  | [], d :: ds, vs, ρ, ρ2, σ, Hb, _, S, i, e, q => by cases e
  | i :: is, [], vs, ρ, ρ2, σ, Hb, _, S, _, e, q => by cases e
theorem tgd_tup {K : PySem.W.Frag} {vs is : List Nat} (hi : ∀ i ∈ is, i ∈ vs) : TGd K vs (gTup K is.length (gNs is)) (gT is) := by
  intro v σ H Q Hb ρ d ρ' S hv e q
  unfold gT at e
  cases d with
  | tup ds =>
    simp only [Is] at hv
    obtain ⟨a, us, rfl, h1, i1⟩ := hv
    exact ⟨a, us, rfl, Same.tup S.sub h1, by rw [i1.length, setVs_len e], setVs_w hi S i1 e q⟩
  | _ => cases e
def mTrue : M Bool := fun ρ => .ok true ρ
/-- the turns -/
def compL (g : DL.D → Rho → Option Rho) (vs : List Nat) (mt : M Bool) (me : M Rs) : List DL.D → List DL.D → Rho → Option (List DL.D × Rho)
  | [], acc, ρ => some (acc, ρ)
  | d :: ds, acc, ρ => match g d ρ with
    | none => none
    | some ρ1 => (match mt ρ1 with
      | .ok true ρ2 => (match me ρ2 with
        | .ok r ρ3 => (match keepR ρ3 r with
          | some (x, ρ4) => if acc.length < 100000 then compL g vs mt me ds (acc ++ [x]) (wipeR ρ4 vs) else none
          | none => none)
        | _ => none)
      | .ok false ρ2 => compL g vs mt me ds acc (wipeR ρ2 vs)
      | _ => none)
def mComp (m : M (List DL.D)) (g : DL.D → Rho → Option Rho) (vs : List Nat) (mt : M Bool) (me : M Rs) : M Rs := fun ρ => bnd (m ρ) fun ds ρ1 => match compL g vs mt me ds [] (wipeR ρ1 vs) with
  | some (acc, ρ2) => .ok (.fr acc) (restoR ρ1 ρ2 vs)
  | none => .stuck
abbrev W0 : WX := fun _ _ _ _ => False
section
variable {X : Cx} {K : PySem.W.Frag} {W : WX}
theorem tLc_ok {m : M (List DL.D)} {tg : TG} {g : DL.D → Rho → Option Rho} {vs : List Nat} {mt : M Bool} {me : M Rs} {σ : L2.St} {H : Hp} {Q : VK} (hg : TGd K vs tg g) (h : tM K W (mComp m g vs mt me) σ H Q) : tLc (tI K W m) tg (tT K W0 mt) (tM K W0 me) vs σ H Q := by
  obtain ⟨Hb, ρ, S, P⟩ := h
  refine ⟨Hb, ρ, S, ?_⟩
  unfold mComp at P
  cases em : m ρ with
  | stuck => rw [em] at P; exact P
  | er e ρ1 => rw [em] at P; exact P
  | ok ds ρ1 =>
    rw [em] at P
    intro J H1 Hb1 s1 hJ D hD
    simp only [bnd] at P
    cases et : compL g vs mt me ds [] (wipeR ρ1 vs) with
    | none => rw [et] at P; exact P.elim
    | some tot =>
      obtain ⟨accT, ρT⟩ := tot
      rw [et] at P
      have S1 := s1.st
      have Sw : StR K Hb1 (wipe σ vs) (wipeR ρ1 vs) H1 := S1.wiped
      have hb1D : Hb1 D = none := Same.none S1.sub hD
      have hwR : ∀ (i : Nat) xs, (wipeR ρ1 vs)[i]? = some (Sl.ow true xs) → i ∉ vs := fun i xs e hi => by
        rw [wipeR_get] at e
        by_cases hc : i ∈ vs ∧ i < ρ1.length
        · rw [if_pos hc] at e; cases e
        · rw [if_neg hc] at e; exact hc ⟨hi, (List.getElem?_eq_some_iff.mp e).1⟩
      have start : Ste K (wipe σ vs) Hb1 (wipeR ρ1 vs) H1 Hb1 (wipeR ρ1 vs) (upd H1 D (.lst [])) := by
        refine ⟨fun b u e _ => Same.new hD b u e, fun b e => ?_, Same.refl _, fun _ _ _ n _ => n, fun _ h => h, fun _ xs e => ⟨xs, e⟩, Sw.updD hb1D fun z => own_there Sw D z hD⟩
        have : b ≠ D := fun z => by subst z; rw [upd_same] at e; cases e
        rw [upd_ne this] at e; exact e
      refine ⟨fun i m H => m = ds.length - i ∧ i ≤ ds.length ∧ ∃ Hb2 ρ2 acc vacc, Ste K (wipe σ vs) Hb1 (wipeR ρ1 vs) H1 Hb2 ρ2 H ∧ H D = some (.lst vacc) ∧ IsA K Hb2 acc vacc ∧ Hb2 D = none ∧ compL g vs mt me (ds.drop i) acc ρ2 = some (accT, ρT),
        ⟨ds.length, by simp, Nat.zero_le _, Hb1, wipeR ρ1 vs, [], [], start, upd_same, IsA.nil, hb1D, et⟩, ?_⟩
      rintro i m H2 ⟨rfl, hi, Hb2, ρ2, acc, vacc, A, d1, d2, d3, ec⟩
      by_cases hlt : i < ds.length
      · refine .inr ⟨hJ.go Hb2 H2 i A.gr A.st.sub hlt, fun H' => ∃ Hb2 ρ2 acc vacc, Ste K (wipe σ vs) Hb1 (wipeR ρ1 vs) H1 Hb2 ρ2 H' ∧ H' D = some (.lst vacc) ∧ IsA K Hb2 acc vacc ∧ Hb2 D = none ∧ compL g vs mt me (ds.drop (i + 1)) acc ρ2 = some (accT, ρT),
          fun H' h => ⟨ds.length - (i + 1), by omega, rfl, hlt, h⟩, fun x H' y => ?_⟩
        obtain ⟨Hb3, gr, hx⟩ := hJ.yld Hb2 H2 i x H' ds[i] A.gr A.st.sub y (List.getElem?_eq_getElem hlt)
        have ed : ds.drop i = ds[i] :: ds.drop (i + 1) := List.drop_eq_getElem_cons hlt
        rw [ed] at ec
        unfold compL at ec
        cases eg : g ds[i] ρ2 with
        | none => rw [eg] at ec; cases ec
        | some ρ3 =>
          rw [eg] at ec
          simp only at ec
          have d1' := gr.fr D _ d1
          have d3' := gr.gn D _ d1 d3
          have nD2 : ¬ Own (wipe σ vs) ρ2 D := fun z => own_there Sw D (A.ow D z) hD
          refine hg x (wipe σ vs) H' _ Hb3 ρ2 ds[i] ρ3 (A.st.grow gr) hx eg fun σ2 w s2 => ⟨w.trans wipe_idem, ?_⟩
          have nD3 : ¬ Own σ2 ρ3 D := fun z => by
            rcases s2.ow D z with q | q
            · exact nD2 q
            · rw [d1'] at q; cases q
          have hw : wipe σ2 vs = wipe σ vs := w.trans wipe_idem
          refine ⟨Hb3, ρ3, s2.st, ?_⟩
          cases emt : mt ρ3 with
          | stuck => rw [emt] at ec; cases ec
          | er e ρ4 => rw [emt] at ec; cases ec
          | ok b ρ4 =>
            rw [emt] at ec
            intro H4 Hb4 s4
            have nD4 : ¬ Own σ2 ρ4 D := fun z => nD3 (s4.ow D z)
            have d1'' := s4.fr D _ d1' nD3
            have d3'' := s4.gn D _ d1' d3' nD3
            cases b with
            | false =>
              simp only at ec
              refine iteF ⟨Hb4, wipeR ρ4 vs, acc, vacc, ?_, d1'', IsA.mono s4.gr _ _ (IsA.mono gr.gr _ _ d2), d3'', ec⟩
              have T := comp_turn (o := .lst vacc) A gr s2 s4 hw hwR hD d3'' nD4
              have eH : upd H4 D (.lst vacc) = H4 := by
                funext b
                by_cases hb : b = D
                · subst hb; rw [upd_same]; exact d1''.symm
                · rw [upd_ne hb]
              rw [eH] at T
              exact T
            | true =>
              simp only at ec
              refine iteT ⟨Hb4, ρ4, s4.st, ?_⟩
              cases eme : me ρ4 with
              | stuck => rw [eme] at ec; cases ec
              | er e ρ5 => rw [eme] at ec; cases ec
              | ok r ρ5 =>
                rw [eme] at ec
                intro v H5 Hb5 s5 r5
                simp only at ec
                cases ek : keepR ρ5 r with
                | none => rw [ek] at ec; cases ec
                | some q =>
                  obtain ⟨xd, ρ6⟩ := q
                  rw [ek] at ec
                  simp only at ec
                  by_cases hz : acc.length < 100000
                  · rw [if_pos hz] at ec
                    obtain ⟨Hb6, s6, i6⟩ := keepR_ok s4.st s5 r5 ek
                    have nD6 : ¬ Own σ2 ρ6 D := fun z => nD4 (s6.ow D z)
                    have e1 := s6.fr D _ d1'' nD4
                    have e3 := s6.gn D _ d1'' d3'' nD4
                    refine ⟨vacc, e1, by rw [d2.length]; exact size_lt hz, Hb6, wipeR ρ6 vs, acc ++ [xd], vacc ++ [v], comp_turn A gr s2 (s4.trans s6) hw hwR hD e3 nD6, upd_same, ?_, e3, ec⟩
                    exact (IsA.mono s6.gr _ _ (IsA.mono s4.gr _ _ (IsA.mono gr.gr _ _ d2))).append (IsA.cons i6 IsA.nil)
                  · rw [if_neg hz] at ec; cases ec
      · have e : i = ds.length := by omega
        subst e
        rw [List.drop_length] at ec
        cases ec
        refine .inl ⟨hJ.stop Hb2 H2 A.gr A.st.sub, P (.ref D) H2 Hb2 (s1.trans (comp_end S1 A)) ⟨D, vacc, rfl, s1.th D hD, d3, d1, d2⟩⟩
theorem dts_nil : PTs X [] (tT K W0 mTrue) := ⟨fun pins s σ H Q I h => by
  obtain ⟨Hb, ρ, S, P⟩ := h
  exact pts_nil.run pins s σ H Q I (P H Hb (Ste.refl S))⟩
theorem dts_one {c : Expr} {mt : M Bool} (h : PT X c (tT K W0 mt)) : PTs X [c] (tT K W0 mt) := pts_one h
theorem dm_lc {elt tgt iter : Expr} {ifs : List Expr} {scope : Scope} {own : List (Str × Nat)} {pos : Pos} {m : M (List DL.D)} {tg : TG} {g : DL.D → Rho → Option Rho} {mt : M Bool} {me : M Rs} (hc : X.calm = true) (hN : X.N.Nodup) (hi : PI X tgt iter (tI K W m)) (ok : BlkOk X.N X.env.scope scope own) (hgd : TGd K (own.map (·.2)) tg g)
    (hg : ∀ (s : Shared) (H : Hp) (C : Addr) (cl : List (Str × Addr)) (fp : List Addr), PG (X.blk s H scope (compEnvC scope cl C X.env) fp) tgt tg) (ht : ∀ (s : Shared) (H : Hp) (C : Addr) (cl : List (Str × Addr)) (fp : List Addr), PTs (X.blk s H scope (compEnvC scope cl C X.env) fp) ifs (tT K W0 mt))
    (he : ∀ (s : Shared) (H : Hp) (C : Addr) (cl : List (Str × Addr)) (fp : List Addr), PE (X.blk s H scope (compEnvC scope cl C X.env) fp) elt (tM K W0 me)) (hs : ∀ x, foldedSetIterable iter X.env x = pure x := by intro _; rfl) :
    PE X (.ListComp elt [⟨tgt, iter, ifs, 0⟩] scope pos) (tM K W (mComp m g (own.map (·.2)) mt me)) := PE.imp (pe_lc hc hN hi ok hg ht he hs) fun _ _ _ => tLc_ok hgd
theorem dn_setLc {i : Nat} {y : Str} {py : Pos} {elt tgt iter : Expr} {ifs : List Expr} {scope : Scope} {own : List (Str × Nat)} {pos spos : Pos} {m : M (List DL.D)} {tg : TG} {g : DL.D → Rho → Option Rho} {mt : M Bool} {me : M Rs} (hc : X.calm = true) (hN : X.N.Nodup) (hy : X.N[i]? = some y) (hyl : X.env.scope.names.lookup y = some .local)
    (hsw : swapsWith (.ListComp elt [⟨tgt, iter, ifs, 0⟩] scope pos) (some (.Name y py)) spos.line X.env = pure true) (hi : PI X tgt iter (tI K W m)) (ok : BlkOk X.N X.env.scope scope own) (hgd : TGd K (own.map (·.2)) tg g)
    (hg : ∀ (s : Shared) (H : Hp) (C : Addr) (cl : List (Str × Addr)) (fp : List Addr), PG (X.blk s H scope (compEnvC scope cl C X.env) fp) tgt tg) (ht : ∀ (s : Shared) (H : Hp) (C : Addr) (cl : List (Str × Addr)) (fp : List Addr), PTs (X.blk s H scope (compEnvC scope cl C X.env) fp) ifs (tT K W0 mt))
    (he : ∀ (s : Shared) (H : Hp) (C : Addr) (cl : List (Str × Addr)) (fp : List Addr), PE (X.blk s H scope (compEnvC scope cl C X.env) fp) elt (tM K W0 me)) (hs : ∀ x, foldedSetIterable iter X.env x = pure x := by intro _; rfl) :
    PS X (.Assign [.Name y py] (.ListComp elt [⟨tgt, iter, ifs, 0⟩] scope pos) spos) (tN K W (nSet i (mComp m g (own.map (·.2)) mt me))) := by
  refine PS.imp (ps_setLc hc hN hy hyl hsw hi ok hg ht he hs) fun D σ H h => ?_
  obtain ⟨Hb, ρ, S, P⟩ := h
  refine tLc_ok (W := W) hgd ⟨Hb, ρ, S, ?_⟩
  unfold nSet at P
  cases ea : mComp m g (own.map (·.2)) mt me ρ with
  | stuck => rw [ea] at P; exact P
  | er e ρ1 => rw [ea] at P; exact fun d H1 Hb1 s1 ex => P d σ H1 Hb1 (s1.toS S) ex
  | ok r ρ1 => rw [ea] at P; exact fun v H1 Hb1 s1 r1 => set_ok S s1 r1 P
end
end DL

namespace DL
open PySem L2 PyProof.Rows
/-! ### zip, enumerate over lists and tuples -/
def SqX (t : Bool) (K : PySem.W.Frag) (H : Hp) (a : Addr) (xs : List V) : Prop := match t with
  | true => SqT K H a xs
  | false => SqL K H a xs
def SrcIt (t : Bool) (h : Heap) (it a : Addr) (i : Nat) : Prop := match t with
  | true => h.IsTupleIter it a i
  | false => h.IsListIter it a i
def SrcOb (t : Bool) (h : Heap) (a : Addr) (items : Array Value) : Prop := match t with
  | true => h.IsTuple a items
  | false => h.IsList a items
def srcO (t : Bool) (a : Addr) : Obj := match t with
  | true => { cls := .type "tuple_iterator", data := .fields #[.ref a, .int 0 0] }
  | false => { cls := .type "list_iterator", data := .fields #[.ref a, .int 0 0] }
theorem SrcOb.lt {t : Bool} {h : Heap} {a : Addr} {items : Array Value} (s : SrcOb t h a items) : a < h.objs.size := by
  cases t with
  | true => exact IsTup.lt (show IsTup h a items from s)
  | false =>
    obtain ⟨o, e, _⟩ := (show h.IsList a items from s)
    exact Heap.lt_size e
theorem src_draws {prog : Program} {w : World} {A : Around} (hh : A.handled = none) (t : Bool) (it a : Addr) (hne : a ≠ it) (items : Array Value) : Draws prog w A it [it, a] items.size (fun i v => items[i]? = some v) (fun i h => SrcIt t h it a i ∧ SrcOb t h a items) := by
  cases t with
  | true => exact Draws.tuple hh it a hne items
  | false => exact Draws.list hh it a hne items
theorem src_begins (t : Bool) (a : Addr) (items : Array Value) : Begins (.ref a) (srcO t a) (fun h => SrcOb t h a items) := by
  cases t with
  | true => exact begins_tuple a items
  | false => exact begins_list a items
theorem src_it0 {t : Bool} {h : Heap} {it a : Addr} (e : h.get? it = some (srcO t a)) : SrcIt t h it a 0 := by
  cases t with
  | true => exact ⟨_, e, rfl, rfl⟩
  | false => exact ⟨_, e, rfl, rfl⟩
theorem srcIt_obj {t : Bool} {h : Heap} {it a : Addr} {i : Nat} (s : SrcIt t h it a i) : ∃ o, h.get? it = some o ∧ ∀ v, o.data ≠ .cell v := by
  cases t with
  | true =>
    obtain ⟨o, e, c, d⟩ := (show h.IsTupleIter it a i from s)
    exact ⟨o, e, fun v z => by rw [d] at z; cases z⟩
  | false =>
    obtain ⟨o, e, c, d⟩ := (show h.IsListIter it a i from s)
    exact ⟨o, e, fun v z => by rw [d] at z; cases z⟩
theorem srcIt_at {t : Bool} {h h' : Heap} {it a : Addr} {i : Nat} (s : SrcIt t h it a i) (k : ∀ o, h.get? it = some o → h'.get? it = some o) : SrcIt t h' it a i := by
  cases t with
  | true => exact (show h.IsTupleIter it a i from s).at k
  | false => exact (show h.IsListIter it a i from s).at k
section
variable {X : Cx} {pins : List (Addr × Obj)} {σ : L2.St} {H : Hp} {s : Shared}
theorem inv_src {t : Bool} {a : Addr} {xs : List V} (I : Inv X pins σ H s) (h : SqX t X.K H a xs) : ∃ its : List Value, Vals xs its ∧ SrcOb t s.heap a its.toArray := by
  cases t with
  | true =>
    obtain ⟨its, r, p, _⟩ := I.tuple h
    exact ⟨its, r, p⟩
  | false =>
    obtain ⟨its, r, p, _⟩ := I.list h
    exact ⟨its, r, p.isList⟩
end
def ItZ2 (K : PySem.W.Frag) (t1 t2 : Bool) (a b : Addr) (xs ys : List V) : It :=
  ⟨fun i H => (SqX t1 K H a xs ∧ SqX t2 K H b ys) ∧ i < min xs.length ys.length,
   fun i H x H' => ∃ T u v, x = .ref T ∧ H T = none ∧ H' = upd H T (.tup [u, v]) ∧ xs[i]? = some u ∧ ys[i]? = some v,
   fun i H => (SqX t1 K H a xs ∧ SqX t2 K H b ys) ∧ i = min xs.length ys.length⟩
def ItZ3 (K : PySem.W.Frag) (t1 t2 t3 : Bool) (a b c : Addr) (xs ys zs : List V) : It :=
  ⟨fun i H => (SqX t1 K H a xs ∧ SqX t2 K H b ys ∧ SqX t3 K H c zs) ∧ i < min (min xs.length ys.length) zs.length,
   fun i H x H' => ∃ T u v w, x = .ref T ∧ H T = none ∧ H' = upd H T (.tup [u, v, w]) ∧ xs[i]? = some u ∧ ys[i]? = some v ∧ zs[i]? = some w,
   fun i H => (SqX t1 K H a xs ∧ SqX t2 K H b ys ∧ SqX t3 K H c zs) ∧ i = min (min xs.length ys.length) zs.length⟩
def ItE (K : PySem.W.Frag) (t : Bool) (a : Addr) (xs : List V) : It :=
  ⟨fun i H => SqX t K H a xs ∧ i < xs.length,
   fun i H x H' => ∃ T u, x = .ref T ∧ H T = none ∧ H' = upd H T (.tup [.int (i : Int), u]) ∧ xs[i]? = some u,
   fun i H => SqX t K H a xs ∧ i = xs.length⟩
theorem vals_at {xs : List V} {its : List Value} {i : Nat} {u : Value} (r : Vals xs its) (e : its.toArray[i]? = some u) : ∃ x, xs[i]? = some x ∧ RelV x u := by
  have e' : its[i]? = some u := by simpa using e
  cases q : xs[i]? with
  | none =>
    have := r.none_of q
    rw [e'] at this; cases this
  | some x =>
    obtain ⟨w, h1, h2⟩ := r.get q
    rw [e'] at h1; cases h1
    exact ⟨x, rfl, h2⟩
theorem turn_z2 {P : Program} {w : World} {K : PySem.W.Frag} {elts : List Expr} {kk : Nat} {tpos : Pos} {t1 t2 : Bool} {a b z TI TO i1 i2 : Addr} {xs ys : List V} (S : ZipSep2 z TI TO i1 i2 [i1, a] [i2, b]) (hne : a ≠ i1 ∧ b ≠ i2) :
    Turn P w K (.Tuple elts kk tpos) (ItZ2 K t1 t2 a b xs ys) [z, TI, TO, i1, i2] z (fun i h => IsZip h z TI TO .none ∧ IsTupOf2 h TI (.ref i1) (.ref i2) ∧ (∃ a1 a2, IsTupOf2 h TO a1 a2) ∧ SrcIt t1 h i1 a i ∧ SrcIt t2 h i2 b i) where
  mem := by simp
  obj := fun i h st c hc => by
    obtain ⟨hz, hTI, ⟨x1, x2, hTO⟩, h1, h2⟩ := st
    have e' : c = z ∨ c = TI ∨ c = TO ∨ c = i1 ∨ c = i2 := by simpa using hc
    rcases e' with q | q | q | q | q
    · rw [q]; exact ⟨_, hz, fun v q => nomatch q⟩
    · rw [q]; exact ⟨_, hTI, fun v q => nomatch q⟩
    · rw [q]; exact ⟨_, hTO, fun v q => nomatch q⟩
    · rw [q]; exact srcIt_obj h1
    · rw [q]; exact srcIt_obj h2
  keep := fun i h h' st k => by
    obtain ⟨hz, hTI, ⟨x1, x2, hTO⟩, h1, h2⟩ := st
    exact ⟨k z (by simp) _ hz, k TI (by simp) _ hTI, ⟨x1, x2, k TO (by simp) _ hTO⟩, srcIt_at h1 fun o q => k i1 (by simp) o q, srcIt_at h2 fun o q => k i2 (by simp) o q⟩
  item := by
    intro X hP hw hK hc i pins s σ H E I hf st hg
    subst hP hw hK
    obtain ⟨⟨hq1, hq2⟩, hlt⟩ := hg
    obtain ⟨its1, rv1, p1⟩ := inv_src I hq1
    have l1 := rv1.length
    obtain ⟨its2, rv2, p2⟩ := inv_src I hq2
    have l2 := rv2.length
    have hh : X.A.in1.handled = none := by exact I.ok.hd hc
    have Wk := WalksT.zipD2 S (src_draws (prog := X.prog) (w := X.w) hh t1 i1 a hne.1 its1.toArray) (src_draws (prog := X.prog) (w := X.w) hh t2 i2 b hne.2 its2.toArray)
    obtain ⟨hz, hTI, hTO, h1, h2⟩ := st
    refine Wk.item i s _ E (by simp only [List.size_toArray]; omega) ⟨hz, hTI, hTO, ⟨h1, p1⟩, ⟨h2, p2⟩⟩ fun T vals h' tk hP hnew hT hm hk => ?_
    refine ⟨.ref T, rfl, Wk.go elts kk tpos i T { s with heap := h', toks := tk } _ E hm fun h'' st' hk' => ?_⟩
    obtain ⟨u1, u2, hu1, hu2, rfl⟩ := hP
    obtain ⟨y1, ey1, ry1⟩ := vals_at rv1 hu1
    obtain ⟨y2, ey2, ry2⟩ := vals_at rv2 hu2
    have hT2 : h''.IsTuple T #[u1, u2] := hT.at fun o e => hk' T o (Wk.apart i T h' hm) e
    have new : ObjOk X.prog X.w (upd H T (.tup [y1, y2])) h'' T (.tup [y1, y2]) := ⟨by show 2 ≤ sizeLine; decide, [u1, u2], .cons ry1 (.cons ry2 .nil), hT2⟩
    have I1 : Inv X pins σ (upd H T (.tup [y1, y2])) { s with heap := h'', toks := tk } :=
      I.turnedNew (t' := tk) (ch := [z, TI, TO, i1, i2]) (fun c o hb q => hk' c o (fun z' => hb (by simp at z' ⊢; rcases z' with z' | z' | z' | z' <;> simp [z'])) (hk c o (fun z' => hb (by simp at z' ⊢; rcases z' with z' | z' | z' | z' <;> simp [z'])) q)) hf hnew new
    refine ⟨.ref T, _, I1, rfl, ⟨T, y1, y2, rfl, I.hok.fresh hnew, rfl, ey1, ey2⟩, ⟨st'.1, st'.2.1, st'.2.2.1, st'.2.2.2.1.1, st'.2.2.2.2.1⟩, fun c hcm => ?_⟩
    have hlt : c < s.heap.objs.size := by
      have e' : c = z ∨ c = TI ∨ c = TO ∨ c = i1 ∨ c = i2 := by simpa using hcm
      obtain ⟨x1, x2, hTO⟩ := hTO
      rcases e' with q | q | q | q | q
      · rw [q]; exact Heap.lt_size hz
      · rw [q]; exact Heap.lt_size hTI
      · rw [q]; exact Heap.lt_size hTO
      · rw [q]; obtain ⟨_, e1, _⟩ := srcIt_obj h1; exact Heap.lt_size e1
      · rw [q]; obtain ⟨_, e1, _⟩ := srcIt_obj h2; exact Heap.lt_size e1
    rw [upd_ne (Nat.ne_of_lt (Nat.lt_of_lt_of_le hlt hnew))]
    exact (hf c hcm).1
  done := by
    intro X hP hw hK hc i pins s σ H E I hf st hg
    subst hP hw hK
    obtain ⟨⟨hq1, hq2⟩, hlt⟩ := hg
    obtain ⟨its1, rv1, p1⟩ := inv_src I hq1
    have l1 := rv1.length
    obtain ⟨its2, rv2, p2⟩ := inv_src I hq2
    have l2 := rv2.length
    have hh : X.A.in1.handled = none := by exact I.ok.hd hc
    have Wk := WalksT.zipD2 S (src_draws (prog := X.prog) (w := X.w) hh t1 i1 a hne.1 its1.toArray) (src_draws (prog := X.prog) (w := X.w) hh t2 i2 b hne.2 its2.toArray)
    obtain ⟨hz, hTI, hTO, h1, h2⟩ := st
    have en : i = min its1.toArray.size its2.toArray.size := by simp only [List.size_toArray]; omega
    rw [en] at h1 h2
    refine Wk.done s _ E ⟨hz, hTI, hTO, ⟨h1, p1⟩, ⟨h2, p2⟩⟩ fun h' tk hk => ⟨rfl, I.turnedL (t' := tk) (ch := [z, TI, TO, i1, i2]) (fun c o hb q => hk c o (fun z' => hb (by simp at z' ⊢; rcases z' with z' | z' | z' | z' <;> simp [z'])) q) hf⟩
  self := fun A i s Q E st h => wpAny_pyIter_zip st.1 h
def iZ2 (K : PySem.W.Frag) (ta : TA) : TI := fun σ H R => ta σ H fun vs H1 => ∃ t1 t2 a b xs ys, vs = [.ref a, .ref b] ∧ (SqX t1 K H1 a xs ∧ SqX t2 K H1 b ys) ∧ R (ItZ2 K t1 t2 a b xs ys) H1
theorem pi_z2 {X : Cx} {e e2 : Expr} {ta : TA} {p pos tpos : Pos} {elts : List Expr} {kk : Nat} (hg : Gl X "zip") (hm : X.mg "zip" = none) (ha : PA X [e, e2] ta)
    (hs : starEach [e, e2] X.env = (false, eval e X.env) :: starEach [e2] X.env := by rfl) (hpl : (backTo pos (starEach [e2] X.env)).any (·.1) = false := by rfl) :
    PI X (.Tuple elts kk tpos) (.Call (.Name "zip" p) [e, e2] [] pos) (iZ2 X.K ta) := by
  refine ⟨fun pins s σ H R I h => ?_⟩
  refine Call_ (ld_blt I hg hm PyProof.Rows.boot_zip (PyProof.Rows.callWith_type1 (thn (ha.run pos pins s σ H _ I h) fun us s1 ⟨vs, H1, I1, r1, q1⟩ => ?_) hs hpl))
  obtain ⟨t1, t2, a, b, xs, ys, ex, ⟨hq1, hq2⟩, q⟩ := q1
  subst ex
  have eus : us = [.ref a, .ref b] := by
    cases r1 with
    | cons q1 w1 =>
      cases w1 with
      | cons q2 w2 =>
        cases w2
        cases (show _ = Value.ref a from q1)
        cases (show _ = Value.ref b from q2)
        rfl
  subst eus
  obtain ⟨its1, rv1, p1⟩ := inv_src I1 hq1
  have la1 : a < s1.heap.objs.size := p1.lt
  obtain ⟨its2, rv2, p2⟩ := inv_src I1 hq2
  have la2 : b < s1.heap.objs.size := p2.lt
  refine zip_begins2 (src_begins t1 a its1.toArray) (src_begins t2 b its2.toArray) p1 p2 fun h' hz hTI hTO h1 h2 hsz hk => wpAny_pyIter_zip hz ?_
  have I2 : Inv X pins σ H1 { s1 with heap := h' } := I1.kept (t' := s1.toks) hk
  refine ⟨s1.heap.objs.size + 4, [s1.heap.objs.size + 4, s1.heap.objs.size + 2, s1.heap.objs.size + 3, s1.heap.objs.size, s1.heap.objs.size + 1], _, _, H1, rfl, I2, turn_z2 (zip_sep2 (fun b hb => by simp at hb; subst hb; exact la1) (fun b hb => by simp at hb; subst hb; exact la2)) ⟨Nat.ne_of_lt (show a < s1.heap.objs.size by exact la1), Nat.ne_of_lt (show b < s1.heap.objs.size + 1 by exact Nat.lt_of_lt_of_le la2 (Nat.le_add_right _ _))⟩, ⟨hz, hTI, ⟨_, _, hTO⟩, src_it0 h1, src_it0 h2⟩, fun c hcm => ?_, q⟩
  have e' : c = s1.heap.objs.size + 4 ∨ c = s1.heap.objs.size + 2 ∨ c = s1.heap.objs.size + 3 ∨ c = s1.heap.objs.size ∨ c = s1.heap.objs.size + 1 := by simpa using hcm
  have hle : s1.heap.objs.size ≤ c := by
    rcases e' with z | z | z | z | z
    · rw [z]; exact Nat.le_add_right _ _
    · rw [z]; exact Nat.le_add_right _ _
    · rw [z]; exact Nat.le_add_right _ _
    · rw [z]; exact Nat.le_refl _
    · rw [z]; exact Nat.le_add_right _ _
  exact I1.fpOk hle (I1.hok.fresh hle)
theorem turn_z3 {P : Program} {w : World} {K : PySem.W.Frag} {elts : List Expr} {kk : Nat} {tpos : Pos} {t1 t2 t3 : Bool} {a b c z TI TO i1 i2 i3 : Addr} {xs ys zs : List V} (S : ZipSep3 z TI TO i1 i2 i3 [i1, a] [i2, b] [i3, c]) (hne : a ≠ i1 ∧ b ≠ i2 ∧ c ≠ i3) :
    Turn P w K (.Tuple elts kk tpos) (ItZ3 K t1 t2 t3 a b c xs ys zs) [z, TI, TO, i1, i2, i3] z (fun i h => IsZip h z TI TO .none ∧ IsTupOf3 h TI (.ref i1) (.ref i2) (.ref i3) ∧ (∃ a1 a2 a3, IsTupOf3 h TO a1 a2 a3) ∧ SrcIt t1 h i1 a i ∧ SrcIt t2 h i2 b i ∧ SrcIt t3 h i3 c i) where
  mem := by simp
  obj := fun i h st c hc => by
    obtain ⟨hz, hTI, ⟨x1, x2, x3, hTO⟩, h1, h2, h3⟩ := st
    have e' : c = z ∨ c = TI ∨ c = TO ∨ c = i1 ∨ c = i2 ∨ c = i3 := by simpa using hc
    rcases e' with q | q | q | q | q | q
    · rw [q]; exact ⟨_, hz, fun v q => nomatch q⟩
    · rw [q]; exact ⟨_, hTI, fun v q => nomatch q⟩
    · rw [q]; exact ⟨_, hTO, fun v q => nomatch q⟩
    · rw [q]; exact srcIt_obj h1
    · rw [q]; exact srcIt_obj h2
    · rw [q]; exact srcIt_obj h3
  keep := fun i h h' st k => by
    obtain ⟨hz, hTI, ⟨x1, x2, x3, hTO⟩, h1, h2, h3⟩ := st
    exact ⟨k z (by simp) _ hz, k TI (by simp) _ hTI, ⟨x1, x2, x3, k TO (by simp) _ hTO⟩, srcIt_at h1 fun o q => k i1 (by simp) o q, srcIt_at h2 fun o q => k i2 (by simp) o q, srcIt_at h3 fun o q => k i3 (by simp) o q⟩
  item := by
    intro X hP hw hK hc i pins s σ H E I hf st hg
    subst hP hw hK
    obtain ⟨⟨hq1, hq2, hq3⟩, hlt⟩ := hg
    obtain ⟨its1, rv1, p1⟩ := inv_src I hq1
    have l1 := rv1.length
    obtain ⟨its2, rv2, p2⟩ := inv_src I hq2
    have l2 := rv2.length
    obtain ⟨its3, rv3, p3⟩ := inv_src I hq3
    have l3 := rv3.length
    have hh : X.A.in1.handled = none := by exact I.ok.hd hc
    have Wk := WalksT.zipD3 S (src_draws (prog := X.prog) (w := X.w) hh t1 i1 a hne.1 its1.toArray) (src_draws (prog := X.prog) (w := X.w) hh t2 i2 b hne.2.1 its2.toArray) (src_draws (prog := X.prog) (w := X.w) hh t3 i3 c hne.2.2 its3.toArray)
    obtain ⟨hz, hTI, hTO, h1, h2, h3⟩ := st
    refine Wk.item i s _ E (by simp only [List.size_toArray]; omega) ⟨hz, hTI, hTO, ⟨h1, p1⟩, ⟨h2, p2⟩, ⟨h3, p3⟩⟩ fun T vals h' tk hP hnew hT hm hk => ?_
    refine ⟨.ref T, rfl, Wk.go elts kk tpos i T { s with heap := h', toks := tk } _ E hm fun h'' st' hk' => ?_⟩
    obtain ⟨u1, u2, u3, hu1, hu2, hu3, rfl⟩ := hP
    obtain ⟨y1, ey1, ry1⟩ := vals_at rv1 hu1
    obtain ⟨y2, ey2, ry2⟩ := vals_at rv2 hu2
    obtain ⟨y3, ey3, ry3⟩ := vals_at rv3 hu3
    have hT2 : h''.IsTuple T #[u1, u2, u3] := hT.at fun o e => hk' T o (Wk.apart i T h' hm) e
    have new : ObjOk X.prog X.w (upd H T (.tup [y1, y2, y3])) h'' T (.tup [y1, y2, y3]) := ⟨by show 3 ≤ sizeLine; decide, [u1, u2, u3], .cons ry1 (.cons ry2 (.cons ry3 .nil)), hT2⟩
    have I1 : Inv X pins σ (upd H T (.tup [y1, y2, y3])) { s with heap := h'', toks := tk } :=
      I.turnedNew (t' := tk) (ch := [z, TI, TO, i1, i2, i3]) (fun c o hb q => hk' c o (fun z' => hb (by simp at z' ⊢; rcases z' with z' | z' | z' | z' | z' <;> simp [z'])) (hk c o (fun z' => hb (by simp at z' ⊢; rcases z' with z' | z' | z' | z' | z' <;> simp [z'])) q)) hf hnew new
    refine ⟨.ref T, _, I1, rfl, ⟨T, y1, y2, y3, rfl, I.hok.fresh hnew, rfl, ey1, ey2, ey3⟩, ⟨st'.1, st'.2.1, st'.2.2.1, st'.2.2.2.1.1, st'.2.2.2.2.1.1, st'.2.2.2.2.2.1⟩, fun c hcm => ?_⟩
    have hlt : c < s.heap.objs.size := by
      have e' : c = z ∨ c = TI ∨ c = TO ∨ c = i1 ∨ c = i2 ∨ c = i3 := by simpa using hcm
      obtain ⟨x1, x2, x3, hTO⟩ := hTO
      rcases e' with q | q | q | q | q | q
      · rw [q]; exact Heap.lt_size hz
      · rw [q]; exact Heap.lt_size hTI
      · rw [q]; exact Heap.lt_size hTO
      · rw [q]; obtain ⟨_, e1, _⟩ := srcIt_obj h1; exact Heap.lt_size e1
      · rw [q]; obtain ⟨_, e1, _⟩ := srcIt_obj h2; exact Heap.lt_size e1
      · rw [q]; obtain ⟨_, e1, _⟩ := srcIt_obj h3; exact Heap.lt_size e1
    rw [upd_ne (Nat.ne_of_lt (Nat.lt_of_lt_of_le hlt hnew))]
    exact (hf c hcm).1
  done := by
    intro X hP hw hK hc i pins s σ H E I hf st hg
    subst hP hw hK
    obtain ⟨⟨hq1, hq2, hq3⟩, hlt⟩ := hg
    obtain ⟨its1, rv1, p1⟩ := inv_src I hq1
    have l1 := rv1.length
    obtain ⟨its2, rv2, p2⟩ := inv_src I hq2
    have l2 := rv2.length
    obtain ⟨its3, rv3, p3⟩ := inv_src I hq3
    have l3 := rv3.length
    have hh : X.A.in1.handled = none := by exact I.ok.hd hc
    have Wk := WalksT.zipD3 S (src_draws (prog := X.prog) (w := X.w) hh t1 i1 a hne.1 its1.toArray) (src_draws (prog := X.prog) (w := X.w) hh t2 i2 b hne.2.1 its2.toArray) (src_draws (prog := X.prog) (w := X.w) hh t3 i3 c hne.2.2 its3.toArray)
    obtain ⟨hz, hTI, hTO, h1, h2, h3⟩ := st
    have en : i = min (min its1.toArray.size its2.toArray.size) its3.toArray.size := by simp only [List.size_toArray]; omega
    rw [en] at h1 h2 h3
    refine Wk.done s _ E ⟨hz, hTI, hTO, ⟨h1, p1⟩, ⟨h2, p2⟩, ⟨h3, p3⟩⟩ fun h' tk hk => ⟨rfl, I.turnedL (t' := tk) (ch := [z, TI, TO, i1, i2, i3]) (fun c o hb q => hk c o (fun z' => hb (by simp at z' ⊢; rcases z' with z' | z' | z' | z' | z' <;> simp [z'])) q) hf⟩
  self := fun A i s Q E st h => wpAny_pyIter_zip st.1 h
def iZ3 (K : PySem.W.Frag) (ta : TA) : TI := fun σ H R => ta σ H fun vs H1 => ∃ t1 t2 t3 a b c xs ys zs, vs = [.ref a, .ref b, .ref c] ∧ (SqX t1 K H1 a xs ∧ SqX t2 K H1 b ys ∧ SqX t3 K H1 c zs) ∧ R (ItZ3 K t1 t2 t3 a b c xs ys zs) H1
theorem pi_z3 {X : Cx} {e e2 e3 : Expr} {ta : TA} {p pos tpos : Pos} {elts : List Expr} {kk : Nat} (hg : Gl X "zip") (hm : X.mg "zip" = none) (ha : PA X [e, e2, e3] ta)
    (hs : starEach [e, e2, e3] X.env = (false, eval e X.env) :: starEach [e2, e3] X.env := by rfl) (hpl : (backTo pos (starEach [e2, e3] X.env)).any (·.1) = false := by rfl) :
    PI X (.Tuple elts kk tpos) (.Call (.Name "zip" p) [e, e2, e3] [] pos) (iZ3 X.K ta) := by
  refine ⟨fun pins s σ H R I h => ?_⟩
  refine Call_ (ld_blt I hg hm PyProof.Rows.boot_zip (PyProof.Rows.callWith_type1 (thn (ha.run pos pins s σ H _ I h) fun us s1 ⟨vs, H1, I1, r1, q1⟩ => ?_) hs hpl))
  obtain ⟨t1, t2, t3, a, b, c, xs, ys, zs, ex, ⟨hq1, hq2, hq3⟩, q⟩ := q1
  subst ex
  have eus : us = [.ref a, .ref b, .ref c] := by
    cases r1 with
    | cons q1 w1 =>
      cases w1 with
      | cons q2 w2 =>
        cases w2 with
        | cons q3 w3 =>
          cases w3
          cases (show _ = Value.ref a from q1)
          cases (show _ = Value.ref b from q2)
          cases (show _ = Value.ref c from q3)
          rfl
  subst eus
  obtain ⟨its1, rv1, p1⟩ := inv_src I1 hq1
  have la1 : a < s1.heap.objs.size := p1.lt
  obtain ⟨its2, rv2, p2⟩ := inv_src I1 hq2
  have la2 : b < s1.heap.objs.size := p2.lt
  obtain ⟨its3, rv3, p3⟩ := inv_src I1 hq3
  have la3 : c < s1.heap.objs.size := p3.lt
  refine zip_begins3 (src_begins t1 a its1.toArray) (src_begins t2 b its2.toArray) (src_begins t3 c its3.toArray) p1 p2 p3 fun h' hz hTI hTO h1 h2 h3 hsz hk => wpAny_pyIter_zip hz ?_
  have I2 : Inv X pins σ H1 { s1 with heap := h' } := I1.kept (t' := s1.toks) hk
  refine ⟨s1.heap.objs.size + 5, [s1.heap.objs.size + 5, s1.heap.objs.size + 3, s1.heap.objs.size + 4, s1.heap.objs.size, s1.heap.objs.size + 1, s1.heap.objs.size + 2], _, _, H1, rfl, I2, turn_z3 (zip_sep3 (fun b hb => by simp at hb; subst hb; exact la1) (fun b hb => by simp at hb; subst hb; exact la2) (fun b hb => by simp at hb; subst hb; exact la3)) ⟨Nat.ne_of_lt (show a < s1.heap.objs.size by exact la1), Nat.ne_of_lt (show b < s1.heap.objs.size + 1 by exact Nat.lt_of_lt_of_le la2 (Nat.le_add_right _ _)), Nat.ne_of_lt (show c < s1.heap.objs.size + 2 by exact Nat.lt_of_lt_of_le la3 (Nat.le_add_right _ _))⟩, ⟨hz, hTI, ⟨_, _, _, hTO⟩, src_it0 h1, src_it0 h2, src_it0 h3⟩, fun c hcm => ?_, q⟩
  have e' : c = s1.heap.objs.size + 5 ∨ c = s1.heap.objs.size + 3 ∨ c = s1.heap.objs.size + 4 ∨ c = s1.heap.objs.size ∨ c = s1.heap.objs.size + 1 ∨ c = s1.heap.objs.size + 2 := by simpa using hcm
  have hle : s1.heap.objs.size ≤ c := by
    rcases e' with z | z | z | z | z | z
    · rw [z]; exact Nat.le_add_right _ _
    · rw [z]; exact Nat.le_add_right _ _
    · rw [z]; exact Nat.le_add_right _ _
    · rw [z]; exact Nat.le_refl _
    · rw [z]; exact Nat.le_add_right _ _
    · rw [z]; exact Nat.le_add_right _ _
  exact I1.fpOk hle (I1.hok.fresh hle)
end DL

namespace DL
open PySem L2 PyProof.Rows
open PySem.Sem (wp)
theorem meets_enum1 {v : Value} {o : Obj} {H : Heap → Prop} (B : Begins v o H) :
    Meets (Builtin.«enumerate.__new__» ⟨[.type "enumerate", v], []⟩) (fun _ R s => H s.heap ∧
      R (.ok (.ret (.ref (s.heap.push o).objs.size))) { s with heap := (s.heap.push o).push { cls := .type "enumerate", data := .fields #[.none, .bool false, .ref s.heap.objs.size, rawInt 0, .none, .none] } }) :=
  .of_wp fun prog w A R s h => by
    obtain ⟨hp, g, d, tk, os⟩ := s; obtain ⟨h1, h⟩ := h
    have hsub := sub_enumerate
    have q1 : ∀ {A' : Around} {E : Value → Shared → Prop} {Q : Value → Shared → Prop}, Q (.ref hp.objs.size) ⟨hp.push o, g, d, tk, os⟩ → wpAny (model prog w) A' (pyIter v) Q E ⟨hp, g, d, tk, os⟩ :=
      fun q => B.iter prog w _ _ ⟨hp, g, d, tk, os⟩ _ h1 q
    wp_walk using q1
    refine wpAny_stack_any fun st => wpAny_pure ?_
    split
    · rename_i c _ _ _ _ _
      cases (c == Value.type "enumerate")
      · wp_walk using q1
        exact ⟨_, rfl, h⟩
      · wp_walk using q1
        exact ⟨_, rfl, h⟩
    · wp_walk using q1
      exact ⟨_, rfl, h⟩
theorem enum_begins1 {prog : Program} {w : World} {A : Around} {E : Value → Shared → Prop} {s : Shared} {v : Value} {o : Obj} {H : Heap → Prop} {Q : Value → Shared → Prop} (B : Begins v o H) (h1 : H s.heap)
    (h : ∀ h', IsEnum h' (s.heap.objs.size + 1) s.heap.objs.size 0 .none → h'.get? s.heap.objs.size = some o → h'.objs.size = s.heap.objs.size + 2 →
      (∀ b o, s.heap.get? b = some o → h'.get? b = some o) → Q (.ref (s.heap.objs.size + 1)) { s with heap := h' }) :
    wpAny (model prog w) A (call (.type "enumerate") [v]) Q E s := by
  refine callType_new F.called_enumerate (by decide) (F.typeCall_enumerate_1 _) (F.newCall_enumerate_1 _) (fun obj => F.args_object_init_2 obj _) F.entry_enumerate_new
    (meets_enum1 B) ⟨h1, ?_⟩
  have hz : (s.heap.push o).objs.size = s.heap.objs.size + 1 := Heap.size_push ..
  show _ ∧ _
  rw [hz]
  have he : IsEnum ((s.heap.push o).push { cls := .type "enumerate", data := .fields #[.none, .bool false, .ref s.heap.objs.size, rawInt 0, .none, .none] }) (s.heap.objs.size + 1) s.heap.objs.size 0 .none := by
    have := Heap.get?_push_size (s.heap.push o) (o := { cls := .type "enumerate", data := .fields #[.none, .bool false, .ref s.heap.objs.size, rawInt 0, .none, .none] }) rfl
    rw [hz] at this; exact this
  refine ⟨⟨_, he, rfl⟩, h _ he (Heap.get?_push_of_some _ (Heap.get?_push_size _ B.free)) (by rw [Heap.size_push, hz]) fun b o x => Heap.get?_push_of_some _ (Heap.get?_push_of_some _ x)⟩
theorem turn_e {P : Program} {w : World} {K : PySem.W.Frag} {elts : List Expr} {kk : Nat} {tpos : Pos} {t : Bool} {a e it : Addr} {xs : List V} (hei : e ≠ it) (hea : e ≠ a) (hai : a ≠ it) :
    Turn P w K (.Tuple elts kk tpos) (ItE K t a xs) [e, it] e (fun i h => (∃ old, IsEnum h e it (0 + (i : Int)) old) ∧ SrcIt t h it a i) where
  mem := by simp
  obj := fun i h st c hc => by
    obtain ⟨⟨old, he⟩, h1⟩ := st
    have e' : c = e ∨ c = it := by simpa using hc
    rcases e' with q | q
    · rw [q]; exact ⟨_, he, fun v q => nomatch q⟩
    · rw [q]; exact srcIt_obj h1
  keep := fun i h h' st k => by
    obtain ⟨⟨old, he⟩, h1⟩ := st
    exact ⟨⟨old, k e (by simp) _ he⟩, srcIt_at h1 fun o q => k it (by simp) o q⟩
  item := by
    intro X hP hw hK hc i pins s σ H E I hf st hg
    subst hP hw hK
    obtain ⟨hq, hlt⟩ := hg
    obtain ⟨its, rv, p⟩ := inv_src I hq
    have l1 := rv.length
    have hh : X.A.in1.handled = none := by exact I.ok.hd hc
    have Wk := WalksT.enumFrom 0 (src_draws (prog := X.prog) (w := X.w) hh t it a hai its.toArray) e hei (by simp [hei, hea]) (by simp)
    obtain ⟨⟨old, he⟩, h1⟩ := st
    refine Wk.item i s _ E (by simp only [List.size_toArray]; omega) ⟨⟨old, he⟩, h1, p⟩ fun T vals h' tk hP hnew hT hm hk => ?_
    refine ⟨.ref T, rfl, Wk.go elts kk tpos i T { s with heap := h', toks := tk } _ E hm fun h'' st' hk' => ?_⟩
    obtain ⟨t1, u, hu, rfl⟩ := hP
    obtain ⟨y, ey, ry⟩ := vals_at rv hu
    have hT2 : h''.IsTuple T #[.int (0 + (i : Int)) t1, u] := hT.at fun o e => hk' T o (Wk.apart i T h' hm) e
    have e0 : (0 : Int) + (i : Int) = (i : Int) := by omega
    have new : ObjOk X.prog X.w (upd H T (.tup [.int (i : Int), y])) h'' T (.tup [.int (i : Int), y]) := ⟨by show 2 ≤ sizeLine; decide, [.int (0 + (i : Int)) t1, u], .cons ⟨t1, by rw [e0]⟩ (.cons ry .nil), hT2⟩
    have I1 : Inv X pins σ (upd H T (.tup [.int (i : Int), y])) { s with heap := h'', toks := tk } :=
      I.turnedNew (t' := tk) (ch := [e, it]) (fun c o hb q => hk' c o hb (hk c o hb q)) hf hnew new
    refine ⟨.ref T, _, I1, rfl, ⟨T, y, rfl, I.hok.fresh hnew, rfl, ey⟩, ⟨st'.1, st'.2.1⟩, fun c hcm => ?_⟩
    have hlt : c < s.heap.objs.size := by
      have e' : c = e ∨ c = it := by simpa using hcm
      rcases e' with q | q
      · rw [q]; exact Heap.lt_size he
      · rw [q]; obtain ⟨_, e1, _⟩ := srcIt_obj h1; exact Heap.lt_size e1
    rw [upd_ne (Nat.ne_of_lt (Nat.lt_of_lt_of_le hlt hnew))]
    exact (hf c hcm).1
  done := by
    intro X hP hw hK hc i pins s σ H E I hf st hg
    subst hP hw hK
    obtain ⟨hq, hlt⟩ := hg
    obtain ⟨its, rv, p⟩ := inv_src I hq
    have l1 := rv.length
    have hh : X.A.in1.handled = none := by exact I.ok.hd hc
    have Wk := WalksT.enumFrom 0 (src_draws (prog := X.prog) (w := X.w) hh t it a hai its.toArray) e hei (by simp [hei, hea]) (by simp)
    obtain ⟨⟨old, he⟩, h1⟩ := st
    have en : i = its.toArray.size := by simp only [List.size_toArray]; omega
    rw [en] at he h1
    exact Wk.done s _ E ⟨⟨old, he⟩, h1, p⟩ fun h' tk hk => ⟨rfl, I.turnedL (t' := tk) (ch := [e, it]) (fun c o hb q => hk c o hb q) hf⟩
  self := fun A i s Q E st h => by
    obtain ⟨⟨old, he⟩, _⟩ := st
    exact wpAny_pyIter_enum he h
def iEn (K : PySem.W.Frag) (ta : TA) : TI := fun σ H R => ta σ H fun vs H1 => ∃ t a xs, vs = [.ref a] ∧ SqX t K H1 a xs ∧ R (ItE K t a xs) H1
theorem pi_en {X : Cx} {e : Expr} {ta : TA} {p pos tpos : Pos} {elts : List Expr} {kk : Nat} (hg : Gl X "enumerate") (hm : X.mg "enumerate" = none) (ha : PA X [e] ta) (hs : starEach [e] X.env = [(false, eval e X.env)] := by rfl) :
    PI X (.Tuple elts kk tpos) (.Call (.Name "enumerate" p) [e] [] pos) (iEn X.K ta) := by
  refine ⟨fun pins s σ H R I h => ?_⟩
  refine Call_ (ld_blt I hg hm boot_enumerate (PyProof.Rows.callWith_type1 (thn (ha.run pos pins s σ H _ I h) fun us s1 ⟨vs, H1, I1, r1, q1⟩ => ?_) hs rfl))
  obtain ⟨t, a, xs, ex, hq, q⟩ := q1
  subst ex
  have eus : us = [.ref a] := by
    cases r1 with
    | cons q1 w1 =>
      cases w1
      cases (show _ = Value.ref a from q1)
      rfl
  subst eus
  obtain ⟨its, rv, p1⟩ := inv_src I1 hq
  have la : a < s1.heap.objs.size := p1.lt
  refine enum_begins1 (src_begins t a its.toArray) p1 fun h' he hit hsz hk => wpAny_pyIter_enum he ?_
  have I2 : Inv X pins σ H1 { s1 with heap := h' } := I1.kept (t' := s1.toks) hk
  refine ⟨s1.heap.objs.size + 1, [s1.heap.objs.size + 1, s1.heap.objs.size], _, _, H1, rfl, I2, turn_e (Nat.ne_of_gt (Nat.lt_succ_self _)) (Nat.ne_of_gt (Nat.lt_succ_of_lt la)) (Nat.ne_of_lt la), ⟨⟨.none, by simpa using he⟩, src_it0 hit⟩, fun c hcm => ?_, q⟩
  have hle : s1.heap.objs.size ≤ c := by
    have e' : c = s1.heap.objs.size + 1 ∨ c = s1.heap.objs.size := by simpa using hcm
    rcases e' with z | z
    · rw [z]; exact Nat.le_add_right _ _
    · rw [z]; exact Nat.le_refl _
  exact I1.fpOk hle (I1.hok.fresh hle)

/-! ### by data -/
def seqOf : DL.D → Option (List DL.D)
  | .lst xs => some xs
  | .tup xs => some xs
  | _ => none
theorem seq_x {K : PySem.W.Frag} {Hb : Hp} {d : DL.D} {v : V} {xs : List DL.D} (h : Is K Hb d v) (e : seqOf d = some xs) : ∃ t a vs, v = .ref a ∧ SqX t K Hb a vs ∧ IsA K Hb xs vs := by
  cases d with
  | lst ys =>
    cases e
    simp only [Is] at h
    obtain ⟨a, vs, rfl, h1, i1⟩ := h
    exact ⟨false, a, vs, rfl, h1, i1⟩
  | tup ys =>
    cases e
    simp only [Is] at h
    obtain ⟨a, vs, rfl, h1, i1⟩ := h
    exact ⟨true, a, vs, rfl, h1, i1⟩
  | _ => cases e
theorem SqX.mono {K : PySem.W.Frag} {H H' : Hp} {t : Bool} {a : Addr} {xs : List V} (s : Same H H') (h : SqX t K H a xs) : SqX t K H' a xs := by
  cases t with
  | true => exact Same.tup s h
  | false => exact s.seq h
def zip2L : List DL.D → List DL.D → List DL.D
  | x :: xs, y :: ys => .tup [x, y] :: zip2L xs ys
  | _, _ => []
def zip3L : List DL.D → List DL.D → List DL.D → List DL.D
  | x :: xs, y :: ys, z :: zs => .tup [x, y, z] :: zip3L xs ys zs
  | _, _, _ => []
def enumL : Nat → List DL.D → List DL.D
  | _, [] => []
  | n, x :: xs => .tup [.int n, x] :: enumL (n + 1) xs
theorem zip2_len : ∀ {xs ys : List DL.D}, (zip2L xs ys).length = min xs.length ys.length
  | [], ys => by simp [zip2L]
  | x :: xs, [] => by simp [zip2L]
  | x :: xs, y :: ys => by simp only [zip2L, List.length_cons, zip2_len]; omega
theorem zip3_len : ∀ {xs ys zs : List DL.D}, (zip3L xs ys zs).length = min (min xs.length ys.length) zs.length
  | [], ys, zs => by simp [zip3L]
  | x :: xs, [], zs => by simp [zip3L]
  | x :: xs, y :: ys, [] => by simp [zip3L]
  | x :: xs, y :: ys, z :: zs => by simp only [zip3L, List.length_cons, zip3_len]; omega
theorem enum_len : ∀ {n : Nat} {xs : List DL.D}, (enumL n xs).length = xs.length
  | n, [] => rfl
  | n, x :: xs => by simp [enumL, enum_len]
theorem zip2_get : ∀ {xs ys : List DL.D} {i : Nat} {d : DL.D}, (zip2L xs ys)[i]? = some d → ∃ x y, xs[i]? = some x ∧ ys[i]? = some y ∧ d = .tup [x, y]
  | [], ys, i, d, h => by simp [zip2L] at h
  | x :: xs, [], i, d, h => by simp [zip2L] at h
  | x :: xs, y :: ys, 0, d, h => by simp [zip2L] at h; exact ⟨x, y, rfl, rfl, h.symm⟩
  | x :: xs, y :: ys, i + 1, d, h => by
    obtain ⟨u, v, h1, h2, h3⟩ := zip2_get (xs := xs) (ys := ys) (i := i) (d := d) (by simpa [zip2L] using h)
    exact ⟨u, v, by simpa using h1, by simpa using h2, h3⟩
theorem zip3_get : ∀ {xs ys zs : List DL.D} {i : Nat} {d : DL.D}, (zip3L xs ys zs)[i]? = some d → ∃ x y z, xs[i]? = some x ∧ ys[i]? = some y ∧ zs[i]? = some z ∧ d = .tup [x, y, z]
  | [], ys, zs, i, d, h => by simp [zip3L] at h
  | x :: xs, [], zs, i, d, h => by simp [zip3L] at h
  | x :: xs, y :: ys, [], i, d, h => by simp [zip3L] at h
  | x :: xs, y :: ys, z :: zs, 0, d, h => by simp [zip3L] at h; exact ⟨x, y, z, rfl, rfl, rfl, h.symm⟩
  | x :: xs, y :: ys, z :: zs, i + 1, d, h => by
    obtain ⟨u, v, w, h1, h2, h3, h4⟩ := zip3_get (xs := xs) (ys := ys) (zs := zs) (i := i) (d := d) (by simpa [zip3L] using h)
    exact ⟨u, v, w, by simpa using h1, by simpa using h2, by simpa using h3, h4⟩
theorem enum_get : ∀ {n : Nat} {xs : List DL.D} {i : Nat} {d : DL.D}, (enumL n xs)[i]? = some d → ∃ x, xs[i]? = some x ∧ d = .tup [.int ((n + i : Nat) : Int), x]
  | n, [], i, d, h => by simp [enumL] at h
  | n, x :: xs, 0, d, h => by simp [enumL] at h; exact ⟨x, rfl, by simp [h.symm]⟩
  | n, x :: xs, i + 1, d, h => by
    obtain ⟨u, h1, h2⟩ := enum_get (n := n + 1) (xs := xs) (i := i) (d := d) (by simpa [enumL] using h)
    refine ⟨u, by simpa using h1, ?_⟩
    rw [h2, show n + 1 + i = n + (i + 1) by omega]
theorem new_tup {K : PySem.W.Frag} {Hb H : Hp} {T : Addr} {ds : List DL.D} {vs : List V} (s : Same Hb H) (h : H T = none) (i : IsA K Hb ds vs) : ∃ Hb', Gro Hb H Hb' (upd H T (.tup vs)) ∧ Is K Hb' (.tup ds) (.ref T) :=
  ⟨upd Hb T (.tup vs), Gro.newT s h, Is.tupI (.inl (.inl upd_same)) (IsA.mono (Same.new (Same.none s h)) _ _ i)⟩
section
variable {K : PySem.W.Frag} {Hb0 : Hp}
theorem iz2_is {t1 t2 : Bool} {a b : Addr} {us ws : List V} {xs ys : List DL.D} (h1 : SqX t1 K Hb0 a us) (h2 : SqX t2 K Hb0 b ws) (i1 : IsA K Hb0 xs us) (i2 : IsA K Hb0 ys ws) : ItD K Hb0 (ItZ2 K t1 t2 a b us ws) (zip2L xs ys) := by
  have l1 := i1.length
  have l2 := i2.length
  refine ⟨fun Hb H i s1 s2 hi => ⟨⟨(h1.mono s1).mono s2, (h2.mono s1).mono s2⟩, by rw [zip2_len] at hi; omega⟩, fun Hb H i x H' d s1 s2 y e => ?_, fun Hb H s1 s2 => ⟨⟨(h1.mono s1).mono s2, (h2.mono s1).mono s2⟩, by rw [zip2_len]; omega⟩⟩
  obtain ⟨T, u, v, rfl, hT, rfl, eu, ev⟩ := y
  obtain ⟨dx, dy, ex, ey, rfl⟩ := zip2_get e
  obtain ⟨u', eu', iu⟩ := i1.get ex
  rw [eu] at eu'; cases eu'
  obtain ⟨v', ev', iv⟩ := i2.get ey
  rw [ev] at ev'; cases ev'
  exact new_tup s2 hT (IsA.cons (Is.mono s1 _ _ iu) (IsA.cons (Is.mono s1 _ _ iv) IsA.nil))
theorem iz3_is {t1 t2 t3 : Bool} {a b c : Addr} {us ws zs : List V} {xs ys qs : List DL.D} (h1 : SqX t1 K Hb0 a us) (h2 : SqX t2 K Hb0 b ws) (h3 : SqX t3 K Hb0 c zs) (i1 : IsA K Hb0 xs us) (i2 : IsA K Hb0 ys ws) (i3 : IsA K Hb0 qs zs) : ItD K Hb0 (ItZ3 K t1 t2 t3 a b c us ws zs) (zip3L xs ys qs) := by
  have l1 := i1.length
  have l2 := i2.length
  have l3 := i3.length
  refine ⟨fun Hb H i s1 s2 hi => ⟨⟨(h1.mono s1).mono s2, (h2.mono s1).mono s2, (h3.mono s1).mono s2⟩, by rw [zip3_len] at hi; omega⟩, fun Hb H i x H' d s1 s2 y e => ?_, fun Hb H s1 s2 => ⟨⟨(h1.mono s1).mono s2, (h2.mono s1).mono s2, (h3.mono s1).mono s2⟩, by rw [zip3_len]; omega⟩⟩
  obtain ⟨T, u, v, w, rfl, hT, rfl, eu, ev, ew⟩ := y
  obtain ⟨dx, dy, dz, ex, ey, ez, rfl⟩ := zip3_get e
  obtain ⟨u', eu', iu⟩ := i1.get ex
  rw [eu] at eu'; cases eu'
  obtain ⟨v', ev', iv⟩ := i2.get ey
  rw [ev] at ev'; cases ev'
  obtain ⟨w', ew', iw⟩ := i3.get ez
  rw [ew] at ew'; cases ew'
  exact new_tup s2 hT (IsA.cons (Is.mono s1 _ _ iu) (IsA.cons (Is.mono s1 _ _ iv) (IsA.cons (Is.mono s1 _ _ iw) IsA.nil)))
theorem ie_is {t : Bool} {a : Addr} {us : List V} {xs : List DL.D} (h1 : SqX t K Hb0 a us) (i1 : IsA K Hb0 xs us) : ItD K Hb0 (ItE K t a us) (enumL 0 xs) := by
  have l1 := i1.length
  refine ⟨fun Hb H i s1 s2 hi => ⟨(h1.mono s1).mono s2, by rw [enum_len] at hi; omega⟩, fun Hb H i x H' d s1 s2 y e => ?_, fun Hb H s1 s2 => ⟨(h1.mono s1).mono s2, by rw [enum_len]; omega⟩⟩
  obtain ⟨T, u, rfl, hT, rfl, eu⟩ := y
  obtain ⟨dx, ex, rfl⟩ := enum_get e
  obtain ⟨u', eu', iu⟩ := i1.get ex
  rw [eu] at eu'; cases eu'
  rw [Nat.zero_add]
  exact new_tup s2 hT (IsA.cons Is.intI (IsA.cons (Is.mono s1 _ _ iu) IsA.nil))
end
def seqsOf : List DL.D → Option (List (List DL.D))
  | [] => some []
  | d :: ds => match seqOf d, seqsOf ds with
    | some x, some xs => some (x :: xs)
    | _, _ => none
def zip2D : List (List DL.D) → Option (List DL.D)
  | [xs, ys] => some (zip2L xs ys)
  | _ => none
def zip3D : List (List DL.D) → Option (List DL.D)
  | [xs, ys, zs] => some (zip3L xs ys zs)
  | _ => none
def enD : List (List DL.D) → Option (List DL.D)
  | [xs] => some (enumL 0 xs)
  | _ => none
def mSeqs (f : List (List DL.D) → Option (List DL.D)) (as : M (List Rs)) : M (List DL.D) := fun ρ => bnd (as ρ) fun rs ρ1 => match keeps ρ1 rs with
  | some (ds, ρ2) => (match seqsOf ds with
    | some xss => (match f xss with
      | some xs => .ok xs ρ2
      | none => .stuck)
    | none => .stuck)
  | none => .stuck
section
variable {X : Cx} {K : PySem.W.Frag} {W : WX} {σ : L2.St} {H : Hp}
theorem tI_seqs {f : List (List DL.D) → Option (List DL.D)} {as : M (List Rs)} {R : It → Hp → Prop} {Rv : List V → Hp → Prop} (h : tI K W (mSeqs f as) σ H R)
    (k : ∀ Hb H1 ds vs xss xs, Same Hb H1 → IsA K Hb ds vs → seqsOf ds = some xss → f xss = some xs → (∀ J, ItD K Hb J xs → R J H1) → Rv vs H1) : tA K W as σ H Rv := by
  obtain ⟨Hb, ρ, S, P⟩ := h
  refine ⟨Hb, ρ, S, ?_⟩
  unfold mSeqs at P
  cases ea : as ρ with
  | stuck => rw [ea] at P; exact P
  | er e ρ1 => rw [ea] at P; exact P
  | ok rs ρ1 =>
    rw [ea] at P
    intro vs H1 Hb1 s1 r1
    simp only [bnd] at P
    cases ek : keeps ρ1 rs with
    | none => rw [ek] at P; exact P.elim
    | some q =>
      obtain ⟨ds, ρ2⟩ := q
      rw [ek] at P
      simp only at P
      obtain ⟨Hb2, s2, i2⟩ := keeps_ok (own_there' S s1) s1.st r1 ek
      cases es : seqsOf ds with
      | none => rw [es] at P; exact P.elim
      | some xss =>
        rw [es] at P
        simp only at P
        cases er : f xss with
        | none => rw [er] at P; exact P.elim
        | some xs =>
          rw [er] at P
          exact k Hb2 H1 ds vs xss xs s2.st.sub i2 es er fun J hJ => P J H1 Hb2 (s1.trans s2) hJ
theorem seqs_cons {ds : List DL.D} {xs : List DL.D} {xss : List (List DL.D)} (h : seqsOf ds = some (xs :: xss)) : ∃ d r, ds = d :: r ∧ seqOf d = some xs ∧ seqsOf r = some xss := by
  cases ds with
  | nil => cases h
  | cons d r =>
    unfold seqsOf at h
    cases e1 : seqOf d with
    | none => rw [e1] at h; cases h
    | some x =>
      cases e2 : seqsOf r with
      | none => rw [e1, e2] at h; cases h
      | some q => rw [e1, e2] at h; cases h; exact ⟨d, r, rfl, e1, e2⟩
theorem seqs_nil {ds : List DL.D} (h : seqsOf ds = some []) : ds = [] := by
  cases ds with
  | nil => rfl
  | cons d r =>
    unfold seqsOf at h
    cases e1 : seqOf d with
    | none => rw [e1] at h; cases h
    | some x =>
      cases e2 : seqsOf r with
      | none => rw [e1, e2] at h; cases h
      | some q => rw [e1, e2] at h; cases h
theorem isA_cons {Hb : Hp} {d : DL.D} {ds : List DL.D} {vs : List V} (h : IsA K Hb (d :: ds) vs) : ∃ v r, vs = v :: r ∧ Is K Hb d v ∧ IsA K Hb ds r := by simpa only [IsA] using h
theorem di_zip2 {e e2 : Expr} {as : M (List Rs)} {p pos tpos : Pos} {elts : List Expr} {kk : Nat} (hg : Gl X "zip") (hm : X.mg "zip" = none) (ha : PA X [e, e2] (tA X.K W as))
    (hs : starEach [e, e2] X.env = (false, eval e X.env) :: starEach [e2] X.env := by rfl) (hpl : (backTo pos (starEach [e2] X.env)).any (·.1) = false := by rfl) :
    PI X (.Tuple elts kk tpos) (.Call (.Name "zip" p) [e, e2] [] pos) (tI X.K W (mSeqs zip2D as)) := by
  refine PI.imp (pi_z2 hg hm ha hs hpl) fun σ H R h => tI_seqs h fun Hb H1 ds vs xss xs sb ia es er go => ?_
  unfold zip2D at er
  split at er
  · cases er
    obtain ⟨d1, r1, rfl, e1, es⟩ := seqs_cons es
    obtain ⟨d2, r2, rfl, e2, es⟩ := seqs_cons es
    cases seqs_nil es
    obtain ⟨v1, w1, rfl, i1, ia⟩ := isA_cons ia
    obtain ⟨v2, w2, rfl, i2, ia⟩ := isA_cons ia
    simp only [IsA] at ia
    subst ia
    obtain ⟨t1, a, us, rfl, q1, j1⟩ := seq_x i1 e1
    obtain ⟨t2, b, ws, rfl, q2, j2⟩ := seq_x i2 e2
    exact ⟨t1, t2, a, b, us, ws, rfl, ⟨q1.mono sb, q2.mono sb⟩, go _ (iz2_is q1 q2 j1 j2)⟩
  · cases er
theorem di_zip3 {e e2 e3 : Expr} {as : M (List Rs)} {p pos tpos : Pos} {elts : List Expr} {kk : Nat} (hg : Gl X "zip") (hm : X.mg "zip" = none) (ha : PA X [e, e2, e3] (tA X.K W as))
    (hs : starEach [e, e2, e3] X.env = (false, eval e X.env) :: starEach [e2, e3] X.env := by rfl) (hpl : (backTo pos (starEach [e2, e3] X.env)).any (·.1) = false := by rfl) :
    PI X (.Tuple elts kk tpos) (.Call (.Name "zip" p) [e, e2, e3] [] pos) (tI X.K W (mSeqs zip3D as)) := by
  refine PI.imp (pi_z3 hg hm ha hs hpl) fun σ H R h => tI_seqs h fun Hb H1 ds vs xss xs sb ia es er go => ?_
  unfold zip3D at er
  split at er
  · cases er
    obtain ⟨d1, r1, rfl, e1, es⟩ := seqs_cons es
    obtain ⟨d2, r2, rfl, e2, es⟩ := seqs_cons es
    obtain ⟨d3, r3, rfl, e3, es⟩ := seqs_cons es
    cases seqs_nil es
    obtain ⟨v1, w1, rfl, i1, ia⟩ := isA_cons ia
    obtain ⟨v2, w2, rfl, i2, ia⟩ := isA_cons ia
    obtain ⟨v3, w3, rfl, i3, ia⟩ := isA_cons ia
    simp only [IsA] at ia
    subst ia
    obtain ⟨t1, a, us, rfl, q1, j1⟩ := seq_x i1 e1
    obtain ⟨t2, b, ws, rfl, q2, j2⟩ := seq_x i2 e2
    obtain ⟨t3, c, zs, rfl, q3, j3⟩ := seq_x i3 e3
    exact ⟨t1, t2, t3, a, b, c, us, ws, zs, rfl, ⟨q1.mono sb, q2.mono sb, q3.mono sb⟩, go _ (iz3_is q1 q2 q3 j1 j2 j3)⟩
  · cases er
theorem di_enum {e : Expr} {as : M (List Rs)} {p pos tpos : Pos} {elts : List Expr} {kk : Nat} (hg : Gl X "enumerate") (hm : X.mg "enumerate" = none) (ha : PA X [e] (tA X.K W as))
    (hs : starEach [e] X.env = [(false, eval e X.env)] := by rfl) :
    PI X (.Tuple elts kk tpos) (.Call (.Name "enumerate" p) [e] [] pos) (tI X.K W (mSeqs enD as)) := by
  refine PI.imp (pi_en hg hm ha hs) fun σ H R h => tI_seqs h fun Hb H1 ds vs xss xs sb ia es er go => ?_
  unfold enD at er
  split at er
  · cases er
    obtain ⟨d1, r1, rfl, e1, es⟩ := seqs_cons es
    cases seqs_nil es
    obtain ⟨v1, w1, rfl, i1, ia⟩ := isA_cons ia
    simp only [IsA] at ia
    subst ia
    obtain ⟨t1, a, us, rfl, q1, j1⟩ := seq_x i1 e1
    exact ⟨t1, a, us, rfl, q1.mono sb, go _ (ie_is q1 j1)⟩
  · cases er
end
end DL

namespace DL
open PySem L2 PyProof.Rows
section
variable {X : Cx} {pins : List (Addr × Obj)} {σ : L2.St} {H : Hp} {s : Shared}
/-- an object of ours, not there at the entry, is tracked from now on -/
theorem inv_track {a : Addr} {o : HO} {oe : Obj} {vs : Array Value} (I : Inv X pins σ H s) (ha : s.heap.get? a = some oe) (hd : oe.data = .fields vs) (na : H a = none) (nL : a ≠ X.env.locals) (nF : a ∉ X.fs) (n0 : X.s_0.heap.get? a = none) (np : ∀ p ∈ X.pn ++ pins, p.1 ≠ a)
    (new : ObjOk X.prog X.w (upd H a o) s.heap a o) : Inv X pins σ (upd H a o) s := by
  have neC : ∀ x c, X.env.cells.lookup x = some c → c ≠ a := fun x c e z => by
    obtain ⟨v, ob, h1, h2⟩ := I.cell x c e
    rw [z, ha] at h1; cases h1
    rw [hd] at h2; cases h2
  refine ⟨I.ok, I.os, I.bare, ⟨I.base.keep, I.base.slot, fun b ob e n hx => ?_, I.base.there, fun b xs e => ?_, fun b ob u e => ?_, fun b ps e => ?_⟩, I.loc, I.cell, ?_, fun x c e => ?_, fun p hp => ?_, fun b u e => ?_, I.len⟩
  · rw [upd_ne (fun z => by rw [z, n0] at e; cases e)]; exact I.base.free b ob e n hx
  · have q := I.base.tups b xs e
    rw [upd_ne (ne_of_none q na)]; exact q
  · have q := I.base.frzs b ob u e
    rw [upd_ne (ne_of_none q na)]; exact q
  · obtain ⟨m, q⟩ := I.base.tbls b ps e
    exact ⟨m, by rw [upd_ne (ne_of_none q na)]; exact q⟩
  · rw [upd_ne (Ne.symm nL)]; exact I.free
  · rw [upd_ne (neC x c e)]; exact I.freeC x c e
  · obtain ⟨e, n, r⟩ := I.pin p hp
    exact ⟨e, by rw [upd_ne (np p hp)]; exact n, r⟩
  · by_cases hb : b = a
    · subst hb
      rw [upd_same] at e; cases e
      exact new
    · rw [upd_ne hb] at e
      exact (I.hok b u e).stay (fun _ _ _ q => q) (fun c q => by rw [upd_ne (ne_of_none q na)]; exact q) fun c xs q => by rw [upd_ne (ne_of_none q na)]; exact q
theorem inv_suite {a : Addr} (I : Inv X pins σ H s) : Inv (X.suite a (X.pn ++ pins)) [] σ H s :=
  ⟨I.ok.suite _ _, I.os, I.bare, I.base, I.loc, I.cell, I.free, I.freeC, fun p hp => I.pin p (by rw [List.append_nil] at hp; exact hp), I.hok, I.len⟩
theorem inv_unsuite {a : Addr} {pn' : List (Addr × Obj)} (I : Inv (X.suite a (X.pn ++ pins)) pn' σ H s) (ok : X.Ok) : Inv X pins σ H s :=
  ⟨ok, I.os, I.bare, I.base, I.loc, I.cell, I.free, I.freeC, fun p hp => I.pin p (List.mem_append_left _ hp), I.hok, I.len⟩
theorem exh_ok {P : Program} {w : World} {H : Hp} {h : Heap} {a c : Addr} {d : Option Addr} {oe : Obj} {vs : Array Value} (e : h.get? a = some oe) (z : Zc (.ref c) d oe) (hd : oe.data = .fields vs) : ObjOk P w H h a (ExH c d a) :=
  ⟨⟨oe, vs, e, z.1, z.2, hd⟩, ⟨oe, e⟩, fun _ _ ⟨o, v, q, r⟩ k => ⟨o, v, k o q, r⟩⟩
end
/-- what the clause wishes: the exception is kept in sight -/
def wTr (K : PySem.W.Frag) (c : Value) (i : Nat) (ts : TS) (Wout : WX) (D : Ends) : WX := fun cls d σ H =>
  ∃ b, PySem.W.exmOne K cls c = some b ∧ (b = true → ∀ a, H a = none → ∃ cc, cls = .ref cc ∧ ts { nx := fun σ' H' => D.nx (σ'.set i none) H', rt := D.rt, bk := fun σ' H' => D.bk (σ'.set i none) H', ct := fun σ' H' => D.ct (σ'.set i none) H' } (σ.set i (some (.ref a))) (upd H a (ExH cc d a))) ∧
    (b = false → Wout cls d σ H)
/-- an exception object a that has come up to this frame, the heap being h: below it the state sI, a state of ours -/
structure Seen (X : Cx) (pins : List (Addr × Obj)) (σ : L2.St) (H : Hp) (sI s : Shared) (a : Addr) (B : Heap) (cls : Value) (d : Option Addr) (h : Heap) : Prop where
  low : Inv X pins σ H sI
  nb : ∀ b o, sI.heap.get? b = some o → b ∉ frs X.stack → B.get? b = some o
  up : sI.heap.UpToSlots h
  fl : HandSPX.FlyingZ B X.stack a (Zc cls d) h
  na : H a = none
  os : s.os = sI.os
  ag : AllBare s.gens
section
variable {X : Cx} {pins : List (Addr × Obj)} {σ : L2.St} {H : Hp} {sI s : Shared} {a : Addr} {B : Heap} {cls : Value} {d : Option Addr} {h : Heap}
theorem Seen.next {h2 : Heap} (S : Seen X pins σ H sI s a B cls d h) (fl : HandSPX.FlyingZ B X.stack a (Zc cls d) h2) (up : h.UpToSlots h2) : Seen X pins σ H sI s a B cls d h2 := { S with up := S.up.trans up, fl := fl }
theorem Seen.inv (S : Seen X pins σ H sI s a B cls d h) : Inv X pins σ H { s with heap := h } := Inv.landed (s' := { s with heap := h }) S.low S.nb S.fl.1 S.up S.os S.ag
theorem Seen.obj (S : Seen X pins σ H sI s a B cls d h) : ∃ oe vs, h.get? a = some oe ∧ Zc cls d oe ∧ oe.data = .fields vs := by
  obtain ⟨_, _, _, oe, vs, _, _, _, q1, q2, q3, _⟩ := S.fl
  exact ⟨oe, vs, q1, q2, q3⟩
/-- it is none of the frames: a frame's object holds no fields -/
theorem Seen.noFrame (S : Seen X pins σ H sI s a B cls d h) : a ∉ frs X.stack := fun m => by
  obtain ⟨oe, vs, q, _, qd⟩ := S.obj
  obtain ⟨_, o, qo, no⟩ := S.fl.2.2.1.mem m
  rw [q] at qo
  exact no _ ((Option.some.inj qo) ▸ qd)
theorem Seen.fresh (S : Seen X pins σ H sI s a B cls d h) : sI.heap.get? a = none := by
  by_cases q : ∃ o, sI.heap.get? a = some o
  · obtain ⟨o, q⟩ := q
    have := S.nb a o q S.noFrame
    rw [S.fl.2.1] at this
    cases this
  · cases e : sI.heap.get? a with
    | none => rfl
    | some o => exact (q ⟨o, e⟩).elim
/-- from now on it is an object of ours -/
theorem Seen.track {cc : Addr} (S : Seen X pins σ H sI s a B (.ref cc) d h) (hs : X.stack = X.env :: X.outer) (hf : X.env.frame = some X.env.locals) (hex : X.ex = []) : Inv X pins σ (upd H a (ExH cc d a)) { s with heap := h } := by
  obtain ⟨oe, vs, q, z, qd⟩ := S.obj
  have nf := S.noFrame
  rw [hs] at nf
  refine inv_track S.inv q qd S.na (fun e => nf ?_) (fun m => nf ?_) ?_ (fun p hp e => ?_) (exh_ok q z qd)
  · exact List.mem_filterMap.mpr ⟨_, .head _, by rw [e]; exact hf⟩
  · obtain ⟨v, hv, e⟩ := List.mem_filterMap.mp m
    exact List.mem_filterMap.mpr ⟨v, .tail _ hv, e⟩
  · cases e : X.s_0.heap.get? a with
    | none => rfl
    | some o =>
      obtain ⟨_, z⟩ := S.low.base.there a o e (by rw [hex]; exact List.not_mem_nil)
      rw [S.fresh] at z; cases z
  · have := (S.low.pin p hp).1
    rw [e, S.fresh] at this
    cases this
/-- no clause is left: it goes up -/
theorem Seen.leave {Wout : WX} {Q : Flow → Shared → Prop} (S : Seen X pins σ H sI s a B cls d h) (hf : X.env.frame = some X.env.locals) (tk : Takes X Wout) (w : Wout cls d σ H) :
    wpAny (model X.prog X.w) X.A (handleBy (.ref a) X.env []) Q X.xe { s with heap := h } := by
  have up : ∀ Q' : Unit → Shared → Prop, (∀ s', XE X Wout (.ref a) s' → Q' () s') → wpAny (model X.prog X.w) X.A (setFlight (.ref a) X.env.frame) Q' X.xe { s with heap := h } := fun Q' k => by
    rw [hf]
    exact HandSPX.setFlight_upZ S.fl fun h2 q2 u2 => k _ ⟨a, B, sI, pins, σ, H, cls, d, rfl, S.low, S.nb, S.up.trans u2, .inr (.inr q2), S.na, S.os, S.ag, w⟩
  refine wpAny_handleBy_nil ?_
  obtain ⟨_, _, _, _, _, T, _, _, q, _, qd, q1, _⟩ := S.fl
  unfold PySem.passOn
  refine wpAny_bind (wpAny_field q qd q1 ?_)
  have nn : ¬ ((Value.ref T == Value.none) = true) := by simp
  rw [if_neg nn]
  first
    | exact wpAny_bind (wpAny_pure (wpAny_bind (up _ fun s' e => wpAny_throw (tk _ _ e))))
    | exact wpAny_bind (up _ fun s' e => wpAny_throw (tk _ _ e))
end
section
variable {X : Cx} {x n : Str} {c : Value} {i : Nat} {body suite : List Stmt} {b₀ : Stmt} {np pos pos' : Pos} {tb : WX → TS} {ts : TS} {Wout : WX}
/-- the name of the exception is taken back behind the suite, whichever way it ended -/
theorem behind {pins : List (Addr × Obj)} {D : Ends} {a : Addr} {pn : List (Addr × Obj)} {s : Shared} (ok : X.Ok) (hN : X.N.Nodup) (hi : X.N[i]? = some n) (hln : X.env.kindOf n = some .local) (e : pn = X.pn ++ pins) (f : Flow)
    (h : SP (X.suite a pn) [] { nx := fun σ' H' => D.nx (σ'.set i none) H', rt := D.rt, bk := fun σ' H' => D.bk (σ'.set i none) H', ct := fun σ' H' => D.ct (σ'.set i none) H' } f s)
    {G : Shared → Prop} (g : ∀ s', SP X pins D f s' → G s') : wpAny (model X.prog X.w) X.A (do bindName X.env n .none; unbindBehindTheSuite X.env n pos') (fun _ s' => G s') X.xe s := by
  subst e
  cases f with
  | ret u =>
    obtain ⟨v, σ, H, I, r, q⟩ := h
    exact gone_ok (inv_unsuite I ok) hN hi hln fun s' J => g s' ⟨v, _, _, J, r, q⟩
  | next =>
    obtain ⟨σ, H, I, q⟩ := h
    exact gone_ok (inv_unsuite I ok) hN hi hln fun s' J => g s' ⟨_, _, J, q⟩
  | brk =>
    obtain ⟨σ, H, I, q⟩ := h
    exact gone_ok (inv_unsuite I ok) hN hi hln fun s' J => g s' ⟨_, _, J, q⟩
  | cont =>
    obtain ⟨σ, H, I, q⟩ := h
    exact gone_ok (inv_unsuite I ok) hN hi hln fun s' J => g s' ⟨_, _, J, q⟩
/-- one clause asks the exception's class -/
theorem ask {pins : List (Addr × Obj)} {σ : L2.St} {H : Hp} {sI s : Shared} {a : Addr} {B : Heap} {cls : Value} {d : Option Addr} {h : Heap} {b : Bool} {E : Value → Shared → Prop} {Q : Bool → Shared → Prop}
    (S : Seen X pins σ H sI s a B cls d h) (hc : Names X x c) (hb : PySem.W.exmOne X.K cls c = some b) (q : wpAny (model X.prog X.w) (X.A.mark (some (.ref a))) (excMatches (.ref a) c) Q E { s with heap := h }) :
    wpAny (model X.prog X.w) (X.A.mark (some (.ref a))) (eval (.Name x np) X.env) (fun t s' => wpAny (model X.prog X.w) (X.A.mark (some (.ref a))) (excMatches (.ref a) t) Q E s') E { s with heap := h } := by
  have I := inv_suite (a := a) S.inv
  obtain ⟨hg, hd, q1 | ⟨q1, q2, q3⟩⟩ := hc
  · exact ld_glob (X := X.suite a (X.pn ++ pins)) I hg q1 q hd
  · exact ld_blt (X := X.suite a (X.pn ++ pins)) I hg q1 q2 q q3 hd
theorem ps_try_tr (hs : X.stack = X.env :: X.outer) (hf : X.env.frame = some X.env.locals) (hN : X.N.Nodup) (hi : X.N[i]? = some n) (hln : X.env.kindOf n = some .local) (hc : Names X x c) (tk : Takes X Wout)
    (hb : ∀ (W : WX) (pn : List (Addr × Obj)) (xe : Value → Shared → Prop), Takes (X.tr pn xe) W → PassesOwn (model X.prog X.w) X.A X.env xe → PSs (X.tr pn xe) body (tb W))
    (hsu : ∀ (a : Addr) (pn : List (Addr × Obj)), PSs (X.suite a pn) (b₀ :: suite) ts) (hex : X.ex = []) :
    PS X (.Try body [.ExceptHandler (some (.Name x np)) (some n) (b₀ :: suite) pos'] [] [] pos) (fun D σ H => tb (wTr X.K c i ts Wout D) D σ H) := by
  refine ⟨fun pins s σ H D I wish => ?_⟩
  have ok := I.ok
  -- what comes up from the body is caught or goes on
  have caught : ∀ u s', XE (X.tr (X.pn ++ pins) (fun e s₁ => wpAny (model X.prog X.w) X.A (noteFrame e X.env) (fun _ s₂ => wpAny (model X.prog X.w) X.A (setFlight e none) (fun _ s₃ =>
      wpAny (model X.prog X.w) X.A (handleBy e X.env [.ExceptHandler (some (.Name x np)) (some n) (b₀ :: suite) pos']) (SP X pins D) X.xe s₃) X.xe s₂) X.xe s₁)) (wTr X.K c i ts Wout D) u s' →
      wpAny (model X.prog X.w) X.A (noteFrame u X.env) (fun _ s₂ => wpAny (model X.prog X.w) X.A (setFlight u none) (fun _ s₃ =>
      wpAny (model X.prog X.w) X.A (handleBy u X.env [.ExceptHandler (some (.Name x np)) (some n) (b₀ :: suite) pos']) (SP X pins D) X.xe s₃) X.xe s₂) X.xe s' := by
    rintro u s' ⟨a, B, sI, pins', σ', H', cls, d, rfl, low, nb, up, sky, na, os, ag, b, eb, yes, no⟩
    have sky : Sky B (X.env :: X.outer) a (Zc cls d) X.env.locals s'.heap := hs ▸ sky
    refine sky.land Zc.steady (by rw [ok.frames, hs]) hf fun h1 q1 u1 => ?_
    have S : Seen X pins σ' H' sI s' a B cls d h1 := ⟨low.ofTry ok, nb, up.trans u1, hs.symm ▸ q1, na, os, ag⟩
    refine wpAny_handleBy_cons (codeAny_handlers_test ?_) (by intro q; cases q)
    obtain ⟨oe, vs, g1, z1, _⟩ := S.obj
    refine ask S hc eb ((PySem.W.exm_one S.inv.kIn (fun A Q E t k q => wpAny_typeOf_ref (k _ _ g1) (by rw [z1.1]; exact q)) eb).here ?_)
    cases b with
    | false => exact S.leave hf tk (no rfl)
    | true =>
      refine codeAny_handlers_suite_as (HandSPX.lands_againZ S.fl fun h2 q2 u2 => ?_)
      have S2 := S.next q2 u2
      obtain ⟨cc, rfl, w2⟩ := yes rfl a na
      refine store_ok (X := X.suite a (X.pn ++ pins)) (v := .ref a) (inv_suite (S2.track hs hf hex)) hN hi (.inl hln) rfl (fun s5 I5 => ?_) (.inr hln)
      exact wpAny_mono ((hsu a (X.pn ++ pins)).run [] s5 _ _ _ I5 w2) (fun f s6 q => behind ok hN hi hln rfl f q fun _ r => r) fun _ _ z => z.elim
  -- the body's other ends are the clause's own
  have ends : ∀ f s1, SP (X.tr (X.pn ++ pins) (fun e s₁ => wpAny (model X.prog X.w) X.A (noteFrame e X.env) (fun _ s₂ => wpAny (model X.prog X.w) X.A (setFlight e none) (fun _ s₃ =>
      wpAny (model X.prog X.w) X.A (handleBy e X.env [.ExceptHandler (some (.Name x np)) (some n) (b₀ :: suite) pos']) (SP X pins D) X.xe s₃) X.xe s₂) X.xe s₁)) [] D f s1 → SP X pins D f s1 := fun f s1 q => by
    cases f with
    | ret u => exact let ⟨v, σ', H', J, r, w⟩ := q; ⟨v, σ', H', J.ofTry ok, r, w⟩
    | next => exact let ⟨σ', H', J, w⟩ := q; ⟨σ', H', J.ofTry ok, w⟩
    | brk => exact let ⟨σ', H', J, w⟩ := q; ⟨σ', H', J.ofTry ok, w⟩
    | cont => exact let ⟨σ', H', J, w⟩ := q; ⟨σ', H', J.ofTry ok, w⟩
  refine wpAny_Try_except (wpAny_mono ((hb (wTr X.K c i ts Wout D) (X.pn ++ pins) _ caught PassesOwn.looking).run [] s σ H D (I.toTry _) wish) (fun f s1 q => ?_) fun _ _ q => q)
  have r := ends f s1 q
  cases f with
  | next => exact wpAny_execs_nil r
  | _ => exact r
end
/-- which class stands under which -/
def subK (j k : Nat) : Bool := j == k || k == 0
def unR (i : Nat) : Out → Out
  | .nx ρ => if isIo ρ[i]? = false then .nx (ρ.set i .un) else .stuck
  | .bk ρ => if isIo ρ[i]? = false then .bk (ρ.set i .un) else .stuck
  | .ct ρ => if isIo ρ[i]? = false then .ct (ρ.set i .un) else .stuck
  | .rt (.va d) ρ => .rt (.va d) ρ
  | .rt (.fr d) ρ => .rt (.fr d) ρ
  | _ => .stuck
/-- try: body, except class k as slot i: suite; cl: the classes that may come -/
def nTry (cl : List Nat) (nb : N) (k i : Nat) (ns : N) : N := fun ρ => match nb ρ with
  | .er e ρ1 => if cl.contains e.cls = true then (if subK e.cls k = true then (if i < ρ1.length ∧ isIo ρ1[i]? = false then unR i (ns (ρ1.set i (.va (.exc e.cls e.x)))) else .stuck) else .er e ρ1) else .stuck
  | o => o
section
variable {K : PySem.W.Frag} {σ : L2.St} {H Hb : Hp} {ρ : Rho}
theorem SteS.un {i : Nat} (S : StR K Hb σ ρ H) (nio : isIo ρ[i]? = false) : SteS K Hb σ ρ H Hb (σ.set i none) (ρ.set i .un) H := by
  have own : ∀ {j b}, OwnAt (σ.set i none) (ρ.set i .un) j b → OwnAt σ ρ j b := fun {j b} h => by
    obtain ⟨e, io, xs, q⟩ := h
    by_cases hij : i = j
    · subst hij
      by_cases hl : i < ρ.length
      · rw [List.getElem?_set_self hl] at q; cases q
      · rw [List.getElem?_eq_none (by rw [List.length_set]; omega)] at q; cases q
    · rw [List.getElem?_set_ne hij] at e q
      exact ⟨e, io, xs, q⟩
  refine ⟨fun _ _ e _ => e, fun _ e => e, Same.refl _, fun _ _ _ n _ => n, fun b ⟨j, h⟩ => .inl ⟨j, own h⟩, fun j xs h => ?_, by rw [List.length_set], ⟨S.sub, by rw [List.length_set, List.length_set]; exact S.len, fun j s e => ?_, fun j k b hj hk => S.dis j k b (own hj) (own hk)⟩⟩
  · have hij : i ≠ j := fun z => by subst z; rw [h] at nio; cases nio
    exact ⟨List.getElem?_set_ne hij, xs, by rw [List.getElem?_set_ne hij]; exact h⟩
  · by_cases hij : i = j
    · subst hij
      have hl : i < ρ.length := by have := (List.getElem?_eq_some_iff.mp e).1; rw [List.length_set] at this; exact this
      rw [List.getElem?_set_self hl] at e; cases e
      exact ⟨none, List.getElem?_set_self (by rw [S.len]; exact hl), trivial⟩
    · rw [List.getElem?_set_ne hij] at e
      obtain ⟨o, e1, e2⟩ := S.sl j s e
      exact ⟨o, by rw [List.getElem?_set_ne hij]; exact e1, e2⟩
end
section
variable {X : Cx} {W : WX}
/-- the classes at cl are told rightly by the clause's class c -/
def ExmOk (K : PySem.W.Frag) (cl : List Nat) (k : Nat) (c : Value) : Prop := ∀ j cc, cl.contains j = true → ClsAt K j cc → PySem.W.exmOne K (.ref cc) c = some (subK j k)
theorem dn_try {cl : List Nat} {k i : Nat} {x n : Str} {c : Value} {body suite : List Stmt} {b₀ : Stmt} {np pos pos' : Pos} {nb ns : N} (hs : X.stack = X.env :: X.outer) (hf : X.env.frame = some X.env.locals) (hex : X.ex = []) (hN : X.N.Nodup) (hi : X.N[i]? = some n) (hln : X.env.kindOf n = some .local) (hc : Names X x c) (tk : Takes X W) (hx : ExmOk X.K cl k c)
    (hb : ∀ (W' : WX) (pn : List (Addr × Obj)) (xe : Value → Shared → Prop), Takes (X.tr pn xe) W' → PassesOwn (model X.prog X.w) X.A X.env xe → PSs (X.tr pn xe) body (tN X.K W' nb))
    (hsu : ∀ (a : Addr) (pn : List (Addr × Obj)), PSs (X.suite a pn) (b₀ :: suite) (tN X.K W0 ns)) :
    PS X (.Try body [.ExceptHandler (some (.Name x np)) (some n) (b₀ :: suite) pos'] [] [] pos) (tN X.K W (nTry cl nb k i ns)) := by
  refine PS.imp (ps_try_tr (tb := fun W' => tN X.K W' nb) (ts := tN X.K W0 ns) (Wout := W) hs hf hN hi hln hc tk hb hsu hex) fun D σ H h => ?_
  obtain ⟨Hb, ρ, S, P⟩ := h
  refine ⟨Hb, ρ, S, ?_⟩
  unfold nTry at P
  cases eb : nb ρ with
  | stuck => rw [eb] at P; exact P
  | nx ρ1 => rw [eb] at P; exact P
  | bk ρ1 => rw [eb] at P; exact P
  | ct ρ1 => rw [eb] at P; exact P
  | rt r ρ1 => rw [eb] at P; exact P
  | er e ρ1 =>
    rw [eb] at P
    intro d σ1 H1 Hb1 s1 ex
    simp only at P
    obtain ⟨cc, hcc, hd1, hdat⟩ := ex
    by_cases hcl : cl.contains e.cls = true
    · rw [if_pos hcl] at P
      have em := hx e.cls cc hcl hcc
      refine ⟨subK e.cls k, by rw [hd1]; exact em, fun hb => ?_, fun hb => ?_⟩
      · rw [if_pos hb] at P
        by_cases hio : i < ρ1.length ∧ isIo ρ1[i]? = false
        · rw [if_pos hio] at P
          intro a ha
          refine ⟨cc, hd1, ?_⟩
          -- the state with the exception in sight
          have S1 := s1.st
          have g : Gro Hb1 H1 (upd Hb1 a (ExH cc d.2 a)) (upd H1 a (ExH cc d.2 a)) := Gro.newT S1.sub ha
          have iv : Is X.K (upd Hb1 a (ExH cc d.2 a)) (.exc e.cls e.x) (.ref a) := by
            simp only [Is]
            refine ⟨a, cc, hcc, rfl, ?_⟩
            rcases hdat with ⟨h0, h1, h2⟩ | ⟨h0, dd, y, h1, h2, h3⟩
            · exact .inl ⟨h0, h1, by rw [h2]; exact upd_same⟩
            · exact .inr ⟨h0, dd, y, by rw [h1]; exact upd_same, Same.new (Same.none S1.sub ha) _ _ h2, Is.mono (Same.new (Same.none S1.sub ha)) _ _ h3⟩
          have s2 := SteS.storeV S1 (g.ste S1) hio.1 (nio_of hio.2) iv
          refine ⟨_, _, s2.st, ?_⟩
          have P1 := PostS.back (s1.trans s2) P
          cases en : ns (ρ1.set i (.va (.exc e.cls e.x))) with
          | stuck => rw [en] at P1; exact P1
          | er e2 ρ2 => rw [en] at P1; exact P1.elim
          | nx ρ2 =>
            rw [en] at P1
            simp only [unR] at P1
            by_cases hq : isIo ρ2[i]? = false
            · rw [if_pos hq] at P1
              exact fun σ3 H3 Hb3 s3 => P1 _ H3 Hb3 (s3.trans (SteS.un s3.st hq))
            · rw [if_neg hq] at P1; exact P1.elim
          | bk ρ2 =>
            rw [en] at P1
            simp only [unR] at P1
            by_cases hq : isIo ρ2[i]? = false
            · rw [if_pos hq] at P1
              exact fun σ3 H3 Hb3 s3 => P1 _ H3 Hb3 (s3.trans (SteS.un s3.st hq))
            · rw [if_neg hq] at P1; exact P1.elim
          | ct ρ2 =>
            rw [en] at P1
            simp only [unR] at P1
            by_cases hq : isIo ρ2[i]? = false
            · rw [if_pos hq] at P1
              exact fun σ3 H3 Hb3 s3 => P1 _ H3 Hb3 (s3.trans (SteS.un s3.st hq))
            · rw [if_neg hq] at P1; exact P1.elim
          | rt r ρ2 =>
            rw [en] at P1
            cases r with
            | al j => exact P1.elim
            | va dv => exact P1
            | fr dv => exact P1
        · rw [if_neg hio] at P; exact P.elim
      · rw [if_neg (by rw [hb]; exact Bool.false_ne_true)] at P
        exact P d σ1 H1 Hb1 s1 ⟨cc, hcc, hd1, hdat⟩
    · rw [if_neg hcl] at P; exact P.elim
end
/-! ### isinstance of exceptions -/
def rIsX (K : PySem.W.Frag) : List V → Hp → VK → Prop := fun xs H Q => ∃ (a D : Addr) (c : V) (cv : Value) (b : Bool), xs = [.ref a, c] ∧ (∀ u, RelV c u → u = cv) ∧ H a = some (ExH D none a) ∧ ExcC K D ∧ PySem.W.kitOne K (.ref D) cv = some b ∧ Q (.bl b) H
theorem call_isX {X : Cx} : CallR X (.builtin "isinstance") (rIsX X.K) := by
  intro pins s σ H xs us Q I r h
  obtain ⟨a, D, c, cv, b, rfl, hcv, hH, C, e, q⟩ := h
  obtain ⟨u1, u2, rfl, r1, r2⟩ := vals2 r
  cases (show u1 = Value.ref a from r1)
  cases hcv _ r2
  obtain ⟨⟨oe, vs, hget, h1, h2, hv⟩, _⟩ := (show ObjOk X.prog X.w H s.heap a (ExH D none a) from I.hok a _ hH)
  have J : PySem.W.InstAt s.heap a oe D none := by
    obtain ⟨oc, od, oda, osl⟩ := oe
    dsimp only at h1 h2 hv
    subst h1 h2 hv
    exact ⟨hget, rfl, rfl, trivial⟩
  exact PySem.W.kia_one (PySem.W.handS_kitx_exc C.hg C.hk C.hs C.hd C.ha C.hn C.ht C.hm) I.kIn J e (fun z => nomatch z) fun tk => ⟨.bl b, H, I.kept (t' := tk) fun _ _ z => z, rfl, q⟩
structure IsiOk (K : PySem.W.Frag) (cl ks : List Nat) : Prop where
  ex : ∀ j c, cl.contains j = true → ClsAt K j c → ExcC K c
  kk : ∀ j c k c', cl.contains j = true → ks.contains k = true → ClsAt K j c → ClsAt K k c' → PySem.W.kitOne K (.ref c) (.ref c') = some (subK j k)
  kn : ∀ k c', ks.contains k = true → ClsAt K k c' → PySem.W.kitOne K (.type "NoneType") (.ref c') = some false
  kv : ∀ j c, cl.contains j = true → ClsAt K j c → PySem.W.kitOne K (.ref c) (.type "ValueError") = some true
def isiE (cl ks : List Nat) : List DL.D → Option Rs
  | [.exc j .non, .cls k] => if (decide (j < 11) && (cl.contains j && ks.contains k)) = true then some (.va (.bl (subK j k))) else none
  | [.non, .cls k] => if ks.contains k = true then some (.va (.bl false)) else none
  | [.exc j .non, .ty n] => if (decide (j < 11) && (cl.contains j && n == "ValueError")) = true then some (.va (.bl true)) else none
  | ds => isiD ds
section
variable {K : PySem.W.Frag}
theorem is_exc {Hb H : Hp} {j : Nat} {v : V} (hj : j < 11) (s : Same Hb H) (h : RdR K Hb H (.exc j .non) v) : ∃ a c, ClsAt K j c ∧ v = .ref a ∧ H a = some (ExH c none a) := by
  rcases h with h | ⟨_, _, _, e, _⟩
  · simp only [Is] at h
    obtain ⟨a, c, hc, rfl, h | ⟨hk, _⟩⟩ := h
    · exact ⟨a, c, hc, rfl, s _ _ h.2.2⟩
    · omega
  · cases e
theorem is_cls {Hb H : Hp} {k : Nat} {v : V} (h : RdR K Hb H (.cls k) v) : ∃ c, ClsAt K k c ∧ v = .ref c := by
  rcases h with h | ⟨_, _, _, e, _⟩
  · simpa only [Is] using h
  · cases e
theorem is_ty {Hb H : Hp} {n : String} {v : V} (h : RdR K Hb H (.ty n) v) : v = .ty n := by
  rcases h with h | ⟨_, _, _, e, _⟩
  · simpa only [Is] using h
  · cases e
theorem cd_isiE {cl ks : List Nat} (O : IsiOk K cl ks) : CallD K (fun xs H Q => rIsX K xs H Q ∨ rIsi K xs H Q) (isiE cl ks) := by
  intro Hb H xs ds res Q s r e q
  unfold isiE at e
  split at e
  · rename_i j k
    by_cases hc : (decide (j < 11) && (cl.contains j && ks.contains k)) = true
    · rw [if_pos hc] at e; cases e
      rw [Bool.and_eq_true] at hc
      obtain ⟨hj, hc⟩ := hc
      rw [Bool.and_eq_true] at hc
      obtain ⟨v, w, rfl, h, h2⟩ := pair2 r
      obtain ⟨a, c, h1, rfl, h3⟩ := is_exc (of_decide_eq_true hj) s h
      obtain ⟨c', h4, rfl⟩ := is_cls h2
      exact .inl ⟨a, c, .ref c', .ref c', _, rfl, fun u hu => hu, h3, O.ex j c hc.1 h1, O.kk j c k c' hc.1 hc.2 h1 h4, q _ Hb H (Gro.refl s) (Is.blI (K := K) (H := Hb))⟩
    · rw [if_neg hc] at e; cases e
  · rename_i k
    by_cases hc : ks.contains k = true
    · rw [if_pos hc] at e; cases e
      obtain ⟨v, w, rfl, h, h2⟩ := pair2 r
      obtain ⟨c', h4, rfl⟩ := is_cls h2
      exact .inr ⟨v, .ref c', .type "NoneType", .ref c', false, rfl, .own c', by rw [h.non]; exact .base .non, O.kn k c' hc h4, q _ Hb H (Gro.refl s) (Is.blI (K := K) (H := Hb))⟩
    · rw [if_neg hc] at e; cases e
  · rename_i j n
    by_cases hc : (decide (j < 11) && (cl.contains j && n == "ValueError")) = true
    · rw [if_pos hc] at e; cases e
      rw [Bool.and_eq_true] at hc
      obtain ⟨hj, hc⟩ := hc
      rw [Bool.and_eq_true] at hc
      have en : n = "ValueError" := by simpa using hc.2
      subst en
      obtain ⟨v, w, rfl, h, h2⟩ := pair2 r
      obtain ⟨a, c, h1, rfl, h3⟩ := is_exc (of_decide_eq_true hj) s h
      rw [is_ty h2]
      exact .inl ⟨a, c, .ty "ValueError", .type "ValueError", true, rfl, fun u hu => hu, h3, O.ex j c hc.1 h1, O.kv j c hc.1 h1, q _ Hb H (Gro.refl s) (Is.blI (K := K) (H := Hb))⟩
    · rw [if_neg hc] at e; cases e
  · exact .inr (cd_isi Hb H xs ds res Q s r e q)
end
end DL

namespace DL
open PySem L2 PyProof.Rows
/-- a block's names, by the names of the block around it -/
def relab (scope sc : Scope) : Scope :=
  { scope with names := scope.names.map fun p => (p.1, cond (p.2 == .free && sc.kind == .function && sc.names.lookup p.1 == some .cell) .cell p.2) }
theorem relab_eq {scope : Scope} {env : Env} : relabel scope env = relab scope env.scope := by
  unfold relabel relab
  congr 1
  refine List.map_congr_left fun p _ => ?_
  obtain ⟨n, k⟩ := p
  show (if (k == .free && env.scope.kind == .function && env.kindOf n == some .cell) = true then (n, NameKind.cell) else (n, k)) = (n, cond (k == .free && env.scope.kind == .function && env.kindOf n == some .cell) NameKind.cell k)
  cases (k == .free && env.scope.kind == .function && env.kindOf n == some .cell) <;> rfl
/-! ### max, min of one tuple of ints -/
def rMaxT (K : PySem.W.Frag) : List V → Hp → VK → Prop := fun vs H Q => ∃ (a : Addr) (ns : List Int), vs = [V.ref a] ∧ SqT K H a (ns.map V.int) ∧ 0 < ns.length ∧ ∀ m, m ∈ ns → (∀ y, y ∈ ns → y ≤ m) → Q (.int m) H
def rMinT (K : PySem.W.Frag) : List V → Hp → VK → Prop := fun vs H Q => ∃ (a : Addr) (ns : List Int), vs = [V.ref a] ∧ SqT K H a (ns.map V.int) ∧ 0 < ns.length ∧ ∀ m, m ∈ ns → (∀ y, y ∈ ns → m ≤ y) → Q (.int m) H
theorem int_at {ns : List Int} {its : List Value} (r : Vals (ns.map V.int) its) {i : Nat} {u : Value} (e : its.toArray[i]? = some u) : ∃ t, u = .int (ns.getD i 0) t := by
  obtain ⟨x, ex, rx⟩ := vals_at r e
  rw [List.getElem?_map] at ex
  cases en : ns[i]? with
  | none => rw [en] at ex; cases ex
  | some n =>
    rw [en] at ex
    cases ex
    obtain ⟨t, rfl⟩ := rx
    exact ⟨t, by rw [List.getD_eq_getElem?_getD, en]; rfl⟩
theorem getD_in {ns : List Int} {i : Nat} (h : i < ns.length) : ns.getD i 0 ∈ ns := by
  rw [List.getD_eq_getElem?_getD, List.getElem?_eq_getElem h]
  exact List.getElem_mem h
theorem in_getD {ns : List Int} {y : Int} (h : y ∈ ns) : ∃ i, i < ns.length ∧ ns.getD i 0 = y := by
  obtain ⟨i, hi, e⟩ := List.getElem_of_mem h
  exact ⟨i, hi, by rw [List.getD_eq_getElem?_getD, List.getElem?_eq_getElem hi]; exact e⟩
section
variable {X : Cx}
theorem after_it {s : Shared} {h' : Heap} {a : Addr} {o : Obj} (hk : ∀ b o', b ∉ [s.heap.objs.size] → (s.heap.push o).get? b = some o' → h'.get? b = some o') : ∀ b o', s.heap.get? b = some o' → h'.get? b = some o' := fun b o' e =>
  hk b o' (fun m => absurd (Heap.lt_size e) (by rw [List.mem_singleton.mp m]; exact Nat.lt_irrefl _)) (Heap.get?_push_of_some _ e)
theorem foot_it {s : Shared} {a : Addr} {o : Obj} (lt : a < s.heap.objs.size) : ∀ b ∈ [s.heap.objs.size, a], b < (s.heap.push o).objs.size := fun b hb => by
  rw [Heap.size_push]
  cases hb with
  | head => exact Nat.lt_succ_self _
  | tail _ hb =>
    rw [List.mem_singleton.mp hb]
    exact Nat.lt_succ_of_lt lt
theorem call_maxT (hc : X.calm = true) : CallR X (.builtin "max") (rMaxT X.K) := by
  intro pins s σ H vs us Q I r h
  obtain ⟨a, ns, rfl, hS, hne, q⟩ := h
  obtain ⟨its, rv, ob⟩ := inv_src (t := true) I hS
  have ob : s.heap.IsTuple a its.toArray := ob
  have lt := SrcOb.lt (t := true) ob
  have hl : its.toArray.size = ns.length := by rw [List.size_toArray, ← rv.length, List.length_map]
  rw [Vals.ref1 r]
  refine call_max_walk (wpAny_pyIter_tuple ob ⟨_, _, _, _, _, _, _, rfl, Walks.tuple (A := X.A.in1) (I.ok.hd hc) _ a (Nat.ne_of_lt lt) its.toArray, ⟨⟨_, Heap.get?_push_size _ rfl, rfl, rfl⟩, ob.at fun o e => Heap.get?_push_of_some _ e⟩, foot_it lt, by omega, CmpOf.ints_gt (fun i => ns.getD i 0) (fun _ _ e => int_at rv e), fun v h' tk e hk => ?_⟩)
  obtain ⟨t, rfl⟩ := int_at rv e
  obtain ⟨b1, b2⟩ := argBest_gt (fun i => ns.getD i 0) (its.toArray.size - 1)
  refine ⟨.int _, H, I.kept (after_it (a := a) hk), ⟨_, rfl⟩, q _ (getD_in (by omega)) fun y hy => ?_⟩
  obtain ⟨j, hj, rfl⟩ := in_getD hy
  exact b2 j (by omega)
theorem call_minT (hc : X.calm = true) : CallR X (.builtin "min") (rMinT X.K) := by
  intro pins s σ H vs us Q I r h
  obtain ⟨a, ns, rfl, hS, hne, q⟩ := h
  obtain ⟨its, rv, ob⟩ := inv_src (t := true) I hS
  have ob : s.heap.IsTuple a its.toArray := ob
  have lt := SrcOb.lt (t := true) ob
  have hl : its.toArray.size = ns.length := by rw [List.size_toArray, ← rv.length, List.length_map]
  rw [Vals.ref1 r]
  refine call_min_walk (wpAny_pyIter_tuple ob ⟨_, _, _, _, _, _, _, rfl, Walks.tuple (A := X.A.in1) (I.ok.hd hc) _ a (Nat.ne_of_lt lt) its.toArray, ⟨⟨_, Heap.get?_push_size _ rfl, rfl, rfl⟩, ob.at fun o e => Heap.get?_push_of_some _ e⟩, foot_it lt, by omega, CmpOf.ints_lt (fun i => ns.getD i 0) (fun _ _ e => int_at rv e), fun v h' tk e hk => ?_⟩)
  obtain ⟨t, rfl⟩ := int_at rv e
  obtain ⟨b1, b2⟩ := argBest_lt (fun i => ns.getD i 0) (its.toArray.size - 1)
  refine ⟨.int _, H, I.kept (after_it (a := a) hk), ⟨_, rfl⟩, q _ (getD_in (by omega)) fun y hy => ?_⟩
  obtain ⟨j, hj, rfl⟩ := in_getD hy
  exact b2 j (by omega)
end
def maxI : Int → List Int → Int
  | m, [] => m
  | m, n :: ns => maxI (if n > m then n else m) ns
def minI : Int → List Int → Int
  | m, [] => m
  | m, n :: ns => minI (if n < m then n else m) ns
theorem maxI_ok : ∀ (ns : List Int) (m : Int), maxI m ns ∈ m :: ns ∧ ∀ y ∈ m :: ns, y ≤ maxI m ns
  | [], m => ⟨.head _, fun y h => by rw [List.mem_singleton.mp h]; exact Int.le_refl _⟩
  | n :: ns, m => by
    obtain ⟨h1, h2⟩ := maxI_ok ns (if n > m then n else m)
    show maxI (if n > m then n else m) ns ∈ _ ∧ ∀ y ∈ m :: n :: ns, y ≤ maxI (if n > m then n else m) ns
    have h3 := h2 _ (.head _)
    constructor
    · rcases List.mem_cons.mp h1 with e | e
      · rw [e]; split
        · exact .tail _ (.head _)
        · exact .head _
      · exact .tail _ (.tail _ e)
    · intro y hy
      rcases List.mem_cons.mp hy with rfl | hy
      · split at h3 <;> split <;> omega
      · rcases List.mem_cons.mp hy with rfl | hy
        · split at h3 <;> split <;> omega
        · exact h2 y (.tail _ hy)
theorem minI_ok : ∀ (ns : List Int) (m : Int), minI m ns ∈ m :: ns ∧ ∀ y ∈ m :: ns, minI m ns ≤ y
  | [], m => ⟨.head _, fun y h => by rw [List.mem_singleton.mp h]; exact Int.le_refl _⟩
  | n :: ns, m => by
    obtain ⟨h1, h2⟩ := minI_ok ns (if n < m then n else m)
    show minI (if n < m then n else m) ns ∈ _ ∧ ∀ y ∈ m :: n :: ns, minI (if n < m then n else m) ns ≤ y
    have h3 := h2 _ (.head _)
    constructor
    · rcases List.mem_cons.mp h1 with e | e
      · rw [e]; split
        · exact .tail _ (.head _)
        · exact .head _
      · exact .tail _ (.tail _ e)
    · intro y hy
      rcases List.mem_cons.mp hy with rfl | hy
      · split at h3 <;> split <;> omega
      · rcases List.mem_cons.mp hy with rfl | hy
        · split at h3 <;> split <;> omega
        · exact h2 y (.tail _ hy)
def maxTD : List DL.D → Option Rs
  | [.tup xs] => (match intsOf xs with
    | some (n :: ns) => some (.va (.int (maxI n ns)))
    | _ => none)
  | ds => max2D ds
def minTD : List DL.D → Option Rs
  | [.tup xs] => (match intsOf xs with
    | some (n :: ns) => some (.va (.int (minI n ns)))
    | _ => none)
  | ds => min2D ds
theorem cd_maxT {K : PySem.W.Frag} : CallD K (fun xs H Q => rMaxT K xs H Q ∨ ∃ i j, xs = [.int i, .int j] ∧ Q (.int (if j > i then j else i)) H) maxTD := by
  intro Hb H xs ds res Q s r e q
  unfold maxTD at e
  split at e
  · rename_i ys
    split at e
    · rename_i n ns ei
      cases e
      obtain ⟨v, rfl, h⟩ := pair1 r
      obtain ⟨p, vs, rfl, h1, i1⟩ := h.tup s
      rw [intsOf_is i1 ei] at h1
      refine .inl ⟨p, n :: ns, rfl, h1, Nat.succ_pos _, fun m hm hall => ?_⟩
      obtain ⟨g1, g2⟩ := maxI_ok ns n
      rw [Int.le_antisymm (g2 m hm) (hall _ g1)]
      exact q _ Hb H (Gro.refl s) (Is.intI (K := K) (H := Hb))
    · cases e
  · exact .inr (cd_max2 Hb H xs ds res Q s r e q)
theorem cd_minT {K : PySem.W.Frag} : CallD K (fun xs H Q => rMinT K xs H Q ∨ ∃ i j, xs = [.int i, .int j] ∧ Q (.int (if j < i then j else i)) H) minTD := by
  intro Hb H xs ds res Q s r e q
  unfold minTD at e
  split at e
  · rename_i ys
    split at e
    · rename_i n ns ei
      cases e
      obtain ⟨v, rfl, h⟩ := pair1 r
      obtain ⟨p, vs, rfl, h1, i1⟩ := h.tup s
      rw [intsOf_is i1 ei] at h1
      refine .inl ⟨p, n :: ns, rfl, h1, Nat.succ_pos _, fun m hm hall => ?_⟩
      obtain ⟨g1, g2⟩ := minI_ok ns n
      rw [Int.le_antisymm (hall _ g1) (g2 m hm)]
      exact q _ Hb H (Gro.refl s) (Is.intI (K := K) (H := Hb))
    · cases e
  · exact .inr (cd_min2 Hb H xs ds res Q s r e q)
end DL

namespace DL
open PySem L2 PyProof.Rows
/-! ### what a meaning comes to -/
def RW {α : Type} (x : Res α) (Q : α → Rho → Prop) (E : Exn → Rho → Prop) : Prop := match x with
  | .ok a ρ => Q a ρ
  | .er e ρ => E e ρ
  | .stuck => False
def OW (o : Out) (N : Rho → Prop) (R : Rs → Rho → Prop) (B C : Rho → Prop) (E : Exn → Rho → Prop) : Prop := match o with
  | .nx ρ => N ρ
  | .rt r ρ => R r ρ
  | .bk ρ => B ρ
  | .ct ρ => C ρ
  | .er e ρ => E e ρ
  | .stuck => False
def no {α : Sort _} : α → Rho → Prop := fun _ _ => False
section
variable {ρ : Rho} {E : Exn → Rho → Prop} {α : Type}
theorem RW.mono {x : Res α} {Q Q' : α → Rho → Prop} {E' : Exn → Rho → Prop} (h : RW x Q E) (q : ∀ a ρ, Q a ρ → Q' a ρ) (e : ∀ x ρ, E x ρ → E' x ρ) : RW x Q' E' := by
  cases x with
  | ok a ρ => exact q _ _ h
  | er a ρ => exact e _ _ h
  | stuck => exact h
theorem RW.eq {x : Res α} {Q : α → Rho → Prop} (h : RW x Q no) : ∃ a ρ, x = .ok a ρ ∧ Q a ρ := by
  cases x with
  | ok a ρ => exact ⟨a, ρ, rfl, h⟩
  | er a ρ => exact h.elim
  | stuck => exact h.elim
theorem OW.mono {o : Out} {N N' B B' C C' : Rho → Prop} {R R' : Rs → Rho → Prop} {E' : Exn → Rho → Prop} (h : OW o N R B C E) (h1 : ∀ ρ, N ρ → N' ρ) (h2 : ∀ r ρ, R r ρ → R' r ρ) (h3 : ∀ ρ, B ρ → B' ρ) (h4 : ∀ ρ, C ρ → C' ρ) (h5 : ∀ e ρ, E e ρ → E' e ρ) : OW o N' R' B' C' E' := by
  cases o with
  | nx ρ => exact h1 _ h
  | rt r ρ => exact h2 _ _ h
  | bk ρ => exact h3 _ h
  | ct ρ => exact h4 _ h
  | er e ρ => exact h5 _ _ h
  | stuck => exact h
theorem RW_bnd {β : Type} {m : Res α} {f : α → Rho → Res β} {Q : β → Rho → Prop} (h : RW m (fun a ρ1 => RW (f a ρ1) Q E) E) : RW (bnd m f) Q E := by
  cases m with
  | ok a ρ => exact h
  | er a ρ => exact h
  | stuck => exact h
theorem OW_ebnd {m : Res α} {f : α → Rho → Out} {N B C : Rho → Prop} {R : Rs → Rho → Prop} (h : RW m (fun a ρ1 => OW (f a ρ1) N R B C E) E) : OW (ebnd m f) N R B C E := by
  cases m with
  | ok a ρ => exact h
  | er a ρ => exact h
  | stuck => exact h
variable {Q : Rs → Rho → Prop} {QB : Bool → Rho → Prop} {QL : List Rs → Rho → Prop} {N B C : Rho → Prop} {R : Rs → Rho → Prop}
theorem wC {d : DL.D} (h : Q (.va d) ρ) : RW (mC d ρ) Q E := h
theorem wV {i : Nat} {d : DL.D} (e : ρ[i]? = some (.va d)) (h : Q (.va d) ρ) : RW (mV i ρ) Q E := by
  unfold mV; rw [e]; exact h
theorem wVo {i : Nat} {io : Bool} {xs : List DL.D} (e : ρ[i]? = some (.ow io xs)) (h : Q (.al i) ρ) : RW (mV i ρ) Q E := by
  unfold mV; rw [e]; exact h
theorem wBin {f : DL.D → DL.D → Option Rs} {a b : M Rs} (h : RW (a ρ) (fun x ρ1 => RW (b ρ1) (fun y ρ2 => ∃ dx dy r, rd ρ2 x = some dx ∧ rd ρ2 y = some dy ∧ f dx dy = some r ∧ Q r ρ2) E) E) : RW (mBin f a b ρ) Q E := by
  refine RW_bnd (h.mono (fun x ρ1 h => RW_bnd (h.mono (fun y ρ2 h => ?_) fun _ _ z => z)) fun _ _ z => z)
  obtain ⟨dx, dy, r, e1, e2, e3, q⟩ := h
  rw [e1, e2]; simp only [e3]; exact q
theorem wUn {f : DL.D → Option Rs} {a : M Rs} (h : RW (a ρ) (fun x ρ1 => ∃ dx r, rd ρ1 x = some dx ∧ f dx = some r ∧ Q r ρ1) E) : RW (mUn f a ρ) Q E := by
  refine RW_bnd (h.mono (fun x ρ1 h => ?_) fun _ _ z => z)
  obtain ⟨dx, r, e1, e2, q⟩ := h
  rw [e1]; simp only [e2]; exact q
theorem wTv {a : M Rs} (h : RW (a ρ) (fun x ρ1 => ∃ b, rd ρ1 x = some (.bl b) ∧ QB b ρ1) E) : RW (mTv a ρ) QB E := by
  refine RW_bnd (h.mono (fun x ρ1 h => ?_) fun _ _ z => z)
  obtain ⟨b, e1, q⟩ := h
  rw [e1]; exact q
theorem wAnd {a b : M Bool} (h : RW (a ρ) (fun c ρ1 => (c = true → RW (b ρ1) QB E) ∧ (c = false → QB false ρ1)) E) : RW (mAnd a b ρ) QB E := by
  refine RW_bnd (h.mono (fun c ρ1 h => ?_) fun _ _ z => z)
  cases c with
  | true => exact h.1 rfl
  | false => exact h.2 rfl
theorem wOr {a b : M Bool} (h : RW (a ρ) (fun c ρ1 => (c = true → QB true ρ1) ∧ (c = false → RW (b ρ1) QB E)) E) : RW (mOr a b ρ) QB E := by
  refine RW_bnd (h.mono (fun c ρ1 h => ?_) fun _ _ z => z)
  cases c with
  | true => exact h.1 rfl
  | false => exact h.2 rfl
theorem wNot {a : M Bool} (h : RW (a ρ) (fun c ρ1 => QB (!c) ρ1) E) : RW (mNot a ρ) QB E := RW_bnd h
theorem wTrue (h : QB true ρ) : RW (mTrue ρ) QB E := h
theorem wIte {t : M Bool} {a b : M Rs} (h : RW (t ρ) (fun c ρ1 => (c = true → RW (a ρ1) Q E) ∧ (c = false → RW (b ρ1) Q E)) E) : RW (mIte t a b ρ) Q E := by
  refine RW_bnd (h.mono (fun c ρ1 h => ?_) fun _ _ z => z)
  cases c with
  | true => exact h.1 rfl
  | false => exact h.2 rfl
theorem wAndV {a b : M Rs} (h : RW (a ρ) (fun x ρ1 => ∃ c, rd ρ1 x = some (.bl c) ∧ (c = true → RW (b ρ1) Q E) ∧ (c = false → Q (.va (.bl false)) ρ1)) E) : RW (mAndV a b ρ) Q E := by
  refine RW_bnd (h.mono (fun x ρ1 h => ?_) fun _ _ z => z)
  obtain ⟨c, e, h1, h2⟩ := h
  rw [e]
  cases c with
  | true => exact h1 rfl
  | false => exact h2 rfl
theorem wOrV {a b : M Rs} (h : RW (a ρ) (fun x ρ1 => ∃ c, rd ρ1 x = some (.bl c) ∧ (c = true → Q (.va (.bl true)) ρ1) ∧ (c = false → RW (b ρ1) Q E)) E) : RW (mOrV a b ρ) Q E := by
  refine RW_bnd (h.mono (fun x ρ1 h => ?_) fun _ _ z => z)
  obtain ⟨c, e, h1, h2⟩ := h
  rw [e]
  cases c with
  | true => exact h1 rfl
  | false => exact h2 rfl
theorem wNotV {a : M Rs} (h : RW (a ρ) (fun x ρ1 => ∃ c, rd ρ1 x = some (.bl c) ∧ Q (.va (.bl (!c))) ρ1) E) : RW (mNotV a ρ) Q E := by
  refine RW_bnd (h.mono (fun x ρ1 h => ?_) fun _ _ z => z)
  obtain ⟨c, e, q⟩ := h
  rw [e]; exact q
theorem wChain {f g : DL.D → DL.D → Option Rs} {a b c : M Rs} (h : RW (a ρ) (fun x ρ1 => RW (b ρ1) (fun y ρ2 => ∃ dx dy t, rd ρ2 x = some dx ∧ rd ρ2 y = some dy ∧ f dx dy = some (.va (.bl t)) ∧
    (t = true → RW (c ρ2) (fun z ρ3 => ∃ dy dz t, rd ρ3 y = some dy ∧ rd ρ3 z = some dz ∧ g dy dz = some (.va (.bl t)) ∧ Q (.va (.bl t)) ρ3) E) ∧ (t = false → Q (.va (.bl false)) ρ2)) E) E) : RW (mChain f g a b c ρ) Q E := by
  refine RW_bnd (h.mono (fun x ρ1 h => RW_bnd (h.mono (fun y ρ2 h => ?_) fun _ _ z => z)) fun _ _ z => z)
  obtain ⟨dx, dy, t, e1, e2, e3, h1, h2⟩ := h
  rw [e1, e2]; simp only [e3]
  cases t with
  | false => exact h2 rfl
  | true =>
    refine RW_bnd ((h1 rfl).mono (fun z ρ3 h => ?_) fun _ _ z => z)
    obtain ⟨dy, dz, t, e1, e2, e3, q⟩ := h
    rw [e1, e2]; simp only [e3]; exact q
theorem wNil (h : QL [] ρ) : RW (mNil ρ) QL E := h
theorem wCons {a : M Rs} {as : M (List Rs)} (h : RW (a ρ) (fun x ρ1 => RW (as ρ1) (fun xs ρ2 => QL (soft x :: xs) ρ2) E) E) : RW (mCons a as ρ) QL E := RW_bnd (h.mono (fun _ _ h => RW_bnd h) fun _ _ z => z)
theorem wTup {as : M (List Rs)} (h : RW (as ρ) (fun rs ρ1 => ∃ ds ρ2, keeps ρ1 rs = some (ds, ρ2) ∧ ds.length ≤ 100000 ∧ Q (.va (.tup ds)) ρ2) E) : RW (mTup as ρ) Q E := by
  refine RW_bnd (h.mono (fun rs ρ1 h => ?_) fun _ _ z => z)
  obtain ⟨ds, ρ2, e, l, q⟩ := h
  rw [e]; simp only [if_pos l]; exact q
theorem wLst {as : M (List Rs)} (h : RW (as ρ) (fun rs ρ1 => ∃ ds ρ2, keeps ρ1 rs = some (ds, ρ2) ∧ ds.length ≤ 100000 ∧ Q (.fr ds) ρ2) E) : RW (mLst as ρ) Q E := by
  refine RW_bnd (h.mono (fun rs ρ1 h => ?_) fun _ _ z => z)
  obtain ⟨ds, ρ2, e, l, q⟩ := h
  rw [e]; simp only [if_pos l]; exact q
theorem wBi {f : List DL.D → Option Rs} {as : M (List Rs)} (h : RW (as ρ) (fun rs ρ1 => ∃ ds r, rds ρ1 rs = some ds ∧ f ds = some r ∧ Q r ρ1) E) : RW (mBi f as ρ) Q E := by
  refine RW_bnd (h.mono (fun rs ρ1 h => ?_) fun _ _ z => z)
  obtain ⟨ds, r, e, e2, q⟩ := h
  rw [e]; simp only [e2]; exact q
theorem wPN {Q : Option Int → Rho → Prop} (h : Q none ρ) : RW (mPN ρ) Q E := h
theorem wPS {Q : Option Int → Rho → Prop} {a : M Rs} (h : RW (a ρ) (fun x ρ1 => ∃ i, rd ρ1 x = some (.int i) ∧ Q (some i) ρ1) E) : RW (mPS a ρ) Q E := by
  refine RW_bnd (h.mono (fun x ρ1 h => ?_) fun _ _ z => z)
  obtain ⟨i, e, q⟩ := h
  rw [e]; exact q
theorem wSl {a : M Rs} {lo hi : M (Option Int)} (h : RW (a ρ) (fun x ρ1 => RW (lo ρ1) (fun l ρ2 => RW (hi ρ2) (fun u ρ3 => ∃ d r, rd ρ3 x = some d ∧ slD d l u = some r ∧ Q r ρ3) E) E) E) : RW (mSl a lo hi ρ) Q E := by
  refine RW_bnd (h.mono (fun x ρ1 h => RW_bnd (h.mono (fun l ρ2 h => RW_bnd (h.mono (fun u ρ3 h => ?_) fun _ _ z => z)) fun _ _ z => z)) fun _ _ z => z)
  obtain ⟨d, r, e, e2, q⟩ := h
  rw [e]; simp only [e2]; exact q
def flatR : Rs → Prop
  | .al _ => False
  | _ => True
theorem wCall {n : Nat} {sem : M Rs} {ms : M (List Rs)} (h : RW (ms ρ) (fun rs ρ1 => (decide (rs.length = n) && alNd rs && (rs.map (toArg ρ1)).all argOk) = true ∧ RW (sem (rs.map (toArg ρ1))) (fun r as' => flatR r ∧ Q r (backC rs as' 0 ρ1)) (fun e as' => E e (backC rs as' 0 ρ1))) E) : RW (mCall n sem ms ρ) Q E := by
  refine RW_bnd (h.mono (fun rs ρ1 h => ?_) fun _ _ z => z)
  obtain ⟨e, h⟩ := h
  rw [if_pos e]
  cases q : sem (rs.map (toArg ρ1)) with
  | stuck => rw [q] at h; exact h
  | er x as' => rw [q] at h; exact h
  | ok r as' =>
    rw [q] at h
    cases r with
    | va d => exact h.2
    | fr d => exact h.2
    | al i => exact h.1.elim
theorem wFun {k : Nat} {n : DL.N} {as : List Sl} (h : OW (n (as ++ List.replicate (k - as.length) Sl.un)) (fun ρ => Q (.va .non) (backF as ρ)) (fun r ρ => ∃ r', fin1 ρ r = some r' ∧ Q r' (backF as ρ)) (fun _ => False) (fun _ => False) (fun e ρ => E e (backF as ρ))) : RW (fsem k n as) Q E := by
  unfold fsem
  cases q : n (as ++ List.replicate (k - as.length) Sl.un) with
  | nx ρ => rw [q] at h; exact h
  | rt r ρ =>
    rw [q] at h
    obtain ⟨r', e, z⟩ := h
    simp only [e]; exact z
  | bk ρ => rw [q] at h; exact h
  | ct ρ => rw [q] at h; exact h
  | er e ρ => rw [q] at h; exact h
  | stuck => rw [q] at h; exact h
/-! statements -/
theorem wSeq {a b : DL.N} (h : OW (a ρ) (fun ρ1 => OW (b ρ1) N R B C E) R B C E) : OW (nSeq a b ρ) N R B C E := by
  unfold nSeq
  cases q : a ρ with
  | nx ρ => rw [q] at h; exact h
  | rt r ρ => rw [q] at h; exact h
  | bk ρ => rw [q] at h; exact h
  | ct ρ => rw [q] at h; exact h
  | er e ρ => rw [q] at h; exact h
  | stuck => rw [q] at h; exact h
theorem wNext (h : N ρ) : OW (nNext ρ) N R B C E := h
theorem wIf {t : M Bool} {a b : DL.N} (h : RW (t ρ) (fun c ρ1 => (c = true → OW (a ρ1) N R B C E) ∧ (c = false → OW (b ρ1) N R B C E)) E) : OW (nIf t a b ρ) N R B C E := by
  refine OW_ebnd (h.mono (fun c ρ1 h => ?_) fun _ _ z => z)
  cases c with
  | true => exact h.1 rfl
  | false => exact h.2 rfl
theorem wRet {m : M Rs} (h : RW (m ρ) R E) : OW (nRet m ρ) N R B C E := by
  unfold nRet
  cases q : m ρ with
  | ok a ρ => rw [q] at h; exact h
  | er a ρ => rw [q] at h; exact h
  | stuck => rw [q] at h; exact h
theorem wSet {i : Nat} {m : M Rs} (h : RW (m ρ) (fun r ρ1 => OW (setR i r ρ1) N R B C E) E) : OW (nSet i m ρ) N R B C E := OW_ebnd h
theorem wExpr {m : M Rs} (h : RW (m ρ) (fun r ρ1 => N ρ1) E) : OW (nExpr m ρ) N R B C E := OW_ebnd (h.mono (fun _ _ h => h) fun _ _ z => z)
theorem wRaise {k : Nat} (h : E ⟨k, .non⟩ ρ) : OW (nRaise k ρ) N R B C E := h
theorem wUnp {is : List Nat} {m : M Rs} (h : RW (m ρ) (fun r ρ1 => ∃ ds ρ2, r = .va (.tup ds) ∧ setVs is ds ρ1 = some ρ2 ∧ N ρ2) E) : OW (nUnp is m ρ) N R B C E := by
  refine OW_ebnd (h.mono (fun r ρ1 h => ?_) fun _ _ z => z)
  obtain ⟨ds, ρ2, rfl, e, q⟩ := h
  simp only [e]; exact q
theorem wApp {k : Nat} {m : M Rs} (h0 : isOw ρ[k]? = true) (h : RW (m ρ) (fun r ρ1 => ∃ d ρ2 io xs, keepR ρ1 r = some (d, ρ2) ∧ ρ2[k]? = some (.ow io xs) ∧ xs.length < 100000 ∧ N (ρ2.set k (.ow io (xs ++ [d])))) E) : OW (nApp k m ρ) N R B C E := by
  unfold nApp
  rw [if_pos h0]
  refine OW_ebnd (h.mono (fun r ρ1 h => ?_) fun _ _ z => z)
  obtain ⟨d, ρ2, io, xs, e1, e2, e3, q⟩ := h
  rw [e1]; simp only [e2, if_pos e3]; exact q
theorem wSetIx {k : Nat} {mi me : M Rs} (h0 : isOw ρ[k]? = true) (h : RW (me ρ) (fun r ρ1 => ∃ d ρ2, keepR ρ1 r = some (d, ρ2) ∧ RW (mi ρ2) (fun ri ρ3 => ∃ i io xs j, rd ρ3 ri = some (.int i) ∧ ρ3[k]? = some (.ow io xs) ∧ ixN xs.length i = some j ∧ N (ρ3.set k (.ow io (xs.set j d)))) E) E) : OW (nSetIx k mi me ρ) N R B C E := by
  unfold nSetIx
  rw [if_pos h0]
  refine OW_ebnd (h.mono (fun r ρ1 h => ?_) fun _ _ z => z)
  obtain ⟨d, ρ2, e1, h⟩ := h
  rw [e1]
  refine OW_ebnd (h.mono (fun ri ρ3 h => ?_) fun _ _ z => z)
  obtain ⟨i, io, xs, j, e1, e2, e3, q⟩ := h
  rw [e1]; simp only [e2, e3]; exact q
theorem wAug {f : DL.D → DL.D → Option Rs} {i : Nat} {m : M Rs} {dx : DL.D} (h0 : ρ[i]? = some (.va dx)) (h : RW (m ρ) (fun r ρ1 => ∃ dy d, rd ρ1 r = some dy ∧ f dx dy = some (.va d) ∧ (i < ρ1.length ∧ isIo ρ1[i]? = false) ∧ N (ρ1.set i (.va d))) E) : OW (nAug f i m ρ) N R B C E := by
  unfold nAug
  rw [h0]
  refine OW_ebnd (h.mono (fun r ρ1 h => ?_) fun _ _ z => z)
  obtain ⟨dy, d, e1, e2, e3, q⟩ := h
  rw [e1]; simp only [e2, if_pos e3]; exact q
/-- for, by what holds ahead of turn i -/
theorem forL_inv {g : DL.D → Rho → Option Rho} {nb : DL.N} (Iv : Nat → Rho → Prop) : ∀ (ds : List DL.D) (k : Nat) (ρ : Rho), Iv k ρ →
    (∀ i d ρ, ds[i]? = some d → Iv (k + i) ρ → ∃ ρ1, g d ρ = some ρ1 ∧ OW (nb ρ1) (Iv (k + i + 1)) R N (Iv (k + i + 1)) E) → (∀ ρ, Iv (k + ds.length) ρ → N ρ) → OW (forL g nb ds ρ) N R B C E
  | [], k, ρ, h, _, e => e ρ h
  | d :: ds, k, ρ, h, s, e => by
    obtain ⟨ρ1, e1, w⟩ := s 0 d ρ rfl h
    unfold forL
    rw [e1]
    have go : ∀ ρ2, Iv (k + 1) ρ2 → OW (forL g nb ds ρ2) N R B C E := fun ρ2 h2 => forL_inv Iv ds (k + 1) ρ2 h2 (fun i d ρ e2 hi => by
      have := s (i + 1) d ρ e2 (by rw [show k + (i + 1) = k + 1 + i by omega]; exact hi)
      rw [show k + (i + 1) = k + 1 + i by omega] at this
      exact this) fun ρ h => e ρ (by rw [List.length_cons, show k + (ds.length + 1) = k + 1 + ds.length by omega]; exact h)
    simp only
    cases q : nb ρ1 with
    | nx ρ => rw [q] at w; exact go _ w
    | ct ρ => rw [q] at w; exact go _ w
    | bk ρ => rw [q] at w; exact w
    | rt r ρ => rw [q] at w; exact w
    | er r ρ => rw [q] at w; exact w
    | stuck => rw [q] at w; exact w
theorem wFor {m : M (List DL.D)} {g : DL.D → Rho → Option Rho} {nb : DL.N} (h : RW (m ρ) (fun ds ρ1 => ∃ Iv : Nat → Rho → Prop, Iv 0 ρ1 ∧ (∀ i d ρ, ds[i]? = some d → Iv i ρ → ∃ ρ1, g d ρ = some ρ1 ∧ OW (nb ρ1) (Iv (i + 1)) R N (Iv (i + 1)) E) ∧ ∀ ρ, Iv ds.length ρ → N ρ) E) : OW (nFor m g nb ρ) N R B C E := by
  refine OW_ebnd (h.mono (fun ds ρ1 h => ?_) fun _ _ z => z)
  obtain ⟨Iv, h0, hs, he⟩ := h
  refine forL_inv Iv ds 0 ρ1 h0 (fun i d ρ e hi => ?_) fun ρ h => he ρ (by rw [Nat.zero_add] at h; exact h)
  rw [Nat.zero_add] at hi ⊢
  exact hs i d ρ e hi
theorem wWhile {t : M Bool} {b : DL.N} {n : Nat} (h : RW (t ρ) (fun c ρ1 => (c = true → OW (b ρ1) (fun ρ2 => OW (nWhile t b n ρ2) N R B C E) R N (fun ρ2 => OW (nWhile t b n ρ2) N R B C E) E) ∧ (c = false → N ρ1)) E) : OW (nWhile t b (n + 1) ρ) N R B C E := by
  unfold nWhile
  refine OW_ebnd (h.mono (fun c ρ1 h => ?_) fun _ _ z => z)
  cases c with
  | false => exact h.2 rfl
  | true =>
    have w := h.1 rfl
    show OW (match b ρ1 with | _ => _) N R B C E
    cases q : b ρ1 with
    | nx ρ => rw [q] at w; exact w
    | ct ρ => rw [q] at w; exact w
    | bk ρ => rw [q] at w; exact w
    | rt r ρ => rw [q] at w; exact w
    | er r ρ => rw [q] at w; exact w
    | stuck => rw [q] at w; exact w
/-! walks -/
theorem wIter {a : M Rs} {Q : List DL.D → Rho → Prop} (h : RW (a ρ) (fun r ρ1 => ∃ d ds ρ2, keepR ρ1 r = some (d, ρ2) ∧ seqOf d = some ds ∧ Q ds ρ2) E) : RW (mIter a ρ) Q E := by
  refine RW_bnd (h.mono (fun x ρ1 h => ?_) fun _ _ z => z)
  obtain ⟨d, ds, ρ2, e, e2, q⟩ := h
  rw [e]
  cases d with
  | lst ys => cases e2; exact q
  | tup ys => cases e2; exact q
  | _ => cases e2
theorem wRng {f : List DL.D → Option (List DL.D)} {as : M (List Rs)} {Q : List DL.D → Rho → Prop} (h : RW (as ρ) (fun rs ρ1 => ∃ ds es, rds ρ1 rs = some ds ∧ f ds = some es ∧ Q es ρ1) E) : RW (mRng f as ρ) Q E := by
  refine RW_bnd (h.mono (fun x ρ1 h => ?_) fun _ _ z => z)
  obtain ⟨d, ds, e, e2, q⟩ := h
  rw [e]; simp only [e2]; exact q
theorem wSeqs {f : List (List DL.D) → Option (List DL.D)} {as : M (List Rs)} {Q : List DL.D → Rho → Prop} (h : RW (as ρ) (fun rs ρ1 => ∃ ds ρ2 xss es, keeps ρ1 rs = some (ds, ρ2) ∧ seqsOf ds = some xss ∧ f xss = some es ∧ Q es ρ2) E) : RW (mSeqs f as ρ) Q E := by
  refine RW_bnd (h.mono (fun x ρ1 h => ?_) fun _ _ z => z)
  obtain ⟨ds, ρ2, xss, es, e, e2, e3, q⟩ := h
  rw [e]; simp only [e2, e3]; exact q
theorem compL_inv {g : DL.D → Rho → Option Rho} {vs : List Nat} {mt : M Bool} {me : M Rs} (Iv : Nat → List DL.D → Rho → Prop) : ∀ (ds : List DL.D) (k : Nat) (acc : List DL.D) (ρ : Rho), Iv k acc ρ →
    (∀ i d acc ρ, ds[i]? = some d → Iv (k + i) acc ρ → ∃ ρ1, g d ρ = some ρ1 ∧ RW (mt ρ1) (fun c ρ2 => (c = true → acc.length < 100000 ∧ RW (me ρ2) (fun r ρ3 => ∃ x ρ4, keepR ρ3 r = some (x, ρ4) ∧ Iv (k + i + 1) (acc ++ [x]) (wipeR ρ4 vs)) no) ∧ (c = false → Iv (k + i + 1) acc (wipeR ρ2 vs))) no) →
    ∃ acc' ρ', compL g vs mt me ds acc ρ = some (acc', ρ') ∧ Iv (k + ds.length) acc' ρ'
  | [], k, acc, ρ, h, _ => ⟨acc, ρ, rfl, h⟩
  | d :: ds, k, acc, ρ, h, s => by
    obtain ⟨ρ1, e1, w⟩ := s 0 d acc ρ rfl h
    have go : ∀ acc2 ρ2, Iv (k + 1) acc2 ρ2 → ∃ acc' ρ', compL g vs mt me ds acc2 ρ2 = some (acc', ρ') ∧ Iv (k + (ds.length + 1)) acc' ρ' := fun acc2 ρ2 h2 => by
      have := compL_inv Iv ds (k + 1) acc2 ρ2 h2 fun i d a ρ e2 hi => by
        have := s (i + 1) d a ρ e2 (by rw [show k + (i + 1) = k + 1 + i by omega]; exact hi)
        rw [show k + (i + 1) = k + 1 + i by omega] at this
        exact this
      rw [show k + (ds.length + 1) = k + 1 + ds.length by omega]
      exact this
    obtain ⟨c, ρ2, ec, w⟩ := w.eq
    unfold compL
    rw [e1]; simp only [ec]
    cases c with
    | false => exact go _ _ (w.2 rfl)
    | true =>
      obtain ⟨hl, w⟩ := w.1 rfl
      obtain ⟨r, ρ3, er, x, ρ4, ek, iv⟩ := w.eq
      simp only [er, ek, if_pos hl]
      exact go _ _ iv
theorem wComp {m : M (List DL.D)} {g : DL.D → Rho → Option Rho} {vs : List Nat} {mt : M Bool} {me : M Rs} (h : RW (m ρ) (fun ds ρ1 => ∃ Iv : Nat → List DL.D → Rho → Prop, Iv 0 [] (wipeR ρ1 vs) ∧
    (∀ i d acc ρ, ds[i]? = some d → Iv i acc ρ → ∃ ρ1, g d ρ = some ρ1 ∧ RW (mt ρ1) (fun c ρ2 => (c = true → acc.length < 100000 ∧ RW (me ρ2) (fun r ρ3 => ∃ x ρ4, keepR ρ3 r = some (x, ρ4) ∧ Iv (i + 1) (acc ++ [x]) (wipeR ρ4 vs)) no) ∧ (c = false → Iv (i + 1) acc (wipeR ρ2 vs))) no) ∧
    ∀ acc ρ2, Iv ds.length acc ρ2 → Q (.fr acc) (restoR ρ1 ρ2 vs)) E) : RW (mComp m g vs mt me ρ) Q E := by
  refine RW_bnd (h.mono (fun ds ρ1 h => ?_) fun _ _ z => z)
  obtain ⟨Iv, h0, hs, he⟩ := h
  obtain ⟨acc, ρ2, e, iv⟩ := compL_inv Iv ds 0 [] (wipeR ρ1 vs) h0 fun i d acc ρ e hi => by
    rw [Nat.zero_add] at hi ⊢
    exact hs i d acc ρ e hi
  rw [Nat.zero_add] at iv
  rw [e]; exact he _ _ iv
theorem wTry {cl : List Nat} {nb : DL.N} {k i : Nat} {ns : DL.N} (h : OW (nb ρ) N R B C (fun e ρ1 => cl.contains e.cls = true ∧ (subK e.cls k = true → (i < ρ1.length ∧ isIo ρ1[i]? = false) ∧ OW (unR i (ns (ρ1.set i (.va (.exc e.cls e.x))))) N R B C E) ∧ (subK e.cls k = false → E e ρ1))) : OW (nTry cl nb k i ns ρ) N R B C E := by
  unfold nTry
  cases q : nb ρ with
  | nx ρ => rw [q] at h; exact h
  | rt r ρ => rw [q] at h; exact h
  | bk ρ => rw [q] at h; exact h
  | ct ρ => rw [q] at h; exact h
  | stuck => rw [q] at h; exact h
  | er e ρ1 =>
    rw [q] at h
    obtain ⟨h1, h2, h3⟩ := h
    simp only [if_pos h1]
    by_cases c : subK e.cls k = true
    · obtain ⟨h4, h5⟩ := h2 c
      rw [if_pos c, if_pos h4]; exact h5
    · rw [if_neg c]; exact h3 (by simpa using c)
end
theorem mul_ok {i j : Int} (h : CMulW i j) : mulD (.int i) (.int j) = some (.va (.int (i * j))) := by
  show (match (if CMulW i j then some (DL.D.int (i * j)) else none) with | some d => some (Rs.va d) | none => none) = _
  rw [if_pos h]
theorem mod_ok {i j : Int} (h : 0 < j) : modD (.int i) (.int j) = some (.va (.int (i % j))) := by
  show (match (if 0 < j then some (DL.D.int (i % j)) else none) with | some d => some (Rs.va d) | none => none) = _
  rw [if_pos h]
theorem div_ok {i j : Int} (h : CDivW i j) : divD (.int i) (.int j) = some (.va (.int (i / j))) := by
  show (match (if CDivW i j then some (DL.D.int (i / j)) else none) with | some d => some (Rs.va d) | none => none) = _
  rw [if_pos h]
theorem pow_ok {i j : Int} (h : 0 ≤ j ∧ j ≤ 1000000 ∧ i.natAbs < 2 ^ 64) : powD (.int i) (.int j) = some (.va (.int (i ^ j.toNat))) := by
  show (match (if 0 ≤ j ∧ j ≤ 1000000 ∧ i.natAbs < 2 ^ 64 then some (DL.D.int (i ^ j.toNat)) else none) with | some d => some (Rs.va d) | none => none) = _
  rw [if_pos h]
/-- factors of less than 2^1000 -/
theorem cmul {i j : Int} (a b : Nat) (h1 : i.natAbs < 2 ^ a) (h2 : j.natAbs < 2 ^ b) (h : a + b < 1000000) : CMulW i j := by
  have f : ∀ {x n : Nat}, x < 2 ^ n → x.log2 ≤ n := fun {x n} h => by
    by_cases hx : x = 0
    · subst hx; exact Nat.zero_le _
    · exact Nat.le_of_lt ((Nat.log2_lt hx).mpr h)
  have := f h1
  have := f h2
  show i.natAbs.log2 + j.natAbs.log2 < 1000000
  omega
end DL

namespace DL
open PySem L2 PyProof.Rows
/-! ### gcd, lcm -/
def gcdD : List DL.D → Option Rs
  | [.int a, .int b] => some (.va (.int ((Nat.gcd a.natAbs b.natAbs : Nat) : Int)))
  | _ => none
theorem cd_gcd {K : PySem.W.Frag} : CallD K rGcd gcdD := by
  intro Hb H xs ds res Q s r e q
  unfold gcdD at e
  split at e
  · cases e
    obtain ⟨v, w, rfl, h, h2⟩ := pair2 r
    rw [h.int, h2.int]
    exact ⟨_, _, rfl, q _ Hb H (Gro.refl s) (Is.intI (K := K) (H := Hb))⟩
  · cases e
def bigL : Nat := 2 ^ 6000
def lcmD : List DL.D → Option Rs
  | [.int a, .int b] => if a.natAbs < bigL ∧ b.natAbs < bigL then some (.va (.int ((Nat.lcm a.natAbs b.natAbs : Nat) : Int))) else none
  | _ => none
def rLcm : List V → Hp → VK → Prop := fun vs H Q => ∃ a b : Int, vs = [.int a, .int b] ∧ a.natAbs < bigL ∧ b.natAbs < bigL ∧ Q (.int ((Nat.lcm a.natAbs b.natAbs : Nat) : Int)) H
theorem log_lt {n k : Nat} (h : n < 2 ^ (k + 1)) : n.log2 ≤ k := by
  by_cases hx : n = 0
  · subst hx; exact Nat.zero_le _
  · have := (Nat.log2_lt hx).mpr h; omega
theorem call_lcm {X : Cx} : CallR X (.builtin "math.lcm") rLcm := by
  intro pins s σ H vs us Q I r h
  obtain ⟨a, b, rfl, ha, hb, q⟩ := h
  obtain ⟨t, u, rfl⟩ := Vals.int2 r
  have ha' : a.natAbs < 2 ^ 6000 := ha
  have hb' : b.natAbs < 2 ^ 6000 := hb
  have h1 : (max 1 a.natAbs).log2 ≤ 5999 := log_lt (by
    show max 1 a.natAbs < 2 ^ 6000
    have : 1 < 2 ^ 6000 := Nat.one_lt_two_pow (by decide)
    generalize 2 ^ 6000 = z at *
    omega)
  have h2 : (max a.natAbs b.natAbs).log2 ≤ 5999 := log_lt (by
    show max a.natAbs b.natAbs < 2 ^ 6000
    generalize 2 ^ 6000 = z at *
    omega)
  have e1 : Nat.lcm 1 a.natAbs = a.natAbs := by simp [Nat.lcm]
  have hl : Nat.lcm a.natAbs b.natAbs ≤ a.natAbs * b.natAbs := Nat.div_le_self _ _
  have hm : a.natAbs * b.natAbs < 2 ^ 12000 := by
    have := Nat.mul_lt_mul'' ha' hb'
    rw [← Nat.pow_add] at this
    exact this
  have hsz : ((((Nat.lcm 1 a.natAbs).lcm b.natAbs : Nat) : Int)).natAbs.log2 < bitsLine := by
    rw [e1, Int.natAbs_natCast]
    have : (Nat.lcm a.natAbs b.natAbs).log2 ≤ 11999 := log_lt (Nat.lt_of_le_of_lt hl hm)
    exact Nat.lt_of_le_of_lt this (by decide)
  refine call_function_meets PySem.W.MGF.kind_lcm PySem.W.MGF.plain_lcm PySem.W.MGF.entry_lcm (PySem.W.MGF.args_lcm _ _) (PySem.W.mg_run_lcm a t b u (by omega) (by omega) hsz).meets ?_
  rw [e1]
  exact ⟨.int _, H, I.tok _, ⟨_, rfl⟩, q⟩
theorem cd_lcm {K : PySem.W.Frag} : CallD K rLcm lcmD := by
  intro Hb H xs ds res Q s r e q
  unfold lcmD at e
  split at e
  · rename_i a b
    by_cases hc : a.natAbs < bigL ∧ b.natAbs < bigL
    · rw [if_pos hc] at e; cases e
      obtain ⟨v, w, rfl, h, h2⟩ := pair2 r
      rw [h.int, h2.int]
      exact ⟨_, _, rfl, hc.1, hc.2, q _ Hb H (Gro.refl s) (Is.intI (K := K) (H := Hb))⟩
    · rw [if_neg hc] at e; cases e
  · cases e
section
variable {K : PySem.W.Frag} {W : WX} {X : Cx} {σ : L2.St} {H : Hp}
/-- a built-in function that the text has brought in by its name -/
theorem dm_callBf {id : String} {r : List V → Hp → VK → Prop} {f : List DL.D → Option Rs} {x : Str} {p pos : Pos} {e : Expr} {es : List Expr} {as : M (List Rs)} (hc : CallR X (.builtin id) r) (hr : CallD K r f) (hg : Gl X x) (hm : X.mg x = some (.builtin id)) (ha : PA X (e :: es) (tA K W as))
    (hdb : (x == ("__debug__" : Str)) = false := by decide) (he : starEach (e :: es) X.env = (false, eval e X.env) :: starEach es X.env := by rfl) (hpl : (backTo pos (starEach es X.env)).any (·.1) = false := by rfl) :
    PE X (.Call (.Name x p) (e :: es) [] pos) (tM K W (mBi f as)) := PE.imp (pe_callBfun hc hg hm ha hdb he hpl) fun _ _ _ => tM_bi hr
end
/-! ### nested targets -/
inductive Tg where
  | nm (i : Nat)
  | tp (ts : List Tg)
mutual
def gG : Tg → DL.D → Rho → Option Rho
  | .nm i, d, ρ => gN i d ρ
  | .tp ts, .tup ds, ρ => gGs ts ds ρ
  | .tp _, _, _ => none
def gGs : List Tg → List DL.D → Rho → Option Rho
  | [], [], ρ => some ρ
  | t :: ts, d :: ds, ρ => match gG t d ρ with
    | some ρ1 => gGs ts ds ρ1
    | none => none
  | _, _, _ => none
end
/-- what the machine's target does with a value -/
def tGs (K : PySem.W.Frag) (vs : List Nat) (ts : List Tg) (gs : TGs) : Prop := ∀ (us : List V) (σ : L2.St) (H : Hp) (Q : L2.St → Hp → Prop) (Hb : Hp) (ρ : Rho) (ds : List DL.D) (ρ' : Rho), StR K Hb σ ρ H → IsA K Hb ds us → gGs ts ds ρ = some ρ' →
  (∀ σ2, wipe σ2 vs = wipe σ vs → SteS K Hb σ ρ H Hb σ2 ρ' H → Q σ2 H) → gs us σ H Q
theorem gGs_len : ∀ {ts : List Tg} {ds : List DL.D} {ρ ρ2 : Rho}, gGs ts ds ρ = some ρ2 → ds.length = ts.length
  | [], [], ρ, ρ2, e => rfl
  | t :: ts, d :: ds, ρ, ρ2, e => by
    unfold gGs at e
    split at e
    · simp [gGs_len e]
    · cases e
  | [], d :: ds, ρ, ρ2, e => by simp [gGs] at e
  | t :: ts, [], ρ, ρ2, e => by simp [gGs] at e
theorem tgd_nm {K : PySem.W.Frag} {vs : List Nat} {i : Nat} (hi : i ∈ vs) : TGd K vs (gName i) (gG (.nm i)) := by
  intro v σ H Q Hb ρ d ρ' S hv e q
  unfold gG at e
  exact tgd_name hi v σ H Q Hb ρ d ρ' S hv e q
theorem tgs_nil {K : PySem.W.Frag} {vs : List Nat} : tGs K vs [] (gNs []) := by
  intro us σ H Q Hb ρ ds ρ' S hv e q
  cases ds with
  | nil =>
    simp [gGs] at e; subst e
    simp only [IsA] at hv; subst hv
    exact ⟨rfl, q σ rfl (SteS.refl S)⟩
  | cons d ds => simp [gGs] at e
def gCons (g : TG) (gs : TGs) : TGs := fun vs σ H Q => ∃ v r, vs = v :: r ∧ g v σ H fun σ1 H1 => gs r σ1 H1 Q
theorem tgs_cons {K : PySem.W.Frag} {vs : List Nat} {t : Tg} {ts : List Tg} {g : TG} {gs : TGs} (h : TGd K vs g (gG t)) (hs : tGs K vs ts gs) : tGs K vs (t :: ts) (gCons g gs) := by
  intro us σ H Q Hb ρ ds ρ' S hv e q
  cases ds with
  | nil => simp [gGs] at e
  | cons d ds =>
    simp only [IsA] at hv
    obtain ⟨v, r, rfl, h1, h2⟩ := hv
    unfold gGs at e
    cases e1 : gG t d ρ with
    | none => rw [e1] at e; cases e
    | some ρ1 =>
      rw [e1] at e
      exact ⟨v, r, rfl, h v σ H _ Hb ρ d ρ1 S h1 e1 fun σ1 w1 s1 => hs r σ1 H Q Hb ρ1 ds ρ' s1.st h2 e fun σ2 w2 s2 => q σ2 (w2.trans w1) (s1.trans s2)⟩
theorem tgd_tp {K : PySem.W.Frag} {vs : List Nat} {ts : List Tg} {gs : TGs} {n : Nat} (hn : n = ts.length) (hs : tGs K vs ts gs) : TGd K vs (gTup K n gs) (gG (.tp ts)) := by
  intro v σ H Q Hb ρ d ρ' S hv e q
  subst hn
  cases d with
  | tup ds =>
    unfold gG at e
    simp only [Is] at hv
    obtain ⟨a, us, rfl, h1, i1⟩ := hv
    exact ⟨a, us, rfl, Same.tup S.sub h1, by rw [i1.length, gGs_len e], hs us σ H Q Hb ρ ds ρ' S i1 e q⟩
  | _ => simp [gG] at e
theorem pgs_c {X : Cx} {e : Expr} {es : List Expr} {g : TG} {gs : TGs} (h : PG X e g) (hr : PGs X es gs) (hst : match e with | .Starred .. => False | _ => True)
    (hs : (assignEach (e :: es) X.env).map (·.2) = assign e X.env :: (assignEach es X.env).map (·.2) := by rfl) : PGs X (e :: es) (gCons g gs) := pgs_cons h hr hs
/-! ### a, b = x, y with local names -/
def nPar (i j : Nat) (as : M (List Rs)) : N := fun ρ => ebnd (as ρ) fun rs ρ1 => match keeps ρ1 rs with
  | some ([d1, d2], ρ2) => if (i < ρ2.length ∧ isIo ρ2[i]? = false) ∧ (j < ρ2.length ∧ isIo ρ2[j]? = false) ∧ i ≠ j then .nx ((ρ2.set i (.va d1)).set j (.va d2)) else .stuck
  | _ => .stuck
theorem tA_then {K : PySem.W.Frag} {W : WX} {σ : L2.St} {H Hb : Hp} {ρ : Rho} {D : Ends} {m : M (List Rs)} {f : List Rs → Rho → Out} {Q : List V → Hp → Prop} (S : StR K Hb σ ρ H) (P : PostS K W Hb σ ρ H D (ebnd (m ρ) f))
    (h : ∀ rs ρ1 vs H1 Hb1, Ste K σ Hb ρ H Hb1 ρ1 H1 → Paired (RsR K H Hb1 σ H1) rs vs → PostS K W Hb σ ρ H D (f rs ρ1) → Q vs H1) : tA K W m σ H Q := by
  refine ⟨Hb, ρ, S, ?_⟩
  cases em : m ρ with
  | stuck => rw [em] at P; exact P
  | er e ρ1 => rw [em] at P; exact fun d H1 Hb1 s1 ex => P d σ H1 Hb1 (s1.toS S) ex
  | ok rs ρ1 => rw [em] at P; exact fun vs H1 Hb1 s1 pr => h rs ρ1 vs H1 Hb1 s1 pr P
theorem dn_par {X : Cx} {W : WX} {i j : Nat} {x y : Str} {a b : Expr} {as : M (List Rs)} {px py pt pos : Pos} {kt k2 pt2} (hc : X.calm = true) (hN : X.N.Nodup) (hi : X.N[i]? = some x) (hj : X.N[j]? = some y) (hij : i ≠ j)
    (hx : X.env.scope.names.lookup x = some .local) (hy : X.env.scope.names.lookup y = some .local) (ha : PA X [a, b] (tA X.K W as))
    (hw : swappedStores [.Tuple [.Name x px, .Name y py] kt pt] (.Tuple [a, b] k2 pt2) X.env = pure (some [x, y]))
    (hs : swapsWithSole [.Tuple [.Name x px, .Name y py] kt pt] (.Tuple [a, b] k2 pt2) pos.line X.env = pure false := by rfl) :
    PS X (.Assign [.Tuple [.Name x px, .Name y py] kt pt] (.Tuple [a, b] k2 pt2) pos) (tN X.K W (nPar i j as)) := by
  refine PS.imp (ps_par hc hN hi hj hij hx hy ha hw hs) fun D σ H h => ?_
  obtain ⟨Hb, ρ, S, P⟩ := h
  refine tA_then S P fun rs ρ1 vs H1 Hb1 s1 pr P => ?_
  cases ek : keeps ρ1 rs with
  | none => rw [ek] at P; exact P.elim
  | some q =>
    obtain ⟨ds, ρ2⟩ := q
    rw [ek] at P
    obtain ⟨Hb2, s2, ia⟩ := keeps_ok (H0 := H) (own_there' S s1) s1.st pr ek
    match ds, P, ia with
    | [], P, _ => exact P.elim
    | [_], P, _ => exact P.elim
    | _ :: _ :: _ :: _, P, _ => exact P.elim
    | [d1, d2], P, ia =>
      simp only at P
      simp only [IsA] at ia
      obtain ⟨v, r, rfl, i1, w, r2, rfl, i2, rfl⟩ := ia
      by_cases hz : (i < ρ2.length ∧ isIo ρ2[i]? = false) ∧ (j < ρ2.length ∧ isIo ρ2[j]? = false) ∧ i ≠ j
      · rw [if_pos hz] at P
        obtain ⟨⟨z1, z2⟩, ⟨z3, z4⟩, z5⟩ := hz
        have t1 := SteS.storeV S (s1.trans s2) z1 (nio_of z2) i1
        have t2 := SteS.storeV (i := j) t1.st (Ste.refl t1.st) (by rw [List.length_set]; exact z3) (by rw [List.getElem?_set_ne hij]; exact nio_of z4) i2
        exact ⟨v, w, rfl, P _ H1 Hb2 (t1.trans t2)⟩
      · rw [if_neg hz] at P; exact P.elim
/-! ### try with several clauses without names -/
def firstK (cls : Nat) : List (Nat × N) → Option N
  | [] => none
  | (k, n) :: r => if subK cls k = true then some n else firstK cls r
def unN : Out → Out
  | .er _ _ => .stuck
  | o => o
def nTryM (cl : List Nat) (nb : N) (hs : List (Nat × N)) : N := fun ρ => match nb ρ with
  | .er e ρ1 => if cl.contains e.cls = true then (match firstK e.cls hs with
    | some n => unN (n ρ1)
    | none => .er e ρ1) else .stuck
  | o => o
def sufs (K : PySem.W.Frag) : List (Value × N) → List (Value × (Addr → Value → Option Addr → TS))
  | [] => []
  | (c, n) :: r => (c, fun _ _ _ => tN K W0 n) :: sufs K r
/-- the clauses by their classes' numbers -/
inductive HdD (X : Cx) (cl : List Nat) : List ExceptHandler → List (Nat × N) → List (Value × N) → Prop
  | nil : HdD X cl [] [] []
  | cons {x : Str} {c : Value} {k : Nat} {n : N} {b₀ : Stmt} {suite : List Stmt} {np pos' : Pos} {hds : List ExceptHandler} {l : List (Nat × N)} {l2 : List (Value × N)} (hc : Names X x c) (hx : ExmOk X.K cl k c)
      (hsu : ∀ (a : Addr) (pn : List (Addr × Obj)), PSs (X.suite a pn) (b₀ :: suite) (tN X.K W0 n)) (r : HdD X cl hds l l2) :
      HdD X cl (.ExceptHandler (some (.Name x np)) none (b₀ :: suite) pos' :: hds) ((k, n) :: l) ((c, n) :: l2)
theorem HdD.ok {X : Cx} {cl : List Nat} : ∀ {hds : List ExceptHandler} {l : List (Nat × N)} {l2 : List (Value × N)}, HdD X cl hds l l2 → HdsOk X hds (sufs X.K l2)
  | _, _, _, .nil => .nil
  | _, _, _, .cons hc hx hsu r => .cons hc (fun a oe cls d pn _ _ => hsu a _) r.ok
theorem many_ok {X : Cx} {cl : List Nat} {W : WX} {D : Ends} {σ σ1 : L2.St} {H H1 Hb Hb1 : Hp} {ρ ρ1 : Rho} {e : Exn} {d : Value × Option Addr} (hcl : cl.contains e.cls = true) (ex : ExR X.K Hb1 H1 e d) (s1 : SteS X.K Hb σ ρ H Hb1 σ1 ρ1 H1) :
    ∀ {hds : List ExceptHandler} {l : List (Nat × N)} {l2 : List (Value × N)}, HdD X cl hds l l2 → PostS X.K W Hb σ ρ H D (match firstK e.cls l with
    | some n => unN (n ρ1)
    | none => .er e ρ1) → wMany X.K W D (sufs X.K l2) d.1 d.2 σ1 H1
  | _, _, _, .nil, P => P d σ1 H1 Hb1 s1 ex
  | _, _, _, @HdD.cons _ _ x c k n b₀ suite np pos' hds l l2 hc hx hsu r, P => by
    obtain ⟨cc, hcc, hd1, hdat⟩ := id ex
    refine ⟨subK e.cls k, by rw [hd1]; exact hx e.cls cc hcl hcc, fun hb a ha => ?_, fun hb => ?_⟩
    · have P1 : PostS X.K W Hb σ ρ H D (unN (n ρ1)) := by
        unfold firstK at P
        rw [if_pos hb] at P
        exact P
      refine ⟨Hb1, ρ1, s1.st, ?_⟩
      have P2 := PostS.back s1 P1
      cases en : n ρ1 with
      | stuck => rw [en] at P2; exact P2
      | er e2 ρ2 => rw [en] at P2; exact P2.elim
      | nx ρ2 => rw [en] at P2; exact P2
      | bk ρ2 => rw [en] at P2; exact P2
      | ct ρ2 => rw [en] at P2; exact P2
      | rt r ρ2 => rw [en] at P2; exact P2
    · refine many_ok hcl ex s1 r ?_
      unfold firstK at P
      rw [if_neg (by rw [hb]; exact Bool.false_ne_true)] at P
      exact P
theorem dn_tryM {X : Cx} {W : WX} {cl : List Nat} {body : List Stmt} {h₀ : ExceptHandler} {hds : List ExceptHandler} {l : List (Nat × N)} {l2 : List (Value × N)} {pos : Pos} {nb : N} (hs : X.stack = X.env :: X.outer) (hf : X.env.frame = some X.env.locals) (tk : Takes X W)
    (hb : ∀ (W' : WX) (pn : List (Addr × Obj)) (xe : Value → Shared → Prop), Takes (X.tr pn xe) W' → PassesOwn (model X.prog X.w) X.A X.env xe → PSs (X.tr pn xe) body (tN X.K W' nb))
    (hh : HdD X cl (h₀ :: hds) l l2) : PS X (.Try body (h₀ :: hds) [] [] pos) (tN X.K W (nTryM cl nb l)) := by
  refine PS.imp (ps_try_many (tb := fun W' => tN X.K W' nb) hs hf tk hb hh.ok) fun D σ H h => ?_
  obtain ⟨Hb, ρ, S, P⟩ := h
  refine ⟨Hb, ρ, S, ?_⟩
  unfold nTryM at P
  cases eb : nb ρ with
  | stuck => rw [eb] at P; exact P
  | nx ρ1 => rw [eb] at P; exact P
  | bk ρ1 => rw [eb] at P; exact P
  | ct ρ1 => rw [eb] at P; exact P
  | rt r ρ1 => rw [eb] at P; exact P
  | er e ρ1 =>
    rw [eb] at P
    intro d σ1 H1 Hb1 s1 ex
    simp only at P
    by_cases hcl : cl.contains e.cls = true
    · rw [if_pos hcl] at P
      exact many_ok hcl ex s1 hh P
    · rw [if_neg hcl] at P; exact P.elim
end DL

namespace DL
open PySem L2 PyProof.Rows
/-- turns of a loop whose slot i falls to nought -/
def fuelAt (i : Nat) (ρ : Rho) : Nat := match ρ[i]? with
  | some (.va (.int n)) => n.toNat + 2
  | _ => 2
section
variable {ρ : Rho} {E : Exn → Rho → Prop} {N B C : Rho → Prop} {R : Rs → Rho → Prop}
theorem wPar {i j : Nat} {as : M (List Rs)} (h : RW (as ρ) (fun rs ρ1 => ∃ d1 d2 ρ2, keeps ρ1 rs = some ([d1, d2], ρ2) ∧ ((i < ρ2.length ∧ isIo ρ2[i]? = false) ∧ (j < ρ2.length ∧ isIo ρ2[j]? = false) ∧ i ≠ j) ∧ N ((ρ2.set i (.va d1)).set j (.va d2))) E) : OW (nPar i j as ρ) N R B C E := by
  refine OW_ebnd (h.mono (fun rs ρ1 h => ?_) fun _ _ z => z)
  obtain ⟨d1, d2, ρ2, e, c, q⟩ := h
  rw [e]
  simp only [if_pos c]
  exact q
theorem wTryM {cl : List Nat} {nb : DL.N} {hs : List (Nat × DL.N)} (h : OW (nb ρ) N R B C (fun e ρ1 => cl.contains e.cls = true ∧ (match firstK e.cls hs with
    | some n => OW (n ρ1) N R B C (fun _ _ => False)
    | none => E e ρ1))) : OW (nTryM cl nb hs ρ) N R B C E := by
  unfold nTryM
  cases q : nb ρ with
  | nx ρ => rw [q] at h; exact h
  | rt r ρ => rw [q] at h; exact h
  | bk ρ => rw [q] at h; exact h
  | ct ρ => rw [q] at h; exact h
  | stuck => rw [q] at h; exact h
  | er e ρ1 =>
    rw [q] at h
    obtain ⟨h1, h2⟩ := h
    simp only [if_pos h1]
    cases qf : firstK e.cls hs with
    | none => rw [qf] at h2; exact h2
    | some n =>
      rw [qf] at h2
      simp only at h2 ⊢
      cases qn : n ρ1 with
      | nx ρ => rw [qn] at h2; exact h2
      | rt r ρ => rw [qn] at h2; exact h2
      | bk ρ => rw [qn] at h2; exact h2
      | ct ρ => rw [qn] at h2; exact h2
      | stuck => rw [qn] at h2; exact h2
      | er e ρ => rw [qn] at h2; exact h2.elim
end
theorem big_of {n k : Nat} (h : n < 2 ^ k) (hk : k ≤ 6000) : n < bigL := Nat.lt_of_lt_of_le h (Nat.pow_le_pow_right (by decide) hk)
theorem lcm_ok {a b : Int} (ha : a.natAbs < bigL) (hb : b.natAbs < bigL) : lcmD [.int a, .int b] = some (.va (.int ((Nat.lcm a.natAbs b.natAbs : Nat) : Int))) := by
  show (if a.natAbs < bigL ∧ b.natAbs < bigL then _ else _) = _
  rw [if_pos ⟨ha, hb⟩]
end DL

namespace DL
open PySem L2 PyProof.Rows
/-! ### a list that is handed over and stays as it is from then on -/
def mFrz (a : M Rs) : M Rs := fun ρ => bnd (a ρ) fun r ρ1 => match keepR ρ1 r with
  | some (d, ρ2) => .ok (.va d) ρ2
  | none => .stuck
theorem dm_frz {X : Cx} {W : WX} {e : Expr} {a : M Rs} (h : PE X e (tM X.K W a)) : PE X e (tM X.K W (mFrz a)) := PE.imp h fun σ H Q h => by
  obtain ⟨Hb, ρ, S, P⟩ := h
  refine ⟨Hb, ρ, S, ?_⟩
  unfold mFrz at P
  cases ea : a ρ with
  | stuck => rw [ea] at P; exact P
  | er e ρ1 => rw [ea] at P; exact P
  | ok r ρ1 =>
    rw [ea] at P
    intro v H1 Hb1 s1 r1
    simp only [bnd] at P
    cases ek : keepR ρ1 r with
    | none => rw [ek] at P; exact P.elim
    | some q =>
      obtain ⟨d, ρ2⟩ := q
      rw [ek] at P
      obtain ⟨Hb2, s2, i2⟩ := keepR_ok S s1 r1 ek
      exact P v H1 Hb2 s2 i2
theorem wFrz {ρ : Rho} {a : M Rs} {Q : Rs → Rho → Prop} {E : Exn → Rho → Prop} (h : RW (a ρ) (fun r ρ1 => ∃ d ρ2, keepR ρ1 r = some (d, ρ2) ∧ Q (.va d) ρ2) E) : RW (mFrz a ρ) Q E := by
  refine RW_bnd (h.mono (fun r ρ1 h => ?_) fun _ _ z => z)
  obtain ⟨d, ρ2, e, q⟩ := h
  rw [e]; exact q
/-! ### tuple * int -/
theorem tuple_mul1 (l : Addr) (items : Array Value) (n : Nat) (sl : Array (Option Value)) (dd : Option Addr) (u : Tok) :
    Meets (Builtin.«tuple.__mul__» ⟨[.ref l, .int 1 u], []⟩) (fun _ R s => s.heap.get? l = some { cls := .type "tuple", dict := dd, data := .seq items n, slots := sl } ∧
      R (.ok (.ret (Value.ref l))) s) :=
  .of_wp fun prog w A R s h => by
    obtain ⟨hp, g, d, tk, os⟩ := s
    obtain ⟨hl, h⟩ := h
    have f1 := AutoSeq1.idx_int
    have c1 : (items.isEmpty || (1 : Int) == 1) = true := by simp
    have c0 : (decide ((1 : Int) < -(2 ^ 63)) || decide ((1 : Int) ≥ 2 ^ 63)) = false := by decide
    wp_walk using wpAny_loadPart' hl
    repeat (first
      | (refine wpAny_ite_false (decide_eq_false (by rw [c0]; exact Bool.false_ne_true)) ?_; wp_walk using wpAny_loadPart' hl)
      | (refine wpAny_ite_true (decide_eq_true (by rw [c1])) ?_; wp_walk using wpAny_loadPart' hl))
    exact ⟨_, rfl, h⟩
def rRep1 (K : PySem.W.Frag) : R2 := fun x y H Q => ∃ l xs, x = .ref l ∧ y = .int 1 ∧ SqT K H l xs ∧ Q (.ref l) H
theorem op_rep1 {X : Cx} : OpR X (binaryOp .Mult) (rRep1 X.K) := by
  intro pins s σ H x y v u Q I rx ry h
  obtain ⟨l, xs, rfl, rfl, hT, q⟩ := h
  cases rx
  obtain ⟨t, rfl⟩ := ry
  obtain ⟨its, r, ⟨⟨cls, dd, data, sl⟩, ho, hc, n, hd⟩, hs⟩ := I.tuple hT
  simp only at hc hd
  subst hc hd
  refine wpAny_binaryOp_repeat_ref (T := "tuple") (U := "int") (by decide) ⟨_, ho, rfl⟩ (fun s' => typeIs_int s' 1 t) noFill_tuple_mul F.fills_int_mul F.slot_int_rmul repeat_tuple F.slot_int_index.lookup
    (call_meets F.slot_int_rmul (typeIs_int s 1 t) F.entry_int_rmul (F.args_int_rmul_2 _ _) (int_rmul_tuple 1 t l its.toArray n dd sl)
      ⟨ho, rfl, ⟨_, ho, rfl⟩, call_meets F.slot_tuple_mul ⟨_, ho, rfl⟩ F.entry_tuple_mul (F.args_tuple_mul_2 _ _) (tuple_mul1 l its.toArray n sl dd t) ⟨ho, ?_⟩⟩)
  exact ⟨.ref l, H, I, rfl, q⟩
/-- xs * k, k at least 1 -/
def mulTD (x y : DL.D) : Option Rs := match x, y with
  | .tup xs, .int k => if k = 1 then some (.va (.tup xs)) else if 2 ≤ k ∧ k ≤ 1000 ∧ xs ≠ [] ∧ xs.length ≤ 1000 then some (.va (.tup (List.replicate k.toNat xs).flatten)) else none
  | _, _ => none
theorem rep_is {K : PySem.W.Frag} {H : Hp} {xs : List DL.D} {vs : List V} (h : IsA K H xs vs) : ∀ n : Nat, IsA K H (List.replicate n xs).flatten (List.replicate n vs).flatten
  | 0 => IsA.nil
  | n + 1 => by
    rw [List.replicate_succ, List.replicate_succ, List.flatten_cons, List.flatten_cons]
    exact h.append (rep_is h n)
instance {xs : List DL.D} : Decidable (xs ≠ []) := match xs with
  | [] => isFalse fun h => h rfl
  | _ :: _ => isTrue fun h => by cases h
theorem od_mulT {K : PySem.W.Frag} : OpD K (fun x y H Q => rRepT K x y H Q ∨ rRep1 K x y H Q) mulTD := by
  intro Hb H x y dx dy res Q s rx ry e q
  unfold mulTD at e
  split at e
  · rename_i xs k
    obtain ⟨a, vs, rfl, h1, i1⟩ := rx.tup s
    rw [ry.int]
    by_cases hk : k = 1
    · rw [if_pos hk] at e; cases e
      subst hk
      refine .inr ⟨a, vs, rfl, rfl, h1, q _ Hb H (Gro.refl s) ?_⟩
      exact rx.elim id (fun ⟨_, _, _, e, _⟩ => by cases e)
    · rw [if_neg hk] at e
      by_cases hc : 2 ≤ k ∧ k ≤ 1000 ∧ xs ≠ [] ∧ xs.length ≤ 1000
      · rw [if_pos hc] at e; cases e
        obtain ⟨c1, c2, c3, c4⟩ := hc
        refine .inl ⟨a, k, vs, rfl, rfl, h1, fun z => c3 ?_, c1, c2, by rw [i1.length]; exact c4, fun p np => ?_⟩
        · have := i1.length
          rw [z] at this
          exact List.eq_nil_of_length_eq_zero this.symm
        · obtain ⟨Hb', g, i2⟩ := new_tup s np (rep_is i1 k.toNat)
          exact q _ Hb' _ g i2
      · rw [if_neg hc] at e; cases e
  · cases e
theorem dm_mulT {X : Cx} {W : WX} {a b : Expr} {ma mb : M Rs} {pos : Pos} (ha : PE X a (tM X.K W ma)) (hb : PE X b (tM X.K W mb)) : PE X (.BinOp a .Mult b pos) (tM X.K W (mBin mulTD ma mb)) := dm_bin (op_repT.or op_rep1) od_mulT ha hb
/-! ### a dict of truths by keys that are tuples of ints, nested -/
mutual
def D.key : DL.D → Option NestedKey
  | .int i => some (.num i)
  | .tup xs => match D.keys xs with
    | some ks => some (.tup ks)
    | none => none
  | _ => none
def D.keys : List DL.D → Option (List NestedKey)
  | [] => some []
  | x :: xs => match D.key x with
    | some k => (match D.keys xs with
      | some ks => some (k :: ks)
      | none => none)
    | none => none
end
section
variable {X : Cx} {pins : List (Addr × Obj)} {σ : L2.St} {H : Hp} {s : Shared}
mutual
theorem is_nested (I : Inv X pins σ H s) : ∀ (d : DL.D) (v : V) (k : NestedKey) (u : Value), Is X.K H d v → D.key d = some k → RelV v u → NestedIs s.heap k u
  | .int i, v, k, u, h, e, r => by
    simp only [Is] at h; subst h
    simp only [D.key] at e; cases e
    obtain ⟨t, rfl⟩ := r
    exact .int i t
  | .tup ds, v, k, u, h, e, r => by
    simp only [Is] at h
    obtain ⟨a, xs, rfl, h1, h2⟩ := h
    unfold D.key at e
    cases ek : D.keys ds with
    | none => rw [ek] at e; cases e
    | some ks =>
      rw [ek] at e; cases e
      cases (show u = Value.ref a from r)
      obtain ⟨its, rv, ⟨o, ho, hc, n, hd⟩, _⟩ := I.tuple h1
      exact .tup ho hc hd (by rw [List.toList_toArray]; exact is_nesteds I ds xs ks its h2 ek rv)
  | .non, v, k, u, h, e, r => by simp [D.key] at e
  | .bl _, v, k, u, h, e, r => by simp [D.key] at e
  | .str _, v, k, u, h, e, r => by simp [D.key] at e
  | .lst _, v, k, u, h, e, r => by simp [D.key] at e
  | .exc _ _, v, k, u, h, e, r => by simp [D.key] at e
  | .ty _, v, k, u, h, e, r => by simp [D.key] at e
  | .cls _, v, k, u, h, e, r => by simp [D.key] at e
  | .obj _, v, k, u, h, e, r => by simp [D.key] at e
theorem is_nesteds (I : Inv X pins σ H s) : ∀ (ds : List DL.D) (vs : List V) (ks : List NestedKey) (us : List Value), IsA X.K H ds vs → D.keys ds = some ks → Vals vs us → NestedAll s.heap ks us
  | [], vs, ks, us, h, e, r => by
    simp only [IsA] at h; subst h
    simp only [D.keys] at e; cases e
    cases r
    exact .nil
  | d :: ds, vs, ks, us, h, e, r => by
    simp only [IsA] at h
    obtain ⟨v, rest, rfl, h1, h2⟩ := h
    unfold D.keys at e
    cases ek : D.key d with
    | none => rw [ek] at e; cases e
    | some k =>
      rw [ek] at e
      cases ek2 : D.keys ds with
      | none => rw [ek2] at e; cases e
      | some ks' =>
        rw [ek2] at e; cases e
        cases r with
        | cons r1 r2 => exact .cons (is_nested I d v k _ h1 ek r1) (is_nesteds I ds rest ks' _ h2 ek2 r2)
end
end
/-- the dict's own object -/
def RawD (P : Program) (w : World) (p : Addr) (xs : List (NestedKey × Addr × Value)) : HO := .ext fun h => ∃ o es ep, h.get? p = some o ∧ o.ExactDict ∧ o.data = .dict es ep ∧ es.toList = xs.map (entryOfKey (nestedKind P w)) ∧ (xs.map (·.1)).Nodup
theorem raw_ok {P : Program} {w : World} {H : Hp} {h : Heap} {p : Addr} {xs : List (NestedKey × Addr × Value)} (d : h.DictOfH (nestedKind P w) p xs) : ObjOk P w H h p (RawD P w p xs) := by
  obtain ⟨o, es, ep, h1, h2, h3, h4, _, h5⟩ := d
  exact ⟨⟨o, es, ep, h1, h2, h3, h4, h5⟩, ⟨o, h1⟩, fun _ _ ⟨o, es, ep, h1, r⟩ k => ⟨o, es, ep, k o h1, r⟩⟩
/-- what the dict holds: f of each key -/
structure DiOk (X : Cx) (f : DL.D → Bool) (H : Hp) (p : Addr) (xs : List (NestedKey × Addr × Value)) : Prop where
  at_ : H p = some (RawD X.prog X.w p xs)
  sys : (p == sysModules) = false
  sz : xs.length ≤ 100000
  ks : ∀ x ∈ xs, ∃ d, D.key d = some x.1 ∧ x.1.depth ≤ 8 ∧ Is X.K H d (.ref x.2.1) ∧ x.2.2 = .bool (f d)
theorem DiOk.of {X : Cx} {pins : List (Addr × Obj)} {σ : L2.St} {H : Hp} {s : Shared} {f : DL.D → Bool} {p : Addr} {xs : List (NestedKey × Addr × Value)} (D : DiOk X f H p xs) (I : Inv X pins σ H s) : s.heap.DictOfH (nestedKind X.prog X.w) p xs := by
  obtain ⟨⟨o, es, ep, h1, h2, h3, h4, h5⟩, _⟩ := (show ObjOk X.prog X.w H s.heap p (RawD X.prog X.w p xs) from I.hok p _ D.at_)
  refine ⟨o, es, ep, h1, h2, h3, h4, fun x hx => ?_, h5⟩
  obtain ⟨d, e1, e2, e3, _⟩ := D.ks x hx
  exact ⟨is_nested I d _ _ _ e3 e1 rfl, e2⟩
end DL

namespace DL
open PySem L2 PyProof.Rows
mutual
theorem D.key_inj : ∀ (d d' : DL.D) (k : NestedKey), D.key d = some k → D.key d' = some k → d = d'
  | .int i, d', k, e, e' => by
    simp only [D.key] at e; cases e
    cases d' with
    | int j => simp only [D.key] at e'; cases e'; rfl
    | tup ds =>
      unfold D.key at e'
      cases q : D.keys ds with
      | none => rw [q] at e'; cases e'
      | some ks => rw [q] at e'; cases e'
    | _ => simp [D.key] at e'
  | .tup ds, d', k, e, e' => by
    unfold D.key at e
    cases q : D.keys ds with
    | none => rw [q] at e; cases e
    | some ks =>
      rw [q] at e; cases e
      cases d' with
      | int j => simp [D.key] at e'
      | tup ds' =>
        unfold D.key at e'
        cases q' : D.keys ds' with
        | none => rw [q'] at e'; cases e'
        | some ks' =>
          rw [q'] at e'; cases e'
          rw [D.keys_inj ds ds' ks q q']
      | _ => simp [D.key] at e'
  | .non, d', k, e, e' => by simp [D.key] at e
  | .bl _, d', k, e, e' => by simp [D.key] at e
  | .str _, d', k, e, e' => by simp [D.key] at e
  | .lst _, d', k, e, e' => by simp [D.key] at e
  | .exc _ _, d', k, e, e' => by simp [D.key] at e
  | .ty _, d', k, e, e' => by simp [D.key] at e
  | .cls _, d', k, e, e' => by simp [D.key] at e
  | .obj _, d', k, e, e' => by simp [D.key] at e
theorem D.keys_inj : ∀ (ds ds' : List DL.D) (ks : List NestedKey), D.keys ds = some ks → D.keys ds' = some ks → ds = ds'
  | [], ds', ks, e, e' => by
    simp only [D.keys] at e; cases e
    cases ds' with
    | nil => rfl
    | cons d ds =>
      unfold D.keys at e'
      cases q : D.key d with
      | none => rw [q] at e'; cases e'
      | some k =>
        rw [q] at e'
        cases q2 : D.keys ds with
        | none => rw [q2] at e'; cases e'
        | some ks => rw [q2] at e'; cases e'
  | d :: ds, ds', ks, e, e' => by
    unfold D.keys at e
    cases q : D.key d with
    | none => rw [q] at e; cases e
    | some k =>
      rw [q] at e
      cases q2 : D.keys ds with
      | none => rw [q2] at e; cases e
      | some ks2 =>
        rw [q2] at e; cases e
        cases ds' with
        | nil => simp [D.keys] at e'
        | cons d' ds' =>
          unfold D.keys at e'
          cases r : D.key d' with
          | none => rw [r] at e'; cases e'
          | some k' =>
            rw [r] at e'
            cases r2 : D.keys ds' with
            | none => rw [r2] at e'; cases e'
            | some ks3 =>
              rw [r2] at e'; cases e'
              rw [D.key_inj d d' k q r, D.keys_inj ds ds' ks2 q2 r2]
end
theorem atKey_in {xs : List (NestedKey × Addr × Value)} {k : NestedKey} {q : Addr × Value} (h : atKey xs k = some q) : (k, q) ∈ xs := by
  unfold atKey at h
  obtain ⟨x, hx, rfl⟩ := Option.map_eq_some_iff.mp h
  have h1 := List.find?_some hx
  have h2 := List.mem_of_find?_eq_some hx
  have : x.1 = k := by simpa using h1
  subst this
  exact h2
section
variable {X : Cx} {pins : List (Addr × Obj)} {σ : L2.St} {H : Hp} {s : Shared} {f : DL.D → Bool} {p a : Addr} {xs : List (NestedKey × Addr × Value)} {d : DL.D} {k : NestedKey} {A : Around} {E : Value → Shared → Prop}
/-- a key that is asked for -/
structure KeyOk (X : Cx) (H : Hp) (d : DL.D) (k : NestedKey) (a : Addr) : Prop where
  ke : D.key d = some k
  dp : k.depth ≤ 8
  is : Is X.K H d (.ref a)
theorem KeyOk.nk (q : KeyOk X H d k a) (I : Inv X pins σ H s) : (nestedKind X.prog X.w).is s.heap k a := ⟨is_nested I d _ _ _ q.is q.ke rfl, q.dp⟩
theorem room_in1 (hu : A.units + 64 < cLine) : (nestedKind X.prog X.w).room A.in1 := by
  show A.units + 1 + 8 < cLine
  omega
/-! the rules -/
def tDNewD (P : Program) (w : World) : TE := fun _ H Q => ∀ p, H p = none → (p == sysModules) = false → Q (.ref p) (upd H p (RawD P w p []))
theorem pe_dnewD {pos : Pos} : PE X (.Dict [] [] pos) (tDNewD X.prog X.w) := ⟨fun pins s σ H Q I h =>
  wpAny_Dict_empty ⟨.ref s.heap.objs.size, _, I.laid (a := s.heap.objs.size) (o := RawD X.prog X.w s.heap.objs.size []) (t' := s.toks) (fun _ _ q => Heap.get?_push_of_some _ q) (Nat.le_refl _) (raw_ok (Heap.DictOfH.new s.heap)), rfl, h _ (I.hok.fresh (Nat.le_refl _)) (beq_eq_false_iff_ne.mpr (Ne.symm (Nat.ne_of_lt I.big)))⟩⟩
def tDNotD (X : Cx) (f : DL.D → Bool) (ty td : TE) : TE := fun σ H Q => ty σ H fun y H1 => td σ H1 fun x H2 => ∃ p xs a d k, y = .ref a ∧ x = .ref p ∧ DiOk X f H2 p xs ∧ KeyOk X H2 d k a ∧ Q (.bl (!(atKey xs k).isSome)) H2
theorem pc_dnotD {o i : Expr} {td ty : TE} (hu : X.A.units + 64 < cLine) (hi : PE X i ty) (ho : PE X o td) : PC X .NotIn i o (tDNotD X f ty td) := by
  refine ⟨fun pins s σ H Q I h => ?_⟩
  refine thn (hi.run pins s σ H _ I h) fun iv s1 ⟨y, H1, I1, ry, q1⟩ => thn (ho.run pins s1 σ H1 _ I1 q1) fun u s2 ⟨x, H2, I2, rx, p, xs, a, d, k, ey, ex, D, q, q2⟩ => ?_
  subst ex ey
  obtain rfl : u = Value.ref p := rx
  obtain rfl : iv = Value.ref a := ry
  show wpAny _ _ (do return Value.bool (!(← contains (Value.ref p) (Value.ref a)))) _ _ _
  exact wpAny_bind (wpAny_contains_heap (room_in1 hu) (q.nk I2) D.sys (D.of I2) (wpAny_pure ⟨.bl _, H2, I2.tok _, rfl, q2⟩))
def tDGetD (X : Cx) (f : DL.D → Bool) (td ty : TE) : TE := fun σ H Q => td σ H fun x H1 => ty σ H1 fun y H2 => ∃ p xs a d k, y = .ref a ∧ x = .ref p ∧ DiOk X f H2 p xs ∧ KeyOk X H2 d k a ∧ (atKey xs k).isSome = true ∧ Q (.bl (f d)) H2
theorem pe_dgetD {o i : Expr} {td ty : TE} {pos : Pos} (hu : X.A.units + 64 < cLine) (ho : PE X o td) (hi : PE X i ty) (hs : NoSl i) : PE X (.Subscript o i pos) (tDGetD X f td ty) := by
  refine ⟨fun pins s σ H Q I h => ?_⟩
  refine subD_of PySem.F.slot_dict_getitem.lookup hs (thn (ho.run pins s σ H _ I h) fun u s1 ⟨x, H1, I1, rx, q1⟩ => thn (hi.run pins s1 σ H1 _ I1 q1) fun iv s2 ⟨y, H2, I2, ry, p, xs, a, d, k, ey, ex, D, q, hk, q2⟩ => ?_)
  subst ex ey
  obtain rfl : u = Value.ref p := rx
  obtain rfl : iv = Value.ref a := ry
  cases e : atKey xs k with
  | none => rw [e] at hk; cases hk
  | some w =>
    obtain ⟨d', k1, _, _, k4⟩ := D.ks _ (atKey_in e)
    have ed : d' = d := DL.D.key_inj d' d k k1 q.ke
    subst ed
    have k4 : w.2 = Value.bool (f d') := k4
    refine ⟨(D.of I2).typeIs, wpAny_getItem_heap (room_in1 hu) (q.nk I2) (D.of I2) e ?_⟩
    rw [k4]
    exact ⟨.bl _, H2, I2.tok _, rfl, q2⟩
def tDPutD (X : Cx) (f : DL.D → Bool) (td ty tv : TE) : TS := fun D σ H => tv σ H fun v H1 => td σ H1 fun x H2 => ty σ H2 fun y H3 => ∃ p xs a d k, y = .ref a ∧ x = .ref p ∧ DiOk X f H3 p xs ∧ KeyOk X H3 d k a ∧ atKey xs k = none ∧ xs.length < 100000 ∧ v = .bl (f d) ∧ D.nx σ (upd H3 p (RawD X.prog X.w p (xs ++ [(k, a, Value.bool (f d))])))
theorem ps_dputD {o i value : Expr} {td ty tv : TE} {pos pos' : Pos} (hu : X.A.units + 64 < cLine) (ho : PE X o td) (hi : PE X i ty) (hv : PE X value tv) (hs : swapsWith value (some (.Subscript o i pos')) pos.line X.env = pure false) :
    PS X (.Assign [.Subscript o i pos'] value pos) (tDPutD X f td ty tv) := by
  refine ⟨fun pins s σ H D I h => ?_⟩
  refine wpAny_Assign_Subscript (thn (hv.run pins s σ H _ I h) fun r s1 ⟨v, H1, I1, rv, q1⟩ => thn (ho.run pins s1 σ H1 _ I1 q1) fun u s2 ⟨x, H2, I2, rx, q2⟩ => thn (hi.run pins s2 σ H2 _ I2 q2) fun iv s3 ⟨y, H3, I3, ry, p, xs, a, d, k, ey, ex, DI, q, hk, hz, ev, q3⟩ => ?_) hs
  subst ex ey ev
  obtain rfl : u = Value.ref p := rx
  obtain rfl : iv = Value.ref a := ry
  obtain rfl : r = Value.bool (f d) := rv
  refine wpAny_setItem_heap (hsz := Nat.le_trans DI.sz (by decide)) (room_in1 hu) (q.nk I3) (DI.of I3) fun h' dd' hs' => ?_
  rw [storedH_new hk] at dd'
  have he : ∃ q, h'.get? p = some q := let ⟨q, _, _, hq, _⟩ := dd'; ⟨q, hq⟩
  exact ⟨σ, _, d_write I3 (by rw [DI.at_]; exact True.intro) hs' he (raw_ok dd'), q3⟩
end
end DL

namespace DL
open PySem L2 PyProof.Rows
/-! ### states of data alone -/
def DatS (K : PySem.W.Frag) (Hb : Hp) : List (Option V) → List Sl → Prop
  | [], [] => True
  | o :: σ, s :: ρ => (match s with
    | .un => True
    | .va d => ∃ v, o = some v ∧ Is K Hb d v
    | .ow _ _ => False) ∧ DatS K Hb σ ρ
  | _, _ => False
section
variable {K : PySem.W.Frag} {Hb Hb' H H' : Hp}
theorem DatS.len : ∀ {σ : List (Option V)} {ρ : List Sl}, DatS K Hb σ ρ → σ.length = ρ.length
  | [], [], _ => rfl
  | o :: σ, s :: ρ, h => by rw [List.length_cons, List.length_cons, DatS.len h.2]
  | [], _ :: _, h => h.elim
  | _ :: _, [], h => h.elim
theorem DatS.get : ∀ {σ : List (Option V)} {ρ : List Sl} {i : Nat} {s : Sl}, DatS K Hb σ ρ → ρ[i]? = some s → ∃ o, σ[i]? = some o ∧ (match s with
    | .un => True
    | .va d => ∃ v, o = some v ∧ Is K Hb d v
    | .ow _ _ => False)
  | o :: σ, t :: ρ, 0, s, h, e => by cases e; exact ⟨o, rfl, h.1⟩
  | o :: σ, t :: ρ, i + 1, s, h, e => by
    obtain ⟨q, e1, e2⟩ := DatS.get (i := i) h.2 (by simpa using e)
    exact ⟨q, by simpa using e1, e2⟩
  | [], [], i, s, h, e => by simp at e
  | [], _ :: _, i, s, h, e => h.elim
  | _ :: _, [], i, s, h, e => h.elim
theorem DatS.no {σ : List (Option V)} {ρ : List Sl} (h : DatS K Hb σ ρ) : ∀ b, ¬ Own σ ρ b := fun b ⟨i, _, io, xs, q⟩ => by
  obtain ⟨_, _, z⟩ := h.get q
  exact z
theorem DatS.st {σ : List (Option V)} {ρ : List Sl} (h : DatS K Hb σ ρ) (sub : Same Hb H) : StR K Hb σ ρ H := by
  refine ⟨sub, h.len, fun i s e => ?_, fun i j b hi _ => (h.no b ⟨i, hi⟩).elim⟩
  obtain ⟨o, e1, e2⟩ := h.get e
  refine ⟨o, e1, ?_⟩
  cases s with
  | un => exact trivial
  | va d => exact e2
  | ow io xs => exact e2.elim
theorem ste_gro {σ : L2.St} {ρ ρ' : Rho} (no : ∀ b, ¬ Own σ ρ b) (s : Ste K σ Hb ρ H Hb' ρ' H') : Gro Hb H Hb' H' :=
  ⟨fun b o e => s.fr b o e (no b), s.gr, fun b o e n => s.gn b o e n (no b), s.st.sub⟩
end
/-! ### the dict of a def's own -/
structure Gh (X : Cx) (f : DL.D → Bool) (Hb0 H0 Hb H : Hp) (p : Addr) (xs : List (NestedKey × Addr × Value)) : Prop where
  g : Gro Hb0 H0 Hb H
  pn : H0 p = none
  pb : Hb p = none
  at_ : H p = some (RawD X.prog X.w p xs)
  sys : (p == sysModules) = false
  sz : xs.length ≤ 100000
  ks : ∀ x ∈ xs, ∃ d, D.key d = some x.1 ∧ x.1.depth ≤ 8 ∧ Is X.K Hb d (.ref x.2.1) ∧ x.2.2 = Value.bool (f d)
section
variable {X : Cx} {f : DL.D → Bool} {Hb0 H0 Hb H Hb' H' : Hp} {p : Addr} {xs : List (NestedKey × Addr × Value)}
theorem Gh.di (h : Gh X f Hb0 H0 Hb H p xs) : DiOk X f H p xs := ⟨h.at_, h.sys, h.sz, fun x hx => let ⟨d, k1, k2, k3, k4⟩ := h.ks x hx; ⟨d, k1, k2, Is.mono h.g.sub _ _ k3, k4⟩⟩
theorem Gh.step (h : Gh X f Hb0 H0 Hb H p xs) (g : Gro Hb H Hb' H') : Gh X f Hb0 H0 Hb' H' p xs :=
  ⟨h.g.trans g, h.pn, g.gn p _ h.at_ h.pb, g.fr p _ h.at_, h.sys, h.sz, fun x hx => let ⟨d, k1, k2, k3, k4⟩ := h.ks x hx; ⟨d, k1, k2, Is.mono g.gr _ _ k3, k4⟩⟩
theorem Gh.put {d : DL.D} {k : NestedKey} {a : Addr} (h : Gh X f Hb0 H0 Hb H p xs) (hk : D.key d = some k) (hd : k.depth ≤ 8) (hi : Is X.K Hb d (.ref a)) (hz : xs.length < 100000) :
    Gh X f Hb0 H0 Hb (upd H p (RawD X.prog X.w p (xs ++ [(k, a, Value.bool (f d))]))) p (xs ++ [(k, a, Value.bool (f d))]) := by
  refine ⟨⟨fun b o e => ?_, h.g.gr, h.g.gn, fun b o e => ?_⟩, h.pn, h.pb, upd_same, h.sys, by rw [List.length_append]; exact hz, fun x hx => ?_⟩
  · rw [upd_ne (fun z => by subst z; rw [h.pn] at e; cases e)]
    exact h.g.fr b o e
  · rw [upd_ne (fun z => by subst z; rw [h.pb] at e; cases e)]
    exact h.g.sub b o e
  · rcases List.mem_append.mp hx with hx | hx
    · exact h.ks x hx
    · rw [List.mem_singleton.mp hx]
      exact ⟨d, hk, hd, hi, rfl⟩
end
/-- a run's two parts -/
def runParts : DL.D → Option (List DL.D × Int)
  | .tup [.tup ls, .int t] => some (ls, t)
  | _ => none
theorem runParts_eq {d : DL.D} {q : List DL.D × Int} (h : runParts d = some q) : d = .tup [.tup q.1, .int q.2] := by
  unfold runParts at h
  split at h
  · cases h; rfl
  · cases h
/-- one run looked at: nothing, or what is said of it -/
def stepR (mrw mrep : M Rs) (dp dq run : DL.D) (n : Nat) : Option (Option DL.D) := match mrw [.va dp, .va dq, .va (.int (n : Int)), .va run] with
  | .ok (.va .non) _ => (match runParts run with
    | some q => if 1 < q.2 then (match D.key (.tup q.1) with
      | some k => if k.depth ≤ 8 then (match mrep [.va dp, .va (.tup q.1)] with
        | .ok (.va (.bl b)) _ => if b = true then some none else some (some (.tup [.str "steady", .int (n : Int)]))
        | _ => none) else none
      | none => none) else some none
    | none => none)
  | .ok (.va d) _ => some (some d)
  | _ => none
def fMemo (mrep : M Rs) (dp d : DL.D) : Bool := match mrep [.va dp, .va d] with
  | .ok (.va (.bl b)) _ => b
  | _ => false
def tBody (X : Cx) (mrw mrep : M Rs) (dp dq : DL.D) (Hb0 H0 : Hp) (p : Addr) (v0 v1 v2 : V) : TS := fun D σ H => ∃ Hb xs vr run o6 o7 o8, ∃ n : Nat, σ = [some v0, some v1, some v2, some (.ref p), some (.int (n : Int)), some vr, o6, o7, o8] ∧
  Gh X (fMemo mrep dp) Hb0 H0 Hb H p xs ∧ Is X.K Hb dp v0 ∧ Is X.K Hb dq v1 ∧ Is X.K Hb run vr ∧ xs.length < 100000 ∧
  (match stepR mrw mrep dp dq run n with
    | none => False
    | some (some d) => ∀ v Hb' H', Gro Hb0 H0 Hb' H' → Is X.K Hb' d v → D.rt v H'
    | some none => ∀ o4 o5 o6 o7 o8 Hb' H' xs', Gh X (fMemo mrep dp) Hb0 H0 Hb' H' p xs' → Same Hb Hb' → xs'.length ≤ xs.length + 1 → D.nx [some v0, some v1, some v2, some (.ref p), o4, o5, o6, o7, o8] H')
theorem body_ok {X : Cx} {W : WX} {mrw mrep : M Rs} {dp dq : DL.D} {Hb0 H0 : Hp} {p : Addr} {v0 v1 v2 : V} {b1 b2 b3 b4 : Stmt}
    (h1 : PS X b1 (tAsg (tM X.K W (mCall 4 mrw (mCons (mV 0) (mCons (mV 1) (mCons (mV 4) (mCons (mV 5) mNil)))))) (gName 6)))
    (h2 : PS X b2 (tIfS (tT X.K W (mTv (mUn (isN true) (mV 6)))) (tRet (tM X.K W (mV 6))) tNext))
    (h3 : PS X b3 (tAsg (tM X.K W (mV 5)) (gTup X.K 2 (gNs [7, 8]))))
    (h4 : PS X b4 (tIfS (tT X.K W (mTv (mBin gtD (mV 8) (mC (.int 1))))) (tSeq (tIfS (tB (tDNotD X (fMemo mrep dp) (tVar 7) (tVar 3))) (tDPutD X (fMemo mrep dp) (tVar 3) (tVar 7) (tM X.K W (mCall 2 mrep (mCons (mV 0) (mCons (mV 7) mNil))))) tNext)
      (tIfS (tNot (tB (tDGetD X (fMemo mrep dp) (tVar 3) (tVar 7)))) (tRet (tM X.K W (mTup (mCons (mC (.str "steady")) (mCons (mV 4) mNil))))) tNext)) tNext)) :
    PSs X [b1, b2, b3, b4] (tBody X mrw mrep dp dq Hb0 H0 p v0 v1 v2) := by
  refine PSs.imp (pss_cons h1 (pss_cons h2 (pss_cons h3 (pss_one h4)))) fun D σ H h => ?_
  obtain ⟨Hb, xs, vr, run, o6, o7, o8, n, rfl, G, i0, i1, ir, hz, P⟩ := h
  have S : DatS X.K Hb [some v0, some v1, some v2, some (.ref p), some (.int (n : Int)), some vr, o6, o7, o8] [.va dp, .va dq, .un, .un, .va (.int (n : Int)), .va run, .un, .un, .un] :=
    ⟨⟨v0, rfl, i0⟩, ⟨v1, rfl, i1⟩, trivial, trivial, ⟨_, rfl, Is.intI⟩, ⟨vr, rfl, ir⟩, trivial, trivial, trivial, trivial⟩
  refine ⟨Hb, _, S.st G.g.sub, ?_⟩
  show PostM X.K W Hb _ _ H _ (match mrw [.va dp, .va dq, .va (.int (n : Int)), .va run] with
    | .ok (.va d) as' => .ok (.va d) [.va dp, .va dq, .un, .un, .va (.int (n : Int)), .va run, .un, .un, .un]
    | .ok (.fr d) as' => .ok (.fr d) [.va dp, .va dq, .un, .un, .va (.int (n : Int)), .va run, .un, .un, .un]
    | .er e as' => .er e [.va dp, .va dq, .un, .un, .va (.int (n : Int)), .va run, .un, .un, .un]
    | _ => .stuck)
  unfold stepR at P
  cases ew : mrw [.va dp, .va dq, .va (.int (n : Int)), .va run] with
  | stuck => rw [ew] at P; exact P.elim
  | er e as' => rw [ew] at P; exact P.elim
  | ok r as' =>
    cases r with
    | al i => rw [ew] at P; exact P.elim
    | fr ys => rw [ew] at P; exact P.elim
    | va dw =>
      rw [ew] at P
      intro vw H1 Hb1 s1 rw1
      have g1 := ste_gro S.no s1
      have G1 := G.step g1
      have iw : Is X.K Hb1 dw vw := rw1
      show tSeq _ _ D [some v0, some v1, some v2, some (.ref p), some (.int (n : Int)), some vr, some vw, o7, o8] H1
      have S1 : DatS X.K Hb1 [some v0, some v1, some v2, some (.ref p), some (.int (n : Int)), some vr, some vw, o7, o8] [.va dp, .va dq, .un, .un, .va (.int (n : Int)), .va run, .va dw, .un, .un] :=
        ⟨⟨v0, rfl, Is.mono g1.gr _ _ i0⟩, ⟨v1, rfl, Is.mono g1.gr _ _ i1⟩, trivial, trivial, ⟨_, rfl, Is.intI⟩, ⟨vr, rfl, Is.mono g1.gr _ _ ir⟩, ⟨vw, rfl, iw⟩, trivial, trivial, trivial⟩
      refine ⟨Hb1, _, S1.st G1.g.sub, ?_⟩
      show PostT X.K W Hb1 _ _ H1 _ (.ok (!dw.isNon) _)
      intro H2 Hb2 s2
      have g2 := ste_gro S1.no s2
      have G2 := G1.step g2
      have retW : dw.isNon = false → (∀ v Hb' H', Gro Hb0 H0 Hb' H' → Is X.K Hb' dw v → D.rt v H') → tRet (tM X.K W (mV 6)) D [some v0, some v1, some v2, some (.ref p), some (.int (n : Int)), some vr, some vw, o7, o8] H2 := fun _ q => by
        have S2 : DatS X.K Hb2 [some v0, some v1, some v2, some (.ref p), some (.int (n : Int)), some vr, some vw, o7, o8] [.un, .un, .un, .un, .un, .un, .va dw, .un, .un] :=
          ⟨trivial, trivial, trivial, trivial, trivial, trivial, ⟨vw, rfl, Is.mono g2.gr _ _ iw⟩, trivial, trivial, trivial⟩
        refine ⟨Hb2, _, S2.st G2.g.sub, ?_⟩
        show PostM X.K W Hb2 _ _ H2 _ (.ok (.va dw) _)
        intro v H3 Hb3 s3 r3
        exact q v Hb3 H3 (G2.g.trans (ste_gro S2.no s3)) r3
      cases dw with
      | non =>
        show (if (!true) = true then _ else _)
        rw [if_neg (by decide)]
        simp only at P
        cases er : runParts run with
        | none => rw [er] at P; exact P.elim
        | some q =>
          obtain ⟨ls, t⟩ := q
          rw [er] at P
          have e := runParts_eq er
          subst e
          simp only at P
          have S2 : DatS X.K Hb2 [some v0, some v1, some v2, some (.ref p), some (.int (n : Int)), some vr, some vw, o7, o8] [.va dp, .va dq, .un, .un, .va (.int (n : Int)), .va (.tup [.tup ls, .int t]), .un, .un, .un] :=
            ⟨⟨v0, rfl, Is.mono g2.gr _ _ (Is.mono g1.gr _ _ i0)⟩, ⟨v1, rfl, Is.mono g2.gr _ _ (Is.mono g1.gr _ _ i1)⟩, trivial, trivial, ⟨_, rfl, Is.intI⟩, ⟨vr, rfl, Is.mono g2.gr _ _ (Is.mono g1.gr _ _ ir)⟩, trivial, trivial, trivial, trivial⟩
          refine ⟨Hb2, _, S2.st G2.g.sub, ?_⟩
          show PostM X.K W Hb2 _ _ H2 _ (.ok (.va (.tup [.tup ls, .int t])) _)
          intro v H3 Hb3 s3 r3
          have g3 := ste_gro S2.no s3
          have G3 := G2.step g3
          have r3 : Is X.K Hb3 (.tup [.tup ls, .int t]) v := r3
          simp only [Is] at r3
          obtain ⟨a, ys, rfl, q1, q2⟩ := r3
          simp only [IsA, Is] at q2
          obtain ⟨vl, r, rfl, ⟨al, zs, rfl, q3, q4⟩, v8, r2, rfl, rfl, rfl⟩ := q2
          have il : Is X.K Hb3 (.tup ls) (.ref al) := by simp only [Is]; exact ⟨al, zs, rfl, q3, q4⟩
          refine ⟨a, _, rfl, Same.tup G3.g.sub q1, rfl, _, _, rfl, _, _, rfl, rfl, ?_⟩
          have S3 : DatS X.K Hb3 [some v0, some v1, some v2, some (.ref p), some (.int (n : Int)), some vr, some vw, some (.ref al), some (.int t)] [.va dp, .va dq, .un, .un, .va (.int (n : Int)), .un, .un, .va (.tup ls), .va (.int t)] :=
            ⟨⟨v0, rfl, Is.mono g3.gr _ _ (Is.mono g2.gr _ _ (Is.mono g1.gr _ _ i0))⟩, ⟨v1, rfl, Is.mono g3.gr _ _ (Is.mono g2.gr _ _ (Is.mono g1.gr _ _ i1))⟩, trivial, trivial, ⟨_, rfl, Is.intI⟩, trivial, trivial, ⟨_, rfl, il⟩, ⟨_, rfl, Is.intI⟩, trivial⟩
          have toEnd : Same Hb Hb3 := (g1.gr.trans g2.gr).trans g3.gr
          refine ⟨Hb3, _, S3.st G3.g.sub, ?_⟩
          show PostT X.K W Hb3 _ _ H3 _ (.ok (decide (1 < t)) _)
          intro H4 Hb4 s4
          have g4 := ste_gro S3.no s4
          have G4 := G3.step g4
          by_cases ht : 1 < t
          · rw [decide_eq_true ht, if_pos rfl]
            rw [if_pos ht] at P
            cases ek : DL.D.key (.tup ls) with
            | none => rw [ek] at P; exact P.elim
            | some k =>
              rw [ek] at P
              simp only at P
              by_cases hd : k.depth ≤ 8
              · rw [if_pos hd] at P
                cases em : mrep [.va dp, .va (.tup ls)] with
                | stuck => rw [em] at P; exact P.elim
                | er e as2 => rw [em] at P; exact P.elim
                | ok rm as2 =>
                  cases rm with
                  | al i => rw [em] at P; exact P.elim
                  | fr ys => rw [em] at P; exact P.elim
                  | va dm =>
                    cases dm with
                    | bl b =>
                      rw [em] at P
                      simp only at P
                      have hf : fMemo mrep dp (.tup ls) = b := by unfold fMemo; rw [em]
                      have il4 : Is X.K Hb4 (.tup ls) (.ref al) := Is.mono g4.gr _ _ il
                      -- the second question
                      have second : ∀ (Hb5 H5 : Hp) xs5, Gh X (fMemo mrep dp) Hb0 H0 Hb5 H5 p xs5 → Same Hb4 Hb5 → xs5.length ≤ xs.length + 1 → (atKey xs5 k).isSome = true →
                          tIfS (tNot (tB (tDGetD X (fMemo mrep dp) (tVar 3) (tVar 7)))) (tRet (tM X.K W (mTup (mCons (mC (.str "steady")) (mCons (mV 4) mNil))))) tNext D [some v0, some v1, some v2, some (.ref p), some (.int (n : Int)), some vr, some vw, some (.ref al), some (.int t)] H5 := fun Hb5 H5 xs5 G5 sm hl hk => by
                        refine ⟨.ref p, rfl, .ref al, rfl, p, xs5, al, .tup ls, k, rfl, rfl, G5.di, ⟨ek, hd, Is.mono G5.g.sub _ _ (Is.mono sm _ _ il4)⟩, hk, _, rfl, ?_⟩
                        rw [hf]
                        cases b with
                        | true =>
                          rw [if_neg (by decide)]
                          exact P _ _ _ _ _ Hb5 H5 xs5 G5 ((toEnd.trans g4.gr).trans sm) hl
                        | false =>
                          rw [if_pos (by decide)]
                          have S5 : DatS X.K Hb5 [some v0, some v1, some v2, some (.ref p), some (.int (n : Int)), some vr, some vw, some (.ref al), some (.int t)] [.un, .un, .un, .un, .va (.int (n : Int)), .un, .un, .un, .un] :=
                            ⟨trivial, trivial, trivial, trivial, ⟨_, rfl, Is.intI⟩, trivial, trivial, trivial, trivial, trivial⟩
                          refine ⟨Hb5, _, S5.st G5.g.sub, ?_⟩
                          show PostM X.K W Hb5 _ _ H5 _ (.ok (.va (.tup [.str "steady", .int (n : Int)])) _)
                          intro v H6 Hb6 s6 r6
                          exact P v Hb6 H6 (G5.g.trans (ste_gro S5.no s6)) r6
                      refine ⟨.ref al, rfl, .ref p, rfl, p, xs, al, .tup ls, k, rfl, rfl, G4.di, ⟨ek, hd, Is.mono G4.g.sub _ _ il4⟩, _, rfl, ?_⟩
                      cases ea : atKey xs k with
                      | some w =>
                        rw [if_neg (by simp)]
                        exact second Hb4 H4 xs G4 (Same.refl _) (by omega) (by rw [ea]; rfl)
                      | none =>
                        rw [if_pos (by simp)]
                        have S4 : DatS X.K Hb4 [some v0, some v1, some v2, some (.ref p), some (.int (n : Int)), some vr, some vw, some (.ref al), some (.int t)] [.va dp, .un, .un, .un, .un, .un, .un, .va (.tup ls), .un] :=
                          ⟨⟨v0, rfl, Is.mono g4.gr _ _ (Is.mono g3.gr _ _ (Is.mono g2.gr _ _ (Is.mono g1.gr _ _ i0)))⟩, trivial, trivial, trivial, trivial, trivial, trivial, ⟨_, rfl, il4⟩, trivial, trivial⟩
                        refine ⟨Hb4, _, S4.st G4.g.sub, ?_⟩
                        show PostM X.K W Hb4 _ _ H4 _ (match mrep [.va dp, .va (.tup ls)] with
                          | .ok (.va d) as' => .ok (.va d) [.va dp, .un, .un, .un, .un, .un, .un, .va (.tup ls), .un]
                          | .ok (.fr d) as' => .ok (.fr d) [.va dp, .un, .un, .un, .un, .un, .un, .va (.tup ls), .un]
                          | .er e as' => .er e [.va dp, .un, .un, .un, .un, .un, .un, .va (.tup ls), .un]
                          | _ => .stuck)
                        rw [em]
                        intro v H5 Hb5 s5 r5
                        have g5 := ste_gro S4.no s5
                        have G5 := G4.step g5
                        have r5 : Is X.K Hb5 (.bl b) v := r5
                        simp only [Is] at r5
                        subst r5
                        refine ⟨.ref p, rfl, .ref al, rfl, p, xs, al, .tup ls, k, rfl, rfl, G5.di, ⟨ek, hd, Is.mono G5.g.sub _ _ (Is.mono g5.gr _ _ il4)⟩, ea, hz, by rw [hf], ?_⟩
                        exact second Hb5 _ _ (G5.put ek hd (Is.mono g5.gr _ _ il4) hz) g5.gr (by rw [List.length_append]; exact Nat.le_refl _) (by
                          have hn : (xs ++ [(k, al, Value.bool (fMemo mrep dp (.tup ls)))]).find? (fun x => decide (x.1 = k)) = some (k, al, Value.bool (fMemo mrep dp (.tup ls))) := by
                            have h0 : xs.find? (fun x => decide (x.1 = k)) = none := by
                              unfold atKey at ea
                              exact Option.map_eq_none_iff.mp ea
                            rw [List.find?_append, h0]
                            simp
                          unfold atKey
                          rw [hn]
                          rfl)
                    | _ => rw [em] at P; exact P.elim
              · rw [if_neg hd] at P; exact P.elim
          · rw [decide_eq_false ht, if_neg (by decide)]
            rw [if_neg ht] at P
            exact P _ _ _ _ _ Hb4 H4 xs G4 (toEnd.trans g4.gr) (by omega)
      | _ =>
        refine (if_pos (show (!(DL.D.isNon _)) = true from rfl)).mpr ?_
        exact retW rfl P
end DL

namespace DL
open PySem L2 PyProof.Rows
def runsR (mrw mrep : M Rs) (dp dq : DL.D) : Nat → List DL.D → Option (Option DL.D)
  | _, [] => some none
  | n, r :: rs => match stepR mrw mrep dp dq r n with
    | none => none
    | some (some d) => some (some d)
    | some none => runsR mrw mrep dp dq (n + 1) rs
def mRuns (F : List DL.D → Option Rs) (mrw mrep : M Rs) : M Rs := fun as => match as with
  | [.va dp, .va dq, .va dt] => (match F [dt, .ty "list"] with
    | some (.va (.bl true)) => (match dt with
      | .lst ds => if ds.length ≤ 100000 then (match runsR mrw mrep dp dq 0 ds with
        | some none => .ok (.va .non) as
        | some (some d) => .ok (.va d) as
        | none => .stuck) else .stuck
      | _ => .stuck)
    | some (.va (.bl false)) => .ok (.va (.tup [.str "row"])) as
    | _ => .stuck)
  | _ => .stuck
def tBodyE (X : Cx) (mrw mrep : M Rs) (dp dq : DL.D) (Hb0 H0 : Hp) (v0 v1 v2 : V) : TS := fun D σ H => ∃ p, tBody X mrw mrep dp dq Hb0 H0 p v0 v1 v2 D σ H
theorem bodyE_ok {X : Cx} {mrw mrep : M Rs} {dp dq : DL.D} {Hb0 H0 : Hp} {v0 v1 v2 : V} {sts : List Stmt} (h : ∀ p, PSs X sts (tBody X mrw mrep dp dq Hb0 H0 p v0 v1 v2)) : PSs X sts (tBodyE X mrw mrep dp dq Hb0 H0 v0 v1 v2) :=
  ⟨fun pins s σ H D I q => let ⟨p, q⟩ := q; (h p).run pins s σ H D I q⟩
/-- the loop -/
theorem loop_ok {X : Cx} {W : WX} {mrw mrep : M Rs} {dp dq : DL.D} {ds : List DL.D} {Hb0 H0 : Hp} {p : Addr} {v0 v1 v2 : V} {D : Ends} {H Hb : Hp} {xs : List (NestedKey × Addr × Value)} {o4 o5 o6 o7 o8 : Option V}
    (hz : ds.length ≤ 100000) (G : Gh X (fMemo mrep dp) Hb0 H0 Hb H p xs) (hx : xs.length = 0) (i0 : Is X.K Hb dp v0) (i1 : Is X.K Hb dq v1) (i2 : Is X.K Hb (.lst ds) v2)
    (P : match runsR mrw mrep dp dq 0 ds with
      | none => False
      | some (some d) => ∀ v Hb' H', Gro Hb0 H0 Hb' H' → Is X.K Hb' d v → D.rt v H'
      | some none => ∀ σ' Hb' H', Gro Hb0 H0 Hb' H' → D.nx σ' H') :
    tFor (tI X.K W (mSeqs enD (mCons (mV 2) mNil))) (gTup X.K 2 (gNs [4, 5])) (tBodyE X mrw mrep dp dq Hb0 H0 v0 v1 v2) D [some v0, some v1, some v2, some (.ref p), o4, o5, o6, o7, o8] H := by
  have S : DatS X.K Hb [some v0, some v1, some v2, some (.ref p), o4, o5, o6, o7, o8] [.un, .un, .va (.lst ds), .un, .un, .un, .un, .un, .un] :=
    ⟨trivial, trivial, ⟨v2, rfl, i2⟩, trivial, trivial, trivial, trivial, trivial, trivial, trivial⟩
  refine ⟨Hb, _, S.st G.g.sub, ?_⟩
  show PostI X.K W Hb _ _ H _ (.ok (enumL 0 ds) _)
  intro J H1 Hb1 s1 hJ
  have g1 := ste_gro S.no s1
  have G1 := G.step g1
  refine ⟨fun i m σ H => m = ds.length - i ∧ i ≤ ds.length ∧ ∃ Hb xs o4 o5 o6 o7 o8, σ = [some v0, some v1, some v2, some (.ref p), o4, o5, o6, o7, o8] ∧ Gh X (fMemo mrep dp) Hb0 H0 Hb H p xs ∧ Same Hb1 Hb ∧ xs.length ≤ i ∧
    (match runsR mrw mrep dp dq i (ds.drop i) with
      | none => False
      | some (some d) => ∀ v Hb' H', Gro Hb0 H0 Hb' H' → Is X.K Hb' d v → D.rt v H'
      | some none => ∀ σ' Hb' H', Gro Hb0 H0 Hb' H' → D.nx σ' H'), ⟨ds.length, by simp, Nat.zero_le _, Hb1, xs, o4, o5, o6, o7, o8, rfl, G1, Same.refl _, by omega, P⟩, ?_⟩
  rintro i m σ H2 ⟨rfl, hi, Hb2, xs2, o4, o5, o6, o7, o8, rfl, G2, sm, hl, P2⟩
  by_cases hlt : i < ds.length
  · have ed : ds.drop i = ds[i] :: ds.drop (i + 1) := List.drop_eq_getElem_cons hlt
    rw [ed] at P2
    unfold runsR at P2
    refine .inr ⟨hJ.go Hb2 H2 i sm G2.g.sub (by rw [enum_len]; exact hlt), fun σ' H' => ∃ Hb3 xs3 o4 o5 o6 o7 o8, σ' = [some v0, some v1, some v2, some (.ref p), o4, o5, o6, o7, o8] ∧ Gh X (fMemo mrep dp) Hb0 H0 Hb3 H' p xs3 ∧ Same Hb1 Hb3 ∧ xs3.length ≤ i + 1 ∧ (match runsR mrw mrep dp dq (i + 1) (ds.drop (i + 1)) with
      | none => False
      | some (some d) => ∀ v Hb' H', Gro Hb0 H0 Hb' H' → Is X.K Hb' d v → D.rt v H'
      | some none => ∀ σ' Hb' H', Gro Hb0 H0 Hb' H' → D.nx σ' H'), fun σ' H' h => ⟨ds.length - (i + 1), by omega, rfl, hlt, h⟩, fun x H' y => ?_⟩
    obtain ⟨Hb3, gr, hx3⟩ := hJ.yld Hb2 H2 i x H' (.tup [.int ((0 + i : Nat) : Int), ds[i]]) sm G2.g.sub y (by
      have : ∀ (n i : Nat) (ds : List DL.D) (h : i < ds.length), (enumL n ds)[i]? = some (.tup [.int ((n + i : Nat) : Int), ds[i]]) := by
        intro n i ds
        induction ds generalizing n i with
        | nil => intro h; simp at h
        | cons d ds ih =>
          intro h
          cases i with
          | zero => rfl
          | succ i =>
            have := ih (n + 1) i (by simpa using h)
            unfold enumL
            rw [List.getElem?_cons_succ, this, show n + 1 + i = n + (i + 1) by omega]
            rfl
      exact this 0 i ds hlt)
    have G3 := G2.step gr
    simp only [Is] at hx3
    obtain ⟨a, ys, rfl, q1, q2⟩ := hx3
    simp only [IsA, Is] at q2
    obtain ⟨v4, r, rfl, rfl, vr, r2, rfl, ir, rfl⟩ := q2
    refine ⟨a, _, rfl, Same.tup G3.g.sub q1, rfl, _, _, rfl, _, _, rfl, rfl, ?_⟩
    refine ⟨p, Hb3, xs2, vr, ds[i], o6, o7, o8, i, ?_, G3, Is.mono ((g1.gr.trans sm).trans gr.gr) _ _ i0, Is.mono ((g1.gr.trans sm).trans gr.gr) _ _ i1, ir, by omega, ?_⟩
    · rw [Nat.zero_add]; rfl
    · cases es : stepR mrw mrep dp dq ds[i] i with
      | none => rw [es] at P2; exact P2
      | some q =>
        rw [es] at P2
        cases q with
        | some d => exact P2
        | none => exact fun o4 o5 o6 o7 o8 Hb' H' xs' G' sm' hl' => ⟨Hb', xs', o4, o5, o6, o7, o8, rfl, G', (sm.trans gr.gr).trans sm', by omega, P2⟩
  · have e : i = ds.length := by omega
    subst e
    rw [List.drop_length] at P2
    refine .inl ⟨?_, P2 _ Hb2 H2 G2.g⟩
    have := hJ.stop Hb2 H2 sm G2.g.sub
    rw [enum_len] at this
    exact this
theorem DatS.un {K : PySem.W.Frag} {Hb : Hp} : ∀ σ : List (Option V), DatS K Hb σ (σ.map fun _ => Sl.un)
  | [] => trivial
  | _ :: σ => ⟨trivial, DatS.un σ⟩
theorem test_F {F : List DL.D → Option Rs} {ρ : Rho} {dt : DL.D} {b : Bool} (h2 : ρ[2]? = some (.va dt)) (e : F [dt, .ty "list"] = some (.va (.bl b))) : mNot (mTv (mBi F (mCons (mV 2) (mCons (mC (.ty "list")) mNil)))) ρ = .ok (!b) ρ := by
  simp [mNot, mTv, mBi, mCons, mV, mC, mNil, bnd, h2, rds, rd, soft, e]
abbrev tRuns (X : Cx) (W : WX) (F : List DL.D → Option Rs) (mrw mrep : M Rs) (dp dq : DL.D) (Hb0 H0 : Hp) (v0 v1 v2 : V) : TS :=
  tSeq (tIfS (tT X.K W (mNot (mTv (mBi F (mCons (mV 2) (mCons (mC (.ty "list")) mNil)))))) (tRet (tM X.K W (mTup (mCons (mC (.str "row")) mNil)))) tNext)
    (tSeq (tAsg (tDNewD X.prog X.w) (gName 3)) (tSeq (tFor (tI X.K W (mSeqs enD (mCons (mV 2) mNil))) (gTup X.K 2 (gNs [4, 5])) (tBodyE X mrw mrep dp dq Hb0 H0 v0 v1 v2)) (tRet (tM X.K W (mC .non)))))
theorem fun_pre {X : Cx} {W : WX} {F : List DL.D → Option Rs} {mrw mrep : M Rs} {dp dq dt : DL.D} {Hb H : Hp} {v0 v1 v2 : V} {Q : VK} (sub : Same Hb H) (i0 : Is X.K Hb dp v0) (i1 : Is X.K Hb dq v1) (i2 : Is X.K Hb dt v2)
    (P : match mRuns F mrw mrep [.va dp, .va dq, .va dt] with
      | .ok (.va d) _ => ∀ v Hb' H', Gro Hb H Hb' H' → Is X.K Hb' d v → Q v H'
      | _ => False) : tRuns X W F mrw mrep dp dq Hb H v0 v1 v2 { nx := fun _ H' => Q .non H', rt := Q } [some v0, some v1, some v2, none, none, none, none, none, none] H := by
  have S : DatS X.K Hb [some v0, some v1, some v2, none, none, none, none, none, none] [.un, .un, .va dt, .un, .un, .un, .un, .un, .un] :=
    ⟨trivial, trivial, ⟨v2, rfl, i2⟩, trivial, trivial, trivial, trivial, trivial, trivial, trivial⟩
  unfold mRuns at P
  simp only at P
  refine ⟨Hb, _, S.st sub, ?_⟩
  cases eF : F [dt, .ty "list"] with
  | none => rw [eF] at P; exact P.elim
  | some r =>
    rw [eF] at P
    cases r with
    | fr ys => exact P.elim
    | al i => exact P.elim
    | va db =>
      cases db with
      | bl b =>
        rw [test_F rfl eF]
        intro H1 Hb1 s1
        have g1 := ste_gro S.no s1
        cases b with
        | false =>
          simp only at P
          refine (if_pos rfl).mpr ?_
          have S1 : DatS X.K Hb1 [some v0, some v1, some v2, none, none, none, none, none, none] [.un, .un, .un, .un, .un, .un, .un, .un, .un] :=
            ⟨trivial, trivial, trivial, trivial, trivial, trivial, trivial, trivial, trivial, trivial⟩
          refine ⟨Hb1, _, S1.st g1.sub, ?_⟩
          show PostM X.K W Hb1 _ _ H1 _ (.ok (.va (.tup [.str "row"])) _)
          intro v H2 Hb2 s2 r2
          exact P v Hb2 H2 (g1.trans (ste_gro S1.no s2)) r2
        | true =>
          refine (if_neg (by decide)).mpr ?_
          cases dt with
          | lst ds =>
            simp only at P
            by_cases hz : ds.length ≤ 100000
            · rw [if_pos hz] at P
              intro p np sys
              have G : Gh X (fMemo mrep dp) Hb H Hb1 (upd H1 p (RawD X.prog X.w p [])) p [] := by
                have pn : H p = none := Same.free g1.fr np
                have pb : Hb1 p = none := Same.none g1.sub np
                refine ⟨⟨fun b o e => ?_, g1.gr, g1.gn, fun b o e => ?_⟩, pn, pb, upd_same, sys, Nat.zero_le _, fun x hx => by cases hx⟩
                · rw [upd_ne (fun z => by subst z; rw [pn] at e; cases e)]
                  exact g1.fr b o e
                · rw [upd_ne (fun z => by subst z; rw [pb] at e; cases e)]
                  exact g1.sub b o e
              refine loop_ok hz G rfl (Is.mono g1.gr _ _ i0) (Is.mono g1.gr _ _ i1) (Is.mono g1.gr _ _ i2) ?_
              cases er : runsR mrw mrep dp dq 0 ds with
              | none => rw [er] at P; exact P
              | some q =>
                rw [er] at P
                cases q with
                | some d => exact P
                | none =>
                  intro σ' Hb' H' g'
                  have S2 := DatS.un (K := X.K) (Hb := Hb') σ'
                  refine ⟨Hb', _, S2.st g'.sub, ?_⟩
                  show PostM X.K W Hb' _ _ H' _ (.ok (.va .non) _)
                  intro v H2 Hb2 s2 r2
                  exact P v Hb2 H2 (g'.trans (ste_gro S2.no s2)) r2
            · rw [if_neg hz] at P; exact P.elim
          | _ => exact P.elim
      | _ => exact P.elim
/-- THE RULE for the def that looks at a row -/
theorem runs_ok {P : Program} {w : World} {K : PySem.W.Frag} {mg : Str → Option Value} {base : Heap} {x qual : Str} {st : Stmt} {f : Addr} {fd : FuncData} {N ps : List Str} {k : Nat} {F : List DL.D → Option Rs} {mrw mrep : M Rs} (Fn : Fun K x qual st f fd) (S : FnScope N ps (defScope st)) (hN : N.length = 9) (hps : ps.length = 3)
    (hbody : ∀ (cdv : Value) (A : Around) (outer : List Env) (s : Shared) (H : Hp) (E : XK), Room k (A.deeper (envOfC qual (defScope st) s.heap.objs.size f cdv)) →
      Takes (cxOf (L2.CX P w) P w K mg base N qual (defScope st) f cdv A outer s H E) (WEx E) → PassesOwn (model P w) (cxOf (L2.CX P w) P w K mg base N qual (defScope st) f cdv A outer s H E).A (cxOf (L2.CX P w) P w K mg base N qual (defScope st) f cdv A outer s H E).env (cxOf (L2.CX P w) P w K mg base N qual (defScope st) f cdv A outer s H E).xe →
      ∀ (dp dq : DL.D) (Hb0 H0 : Hp) (v0 v1 v2 : V), PSs (cxOf (L2.CX P w) P w K mg base N qual (defScope st) f cdv A outer s H E) (defBody st) (tRuns (cxOf (L2.CX P w) P w K mg base N qual (defScope st) f cdv A outer s H E) (WEx E) F mrw mrep dp dq Hb0 H0 v0 v1 v2)) :
    FnOk P w K mg base (L2.CX P w) (k + 1) f fd ps (spD K ps.length (mRuns F mrw mrep)) := by
  refine Fn.okX S (fun vs H Q E h => h.1) fun cdv A outer s H vs Q E hr h => ?_
  obtain ⟨hl, Hb, as, S0, ao, Pf⟩ := h
  rw [hps] at hl
  match vs, hl with
  | [v0, v1, v2], _ =>
    have hlen : as.length = 3 := by have := S0.len; simpa using this.symm
    match as, hlen, Pf, S0 with
    | [.va dp, .va dq, .va dt], _, Pf, S0 =>
      obtain ⟨w0, e0, i0⟩ := S0.va (i := 0) rfl
      obtain ⟨w1, e1, i1⟩ := S0.va (i := 1) rfl
      obtain ⟨w2, e2, i2⟩ := S0.va (i := 2) rfl
      cases e0; cases e1; cases e2
      have es : L2.start N [v0, v1, v2] = [some v0, some v1, some v2, none, none, none, none, none, none] := by
        unfold L2.start
        rw [hN]
        rfl
      refine ⟨_, hbody cdv A outer s H E hr (takes_of rfl rfl rfl rfl) (passes_of rfl) dp dq Hb H v0 v1 v2, ?_⟩
      rw [es]
      refine fun_pre (F := F) S0.sub i0 i1 i2 ?_
      cases em : mRuns F mrw mrep [.va dp, .va dq, .va dt] with
      | stuck => rw [em] at Pf; exact Pf
      | er e as' =>
        exfalso
        unfold mRuns at em
        simp only at em
        split at em
        · split at em
          · split at em
            · split at em <;> cases em
            · cases em
          · cases em
        · cases em
        · cases em
      | ok r as' =>
        rw [em] at Pf
        have ea : as' = [.va dp, .va dq, .va dt] ∧ ∃ d, r = .va d := by
          unfold mRuns at em
          simp only at em
          split at em
          · split at em
            · split at em
              · split at em
                · cases em; exact ⟨rfl, _, rfl⟩
                · cases em; exact ⟨rfl, _, rfl⟩
                · cases em
              · cases em
            · cases em
          · cases em; exact ⟨rfl, _, rfl⟩
          · cases em
        obtain ⟨rfl, d, rfl⟩ := ea
        exact fun v Hb' H' g i => Pf v H' Hb' (g.ste S0) i
    | [.un, _, _], _, Pf, S0 => exact Pf.elim
    | [.ow _ _, _, _], _, Pf, S0 => exact Pf.elim
    | [.va _, .un, _], _, Pf, S0 => exact Pf.elim
    | [.va _, .ow _ _, _], _, Pf, S0 => exact Pf.elim
    | [.va _, .va _, .un], _, Pf, S0 => exact Pf.elim
    | [.va _, .va _, .ow _ _], _, Pf, S0 => exact Pf.elim
end DL

namespace DL
open PySem L2 PyProof.Rows
/-! ### xs[::-1] -/
theorem IsA.rev {K : PySem.W.Frag} {H : Hp} : ∀ {ds : List DL.D} {vs : List V}, IsA K H ds vs → IsA K H ds.reverse vs.reverse
  | [], vs, h => by simp only [IsA] at h; subst h; exact IsA.nil
  | d :: ds, vs, h => by
    simp only [IsA] at h
    obtain ⟨v, r, rfl, h1, h2⟩ := h
    rw [List.reverse_cons, List.reverse_cons]
    exact (IsA.rev h2).append (IsA.cons h1 IsA.nil)
def revD (x : DL.D) : Option Rs := match x with
  | .lst xs => some (.fr xs.reverse)
  | _ => none
theorem dm_rev {X : Cx} {W : WX} {a : Expr} {ma : M Rs} {k : Nat} {p1 p2 p3 pos : Pos} (ha : PE X a (tM X.K W ma)) : PE X (.Subscript a (.Slice none none (some (.UnaryOp .USub (.Constant (.int 1) k p1) p2)) p3) pos) (tM X.K W (mUn revD ma)) := by
  refine PE.imp (pe_revL ha) fun σ H Q h => ?_
  obtain ⟨Hb, ρ, S, P⟩ := h
  refine ⟨Hb, ρ, S, ?_⟩
  unfold mUn at P
  cases ea : ma ρ with
  | stuck => rw [ea] at P; exact P
  | er e ρ1 => rw [ea] at P; exact P
  | ok x ρ1 =>
    rw [ea] at P
    intro v H1 Hb1 s1 r1
    simp only [bnd] at P
    cases ex : rd ρ1 x with
    | none => simp only [ex] at P; exact P.elim
    | some dx =>
      simp only [ex] at P
      have q := rd_ok s1.st r1 ex
      cases dx with
      | lst xs =>
        simp only [revD] at P
        obtain ⟨p, vs, rfl, h1, i1⟩ := q.lst s1.st.sub
        refine ⟨p, vs, rfl, h1, fun t ht => ?_⟩
        have g : Gro Hb1 H1 Hb1 (upd H1 t (.lst vs.reverse)) := Gro.newL s1.st.sub ht
        exact P (.ref t) _ _ (s1.trans (g.ste s1.st)) ⟨t, _, rfl, s1.th t ht, Same.none s1.st.sub ht, upd_same, IsA.rev i1⟩
      | _ => simp only [revD] at P; exact P.elim
/-! ### [x, ..] * n, a new list -/
def mRepF (a b : M Rs) : M Rs := fun ρ => bnd (a ρ) fun x ρ1 => bnd (b ρ1) fun y ρ2 => match x, rd ρ2 y with
  | .fr xs, some (.int k) => if 0 ≤ k ∧ k ≤ 1000 ∧ xs.length ≤ 1000 then .ok (.fr (List.replicate k.toNat xs).flatten) ρ2 else .stuck
  | _, _ => .stuck
theorem dm_repF {X : Cx} {W : WX} {a b : Expr} {ma mb : M Rs} {pos : Pos} (ha : PE X a (tM X.K W ma)) (hb : PE X b (tM X.K W mb)) : PE X (.BinOp a .Mult b pos) (tM X.K W (mRepF ma mb)) := by
  refine PE.imp (pe_op op_rep ha hb) fun σ H Q h => ?_
  obtain ⟨Hb, ρ, S, P⟩ := h
  refine ⟨Hb, ρ, S, ?_⟩
  unfold mRepF at P
  cases ea : ma ρ with
  | stuck => rw [ea] at P; exact P
  | er e ρ1 => rw [ea] at P; exact P
  | ok x ρ1 =>
    rw [ea] at P
    intro v H1 Hb1 s1 r1
    refine ⟨Hb1, ρ1, s1.st, ?_⟩
    simp only [bnd] at P
    cases eb : mb ρ1 with
    | stuck => rw [eb] at P; exact P
    | er e ρ2 =>
      rw [eb] at P
      intro d H2 Hb2 s2 ex
      exact P d H2 Hb2 (s1.trans s2) ex
    | ok y ρ2 =>
      rw [eb] at P
      intro w H2 Hb2 s2 r2
      simp only at P
      have r1' : RsR X.K H Hb2 σ H2 x v := r1.step (own_there' S s1) s2
      have s12 := s1.trans s2
      cases x with
      | va d => exact P.elim
      | al i => exact P.elim
      | fr xs =>
        cases ey : rd ρ2 y with
        | none => simp only [ey] at P; exact P.elim
        | some dy =>
          have qy := rd_ok s2.st r2 ey
          cases dy with
          | int k =>
            simp only [ey] at P
            by_cases hc : 0 ≤ k ∧ k ≤ 1000 ∧ xs.length ≤ 1000
            · rw [if_pos hc] at P
              obtain ⟨p, vs, rfl, h1, h2, h3, h4⟩ := r1'
              have hm : xs.length * k.toNat ≤ 1000 * 1000 := Nat.mul_le_mul hc.2.2 (by omega)
              refine ⟨p, k, vs, rfl, qy.int, h3, by omega, by omega, Nat.le_trans (by rw [h4.length] at *; exact hm) (by decide), fun t ht => ?_⟩
              have g : Gro Hb2 H2 Hb2 (upd H2 t (.lst (List.replicate k.toNat vs).flatten)) := Gro.newL s2.st.sub ht
              exact P (.ref t) _ _ (s12.trans (g.ste s2.st)) ⟨t, _, rfl, s12.th t ht, Same.none s2.st.sub ht, upd_same, rep_is h4 k.toNat⟩
            · rw [if_neg hc] at P; exact P.elim
          | _ => simp only [ey] at P; exact P.elim
end DL

namespace DL
open PySem L2 PyProof.Rows
section
variable {X : Cx} {W : WX}
/-! ### statements that are never reached -/
def nStuck : DL.N := fun _ => .stuck
theorem pss_any (sts : List Stmt) : PSs X sts (fun _ _ _ => False) := ⟨fun _ _ _ _ _ _ h => h.elim⟩
theorem ds_stuck {sts : List Stmt} : PSs X sts (tN X.K W nStuck) := PSs.imp (pss_any sts) fun _ _ _ h => by
  obtain ⟨_, _, _, P⟩ := h
  exact P
/-! ### a call of a def with a keyword-only default that is left to be filled in -/
def mSnoc (d : DL.D) (ms : M (List Rs)) : M (List Rs) := fun ρ => bnd (ms ρ) fun rs ρ1 => .ok (rs ++ [.va d]) ρ1
theorem paired_snoc {α β : Type} {F : α → β → Prop} : ∀ {l : List α} {m : List β} {a : α} {b : β}, Paired F l m → F a b → Paired F (l ++ [a]) (m ++ [b])
  | _, _, _, _, .nil, h => .cons h .nil
  | _, _, _, _, .cons h t, q => .cons h (paired_snoc t q)
theorem dm_callI {k n : Nat} {f : Addr} {fd : FuncData} {ps : List Str} {x : Str} {p pos : Pos} {e : Expr} {es : List Expr} {sem : M Rs} {ms : M (List Rs)} {dv : Int} {du : List Value} (F : FnOk X.prog X.w X.K X.mg X.base (L2.CX X.prog X.w) k f fd ps (spD X.K n sem)) (hr : Room k X.A) (hp : PassW X W) (hg : Gl X x) (hm : X.mg x = some (.ref f))
    (hk : PySem.W.keepIn X.K (.ref f) = true) (hb : Vals [V.int dv] du ∧ Binds X.K fd ps du) (ha : PA X (e :: es) (tA X.K W ms)) (hdb : (x == ("__debug__" : Str)) = false := by decide) (he : starEach (e :: es) X.env = (false, eval e X.env) :: starEach es X.env := by rfl) (hpl : (backTo pos (starEach es X.env)).any (·.1) = false := by rfl) :
    PE X (.Call (.Name x p) (e :: es) [] pos) (tM X.K W (mCall n sem (mSnoc (.int dv) ms))) := by
  refine PE.imp (pe_callSD F hr hg hm hk hb.2 hb.1 hp ha hdb he hpl) fun σ H Q h => ?_
  obtain ⟨Hb, ρ, S, P⟩ := h
  refine ⟨Hb, ρ, S, ?_⟩
  unfold mCall mSnoc at P
  simp only [bnd] at P
  cases ea : ms ρ with
  | stuck => rw [ea] at P; exact P
  | er e ρ1 => rw [ea] at P; exact P
  | ok rs0 ρ1 =>
    rw [ea] at P
    intro vs0 H1 Hb1 s1 r0
    simp only at P
    have r1 := paired_snoc r0 (show RsR X.K H Hb1 σ H1 (Rs.va (.int dv)) (V.int dv) from Is.intI (K := X.K) (H := Hb1))
    generalize hrs : rs0 ++ [Rs.va (DL.D.int dv)] = rs at *
    generalize hvs : vs0 ++ [V.int dv] = vs at *
    by_cases hc : (decide (rs.length = n) && alNd rs && (rs.map (toArg ρ1)).all argOk) = true
    · rw [if_pos hc] at P
      simp only [Bool.and_eq_true, decide_eq_true_eq] at hc
      obtain ⟨⟨hl, nd⟩, ao⟩ := hc
      refine ⟨by rw [← Paired.length r1]; exact hl, Hb1, rs.map (toArg ρ1), callee_st s1.st r1 nd, ao, ?_⟩
      cases es : sem (rs.map (toArg ρ1)) with
      | stuck => rw [es] at P; exact P
      | er e as' =>
        rw [es] at P
        exact fun d H2 Hb2 s2 ex => P d H2 Hb2 (s1.trans (caller_st s1.st r1 nd s2)) ex
      | ok r as' =>
        rw [es] at P
        cases r with
        | al i => exact P.elim
        | va d => exact fun v H2 Hb2 s2 rr => P v H2 Hb2 (s1.trans (caller_st s1.st r1 nd s2)) ((RsR.some rr).older s1.th)
        | fr xs => exact fun v H2 Hb2 s2 rr => P v H2 Hb2 (s1.trans (caller_st s1.st r1 nd s2)) ((RsR.some rr).older s1.th)
    · rw [if_neg hc] at P; exact P.elim
/-! ### xs[::-1] of a tuple -/
end
theorem wSnoc {ρ : Rho} {d : DL.D} {ms : M (List Rs)} {QL : List Rs → Rho → Prop} {E : Exn → Rho → Prop} (h : RW (ms ρ) (fun rs ρ1 => QL (rs ++ [.va d]) ρ1) E) : RW (mSnoc d ms ρ) QL E := RW_bnd h
end DL

namespace DL
open PySem PySem.Spec L2 PyProof.Rows
/-! ### xs[::-1] of a tuple -/
section
variable {prog : Program} {w : World} {A : Around} {E : Value → Shared → Prop} {s : Shared}
theorem revPart {n : Nat} {sl : Addr} {t : Tok} {Q : Int × Int × Nat → Shared → Prop} (hs : s.heap.IsSliceOf sl .none .none (.int (-1) t)) (q : Q ((n : Int) - 1, -1, n) s) :
    wpAny (model prog w) A (Builtin.Slice.sliceApplied (.ref sl) (pure (n : Int))) Q E s := by
  obtain ⟨ob, k1, k2, k3⟩ := id hs
  unfold Builtin.Slice.sliceApplied Builtin.Slice.sliceFields
  refine wpAny_bind (wpAny_bind ?_)
  refine wpAny_field k1 k3 (x := .none) rfl (wpAny_bind ?_)
  refine wpAny_field k1 k3 (x := .none) rfl (wpAny_bind ?_)
  refine wpAny_field k1 k3 (x := .int (-1) t) rfl (wpAny_pure ?_)
  refine wpAny_bind (HT.slicePart_ (.int _ _) ?_)
  show wpAny _ _ (if ((-1 : Int) == 0) = true then _ else _) _ _ s
  rw [if_neg (show ¬ ((-1 : Int) == 0) = true by decide)]
  refine wpAny_bind (HT.slicePart_ .none ?_)
  refine wpAny_bind (HT.slicePart_ .none ?_)
  refine wpAny_bind (wpAny_pure ?_)
  have e1 : Builtin.Slice.sliceAdjust none none (-1) (n : Int) = ((n : Int) - 1, -1) := by
    unfold Builtin.Slice.sliceAdjust
    simp
  have e2 : Builtin.Slice.slicePlaces ((n : Int) - 1) (-1) (-1) = n := by
    unfold Builtin.Slice.slicePlaces
    have : ¬ ((-1 : Int) > 0) := by decide
    simp only [this, if_false]
    split
    · rw [show (- -1 : Int) = 1 by decide, Int.ediv_one]; omega
    · omega
  show wpAny _ _ (match Builtin.Slice.sliceAdjust none none (-1) (n : Int) with | (a, b) => pure (a, (-1 : Int), Builtin.Slice.slicePlaces a b (-1))) _ _ s
  rw [e1]
  show wpAny _ _ (pure ((n : Int) - 1, (-1 : Int), Builtin.Slice.slicePlaces ((n : Int) - 1) (-1) (-1))) _ _ s
  rw [e2]
  exact wpAny_pure q
theorem fm_congr {α β : Type} {f g : α → Option β} : ∀ {l : List α}, (∀ k ∈ l, f k = g k) → l.filterMap f = l.filterMap g
  | [], _ => rfl
  | a :: l, h => by
    rw [List.filterMap_cons, List.filterMap_cons, h a (List.mem_cons_self ..), fm_congr fun k hk => h k (List.mem_cons_of_mem _ hk)]
theorem revPick (xs : Array Value) : (List.range xs.size).filterMap (fun (k : Nat) => xs[((xs.size : Int) - 1 + (k : Int) * -1).toNat]?) = xs.toList.reverse := by
  have e : (List.range xs.size).filterMap (fun (k : Nat) => xs[((xs.size : Int) - 1 + (k : Int) * -1).toNat]?) = ((List.range xs.size).map fun k => xs.size - 1 - k).filterMap (xs[·]?) := by
    rw [List.filterMap_map]
    refine fm_congr fun k hk => ?_
    have := List.mem_range.mp hk
    show xs[((xs.size : Int) - 1 + (k : Int) * -1).toNat]? = xs[xs.size - 1 - k]?
    rw [show ((xs.size : Int) - 1 + (k : Int) * -1).toNat = xs.size - 1 - k by omega]
  rw [e, PySem.W.krv_range, List.filterMap_reverse, PySem.W.krv_all]
theorem revGet {t sl : Addr} {its : Array Value} {u : Tok} {Q : Value → Shared → Prop} (ht : IsTup s.heap t its) (hs : s.heap.IsSliceOf sl .none .none (.int (-1) u))
    (q : Q (.ref s.heap.objs.size) { s with heap := s.heap.push { cls := .type "tuple", data := .seq its.toList.reverse.toArray } }) (hz : its.size ≤ sizeLine) : wpAny (model prog w) A (getItem (.ref t) (.ref sl)) Q E s := by
  have hk : sizeOk (.seq its.toList.reverse.toArray) := by
    show its.toList.reverse.toArray.size ≤ sizeLine
    simpa using hz
  obtain ⟨ob, k1, k2, k3⟩ := id hs
  have hT : s.TypeIs (.ref sl) "slice" := ⟨ob, k1, k2⟩
  unfold getItem
  first | (with_reducible refine wpAny_holding ?_) | skip
  first | (refine wpAny_bind (wpAny_pure ?_)) | skip
  refine wpAny_bind (wpAny_sequenceKey ht.typeIs (by decide) ?_)
  have go := PyProof.Rows.slot_tuple_getitem
  refine wpAny_bind (wpAny_callSpecial?_slot (name := Str.ofString "__getitem__") ht.typeIs go ?_)
  refine wpAny_call_entry go ht.typeIs entry_tuple_getitem ?_ (args_tuple_getitem _ _)
  show wpAny _ _ (Builtin.Tuple.tupleItemsOf (.ref t) >>= _) _ _ s
  refine wpAny_bind (tupleItemsOf_ ht (wpAny_bind (wpAny_typeOf hT ?_)))
  rw [if_pos (show (Value.type "slice" == Value.type "slice") = true by decide)]
  refine wpAny_bind (revPart hs ?_)
  have no : ¬ (((its.size : Int) - 1 == 0 && (-1 : Int) == 1 && its.size == its.size) = true) := by
    rw [show ((-1 : Int) == 1) = false by decide, Bool.and_false, Bool.false_and]
    exact Bool.false_ne_true
  show wpAny _ _ (if ((its.size : Int) - 1 == 0 && (-1 : Int) == 1 && its.size == its.size) = true then _ else _) _ _ s
  rw [if_neg no, revPick]
  first
    | exact wpAny_bind (m := Builtin.Tuple.tupleExact _) (wpAny_newObj_type (wpAny_pure ⟨_, rfl, wpAny_pure q⟩) hk)
    | exact wpAny_bind (m := Builtin.Tuple.tupleExact _) (wpAny_newObj_type (wpAny_bind (wpAny_pure (wpAny_pure ⟨_, rfl, wpAny_pure q⟩))) hk)
    | exact wpAny_bind (wpAny_bind (m := Builtin.Tuple.tupleExact _) (wpAny_newObj_type (wpAny_pure (wpAny_pure ⟨_, rfl, wpAny_pure q⟩)) hk))
    | exact wpAny_bind (wpAny_bind (m := Builtin.Tuple.tupleExact _) (wpAny_newObj_type (wpAny_pure ⟨_, rfl, wpAny_pure q⟩) hk))
end
def tRevT (K : PySem.W.Frag) (te : TE) : TE := fun σ H Q => te σ H fun x H1 => ∃ a xs, x = .ref a ∧ SqT K H1 a xs ∧ ∀ p, H1 p = none → Q (.ref p) (upd H1 p (.tup xs.reverse))
section
variable {X : Cx}
theorem pe_revT {e : Expr} {te : TE} {k : Nat} {p1 p2 p3 pos : Pos} (he : PE X e te) : PE X (.Subscript e (.Slice none none (some (.UnaryOp .USub (.Constant (.int 1) k p1) p2)) p3) pos) (tRevT X.K te) := by
  refine ⟨fun pins s σ H Q I h => Subscript_ (thn (he.run pins s σ H _ I h) fun v s1 ⟨x, H1, I1, r1, a, xs, ex, hx, q⟩ => ?_)⟩
  subst ex
  cases r1
  have step : PO X (some (.UnaryOp .USub (.Constant (.int 1) k p1) p2)) (tPart (tUn (rU fun i => .int (-i)) (tC (.int 1)))) := po_some (pe_un un_neg pe_int)
  refine wpAny_Slice ?_
  refine thn (po_none.run pins s1 σ H1 (fun o H2 => o = none ∧ H2 = H1) I1 ⟨rfl, rfl⟩) fun vl s2 ⟨l, H2, I2, pl, el, e2⟩ => ?_
  subst el e2
  refine thn (po_none.run pins s2 σ H2 (fun o H3 => o = none ∧ H3 = H2) I2 ⟨rfl, rfl⟩) fun vu s3 ⟨u, H3, I3, pu, eu, e3⟩ => ?_
  subst eu e3
  refine thn (step.run pins s3 σ H3 (fun o H4 => o = some (-1) ∧ H4 = H3) I3 ⟨1, rfl, -1, rfl, rfl, rfl⟩) fun vs s4 ⟨o, H4, I4, ps, eo, e4⟩ => ?_
  subst eo e4
  cases pl
  cases pu
  cases ps
  rename_i tk ht0
  have J : L2.Inv X pins σ H4 { s4 with heap := s4.heap.push { cls := .type "slice", data :=   .fields #[.none, .none, .int (-1) tk] } } := I4.kept (t' := s4.toks) fun b ob q => Heap.get?_push_of_some _ q
  obtain ⟨its, r, ht, hz⟩ := J.tuple hx
  have hl : its.toArray.size = xs.length := by rw [List.size_toArray]; exact r.length.symm
  show wpAny (model X.prog X.w) X.A (subscriptTail e _ (.ref a) (.ref s4.heap.objs.size)) (EP X pins σ Q) X.xe _
  refine tail_any (ops := [.ref a, .ref s4.heap.objs.size]) ht.typeIs PyProof.Rows.slot_tuple_getitem.lookup ?_ (by with_unfolding_all rfl)
  refine revGet ht (Heap.IsSliceOf.new _ _ _ _) ?_ (by rw [hl]; exact hz)
  refine ⟨.ref _, _, J.laid (t' := s4.toks) (o := .tup xs.reverse) (fun b ob q => Heap.get?_push_of_some _ q) (Nat.le_refl _) ?_, rfl, q _ (J.hok.fresh (Nat.le_refl _))⟩
  exact ⟨by rw [List.length_reverse]; exact hz, _, r.reverse, IsTup.new _ _⟩
end
def revTD (x : DL.D) : Option Rs := match x with
  | .tup xs => some (.va (.tup xs.reverse))
  | _ => none
theorem dm_revT {X : Cx} {W : WX} {a : Expr} {ma : M Rs} {k : Nat} {p1 p2 p3 pos : Pos} (ha : PE X a (tM X.K W ma)) : PE X (.Subscript a (.Slice none none (some (.UnaryOp .USub (.Constant (.int 1) k p1) p2)) p3) pos) (tM X.K W (mUn revTD ma)) := by
  refine PE.imp (pe_revT ha) fun σ H Q h => ?_
  obtain ⟨Hb, ρ, S, P⟩ := h
  refine ⟨Hb, ρ, S, ?_⟩
  unfold mUn at P
  cases ea : ma ρ with
  | stuck => rw [ea] at P; exact P
  | er e ρ1 => rw [ea] at P; exact P
  | ok x ρ1 =>
    rw [ea] at P
    intro v H1 Hb1 s1 r1
    simp only [bnd] at P
    cases ex : rd ρ1 x with
    | none => simp only [ex] at P; exact P.elim
    | some dx =>
      simp only [ex] at P
      have q := rd_ok s1.st r1 ex
      cases dx with
      | tup xs =>
        simp only [revTD] at P
        obtain ⟨p, vs, rfl, h1, i1⟩ := q.tup s1.st.sub
        refine ⟨p, vs, rfl, h1, fun t ht => ?_⟩
        have g : Gro Hb1 H1 (upd Hb1 t (.tup vs.reverse)) (upd H1 t (.tup vs.reverse)) := Gro.newT s1.st.sub ht
        exact P (.ref t) _ _ (s1.trans (g.ste s1.st)) (Is.tupI (.inl (.inl upd_same)) (IsA.mono (Same.new (Same.none s1.st.sub ht)) _ _ (IsA.rev i1)))
      | _ => simp only [revTD] at P; exact P.elim
end DL

namespace DL
open PySem PySem.Spec L2 PyProof.Rows
/-! ### the law's own def, called from outside: no text is being written there -/
/-- what the law's def promises to its caller -/
structure LawG (P : Program) (w : World) (K : PySem.W.Frag) (mg : Str → Option Value) (base : Heap) (f : Addr) (fd : FuncData) (x : Str) (sp : Sp) : Prop where
  run : ∀ (s : Shared) (H : Hp) (u : Value) (v : V) (Q : VK) (E : XK), Env0 P w K mg base callerA [] s H → BindsTo s fd ⟨[u], []⟩ [(x, u)] → RelV v u → sp [v] H Q E →
    codeAny (model P w) callerA (.call (.ref f) ⟨[u], []⟩) (CR (L2.CX P w) [] P w H s Q E) s
section
variable {P : Program} {w : World} {K : PySem.W.Frag} {mg : Str → Option Value} {base : Heap}
theorem lawG_of {x qual nm : Str} {st : Stmt} {f : Addr} {fd : FuncData} {N : List Str} {k : Nat} {nb : DL.N} (F : Fun K nm qual st f fd) (S : FnScope N [x] (defScope st)) (hN : 1 ≤ N.length) (rm : Room (k + 1) callerA)
    (body : ∀ (cdv : Value) (s : Shared) (H : Hp) (E : XK) (X : Cx), X = cxOf (L2.CX P w) P w K mg base N qual (defScope st) f cdv callerA [] s H E → X.A.guards = some [] → Room k X.A → Takes X (WEx E) → PassesOwn (model P w) X.A X.env X.xe → PSs X (defBody st) (tN K (WEx E) nb)) :
    LawG P w K mg base f fd x (spD K 1 (fsem N.length nb)) := by
  obtain ⟨oc1, od1, kw1, dc1, pm1, an1, cd1, ct1, sl1, rfl, look, hcode⟩ := F.ex
  refine ⟨fun s H u v Q E en hb rv hs => ?_⟩
  have inK : K.In s.heap := en.mod.kin.keeps fun b o e => (en.bs b o e).1
  have lims : s.heap.NoLimit := en.mod.nolimit.keeps fun b o e => (en.bs b o e).1
  have kinds : ∀ y ∈ [x].zip [u], (defScope st).names.lookup y.1 = some .local ∨ ((defScope st).names.lookup y.1 = some .cell ∧ ((cellsFrom (s.heap.objs.size + 1) (defScope st).names []).lookup y.1).isSome = true) := fun ⟨n, z⟩ hy => by
    rcases S.par n (List.of_mem_zip hy).1 with q | q
    · exact .inl q
    · exact .inr ⟨q, PySem.W.cellsFrom_some _ _ _ (.inl q)⟩
  refine codeAny_call_function rm.depth (inK _ _ look) rfl S.co S.gen rfl (PySem.W.codeRec_of inK hcode) (hb _ _ _ _ ?_)
  refine wpAny_newFunctionEnv_cells (binds := [(x, u)]) S.kind kinds fun env henv s1 xx => ?_
  subst henv
  refine ⟨lims.keeps xx.toInCall.keep, codeAny_func ?_⟩
  obtain ⟨hl, Hb, as, S0, ao, Pf⟩ := hs
  have ht := body cd1 s H E _ rfl (by rfl) (rm.deeper _) (takes_of rfl rfl rfl rfl) (passes_of rfl)
  have I : L2.Inv (cxOf (L2.CX P w) P w K mg base N qual (defScope st) f cd1 callerA [] s H E) [] (start N [v]) H s1 := inv_start S rm.hd en (us := [u]) (vs := [v]) rfl (.cons rv .nil) xx
  refine wpAny_mono (ht.run [] s1 (start N [v]) H { nx := fun _ H' => Q .non H', rt := Q } I ?_) (fun fl s' hs => ?_) fun e s' hs => hs
  · refine ⟨Hb, as ++ List.replicate (N.length - as.length) Sl.un, S0.start (by show 1 ≤ N.length; exact hN), ?_⟩
    unfold fsem at Pf
    have hv1 : [v].length ≤ N.length := hN
    cases en2 : nb (as ++ List.replicate (N.length - as.length) Sl.un) with
    | stuck => rw [en2] at Pf; exact Pf
    | bk ρ => rw [en2] at Pf; exact Pf.elim
    | ct ρ => rw [en2] at Pf; exact Pf.elim
    | nx ρ =>
      rw [en2] at Pf
      exact fun σ' H' Hb' s' => Pf .non H' Hb' (Ste.ofS S0 ao hv1 s') (Is.nonI (K := K) (H := Hb'))
    | er e ρ =>
      rw [en2] at Pf
      exact fun d σ' H' Hb' s' ex => Pf d H' Hb' (Ste.ofS S0 ao hv1 s') ex
    | rt r ρ =>
      rw [en2] at Pf
      simp only at Pf
      cases ef : fin1 ρ r with
      | none => rw [ef] at Pf; exact Pf.elim
      | some r' =>
        rw [ef] at Pf
        exact fun v σ' H' Hb' s' rr => Pf v H' Hb' (Ste.ofS S0 ao hv1 s') (fin1_ok S0 ao hv1 s' rr ef)
  · cases fl with
    | ret u2 =>
      obtain ⟨v2, σ2, H2, J, r2, q2⟩ := hs
      exact ⟨v2, H2, J.os, J.bare, J.base, J.hok, r2, q2⟩
    | next =>
      obtain ⟨σ2, H2, J, q2⟩ := hs
      exact ⟨V.non, H2, J.os, J.bare, J.base, J.hok, rfl, q2⟩
    | brk => exact hs.elim fun _ z => z.elim fun _ z => z.2.elim
    | cont => exact hs.elim fun _ z => z.elim fun _ z => z.2.elim
/-- the call of the law, at the heap behind the top -/
theorem law_goes {mb : Str → Option Value} {fa a : Addr} {fd : FuncData} {x : Str} {sp : Sp} {s1 : Shared} {us : List Value} {ns : List Int}
    (inK : K.In s1.heap) (gN : s1.heap.Ns mainGlobals mg) (gB : s1.heap.Ns builtinsNs mb) (eB : ∀ y : Str, y ≠ "__name__" → mb y = bootBuiltins y) (noL : s1.heap.NoLimit) (noG : s1.gens = #[])
    (at_ : s1.heap.get? a = some { cls := .type "list", data := .seq us.toArray }) (areI : IntsAre us ns) (short : ns.length ≤ sizeLine)
    (F : ∀ bs : Heap, K.In bs → bs.Ns mainGlobals mg → LawG P w K mg bs fa fd x sp) (bind1 : ∀ (s : Shared) (u : Value), BindsTo s fd ⟨[u], []⟩ [(x, u)])
    (spec : ∀ H : Hp, Only H → SqL K H a (ns.map V.int) → sp [.ref a] H (fun v _ => v = .bl true) fun _ _ _ => False)
    (noX : ∀ H e s', L2.CX P w [] H s1 (fun _ _ _ => False) e s' → False) :
    codeAny (model P w) callerA (.call (.ref fa) ⟨[.ref a], []⟩) (fun r s2 => r = .ok (.ret (.bool true)) ∧ OldK s1.heap s2.heap ∧ s2.os = s1.os ∧ AllBare s2.gens) s1 := by
  have vals := vals_ints areI
  have lens := areI.length
  have go : ∀ H : Hp, Only H → SqL K H a (ns.map V.int) → HOk P w H s1.heap → (∀ b, H b ≠ none → b = a) → (H a ≠ none → K.lookup a = none) →
      codeAny (model P w) callerA (.call (.ref fa) ⟨[.ref a], []⟩) (fun r s2 => r = .ok (.ret (.bool true)) ∧ OldK s1.heap s2.heap ∧ s2.os = s1.os ∧ AllBare s2.gens) s1 := by
    intro H only seq okH just free
    have free' : ∀ {b : Addr} {u : HO}, H b = some u → b = a ∧ K.lookup a = none := fun {b u} q => by
      have e : b = a := just b (by rw [q]; exact nofun)
      subst e
      exact ⟨rfl, free (by rw [q]; exact nofun)⟩
    have noDict : ∀ {b : Addr} {o : Obj} {es : Array DictEntry} {ep : Nat}, s1.heap.get? b = some o → o.data = .dict es ep → H b = none := fun {b o es ep} e d => by
      cases q : H b with
      | none => rfl
      | some u =>
        obtain ⟨rfl, _⟩ := free' q
        rw [at_] at e
        cases e
        have z : Data.seq us.toArray _ = Data.dict es ep := d
        cases z
    have nsOf : ∀ {b : Addr} {m : Str → Option Value}, s1.heap.Ns b m → (hidT s1.heap H).Ns b m := fun {b m} q => by
      obtain ⟨o, es, ep, e, d, r⟩ := q
      exact ⟨o, es, ep, hidT_get e (noDict e d), d, r⟩
    have inB : K.In (hidT s1.heap H) := fun b o e => by
      refine hidT_get (inK b o e) ?_
      cases q : H b with
      | none => rfl
      | some u =>
        obtain ⟨rfl, z⟩ := free' q
        rw [z] at e
        cases e
    have modB : Mod K mg (hidT s1.heap H) := by
      obtain ⟨mc, k1, k2⟩ := noL
      exact ⟨inB, nsOf gN, ⟨mb, nsOf gB, eB⟩, ⟨mc, nsOf k1, k2⟩⟩
    have en : Env0 P w K mg (hidT s1.heap H) callerA [] s1 H := by
      refine ⟨rfl, modB, ?_, Nat.le_of_eq (hidT_size s1.heap H), trivial, ?_, okH, .of_eq noG⟩
      · exact fun b o e => of_hidT e
      · exact fun b hb => nomatch hb
    have run := (F _ inB (nsOf gN)).run s1 H (.ref a) (.ref a) (fun v _ => v = .bl true) (fun _ _ _ => False) en (bind1 s1 (.ref a)) rfl (spec H only seq)
    refine codeAny_mono run fun r s2 h => ?_
    cases r with
    | error e => exact (noX H e s2 h).elim
    | ok fl =>
      cases fl with
      | ret u =>
        obtain ⟨v, H2, os2, bare2, un2, ok2, rel, q⟩ := h
        have q : v = .bl true := q
        subst q
        obtain rfl : u = Value.bool true := rel
        refine ⟨rfl, OldK.of_keep fun b o e => ?_, os2, bare2⟩
        cases hb : H b with
        | none => exact un2.keep b o e hb (fun z => nomatch z) (fun z => nomatch z)
        | some u =>
          rcases only b with z | ⟨ob, xs, z⟩
          · rw [hb] at z; cases z
          · have z2 := un2.frzs b ob _ z
            obtain ⟨e1, _⟩ := okH b _ z
            obtain ⟨e2, _⟩ := ok2 b _ z2
            rw [e] at e1
            cases e1
            exact e2
      | next => exact h.elim
      | brk => exact h.elim
      | cont => exact h.elim
  cases hk : K.lookup a with
  | some o =>
    have e := inK a o hk
    rw [at_] at e
    cases e
    have sq : SqL K (fun _ => none) a (ns.map V.int) := .inr ⟨_, us.toArray, _, hk, rfl, rfl, rfl, by rw [List.size_toArray, lens]; exact short, by simpa using vals⟩
    refine go (fun _ => none) (fun _ => .inl rfl) sq (fun b u z => ?_) (fun b z => absurd rfl z) (fun z => absurd rfl z)
    have z : (none : Option HO) = some u := z
    cases z
  | none =>
    let H0 : Hp := fun b => if b = a then some (.frz { cls := .type "list", data := .seq us.toArray } (.lst (ns.map V.int))) else none
    have hA : H0 a = some (.frz { cls := .type "list", data := .seq us.toArray } (.lst (ns.map V.int))) := if_pos rfl
    have hO : ∀ b, b ≠ a → H0 b = none := fun b hb => if_neg hb
    refine go H0 (fun b => ?_) (.inl (.inr ⟨_, hA⟩)) (fun b u z => ?_) (fun b z => ?_) fun _ => hk
    · by_cases hb : b = a
      · subst hb; exact .inr ⟨_, _, hA⟩
      · exact .inl (hO b hb)
    · by_cases hb : b = a
      · subst hb
        rw [hA] at z
        cases z
        exact ⟨at_, by rw [List.length_map]; exact short, us, _, vals, at_⟩
      · rw [hO b hb] at z; cases z
    · by_cases hb : b = a
      · exact hb
      · exact absurd (hO b hb) z
/-- the goal that the head leaves -/
theorem walkG {l : PySem.W.OpenLaw} {n : Nat} {q : Program} {loose : List Str} {XP : (Str → Option Value) → Heap → Prop} {YP : World → Heap → Prop} {d : DefRec} {K : Params → PySem.W.Frag} {sp : World → Sp} {x : Str}
    (most : l.most = some n) (small : n ≤ sizeLine) (nodef : d.params.defaults = []) (hY : ∀ (w : World) (h : Heap), YP w h → (K w.params).In h)
    (F : ∀ (w : World) (mg : Str → Option Value) (fa : Addr) (h : Heap), (K w.params).In h → h.Ns mainGlobals mg → mg d.name = some (.ref fa) →
      ∃ fd : FuncData, (∀ (s : Shared) (u : Value), BindsTo s fd ⟨[u], []⟩ [(x, u)]) ∧ ∀ bs : Heap, (K w.params).In bs → bs.Ns mainGlobals mg → LawG l.prog w (K w.params) mg bs fa fd x (sp w))
    (spec : ∀ (w : World) (H : Hp) (a : Addr) (ns : List Int), ns.length ≤ n → Only H → SqL (K w.params) H a (ns.map V.int) → sp w [.ref a] H (fun v _ => v = .bl true) fun _ _ _ => False)
    (noX : ∀ (w : World) (H : Hp) (s : Shared) (e : Value) (s' : Shared), L2.CX l.prog w [] H s (fun _ _ _ => False) e s' → False) :
    PySem.W.WalkO q loose XP YP l.row.toRowW d [] (fun f vs => PySem.call f vs) := by
  refine Att.attach_call most nodef fun w sA sB mg mb fa o pm cd doc a us ns G Y ho hd hcd hmg hobj hints hlen hgen => ?_
  have inK := hY w _ Y
  obtain ⟨fd, b1, F1⟩ := F w mg fa _ inK G.T.g hmg
  exact law_goes inK G.T.g G.T.b G.T.builtins G.T.nolimit hgen hobj hints (Nat.le_trans hlen small) F1 b1 (fun H hO hS => spec w H a ns hlen hO hS) fun H e s' => noX w H sB e s'
end
end DL

namespace DL
open PySem L2 PyProof.Rows
/-! ### str(thing), where no text is being written around -/
def shD : DL.D → Str
  | .str x => x
  | d => (D.py d).shown
def shOk (d : DL.D) : Bool := D.fine 60 d && ((D.py d).showable && decide ((D.py d).shown.length ≤ 100000))
def shownD : List DL.D → Option Rs
  | [d] => if shOk d = true then some (.va (.str (shD d))) else none
  | _ => none
def rShow (K : PySem.W.Frag) : List V → Hp → VK → Prop := fun xs H Q => ∃ v d, xs = [v] ∧ Is K H d v ∧ shOk d = true ∧ Q (.str (shD d)) H
section
variable {X : Cx}
theorem call_show (hG : X.A.guards = some []) (hu : X.A.units + 100 < cLine) : CallR X (.type "str") (rShow X.K) := by
  intro pins s σ H xs us Q I r h
  obtain ⟨v, d, rfl, hi, ok, q⟩ := h
  obtain ⟨u, rfl, ru⟩ := vals1 r
  unfold shOk at ok
  rw [Bool.and_eq_true, Bool.and_eq_true] at ok
  obtain ⟨f, sw, sz⟩ := ok
  have sz := of_decide_eq_true sz
  obtain ⟨lay, dep⟩ := D.py_lay 60 d f
  have nd := PyData.noDict_hsm (as := []) (PyData.hasDict_of_canLay _ lay)
  obtain ⟨as, rd⟩ := Dp.reads I (D.py d) v u (Is.dp 60 d v f hi) ru
  have deep : ∀ a : Addr, u = .ref a → (∀ x, d ≠ .str x) → wpAny (model X.prog X.w) X.A (call (.type "str") [u]) (EP X pins σ Q) X.xe s := fun a e ns => by
    subst e
    have es : shD d = (D.py d).shown := by
      cases d with
      | str x => exact absurd rfl (ns x)
      | _ => rfl
    rw [es] at q
    refine str_of_reads rd sw (PyData.noDict_hsm (PyData.hasDict_of_canLay _ lay)) hG (by omega) (fun b o e => e) (fun h' tk tok hk => ?_) (Nat.le_trans sz (by decide))
    exact ⟨.str _, H, I.kept (t' := tok) (h' := h') hk, ⟨tk, rfl⟩, q⟩
  cases d with
  | non =>
    have e := (show v = .non by simpa only [Is] using hi)
    subst e
    have e : u = Value.none := ru
    subst e
    exact PySem.P.str_of_none ⟨.str _, H, I.tok _, ⟨_, rfl⟩, q⟩
  | bl b =>
    have e := (show v = .bl b by simpa only [Is] using hi)
    subst e
    have e : u = Value.bool b := ru
    subst e
    exact PySem.P.str_of_bool ⟨.str _, H, I.tok _, ⟨_, by cases b <;> rfl⟩, q⟩
  | int i =>
    have e := (show v = .int i by simpa only [Is] using hi)
    subst e
    obtain ⟨t, rfl⟩ := (show ∃ t, u = Value.int i t from ru)
    exact PySem.P.str_of_int (by simpa [PyData.showable, D.py] using sw) ⟨.str _, H, I.tok _, ⟨_, rfl⟩, q⟩
  | str x =>
    have e := (show v = .str x by simpa only [Is] using hi)
    subst e
    obtain ⟨t, rfl⟩ := (show ∃ t, u = Value.str x t from ru)
    exact PySem.P.str_of_str ⟨.str x, H, I, ⟨t, rfl⟩, q⟩
  | tup xs =>
    simp only [Is] at hi
    obtain ⟨a, vs, rfl, _, _⟩ := hi
    exact deep a ru (fun x e => by cases e)
  | lst xs =>
    simp only [Is] at hi
    obtain ⟨a, vs, rfl, _, _⟩ := hi
    exact deep a ru (fun x e => by cases e)
  | exc k x => cases f
  | ty n => cases f
  | cls k => cases f
  | obj a => cases f
end
theorem cd_shown {K : PySem.W.Frag} : CallD K (rShow K) shownD := by
  intro Hb H xs ds res Q s r e q
  unfold shownD at e
  split at e
  · rename_i d
    by_cases ok : shOk d = true
    · rw [if_pos ok] at e
      cases e
      obtain ⟨v, rfl, h⟩ := pair1 r
      exact ⟨v, d, rfl, h.is s, ok, q _ Hb H (Gro.refl s) (Is.strI (K := K) (H := Hb))⟩
    · rw [if_neg ok] at e; cases e
  · cases e
/-! ### texts are compared -/
def neSD (x y : DL.D) : Option Rs := match x, y with
  | .str a, .str b => some (.va (.bl (!decide (a = b))))
  | _, _ => none
theorem od_neS {K : PySem.W.Frag} : OpD K rNe neSD := by
  intro Hb H x y dx dy res Q s rx ry e q
  unfold neSD at e
  split at e
  · rename_i a b
    cases e
    have h1 := rx.is s
    have h2 := ry.is s
    simp only [Is] at h1 h2
    subst h1 h2
    refine ⟨rfl, ?_⟩
    have e3 : (!decide (V.str a = V.str b)) = !decide (a = b) := by simp
    rw [e3]
    exact q _ Hb H (Gro.refl s) (Is.blI (K := K) (H := Hb))
  · cases e
theorem dt_neS {X : Cx} {W : WX} {a b : Expr} {ma mb : M Rs} {pos : Pos} (ha : PE X a (tM X.K W ma)) (hb : PE X b (tM X.K W mb)) : PT X (.Compare a [.NotEq] [b] pos) (tT X.K W (mTv (mBin neSD ma mb))) := dt_cmp op_ne od_neS ha hb
end DL

namespace DL
open PySem L2 PyProof.Rows
/-! ### zip of any number of tuples: one turn -/
structure Sr where
  it : Addr
  a : Addr
  items : Array Value
def Sr.St (r : Sr) (i : Nat) (h : Heap) : Prop := SrcIt true h r.it r.a i ∧ SrcOb true h r.a r.items
def TupAt (h : Heap) (T : Addr) (vs : Array Value) : Prop := h.get? T = some { cls := .type "tuple", data := .seq vs }
structure ZSep (z TI TO : Addr) (rs : List Sr) : Prop where
  zTI : z ≠ TI
  zTO : z ≠ TO
  TITO : TI ≠ TO
  ne : ∀ r ∈ rs, r.a ≠ r.it
  zr : ∀ r ∈ rs, z ∉ [r.it, r.a]
  Tr : ∀ r ∈ rs, TO ∉ [r.it, r.a]
  Ir : ∀ r ∈ rs, TI ≠ r.it
  pw : rs.Pairwise fun r r' => r.it ∉ [r'.it, r'.a] ∧ r'.it ∉ [r.it, r.a]
theorem ZSep.tail {z TI TO : Addr} {r : Sr} {rs : List Sr} (S : ZSep z TI TO (r :: rs)) : ZSep z TI TO rs :=
  ⟨S.zTI, S.zTO, S.TITO, fun x h => S.ne x (List.mem_cons_of_mem _ h), fun x h => S.zr x (List.mem_cons_of_mem _ h), fun x h => S.Tr x (List.mem_cons_of_mem _ h), fun x h => S.Ir x (List.mem_cons_of_mem _ h), (List.pairwise_cons.mp S.pw).2⟩
def setAll (arr : Array Value) : Nat → List Value → Array Value
  | _, [] => arr
  | k, v :: vs => setAll (arr.setIfInBounds k v) (k + 1) vs
section
variable {prog : Program} {w : World} {A : Around} {E : Value → Shared → Prop}
theorem St_over {r : Sr} {i : Nat} {h h' : Heap} {x : Addr} (st : r.St i h) (hs : Heap.SameBut x h h') (hx : x ∉ [r.it, r.a]) : r.St i h' := by
  have h1 : x ≠ r.it := fun e => hx (by simp [e])
  have h2 : x ≠ r.a := fun e => hx (by simp [e])
  refine ⟨srcIt_at st.1 fun o e => hs.extBut _ _ (Ne.symm h1) e, ?_⟩
  have := st.2
  exact Heap.IsTuple.at (show h.IsTuple r.a r.items from this) fun o e => hs.extBut _ _ (Ne.symm h2) e
theorem zipN_loop {z TI TO : Addr} {i : Nat} {β : Type} {b : β} {f : Value × Nat → β → Sem (ForInStep β)}
    (step : ∀ (r : Sr) (k : Nat) (arr : Array Value) (s : Shared) (Q' : ForInStep β → Shared → Prop), r.a ≠ r.it → z ∉ [r.it, r.a] → TO ∉ [r.it, r.a] → i < r.items.size → r.St i s.heap → arr.size ≤ 100 → TupAt s.heap TO arr →
      (∀ h1 h2 tk x, r.items[i]? = some x → Heap.SameBut r.it s.heap h1 → r.St (i + 1) h1 → Heap.SameBut TO h1 h2 → TupAt h2 TO (arr.setIfInBounds k x) → Q' (.yield b) { s with heap := h2, toks := tk }) →
      wpAny (model prog w) A (f (.ref r.it, k) b) Q' E s) :
    ∀ (rs : List Sr) (k : Nat) (arr : Array Value) (s : Shared) (Q : β → Shared → Prop), ZSep z TI TO rs → (∀ r ∈ rs, i < r.items.size) → (∀ r ∈ rs, r.St i s.heap) → arr.size ≤ 100 → TupAt s.heap TO arr →
      (∀ h' tk, TupAt h' TO (setAll arr k (rs.map fun r => r.items.getD i .none)) → (∀ r ∈ rs, r.St (i + 1) h') → h'.objs.size = s.heap.objs.size → (∀ c o, c ≠ TO → (∀ r ∈ rs, c ≠ r.it) → s.heap.get? c = some o → h'.get? c = some o) → Q b { s with heap := h', toks := tk }) →
      wpAny (model prog w) A (forIn ((rs.map fun r => Value.ref r.it).zipIdx k) b f) Q E s
  | [], k, arr, s, Q, S, hl, hst, ha, hT, hQ => by
    simp only [List.map_nil, List.zipIdx_nil, List.forIn_nil]
    refine wpAny_pure ?_
    have := hQ s.heap s.toks hT (fun r h => by cases h) rfl (fun c o _ _ e => e)
    exact this
  | r :: rs, k, arr, s, Q, S, hl, hst, ha, hT, hQ => by
    simp only [List.map_cons, List.zipIdx_cons, List.forIn_cons]
    refine wpAny_bind (step r k arr s _ (S.ne r (by simp)) (S.zr r (by simp)) (S.Tr r (by simp)) (hl r (by simp)) (hst r (by simp)) ha hT fun h1 h2 tk x hx hs1 st1 hs2 hT2 => ?_)
    have pw := List.pairwise_cons.mp S.pw
    refine zipN_loop step rs (k + 1) _ _ Q S.tail (fun x hx => hl x (List.mem_cons_of_mem _ hx)) (fun y hy => ?_) (by rw [Array.size_setIfInBounds]; exact ha) hT2 fun h' tk' hT' hst' hsz hk => ?_
    · exact St_over (St_over (hst y (List.mem_cons_of_mem _ hy)) hs1 (pw.1 y hy).1) hs2 (S.Tr y (List.mem_cons_of_mem _ hy))
    · have ex : r.items.getD i .none = x := by
        rw [Array.getD_eq_getD_getElem?, hx]; rfl
      refine hQ h' tk' (by rw [List.map_cons, ex]; exact hT') (fun y hy => ?_) (by rw [hsz]; show h2.objs.size = _; rw [hs2.1, hs1.1]) fun c o cT cr e => ?_
      · rcases List.mem_cons.mp hy with rfl | hy
        · have s2 := St_over st1 hs2 (S.Tr y (by simp))
          refine ⟨srcIt_at s2.1 fun o e => hk _ o (fun q => S.Tr y (by simp) (by simp [q])) (fun r' hr' q => (pw.1 r' hr').1 (by simp [q])) e, ?_⟩
          exact Heap.IsTuple.at (show h2.IsTuple y.a y.items from s2.2) fun o e => hk _ o (fun q => S.Tr y (by simp) (by simp [q])) (fun r' hr' q => (pw.1 r' hr').2 (by simp [q])) e
        · exact hst' y hy
      · exact hk c o cT (fun r' hr' => cr r' (List.mem_cons_of_mem _ hr')) (hs2.extBut _ _ cT (hs1.extBut _ _ (cr r (by simp)) e))
end
end DL

namespace DL
open PySem L2 PyProof.Rows
theorem setAll_get : ∀ {vs : List Value} {arr : Array Value} {k j : Nat}, arr.size = k + vs.length → (setAll arr k vs)[j]? = if j < k then arr[j]? else vs[j - k]?
  | [], arr, k, j, h => by
    unfold setAll
    split
    · rfl
    · rw [Array.getElem?_eq_none (by simp at h; omega)]; simp
  | v :: vs, arr, k, j, h => by
    unfold setAll
    rw [setAll_get (by simp at h ⊢; omega)]
    simp only [List.length_cons] at h
    by_cases h1 : j < k
    · rw [if_pos (by omega), if_pos h1, Array.getElem?_setIfInBounds, if_neg (by omega)]
    · rw [if_neg h1]
      by_cases h2 : j = k
      · subst h2
        rw [if_pos (by omega), Array.getElem?_setIfInBounds, if_pos rfl, if_pos (by omega)]
        simp
      · rw [if_neg (by omega)]
        have : j - k = (j - (k + 1)) + 1 := by omega
        rw [this, List.getElem?_cons_succ]
theorem setAll_eq {vs : List Value} {arr : Array Value} (h : arr.size = vs.length) : setAll arr 0 vs = vs.toArray := by
  apply Array.ext_getElem?
  intro j
  rw [setAll_get (by omega), if_neg (by omega), Nat.sub_zero, List.getElem?_toArray]
section
variable {prog : Program} {w : World} {A : Around} {E : Value → Shared → Prop} {s : Shared}
def valsAt (rs : List Sr) (i : Nat) : List Value := rs.map fun r => r.items.getD i .none
theorem zipN_next_item (hh : A.handled = none) {z TI TO : Addr} {i : Nat} {rs : List Sr} {arr : Array Value} {Q : Value → Shared → Prop} (S : ZSep z TI TO rs) (h0 : rs ≠ [])
    (hz : IsZip s.heap z TI TO .none) (hTI : TupAt s.heap TI (rs.map fun r => Value.ref r.it).toArray) (hTO : TupAt s.heap TO arr) (hsz : arr.size = rs.length) (h100 : rs.length ≤ 100)
    (hst : ∀ r ∈ rs, r.St i s.heap) (hlt : ∀ r ∈ rs, i < r.items.size)
    (hQ : ∀ h' tk, IsZip h' z TI TO (rawInt s.heap.objs.size) → TupAt h' TO (valsAt rs i).toArray → (∀ r ∈ rs, r.St (i + 1) h') → TupAt h' s.heap.objs.size (valsAt rs i).toArray → h'.objs.size = s.heap.objs.size + 1 →
      (∀ c o, c ≠ z → c ≠ TO → (∀ r ∈ rs, c ≠ r.it) → s.heap.get? c = some o → h'.get? c = some o) → Q (.ref s.heap.objs.size) { s with heap := h', toks := tk }) :
    wpAny (model prog w) A (Builtin.«zip.__next__» ⟨[.ref z], []⟩) (fun fin s' => ∃ v, fin = .done (.ret v) ∧ Q v s') E s := by
  obtain ⟨hp, g, d, tk0, os⟩ := s
  show wpAny _ _ (field (.ref z) 2 >>= _) _ _ _
  refine wpAny_bind (wpAny_field hz rfl (x := .bool false) rfl ?_)
  show wpAny _ _ (field (.ref z) 3 >>= _) _ _ _
  refine wpAny_bind (wpAny_field hz rfl (x := .ref TI) rfl ?_)
  refine wpAny_bind (wpAny_seqItems hTI rfl ?_)
  have hne : (rs.map fun r => Value.ref r.it).toArray.isEmpty = false := by
    cases rs with
    | nil => exact absurd rfl h0
    | cons r rs => rfl
  simp only [hne]
  simp only [Bool.false_eq_true, if_false]
  refine wpAny_bind ?_
  unfold Builtin.SmallTypes.ownedTupleIsFree
  refine wpAny_bind (wpAny_field hz rfl (x := .none) rfl (wpAny_pure ?_))
  simp only [if_true]
  refine wpAny_bind (wpAny_rule ?_)
  refine wpAny_bind (wpAny_field hz rfl (x := .ref TO) rfl ?_)
  refine wpAny_bind (wpAny_setField_rec hz (by simp) fun g0 hz0 hs0 => ?_)
  replace hz0 : IsZip g0 z TI TO .ellipsis := hz0
  replace hs0 : Heap.SameBut z hp g0 := hs0
  refine wpAny_bind ?_
  refine zipN_loop (z := z) (TI := TI) (TO := TO) (i := i) ?_ rs 0 arr _ _ S hlt (fun r hr => St_over (hst r hr) hs0 (S.zr r hr)) (by omega) (show TupAt g0 TO arr from hs0.extBut _ _ (Ne.symm S.zTO) hTO) ?_
  · intro r k arr1 s1 Q1 hne1 hz1 hT1 hl1 st1 ha1 hTO1 hQ1
    obtain ⟨p0, g', d', tk', os'⟩ := s1
    refine wpAny_bind (wpAny_onRaise ?_)
    show wpAny _ _ (Builtin.SmallTypes.nextOf (.ref r.it) >>= _) _ _ ⟨p0, g', d', tk', os'⟩
    refine wpAny_bind ((src_draws (prog := prog) (w := w) hh true r.it r.a hne1 r.items).item i _ _ _ hl1 st1 fun x1 p1 tk1 hx1 sn1 hp1 => wpAny_pure ?_)
    have hU1 : TupAt p1 TO arr1 := hp1.extBut _ _ (fun e => hT1 (by simp [e])) hTO1
    refine wpAny_bind (wpAny_seqItems (s := ⟨p1, g', d', tk1, os'⟩) hU1 rfl ?_)
    refine wpAny_bind ?_
    have sl : (100 : Nat) ≤ sizeLine := by decide
    refine wpAny_updateSeq hU1 rfl (hz := Nat.le_trans ha1 sl) (_hz' := by rw [Array.size_setIfInBounds]; omega) ?_
    have hT2 : TupAt (p1.update TO (Obj.mapSeq fun x => x.setIfInBounds k x1)) TO (arr1.setIfInBounds k x1) := by
      unfold TupAt
      rw [Heap.get?_update_self _ hU1 rfl]
      simp [Obj.mapSeq]
    refine wpAny_bind (wpAny_letGo (wpAny_pure ?_))
    exact hQ1 p1 _ tk1 x1 hx1 hp1 sn1 (Heap.SameBut.update ..) hT2
  · intro g2 tk hT' hst' hsz' hk
    have ev : setAll arr 0 (rs.map fun r => r.items.getD i .none) = (valsAt rs i).toArray := setAll_eq (by rw [hsz, List.length_map])
    rw [ev] at hT'
    refine wpAny_bind (wpAny_seqItems (s := ⟨g2, g, d, tk, os⟩) hT' rfl ?_)
    have sl2 : (100 : Nat) ≤ sizeLine := by decide
    refine wpAny_bind (wpAny_newTuple (hsz := by simp [valsAt]; omega) ?_)
    have hzz : IsZip g2 z TI TO .ellipsis := hk _ _ S.zTO (fun r hr e => S.zr r hr (by simp [e])) hz0
    have hsize : g2.objs.size = hp.objs.size := by rw [hsz']; exact hs0.1
    have hzlt : z < g2.objs.size := Heap.lt_size hzz
    show wpAny _ _ (Builtin.SmallTypes.ownedTupleHandOut (.ref z) (.ref g2.objs.size) >>= _) _ _ ⟨g2.push { cls := .type "tuple", data := .seq (valsAt rs i).toArray }, g, d, tk, os⟩
    refine wpAny_bind ?_
    unfold Builtin.SmallTypes.ownedTupleHandOut
    have hz6 : IsZip (g2.push { cls := .type "tuple", data := .seq (valsAt rs i).toArray }) z TI TO .ellipsis := Heap.get?_push_of_some _ hzz
    refine wpAny_bind (wpAny_setField_rec hz6 (by simp) fun h7 hz7 hs7 => ?_)
    replace hz7 : IsZip h7 z TI TO (rawInt g2.objs.size) := hz7
    refine wpAny_setField_rec hz7 (by simp) fun h8 hz8 hs8 => ?_
    replace hz8 : IsZip h8 z TI TO (rawInt g2.objs.size) := hz8
    replace hs7 : Heap.SameBut z (g2.push { cls := .type "tuple", data := .seq (valsAt rs i).toArray }) h7 := hs7
    replace hs8 : Heap.SameBut z h7 h8 := hs8
    have up : ∀ c o, c ≠ z → g2.get? c = some o → h8.get? c = some o := fun c o c1 e => hs8.extBut _ _ c1 (hs7.extBut _ _ c1 (Heap.get?_push_of_some _ e))
    have hT8 : TupAt h8 g2.objs.size (valsAt rs i).toArray := hs8.extBut _ _ (Nat.ne_of_gt hzlt) (hs7.extBut _ _ (Nat.ne_of_gt hzlt) (Heap.get?_push_size _ rfl))
    have hz9 : h8.objs.size = g2.objs.size + 1 := by rw [hs8.1, hs7.1, Heap.size_push]
    rw [hsize] at hz8 hT8 hz9
    refine wpAny_pure ⟨_, rfl, ?_⟩
    show Q (.ref g2.objs.size) ⟨h8, g, d, tk, os⟩
    rw [hsize]
    refine hQ h8 tk hz8 (up _ _ (Ne.symm S.zTO) hT') (fun r hr => ?_) hT8 hz9 fun c o cz cT cr e => up c o cz (hk c o cT cr (hs0.extBut _ _ cz e))
    obtain ⟨q1, q2⟩ := hst' r hr
    refine ⟨srcIt_at q1 fun o e => up _ o (fun z' => S.zr r hr (by simp [z'])) e, ?_⟩
    exact Heap.IsTuple.at (show g2.IsTuple r.a r.items from q2) fun o e => up _ o (fun z' => S.zr r hr (by simp [z'])) e
end
end DL

namespace DL
open PySem L2 PyProof.Rows
section
variable {prog : Program} {w : World} {A : Around} {E : Value → Shared → Prop} {s : Shared}
theorem zipN_next_end (hh : A.handled = none) {z TI TO : Addr} {i : Nat} {r : Sr} {rs : List Sr} {arr : Array Value} {Q : Fin → Shared → Prop} (S : ZSep z TI TO (r :: rs))
    (hz : IsZip s.heap z TI TO .none) (hTI : TupAt s.heap TI ((r :: rs).map fun r => Value.ref r.it).toArray) (hst : r.St i s.heap) (hi : i = r.items.size)
    (hE : ∀ h' tk e, (∀ c o, c ≠ z → c ≠ TO → (∀ x ∈ r :: rs, c ≠ x.it) → s.heap.get? c = some o → h'.get? c = some o) → (∃ o, h'.get? e = some o ∧ o.cls = .type "StopIteration") → E (.ref e) { s with heap := h', toks := tk }) :
    wpAny (model prog w) A (Builtin.«zip.__next__» ⟨[.ref z], []⟩) Q E s := by
  obtain ⟨hp, g, d, tk0, os⟩ := s
  show wpAny _ _ (field (.ref z) 2 >>= _) _ _ _
  refine wpAny_bind (wpAny_field hz rfl (x := .bool false) rfl ?_)
  show wpAny _ _ (field (.ref z) 3 >>= _) _ _ _
  refine wpAny_bind (wpAny_field hz rfl (x := .ref TI) rfl ?_)
  refine wpAny_bind (wpAny_seqItems hTI rfl ?_)
  have hne : ((r :: rs).map fun r => Value.ref r.it).toArray.isEmpty = false := rfl
  simp only [hne, Bool.false_eq_true, if_false]
  refine wpAny_bind ?_
  unfold Builtin.SmallTypes.ownedTupleIsFree
  refine wpAny_bind (wpAny_field hz rfl (x := .none) rfl (wpAny_pure ?_))
  simp only [if_true]
  refine wpAny_bind (wpAny_rule ?_)
  refine wpAny_bind (wpAny_field hz rfl (x := .ref TO) rfl ?_)
  refine wpAny_bind (wpAny_setField_rec hz (by simp) fun g0 hz0 hs0 => ?_)
  replace hz0 : IsZip g0 z TI TO .ellipsis := hz0
  replace hs0 : Heap.SameBut z hp g0 := hs0
  refine wpAny_bind ?_
  simp only [List.map_cons, List.zipIdx_cons, List.forIn_cons]
  refine wpAny_bind (wpAny_bind (wpAny_onRaise ?_))
  show wpAny _ _ (Builtin.SmallTypes.nextOf (.ref r.it) >>= _) _ _ ⟨g0, g, d, tk0, os⟩
  have st0 : r.St r.items.size g0 := by rw [← hi]; exact St_over hst hs0 (S.zr r (by simp))
  refine wpAny_bind ((src_draws (prog := prog) (w := w) hh true r.it r.a (S.ne r (by simp)) r.items).done ⟨g0, g, d, tk0, os⟩ _ _ st0 fun q e hq he => ?_)
  replace hq : Heap.ExtBut r.it g0 q := hq
  obtain ⟨oe, hoe, hce⟩ := he
  replace hoe : q.get? e = some oe := hoe
  have hzi : z ≠ r.it := fun x => S.zr r (by simp) (by simp [x])
  have hzq : IsZip q z TI TO .ellipsis := hq _ _ hzi hz0
  have hez : e ≠ z := fun x => by subst x; rw [hzq] at hoe; cases hoe; simp at hce
  refine wpAny_setField_rec (s := ⟨q, g, d, tk0, os⟩) hzq (by simp) fun q' _ hq' => ?_
  replace hq' : Heap.SameBut z q q' := hq'
  exact hE q' tk0 e (fun c o cz cT cr x => hq'.extBut _ _ cz (hq _ _ (cr r (by simp)) (hs0.extBut _ _ cz x))) ⟨oe, hq'.extBut _ _ hez hoe, hce⟩
end
end DL

namespace DL
open PySem L2 PyProof.Rows
section
variable {prog : Program} {w : World} {A : Around} {E : Value → Shared → Prop} {s : Shared}
theorem wpAny_alive {M : Model} {a : Addr} {Q : Option Obj → Shared → Prop} (h : Q (s.heap.get? a) s) : wpAny M A (loadIfAlive a) Q E s := fun _ _ _ => h
theorem zipN_loop2 {i : Nat} {β : Type} {mk : Array Value → β} {f : Value → β → Sem (ForInStep β)}
    (step : ∀ (r : Sr) (acc : Array Value) (s : Shared) (Q' : ForInStep β → Shared → Prop), r.a ≠ r.it → i < r.items.size → r.St i s.heap →
      (∀ h1 tk x, r.items[i]? = some x → Heap.SameBut r.it s.heap h1 → r.St (i + 1) h1 → Q' (.yield (mk (acc.push x))) { s with heap := h1, toks := tk }) →
      wpAny (model prog w) A (f (.ref r.it) (mk acc)) Q' E s) :
    ∀ (rs : List Sr) (acc : Array Value) (s : Shared) (Q : β → Shared → Prop), (∀ r ∈ rs, r.a ≠ r.it) → (rs.Pairwise fun r r' => r.it ∉ [r'.it, r'.a] ∧ r'.it ∉ [r.it, r.a]) → (∀ r ∈ rs, i < r.items.size) → (∀ r ∈ rs, r.St i s.heap) →
      (∀ h' tk, (∀ r ∈ rs, r.St (i + 1) h') → h'.objs.size = s.heap.objs.size → (∀ c o, (∀ r ∈ rs, c ≠ r.it) → s.heap.get? c = some o → h'.get? c = some o) → Q (mk (acc ++ (valsAt rs i).toArray)) { s with heap := h', toks := tk }) →
      wpAny (model prog w) A (forIn (rs.map fun r => Value.ref r.it) (mk acc) f) Q E s
  | [], acc, s, Q, hn, pw, hl, hst, hQ => by
    simp only [List.map_nil, List.forIn_nil]
    refine wpAny_pure ?_
    have := hQ s.heap s.toks (fun r h => by cases h) rfl (fun c o _ e => e)
    simpa [valsAt] using this
  | r :: rs, acc, s, Q, hn, pw, hl, hst, hQ => by
    simp only [List.map_cons, List.forIn_cons]
    have pw' := List.pairwise_cons.mp pw
    refine wpAny_bind (step r acc s _ (hn r (by simp)) (hl r (by simp)) (hst r (by simp)) fun h1 tk x hx hs1 st1 => ?_)
    refine zipN_loop2 step rs _ _ Q (fun x h => hn x (List.mem_cons_of_mem _ h)) pw'.2 (fun x hx => hl x (List.mem_cons_of_mem _ hx)) (fun y hy => ?_) fun h' tk' hst' hsz hk => ?_
    · exact St_over (hst y (List.mem_cons_of_mem _ hy)) hs1 (pw'.1 y hy).1
    · have ex : r.items.getD i .none = x := by
        rw [Array.getD_eq_getD_getElem?, hx]; rfl
      have ev : acc.push x ++ (valsAt rs i).toArray = acc ++ (valsAt (r :: rs) i).toArray := by
        unfold valsAt
        rw [List.map_cons, ex]
        simp
      rw [ev]
      refine hQ h' tk' (fun y hy => ?_) (by rw [hsz]; exact hs1.1) fun c o cr e => ?_
      · rcases List.mem_cons.mp hy with rfl | hy
        · refine ⟨srcIt_at st1.1 fun o e => hk _ o (fun r' hr' q => (pw'.1 r' hr').1 (by simp [q])) e, ?_⟩
          exact Heap.IsTuple.at (show h1.IsTuple y.a y.items from st1.2) fun o e => hk _ o (fun r' hr' q => (pw'.1 r' hr').2 (by simp [q])) e
        · exact hst' y hy
      · exact hk c o (fun r' hr' => cr r' (List.mem_cons_of_mem _ hr')) (hs1.extBut _ _ (cr r (by simp)) e)
def ZipHeld (h : Heap) (z TI TO T : Addr) (f1 : Value) : Prop := h.get? z = some { cls := .type "zip", dict := none, data := .fields #[rawInt T, f1, .bool false, .ref TI, .ref TO], slots := #[] }
theorem free_held {z TI TO T : Addr} {f1 : Value} {o1 : Obj} {K : Bool → Shared → Prop} (hz : ZipHeld s.heap z TI TO T f1) (hf : f1 = .bool false ∨ f1 = .bool true) (hT : s.heap.get? T = some o1)
    (h : ∀ g0, ZipHeld g0 z TI TO T (.bool true) → Heap.SameBut z s.heap g0 → K false { s with heap := g0 }) : wpAny (model prog w) A (Builtin.SmallTypes.ownedTupleIsFree (.ref z)) K E s := by
  obtain ⟨hp, g, d, tk0, os⟩ := s
  unfold Builtin.SmallTypes.ownedTupleIsFree
  refine wpAny_bind (wpAny_field hz rfl (x := rawInt T) rfl ?_)
  simp only [rawInt]
  refine wpAny_bind (wpAny_alive ?_)
  have hT' : hp.get? (T : Int).toNat = some o1 := hT
  show wpAny _ _ (if (hp.get? (T : Int).toNat).isNone = true then _ else _) _ _ _
  rw [hT', if_neg (by simp)]
  rcases hf with rfl | rfl
  · refine wpAny_bind (wpAny_field hz rfl (x := .bool false) rfl ?_)
    rw [if_pos (by decide)]
    refine wpAny_bind (wpAny_setField_rec hz (by simp) fun g0 hz0 hs0 => ?_)
    exact wpAny_pure (h g0 hz0 hs0)
  · refine wpAny_bind (wpAny_field hz rfl (x := .bool true) rfl ?_)
    rw [if_neg (by decide)]
    exact wpAny_pure (h hp hz ⟨rfl, fun _ _ => rfl⟩)
/-- the tuple handed out last is still held: the turns behind the first of a list made of a zip -/
theorem zipN_next_held (hh : A.handled = none) {z TI TO T : Addr} {i : Nat} {rs : List Sr} {Q : Value → Shared → Prop} {f1 : Value} {o1 : Obj} (S : ZSep z TI TO rs) (h0 : rs ≠ [])
    (hz : ZipHeld s.heap z TI TO T f1) (hf : f1 = .bool false ∨ f1 = .bool true) (hT : s.heap.get? T = some o1)
    (hTI : TupAt s.heap TI (rs.map fun r => Value.ref r.it).toArray) (h100 : rs.length ≤ 100)
    (hst : ∀ r ∈ rs, r.St i s.heap) (hlt : ∀ r ∈ rs, i < r.items.size)
    (hQ : ∀ h' tk, ZipHeld h' z TI TO T (.bool true) → (∀ r ∈ rs, r.St (i + 1) h') → TupAt h' s.heap.objs.size (valsAt rs i).toArray → h'.objs.size = s.heap.objs.size + 1 →
      (∀ c o, c ≠ z → (∀ r ∈ rs, c ≠ r.it) → s.heap.get? c = some o → h'.get? c = some o) → Q (.ref s.heap.objs.size) { s with heap := h', toks := tk }) :
    wpAny (model prog w) A (Builtin.«zip.__next__» ⟨[.ref z], []⟩) (fun fin s' => ∃ v, fin = .done (.ret v) ∧ Q v s') E s := by
  obtain ⟨hp, g, d, tk0, os⟩ := s
  show wpAny _ _ (field (.ref z) 2 >>= _) _ _ _
  refine wpAny_bind (wpAny_field hz rfl (x := .bool false) rfl ?_)
  show wpAny _ _ (field (.ref z) 3 >>= _) _ _ _
  refine wpAny_bind (wpAny_field hz rfl (x := .ref TI) rfl ?_)
  refine wpAny_bind (wpAny_seqItems hTI rfl ?_)
  have hne : (rs.map fun r => Value.ref r.it).toArray.isEmpty = false := by
    cases rs with
    | nil => exact absurd rfl h0
    | cons r rs => rfl
  simp only [hne, Bool.false_eq_true, if_false]
  refine wpAny_bind ?_
  refine free_held hz hf hT fun g0 hz0 hs0 => ?_
  replace hs0 : Heap.SameBut z hp g0 := hs0
  simp only [Bool.false_eq_true, if_false]
  refine wpAny_bind ?_
  rw [List.forIn_toArray]
  refine zipN_loop2 (mk := fun acc => (none, acc)) ?_ rs #[] _ _ S.ne S.pw hlt (fun r hr => St_over (hst r hr) hs0 (S.zr r hr)) ?_
  · intro r acc s1 Q1 hne1 hl1 st1 hQ1
    obtain ⟨p0, g', d', tk', os'⟩ := s1
    refine wpAny_bind (wpAny_holding ?_)
    show wpAny _ _ (Builtin.SmallTypes.nextOf (.ref r.it) >>= _) _ _ ⟨p0, g', d', tk', os'⟩
    refine wpAny_bind ((src_draws (prog := prog) (w := w) hh true r.it r.a hne1 r.items).item i _ _ _ hl1 st1 fun x1 p1 tk1 hx1 sn1 hp1 => wpAny_pure ?_)
    exact wpAny_pure (hQ1 p1 tk1 x1 hx1 hp1 sn1)
  · intro g2 tk hst' hsz' hk
    have ev : (#[] : Array Value) ++ (valsAt rs i).toArray = (valsAt rs i).toArray := by simp
    rw [ev]
    have sl2 : (100 : Nat) ≤ sizeLine := by decide
    refine wpAny_bind (wpAny_newTuple (hsz := by simp [valsAt]; omega) ?_)
    have hsize : g2.objs.size = hp.objs.size := by rw [hsz']; exact hs0.1
    have hzz : ZipHeld g2 z TI TO T (.bool true) := hk _ _ (fun r hr e => S.zr r hr (by simp [e])) hz0
    refine wpAny_pure ⟨_, rfl, ?_⟩
    show Q (.ref g2.objs.size) ⟨g2.push { cls := .type "tuple", data := .seq (valsAt rs i).toArray }, g, d, tk, os⟩
    rw [hsize]
    refine hQ _ tk (Heap.get?_push_of_some _ hzz) (fun r hr => ?_) (by have := Heap.get?_push_size g2 (o := { cls := .type "tuple", data := .seq (valsAt rs i).toArray }) rfl; rw [hsize] at this; exact this) (by rw [Heap.size_push, hsize]) fun c o cz cr e => Heap.get?_push_of_some _ (hk c o cr (hs0.extBut _ _ cz e))
    obtain ⟨q1, q2⟩ := hst' r hr
    refine ⟨srcIt_at q1 fun o e => Heap.get?_push_of_some _ e, ?_⟩
    exact Heap.IsTuple.at (show g2.IsTuple r.a r.items from q2) fun o e => Heap.get?_push_of_some _ e
end
end DL

namespace DL
open PySem L2 PyProof.Rows
section
variable {prog : Program} {w : World} {A : Around} {E : Value → Shared → Prop} {s : Shared}
theorem zipN_end_held (hh : A.handled = none) {z TI TO T : Addr} {i : Nat} {r : Sr} {rs : List Sr} {Q : Fin → Shared → Prop} {f1 : Value} {o1 : Obj} (S : ZSep z TI TO (r :: rs))
    (hz : ZipHeld s.heap z TI TO T f1) (hf : f1 = .bool false ∨ f1 = .bool true) (hT : s.heap.get? T = some o1) (hTI : TupAt s.heap TI ((r :: rs).map fun r => Value.ref r.it).toArray) (hst : r.St i s.heap) (hi : i = r.items.size)
    (hE : ∀ h' tk e, (∀ c o, c ≠ z → (∀ x ∈ r :: rs, c ≠ x.it) → s.heap.get? c = some o → h'.get? c = some o) → (∃ o, h'.get? e = some o ∧ o.cls = .type "StopIteration") → E (.ref e) { s with heap := h', toks := tk }) :
    wpAny (model prog w) A (Builtin.«zip.__next__» ⟨[.ref z], []⟩) Q E s := by
  obtain ⟨hp, g, d, tk0, os⟩ := s
  show wpAny _ _ (field (.ref z) 2 >>= _) _ _ _
  refine wpAny_bind (wpAny_field hz rfl (x := .bool false) rfl ?_)
  show wpAny _ _ (field (.ref z) 3 >>= _) _ _ _
  refine wpAny_bind (wpAny_field hz rfl (x := .ref TI) rfl ?_)
  refine wpAny_bind (wpAny_seqItems hTI rfl ?_)
  have hne : ((r :: rs).map fun r => Value.ref r.it).toArray.isEmpty = false := rfl
  simp only [hne, Bool.false_eq_true, if_false]
  refine wpAny_bind ?_
  refine free_held hz hf hT fun g0 hz0 hs0 => ?_
  replace hs0 : Heap.SameBut z hp g0 := hs0
  simp only [Bool.false_eq_true, if_false]
  refine wpAny_bind ?_
  rw [List.forIn_toArray]
  simp only [List.map_cons, List.forIn_cons]
  refine wpAny_bind (wpAny_bind (wpAny_holding ?_))
  show wpAny _ _ (Builtin.SmallTypes.nextOf (.ref r.it) >>= _) _ _ ⟨g0, g, d, tk0, os⟩
  have st0 : r.St r.items.size g0 := by rw [← hi]; exact St_over hst hs0 (S.zr r (by simp))
  refine wpAny_bind ((src_draws (prog := prog) (w := w) hh true r.it r.a (S.ne r (by simp)) r.items).done ⟨g0, g, d, tk0, os⟩ _ _ st0 fun q e hq he => ?_)
  replace hq : Heap.ExtBut r.it g0 q := hq
  obtain ⟨oe, hoe, hce⟩ := he
  exact hE q tk0 e (fun c o cz cr x => hq _ _ (cr r (by simp)) (hs0.extBut _ _ cz x)) ⟨oe, hoe, hce⟩
/-! ### the same by pyNext -/
theorem pyNext_zipN_item (hh : A.in1.handled = none) {z TI TO : Addr} {i : Nat} {rs : List Sr} {arr : Array Value} {Q : Option Value → Shared → Prop} (S : ZSep z TI TO rs) (h0 : rs ≠ [])
    (hz : IsZip s.heap z TI TO .none) (hTI : TupAt s.heap TI (rs.map fun r => Value.ref r.it).toArray) (hTO : TupAt s.heap TO arr) (hsz : arr.size = rs.length) (h100 : rs.length ≤ 100)
    (hst : ∀ r ∈ rs, r.St i s.heap) (hlt : ∀ r ∈ rs, i < r.items.size)
    (hQ : ∀ h' tk, IsZip h' z TI TO (rawInt s.heap.objs.size) → TupAt h' TO (valsAt rs i).toArray → (∀ r ∈ rs, r.St (i + 1) h') → TupAt h' s.heap.objs.size (valsAt rs i).toArray → h'.objs.size = s.heap.objs.size + 1 →
      (∀ c o, c ≠ z → c ≠ TO → (∀ r ∈ rs, c ≠ r.it) → s.heap.get? c = some o → h'.get? c = some o) → Q (some (.ref s.heap.objs.size)) { s with heap := h', toks := tk }) :
    wpAny (model prog w) A (pyNext (.ref z)) Q E s := by
  have hT : s.TypeIs (.ref z) "zip" := ⟨_, hz, rfl⟩
  unfold pyNext
  exact wpAny_bind (wpAny_attempt (wpAny_callSpecial?_slot (name := Str.ofString "__next__") hT F.slot_zip_next
    (wpAny_call_entry F.slot_zip_next hT F.entry_zip_next
      (zipN_next_item hh S h0 hz hTI hTO hsz h100 hst hlt fun h' tk b1 b2 b3 b4 b5 b6 => wpAny_pure (hQ h' tk b1 b2 b3 b4 b5 b6)) (F.args_zip_next_1 _))))
theorem pyNext_zipN_held (hh : A.in1.handled = none) {z TI TO T : Addr} {i : Nat} {rs : List Sr} {Q : Option Value → Shared → Prop} {f1 : Value} {o1 : Obj} (S : ZSep z TI TO rs) (h0 : rs ≠ [])
    (hz : ZipHeld s.heap z TI TO T f1) (hf : f1 = .bool false ∨ f1 = .bool true) (hT : s.heap.get? T = some o1)
    (hTI : TupAt s.heap TI (rs.map fun r => Value.ref r.it).toArray) (h100 : rs.length ≤ 100)
    (hst : ∀ r ∈ rs, r.St i s.heap) (hlt : ∀ r ∈ rs, i < r.items.size)
    (hQ : ∀ h' tk, ZipHeld h' z TI TO T (.bool true) → (∀ r ∈ rs, r.St (i + 1) h') → TupAt h' s.heap.objs.size (valsAt rs i).toArray → h'.objs.size = s.heap.objs.size + 1 →
      (∀ c o, c ≠ z → (∀ r ∈ rs, c ≠ r.it) → s.heap.get? c = some o → h'.get? c = some o) → Q (some (.ref s.heap.objs.size)) { s with heap := h', toks := tk }) :
    wpAny (model prog w) A (pyNext (.ref z)) Q E s := by
  have hTy : s.TypeIs (.ref z) "zip" := ⟨_, hz, rfl⟩
  unfold pyNext
  exact wpAny_bind (wpAny_attempt (wpAny_callSpecial?_slot (name := Str.ofString "__next__") hTy F.slot_zip_next
    (wpAny_call_entry F.slot_zip_next hTy F.entry_zip_next
      (zipN_next_held hh S h0 hz hf hT hTI h100 hst hlt fun h' tk b1 b3 b4 b5 b6 => wpAny_pure (hQ h' tk b1 b3 b4 b5 b6)) (F.args_zip_next_1 _))))
theorem pyNext_zipN_end (hh : A.in1.handled = none) {z TI TO T : Addr} {i : Nat} {r : Sr} {rs : List Sr} {Q : Option Value → Shared → Prop} {f1 : Value} {o1 : Obj} (S : ZSep z TI TO (r :: rs))
    (hz : ZipHeld s.heap z TI TO T f1) (hf : f1 = .bool false ∨ f1 = .bool true) (hT : s.heap.get? T = some o1) (hTI : TupAt s.heap TI ((r :: rs).map fun r => Value.ref r.it).toArray) (hst : r.St i s.heap) (hi : i = r.items.size)
    (hQ : ∀ h' tk, (∀ c o, c ≠ z → (∀ x ∈ r :: rs, c ≠ x.it) → s.heap.get? c = some o → h'.get? c = some o) → Q none { s with heap := h', toks := tk }) :
    wpAny (model prog w) A (pyNext (.ref z)) Q E s := by
  have hTy : s.TypeIs (.ref z) "zip" := ⟨_, hz, rfl⟩
  unfold pyNext
  refine wpAny_bind (wpAny_attempt (wpAny_callSpecial?_slot (name := Str.ofString "__next__") hTy F.slot_zip_next
    (wpAny_call_entry F.slot_zip_next hTy F.entry_zip_next (zipN_end_held hh S hz hf hT hTI hst hi fun h' tk e hk he => ?_) (F.args_zip_next_1 _))))
  obtain ⟨o, ho, hc⟩ := he
  refine wpAny_bind (wpAny_isInstance (T := "StopIteration") (b := true) ⟨o, ho, hc⟩ isSubtype_stop ?_)
  exact wpAny_pure (hQ _ _ hk)
end
end DL

namespace DL
open PySem L2 PyProof.Rows
/-- what a list of a zip's tuples holds behind i turns -/
structure ZAcc (h : Heap) (N : Nat) (rs : List Sr) (i : Nat) (acc : Array Value) : Prop where
  size : acc.size = i
  at_ : ∀ j, j < i → ∃ T, acc[j]? = some (.ref T) ∧ N + j = T ∧ TupAt h T (valsAt rs j).toArray
  top : h.objs.size = N + i
structure ZRes (h : Heap) (N : Nat) (rs : List Sr) (i : Nat) (acc : Array Value) : Prop where
  size : acc.size = i
  at_ : ∀ j, j < i → ∃ T, acc[j]? = some (.ref T) ∧ N + j = T ∧ TupAt h T (valsAt rs j).toArray
theorem ZAcc.next {h h' : Heap} {N : Nat} {rs : List Sr} {i : Nat} {acc : Array Value} (a : ZAcc h N rs i acc) (hk : ∀ c o, N ≤ c → h.get? c = some o → h'.get? c = some o) (hT : TupAt h' h.objs.size (valsAt rs i).toArray) (hs : h'.objs.size = h.objs.size + 1) : ZAcc h' N rs (i + 1) (acc.push (.ref h.objs.size)) := by
  refine ⟨by rw [Array.size_push, a.size], fun j hj => ?_, by rw [hs, a.top]; omega⟩
  by_cases e : j < i
  · obtain ⟨T, e1, e2, e3⟩ := a.at_ j e
    refine ⟨T, ?_, e2, hk _ _ (by omega) e3⟩
    rw [Array.getElem?_push, if_neg (by rw [a.size]; omega)]
    exact e1
  · obtain rfl : j = i := by omega
    refine ⟨h.objs.size, ?_, a.top.symm, hT⟩
    rw [Array.getElem?_push, if_pos a.size.symm]
section
variable {prog : Program} {w : World} {A : Around}
structure ZLow (N z TI TO L : Addr) (rs : List Sr) : Prop where
  zN : z < N
  IN : TI < N
  ON : TO < N
  LN : L < N
  itN : ∀ r ∈ rs, r.it < N
  Lz : L ≠ z
  LI : L ≠ TI
  LO : L ≠ TO
  Lr : ∀ r ∈ rs, L ∉ [r.it, r.a]
theorem extend_zipN (hh : A.in1.in1.handled = none) {N z TI TO L : Addr} {n : Nat} {r : Sr} {rs : List Sr} {res : Value} {R : Result → Shared → Prop} (S : ZSep z TI TO (r :: rs)) (W : ZLow N z TI TO L (r :: rs)) (h100 : (r :: rs).length ≤ 100) (hn : ∀ x ∈ r :: rs, x.items.size = n) (hn1 : n ≤ 1000) (H0 : Heap) :
    ∀ (k i : Nat) (s : Shared) (acc : Array Value) (c : Nat) (f1 : Value), n - i = k → i ≤ n → 0 < i → ZipHeld s.heap z TI TO N f1 → (f1 = .bool false ∨ f1 = .bool true) → TupAt s.heap TI ((r :: rs).map fun r => Value.ref r.it).toArray → (∀ x ∈ r :: rs, x.St i s.heap) → ZAcc s.heap N (r :: rs) i acc →
      s.heap.get? L = some { cls := .type "list", dict := none, data := .seq acc c, slots := #[] } → (∀ b o, b < N → b ≠ z → b ≠ TO → b ≠ L → (∀ x ∈ r :: rs, b ≠ x.it) → H0.get? b = some o → s.heap.get? b = some o) →
      (∀ h' tk acc' c', h'.get? L = some { cls := .type "list", dict := none, data := .seq acc' c', slots := #[] } → ZRes h' N (r :: rs) n acc' → (∀ b o, b < N → b ≠ z → b ≠ TO → b ≠ L → (∀ x ∈ r :: rs, b ≠ x.it) → H0.get? b = some o → h'.get? b = some o) → R (.ok (.ret res)) { s with heap := h', toks := tk }) →
      codeAny (model prog w) A (.builtin "list.extend.loop" ⟨[.ref L, .ref z, res], []⟩) R s := by
  intro k
  have sl : (1000 : Nat) ≤ sizeLine := by decide
  induction k with
  | zero =>
    intro i s acc c f1 hk hi h0 hz hf hTI hst hacc hL hH hR
    obtain rfl : i = n := by omega
    obtain ⟨T, _, eT, hT⟩ := hacc.at_ 0 h0
    obtain rfl : N = T := by simpa using eT
    refine codeAny_builtin F.entry_extend_loop ?_
    rw [Around.under_plainId F.plain_extend_loop _]
    show wpAny _ A.in1 (pyNext (.ref z) >>= _) _ _ s
    refine wpAny_bind (pyNext_zipN_end hh S hz hf hT hTI (hst r (by simp)) (hn r (by simp)).symm fun h' tk hk' => ?_)
    refine wpAny_pure (hR h' tk acc c (hk' L _ W.Lz (fun x hx e => W.Lr x hx (by simp [e])) hL) ⟨hacc.size, fun j hj => ?_⟩ fun b o h1 h2 h3 h4 h5 h6 => hk' b o h2 h5 (hH b o h1 h2 h3 h4 h5 h6))
    obtain ⟨T, e1, e2, e3⟩ := hacc.at_ j hj
    have hNT : N ≤ T := by rw [← e2]; exact Nat.le_add_right _ _
    exact ⟨T, e1, e2, hk' _ _ (fun e => Nat.not_lt.mpr hNT (e ▸ W.zN)) (fun x hx e => Nat.not_lt.mpr hNT (e ▸ W.itN x hx)) e3⟩
  | succ k ih =>
    intro i s acc c f1 hk hi h0 hz hf hTI hst hacc hL hH hR
    have hlt : i < n := by omega
    obtain ⟨T, _, eT, hT⟩ := hacc.at_ 0 h0
    obtain rfl : N = T := by simpa using eT
    refine codeAny_builtin F.entry_extend_loop ?_
    rw [Around.under_plainId F.plain_extend_loop _]
    show wpAny _ A.in1 (pyNext (.ref z) >>= _) _ _ s
    refine wpAny_bind (pyNext_zipN_held hh S (by simp) hz hf hT hTI h100 hst (fun x hx => by rw [hn x hx]; exact hlt) fun h' tk b1 b2 b3 b4 b5 => ?_)
    have hL' : h'.get? L = some { cls := .type "list", dict := none, data := .seq acc c, slots := #[] } := b5 L _ W.Lz (fun x hx e => W.Lr x hx (by simp [e])) hL
    show wpAny _ A.in1 (updateSeq L (·.push (.ref s.heap.objs.size)) >>= _) _ _ _
    refine wpAny_bind ?_
    have up : ∀ (b : Addr) (o : Obj), b ≠ L → h'.get? b = some o → (h'.update L (Obj.mapSeq (·.push (.ref s.heap.objs.size)))).get? b = some o := fun b o e1 e2 => (Heap.get?_update_other _ _ (Ne.symm e1)).trans e2
    have hN : ∀ b : Addr, N ≤ b → b ≠ L ∧ b ≠ z ∧ b ≠ TO ∧ ∀ x ∈ r :: rs, b ≠ x.it := fun b hb => ⟨fun e => Nat.not_lt.mpr hb (e ▸ W.LN), fun e => Nat.not_lt.mpr hb (e ▸ W.zN), fun e => Nat.not_lt.mpr hb (e ▸ W.ON), fun x hx e => Nat.not_lt.mpr hb (e ▸ W.itN x hx)⟩
    refine wpAny_updateSeq (s := ⟨h', s.gens, s.drawn, tk, s.os⟩) hL' rfl (hz := by rw [hacc.size]; omega) (_hz' := by rw [Array.size_push, hacc.size]; omega) (wpAny_pure ⟨plainId_quiet F.plain_extend_loop _, ?_⟩)
    refine ih (i + 1) _ (acc.push (.ref s.heap.objs.size)) _ (.bool true) (by omega) hlt (by omega) (up _ _ (Ne.symm W.Lz) b1) (.inr rfl) (up _ _ (Ne.symm W.LI) (b5 _ _ (Ne.symm S.zTI) (fun x hx => S.Ir x hx) hTI)) (fun x hx => ?_) ?_ (Heap.get?_update_self _ hL' rfl) (fun b o h1 h2 h3 h4 h5 h6 => up _ _ h4 (b5 _ _ h2 h5 (hH b o h1 h2 h3 h4 h5 h6))) ?_
    · obtain ⟨q1, q2⟩ := b2 x hx
      refine ⟨srcIt_at q1 fun o e => up _ _ (fun e' => W.Lr x hx (by simp [e'])) e, ?_⟩
      exact Heap.IsTuple.at (show h'.IsTuple x.a x.items from q2) fun o e => up _ _ (fun e' => W.Lr x hx (by simp [e'])) e
    · refine hacc.next (fun b o hb e => up _ _ (hN b hb).1 (b5 _ _ (hN b hb).2.1 (hN b hb).2.2.2 e)) (up _ _ (hN _ (by rw [hacc.top]; exact Nat.le_add_right _ _)).1 b3) ?_
      rw [Heap.size_update]
      exact b4
    · exact hR
end
end DL

namespace DL
open PySem L2 PyProof.Rows
section
variable {prog : Program} {w : World} {A : Around}
/-- the first turn, and the others -/
theorem extend_zipN0 (hh : A.in1.in1.handled = none) {z TI TO L : Addr} {n : Nat} {r : Sr} {rs : List Sr} {res : Value} {R : Result → Shared → Prop} {s : Shared} {arr : Array Value} {c : Nat} (S : ZSep z TI TO (r :: rs)) (W : ZLow s.heap.objs.size z TI TO L (r :: rs)) (h100 : (r :: rs).length ≤ 100) (hn : ∀ x ∈ r :: rs, x.items.size = n) (hn0 : 0 < n) (hn1 : n ≤ 1000)
    (hz : IsZip s.heap z TI TO .none) (hTI : TupAt s.heap TI ((r :: rs).map fun r => Value.ref r.it).toArray) (hTO : TupAt s.heap TO arr) (hsz : arr.size = (r :: rs).length) (hst : ∀ x ∈ r :: rs, x.St 0 s.heap)
    (hL : s.heap.get? L = some { cls := .type "list", dict := none, data := .seq #[] c, slots := #[] })
    (hR : ∀ h' tk acc' c', h'.get? L = some { cls := .type "list", dict := none, data := .seq acc' c', slots := #[] } → ZRes h' s.heap.objs.size (r :: rs) n acc' → (∀ b o, b < s.heap.objs.size → b ≠ z → b ≠ TO → b ≠ L → (∀ x ∈ r :: rs, b ≠ x.it) → s.heap.get? b = some o → h'.get? b = some o) → R (.ok (.ret res)) { s with heap := h', toks := tk }) :
    codeAny (model prog w) A (.builtin "list.extend.loop" ⟨[.ref L, .ref z, res], []⟩) R s := by
  have sl : (1000 : Nat) ≤ sizeLine := by decide
  refine codeAny_builtin F.entry_extend_loop ?_
  rw [Around.under_plainId F.plain_extend_loop _]
  show wpAny _ A.in1 (pyNext (.ref z) >>= _) _ _ s
  refine wpAny_bind (pyNext_zipN_item hh S (by simp) hz hTI hTO hsz h100 hst (fun x hx => by rw [hn x hx]; exact hn0) fun h' tk b1 b2 b3 b4 b5 b6 => ?_)
  have hL' : h'.get? L = some { cls := .type "list", dict := none, data := .seq #[] c, slots := #[] } := b6 L _ W.Lz W.LO (fun x hx e => W.Lr x hx (by simp [e])) hL
  show wpAny _ A.in1 (updateSeq L (·.push (.ref s.heap.objs.size)) >>= _) _ _ _
  refine wpAny_bind ?_
  have up : ∀ (b : Addr) (o : Obj), b ≠ L → h'.get? b = some o → (h'.update L (Obj.mapSeq (·.push (.ref s.heap.objs.size)))).get? b = some o := fun b o e1 e2 => (Heap.get?_update_other _ _ (Ne.symm e1)).trans e2
  have hNL : s.heap.objs.size ≠ L := fun e => Nat.lt_irrefl _ (e ▸ W.LN)
  refine wpAny_updateSeq (s := ⟨h', s.gens, s.drawn, tk, s.os⟩) hL' rfl (hz := by simp) (_hz' := by simp) (wpAny_pure ⟨plainId_quiet F.plain_extend_loop _, ?_⟩)
  refine extend_zipN hh S W h100 hn hn1 s.heap (n - 1) 1 _ (#[].push (.ref s.heap.objs.size)) _ (.bool false) rfl hn0 (by omega) (up _ _ (Ne.symm W.Lz) b1) (.inl rfl) (up _ _ (Ne.symm W.LI) (b6 _ _ (Ne.symm S.zTI) S.TITO (fun x hx => S.Ir x hx) hTI)) (fun x hx => ?_) ?_ (Heap.get?_update_self _ hL' rfl) (fun b o h1 h2 h3 h4 h5 h6 => up _ _ h4 (b6 _ _ h2 h3 h5 h6)) hR
  · obtain ⟨q1, q2⟩ := b3 x hx
    refine ⟨srcIt_at q1 fun o e => up _ _ (fun e' => W.Lr x hx (by simp [e'])) e, ?_⟩
    exact Heap.IsTuple.at (show h'.IsTuple x.a x.items from q2) fun o e => up _ _ (fun e' => W.Lr x hx (by simp [e'])) e
  · refine ⟨rfl, fun j hj => ?_, by rw [Heap.size_update]; exact b5⟩
    obtain rfl : j = 0 := by omega
    exact ⟨_, rfl, rfl, up _ _ hNL b4⟩
end
end DL

namespace DL
open PySem L2 PyProof.Rows
theorem zip_no_len : typeLookup (.type "zip") "__len__" = pure none := by rw [typeLookup_type, builtinLookup_eq_fast]; kernel_rfl
theorem zip_no_hint : typeLookup (.type "zip") "__length_hint__" = pure none := by rw [typeLookup_type, builtinLookup_eq_fast]; kernel_rfl
section
variable {prog : Program} {w : World} {A : Around} {E : Value → Shared → Prop}
/-- the sources, the zip and its tuples, all below N -/
structure ZFresh (h : Heap) (z TI TO : Addr) (rs : List Sr) : Prop where
  z : IsZip h z TI TO .none
  ti : TupAt h TI (rs.map fun r => Value.ref r.it).toArray
  to : ∃ arr, TupAt h TO arr ∧ arr.size = rs.length
  st : ∀ x ∈ rs, x.St 0 h
theorem ZFresh.up {h h' : Heap} {z TI TO : Addr} {rs : List Sr} (x : ZFresh h z TI TO rs) (k : ∀ b o, (b = z ∨ b = TI ∨ b = TO ∨ ∃ r ∈ rs, b = r.it ∨ b = r.a) → h.get? b = some o → h'.get? b = some o) : ZFresh h' z TI TO rs := by
  obtain ⟨arr, e1, e2⟩ := x.to
  refine ⟨k _ _ (.inl rfl) x.z, k _ _ (.inr (.inl rfl)) x.ti, ⟨arr, k _ _ (.inr (.inr (.inl rfl))) e1, e2⟩, fun r hr => ?_⟩
  obtain ⟨q1, q2⟩ := x.st r hr
  refine ⟨srcIt_at q1 fun o e => k _ _ (.inr (.inr (.inr ⟨r, hr, .inl rfl⟩))) e, ?_⟩
  exact Heap.IsTuple.at (show h.IsTuple r.a r.items from q2) fun o e => k _ _ (.inr (.inr (.inr ⟨r, hr, .inr rfl⟩))) e
theorem extendWith_zipN (hh : A.in1.in1.handled = none) {z TI TO L : Addr} {n : Nat} {r : Sr} {rs : List Sr} {res : Value} {R : Result → Shared → Prop} {s : Shared} {c : Nat} (S : ZSep z TI TO (r :: rs)) (W : ZLow s.heap.objs.size z TI TO L (r :: rs)) (h100 : (r :: rs).length ≤ 100) (hn : ∀ x ∈ r :: rs, x.items.size = n) (hn0 : 0 < n) (hn1 : n ≤ 1000)
    (F : ZFresh s.heap z TI TO (r :: rs))
    (hL : s.heap.get? L = some { cls := .type "list", dict := none, data := .seq #[] c, slots := #[] })
    (hR : ∀ h' tk acc' c', h'.get? L = some { cls := .type "list", dict := none, data := .seq acc' c', slots := #[] } → ZRes h' s.heap.objs.size (r :: rs) n acc' → (∀ b o, b < s.heap.objs.size → b ≠ z → b ≠ TO → b ≠ L → (∀ x ∈ r :: rs, b ≠ x.it) → s.heap.get? b = some o → h'.get? b = some o) → R (.ok (.ret res)) { s with heap := h', toks := tk }) :
    wpAny (model prog w) A.in1 (Builtin.List.listExtendWith (.ref L) (.ref z) res)
      (fun fin s' => match fin with | .done f => R (.ok f) s' | .again c' => c'.quiet = true ∧ codeAny (model prog w) A c' R s') (fun e s' => R (.error e) s') s := by
  have hTy : s.TypeIs (.ref z) "zip" := ⟨_, F.z, rfl⟩
  unfold Builtin.List.listExtendWith
  refine wpAny_bind (wpAny_typeOf hTy ?_)
  have h1 : Builtin.List.listSameRef (.ref L) (.ref z) = false := by simp [Builtin.List.listSameRef, W.Lz]
  have h2 : (Value.type "zip" == Value.type "list") = false := by decide
  have h3 : (Value.type "zip" == Value.type "tuple") = false := by decide
  simp only [h1, h2, h3, Bool.or_false, Bool.false_eq_true, if_false]
  refine wpAny_bind (wpAny_pyIter_zip F.z ?_)
  refine wpAny_bind (wpAny_holding ?_)
  unfold Builtin.List.listLengthHint
  refine wpAny_bind (wpAny_specialOf hTy zip_no_len ?_)
  show wpAny _ A.in1 (specialOf (Value.ref z) (Str.ofString "__length_hint__") >>= _) _ _ _
  refine wpAny_bind (wpAny_specialOf hTy zip_no_hint ?_)
  refine wpAny_pure ?_
  show wpAny _ A.in1 (rule "list.extend.makes-room" >>= fun _ => Builtin.List.listTouch (.ref L) >>= fun _ =>
    again (.builtin "list.extend.loop" ⟨[.ref L, .ref z, res], []⟩)) _ _ _
  refine wpAny_bind (wpAny_rule ?_)
  refine wpAny_bind ?_
  show wpAny _ A.in1 (updateSeq L (·.push .none) >>= fun _ => updateSeq L (·.pop)) _ _ _
  refine wpAny_bind (wpAny_updateSeq hL rfl ?_)
  have hL2 := Heap.get?_update_self (Obj.mapSeq (·.push Value.none)) hL rfl
  refine wpAny_updateSeq (hz := by seq_fits) hL2 rfl ?_
  have hL3 := Heap.get?_update_self (Obj.mapSeq (·.pop)) hL2 rfl
  have oth : ∀ b o, b ≠ L → s.heap.get? b = some o → ((s.heap.update L (Obj.mapSeq (·.push Value.none))).update L (Obj.mapSeq (·.pop))).get? b = some o :=
    fun b o hb e => (Heap.get?_update_other _ _ (Ne.symm hb)).trans ((Heap.get?_update_other _ _ (Ne.symm hb)).trans e)
  have hs : ((s.heap.update L (Obj.mapSeq (·.push Value.none))).update L (Obj.mapSeq (·.pop))).objs.size = s.heap.objs.size := by rw [Heap.size_update, Heap.size_update]
  have F3 := F.up (h' := (s.heap.update L (Obj.mapSeq (·.push Value.none))).update L (Obj.mapSeq (·.pop))) fun b o hb e => oth b o (by
    rcases hb with rfl | rfl | rfl | ⟨x, hx, rfl | rfl⟩
    · exact Ne.symm W.Lz
    · exact Ne.symm W.LI
    · exact Ne.symm W.LO
    · exact fun e => W.Lr x hx (by simp [e])
    · exact fun e => W.Lr x hx (by simp [e])) e
  obtain ⟨arr, ea, esz⟩ := F3.to
  refine wpAny_pure ⟨plainId_quiet PySem.F.plain_extend_loop _, extend_zipN0 hh S (s := { s with heap := _ }) (by show ZLow (_ : Heap).objs.size _ _ _ _ _; rw [hs]; exact W) h100 hn hn0 hn1 F3.z F3.ti ea esz F3.st hL3 fun h' tk acc' c' e1 e2 e3 => ?_⟩
  refine hR h' tk acc' c' e1 (by rw [← hs]; exact e2) fun b o q1 q2 q3 q4 q5 q6 => e3 b o (by rw [hs]; exact q1) q2 q3 q4 q5 (oth _ _ q4 q6)
end
end DL

namespace DL
open PySem L2 PyProof.Rows
section
variable {prog : Program} {w : World} {A : Around} {E : Value → Shared → Prop}
theorem call_list_zipN {Q : Value → Shared → Prop} (hh : A.in1.in1.in1.handled = none) {z TI TO : Addr} {n : Nat} {r : Sr} {rs : List Sr} {s : Shared} (S : ZSep z TI TO (r :: rs)) (h100 : (r :: rs).length ≤ 100) (hn : ∀ x ∈ r :: rs, x.items.size = n) (hn0 : 0 < n) (hn1 : n ≤ 1000)
    (hI : TI < s.heap.objs.size) (ha : ∀ x ∈ r :: rs, x.a < s.heap.objs.size) (hi : ∀ x ∈ r :: rs, x.it < s.heap.objs.size) (hz : z < s.heap.objs.size) (hO : TO < s.heap.objs.size)
    (Z : ZFresh s.heap z TI TO (r :: rs))
    (hQ : ∀ h' tk acc' c', h'.get? s.heap.objs.size = some { cls := .type "list", dict := none, data := .seq acc' c', slots := #[] } → ZRes h' (s.heap.objs.size + 1) (r :: rs) n acc' → (∀ b o, b < s.heap.objs.size → b ≠ z → b ≠ TO → (∀ x ∈ r :: rs, b ≠ x.it) → s.heap.get? b = some o → h'.get? b = some o) → Q (.ref s.heap.objs.size) { s with heap := h', toks := tk }) :
    wpAny (model prog w) A (call (.type "list") [.ref z]) Q E s := by
  refine callType_codes (Q₁ := fun obj s₁ => obj = .ref s.heap.objs.size ∧ s₁ = { s with heap := s.heap.push { cls := .type "list", data := .seq #[] } }) PySem.F.called_list (PySem.F.typeCall_list_1 _) PySem.F.entry_list_init
    (code_list_new _ ⟨rfl, rfl⟩) fun obj s₁ h₁ => ?_
  obtain ⟨rfl, rfl⟩ := h₁
  have hS : (s.heap.push { cls := .type "list", data := .seq #[] }).get? s.heap.objs.size = some { cls := .type "list", data := .seq #[] } := Heap.get?_push_size _ rfl
  refine ⟨⟨_, hS, rfl⟩, PySem.F.args_list_init_2 _ _, ?_⟩
  show wpAny _ A.in1.in1 (do let old ← Builtin.List.listItems (.ref s.heap.objs.size); Builtin.List.listUpdate (.ref s.heap.objs.size) (fun _ => #[]); letGo old.toList.reverse; Builtin.List.listExtendWith (.ref s.heap.objs.size) (.ref z) .none) _ _ _
  refine wpAny_bind ?_
  unfold Builtin.List.listItems
  refine wpAny_bind (wpAny_seqItems hS rfl (wpAny_pure ?_))
  show wpAny _ A.in1.in1 (updateSeq s.heap.objs.size (fun _ => #[]) >>= fun _ => letGo (#[] : Array Value).toList.reverse >>= fun _ => Builtin.List.listExtendWith (.ref s.heap.objs.size) (.ref z) .none) _ _ _
  refine wpAny_bind (wpAny_updateSeq hS rfl ?_)
  have hS2 := Heap.get?_update_self (Obj.mapSeq (fun _ => (#[] : Array Value))) hS rfl
  have oth : ∀ b o, s.heap.get? b = some o → ((s.heap.push { cls := .type "list", data := .seq #[] }).update s.heap.objs.size (Obj.mapSeq (fun _ => (#[] : Array Value)))).get? b = some o := fun b o e =>
    (Heap.get?_update_other _ _ (Nat.ne_of_gt (Heap.lt_size e))).trans (Heap.get?_push_of_some _ e)
  refine wpAny_bind (wpAny_letGo ?_)
  have hs : ((s.heap.push { cls := .type "list", data := .seq #[] }).update s.heap.objs.size (Obj.mapSeq (fun _ => (#[] : Array Value)))).objs.size = s.heap.objs.size + 1 := by rw [Heap.size_update, Heap.size_push]
  have W : ZLow (s.heap.objs.size + 1) z TI TO s.heap.objs.size (r :: rs) := ⟨Nat.lt_succ_of_lt hz, Nat.lt_succ_of_lt hI, Nat.lt_succ_of_lt hO, Nat.lt_succ_self _, fun x hx => Nat.lt_succ_of_lt (hi x hx), Nat.ne_of_gt hz, Nat.ne_of_gt hI, Nat.ne_of_gt hO, fun x hx q => by
    have a1 := hi x hx
    have a2 := ha x hx
    simp only [List.mem_cons, List.not_mem_nil, or_false] at q
    rcases q with q | q
    · exact Nat.ne_of_gt a1 q
    · exact Nat.ne_of_gt a2 q⟩
  refine extendWith_zipN hh S (s := { s with heap := _ }) (by show ZLow (_ : Heap).objs.size _ _ _ _ _; rw [hs]; exact W) h100 hn hn0 hn1 (Z.up fun b o _ e => oth b o e) hS2 fun h' tk acc' c' e1 e2 e3 => ?_
  refine ⟨rfl, hQ h' tk acc' c' e1 (by rw [← hs]; exact e2) fun b o q1 q2 q3 q5 q6 => e3 b o (by rw [hs]; exact Nat.lt_succ_of_lt q1) q2 q3 (Nat.ne_of_lt q1) q5 (oth _ _ q6)⟩
end
end DL

namespace DL
open PySem L2 PyProof.Rows
def refsFrom : Nat → Nat → List Value
  | _, 0 => []
  | N, k + 1 => .ref N :: refsFrom (N + 1) k
theorem refsFrom_len : ∀ {k N : Nat}, (refsFrom N k).length = k
  | 0, _ => rfl
  | k + 1, N => by rw [refsFrom, List.length_cons, refsFrom_len]
def pushIts : Heap → List Addr → Heap
  | h, [] => h
  | h, a :: as => pushIts (h.push (srcO true a)) as
theorem pushIts_size : ∀ {as : List Addr} {h : Heap}, (pushIts h as).objs.size = h.objs.size + as.length
  | [], h => rfl
  | a :: as, h => by
    unfold pushIts
    rw [pushIts_size, Heap.size_push, List.length_cons]
    omega
theorem pushIts_keep : ∀ {as : List Addr} {h : Heap} {b : Addr} {o : Obj}, h.get? b = some o → (pushIts h as).get? b = some o
  | [], h, b, o, e => e
  | a :: as, h, b, o, e => by
    unfold pushIts
    exact pushIts_keep (Heap.get?_push_of_some _ e)
theorem pushIts_at : ∀ {as : List Addr} {h : Heap} {j : Nat} {a : Addr}, as[j]? = some a → (pushIts h as).get? (h.objs.size + j) = some (srcO true a)
  | [], h, j, a, e => by cases e
  | x :: as, h, 0, a, e => by
    cases e
    unfold pushIts
    exact pushIts_keep (Heap.get?_push_size _ rfl)
  | x :: as, h, j + 1, a, e => by
    unfold pushIts
    have := pushIts_at (as := as) (h := h.push (srcO true x)) (j := j) (by simpa using e)
    rw [Heap.size_push] at this
    rw [show h.objs.size + (j + 1) = h.objs.size + 1 + j by omega]
    exact this
section
variable {prog : Program} {w : World} {A : Around} {E : Value → Shared → Prop}
theorem iterAll_loop {f : Value → Array Value → Sem (ForInStep (Array Value))} (step : ∀ (a : Addr) (items : Array Value) (acc : Array Value) (s : Shared) (Q' : ForInStep (Array Value) → Shared → Prop), s.heap.IsTuple a items → Q' (.yield (acc.push (.ref s.heap.objs.size))) { s with heap := s.heap.push (srcO true a) } → wpAny (model prog w) A (f (.ref a) acc) Q' E s) :
    ∀ (as : List Addr) (acc : Array Value) (s : Shared) (Q : Array Value → Shared → Prop), (∀ a ∈ as, ∃ items, s.heap.IsTuple a items) → Q (acc ++ (refsFrom s.heap.objs.size as.length).toArray) { s with heap := pushIts s.heap as } → wpAny (model prog w) A (forIn (as.map Value.ref) acc f) Q E s
  | [], acc, s, Q, h, q => by
    simp only [List.map_nil, List.forIn_nil]
    refine wpAny_pure ?_
    simpa [refsFrom, pushIts] using q
  | a :: as, acc, s, Q, h, q => by
    simp only [List.map_cons, List.forIn_cons]
    obtain ⟨items, hi⟩ := h a (by simp)
    refine wpAny_bind (step a items acc s _ hi ?_)
    refine iterAll_loop step as _ _ Q (fun b hb => ?_) ?_
    · obtain ⟨it2, h2⟩ := h b (List.mem_cons_of_mem _ hb)
      exact ⟨it2, h2.at fun o e => Heap.get?_push_of_some _ e⟩
    · have e : acc.push (.ref s.heap.objs.size) ++ (refsFrom (s.heap.push (srcO true a)).objs.size as.length).toArray = acc ++ (refsFrom s.heap.objs.size (a :: as).length).toArray := by
        rw [Heap.size_push, List.length_cons, refsFrom]
        simp
      show Q (acc.push (.ref s.heap.objs.size) ++ (refsFrom (s.heap.push (srcO true a)).objs.size as.length).toArray) { s with heap := pushIts (s.heap.push (srcO true a)) as }
      rw [e]
      exact q
theorem iterAll_tuples {as : List Addr} {s : Shared} {Q : List Value → Shared → Prop} (h : ∀ a ∈ as, ∃ items, s.heap.IsTuple a items) (q : Q (refsFrom s.heap.objs.size as.length) { s with heap := pushIts s.heap as }) : wpAny (model prog w) A (Builtin.SmallTypes.iterAll (as.map Value.ref)) Q E s := by
  unfold Builtin.SmallTypes.iterAll
  refine wpAny_bind ?_
  refine iterAll_loop ?_ as #[] s _ h ?_
  · intro a items acc s Q' hi q'
    refine wpAny_bind (wpAny_holding ?_)
    exact (src_begins true a items).iter prog w A E s _ hi (wpAny_pure q')
  · refine wpAny_pure ?_
    simpa using q
def zipHp (h : Heap) (as : List Addr) : Heap := (((pushIts h as).push { cls := .type "tuple", data := .seq (refsFrom h.objs.size as.length).toArray }).push { cls := .type "tuple", data := .seq ((refsFrom h.objs.size as.length).map fun _ => Value.none).toArray }).push { cls := .type "zip", data := .fields #[.none, .bool false, .bool false, .ref (h.objs.size + as.length), .ref (h.objs.size + as.length + 1)] }
theorem zip_new_n {as : List Addr} (h6 : as.length ≤ 6) : Meets (Builtin.«zip.__new__» ⟨.type "zip" :: as.map Value.ref, []⟩) (fun _ R s => (∀ a ∈ as, ∃ items, s.heap.IsTuple a items) ∧ R (.ok (.ret (.ref (s.heap.objs.size + as.length + 2)))) { s with heap := zipHp s.heap as }) :=
  .of_wp fun prog w A R s hh => by
    obtain ⟨hp, g, d, tk, os⟩ := s; obtain ⟨ht, h⟩ := hh
    have hsub := sub_zip
    have sl : (6 : Nat) ≤ sizeLine := by decide
    wp_walk using iterAll_tuples ht
    rw [if_neg (by rw [List.size_toArray, refsFrom_len]; omega)]
    wp_walk
    rw [if_neg (by rw [List.size_toArray, List.length_map, refsFrom_len]; omega)]
    wp_walk
    have z1 : (pushIts hp as).objs.size = hp.objs.size + as.length := pushIts_size
    refine ⟨_, rfl, ?_⟩
    show R (.ok (.ret (.ref (Heap.push (Heap.push (pushIts hp as) _) _).objs.size))) { heap := Heap.push (Heap.push (Heap.push (pushIts hp as) _) _) { cls := .type "zip", data := .fields #[.none, .bool false, .bool false, .ref (pushIts hp as).objs.size, .ref (Heap.push (pushIts hp as) _).objs.size] }, gens := g, drawn := d, toks := tk, os := os }
    rw [Heap.size_push, Heap.size_push, z1]
    exact h
theorem zipHp_z {h : Heap} {as : List Addr} : IsZip (zipHp h as) (h.objs.size + as.length + 2) (h.objs.size + as.length) (h.objs.size + as.length + 1) .none := by
  unfold zipHp
  have z1 : (pushIts h as).objs.size = h.objs.size + as.length := pushIts_size
  have e : h.objs.size + as.length + 2 = (Heap.push (Heap.push (pushIts h as) { cls := .type "tuple", data := .seq (refsFrom h.objs.size as.length).toArray }) { cls := .type "tuple", data := .seq ((refsFrom h.objs.size as.length).map fun _ => Value.none).toArray }).objs.size := by rw [Heap.size_push, Heap.size_push, z1]
  rw [e]
  exact Heap.get?_push_size _ rfl
theorem zipHp_i {h : Heap} {as : List Addr} : TupAt (zipHp h as) (h.objs.size + as.length) (refsFrom h.objs.size as.length).toArray := by
  unfold zipHp
  have z1 : (pushIts h as).objs.size = h.objs.size + as.length := pushIts_size
  rw [← z1]
  exact Heap.get?_push_of_some _ (Heap.get?_push_of_some _ (Heap.get?_push_size _ rfl))
theorem zipHp_o {h : Heap} {as : List Addr} : TupAt (zipHp h as) (h.objs.size + as.length + 1) ((refsFrom h.objs.size as.length).map fun _ => Value.none).toArray := by
  unfold zipHp
  have z1 : (pushIts h as).objs.size = h.objs.size + as.length := pushIts_size
  have e : h.objs.size + as.length + 1 = (Heap.push (pushIts h as) { cls := .type "tuple", data := .seq (refsFrom h.objs.size as.length).toArray }).objs.size := by rw [Heap.size_push, z1]
  rw [e]
  exact Heap.get?_push_of_some _ (Heap.get?_push_size _ rfl)
theorem zipHp_keep {h : Heap} {as : List Addr} {b : Addr} {o : Obj} (e : h.get? b = some o) : (zipHp h as).get? b = some o := Heap.get?_push_of_some _ (Heap.get?_push_of_some _ (Heap.get?_push_of_some _ (pushIts_keep e)))
theorem zipHp_it {h : Heap} {as : List Addr} {j : Nat} {a : Addr} (e : as[j]? = some a) : (zipHp h as).get? (h.objs.size + j) = some (srcO true a) := Heap.get?_push_of_some _ (Heap.get?_push_of_some _ (Heap.get?_push_of_some _ (pushIts_at e)))
theorem zipHp_size {h : Heap} {as : List Addr} : (zipHp h as).objs.size = h.objs.size + as.length + 3 := by
  unfold zipHp
  rw [Heap.size_push, Heap.size_push, Heap.size_push, pushIts_size]
/-- zip(*as), as tuples -/
theorem call_zip_n {as : List Addr} {s : Shared} {Q : Value → Shared → Prop} (h6 : as.length ≤ 6) (ht : ∀ a ∈ as, ∃ items, s.heap.IsTuple a items)
    (hct : checkTypeCall "zip" ⟨as.map Value.ref, []⟩ = pure ()) (hcn : checkBuiltinCall "zip.__new__" ⟨.type "zip" :: as.map Value.ref, []⟩ = pure ()) (hok : ∀ obj, argsOk "object.__init__" ⟨obj :: as.map Value.ref, []⟩)
    (h : Q (.ref (s.heap.objs.size + as.length + 2)) { s with heap := zipHp s.heap as }) : wpAny (model prog w) A (call (.type "zip") (as.map Value.ref)) Q E s := by
  refine callType_new PySem.F.called_zip (by decide) hct hcn hok PySem.F.entry_zip_new (zip_new_n h6) ⟨ht, ?_⟩
  exact ⟨⟨_, zipHp_z, rfl⟩, h⟩
/-- the calls' own looks at their arguments, by their number -/
theorem zip_checks : ∀ {as : List Addr}, 2 ≤ as.length → as.length ≤ 6 → checkTypeCall "zip" ⟨as.map Value.ref, []⟩ = pure () ∧ checkBuiltinCall "zip.__new__" ⟨.type "zip" :: as.map Value.ref, []⟩ = pure ()
  | [a, b], _, _ => ⟨by kernel_rfl, by kernel_rfl⟩
  | [a, b, c], _, _ => ⟨by kernel_rfl, by kernel_rfl⟩
  | [a, b, c, d], _, _ => ⟨by kernel_rfl, by kernel_rfl⟩
  | [a, b, c, d, e], _, _ => ⟨by kernel_rfl, by kernel_rfl⟩
  | [a, b, c, d, e, f], _, _ => ⟨by kernel_rfl, by kernel_rfl⟩
  | [], h, _ => absurd h (by decide)
  | [_], h, _ => absurd h (by simp)
  | _ :: _ :: _ :: _ :: _ :: _ :: _ :: r, _, h => absurd h (by simp)
end
end DL

namespace DL
open PySem L2 PyProof.Rows
def srs (itm : Addr → Array Value) : Nat → List Addr → List Sr
  | _, [] => []
  | N, a :: as => ⟨N, a, itm a⟩ :: srs itm (N + 1) as
theorem srs_len {itm : Addr → Array Value} : ∀ {as : List Addr} {N : Nat}, (srs itm N as).length = as.length
  | [], _ => rfl
  | a :: as, N => by rw [srs, List.length_cons, List.length_cons, srs_len]
theorem srs_mem {itm : Addr → Array Value} : ∀ {as : List Addr} {N : Nat} {r : Sr}, r ∈ srs itm N as → ∃ j : Nat, as[j]? = some r.a ∧ (r.it : Nat) = N + j ∧ r.items = itm r.a ∧ r.a ∈ as ∧ j < as.length
  | [], _, r, h => by cases h
  | a :: as, N, r, h => by
    rcases List.mem_cons.mp h with rfl | h
    · exact ⟨0, rfl, rfl, rfl, by simp, by simp⟩
    · obtain ⟨j, e1, e2, e3, e4, e5⟩ := srs_mem h
      exact ⟨j + 1, by simpa using e1, e2.trans (by omega : (N + 1 + j : Nat) = N + (j + 1)), e3, List.mem_cons_of_mem _ e4, by rw [List.length_cons]; omega⟩
theorem srs_refs {itm : Addr → Array Value} : ∀ {as : List Addr} {N : Nat}, (srs itm N as).map (fun r => Value.ref r.it) = refsFrom N as.length
  | [], _ => rfl
  | a :: as, N => by rw [srs, List.map_cons, srs_refs, List.length_cons, refsFrom]
theorem srs_pw {itm : Addr → Array Value} : ∀ {as : List Addr} {N M : Nat}, (∀ a ∈ as, a < M) → M ≤ N → (srs itm N as).Pairwise fun r r' => r.it ∉ [r'.it, r'.a] ∧ r'.it ∉ [r.it, r.a]
  | [], _, _, _, _ => List.Pairwise.nil
  | a :: as, N, M, h, hM => by
    refine List.pairwise_cons.mpr ⟨fun r hr => ?_, srs_pw (fun b hb => h b (List.mem_cons_of_mem _ hb)) (Nat.le_succ_of_le hM)⟩
    obtain ⟨j, e1, e2, e3, e4, e5⟩ := srs_mem hr
    have l1 := h r.a (List.mem_cons_of_mem _ e4)
    have l2 := h a (by simp)
    have n1 : N ≠ r.it := by rw [e2]; omega
    have n2 : N ≠ r.a := Nat.ne_of_gt (Nat.lt_of_lt_of_le l1 hM)
    have n3 : r.it ≠ a := by
      rw [e2]
      exact Nat.ne_of_gt (Nat.lt_of_lt_of_le l2 (by omega))
    refine ⟨fun q => ?_, fun q => ?_⟩
    · simp only [List.mem_cons, List.not_mem_nil, or_false] at q
      exact q.elim n1 n2
    · simp only [List.mem_cons, List.not_mem_nil, or_false] at q
      exact q.elim (fun e => n1 e.symm) n3
theorem zipHp_sep {h : Heap} {as : List Addr} {itm : Addr → Array Value} (ht : ∀ a ∈ as, h.IsTuple a (itm a)) : ZSep (h.objs.size + as.length + 2) (h.objs.size + as.length) (h.objs.size + as.length + 1) (srs itm h.objs.size as) := by
  have lt : ∀ a ∈ as, a < h.objs.size := fun a ha => SrcOb.lt (t := true) (show SrcOb true h a (itm a) from ht a ha)
  have key : ∀ r ∈ srs itm h.objs.size as, ∀ k : Nat, h.objs.size + as.length + k ∉ [r.it, r.a] := fun r hr k q => by
    obtain ⟨j, e1, e2, e3, e4, e5⟩ := srs_mem hr
    have l1 := lt r.a e4
    simp only [List.mem_cons, List.not_mem_nil, or_false] at q
    rcases q with q | q
    · have q' : (h.objs.size + as.length + k : Nat) = h.objs.size + j := q.trans e2
      omega
    · exact Nat.ne_of_gt (Nat.lt_of_lt_of_le l1 (by omega)) q
  refine ⟨show (h.objs.size + as.length + 2 : Nat) ≠ h.objs.size + as.length by omega, show (h.objs.size + as.length + 2 : Nat) ≠ h.objs.size + as.length + 1 by omega, show (h.objs.size + as.length : Nat) ≠ h.objs.size + as.length + 1 by omega, fun r hr => ?_, fun r hr => key r hr 2, fun r hr => key r hr 1, fun r hr e => key r hr 0 (by simp [← e]), srs_pw lt (Nat.le_refl _)⟩
  obtain ⟨j, e1, e2, e3, e4, e5⟩ := srs_mem hr
  have l1 := lt r.a e4
  rw [e2]
  exact Nat.ne_of_lt (Nat.lt_of_lt_of_le l1 (by omega))
theorem zipHp_fresh {h : Heap} {as : List Addr} {itm : Addr → Array Value} (ht : ∀ a ∈ as, h.IsTuple a (itm a)) : ZFresh (zipHp h as) (h.objs.size + as.length + 2) (h.objs.size + as.length) (h.objs.size + as.length + 1) (srs itm h.objs.size as) := by
  refine ⟨zipHp_z, ?_, ⟨_, zipHp_o, by simp [refsFrom_len, srs_len]⟩, fun r hr => ?_⟩
  · rw [srs_refs]; exact zipHp_i
  · obtain ⟨j, e1, e2, e3, e4, e5⟩ := srs_mem hr
    refine ⟨src_it0 ?_, ?_⟩
    · rw [e2]; exact zipHp_it e1
    · rw [e3]
      exact Heap.IsTuple.at (ht r.a e4) fun o e => zipHp_keep e
end DL

namespace DL
open PySem L2 PyProof.Rows
/-! ### a new list of new tuples, tracked at once -/
def colRefs (N : Nat) (cols : List (List V)) : List V := (List.range cols.length).map fun j => V.ref (N + j)
def updCols (H : Hp) (N : Nat) (L : Addr) (cols : List (List V)) : Hp := fun b => if b = L then some (.lst (colRefs N cols)) else if N ≤ b ∧ b < N + cols.length then some (.tup (cols.getD (b - N) [])) else H b
theorem updCols_L {H : Hp} {N : Nat} {L : Addr} {cols : List (List V)} : updCols H N L cols L = some (.lst (colRefs N cols)) := if_pos rfl
theorem updCols_old {H : Hp} {N M : Nat} {L : Addr} {cols : List (List V)} {b : Addr} (hN : M ≤ N) (hL : M ≤ L) (hb : b < M) : updCols H N L cols b = H b := by
  unfold updCols
  rw [if_neg (Nat.ne_of_lt (Nat.lt_of_lt_of_le hb hL)), if_neg fun z => Nat.not_lt.mpr z.1 (Nat.lt_of_lt_of_le hb hN)]
theorem updCols_T {H : Hp} {N : Nat} {L : Addr} {cols : List (List V)} {j : Nat} {col : List V} (hL : L < N ∨ N + cols.length ≤ L) (e : cols[j]? = some col) : updCols H N L cols (N + j : Nat) = some (.tup col) := by
  have hj := (List.getElem?_eq_some_iff.mp e).1
  unfold updCols
  rw [if_neg (show ¬ (N + j : Nat) = L from fun z => by
    rcases hL with h | h
    · rw [← z] at h
      exact Nat.not_lt.mpr (Nat.le_add_right N j) h
    · rw [← z] at h
      exact Nat.not_lt.mpr h (Nat.add_lt_add_left hj N)), if_pos ⟨Nat.le_add_right _ _, Nat.add_lt_add_left hj _⟩, Nat.add_sub_cancel_left, List.getD_eq_getElem?_getD, e]
  rfl
section
variable {X : Cx} {pins : List (Addr × Obj)} {σ : L2.St} {H : Hp} {s : Shared}
theorem inv_cols {h' : Heap} {tk N : Nat} {L : Addr} {c : Nat} {cols : List (List V)} (I : Inv X pins σ H s) (k : ∀ b u, s.heap.get? b = some u → h'.get? b = some u) (hN : s.heap.objs.size ≤ N) (hL : s.heap.objs.size ≤ L) (hLN : L < N ∨ N + cols.length ≤ L) (h100 : cols.length ≤ 1000)
    (hc : ∀ (j : Nat) (col : List V), cols[j]? = some col → col.length ≤ 1000 ∧ ∃ its : List Value, Vals col its ∧ TupAt h' (N + j : Nat) its.toArray)
    (hl : h'.get? L = some { cls := .type "list", dict := none, data := .seq (refsFrom N cols.length).toArray c, slots := #[] }) : Inv X pins σ (updCols H N L cols) { s with heap := h', toks := tk } := by
  have sl : (1000 : Nat) ≤ sizeLine := by decide
  have old : ∀ b u, H b = some u → updCols H N L cols b = some u := fun b u e => by
    have hb : b < s.heap.objs.size := Nat.lt_of_not_le fun z => by have := I.hok.fresh z; rw [e] at this; cases this
    rw [updCols_old hN hL hb]; exact e
  refine I.un ⟨fun b o e _ _ _ => k b o e, fun b o e _ _ _ => ⟨o.slots, k b o e⟩, fun b o e n _ => ?_, fun b o e _ => ⟨o, k b o e⟩, fun b xs e => old b _ e, fun b o u e => old b _ e, fun b ps e => ⟨#[], by rw [old b _ e]; simp⟩⟩ fun b u e => ?_
  · rw [updCols_old hN hL (Heap.lt_size e)]; exact n
  · by_cases hb : b = L
    · subst hb
      rw [updCols_L] at e
      cases e
      refine ⟨by unfold colRefs; rw [List.length_map, List.length_range]; omega, refsFrom N cols.length, c, ?_, hl⟩
      have : ∀ (m M : Nat), Vals ((List.range' M m).map fun j => V.ref j) (refsFrom M m) := fun m => by
        induction m with
        | zero => exact fun M => .nil
        | succ m ih => exact fun M => by rw [List.range'_succ, List.map_cons, refsFrom]; exact .cons rfl (ih (M + 1))
      have q := this cols.length N
      have e2 : colRefs N cols = (List.range' N cols.length).map fun j => V.ref j := by
        unfold colRefs
        rw [List.range_eq_range', List.range'_eq_map_range, List.range'_eq_map_range, List.map_map, List.map_map]
        congr 1
        funext j
        simp
      rw [e2]
      exact q
    · by_cases hr : N ≤ b ∧ b < N + cols.length
      · have hj : b - N < cols.length := by have := hr.1; have := hr.2; exact Nat.sub_lt_left_of_lt_add hr.1 hr.2
        have ec : cols[b - N]? = some cols[b - N] := List.getElem?_eq_getElem hj
        have eb : updCols H N L cols b = some (.tup cols[b - N]) := by
          unfold updCols
          rw [if_neg hb, if_pos hr, List.getD_eq_getElem?_getD, ec]
          rfl
        rw [eb] at e
        cases e
        obtain ⟨h1, its, h2, h3⟩ := hc _ _ ec
        have e3 : (N + (b - N) : Nat) = b := Nat.add_sub_of_le hr.1
        rw [e3] at h3
        exact ⟨Nat.le_trans h1 sl, its, h2, ⟨_, h3, rfl, _, rfl⟩⟩
      · have eb : updCols H N L cols b = H b := by
          unfold updCols
          rw [if_neg hb, if_neg hr]
        rw [eb] at e
        exact (I.hok b u e).stay (fun c v _ q => k c v q) (fun c q => old c _ q) fun c xs q => old c _ q
end
end DL

namespace DL
open PySem L2 PyProof.Rows
theorem oi_args : ∀ {as : List Addr} (obj : Value), 2 ≤ as.length → as.length ≤ 6 → argsOk "object.__init__" ⟨obj :: as.map Value.ref, []⟩
  | [a, b], o, _, _ => by unfold argsOk; rw [signature?_of (id := "object.__init__") (n := ['_', '_', 't', 'i', 'n', 'i', '_', '_']) (o := ['t', 'c', 'e', 'j', 'b', 'o']) (by kernel_rfl) PySem.F.owner_object]; kernel_rfl
  | [a, b, c], o, _, _ => by unfold argsOk; rw [signature?_of (id := "object.__init__") (n := ['_', '_', 't', 'i', 'n', 'i', '_', '_']) (o := ['t', 'c', 'e', 'j', 'b', 'o']) (by kernel_rfl) PySem.F.owner_object]; kernel_rfl
  | [a, b, c, d], o, _, _ => by unfold argsOk; rw [signature?_of (id := "object.__init__") (n := ['_', '_', 't', 'i', 'n', 'i', '_', '_']) (o := ['t', 'c', 'e', 'j', 'b', 'o']) (by kernel_rfl) PySem.F.owner_object]; kernel_rfl
  | [a, b, c, d, e], o, _, _ => by unfold argsOk; rw [signature?_of (id := "object.__init__") (n := ['_', '_', 't', 'i', 'n', 'i', '_', '_']) (o := ['t', 'c', 'e', 'j', 'b', 'o']) (by kernel_rfl) PySem.F.owner_object]; kernel_rfl
  | [a, b, c, d, e, f], o, _, _ => by unfold argsOk; rw [signature?_of (id := "object.__init__") (n := ['_', '_', 't', 'i', 'n', 'i', '_', '_']) (o := ['t', 'c', 'e', 'j', 'b', 'o']) (by kernel_rfl) PySem.F.owner_object]; kernel_rfl
  | [], _, h, _ => absurd h (by decide)
  | [_], _, h, _ => absurd h (by simp)
  | _ :: _ :: _ :: _ :: _ :: _ :: _ :: r, _, _, h => absurd h (by simp)
/-- the columns of the rows -/
def colsOf (n : Nat) (rows : List (List V)) : List (List V) := (List.range n).map fun j => rows.map fun r => r.getD j V.non
/-- list(zip(*e)), e a list of 2 to 6 tuples of one length -/
def tLZ (K : PySem.W.Frag) (te : TE) : TE := fun σ H Q => te σ H fun x H1 => ∃ (a : Addr) (as : List Addr) (rows : List (List V)) (n : Nat), x = .ref a ∧ SqL K H1 a (as.map V.ref) ∧ as.length = rows.length ∧
  (∀ (i : Nat) (b : Addr) (row : List V), as[i]? = some b → rows[i]? = some row → SqT K H1 b row ∧ row.length = n) ∧ 2 ≤ as.length ∧ as.length ≤ 6 ∧ 0 < n ∧ n ≤ 1000 ∧ ∀ (N : Nat) (L : Addr), (∀ b, N ≤ b → H1 b = none) → H1 L = none → (L < N ∨ N + n ≤ L) → Q (.ref L) (updCols H1 N L (colsOf n rows))
theorem vals_refs : ∀ {as : List Addr} {us : List Value}, Vals (as.map V.ref) us → us = as.map Value.ref
  | [], us, r => by cases r; rfl
  | a :: as, us, r => by
    cases r with
    | cons q w =>
      cases (show _ = Value.ref a from q)
      rw [vals_refs w]; rfl
def itmOf (h : Heap) (b : Addr) : Array Value := match h.get? b with
  | some o => (match o.data with
    | .seq items _ => items
    | _ => #[])
  | none => #[]
theorem itmOf_eq {h : Heap} {b : Addr} {items : Array Value} (t : h.IsTuple b items) : itmOf h b = items := by
  obtain ⟨o, e, _, n, d⟩ := t
  unfold itmOf
  rw [e]
  simp only [d]
theorem refsFrom_get : ∀ {k N j : Nat}, j < k → (refsFrom N k)[j]? = some (.ref (N + j : Nat))
  | k + 1, N, 0, _ => rfl
  | k + 1, N, j + 1, h => by
    rw [refsFrom, List.getElem?_cons_succ, refsFrom_get (by omega)]
    rw [show N + 1 + j = N + (j + 1) by omega]
theorem res_acc {h : Heap} {N n : Nat} {rs : List Sr} {acc : Array Value} (r : ZRes h N rs n acc) : acc = (refsFrom N n).toArray := by
  apply Array.ext_getElem?
  intro j
  by_cases hj : j < n
  · obtain ⟨T, e1, e2, _⟩ := r.at_ j hj
    rw [e1, List.getElem?_toArray, refsFrom_get hj, ← e2]
  · rw [Array.getElem?_eq_none (by rw [r.size]; omega), Array.getElem?_eq_none (by simp [refsFrom_len]; omega)]
theorem col_vals {h : Heap} {n j : Nat} (hj : j < n) : ∀ {as : List Addr} {rows : List (List V)} {N : Nat}, as.length = rows.length → (∀ (i : Nat) (b : Addr) (row : List V), as[i]? = some b → rows[i]? = some row → ∃ its : List Value, Vals row its ∧ h.IsTuple b its.toArray ∧ row.length = n) →
    Vals (rows.map fun r => r.getD j V.non) (valsAt (srs (itmOf h) N as) j)
  | [], [], _, _, _ => .nil
  | a :: as, r :: rows, N, hl, hr => by
    obtain ⟨its, hv, ht, hn⟩ := hr 0 a r rfl rfl
    have q := col_vals hj (as := as) (rows := rows) (N := N + 1) (by simpa using hl) fun i b row e1 e2 => hr (i + 1) b row (by simpa using e1) (by simpa using e2)
    unfold valsAt at q ⊢
    rw [srs, List.map_cons, List.map_cons, itmOf_eq ht]
    refine .cons ?_ q
    have hl1 : r[j]? = some r[j] := List.getElem?_eq_getElem (by omega)
    obtain ⟨u, e1, e2⟩ := hv.get hl1
    have g1 : r.getD j V.non = r[j] := by rw [List.getD_eq_getElem?_getD, hl1]; rfl
    have g2 : its.toArray.getD j Value.none = u := by rw [Array.getD_eq_getD_getElem?, List.getElem?_toArray, e1]; rfl
    rw [g1, g2]
    exact e2
  | [], _ :: _, _, h, _ => by cases h
  | _ :: _, [], _, h, _ => by cases h
section
variable {X : Cx}
theorem pe_listZip {e : Expr} {te : TE} {p1 p2 p3 q1 q2 : Pos} (hc : X.calm = true) (hg1 : Gl X "list") (hm1 : X.mg "list" = none) (hg2 : Gl X "zip") (hm2 : X.mg "zip" = none) (he : PE X e te) :
    PE X (.Call (.Name "list" p1) [.Call (.Name "zip" p2) [.Starred e p3] [] q2] [] q1) (tLZ X.K te) := by
  refine ⟨fun pins s σ H Q I h => ?_⟩
  refine wpAny_Call_Name_kw (ld_blt I hg1 hm1 (u := .type "list") rfl ?_ (by decide) (by decide))
  refine PyProof.Rows.callWith_type1 (Calls.spliced_cons ?_) (by rfl) (by rfl)
  refine wpAny_Call_Name_kw (ld_blt I hg2 hm2 (u := .type "zip") PyProof.Rows.boot_zip ?_ (by decide) (by decide))
  refine PySem.W.ks_call (P := fun _ => True) rfl (fun h _ => ⟨.machine, .inr (.inl rfl), fun A Q E s _ q => wpAny_pure q⟩) (PySem.W.ks_lone (thn (he.run pins s σ H _ I h) fun v s1 ⟨x, H1, I1, rx, a, as, rows, n, ex, hq, hlen, hrow, h2, h6, hn0, hn1, q⟩ => ?_))
  subst ex
  obtain rfl : v = Value.ref a := rx
  refine StX.star_any I1 (.inr hq) fun us s2 I2 rv => ⟨trivial, ?_⟩
  rw [vals_refs rv]
  have hit : ∀ (i : Nat) (b : Addr) (row : List V), as[i]? = some b → rows[i]? = some row → ∃ its : List Value, Vals row its ∧ s2.heap.IsTuple b its.toArray ∧ row.length = n := fun i b row e1 e2 => by
    obtain ⟨hs, hl⟩ := hrow i b row e1 e2
    obtain ⟨its, r1, r2, _⟩ := I2.tuple hs
    exact ⟨its, r1, r2, hl⟩
  have hall : ∀ b ∈ as, s2.heap.IsTuple b (itmOf s2.heap b) ∧ (itmOf s2.heap b).size = n := fun b hb => by
    obtain ⟨i, e1⟩ := List.mem_iff_getElem?.mp hb
    have hi := (List.getElem?_eq_some_iff.mp e1).1
    obtain ⟨its, r1, r2, r3⟩ := hit i b _ e1 (List.getElem?_eq_getElem (by omega))
    rw [itmOf_eq r2]
    refine ⟨r2, ?_⟩
    rw [List.size_toArray, ← r1.length, r3]
  have ck := zip_checks h2 h6
  refine call_zip_n h6 (fun b hb => ⟨_, (hall b hb).1⟩) ck.1 ck.2 (fun obj => oi_args obj h2 h6) ?_
  refine Calls.spliced_nil ?_
  have hd : X.A.in1.in1.in1.handled = none := by exact I2.ok.hd hc
  have Z := zipHp_fresh (itm := itmOf s2.heap) fun b hb => (hall b hb).1
  have S := zipHp_sep (itm := itmOf s2.heap) fun b hb => (hall b hb).1
  have col := fun (j : Nat) (hj : j < n) => col_vals (h := s2.heap) (N := s2.heap.objs.size) hj hlen hit
  have lts : ∀ b ∈ as, b < s2.heap.objs.size := fun b hb => SrcOb.lt (t := true) (show SrcOb true s2.heap b _ from (hall b hb).1)
  have hsz : (zipHp s2.heap as).objs.size = s2.heap.objs.size + as.length + 3 := zipHp_size
  have mem : ∀ x ∈ srs (itmOf s2.heap) s2.heap.objs.size as, x.items.size = n ∧ x.a < (zipHp s2.heap as).objs.size ∧ x.it < (zipHp s2.heap as).objs.size ∧ s2.heap.objs.size ≤ x.it := fun x hx => by
    obtain ⟨j, f1, f2, f3, f4, f5⟩ := srs_mem hx
    have l1 := lts x.a f4
    refine ⟨by rw [f3]; exact (hall _ f4).2, ?_, ?_, ?_⟩
    · rw [hsz]; exact Nat.lt_of_lt_of_le l1 (by omega)
    · rw [hsz, f2]; exact Nat.lt_add_right 3 (Nat.add_lt_add_left f5 _)
    · rw [f2]; exact Nat.le_add_right _ _
  have slen : (srs (itmOf s2.heap) s2.heap.objs.size as).length = as.length := srs_len
  obtain ⟨r, rs, er⟩ : ∃ r rs, srs (itmOf s2.heap) s2.heap.objs.size as = r :: rs := by
    cases q' : srs (itmOf s2.heap) s2.heap.objs.size as with
    | nil => rw [q'] at slen; simp at slen; omega
    | cons r rs => exact ⟨r, rs, rfl⟩
  rw [er] at Z S mem slen
  refine call_list_zipN hd (s := { s2 with heap := zipHp s2.heap as }) S (by rw [slen]; omega) (fun x hx => (mem x hx).1) hn0 hn1 (by show (_ : Nat) < (zipHp s2.heap as).objs.size; rw [hsz]; omega) (fun x hx => (mem x hx).2.1) (fun x hx => (mem x hx).2.2.1) (by show (_ : Nat) < (zipHp s2.heap as).objs.size; rw [hsz]; omega) (by show (_ : Nat) < (zipHp s2.heap as).objs.size; rw [hsz]; omega) Z fun h' tk acc' c' e1 e2 e3 => ?_
  replace e1 : h'.get? (zipHp s2.heap as).objs.size = some { cls := .type "list", dict := none, data := .seq acc' c', slots := #[] } := e1
  replace e2 : ZRes h' ((zipHp s2.heap as).objs.size + 1) (r :: rs) n acc' := e2
  have hk : ∀ b u, s2.heap.get? b = some u → h'.get? b = some u := fun b u e => by
    have hb := Heap.lt_size e
    refine e3 b u (by show b < (zipHp s2.heap as).objs.size; rw [hsz]; exact Nat.lt_of_lt_of_le hb (by omega)) (Nat.ne_of_lt (Nat.lt_of_lt_of_le hb (by omega))) (Nat.ne_of_lt (Nat.lt_of_lt_of_le hb (by omega))) (fun x hx => Nat.ne_of_lt (Nat.lt_of_lt_of_le hb (mem x hx).2.2.2)) (zipHp_keep e)
  have cl : (colsOf n rows).length = n := by simp [colsOf]
  have hNs : s2.heap.objs.size ≤ (zipHp s2.heap as).objs.size := by rw [hsz]; omega
  have I3 : Inv X pins σ (updCols H1 ((zipHp s2.heap as).objs.size + 1) (zipHp s2.heap as).objs.size (colsOf n rows)) { s2 with heap := h', toks := tk } := by
    refine inv_cols (c := c') I2 hk (Nat.le_succ_of_le hNs) hNs (.inl (Nat.lt_succ_self _)) (by rw [cl]; exact hn1) (fun j cc ec => ?_) ?_
    · have hj : j < n := by have := (List.getElem?_eq_some_iff.mp ec).1; rw [cl] at this; exact this
      have ecc : cc = rows.map fun r => r.getD j V.non := by
        unfold colsOf at ec
        rw [List.getElem?_map, List.getElem?_range hj] at ec
        exact (Option.some.inj ec).symm
      subst ecc
      have q1 := col j hj
      rw [er] at q1
      obtain ⟨T, _, f2, f3⟩ := e2.at_ j hj
      refine ⟨by rw [List.length_map]; omega, _, q1, ?_⟩
      rw [f2]
      exact f3
    · rw [cl, ← res_acc e2]
      exact e1
  exact ⟨.ref (zipHp s2.heap as).objs.size, _, I3, rfl, q _ _ (fun b hb => I2.hok.fresh (Nat.le_trans (Nat.le_succ_of_le hNs) hb)) (I2.hok.fresh hNs) (.inl (Nat.lt_succ_self _))⟩
end
end DL

namespace DL
open PySem L2 PyProof.Rows
/-! ### list(zip(*rows)) -/
def rowsN (n : Nat) : List DL.D → Bool
  | [] => true
  | .tup ys :: r => decide (ys.length = n) && rowsN n r
  | _ :: _ => false
def cellD (j : Nat) : DL.D → DL.D
  | .tup ys => ys.getD j .non
  | _ => .non
def colsD (n : Nat) (xs : List DL.D) : List DL.D := (List.range n).map fun j => .tup (xs.map (cellD j))
def widthD : List DL.D → Nat
  | .tup ys :: _ => ys.length
  | _ => 0
def lzD : DL.D → Option Rs
  | .lst xs => if 2 ≤ xs.length ∧ xs.length ≤ 6 ∧ 0 < widthD xs ∧ widthD xs ≤ 1000 ∧ rowsN (widthD xs) xs = true then some (.fr (colsD (widthD xs) xs)) else none
  | _ => none
theorem rows_of {K : PySem.W.Frag} {H : Hp} {n : Nat} : ∀ {xs : List DL.D} {vs : List V}, rowsN n xs = true → IsA K H xs vs → ∃ (as : List Addr) (rows : List (List V)), vs = as.map V.ref ∧ as.length = rows.length ∧ as.length = xs.length ∧
    (∀ (i : Nat) (b : Addr) (row : List V), as[i]? = some b → rows[i]? = some row → SqT K H b row ∧ row.length = n) ∧ ∀ j, j < n → IsA K H (xs.map (cellD j)) (rows.map fun r => r.getD j V.non)
  | [], vs, _, h => by
    simp only [IsA] at h
    subst h
    exact ⟨[], [], rfl, rfl, rfl, fun i b row e => (by simp at e), fun j _ => IsA.nil⟩
  | x :: xs, vs, hr, h => by
    simp only [IsA] at h
    obtain ⟨v, r, rfl, h1, h2⟩ := h
    cases x with
    | tup ys =>
      unfold rowsN at hr
      rw [Bool.and_eq_true] at hr
      have hy := of_decide_eq_true hr.1
      obtain ⟨as, rows, rfl, e1, e2, e3, e4⟩ := rows_of hr.2 h2
      simp only [Is] at h1
      obtain ⟨a, ws, rfl, h5, h6⟩ := h1
      have hw : ws.length = n := by have := h6.length; omega
      refine ⟨a :: as, ws :: rows, rfl, by simp [e1], by simp [e2], fun i b row f1 f2 => ?_, fun j hj => ?_⟩
      · cases i with
        | zero =>
          simp only [List.getElem?_cons_zero, Option.some.injEq] at f1 f2
          subst f1 f2
          exact ⟨h5, hw⟩
        | succ i => exact e3 i b row (by simpa using f1) (by simpa using f2)
      · rw [List.map_cons, List.map_cons]
        refine IsA.cons ?_ (e4 j hj)
        have g : ∀ (ys : List DL.D) (ws : List V) (j : Nat), IsA K H ys ws → j < ys.length → Is K H (ys.getD j .non) (ws.getD j V.non) := by
          intro ys
          induction ys with
          | nil => intro ws j _ hj; simp at hj
          | cons y ys ih =>
            intro ws j hi hj
            simp only [IsA] at hi
            obtain ⟨v, r, rfl, q1, q2⟩ := hi
            cases j with
            | zero => exact q1
            | succ j =>
              have := ih r j q2 (by simpa using hj)
              simpa using this
        exact g ys ws j h6 (by omega)
    | _ => unfold rowsN at hr; cases hr
def updT (H : Hp) (N : Nat) (cols : List (List V)) : Hp := fun b => if N ≤ b ∧ b < N + cols.length then some (.tup (cols.getD (b - N) [])) else H b
theorem dm_listZip {X : Cx} {W : WX} {a : Expr} {ma : M Rs} {p1 p2 p3 q1 q2 : Pos} (hc : X.calm = true) (hg1 : Gl X "list") (hm1 : X.mg "list" = none) (hg2 : Gl X "zip") (hm2 : X.mg "zip" = none) (ha : PE X a (tM X.K W ma)) :
    PE X (.Call (.Name "list" p1) [.Call (.Name "zip" p2) [.Starred a p3] [] q2] [] q1) (tM X.K W (mUn lzD ma)) := by
  refine PE.imp (pe_listZip hc hg1 hm1 hg2 hm2 ha) fun σ H Q h => ?_
  obtain ⟨Hb, ρ, S, P⟩ := h
  refine ⟨Hb, ρ, S, ?_⟩
  unfold mUn at P
  cases ea : ma ρ with
  | stuck => rw [ea] at P; exact P
  | er e ρ1 => rw [ea] at P; exact P
  | ok x ρ1 =>
    rw [ea] at P
    intro v H1 Hb1 s1 r1
    simp only [bnd] at P
    cases ex : rd ρ1 x with
    | none => simp only [ex] at P; exact P.elim
    | some dx =>
      simp only [ex] at P
      have q := rd_ok s1.st r1 ex
      cases dx with
      | lst xs =>
        by_cases ok : 2 ≤ xs.length ∧ xs.length ≤ 6 ∧ 0 < widthD xs ∧ widthD xs ≤ 1000 ∧ rowsN (widthD xs) xs = true
        · simp only [lzD, if_pos ok] at P
          obtain ⟨p, vs, rfl, h1, i1⟩ := q.lst s1.st.sub
          obtain ⟨as, rows, rfl, e1, e2, e3, e4⟩ := rows_of ok.2.2.2.2 i1
          refine ⟨p, as, rows, widthD xs, rfl, h1, e1, fun i b row f1 f2 => ⟨Same.tup s1.st.sub (e3 i b row f1 f2).1, (e3 i b row f1 f2).2⟩, by omega, by omega, ok.2.2.1, ok.2.2.2.1, fun N L hN hL hLN => ?_⟩
          generalize widthD xs = n at *
          have cl : (colsOf n rows).length = n := by simp [colsOf]
          have nb : ∀ b o, H1 b = some o → b ≠ L ∧ ¬ (N ≤ b ∧ b < N + (colsOf n rows).length) := fun b o e => ⟨fun z => (by rw [z, hL] at e; cases e), fun z => (by rw [hN b z.1] at e; cases e)⟩
          have ub : ∀ b, ¬ (N ≤ b ∧ b < N + (colsOf n rows).length) → updT Hb1 N (colsOf n rows) b = Hb1 b := fun b z => if_neg z
          have uh : ∀ b, b ≠ L → ¬ (N ≤ b ∧ b < N + (colsOf n rows).length) → updCols H1 N L (colsOf n rows) b = H1 b := fun b z1 z2 => by unfold updCols; rw [if_neg z1, if_neg z2]
          have g : Gro Hb1 H1 (updT Hb1 N (colsOf n rows)) (updCols H1 N L (colsOf n rows)) := by
            refine ⟨fun b o e => by rw [uh b (nb b o e).1 (nb b o e).2]; exact e, fun b o e => by rw [ub b (nb b o (s1.st.sub b o e)).2]; exact e, fun b o e n0 => by rw [ub b (nb b o e).2]; exact n0, fun b o e => ?_⟩
            by_cases z : N ≤ b ∧ b < N + (colsOf n rows).length
            · have zL : b ≠ L := fun z' => by
                rw [cl] at z
                rcases hLN with h | h
                · exact Nat.not_lt.mpr z.1 (z' ▸ h)
                · exact Nat.not_lt.mpr (z' ▸ h) z.2
              unfold updT at e
              rw [if_pos z] at e
              unfold updCols
              rw [if_neg zL, if_pos z]
              exact e
            · rw [ub b z] at e
              have := s1.st.sub b o e
              rw [uh b (nb b o this).1 z]
              exact this
          have isA : IsA X.K (updT Hb1 N (colsOf n rows)) (colsD n xs) (colRefs N (colsOf n rows)) := by
            unfold colsD colRefs
            rw [cl]
            have step : ∀ (l : List Nat), (∀ j ∈ l, j < n) → IsA X.K (updT Hb1 N (colsOf n rows)) (l.map fun j => DL.D.tup (xs.map (cellD j))) (l.map fun j => V.ref (N + j)) := by
              intro l
              induction l with
              | nil => intro _; exact IsA.nil
              | cons j l ih =>
                intro hl
                have hj := hl j (by simp)
                refine IsA.cons (Is.tupI (xs := rows.map fun r => r.getD j V.non) (.inl (.inl ?_)) (IsA.mono g.gr _ _ (e4 j hj))) (ih fun i hi => hl i (List.mem_cons_of_mem _ hi))
                have ec : (colsOf n rows)[j]? = some (rows.map fun r => r.getD j V.non) := by
                  unfold colsOf
                  rw [List.getElem?_map, List.getElem?_range hj]
                  rfl
                show updT Hb1 N (colsOf n rows) (N + j : Nat) = _
                unfold updT
                rw [if_pos ⟨Nat.le_add_right _ _, Nat.add_lt_add_left (by rw [cl]; exact hj) _⟩, Nat.add_sub_cancel_left, List.getD_eq_getElem?_getD, ec]
                rfl
            exact step _ fun j hj => List.mem_range.mp hj
          exact P (.ref L) _ _ (s1.trans (g.ste s1.st)) ⟨L, _, rfl, s1.th L hL, by rw [ub L (by rw [cl]; intro z; rcases hLN with h | h; exact Nat.not_lt.mpr z.1 h; exact Nat.not_lt.mpr h z.2)]; exact Same.none s1.st.sub hL, updCols_L, isA⟩
        · simp only [lzD, if_neg ok] at P
          exact P.elim
      | _ => simp only [lzD] at P; exact P.elim
end DL

namespace DL
open PySem L2 PyProof.Rows
/-! ### a dict of one's own in slot k: keys tuples (nested), values data -/
abbrev Dc := List (NestedKey × DL.D)
def lkD (es : Dc) (k : NestedKey) : Option DL.D := (es.find? fun x => decide (x.1 = k)).map (·.2)
def stoD (es : Dc) (k : NestedKey) (d : DL.D) : Dc := if (lkD es k).isSome then es.map (fun x => if x.1 = k then (x.1, d) else x) else es ++ [(k, d)]
structure DjOk (X : Cx) (H : Hp) (p : Addr) (xs : List (NestedKey × Addr × Value)) : Prop where
  at_ : H p = some (RawD X.prog X.w p xs)
  sys : (p == sysModules) = false
  sz : xs.length ≤ 100000
  ks : ∀ x ∈ xs, ∃ d, D.key d = some x.1 ∧ x.1.depth ≤ 8 ∧ Is X.K H d (.ref x.2.1)
section
variable {X : Cx} {pins : List (Addr × Obj)} {σ : L2.St} {H : Hp} {s : Shared} {p a : Addr} {xs : List (NestedKey × Addr × Value)} {d : DL.D} {k : NestedKey}
theorem DjOk.of (D : DjOk X H p xs) (I : Inv X pins σ H s) : s.heap.DictOfH (nestedKind X.prog X.w) p xs := by
  obtain ⟨⟨o, es, ep, h1, h2, h3, h4, h5⟩, _⟩ := (show ObjOk X.prog X.w H s.heap p (RawD X.prog X.w p xs) from I.hok p _ D.at_)
  refine ⟨o, es, ep, h1, h2, h3, h4, fun x hx => ?_, h5⟩
  obtain ⟨d, e1, e2, e3⟩ := D.ks x hx
  exact ⟨is_nested I d _ _ _ e3 e1 rfl, e2⟩
def tJNot (X : Cx) (ty td : TE) : TE := fun σ H Q => ty σ H fun y H1 => td σ H1 fun x H2 => ∃ p xs a d k, y = .ref a ∧ x = .ref p ∧ DjOk X H2 p xs ∧ KeyOk X H2 d k a ∧ Q (.bl (!(atKey xs k).isSome)) H2
theorem pc_jnot {o i : Expr} {td ty : TE} (hu : X.A.units + 64 < cLine) (hi : PE X i ty) (ho : PE X o td) : PC X .NotIn i o (tJNot X ty td) := by
  refine ⟨fun pins s σ H Q I h => ?_⟩
  refine thn (hi.run pins s σ H _ I h) fun iv s1 ⟨y, H1, I1, ry, q1⟩ => thn (ho.run pins s1 σ H1 _ I1 q1) fun u s2 ⟨x, H2, I2, rx, p, xs, a, d, k, ey, ex, D, q, q2⟩ => ?_
  subst ex ey
  obtain rfl : u = Value.ref p := rx
  obtain rfl : iv = Value.ref a := ry
  show wpAny _ _ (do return Value.bool (!(← contains (Value.ref p) (Value.ref a)))) _ _ _
  exact wpAny_bind (wpAny_contains_heap (room_in1 hu) (q.nk I2) D.sys (D.of I2) (wpAny_pure ⟨.bl _, H2, I2.tok _, rfl, q2⟩))
def tJGet (X : Cx) (td ty : TE) : TE := fun σ H Q => td σ H fun x H1 => ty σ H1 fun y H2 => ∃ p xs a d k w v, y = .ref a ∧ x = .ref p ∧ DjOk X H2 p xs ∧ KeyOk X H2 d k a ∧ atKey xs k = some w ∧ RelV v w.2 ∧ Q v H2
theorem pe_jget {o i : Expr} {td ty : TE} {pos : Pos} (hu : X.A.units + 64 < cLine) (ho : PE X o td) (hi : PE X i ty) (hs : NoSl i) : PE X (.Subscript o i pos) (tJGet X td ty) := by
  refine ⟨fun pins s σ H Q I h => ?_⟩
  refine subD_of PySem.F.slot_dict_getitem.lookup hs (thn (ho.run pins s σ H _ I h) fun u s1 ⟨x, H1, I1, rx, q1⟩ => thn (hi.run pins s1 σ H1 _ I1 q1) fun iv s2 ⟨y, H2, I2, ry, p, xs, a, d, k, w, v, ey, ex, D, q, hk, rv, q2⟩ => ?_)
  subst ex ey
  obtain rfl : u = Value.ref p := rx
  obtain rfl : iv = Value.ref a := ry
  exact ⟨(D.of I2).typeIs, wpAny_getItem_heap (room_in1 hu) (q.nk I2) (D.of I2) hk ⟨v, H2, I2.tok _, rv, q2⟩⟩
def tJPut (X : Cx) (td ty tv : TE) : TS := fun D σ H => tv σ H fun v H1 => td σ H1 fun x H2 => ty σ H2 fun y H3 => ∃ p xs a d k, y = .ref a ∧ x = .ref p ∧ DjOk X H3 p xs ∧ KeyOk X H3 d k a ∧ ∀ u, RelV v u → D.nx σ (upd H3 p (RawD X.prog X.w p (storedH xs k a u)))
theorem ps_jput {o i value : Expr} {td ty tv : TE} {pos pos' : Pos} (hu : X.A.units + 64 < cLine) (ho : PE X o td) (hi : PE X i ty) (hv : PE X value tv) (hs : swapsWith value (some (.Subscript o i pos')) pos.line X.env = pure false) :
    PS X (.Assign [.Subscript o i pos'] value pos) (tJPut X td ty tv) := by
  refine ⟨fun pins s σ H D I h => ?_⟩
  refine wpAny_Assign_Subscript (thn (hv.run pins s σ H _ I h) fun r s1 ⟨v, H1, I1, rv, q1⟩ => thn (ho.run pins s1 σ H1 _ I1 q1) fun u s2 ⟨x, H2, I2, rx, q2⟩ => thn (hi.run pins s2 σ H2 _ I2 q2) fun iv s3 ⟨y, H3, I3, ry, p, xs, a, d, k, ey, ex, DI, q, q3⟩ => ?_) hs
  subst ex ey
  obtain rfl : u = Value.ref p := rx
  obtain rfl : iv = Value.ref a := ry
  refine wpAny_setItem_heap (hsz := Nat.le_trans DI.sz (by decide)) (room_in1 hu) (q.nk I3) (DI.of I3) fun h' dd' hs' => ?_
  have he : ∃ q, h'.get? p = some q := let ⟨q, _, _, hq, _⟩ := dd'; ⟨q, hq⟩
  exact ⟨σ, _, d_write I3 (by rw [DI.at_]; exact True.intro) hs' he (raw_ok dd'), q3 r rv⟩
end
/-- the dict's entries as data -/
def EsR (K : PySem.W.Frag) (Hb : Hp) : Dc → List (NestedKey × Addr × Value) → Prop
  | [], [] => True
  | e :: es, x :: xs => (e.1 = x.1 ∧ x.1.depth ≤ 8 ∧ (∃ d, D.key d = some x.1 ∧ Is K Hb d (.ref x.2.1)) ∧ ∃ v, RelV v x.2.2 ∧ Is K Hb e.2 v) ∧ EsR K Hb es xs
  | _, _ => False
section
variable {K : PySem.W.Frag} {Hb Hb' : Hp}
theorem EsR.mono (g : Same Hb Hb') : ∀ {es : Dc} {xs : List (NestedKey × Addr × Value)}, EsR K Hb es xs → EsR K Hb' es xs
  | [], [], h => h
  | e :: es, x :: xs, ⟨⟨h1, h2, ⟨d, h3, h4⟩, v, h5, h6⟩, h⟩ => ⟨⟨h1, h2, ⟨d, h3, Is.mono g _ _ h4⟩, v, h5, Is.mono g _ _ h6⟩, h.mono g⟩
  | [], _ :: _, h => h.elim
  | _ :: _, [], h => h.elim
theorem EsR.len : ∀ {es : Dc} {xs : List (NestedKey × Addr × Value)}, EsR K Hb es xs → xs.length = es.length
  | [], [], h => rfl
  | e :: es, x :: xs, ⟨_, h⟩ => by rw [List.length_cons, List.length_cons, h.len]
  | [], _ :: _, h => h.elim
  | _ :: _, [], h => h.elim
theorem EsR.ks : ∀ {es : Dc} {xs : List (NestedKey × Addr × Value)}, EsR K Hb es xs → ∀ x ∈ xs, ∃ d, D.key d = some x.1 ∧ x.1.depth ≤ 8 ∧ Is K Hb d (.ref x.2.1)
  | [], [], h, x, hx => by cases hx
  | e :: es, y :: xs, ⟨⟨h1, h2, ⟨d, h3, h4⟩, _⟩, h⟩, x, hx => by
    rcases List.mem_cons.mp hx with rfl | hx
    · exact ⟨d, h3, h2, h4⟩
    · exact h.ks x hx
  | [], _ :: _, h, _, _ => h.elim
  | _ :: _, [], h, _, _ => h.elim
theorem EsR.at_ {k : NestedKey} : ∀ {es : Dc} {xs : List (NestedKey × Addr × Value)}, EsR K Hb es xs → (match lkD es k with
    | some d => ∃ w v, atKey xs k = some w ∧ RelV v w.2 ∧ Is K Hb d v
    | none => atKey xs k = none)
  | [], [], h => rfl
  | e :: es, x :: xs, ⟨⟨h1, h2, h3, v, h5, h6⟩, h⟩ => by
    unfold lkD atKey
    rw [List.find?_cons, List.find?_cons]
    by_cases c : x.1 = k
    · rw [decide_eq_true (show e.1 = k from h1.trans c), decide_eq_true c]
      exact ⟨x.2, v, rfl, h5, h6⟩
    · rw [decide_eq_false (show ¬ e.1 = k from fun z => c (h1.symm.trans z)), decide_eq_false c]
      exact h.at_ (k := k)
  | [], _ :: _, h => h.elim
  | _ :: _, [], h => h.elim
theorem EsR.map {k : NestedKey} {u : Value} {d : DL.D} {v : V} (ru : RelV v u) (iv : Is K Hb d v) : ∀ {es : Dc} {xs : List (NestedKey × Addr × Value)}, EsR K Hb es xs → EsR K Hb (es.map (fun x => if x.1 = k then (x.1, d) else x)) (xs.map (putAt k u))
  | [], [], h => trivial
  | e :: es, x :: xs, ⟨⟨h1, h2, h3, w, h5, h6⟩, h⟩ => by
    rw [List.map_cons, List.map_cons]
    refine ⟨?_, EsR.map ru iv h⟩
    unfold putAt
    by_cases c : x.1 = k
    · rw [if_pos c, if_pos (h1.trans c)]
      exact ⟨h1, h2, h3, v, ru, iv⟩
    · rw [if_neg c, if_neg (fun z => c (h1.symm.trans z))]
      exact ⟨h1, h2, h3, w, h5, h6⟩
  | [], _ :: _, h => h.elim
  | _ :: _, [], h => h.elim
theorem EsR.snoc {k : NestedKey} {a : Addr} {u : Value} {d dk : DL.D} {v : V} (hk : D.key dk = some k) (hd : k.depth ≤ 8) (ia : Is K Hb dk (.ref a)) (ru : RelV v u) (iv : Is K Hb d v) : ∀ {es : Dc} {xs : List (NestedKey × Addr × Value)}, EsR K Hb es xs → EsR K Hb (es ++ [(k, d)]) (xs ++ [(k, a, u)])
  | [], [], h => ⟨⟨rfl, hd, ⟨dk, hk, ia⟩, v, ru, iv⟩, trivial⟩
  | e :: es, x :: xs, ⟨h1, h⟩ => ⟨h1, EsR.snoc hk hd ia ru iv h⟩
  | [], _ :: _, h => h.elim
  | _ :: _, [], h => h.elim
theorem EsR.sto {k : NestedKey} {a : Addr} {u : Value} {d dk : DL.D} {v : V} {es : Dc} {xs : List (NestedKey × Addr × Value)} (hk : D.key dk = some k) (hd : k.depth ≤ 8) (ia : Is K Hb dk (.ref a)) (ru : RelV v u) (iv : Is K Hb d v) (h : EsR K Hb es xs) : EsR K Hb (stoD es k d) (storedH xs k a u) := by
  have q := h.at_ (k := k)
  unfold stoD storedH
  cases e : lkD es k with
  | none =>
    rw [e] at q
    simp only at q
    rw [q]
    exact EsR.snoc hk hd ia ru iv h
  | some d0 =>
    rw [e] at q
    simp only at q
    obtain ⟨w, _, q, _⟩ := q
    rw [q]
    exact EsR.map ru iv h
end
theorem stoD_len {es : Dc} {k : NestedKey} {d : DL.D} : (stoD es k d).length ≤ es.length + 1 := by
  unfold stoD
  split <;> simp
/-- the dict at p, held by slot k -/
structure DkR (X : Cx) (k : Nat) (p : Addr) (Hb : Hp) (σ : L2.St) (H : Hp) (es : Dc) : Prop where
  ex : ∃ xs, H p = some (RawD X.prog X.w p xs) ∧ EsR X.K Hb es xs
  sl : σ[k]? = some (some (.ref p))
  pb : Hb p = none
  sys : (p == sysModules) = false
  sz : es.length ≤ 100000
section
variable {X : Cx} {k : Nat} {p : Addr} {Hb Hb1 H H1 : Hp} {σ σ1 : L2.St} {ρ ρ1 : Rho} {es : Dc}
theorem DkR.dj (D : DkR X k p Hb σ H es) (s : Same Hb H) : ∃ xs, DjOk X H p xs ∧ EsR X.K Hb es xs := by
  obtain ⟨xs, h1, h2⟩ := D.ex
  exact ⟨xs, ⟨h1, D.sys, by rw [h2.len]; exact D.sz, fun x hx => let ⟨d, k1, k2, k3⟩ := h2.ks x hx; ⟨d, k1, k2, Is.mono s _ _ k3⟩⟩, h2⟩
theorem DkR.no (D : DkR X k p Hb σ H es) (S : StR X.K Hb σ ρ H) : ¬ Own σ ρ p := fun z => by
  obtain ⟨vs, h1, _⟩ := S.ownH z
  obtain ⟨xs, h2, _⟩ := D.ex
  rw [h2] at h1
  cases h1
theorem DkR.step (D : DkR X k p Hb σ H es) (S : StR X.K Hb σ ρ H) (s : SteS X.K Hb σ ρ H Hb1 σ1 ρ1 H1) (e : σ1[k]? = σ[k]?) : DkR X k p Hb1 σ1 H1 es := by
  obtain ⟨xs, h1, h2⟩ := D.ex
  exact ⟨⟨xs, s.fr p _ h1 (D.no S), h2.mono s.gr⟩, e.trans D.sl, s.gn p _ h1 D.pb (D.no S), D.sys, D.sz⟩
theorem DkR.stepE (D : DkR X k p Hb σ H es) (S : StR X.K Hb σ ρ H) (s : Ste X.K σ Hb ρ H Hb1 ρ1 H1) : DkR X k p Hb1 σ H1 es := D.step S (s.toS S) rfl
end
/-! ### expressions beside a dict -/
def tXM (X : Cx) (k : Nat) (m : Dc → M Rs) : TE := fun σ H Q => ∃ Hb ρ p es, StR X.K Hb σ ρ H ∧ DkR X k p Hb σ H es ∧ PostM X.K W0 Hb σ ρ H Q (m es ρ)
def tXT (X : Cx) (k : Nat) (m : Dc → M Bool) : TT := fun σ H Q => ∃ Hb ρ p es, StR X.K Hb σ ρ H ∧ DkR X k p Hb σ H es ∧ PostT X.K W0 Hb σ ρ H Q (m es ρ)
section
variable {X : Cx} {k : Nat} {σ : L2.St} {H : Hp}
theorem xm_of {e : Expr} {m : M Rs} (h : PE X e (tM X.K W0 m)) : PE X e (tXM X k fun _ => m) := PE.imp h fun σ H Q ⟨Hb, ρ, _, _, S, _, P⟩ => ⟨Hb, ρ, S, P⟩
theorem xt_of {e : Expr} {m : M Bool} (h : PT X e (tT X.K W0 m)) : PT X e (tXT X k fun _ => m) := PT.imp h fun σ H Q ⟨Hb, ρ, _, _, S, _, P⟩ => ⟨Hb, ρ, S, P⟩
theorem tXM_bin {r : R2} {f : DL.D → DL.D → Option Rs} {a b : Dc → M Rs} {Q : VK} (hr : OpD X.K r f) (h : tXM X k (fun es => mBin f (a es) (b es)) σ H Q) : tOp r (tXM X k a) (tXM X k b) σ H Q := by
  obtain ⟨Hb, ρ, p, es, S, Dk, P⟩ := h
  refine ⟨Hb, ρ, p, es, S, Dk, ?_⟩
  change PostM X.K W0 Hb σ ρ H Q (mBin f (a es) (b es) ρ) at P
  unfold mBin at P
  cases ea : a es ρ with
  | stuck => rw [ea] at P; exact P
  | er e ρ1 => rw [ea] at P; exact P
  | ok x ρ1 =>
    rw [ea] at P
    intro v H1 Hb1 s1 r1
    refine ⟨Hb1, ρ1, p, es, s1.st, Dk.stepE S s1, ?_⟩
    simp only [bnd] at P
    cases eb : b es ρ1 with
    | stuck => rw [eb] at P; exact P
    | er e ρ2 =>
      rw [eb] at P
      intro d H2 Hb2 s2 ex
      exact P d H2 Hb2 (s1.trans s2) ex
    | ok y ρ2 =>
      rw [eb] at P
      intro w H2 Hb2 s2 r2
      simp only at P
      have r1' : RsR X.K H Hb2 σ H2 x v := r1.step (own_there' S s1) s2
      have s12 := s1.trans s2
      cases ex : rd ρ2 x with
      | none => simp only [ex] at P; exact P.elim
      | some dx =>
        cases ey : rd ρ2 y with
        | none => simp only [ex, ey] at P; exact P.elim
        | some dy =>
          simp only [ex, ey] at P
          cases ef : f dx dy with
          | none => simp only [ef] at P; exact P.elim
          | some res =>
            simp only [ef] at P
            refine hr Hb2 H2 v w dx dy res Q s2.st.sub (rd_ok s2.st r1' ex) (rd_ok s2.st r2 ey) ef fun z Hb3 H3 g rz => ?_
            exact P z H3 Hb3 (s12.trans (g.ste s2.st)) ((RsR.some rz).older s12.th)
theorem xm_bin {op : Operator} {r : R2} {f : DL.D → DL.D → Option Rs} {a b : Expr} {ma mb : Dc → M Rs} {pos : Pos} (ho : OpR X (binaryOp op) r) (hr : OpD X.K r f) (ha : PE X a (tXM X k ma)) (hb : PE X b (tXM X k mb)) :
    PE X (.BinOp a op b pos) (tXM X k fun es => mBin f (ma es) (mb es)) := PE.imp (pe_op ho ha hb) fun _ _ _ => tXM_bin hr
theorem tXT_val {a : Dc → M Rs} {Q : Bool → Hp → Prop} (h : tXT X k (fun es => mTv (a es)) σ H Q) : tB (tXM X k a) σ H Q := by
  obtain ⟨Hb, ρ, p, es, S, Dk, P⟩ := h
  refine ⟨Hb, ρ, p, es, S, Dk, ?_⟩
  change PostT X.K W0 Hb σ ρ H Q (mTv (a es) ρ) at P
  unfold mTv at P
  cases ea : a es ρ with
  | stuck => rw [ea] at P; exact P
  | er e ρ1 => rw [ea] at P; exact P
  | ok x ρ1 =>
    rw [ea] at P
    intro v H1 Hb1 s1 r1
    simp only [bnd] at P
    cases ex : rd ρ1 x with
    | none => simp only [ex] at P; exact P.elim
    | some dx =>
      have q := rd_ok s1.st r1 ex
      cases dx with
      | bl b =>
        simp only [ex] at P
        exact ⟨b, q.bl, P H1 Hb1 s1⟩
      | _ => simp only [ex] at P; exact P.elim
theorem xt_cmp {op : CmpOp} {r : R2} {f : DL.D → DL.D → Option Rs} {a b : Expr} {ma mb : Dc → M Rs} {pos : Pos} (ho : OpR X (compareOp op) r) (hr : OpD X.K r f) (ha : PE X a (tXM X k ma)) (hb : PE X b (tXM X k mb)) (hm : behindInMarks op b = false := by first | exact nomark _ | rfl) :
    PT X (.Compare a [op] [b] pos) (tXT X k fun es => mTv (mBin f (ma es) (mb es))) := by
  refine PT.imp (pt_cmpR ho ha hb hm) fun σ H Q h => ?_
  obtain ⟨Hb, ρ, p, es, S, Dk, P⟩ := tXT_val h
  exact tXM_bin hr ⟨Hb, ρ, p, es, S, Dk, P⟩
/-- the key that a value is -/
def keyOf (ρ : Rho) (r : Rs) : Option NestedKey := match rd ρ r with
  | some (.tup ds) => (match D.key (.tup ds) with
    | some k => if k.depth ≤ 8 then some k else none
    | none => none)
  | _ => none
theorem keyOf_ok {Hb H0 H1 : Hp} {ρ : Rho} {r : Rs} {v : V} {q : NestedKey} (S : StR X.K Hb σ ρ H1) (h : RsR X.K H0 Hb σ H1 r v) (e : keyOf ρ r = some q) : ∃ a d, v = .ref a ∧ Is X.K Hb d (.ref a) ∧ D.key d = some q ∧ q.depth ≤ 8 := by
  unfold keyOf at e
  split at e
  · rename_i ds er
    split at e
    · rename_i k0 ek
      by_cases hd : k0.depth ≤ 8
      · rw [if_pos hd] at e; cases e
        have := rd_ok S h er
        rcases this with i | ⟨_, _, _, z, _⟩
        · have i' := i
          simp only [Is] at i
          obtain ⟨a, xs, rfl, _, _⟩ := i
          exact ⟨a, .tup ds, rfl, i', ek, hd⟩
        · cases z
      · rw [if_neg hd] at e; cases e
    · cases e
  · cases e
def mNinX (a : M Rs) (es : Dc) : M Bool := fun ρ => bnd (a ρ) fun r ρ1 => match keyOf ρ1 r with
  | some q => .ok (!(lkD es q).isSome) ρ1
  | none => .stuck
theorem lk_at {K : PySem.W.Frag} {Hb : Hp} {es : Dc} {xs : List (NestedKey × Addr × Value)} {q : NestedKey} (h : EsR K Hb es xs) : (atKey xs q).isSome = (lkD es q).isSome := by
  have := h.at_ (k := q)
  cases e : lkD es q with
  | none => rw [e] at this; simp only at this; rw [this]; rfl
  | some d =>
    rw [e] at this
    simp only at this
    obtain ⟨w, _, e2, _⟩ := this
    rw [e2]; rfl
theorem xt_notin {i o : Expr} {a : M Rs} {pos : Pos} (hu : X.A.units + 64 < cLine) (hi : PE X i (tM X.K W0 a)) (ho : PE X o (tVar k)) (hm : behindInMarks .NotIn o = false := by rfl) : PT X (.Compare i [.NotIn] [o] pos) (tXT X k (mNinX a)) := by
  refine PT.imp (pt_cmp (pc_jnot hu hi ho) hm) fun σ H Q h => ?_
  obtain ⟨Hb, ρ, p, es, S, Dk, P⟩ := h
  unfold mNinX at P
  refine ⟨Hb, ρ, S, ?_⟩
  cases ea : a ρ with
  | stuck => rw [ea] at P; exact P
  | er e ρ1 => rw [ea] at P; exact P
  | ok r ρ1 =>
    rw [ea] at P
    intro v H1 Hb1 s1 r1
    simp only [bnd] at P
    cases ek : keyOf ρ1 r with
    | none => rw [ek] at P; exact P.elim
    | some q =>
      rw [ek] at P
      obtain ⟨b, d, rfl, i1, k1, k2⟩ := keyOf_ok s1.st r1 ek
      have D1 := Dk.stepE S s1
      obtain ⟨xs, dj, er⟩ := D1.dj s1.st.sub
      refine ⟨_, Dk.sl, p, xs, b, d, q, rfl, rfl, dj, ⟨k1, k2, Is.mono s1.st.sub _ _ i1⟩, _, rfl, ?_⟩
      rw [lk_at er]
      exact P H1 Hb1 s1
def mGetX (a : M Rs) (es : Dc) : M Rs := fun ρ => bnd (a ρ) fun r ρ1 => match keyOf ρ1 r with
  | some q => (match lkD es q with
    | some d => .ok (.va d) ρ1
    | none => .stuck)
  | none => .stuck
theorem xm_get {i o : Expr} {a : M Rs} {pos : Pos} (hu : X.A.units + 64 < cLine) (ho : PE X o (tVar k)) (hi : PE X i (tM X.K W0 a)) (hs : NoSl i) : PE X (.Subscript o i pos) (tXM X k (mGetX a)) := by
  refine PE.imp (pe_jget hu ho hi hs) fun σ H Q h => ?_
  obtain ⟨Hb, ρ, p, es, S, Dk, P⟩ := h
  unfold mGetX at P
  refine ⟨_, Dk.sl, Hb, ρ, S, ?_⟩
  cases ea : a ρ with
  | stuck => rw [ea] at P; exact P
  | er e ρ1 => rw [ea] at P; exact P
  | ok r ρ1 =>
    rw [ea] at P
    intro v H1 Hb1 s1 r1
    simp only [bnd] at P
    cases ek : keyOf ρ1 r with
    | none => rw [ek] at P; exact P.elim
    | some q =>
      rw [ek] at P
      simp only at P
      cases el : lkD es q with
      | none => rw [el] at P; exact P.elim
      | some dd =>
        rw [el] at P
        obtain ⟨b, d, rfl, i1, k1, k2⟩ := keyOf_ok s1.st r1 ek
        have D1 := Dk.stepE S s1
        obtain ⟨xs, dj, er⟩ := D1.dj s1.st.sub
        have q3 := er.at_ (k := q)
        rw [el] at q3
        obtain ⟨w, v', e1, e2, e3⟩ := q3
        exact ⟨p, xs, b, d, q, w, v', rfl, rfl, dj, ⟨k1, k2, Is.mono s1.st.sub _ _ i1⟩, e1, e2, P v' H1 Hb1 s1 e3⟩
/-! tests joined -/
theorem tXT_seq {a : Dc → M Bool} {Q Q' : Bool → Hp → Prop} {f : Dc → Bool → Rho → Res Bool} {Hb : Hp} {ρ : Rho} {p : Addr} {es : Dc} (S : StR X.K Hb σ ρ H) (Dk : DkR X k p Hb σ H es) (P : PostT X.K W0 Hb σ ρ H Q (bnd (a es ρ) (f es)))
    (h : ∀ b ρ1 Hb1 H1, Ste X.K σ Hb ρ H Hb1 ρ1 H1 → PostT X.K W0 Hb1 σ ρ1 H1 Q (f es b ρ1) → Q' b H1) : tXT X k a σ H Q' := by
  refine ⟨Hb, ρ, p, es, S, Dk, ?_⟩
  cases ea : a es ρ with
  | stuck => rw [ea] at P; exact P
  | er e ρ1 => rw [ea] at P; exact P
  | ok x ρ1 =>
    rw [ea] at P
    intro H1 Hb1 s1
    refine h x ρ1 Hb1 H1 s1 ?_
    simp only [bnd] at P
    cases ef : f es x ρ1 with
    | stuck => rw [ef] at P; exact P
    | er e ρ2 =>
      rw [ef] at P
      exact fun d H2 Hb2 s2 ex => P d H2 Hb2 (s1.trans s2) ex
    | ok y ρ2 =>
      rw [ef] at P
      exact fun H2 Hb2 s2 => P H2 Hb2 (s1.trans s2)
theorem xw_and1 {a : Expr} {pos : Pos} {ma : Dc → M Bool} (ha : PT X a (tXT X k ma)) : PW X (.BoolOp .And [a] pos) (tXT X k ma) := pw_and1 ha
theorem xw_or1 {a : Expr} {pos : Pos} {ma : Dc → M Bool} (ha : PT X a (tXT X k ma)) : PW X (.BoolOp .Or [a] pos) (tXT X k ma) := pw_or1 ha
theorem xw_and {a b : Expr} {rest : List Expr} {pos : Pos} {ma mb : Dc → M Bool} (ha : PT X a (tXT X k ma)) (hb : PW X (.BoolOp .And (b :: rest) pos) (tXT X k mb)) : PW X (.BoolOp .And (a :: b :: rest) pos) (tXT X k fun es => mAnd (ma es) (mb es)) := by
  refine PW.imp (pw_and ha hb) fun σ H Q h => ?_
  obtain ⟨Hb, ρ, p, es, S, Dk, P⟩ := h
  refine tXT_seq (f := fun es x ρ1 => if x = true then mb es ρ1 else .ok false ρ1) S Dk P fun c ρ1 Hb1 H1 s1 P1 => ?_
  cases c with
  | true => exact ⟨Hb1, ρ1, p, es, s1.st, Dk.stepE S s1, P1⟩
  | false => exact P1 H1 Hb1 (Ste.refl s1.st)
theorem xw_or {a b : Expr} {rest : List Expr} {pos : Pos} {ma mb : Dc → M Bool} (ha : PT X a (tXT X k ma)) (hb : PW X (.BoolOp .Or (b :: rest) pos) (tXT X k mb)) : PW X (.BoolOp .Or (a :: b :: rest) pos) (tXT X k fun es => mOr (ma es) (mb es)) := by
  refine PW.imp (pw_or ha hb) fun σ H Q h => ?_
  obtain ⟨Hb, ρ, p, es, S, Dk, P⟩ := h
  refine tXT_seq (f := fun es x ρ1 => if x = true then .ok true ρ1 else mb es ρ1) S Dk P fun c ρ1 Hb1 H1 s1 P1 => ?_
  cases c with
  | true => exact P1 H1 Hb1 (Ste.refl s1.st)
  | false => exact ⟨Hb1, ρ1, p, es, s1.st, Dk.stepE S s1, P1⟩
end
end DL

namespace DL
open PySem L2 PyProof.Rows
/-! ### statements beside a dict -/
inductive OX where
  | nx (ρ : Rho) (es : Dc) | rt (r : Rs) (ρ : Rho) | stuck
abbrev NX := Rho → Dc → OX
section
variable {X : Cx} {k : Nat}
def PostX (X : Cx) (k : Nat) (Hb0 : Hp) (σ0 : L2.St) (ρ0 : Rho) (H0 : Hp) (D : Ends) (Hf : Hp) : OX → Prop
  | .nx ρ' es => ∀ σ' H' Hb' p, SteS X.K Hb0 σ0 ρ0 H0 Hb' σ' ρ' H' → H0 p = none → DkR X k p Hb' σ' H' es → Same Hf Hb' → D.nx σ' H'
  | .rt r ρ' => ∀ v σ' H' Hb', SteS X.K Hb0 σ0 ρ0 H0 Hb' σ' ρ' H' → RsR X.K H0 Hb' σ' H' r v → D.rt v H'
  | .stuck => False
/-- B: the state at the dict's making -/
structure StX (X : Cx) (k : Nat) (Hb0 : Hp) (σ0 : L2.St) (ρ0 : Rho) (H0 : Hp) (p : Addr) (Hb : Hp) (σ : L2.St) (ρ : Rho) (H : Hp) (es : Dc) : Prop where
  s : SteS X.K Hb0 σ0 ρ0 H0 Hb σ ρ H
  z : H0 p = none
  d : DkR X k p Hb σ H es
def tX (X : Cx) (k : Nat) (n : NX) : TS := fun D σ H => ∃ Hb0 σ0 ρ0 H0 Hb ρ p es, StX X k Hb0 σ0 ρ0 H0 p Hb σ ρ H es ∧ PostX X k Hb0 σ0 ρ0 H0 D Hb (n ρ es)
variable {Hb0 Hb Hb1 H0 H H1 : Hp} {σ0 σ σ1 : L2.St} {ρ0 ρ ρ1 : Rho} {p : Addr} {es : Dc} {D : Ends}
theorem PostX.back {o : OX} (g : Same Hb Hb1) (P : PostX X k Hb0 σ0 ρ0 H0 D Hb o) : PostX X k Hb0 σ0 ρ0 H0 D Hb1 o := by
  cases o with
  | nx ρ es => exact fun σ' H' Hb' p s z d q => P σ' H' Hb' p s z d (g.trans q)
  | rt r ρ => exact P
  | stuck => exact P
theorem StX.step (S : StX X k Hb0 σ0 ρ0 H0 p Hb σ ρ H es) (s : SteS X.K Hb σ ρ H Hb1 σ1 ρ1 H1) (e : σ1[k]? = σ[k]?) : StX X k Hb0 σ0 ρ0 H0 p Hb1 σ1 ρ1 H1 es :=
  ⟨S.s.trans s, S.z, S.d.step S.s.st s e⟩
theorem StX.stepE (S : StX X k Hb0 σ0 ρ0 H0 p Hb σ ρ H es) (s : Ste X.K σ Hb ρ H Hb1 ρ1 H1) : StX X k Hb0 σ0 ρ0 H0 p Hb1 σ ρ1 H1 es := S.step (s.toS S.s.st) rfl
def xNext : NX := fun ρ es => .nx ρ es
def xSeq (a b : NX) : NX := fun ρ es => match a ρ es with
  | .nx ρ1 es1 => b ρ1 es1
  | o => o
theorem xs_nil : PSs X [] (tX X k xNext) := PSs.imp pss_nil fun D σ H ⟨Hb0, σ0, ρ0, H0, Hb, ρ, p, es, S, P⟩ => P σ H Hb p S.s S.z S.d (Same.refl _)
theorem xs_cons {st : Stmt} {rest : List Stmt} {a b : NX} (h1 : PS X st (tX X k a)) (h2 : PSs X rest (tX X k b)) : PSs X (st :: rest) (tX X k (xSeq a b)) := PSs.imp (pss_cons h1 h2) fun D σ H ⟨Hb0, σ0, ρ0, H0, Hb, ρ, p, es, S, P⟩ => by
  refine ⟨Hb0, σ0, ρ0, H0, Hb, ρ, p, es, S, ?_⟩
  unfold xSeq at P
  cases ea : a ρ es with
  | stuck => rw [ea] at P; exact P
  | rt r ρ1 => rw [ea] at P; exact P
  | nx ρ1 es1 =>
    rw [ea] at P
    exact fun σ1 H1 Hb1 p1 s1 z1 d1 g1 => ⟨Hb0, σ0, ρ0, H0, Hb1, ρ1, p1, es1, ⟨s1, z1, d1⟩, PostX.back g1 P⟩
theorem xs_one {st : Stmt} {a : NX} (h1 : PS X st (tX X k a)) : PSs X [st] (tX X k a) := pss_one h1
/-- x = e, x not the dict's slot -/
def xSet (i : Nat) (m : Dc → M Rs) : NX := fun ρ es => match m es ρ with
  | .ok r ρ1 => (match setR i r ρ1 with
    | .nx ρ2 => .nx ρ2 es
    | _ => .stuck)
  | _ => .stuck
theorem xs_set {i : Nat} {x : Str} {e : Expr} {m : Dc → M Rs} {pos pos' : Pos} (hik : i ≠ k) (hN : X.N.Nodup) (hi : X.N[i]? = some x) (hx : Loc X.env.scope x) (he : PE X e (tXM X k m)) (hs : swapsWith e (some (.Name x pos')) pos.line X.env = pure false := by rfl)
    (hf : X.fn x = true ∨ X.env.scope.names.lookup x = some .local := by first | exact .inl rfl | exact .inr rfl | assumption) : PS X (.Assign [.Name x pos'] e pos) (tX X k (xSet i m)) := by
  refine PS.imp (ps_set hN hi hx he hs hf) fun D σ H h => ?_
  obtain ⟨Hb0, σ0, ρ0, H0, Hb, ρ, p, es, S, P⟩ := h
  refine ⟨Hb, ρ, p, es, S.s.st, S.d, ?_⟩
  unfold xSet at P
  cases ea : m es ρ with
  | stuck => rw [ea] at P; exact P.elim
  | er e ρ1 => rw [ea] at P; exact P.elim
  | ok r ρ1 =>
    rw [ea] at P
    intro v H1 Hb1 s1 r1
    simp only at P
    cases er : setR i r ρ1 with
    | nx ρ2 =>
      rw [er] at P
      have q := set_ok (W := W0) (D := { nx := fun σ' H' => ∃ Hb', SteS X.K Hb σ ρ H Hb' σ' ρ2 H', rt := fun _ _ => True }) S.s.st s1 r1 (i := i) (by rw [er]; exact fun σ' H' Hb' s => ⟨Hb', s⟩)
      obtain ⟨Hb2, s2⟩ := q
      have S2 := S.step s2 (List.getElem?_set_ne hik)
      exact P _ _ _ _ S2.s S2.z S2.d s2.gr
    | _ => rw [er] at P; exact P.elim
/-- x += e -/
def xAug (f : DL.D → DL.D → Option Rs) (i : Nat) (m : Dc → M Rs) : NX := fun ρ es => match ρ[i]? with
  | some (.va dx) => (match m es ρ with
    | .ok r ρ1 => (match rd ρ1 r with
      | some dy => (match f dx dy with
        | some (.va d) => if i < ρ1.length ∧ isIo ρ1[i]? = false then .nx (ρ1.set i (.va d)) es else .stuck
        | _ => .stuck)
      | none => .stuck)
    | _ => .stuck)
  | _ => .stuck
theorem xs_aug {op : Operator} {r : R2} {f : DL.D → DL.D → Option Rs} {i : Nat} {x : Str} {e : Expr} {m : Dc → M Rs} {pos pos' : Pos} (hik : i ≠ k) (ho : OpR X (inplaceOp op) r) (hr : OpD X.K r f) (hN : X.N.Nodup) (hi : X.N[i]? = some x) (hx : Loc X.env.scope x) (he : PE X e (tXM X k m))
    (hf : X.fn x = true ∨ X.env.scope.names.lookup x = some .local := by first | exact .inl rfl | exact .inr rfl | assumption) : PS X (.AugAssign (.Name x pos') op e pos) (tX X k (xAug f i m)) := by
  refine PS.imp (ps_aug hN hi hx he (show PIp X op r from ho) hf) fun D σ H h => ?_
  obtain ⟨Hb0, σ0, ρ0, H0, Hb, ρ, p, es, S, P⟩ := h
  unfold xAug at P
  split at P
  · rename_i dx ex
    obtain ⟨v, ev, iv⟩ := S.s.st.va ex
    refine ⟨v, ev, Hb, ρ, p, es, S.s.st, S.d, ?_⟩
    cases ea : m es ρ with
    | stuck => rw [ea] at P; exact P.elim
    | er e ρ1 => rw [ea] at P; exact P.elim
    | ok r ρ1 =>
      rw [ea] at P
      intro w H1 Hb1 s1 r1
      simp only at P
      cases er : rd ρ1 r with
      | none => rw [er] at P; exact P.elim
      | some dy =>
        rw [er] at P
        simp only at P
        split at P
        · rename_i d ed
          by_cases hc : i < ρ1.length ∧ isIo ρ1[i]? = false
          · rw [if_pos hc] at P
            have S1 := S.stepE s1
            refine hr Hb1 H1 v w dx dy _ _ s1.st.sub (.inl (Is.mono s1.gr _ _ iv)) (rd_ok s1.st r1 er) ed fun z Hb2 H2 g rz => ?_
            have S2 := S1.step (SteS.storeV s1.st (g.ste s1.st) hc.1 (nio_of hc.2) rz) (List.getElem?_set_ne hik)
            exact P _ _ _ _ S2.s S2.z S2.d (s1.gr.trans g.gr)
          · rw [if_neg hc] at P; exact P.elim
        · exact P.elim
  · exact P.elim
def xIf (t : Dc → M Bool) (a b : NX) : NX := fun ρ es => match t es ρ with
  | .ok c ρ1 => if c = true then a ρ1 es else b ρ1 es
  | _ => .stuck
theorem tXT_then {mt : Dc → M Bool} {Q : Bool → Hp → Prop} {f : Bool → Rho → OX} (S : StX X k Hb0 σ0 ρ0 H0 p Hb σ ρ H es) (P : PostX X k Hb0 σ0 ρ0 H0 D Hb (match mt es ρ with
    | .ok c ρ1 => f c ρ1
    | _ => .stuck)) (h : ∀ c ρ1 H1 Hb1, StX X k Hb0 σ0 ρ0 H0 p Hb1 σ ρ1 H1 es → PostX X k Hb0 σ0 ρ0 H0 D Hb1 (f c ρ1) → Q c H1) : tXT X k mt σ H Q := by
  refine ⟨Hb, ρ, p, es, S.s.st, S.d, ?_⟩
  cases ea : mt es ρ with
  | stuck => rw [ea] at P; exact P.elim
  | er e ρ1 => rw [ea] at P; exact P.elim
  | ok c ρ1 =>
    rw [ea] at P
    exact fun H1 Hb1 s1 => h c ρ1 H1 Hb1 (S.stepE s1) (PostX.back s1.gr P)
theorem xs_if {c : Expr} {a b : List Stmt} {pos : Pos} {mc : Dc → M Bool} {na nb : NX} (hc : PT X c (tXT X k mc)) (ha : PSs X a (tX X k na)) (hb : PSs X b (tX X k nb)) : PS X (.If c a b pos) (tX X k (xIf mc na nb)) := by
  refine PS.imp (ps_if hc ha hb) fun D σ H h => ?_
  obtain ⟨Hb0, σ0, ρ0, H0, Hb, ρ, p, es, S, P⟩ := h
  refine tXT_then (f := fun c ρ1 => if c = true then na ρ1 es else nb ρ1 es) S P fun b ρ1 H1 Hb1 S1 P1 => ?_
  cases b with
  | true => exact iteT ⟨Hb0, σ0, ρ0, H0, Hb1, ρ1, p, es, S1, P1⟩
  | false => exact iteF ⟨Hb0, σ0, ρ0, H0, Hb1, ρ1, p, es, S1, P1⟩
def xRet (m : Dc → M Rs) : NX := fun ρ es => match m es ρ with
  | .ok r ρ1 => .rt r ρ1
  | _ => .stuck
theorem xs_ret {e : Expr} {m : Dc → M Rs} {pos : Pos} (he : PE X e (tXM X k m)) : PS X (.Return (some e) pos) (tX X k (xRet m)) := by
  refine PS.imp (ps_ret he) fun D σ H h => ?_
  obtain ⟨Hb0, σ0, ρ0, H0, Hb, ρ, p, es, S, P⟩ := h
  refine ⟨Hb, ρ, p, es, S.s.st, S.d, ?_⟩
  unfold xRet at P
  cases ea : m es ρ with
  | stuck => rw [ea] at P; exact P.elim
  | er e ρ1 => rw [ea] at P; exact P.elim
  | ok r ρ1 =>
    rw [ea] at P
    exact fun v H1 Hb1 s1 r1 => P v σ H1 Hb1 (S.stepE s1).s (r1.older S.s.th)
/-- d[key] = e -/
def xPut (mi me : M Rs) : NX := fun ρ es => match me ρ with
  | .ok (.va d) ρ1 => (match mi ρ1 with
    | .ok r ρ2 => (match keyOf ρ2 r with
      | some q => if es.length < 100000 then .nx ρ2 (stoD es q d) else .stuck
      | none => .stuck)
    | _ => .stuck)
  | _ => .stuck
theorem StX.put {xs xs' : List (NestedKey × Addr × Value)} {es' : Dc} (S : StX X k Hb0 σ0 ρ0 H0 p Hb σ ρ H es) (e : EsR X.K Hb es' xs') (hz : es'.length ≤ 100000) :
    StX X k Hb0 σ0 ρ0 H0 p Hb σ ρ (upd H p (RawD X.prog X.w p xs')) es' := by
  have pb := S.d.pb
  have no := S.d.no S.s.st
  refine ⟨⟨fun b o q n => ?_, fun b q => ?_, S.s.gr, S.s.gn, S.s.ow, S.s.io, S.s.len, ⟨fun b o q => ?_, S.s.st.len, fun i s q => ?_, S.s.st.dis⟩⟩, S.z, ⟨⟨xs', upd_same, e⟩, S.d.sl, pb, S.d.sys, hz⟩⟩
  · rw [upd_ne (fun z => by subst z; rw [S.z] at q; cases q)]
    exact S.s.fr b o q n
  · by_cases hb : b = p
    · subst hb; rw [upd_same] at q; cases q
    · rw [upd_ne hb] at q; exact S.s.th b q
  · rw [upd_ne (fun z => by subst z; rw [pb] at q; cases q)]
    exact S.s.st.sub b o q
  · obtain ⟨o, e1, e2⟩ := S.s.st.sl i s q
    refine ⟨o, e1, ?_⟩
    cases s with
    | un => trivial
    | va d => exact e2
    | ow io ys =>
      obtain ⟨b, us, rfl, h1, h2, h3⟩ := e2
      have nb : b ≠ p := fun z => by subst z; exact no ⟨i, e1, io, ys, q⟩
      exact ⟨b, us, rfl, by rw [upd_ne nb]; exact h1, h2, h3⟩
theorem xs_put {o i value : Expr} {mi me : M Rs} {pos pos' : Pos} (hu : X.A.units + 64 < cLine) (ho : PE X o (tVar k)) (hi : PE X i (tM X.K W0 mi)) (hv : PE X value (tM X.K W0 me)) (hs : swapsWith value (some (.Subscript o i pos')) pos.line X.env = pure false) :
    PS X (.Assign [.Subscript o i pos'] value pos) (tX X k (xPut mi me)) := by
  refine PS.imp (ps_jput hu ho hi hv hs) fun D σ H h => ?_
  obtain ⟨Hb0, σ0, ρ0, H0, Hb, ρ, p, es, S, P⟩ := h
  unfold xPut at P
  refine ⟨Hb, ρ, S.s.st, ?_⟩
  cases ea : me ρ with
  | stuck => rw [ea] at P; exact P.elim
  | er e ρ1 => rw [ea] at P; exact P.elim
  | ok r ρ1 =>
    rw [ea] at P
    cases r with
    | fr _ => exact P.elim
    | al _ => exact P.elim
    | va d =>
      intro v H1 Hb1 s1 r1
      simp only at P
      have S1 := S.stepE s1
      refine ⟨_, S1.d.sl, Hb1, ρ1, S1.s.st, ?_⟩
      cases eb : mi ρ1 with
      | stuck => rw [eb] at P; exact P.elim
      | er e ρ2 => rw [eb] at P; exact P.elim
      | ok rr ρ2 =>
        rw [eb] at P
        intro w H2 Hb2 s2 r2
        simp only at P
        have S2 := S1.stepE s2
        cases ek : keyOf ρ2 rr with
        | none => rw [ek] at P; exact P.elim
        | some q =>
          rw [ek] at P
          simp only at P
          by_cases hz : es.length < 100000
          · rw [if_pos hz] at P
            obtain ⟨b, d', rfl, i1, k1, k2⟩ := keyOf_ok s2.st r2 ek
            obtain ⟨xs, dj, er⟩ := S2.d.dj s2.st.sub
            refine ⟨p, xs, b, d', q, rfl, rfl, dj, ⟨k1, k2, Is.mono s2.st.sub _ _ i1⟩, fun u ru => ?_⟩
            have i2 : Is X.K Hb2 d v := Is.mono s2.gr _ _ r1
            have S3 := S2.put (xs := xs) (er.sto k1 k2 i1 ru i2) (Nat.le_trans stoD_len hz)
            exact P _ _ _ _ S3.s S3.z S3.d (s1.gr.trans s2.gr)
          · rw [if_neg hz] at P; exact P.elim
/-- while -/
def xWhile (t : Dc → M Bool) (b : NX) : Nat → NX
  | 0, _, _ => .stuck
  | n + 1, ρ, es => match t es ρ with
    | .ok c ρ1 => if c = true then (match b ρ1 es with
      | .nx ρ2 es2 => xWhile t b n ρ2 es2
      | o => o) else .nx ρ1 es
    | _ => .stuck
theorem xs_while {c : Expr} {body : List Stmt} {mt : Dc → M Bool} {nb : NX} {F : Nat} {pos : Pos} (hp : PassesOwn (model X.prog X.w) X.A X.env X.xe) (hc : PT X c (tXT X k mt)) (hb : PSs X body (tX X k nb)) : PS X (.While c body [] pos) (tX X k (xWhile mt nb F)) := by
  refine PS.imp (ps_while hp hc hb) fun D σ H h => ?_
  obtain ⟨Hb0, σ0, ρ0, H0, Hb, ρ, p, es, S, P⟩ := h
  refine ⟨fun m σ H => ∃ Hb ρ p es, StX X k Hb0 σ0 ρ0 H0 p Hb σ ρ H es ∧ PostX X k Hb0 σ0 ρ0 H0 D Hb (xWhile mt nb m ρ es), ⟨F, Hb, ρ, p, es, S, P⟩, ?_⟩
  rintro m σ H ⟨Hb, ρ, p, es, S, P⟩
  cases m with
  | zero => exact P.elim
  | succ m =>
    unfold xWhile at P
    refine tXT_then (f := fun c ρ1 => if c = true then (match nb ρ1 es with
      | .nx ρ2 es2 => xWhile mt nb m ρ2 es2
      | o => o) else .nx ρ1 es) S P fun b ρ1 H1 Hb1 S1 P1 => ?_
    cases b with
    | false => exact iteF (P1 σ H1 Hb1 p S1.s S1.z S1.d (Same.refl _))
    | true =>
      refine iteT ⟨fun σ' H' => ∃ Hb ρ p es, StX X k Hb0 σ0 ρ0 H0 p Hb σ' ρ H' es ∧ PostX X k Hb0 σ0 ρ0 H0 D Hb (xWhile mt nb m ρ es), fun σ' H' h => ⟨m, Nat.lt_succ_self m, h⟩, Hb0, σ0, ρ0, H0, Hb1, ρ1, p, es, S1, ?_⟩
      simp only [if_true] at P1
      cases eb : nb ρ1 es with
      | stuck => rw [eb] at P1; exact P1
      | nx ρ2 es2 => rw [eb] at P1; exact fun σ2 H2 Hb2 p2 s2 z2 d2 g2 => ⟨Hb2, ρ2, p2, es2, ⟨s2, z2, d2⟩, PostX.back g2 P1⟩
      | rt r ρ2 => rw [eb] at P1; exact P1
/-- for, the target a name -/
def forLX (i : Nat) (nb : NX) : List DL.D → NX
  | [], ρ, es => .nx ρ es
  | d :: ds, ρ, es => if i < ρ.length ∧ isIo ρ[i]? = false then (match nb (ρ.set i (.va d)) es with
    | .nx ρ2 es2 => forLX i nb ds ρ2 es2
    | o => o) else .stuck
def xFor (i : Nat) (m : M (List DL.D)) (nb : NX) : NX := fun ρ es => match m ρ with
  | .ok ds ρ1 => forLX i nb ds ρ1 es
  | _ => .stuck
theorem xs_for {i : Nat} {tgt iter : Expr} {body : List Stmt} {m : M (List DL.D)} {nb : NX} {pos : Pos} (hik : i ≠ k) (hp : PassesOwn (model X.prog X.w) X.A X.env X.xe) (hc : X.calm = true) (hi : PI X tgt iter (tI X.K W0 m)) (hg : PG X tgt (gName i)) (hb : PSs X body (tX X k nb))
    (hs : ∀ x, foldedSetIterable iter X.env x = pure x := by intro _; rfl) : PS X (.For tgt iter body [] pos) (tX X k (xFor i m nb)) := by
  refine PS.imp (ps_for hp hc hi hg hb hs) fun D σ0' H0' h => ?_
  obtain ⟨Hb0, σ0, ρ0, H0, Hb, ρ, p, es, S, P⟩ := h
  refine ⟨Hb, ρ, S.s.st, ?_⟩
  unfold xFor at P
  cases em : m ρ with
  | stuck => rw [em] at P; exact P.elim
  | er e ρ1 => rw [em] at P; exact P.elim
  | ok ds ρ1 =>
    rw [em] at P
    intro J H1 Hb1 s1 hJ
    have S1 := S.stepE s1
    refine ⟨fun n m σ H => m = ds.length - n ∧ n ≤ ds.length ∧ ∃ Hb2 ρ2 p es, StX X k Hb0 σ0 ρ0 H0 p Hb2 σ ρ2 H es ∧ Same Hb1 Hb2 ∧ PostX X k Hb0 σ0 ρ0 H0 D Hb2 (forLX i nb (ds.drop n) ρ2 es), ⟨ds.length, by simp, Nat.zero_le _, Hb1, ρ1, p, es, S1, Same.refl _, PostX.back s1.gr P⟩, ?_⟩
    rintro n m σ H ⟨rfl, hn, Hb2, ρ2, p, es, S2, sm, P2⟩
    by_cases hlt : n < ds.length
    · refine .inr ⟨hJ.go Hb2 H n sm S2.s.st.sub hlt, fun σ' H' => ∃ Hb3 ρ3 p es, StX X k Hb0 σ0 ρ0 H0 p Hb3 σ' ρ3 H' es ∧ Same Hb1 Hb3 ∧ PostX X k Hb0 σ0 ρ0 H0 D Hb3 (forLX i nb (ds.drop (n + 1)) ρ3 es), fun σ' H' ⟨Hb3, ρ3, p, es, h1, h2, h3⟩ => ⟨ds.length - (n + 1), by omega, rfl, hlt, Hb3, ρ3, p, es, h1, h2, h3⟩, fun x H' y => ?_⟩
      obtain ⟨Hb3, gr, hx⟩ := hJ.yld Hb2 H n x H' ds[n] sm S2.s.st.sub y (List.getElem?_eq_getElem hlt)
      have ed : ds.drop n = ds[n] :: ds.drop (n + 1) := List.drop_eq_getElem_cons hlt
      rw [ed] at P2
      unfold forLX at P2
      by_cases hz : i < ρ2.length ∧ isIo ρ2[i]? = false
      · rw [if_pos hz] at P2
        have S3 := S2.stepE (gr.ste S2.s.st)
        have S4 := S3.step (SteS.storeV S3.s.st (Ste.refl S3.s.st) hz.1 (nio_of hz.2) hx) (List.getElem?_set_ne hik)
        have sm3 : Same Hb1 Hb3 := sm.trans gr.gr
        have P3 := PostX.back gr.gr P2
        refine ⟨Hb0, σ0, ρ0, H0, Hb3, _, p, es, S4, ?_⟩
        cases eb : nb (ρ2.set i (.va ds[n])) es with
        | stuck => rw [eb] at P3; exact P3
        | nx ρ4 es4 =>
          rw [eb] at P3
          exact fun σ5 H5 Hb5 p5 s5 z5 d5 g5 => ⟨Hb5, ρ4, p5, es4, ⟨s5, z5, d5⟩, sm3.trans g5, PostX.back g5 P3⟩
        | rt r ρ4 => rw [eb] at P3; exact P3
      · rw [if_neg hz] at P2; exact P2.elim
    · have e : n = ds.length := by omega
      subst e
      rw [List.drop_length] at P2
      exact .inl ⟨hJ.stop Hb2 H sm S2.s.st.sub, P2 _ _ _ _ S2.s S2.z S2.d (Same.refl _)⟩
/-! ### the dict's making, and back to plain statements -/
def outX : OX → Out
  | .nx ρ _ => .nx ρ
  | .rt r ρ => .rt r ρ
  | .stuck => .stuck
def nDict (k : Nat) (n : NX) : N := fun ρ => if k < ρ.length ∧ isIo ρ[k]? = false then outX (n (ρ.set k .un) []) else .stuck
theorem SteS.storeU {K : PySem.W.Frag} {i : Nat} {o : Option V} (S : StR K Hb σ ρ H) (hi : i < ρ.length) (nio : isIo ρ[i]? = false) : SteS K Hb σ ρ H Hb (σ.set i o) (ρ.set i .un) H := by
  have hl : σ.length = ρ.length := S.len
  have own : ∀ {j b}, OwnAt (σ.set i o) (ρ.set i .un) j b → i ≠ j ∧ OwnAt σ ρ j b := fun {j b} h => by
    by_cases hij : i = j
    · subst hij
      obtain ⟨_, io, xs, q⟩ := h
      rw [List.getElem?_set_self hi] at q; cases q
    · exact ⟨hij, set_own hij h⟩
  refine ⟨fun _ _ h _ => h, fun _ h => h, Same.refl _, fun _ _ _ h _ => h, fun b ⟨j, h⟩ => .inl ⟨j, (own h).2⟩, fun k xs h => ?_, List.length_set, ⟨S.sub, by rw [List.length_set, List.length_set]; exact hl, fun j sl e => ?_, fun j k b hj hk => S.dis j k b (own hj).2 (own hk).2⟩⟩
  · have hik : i ≠ k := fun z => by subst z; exact nio_of nio xs h
    exact ⟨List.getElem?_set_ne hik, xs, by rw [List.getElem?_set_ne hik]; exact h⟩
  · by_cases hij : i = j
    · subst hij
      rw [List.getElem?_set_self hi] at e; cases e
      exact ⟨o, List.getElem?_set_self (by omega), trivial⟩
    · rw [List.getElem?_set_ne hij] at e
      obtain ⟨o, e1, e2⟩ := S.sl j sl e
      exact ⟨o, by rw [List.getElem?_set_ne hij]; exact e1, e2⟩
theorem SteS.growH {K : PySem.W.Frag} {Hb2 : Hp} (s : SteS K Hb σ ρ H Hb1 σ1 ρ1 H1) {o : HO} (hp : H1 p = none) : SteS K Hb σ ρ H Hb1 σ1 ρ1 (upd H1 p o) := by
  have pb : Hb1 p = none := Same.none s.st.sub hp
  refine ⟨fun b u e n => ?_, fun b e => ?_, s.gr, s.gn, s.ow, s.io, s.len, ⟨fun b u e => ?_, s.st.len, fun j sl e => ?_, s.st.dis⟩⟩
  · have := s.fr b u e n
    rw [upd_ne (fun z => by subst z; rw [hp] at this; cases this)]; exact this
  · by_cases hb : b = p
    · subst hb; rw [upd_same] at e; cases e
    · rw [upd_ne hb] at e; exact s.th b e
  · rw [upd_ne (fun z => by subst z; rw [pb] at e; cases e)]; exact s.st.sub b u e
  · obtain ⟨u, e1, e2⟩ := s.st.sl j sl e
    refine ⟨u, e1, ?_⟩
    cases sl with
    | un => trivial
    | va d => exact e2
    | ow io ys =>
      obtain ⟨b, us, rfl, h1, h2, h3⟩ := e2
      exact ⟨b, us, rfl, by rw [upd_ne (fun z => by subst z; rw [hp] at h1; cases h1)]; exact h1, h2, h3⟩
theorem ds_dict {W : WX} {x : Str} {pos pos' dpos : Pos} {rest : List Stmt} {n : NX} (hN : X.N.Nodup) (hi : X.N[k]? = some x) (hx : Loc X.env.scope x) (h : PSs X rest (tX X k n))
    (hf : X.fn x = true ∨ X.env.scope.names.lookup x = some .local := by first | exact .inl rfl | exact .inr rfl | assumption) (hs : swapsWith (.Dict [] [] dpos) (some (.Name x pos')) pos.line X.env = pure false := by rfl) : PSs X (.Assign [.Name x pos'] (.Dict [] [] dpos) pos :: rest) (tN X.K W (nDict k n)) := by
  refine PSs.imp (pss_cons (ps_set hN hi hx pe_dnewD hs hf) h) fun D σ H q => ?_
  obtain ⟨Hb, ρ, S, P⟩ := q
  unfold nDict at P
  by_cases hz : k < ρ.length ∧ isIo ρ[k]? = false
  · rw [if_pos hz] at P
    intro p hp sys
    have s0 := SteS.growH (Hb2 := Hb) (SteS.storeU (o := some (.ref p)) S hz.1 hz.2) (o := RawD X.prog X.w p []) hp
    have hl : k < σ.length := by rw [S.len]; exact hz.1
    refine ⟨Hb, σ, ρ, H, Hb, _, p, [], ⟨s0, hp, ⟨⟨[], upd_same, trivial⟩, List.getElem?_set_self hl, Same.none S.sub hp, sys, Nat.zero_le _⟩⟩, ?_⟩
    cases en : n (ρ.set k .un) [] with
    | stuck => rw [en] at P; exact P
    | nx ρ1 es1 => rw [en] at P; exact fun σ' H' Hb' p' s' _ _ _ => P σ' H' Hb' s'
    | rt r ρ1 => rw [en] at P; exact P
  · rw [if_neg hz] at P; exact P.elim
end
end DL

namespace DL
open PySem L2 PyProof.Rows
/-! ### max of one list of ints -/
def rMaxL (K : PySem.W.Frag) : List V → Hp → VK → Prop := fun vs H Q => ∃ (a : Addr) (ns : List Int), vs = [V.ref a] ∧ SqL K H a (ns.map V.int) ∧ 0 < ns.length ∧ ∀ m, m ∈ ns → (∀ y, y ∈ ns → y ≤ m) → Q (.int m) H
section
variable {X : Cx}
theorem call_maxL (hc : X.calm = true) : CallR X (.builtin "max") (rMaxL X.K) := by
  intro pins s σ H vs us Q I r h
  obtain ⟨a, ns, rfl, hS, hne, q⟩ := h
  obtain ⟨its, rv, ob, _⟩ := I.list hS
  have hl : its.toArray.size = ns.length := by rw [List.size_toArray, ← rv.length, List.length_map]
  rw [Vals.ref1 r]
  refine call_max_walk (iter_anyList ob.isList fun s₂ e0 st hfp hlI => ?_)
  subst e0
  refine ⟨_, _, _, _, _, _, _, rfl, Walks.list (A := X.A.in1) (I.ok.hd hc) _ a hlI its.toArray, st, hfp, by omega, CmpOf.ints_gt (fun i => ns.getD i 0) (fun _ _ e => int_at rv e), fun v h' tk e hk => ?_⟩
  obtain ⟨t, rfl⟩ := int_at rv e
  obtain ⟨b1, b2⟩ := argBest_gt (fun i => ns.getD i 0) (its.toArray.size - 1)
  refine ⟨.int _, H, I.kept (PySem.old_kept hk), ⟨_, rfl⟩, q _ (getD_in (by omega)) fun y hy => ?_⟩
  obtain ⟨j, hj, rfl⟩ := in_getD hy
  exact b2 j (by omega)
end
def maxLD : List DL.D → Option Rs
  | [.lst xs] => (match intsOf xs with
    | some (n :: ns) => some (.va (.int (maxI n ns)))
    | _ => none)
  | _ => none
theorem cd_maxL {K : PySem.W.Frag} : CallD K (rMaxL K) maxLD := by
  intro Hb H xs ds res Q s r e q
  unfold maxLD at e
  split at e
  · rename_i ys
    split at e
    · rename_i n ns ei
      cases e
      obtain ⟨v, rfl, h⟩ := pair1 r
      obtain ⟨p, vs, rfl, h1, i1⟩ := h.lst s
      rw [intsOf_is i1 ei] at h1
      refine ⟨p, n :: ns, rfl, h1, Nat.succ_pos _, fun m hm hall => ?_⟩
      obtain ⟨g1, g2⟩ := maxI_ok ns n
      rw [Int.le_antisymm (g2 m hm) (hall _ g1)]
      exact q _ Hb H (Gro.refl s) (Is.intI (K := K) (H := Hb))
    · cases e
  · cases e
/-! ### a test that all own lists are lent to -/
def frzS : Sl → Sl
  | .ow _ xs => .va (.lst xs)
  | s => s
def mLendT (t : M Bool) : M Bool := fun ρ => match t (ρ.map frzS) with
  | .ok b _ => .ok b ρ
  | _ => .stuck
open Classical in
noncomputable def lentH (σ : L2.St) (ρ : Rho) (Hb H : Hp) : Hp := fun b => if Own σ ρ b then H b else Hb b
theorem frz_no {σ : L2.St} {ρ : Rho} (b : Addr) : ¬ Own σ (ρ.map frzS) b := fun ⟨i, _, io, xs, e⟩ => by
  rw [List.getElem?_map] at e
  cases q : ρ[i]? with
  | none => rw [q] at e; cases e
  | some s => rw [q] at e; cases s <;> simp [frzS] at e
section
variable {K : PySem.W.Frag} {W : WX} {X : Cx} {σ : L2.St} {Hb H : Hp} {ρ : Rho}
theorem lent_gr (S : StR K Hb σ ρ H) : Same Hb (lentH σ ρ Hb H) := fun b o e => by
  unfold lentH
  by_cases c : Own σ ρ b
  · rw [if_pos c]; exact S.sub b o e
  · rw [if_neg c]; exact e
theorem lent_sub (S : StR K Hb σ ρ H) : Same (lentH σ ρ Hb H) H := fun b o e => by
  unfold lentH at e
  by_cases c : Own σ ρ b
  · rw [if_pos c] at e; exact e
  · rw [if_neg c] at e; exact S.sub b o e
theorem lent_st (S : StR K Hb σ ρ H) : StR K (lentH σ ρ Hb H) σ (ρ.map frzS) H := by
  refine ⟨lent_sub S, by rw [List.length_map]; exact S.len, fun i s e => ?_, fun i j b hi _ => (frz_no b ⟨i, hi⟩).elim⟩
  rw [List.getElem?_map] at e
  cases q : ρ[i]? with
  | none => rw [q] at e; cases e
  | some s0 =>
    rw [q] at e
    simp only [Option.map_some, Option.some.injEq] at e
    obtain ⟨o, e1, e2⟩ := S.sl i s0 q
    refine ⟨o, e1, ?_⟩
    subst e
    cases s0 with
    | un => trivial
    | va d =>
      obtain ⟨v, e3, i3⟩ := e2
      exact ⟨v, e3, Is.mono (lent_gr S) _ _ i3⟩
    | ow io xs =>
      obtain ⟨p, vs, rfl, h1, h2, h3⟩ := e2
      refine ⟨_, rfl, Is.lstI (xs := vs) (.inl (.inl ?_)) (IsA.mono (lent_gr S) _ _ h2)⟩
      unfold lentH
      rw [if_pos ⟨i, e1, io, xs, q⟩]
      exact h1
theorem lent_back {Hb' H' : Hp} {ρ' : Rho} (S : StR K Hb σ ρ H) (s : Ste K σ (lentH σ ρ Hb H) (ρ.map frzS) H Hb' ρ' H') : Ste K σ Hb ρ H Hb ρ H' := by
  have fr : ∀ b o, H b = some o → H' b = some o := fun b o e => s.fr b o e (frz_no b)
  refine ⟨fun b o e _ => fr b o e, s.th, Same.refl _, fun _ _ _ h _ => h, fun _ h => h, fun i xs h => ⟨xs, h⟩, ⟨fun b o e => fr b o (S.sub b o e), S.len, fun i s' e => ?_, S.dis⟩⟩
  obtain ⟨o, e1, e2⟩ := S.sl i s' e
  refine ⟨o, e1, ?_⟩
  cases s' with
  | un => trivial
  | va d => exact e2
  | ow io xs =>
    obtain ⟨p, vs, rfl, h1, h2, h3⟩ := e2
    exact ⟨p, vs, rfl, fr p _ h1, h2, h3⟩
theorem dt_lend {a : Expr} {m : M Bool} (h : PT X a (tT X.K W0 m)) : PT X a (tT X.K W (mLendT m)) := PT.imp h fun σ H Q h => by
  obtain ⟨Hb, ρ, S, P⟩ := h
  refine ⟨lentH σ ρ Hb H, ρ.map frzS, lent_st S, ?_⟩
  unfold mLendT at P
  cases em : m (ρ.map frzS) with
  | stuck => rw [em] at P; exact P.elim
  | er e ρ1 => rw [em] at P; exact P.elim
  | ok b ρ1 =>
    rw [em] at P
    exact fun H1 Hb1 s1 => P H1 Hb (lent_back S s1)
theorem dt_lendW {a : Expr} {m : M Bool} (h : PT X a (tT X.K W m)) (hw : W = W0 := by rfl) : PT X a (tT X.K W (mLendT m)) := by
  subst hw
  exact dt_lend h
end
theorem wLend {ρ : Rho} {t : M Bool} {Q : Bool → Rho → Prop} {E : Exn → Rho → Prop} (h : RW (t (ρ.map frzS)) (fun b _ => Q b ρ) no) : RW (mLendT t ρ) Q E := by
  obtain ⟨b, ρ1, e, q⟩ := h.eq
  unfold mLendT
  rw [e]
  exact q
/-! ### a statement that is never reached -/
section
variable {X : Cx} {W : WX}
theorem dn_stuck {st : Stmt} : PS X st (tN X.K W nStuck) := PS.imp ps_never fun _ _ _ h => by
  obtain ⟨_, _, _, P⟩ := h
  exact P
end
end DL

namespace DL
open PySem L2 PyProof.Rows
abbrev addIS : DL.D → DL.D → Option Rs := or2 (iop fun i j => some (.int (i + j))) catS
/-! ### what statements beside a dict come to -/
def XW (o : OX) (N : Rho → Dc → Prop) (R : Rs → Rho → Prop) : Prop := match o with
  | .nx ρ es => N ρ es
  | .rt r ρ => R r ρ
  | .stuck => False
theorem XW.mono {o : OX} {N N' : Rho → Dc → Prop} {R R' : Rs → Rho → Prop} (h : XW o N R) (h1 : ∀ ρ es, N ρ es → N' ρ es) (h2 : ∀ r ρ, R r ρ → R' r ρ) : XW o N' R' := by
  cases o with
  | nx ρ es => exact h1 _ _ h
  | rt r ρ => exact h2 _ _ h
  | stuck => exact h
section
variable {ρ : Rho} {es : Dc} {N : Rho → Dc → Prop} {R : Rs → Rho → Prop}
theorem wDict {k : Nat} {n : NX} {NN B C : Rho → Prop} {E : Exn → Rho → Prop} (hz : k < ρ.length ∧ isIo ρ[k]? = false) (h : XW (n (ρ.set k .un) []) (fun ρ1 _ => NN ρ1) R) : OW (nDict k n ρ) NN R B C E := by
  unfold nDict
  rw [if_pos hz]
  cases q : n (ρ.set k .un) [] with
  | nx ρ1 e1 => rw [q] at h; exact h
  | rt r ρ1 => rw [q] at h; exact h
  | stuck => rw [q] at h; exact h.elim
theorem xwNext (h : N ρ es) : XW (xNext ρ es) N R := h
theorem xwSeq {a b : NX} (h : XW (a ρ es) (fun ρ1 es1 => XW (b ρ1 es1) N R) R) : XW (xSeq a b ρ es) N R := by
  unfold xSeq
  cases q : a ρ es with
  | nx ρ1 e1 => rw [q] at h; exact h
  | rt r ρ1 => rw [q] at h; exact h
  | stuck => rw [q] at h; exact h.elim
theorem xwSet {i : Nat} {m : Dc → M Rs} (h : RW (m es ρ) (fun r ρ1 => OW (setR i r ρ1) (fun ρ2 => N ρ2 es) no (fun _ => False) (fun _ => False) no) no) : XW (xSet i m ρ es) N R := by
  unfold xSet
  cases q : m es ρ with
  | ok r ρ1 =>
    rw [q] at h
    have h : OW (setR i r ρ1) (fun ρ2 => N ρ2 es) no (fun _ => False) (fun _ => False) no := h
    simp only
    cases q2 : setR i r ρ1 with
    | nx ρ2 => rw [q2] at h; exact h
    | _ => rw [q2] at h; exact h.elim
  | er e ρ1 => rw [q] at h; exact h.elim
  | stuck => rw [q] at h; exact h.elim
theorem xwAug {f : DL.D → DL.D → Option Rs} {i : Nat} {m : Dc → M Rs} {dx : DL.D} (h0 : ρ[i]? = some (.va dx)) (h : RW (m es ρ) (fun r ρ1 => ∃ dy d, rd ρ1 r = some dy ∧ f dx dy = some (.va d) ∧ (i < ρ1.length ∧ isIo ρ1[i]? = false) ∧ N (ρ1.set i (.va d)) es) no) : XW (xAug f i m ρ es) N R := by
  unfold xAug
  rw [h0]
  simp only
  cases q : m es ρ with
  | ok r ρ1 =>
    rw [q] at h
    obtain ⟨dy, d, e1, e2, e3, n⟩ := h
    simp only [e1, e2, if_pos e3]; exact n
  | er e ρ1 => rw [q] at h; exact h.elim
  | stuck => rw [q] at h; exact h.elim
theorem xwIf {t : Dc → M Bool} {a b : NX} (h : RW (t es ρ) (fun c ρ1 => (c = true → XW (a ρ1 es) N R) ∧ (c = false → XW (b ρ1 es) N R)) no) : XW (xIf t a b ρ es) N R := by
  unfold xIf
  cases q : t es ρ with
  | ok c ρ1 =>
    rw [q] at h
    simp only
    cases c with
    | true => exact h.1 rfl
    | false => exact h.2 rfl
  | er e ρ1 => rw [q] at h; exact h.elim
  | stuck => rw [q] at h; exact h.elim
theorem xwRet {m : Dc → M Rs} (h : RW (m es ρ) R no) : XW (xRet m ρ es) N R := by
  unfold xRet
  cases q : m es ρ with
  | ok r ρ1 => rw [q] at h; exact h
  | er e ρ1 => rw [q] at h; exact h.elim
  | stuck => rw [q] at h; exact h.elim
theorem xwPut {mi me : M Rs} (h : RW (me ρ) (fun r ρ1 => ∃ d, r = .va d ∧ RW (mi ρ1) (fun r2 ρ2 => ∃ q, keyOf ρ2 r2 = some q ∧ es.length < 100000 ∧ N ρ2 (stoD es q d)) no) no) : XW (xPut mi me ρ es) N R := by
  unfold xPut
  cases q : me ρ with
  | ok r ρ1 =>
    rw [q] at h
    obtain ⟨d, rfl, h⟩ := h
    simp only
    cases q2 : mi ρ1 with
    | ok r2 ρ2 =>
      rw [q2] at h
      obtain ⟨k, e1, e2, n⟩ := h
      simp only [e1, if_pos e2]; exact n
    | er e ρ1 => rw [q2] at h; exact h.elim
    | stuck => rw [q2] at h; exact h.elim
  | er e ρ1 => rw [q] at h; exact h.elim
  | stuck => rw [q] at h; exact h.elim
theorem xwWhile {t : Dc → M Bool} {b : NX} {n : Nat} (h : RW (t es ρ) (fun c ρ1 => (c = true → XW (b ρ1 es) (fun ρ2 es2 => XW (xWhile t b n ρ2 es2) N R) R) ∧ (c = false → N ρ1 es)) no) : XW (xWhile t b (n + 1) ρ es) N R := by
  unfold xWhile
  cases q : t es ρ with
  | ok c ρ1 =>
    rw [q] at h
    simp only
    cases c with
    | false => exact h.2 rfl
    | true =>
      have w := h.1 rfl
      rw [if_pos rfl]
      cases q2 : b ρ1 es with
      | nx ρ2 e2 => rw [q2] at w; exact w
      | rt r ρ2 => rw [q2] at w; exact w
      | stuck => rw [q2] at w; exact w
  | er e ρ1 => rw [q] at h; exact h.elim
  | stuck => rw [q] at h; exact h.elim
theorem forLX_inv {i : Nat} {nb : NX} (Iv : Nat → Rho → Dc → Prop) : ∀ (ds : List DL.D) (k : Nat) (ρ : Rho) (es : Dc), Iv k ρ es →
    (∀ j d ρ es, ds[j]? = some d → Iv (k + j) ρ es → (i < ρ.length ∧ isIo ρ[i]? = false) ∧ XW (nb (ρ.set i (.va d)) es) (Iv (k + j + 1)) R) → (∀ ρ es, Iv (k + ds.length) ρ es → N ρ es) → XW (forLX i nb ds ρ es) N R
  | [], k, ρ, es, h, _, e => e ρ es h
  | d :: ds, k, ρ, es, h, s, e => by
    obtain ⟨e1, w⟩ := s 0 d ρ es rfl h
    unfold forLX
    rw [if_pos e1]
    cases q : nb (ρ.set i (.va d)) es with
    | stuck => rw [q] at w; exact w.elim
    | rt r ρ2 => rw [q] at w; exact w
    | nx ρ2 es2 =>
      rw [q] at w
      exact forLX_inv Iv ds (k + 1) ρ2 es2 w (fun j d ρ es e2 hi => by
        have := s (j + 1) d ρ es e2 (by rw [show k + (j + 1) = k + 1 + j by omega]; exact hi)
        rw [show k + (j + 1) = k + 1 + j by omega] at this
        exact this) fun ρ es h => e ρ es (by rw [List.length_cons, show k + (ds.length + 1) = k + 1 + ds.length by omega]; exact h)
theorem xwFor {i : Nat} {m : M (List DL.D)} {nb : NX} (h : RW (m ρ) (fun ds ρ1 => ∃ Iv : Nat → Rho → Dc → Prop, Iv 0 ρ1 es ∧ (∀ j d ρ es, ds[j]? = some d → Iv j ρ es → (i < ρ.length ∧ isIo ρ[i]? = false) ∧ XW (nb (ρ.set i (.va d)) es) (Iv (j + 1)) R) ∧ ∀ ρ es, Iv ds.length ρ es → N ρ es) no) : XW (xFor i m nb ρ es) N R := by
  unfold xFor
  cases q : m ρ with
  | ok ds ρ1 =>
    rw [q] at h
    obtain ⟨Iv, h0, hs, he⟩ := h
    exact forLX_inv Iv ds 0 ρ1 es h0 (fun j d ρ es e hi => by rw [Nat.zero_add] at hi ⊢; exact hs j d ρ es e hi) fun ρ es h => he ρ es (by rw [Nat.zero_add] at h; exact h)
  | er e ρ1 => rw [q] at h; exact h.elim
  | stuck => rw [q] at h; exact h.elim
theorem wNinX {a : M Rs} {QB : Bool → Rho → Prop} {E : Exn → Rho → Prop} (h : RW (a ρ) (fun r ρ1 => ∃ q, keyOf ρ1 r = some q ∧ QB (!(lkD es q).isSome) ρ1) E) : RW (mNinX a es ρ) QB E := by
  refine RW_bnd (h.mono (fun r ρ1 h => ?_) fun _ _ z => z)
  obtain ⟨q, e, h⟩ := h
  rw [e]; exact h
theorem wGetX {a : M Rs} {Q : Rs → Rho → Prop} {E : Exn → Rho → Prop} (h : RW (a ρ) (fun r ρ1 => ∃ q d, keyOf ρ1 r = some q ∧ lkD es q = some d ∧ Q (.va d) ρ1) E) : RW (mGetX a es ρ) Q E := by
  refine RW_bnd (h.mono (fun r ρ1 h => ?_) fun _ _ z => z)
  obtain ⟨q, d, e, e2, h⟩ := h
  simp only [e, e2]; exact h
end
end DL

namespace DL
open PySem L2 PyProof.Rows
/-! ### sum of one tuple of ints -/
def rSumT (K : PySem.W.Frag) : List V → Hp → VK → Prop := fun vs H Q => ∃ (a : Addr) (ns : List Int), vs = [V.ref a] ∧ SqT K H a (ns.map V.int) ∧ Q (.int ns.sum) H
theorem preSum_getD (ns : List Int) : ∀ n, n ≤ ns.length → preSum (fun i => ns.getD i 0) n = (ns.take n).sum
  | 0, _ => by simp [preSum]
  | n + 1, h => by
    rw [preSum, preSum_getD ns n (by omega), List.take_add_one, List.getElem?_eq_getElem (by omega), List.sum_append]
    simp [List.getD_eq_getElem?_getD, List.getElem?_eq_getElem (show n < ns.length by omega)]
theorem call_sumT {X : Cx} (hc : X.calm = true) : CallR X (.builtin "sum") (rSumT X.K) := by
  intro pins s σ H vs us Q I r h
  obtain ⟨a, ns, rfl, hS, q⟩ := h
  obtain ⟨its, rv, ob⟩ := inv_src (t := true) I hS
  have ob : s.heap.IsTuple a its.toArray := ob
  have lt := SrcOb.lt (t := true) ob
  have hl : its.toArray.size = ns.length := by rw [List.size_toArray, ← rv.length, List.length_map]
  rw [Vals.ref1 r]
  refine call_sum_walkG (wpAny_pyIter_tuple ob ⟨_, _, _, _, _, _, fun i => ns.getD i 0, rfl, Walks.tuple (A := X.A.in1) (I.ok.hd hc) _ a (Nat.ne_of_lt lt) its.toArray, ⟨⟨_, Heap.get?_push_size _ rfl, rfl, rfl⟩, ob.at fun o e => Heap.get?_push_of_some _ e⟩, foot_it lt, (fun _ _ e => int_at rv e), fun h' tk t' hk => ?_⟩)
  refine ⟨.int _, H, I.kept (after_it (a := a) hk), ⟨t', rfl⟩, ?_⟩
  rw [hl, preSum_getD ns _ (Nat.le_refl _), List.take_length]
  exact q
def sumTD : List DL.D → Option Rs
  | [.tup xs] => (match intsOf xs with
    | some ns => some (.va (.int ns.sum))
    | none => none)
  | ds => sumD ds
theorem cd_sumT {K : PySem.W.Frag} : CallD K (fun xs H Q => rSumT K xs H Q ∨ rSum K xs H Q) sumTD := by
  intro Hb H xs ds res Q s r e q
  unfold sumTD at e
  split at e
  · rename_i ys
    split at e
    · rename_i ns ei
      cases e
      obtain ⟨v, rfl, h⟩ := pair1 r
      obtain ⟨p, vs, rfl, h1, i1⟩ := h.tup s
      rw [intsOf_is i1 ei] at h1
      exact .inl ⟨p, ns, rfl, h1, q _ Hb H (Gro.refl s) (Is.intI (K := K) (H := Hb))⟩
    · cases e
  · exact .inr (cd_sum Hb H xs ds res Q s r e q)
end DL

/-! exceptions of the program's own classes, made with an __init__ of their own, by place or by name -/
namespace PySem
namespace DLX
section
variable {M : Model} {A : Around} {E : Value → Shared → Prop} {h : Heap} {g : Array GenState} {d : Drawn} {t : Nat} {os : OsState}
variable {nm q : Str} {C N : Addr} {bs bm bmB : List Value} {hdct : Bool} {sn : List Str} {sub : List Value} {ab : Bool} {col : Option Bool} {dd : Option Addr} {k0 k1 k2 k3 k5 : Option Value} {B newId initId : String}
theorem xk_check (F : ExcBaseFacts B newId initId bmB) (hT : ∀ X : String, bm.contains (.type X) = bmB.contains (.type X)) {rest : List Value} {kw : List (Str × Value)} {Q : Unit → Shared → Prop}
    (hC : h.get? C = some (excClassObj nm q C N bs bm hdct sn sub ab col dd k0 k1 k2 k3 k5 newId)) (hq : Q () ⟨h, g, d, t, os⟩) : wpAny M A (checkBuiltinCall newId ⟨.ref C :: rest, kw⟩) Q E ⟨h, g, d, t, os⟩ := by
  have c1 : (Value.ref C :: bm).contains (.type B) = true := by
    rw [List.contains_cons, hT, F.hasB]; simp
  have c2 := F.noStar
  simp only [checkBuiltinCall, F.newKind, F.newSplit, F.newRow]
  repeat (first | refine wpAny_loadPart_at hC ?_ | (refine wpAny_isSubtype_exc hC ?_; rw [c1]) | refine wpAny_staticBase_exc hC ?_ | refine wpAny_madeBy_exc hC ?_ | simp only [bne_self_eq_false, Bool.false_eq_true, if_false] | wp_step)
  exact hq
end
section
variable {prog : Program} {w : World} {A : Around} {E : Value → Shared → Prop} {R : Result → Shared → Prop} {h : Heap} {g : Array GenState} {d : Drawn} {t : Nat} {os : OsState}
variable {nm q : Str} {C N : Addr} {bs bm bmB : List Value} {hdct : Bool} {sn : List Str} {sub : List Value} {ab : Bool} {col : Option Bool} {dd : Option Addr} {k0 k1 k2 k3 k5 : Option Value} {B newId initId : String}
theorem xk_new (F : ExcBaseFacts B newId initId bmB) (hT : ∀ X : String, bm.contains (.type X) = bmB.contains (.type X)) {rest : List Value} {kw : List (Str × Value)}
    (hC : h.get? C = some (excClassObj nm q C N bs bm hdct sn sub ab col dd k0 k1 k2 k3 k5 newId))
    (hq : R (.ok (.ret (.ref (h.objs.size + 1)))) ⟨(h.push (PySem.W.kdv_tup rest)).push (HandSPX.excO C h.objs.size), g, d, t, os⟩) (hrest : rest.length ≤ sizeLine) :
    codeAny (model prog w) A (.builtin newId ⟨.ref C :: rest, kw⟩) R ⟨h, g, d, t, os⟩ := by
  have c0 := F.ends
  have c1 : (Value.ref C :: bm).contains (.type B) = true := by
    rw [List.contains_cons, hT, F.hasB]; simp
  have c2 : (Value.ref C :: bm).contains (.type "AttributeError") = false := by
    rw [List.contains_cons, hT, F.noAttr]; rfl
  have c3 : (Value.ref C :: bm).contains (.type "NameError") = false := by
    rw [List.contains_cons, hT, F.noName]; rfl
  refine codeAny_builtinAt F.entry ?_
  unfold Builtin.«BaseException.__new__»
  refine wpAt_bind ?_
  show wpAt _ _ _ (stack >>= _) _ _ _
  refine wpAt_bind (wpAt_stack fun _ _ => wpAt_of_wpAny ?_)
  wp_walk
  refine wpAt_of_wpAny ?_
  rw [F.owner]
  repeat (first | with_reducible refine wpAny_madeHere_exc F.canon hC ?_ | with_reducible refine wpAny_loadPart_at hC ?_ | (with_reducible refine wpAny_isSubtype_exc hC ?_; first | rw [c1] | rw [c2] | rw [c3]) | wp_step)
  show R _ _
  rw [Heap.size_push]
  exact hq
theorem xk_type (F : ExcBaseFacts B newId initId bmB) (hT : ∀ X : String, bm.contains (.type X) = bmB.contains (.type X)) {rest : List Value} {kw : List (Str × Value)} {fI : Addr} {Q : Fin → Shared → Prop}
    (hC : h.get? C = some (excClassObj nm q C N bs bm hdct sn sub ab col dd k0 k1 k2 k3 k5 newId))
    (hi : W.Looks (model prog w) h (typeLookup (.ref C) "__init__") (some (.ref fI))) (hb : ∀ self, W.Looks (model prog w) h (bindSpecial (.ref fI) self) (.ref fI, [self])) (hrest : rest.length ≤ sizeLine)
    (hq : codeAny (model prog w) A (.call (.ref fI) ⟨.ref (h.objs.size + 1) :: rest, kw⟩)
      (fun r s' => match r with | .ok (.ret v) => v = .none ∧ Q (.done (.ret (.ref (h.objs.size + 1)))) s' | .ok _ => False | .error e => E e s')
      ⟨(h.push (PySem.W.kdv_tup rest)).push (HandSPX.excO C h.objs.size), g, d, t, os⟩) :
    wpAny (model prog w) A (Builtin.«type.__call__» ⟨.ref C :: rest, kw⟩) Q E ⟨h, g, d, t, os⟩ := by
  repeat (first | with_reducible refine wpAny_loadPart_at hC ?_ | with_reducible refine wpAny_madeBy_exc hC ?_ | wp_step)
  refine codeAny_call_builtin_code (Code.quiet_builtin _ F.quiet) (xk_check F hT hC ?_)
  refine xk_new F hT hC ?_ hrest
  show wpAny _ _ _ _ _ _
  have kp : ∀ b o, h.get? b = some o → ((h.push (PySem.W.kdv_tup rest)).push (HandSPX.excO C h.objs.size)).get? b = some o := fun b o e => Heap.get?_push_of_some _ (Heap.get?_push_of_some _ e)
  have hC2 := kp _ _ hC
  have he2 : ((h.push (PySem.W.kdv_tup rest)).push (HandSPX.excO C h.objs.size)).get? (h.objs.size + 1) = some (HandSPX.excO C h.objs.size) := by heap_get
  have c1 : (Value.ref C :: bm).contains (.ref C) = true := by simp
  have i1 := hi.keeps kp
  have b1 := (hb (.ref (h.objs.size + 1))).keeps kp
  unfold isInstance
  repeat (first | with_reducible refine wpAny_loadPart_at he2 ?_ | (with_reducible refine wpAny_isSubtype_exc hC2 ?_; rw [c1]) | wp_step)
  show wpAny _ _ (typeLookup (.ref C) _) _ _ _
  refine i1.at ?_
  refine wpAny_holding (wpAny_bind (b1.at ?_))
  refine wpAny_bind (wpAny_call (codeAny_mono hq fun r s' z => ?_))
  rcases r with e | (v | _ | _ | _) <;> first | exact z | exact z.elim | skip
  obtain ⟨rfl, z⟩ := z
  first
    | exact wpAny_pure (wpAny_pure z)
    | (wp_walk; exact z)
theorem xk_call (F : ExcBaseFacts B newId initId bmB) (hT : ∀ X : String, bm.contains (.type X) = bmB.contains (.type X)) {rest : List Value} {kw : List (Str × Value)} {fI : Addr}
    (hC : h.get? C = some (excClassObj nm q C N bs bm hdct sn sub ab col dd k0 k1 k2 k3 k5 newId))
    (hi : W.Looks (model prog w) h (typeLookup (.ref C) "__init__") (some (.ref fI))) (hb : ∀ self, W.Looks (model prog w) h (bindSpecial (.ref fI) self) (.ref fI, [self])) (hrest : rest.length ≤ sizeLine)
    (hq : codeAny (model prog w) (A.under (.builtin "type.__call__" ⟨.ref C :: rest, kw⟩)) (.call (.ref fI) ⟨.ref (h.objs.size + 1) :: rest, kw⟩) (W.InitBack (h.objs.size + 1) R)
      ⟨(h.push (PySem.W.kdv_tup rest)).push (HandSPX.excO C h.objs.size), g, d, t, os⟩) :
    codeAny (model prog w) A (.call (.ref C) ⟨rest, kw⟩) R ⟨h, g, d, t, os⟩ := by
  have f1 := tc_lookup
  have f2 := tc_bind (.ref C)
  have f3 : (⟨h, g, d, t, os⟩ : Shared).TypeIs (.ref C) "type" := ⟨_, hC, rfl⟩
  refine codeAny_of_tree ?_
  show wpAny _ _ (callAny (.ref C) _) _ _ _
  repeat (any_goals (first | assumption | with_reducible refine wpAny_loadPart_at hC ?_ | wp_step))
  refine ⟨rfl, ?_⟩
  refine codeAny_call_builtin_at (Code.quiet_builtin _ (by decide +kernel)) entry_typeCall (wpAny_check_type_call_sub hC (xk_type F hT hC hi hb hrest ?_))
  refine codeAny_mono hq fun r s' z => ?_
  rcases r with e | (v | _ | _ | _) <;> exact z
end
end DLX
end PySem

/-! super().__init__('..'); self.f = f : the __init__ of a class of the program's own over ValueError -/
namespace PySem
namespace DLX
open PySem.W PySem.Calls PyProof.Rows
/-- the scope of such an __init__ -/
def iniSc (f : Str) : Scope := { kind := .function, names := [("self", .local), (f, .local), ("__class__", .free), ("super", .globalImplicit)], isGenerator := false, isCoroutine := false, more := [] }
def iniBd (f txt : Str) (p0 p1 p2 p3 p4 p5 q0 q1 q2 q3 : Pos) : List Stmt :=
  [.Expr (.Call (.Attribute (.Call (.Name "super" p0) [] [] p1) "__init__" p2) [.Constant (.str txt) 0 p3] [] p4) p5, .Assign [.Attribute (.Name "self" q0) f q1] (.Name f q2) q3]
abbrev iniNs (e : Addr) (f : Str) (u : Value) : List (Str × Value) := [(("self" : Str), .ref e), (f, u)]
/-- the names don't clash -/
structure FldOk (f : Str) : Prop where
  l : (iniSc f).names.lookup f = some NameKind.local
  c : (iniSc f).names.lookup ("__class__" : Str) = some NameKind.free
  s : (iniSc f).names.lookup ("super" : Str) = some NameKind.globalImplicit
  ns : (("self" : Str) == f) = false
  cells : ∀ x ∈ (iniSc f).names, x.2 ≠ .cell
  db : (f == ("__debug__" : Str)) = false
theorem fld_person : FldOk "person" := ⟨by rfl, by rfl, by rfl, by decide, by decide, by decide⟩
theorem fld_most : FldOk "most" := ⟨by rfl, by rfl, by rfl, by decide, by decide, by decide⟩
/-- how super().__init__('..') is reckoned: its places lie on one row -/
def EvIni (txt : Str) (p0 p1 p2 p3 p4 : Pos) : Prop := ∀ env : Env, ∃ pl : Sem Bool, eval (.Call (.Attribute (.Call (.Name "super" p0) [] [] p1) "__init__" p2) [.Constant (.str txt) 0 p3] [] p4) env = (do
  let ov ← attributeBase (.Call (.Name "super" p0) [] [] p1) "__init__" env (eval (.Call (.Name "super" p0) [] [] p1) env)
  standAt p2.atName
  let (f, first) ← holding [ov] (getMethod ov "__init__" pl)
  callWith p4 f first (backTo p4 (starEach [.Constant (.str txt) 0 p3] env)) [])
/-- what the written part says of such a class -/
structure XiC (P : Program) (K : Frag) (C fI : Addr) (fd : FuncData) (f : Str) : Prop where
  cls : ∃ nm q N bs bm sn sub ab col dd k0 k1 k2 k3 k5, K.lookup C = some (excClassObj nm q C N bs bm true sn sub ab col dd k0 k1 k2 k3 k5 "ValueError.__new__") ∧ HandSPX.refsVE bm = true
  sa : findIn K (.ref C) "__setattr__" = some (some (.builtin "object.__setattr__"))
  no : findIn K (.ref C) f = some none
  ini : findIn K (.ref C) "__init__" = some (some (.ref fI))
  tI : typeIn K (.ref fI) = some (.type "function")
  sup : ks_superIn K C C "__init__" = some (some (.builtin "ValueError.__init__"))
  tp : nsIn K cStatics "thirdparty.any" = some none
  sg : nsIn K mainGlobals "super" = some none
  sv : subIn K (.ref C) (.type "ValueError") = some true
  ss : mroIn K C (.ref C) = some true
  htop : (P.main.scope.names.lookup ("super" : Str)).isSome = false
  fn : ∃ (oc ccl cl : Value) (od cdd cld an : Option Addr) (qual txt file : Str) (params : Arguments) (dV kV doc pm ct : Value) (cda cc : Addr) (osl ccs csl : Array (Option Value)) (vs : Array Value) (tf : Tok) (ar : Arg) (p0 p1 p2 p3 p4 p5 q0 q1 q2 q3 : Pos),
    fd = ksFn "__init__" qual params (iniBd f txt p0 p1 p2 p3 p4 p5 q0 q1 q2 q3) (iniSc f) dV kV doc pm an (.ref cda) ct cc ∧ K.lookup fI = some ⟨oc, od, .func fd, osl⟩ ∧ codeIn K (.ref cda) qual = true ∧
    K.lookup cda = some ⟨ccl, cdd, .fields vs, ccs⟩ ∧ vs[2]? = some (.str file tf) ∧ ((P.main.file : Str) == file) = true ∧ K.lookup cc = some ⟨cl, cld, .cell (some (.ref C)), csl⟩ ∧ (params.posonlyargs ++ params.args).head? = some ar ∧ ar.arg = "self" ∧ EvIni txt p0 p1 p2 p3 p4
section
variable {prog : Program} {w : World} {A : Around} {E : Value → Shared → Prop} {h : Heap} {g : Array GenState} {d : Drawn} {t : Nat} {os : OsState}
variable {nm q : Str} {C N : Addr} {bs bm : List Value} {hdct : Bool} {sn : List Str} {sub : List Value} {ab : Bool} {col : Option Bool} {dd : Option Addr} {k0 k1 k2 k3 k5 : Option Value}
/-- ValueError.__init__, bound to e, called -/
theorem xi_mw {u e t0 : Addr} {rest : List Value} {Q : Value → Shared → Prop}
    (hC : h.get? C = some (excClassObj nm q C N bs bm hdct sn sub ab col dd k0 k1 k2 k3 k5 "ValueError.__new__")) (he : h.get? e = some (HandSPX.excO C t0)) (hu : h.get? u = some (kxs_mw "ValueError.__init__" e)) (hrest : rest.length ≤ sizeLine)
    (hq : ∀ h' t1, (∀ b o, b ≠ e → h.get? b = some o → h'.get? b = some o) → h'.get? e = some (HandSPX.excO C t1) → Q .none ⟨h', g, d, t, os⟩) :
    wpAny (model prog w) A (call (.ref u) rest) Q E ⟨h, g, d, t, os⟩ := by
  refine wpAny_call (codeAny_of_tree ?_)
  show wpAny _ A.in1 (callAny (.ref u) ⟨rest, []⟩) _ _ _
  simp only [callAny]
  refine wpAny_bind (wpAny_load hu ?_)
  have c1 : (Value.type "method-wrapper" == Value.type "method" || Value.type "method-wrapper" == Value.type "builtin_function_or_method" || Value.type "method-wrapper" == Value.type "method-wrapper") = true := by decide
  simp only [kxs_mw, c1, if_true]
  refine KFB.if_so (by decide) ?_
  refine wpAny_bind (check_bound_init F.excBase_ValueError.toExcCallFacts hC he rfl ?_)
  refine wpAny_bind (wpAny_pure (wpAny_pure ?_))
  refine ⟨plainId_quiet F.excBase_ValueError.init.plain _, codeAny_builtin F.excBase_ValueError.initEntry ?_⟩
  exact exc_init_tree (cls := .ref C) (t0 := t0) (dv := none) (c2 := .none) (c3 := .none) (b4 := .bool false) he hrest fun h' k z _ => hq h' _ k z
end
section
variable {P : Program} {w : World} {K : Frag} {mg : Str → Option Value} {base : Heap} {A : Around} {C fI e t0 : Addr} {fd : FuncData} {f : Str} {u : Value} {args : Args} {R : Result → Shared → Prop}
theorem xi_run {hp : Heap} {g : Array GenState} {d : Drawn} {t : Nat} {os : OsState} (T : XiC P K C fI fd f) (N : FldOk f) (Mo : L2.Mod K mg base) (bk : ∀ b o, base.get? b = some o → hp.get? b = some o) (hroom : A.depth < recursionLimit) (hbe : base.get? e = none)
    (he : hp.get? e = some (HandSPX.excO C t0)) (hbind : BindsTo ⟨hp, g, d, t, os⟩ fd args (iniNs e f u))
    (h : ∀ h' dx t1 tk, (∀ b o, b ≠ e → hp.get? b = some o → h'.get? b = some o) → hp.objs.size ≤ dx → dx ≠ e → h'.get? e = some ({ cls := .ref C, dict := some dx, data := .fields #[.ref t1, .none, .none, .none, .bool false, .none] } : Obj) →
      h'.Ns1 dx (fun y => if y = f then some u else none) → R (.ok (.ret .none)) ⟨h', g, d, tk, os⟩) :
    codeAny (model P w) A (.call (.ref fI) args) R ⟨hp, g, d, t, os⟩ := by
  obtain ⟨nm, q, Nn, bs, bm, sn, sub, ab, col, dd, k0, k1, k2, k3, k5, hC, hbm⟩ := T.cls
  obtain ⟨oc, ccl, cl, od, cdd, cld, an, qual, txt, file, params, dV, kV, doc, pm, ct, cda, cc, osl, ccs, csl, vs, tf, ar, p0, p1, p2, p3, p4, p5, q0, q1, q2, q3, rfl, hf, hco, hcd, hvs, hfile, hcc, hpar, har, hev⟩ := T.fn
  have X : K.In hp := Mo.kin.keeps bk
  refine ks_codeAny_call_defAt (binds := iniNs e f u) hroom (X _ _ hf) rfl (Mo.nolimit.keeps bk) (codeRec_of X hco) rfl hbind N.cells (fun x hx => ?_) (fun h0 hns k0' => ?_)
  · simp only [List.mem_cons, List.not_mem_nil, or_false] at hx
    rcases hx with rfl | rfl
    · rfl
    · exact N.l
  have X0 : K.In h0 := X.keeps k0'
  obtain ⟨oL, esL, epL, hoL, hrL⟩ := hns
  have hns : h0.Ns hp.objs.size (fun x => (iniNs e f u).reverse.lookup x) := ⟨oL, esL, epL, hoL, hrL⟩
  have eL : e ≠ hp.objs.size := Nat.ne_of_lt (Heap.lt_size he)
  have he0 := k0' _ _ he
  have hC0 : h0.get? C = _ := X0 _ _ hC
  have hcl : clsIn K C = some { name := nm, bases := bs, mro := .ref C :: bm, ns := Nn, qualname := q, hasDict := true, slotNames := sn, subclasses := sub, abstract := ab, collection := col, hasDel := false } := by unfold clsIn; rw [hC] <;> rfl
  have lself : (iniNs e f u).reverse.lookup ("self" : Str) = some (.ref e) := by
    simp [List.lookup, N.ns]
  have lfld : (iniNs e f u).reverse.lookup f = some u := by
    simp [List.lookup]
  obtain ⟨pl, hev⟩ := hev (callEnv (ksFn "__init__" qual params (iniBd f txt p0 p1 p2 p3 p4 p5 q0 q1 q2 q3) (iniSc f) dV kV doc pm an (.ref cda) ct cc) hp.objs.size fI)
  refine ks_wpAt_execs_cons (ks_wpAt_Expr_any (ks_wpAt_MethodCall (pl := pl) ?_ hev))
  refine ks_wpAt_super_base (env := callEnv _ hp.objs.size fI) N.s N.c (by decide) rfl (X0 _ _ hf) rfl hpar rfl (X0 _ _ hcd) rfl hvs hfile T.htop ?_
  obtain ⟨mb, hb1, hb2⟩ := Mo.blt
  have bk0 : ∀ b o, base.get? b = some o → h0.get? b = some o := fun b o z => k0' b o (bk b o z)
  refine ks_loadName_global rfl N.s (loadGlobal_builtin (env := callEnv _ hp.objs.size fI) (Mo.glob.keeps bk0) (mg_none_of Mo.kin Mo.glob T.sg) (hb1.keeps bk0) ((hb2 _ (by decide)).trans (by first | boot_by_name | rfl | kernel_rfl)) ⟨rfl, ?_⟩)
  refine wpAny_loadName_free rfl N.c rfl ⟨_, X0 _ _ hcc, rfl⟩ ?_
  rw [har]
  refine wpAny_loadName_local rfl rfl hns lself ?_
  refine ks_wpAny_isType_cls hC0 rfl ⟨rfl, ?_⟩
  refine ks_wpAny_call_super hC0 rfl he0 rfl (fun c z => nomatch z) (looks_mroIn X0 T.ss) (fun h1 e1 k1' => ?_)
  have X1 : K.In h1 := X0.keeps k1'
  have he1 := k1' _ _ he0
  have hC1 : h1.get? C = _ := X1 _ _ hC
  have I1 : InstAt h1 e (HandSPX.excO C t0) C none := ⟨he1, rfl, rfl, trivial⟩
  have eC : e ≠ C := fun z => by
    rw [z, hC1] at he1
    cases he1
  have hsup := T.sup
  unfold ks_superIn at hsup
  rw [hcl] at hsup
  refine kxs_getMethod kxs_ValueError e1 (looks_opaque X1 T.tp) (l₀ := .ref C :: bm) ((looks_clsIn X1 hcl).andThen .now) rfl X1 hsup (I1.type.andThen (looks_subIn X1 T.sv)) eC (by decide) ?_
  -- the bound __init__ is called
  have he2 : (h1.push (kxs_mw "ValueError.__init__" e)).get? e = _ := Heap.get?_push_of_some _ he1
  have hu2 : (h1.push (kxs_mw "ValueError.__init__" e)).get? h1.objs.size = some (kxs_mw "ValueError.__init__" e) := Heap.get?_push_at rfl rfl
  have hC2 : (h1.push (kxs_mw "ValueError.__init__" e)).get? C = _ := Heap.get?_push_of_some _ hC1
  refine kxs_callWith (i := "ValueError.__init__") (x := e) (pos := p4) (by rfl) ?_
  refine evalArgs_plain ?_
  show wpAny _ _ (spliced ((false, eval (.Constant (.str txt) 0 p3) (callEnv _ hp.objs.size fI)) :: backTo p4 (starEach [] (callEnv _ hp.objs.size fI)))) _ _ _
  refine Calls.spliced_cons (Calls.Constant_str (Calls.spliced_nil ⟨hu2, ?_⟩))
  refine xi_mw hC2 he2 hu2 (by show 1 ≤ sizeLine; rw [sizeLine_eq]; omega) (fun h3 t1 k3 he3 => ?_)
  -- self.f = f
  have k03 : ∀ b o, b ≠ e → h0.get? b = some o → h3.get? b = some o := fun b o hb z => k3 b o hb (Heap.get?_push_of_some _ (k1' b o z))
  have hns3 : h3.Ns hp.objs.size (fun x => (iniNs e f u).reverse.lookup x) := ⟨oL, esL, epL, k03 _ _ eL.symm hoL, hrL⟩
  have neK : ∀ b o, K.lookup b = some o → b ≠ e := fun b o z q => by
    have z2 := Mo.kin b o z
    rw [q, hbe] at z2
    cases z2
  have X3 : K.In h3 := fun b o z => k03 b o (neK b o z) (X0 b o z)
  refine ks_wpAt_execs_cons (ks_wpAt_Assign_Attr ?_)
  refine wpAt_of_wpAny (wpAny_Name (wpAny_loadName_local rfl N.l hns3 lfld ?_) N.db)
  refine wpAny_Name (wpAny_loadName_local rfl rfl hns3 lself ?_) (by decide)
  refine set_plain X3 (ox := HandSPX.excO C t1) (od := none) ⟨he3, rfl, rfl, trivial⟩ T.sa ?_
  refine HandSPX.exc_osa X3 he3 hcl (show HandSPX.refsVE (.ref C :: bm) = true from hbm) rfl T.no (fun h4 tk' dx k4 dn dne hx hn => ?_)
  have up : ∀ b o, b ≠ e → hp.get? b = some o → h4.get? b = some o := fun b o hb z => k4 b o hb (k03 b o hb (k0' b o z))
  have sz3 : hp.objs.size ≤ h3.objs.size := Nat.le_of_lt (Heap.lt_size (k03 _ _ eL.symm hoL))
  refine wpAt_of_wpAny (wpAny_execs_nil ?_)
  exact h h4 dx t1 _ up (Nat.le_trans sz3 dn) dne hx hn
end
end DLX
end PySem

namespace DL
open PySem L2 PyProof.Rows
section
variable {X : Cx} {pins : List (Addr × Obj)} {σ : L2.St} {H : Hp} {s : Shared}
theorem xd_ok {P : Program} {w : World} {H : Hp} {h : Heap} {dx : Addr} {fs : List (Str × V)} {mA : Str → Option Value} (hn : h.Ns1 dx mA) (r : ∀ f, RelO (fs.lookup f) (mA f)) : ObjOk P w H h dx (.xd fs) := ⟨mA, hn, r⟩
/-- an exception without a dict, new in the heap, is tracked -/
theorem inv_exh {h' : Heap} {a C t0 : Addr} {dv : Option Addr} {vs : Array Value} {tk : Nat} (I : Inv X pins σ H s) (k : ∀ b o, s.heap.get? b = some o → h'.get? b = some o) (hp : s.heap.objs.size ≤ a) (e : h'.get? a = some ({ cls := .ref C, dict := dv, data := .fields vs } : Obj)) :
    Inv X pins σ (upd H a (ExH C dv a)) { s with heap := h', toks := tk } := I.laid k hp (exh_ok e ⟨rfl, rfl⟩ rfl)
/-- an exception and its dict, both new in the heap -/
theorem inv_exd {h' : Heap} {a C dd : Addr} {vs : Array Value} {fs : List (Str × V)} {mA : Str → Option Value} {tk : Nat} (I : Inv X pins σ H s) (k : ∀ b o, s.heap.get? b = some o → h'.get? b = some o) (hp : s.heap.objs.size ≤ a) (hd : s.heap.objs.size ≤ dd) (ne : dd ≠ a)
    (e : h'.get? a = some ({ cls := .ref C, dict := some dd, data := .fields vs } : Obj)) (hn : h'.Ns1 dd mA) (r : ∀ f, RelO (fs.lookup f) (mA f)) :
    Inv X pins σ (upd (upd H dd (.xd fs)) a (ExH C (some dd) a)) { s with heap := h', toks := tk } := by
  have I1 : Inv X pins σ (upd H dd (.xd fs)) { s with heap := h', toks := tk } := I.laid k hd (xd_ok hn r)
  have na : H a = none := I.hok.fresh hp
  have lt : ∀ {b : Addr} {o : Obj}, s.heap.get? b = some o → b ≠ a := fun {b o} z q => by
    have := Heap.lt_size z
    rw [q] at this
    exact absurd (Nat.lt_of_lt_of_le this hp) (Nat.lt_irrefl _)
  refine inv_track I1 e rfl (by rw [upd_ne ne.symm]; exact na) (fun z => ?_) (I.nofs hp) (Heap.get?_none_of_le (Nat.le_trans I.sz hp)) (fun p hp' => lt (I.pin p hp').1) (exh_ok e ⟨rfl, rfl⟩ rfl)
  have := I.lt
  rw [← z] at this
  exact absurd (Nat.lt_of_lt_of_le this hp) (Nat.lt_irrefl _)
end
/-! ### C(), C(e): no __init__ of its own -/
section
variable {X : Cx} {C : Addr}
def rEx (C : Addr) (n : Nat) : List V → Hp → VK → Prop := fun xs H Q => xs.length = n ∧ ∀ a, H a = none → Q (.ref a) (upd H a (ExH C none a))
theorem call_ex {n : Nat} (hn : n ≤ 1) (q : PySem.W.excIn X.K C [.type "ValueError", .type "Exception", .type "BaseException", .type "object"] "ValueError.__new__" = true) : CallR X (.ref C) (rEx C n) := by
  intro pins s σ H xs us Q I r h
  obtain ⟨hl, h⟩ := h
  obtain ⟨bm, N, nm, qn, bs, hdct, sn, sub, ab, col, dd, k0, k1, k2, k3, k5, mN, hC, hN, hni, T⟩ := exc_obj I.kIn q
  have hus : us.length ≤ sizeLine := by rw [← r.length, hl, sizeLine_eq]; omega
  refine wpAny_call_exc_subT F.excBase_ValueError T hC hN hni (fun h' a hm => ?_) hus
  obtain ⟨t, ht, _, _⟩ := hm.there
  have na : H a = none := I.hok.gone hm.new
  exact ⟨.ref a, _, I.laidN hm.keeps hm.new na (exh_ok ht ⟨rfl, rfl⟩ rfl), rfl, h a na⟩
end
/-! ### C(e), C(f=e): an __init__ of its own -/
section
variable {X : Cx} {C fI : Addr} {fd : FuncData} {f : Str}
/-- how the arguments are bound -/
structure XiB (K : PySem.W.Frag) (fd : FuncData) (f : Str) : Prop where
  p : ∀ (s : Shared) (e : Addr) (u : Value), K.In s.heap → BindsTo s fd ⟨[.ref e, u], []⟩ (PySem.DLX.iniNs e f u)
  k : ∀ (s : Shared) (e : Addr) (u : Value), K.In s.heap → BindsTo s fd ⟨[.ref e], [(f, u)]⟩ (PySem.DLX.iniNs e f u)
def rXi (C : Addr) (f : Str) (y : V) : Hp → VK → Prop := fun H Q => ∀ a dd, H a = none → H dd = none → dd ≠ a → Q (.ref a) (upd (upd H dd (.xd [(f, y)])) a (ExH C (some dd) a))
theorem ini_call {k : Nat} {pins : List (Addr × Obj)} {σ : L2.St} {H : Hp} {s : Shared} {Q : VK} {y : V} {u : Value} {rest : List Value} {kw : List (Str × Value)} (T : PySem.DLX.XiC X.prog X.K C fI fd f) (N : PySem.DLX.FldOk f) (hr : Room (k + 1) X.A)
    (hb : ∀ (s : Shared) (e : Addr), X.K.In s.heap → BindsTo s fd ⟨.ref e :: rest, kw⟩ (PySem.DLX.iniNs e f u)) (hz : rest.length ≤ sizeLine) (I : Inv X pins σ H s) (r : RelV y u) (h : rXi C f y H Q) :
    wpAny (model X.prog X.w) X.A (call (.ref C) rest kw) (EP X pins σ Q) X.xe s := by
  obtain ⟨nm, q, Nn, bs, bm, sn, sub, ab, col, dd0, k0, k1, k2, k3, k5, hC, hbm⟩ := T.cls
  obtain ⟨hp, g, d, t, os⟩ := s
  have kp : ∀ b o, hp.get? b = some o → ((hp.push (PySem.W.kdv_tup rest)).push (PySem.HandSPX.excO C hp.objs.size)).get? b = some o := fun b o e => Heap.get?_push_of_some _ (Heap.get?_push_of_some _ e)
  have he : ((hp.push (PySem.W.kdv_tup rest)).push (PySem.HandSPX.excO C hp.objs.size)).get? (hp.objs.size + 1) = some (PySem.HandSPX.excO C hp.objs.size) := by heap_get
  have hbe : X.base.get? (hp.objs.size + 1) = none := by
    cases e : X.base.get? (hp.objs.size + 1) with
    | none => rfl
    | some o =>
      have := Heap.lt_size (I.bk _ _ e)
      exact absurd (Nat.lt_trans (Nat.lt_succ_self _) this) (Nat.lt_irrefl _)
  refine wpAny_call (PySem.DLX.xk_call F.excBase_ValueError (fun Y => PySem.HandSPX.refsVE_contains Y bm hbm) (I.kIn _ _ hC) (PySem.W.looks_findIn I.kIn T.ini) (fun self => PySem.W.bind_fn I.kIn self T.tI) hz ?_)
  refine PySem.DLX.xi_run (e := hp.objs.size + 1) (t0 := hp.objs.size) (u := u) T N I.ok.mod (fun b o e => kp b o (I.bk b o e)) (hr.make C rest kw).depth hbe he (hb _ _ fun b o e => kp b o (I.kIn b o e)) (fun h' dx t1 tk keep sz ne hx hn => ?_)
  have sz2 : hp.objs.size ≤ dx := Nat.le_trans (by rw [Heap.size_push, Heap.size_push]; omega) sz
  have ke : ∀ b o, hp.get? b = some o → h'.get? b = some o := fun b o e => keep b o (fun z => by
    have := Heap.lt_size e
    rw [z] at this
    exact absurd (Nat.lt_trans (Nat.lt_succ_self _) this) (Nat.lt_irrefl _)) (kp b o e)
  have J := inv_exd (fs := [(f, y)]) (tk := tk) I ke (Nat.le_succ _) sz2 ne hx hn (fun gg => relO_put (fs := []) (mA := fun _ => none) r (fun _ => True.intro) gg)
  refine ⟨rfl, .ref (hp.objs.size + 1), _, J, rfl, h _ _ (I.hok.fresh (Nat.le_succ _)) (I.hok.fresh sz2) ne⟩
def rIni (C : Addr) (f : Str) : List V → Hp → VK → Prop := fun xs H Q => ∃ y, xs = [y] ∧ rXi C f y H Q
theorem call_ini {k : Nat} (T : PySem.DLX.XiC X.prog X.K C fI fd f) (N : PySem.DLX.FldOk f) (B : XiB X.K fd f) (hr : Room (k + 1) X.A) : CallR X (.ref C) (rIni C f) := by
  intro pins s σ H xs us Q I r h
  obtain ⟨y, rfl, h⟩ := h
  cases r with
  | @cons _ u _ _ ry rn =>
    cases rn
    exact ini_call T N hr (fun s e x => B.p s e u x) (by show 1 ≤ sizeLine; rw [sizeLine_eq]; omega) I ry h
theorem call_iniK {k : Nat} (T : PySem.DLX.XiC X.prog X.K C fI fd f) (N : PySem.DLX.FldOk f) (B : XiB X.K fd f) (hr : Room (k + 1) X.A) {pins : List (Addr × Obj)} {σ : L2.St} {H : Hp} {s : Shared} {xs : List V} {us : List Value} {Q : VK} (I : Inv X pins σ H s) (r : Vals xs us) (h : rIni C f xs H Q) :
    wpAny (model X.prog X.w) X.A (call (.ref C) [] ([f].zip us)) (EP X pins σ Q) X.xe s := by
  obtain ⟨y, rfl, h⟩ := h
  cases r with
  | @cons _ u _ _ ry rn =>
    cases rn
    exact ini_call T N hr (fun s e x => B.k s e u x) (by rw [sizeLine_eq]; show 0 ≤ _; omega) I ry h
end
/-! ### the expressions -/
section
variable {X : Cx} {W : WX} {C : Addr} {x f : Str} {p pos : Pos} {e : Expr} {es : List Expr} {r : List V → Hp → VK → Prop} {g : List DL.D → Option Rs} {as : M (List Rs)}
theorem dm_callC (hc : CallR X (.ref C) r) (hr : CallD X.K r g) (hg : Gl X x) (hm : X.mg x = some (.ref C)) (hk : PySem.W.keepIn X.K (.ref C) = true) (ha : PA X (e :: es) (tA X.K W as))
    (hdb : (x == ("__debug__" : Str)) = false := by decide) (he : starEach (e :: es) X.env = (false, eval e X.env) :: starEach es X.env := by rfl) (hpl : (backTo pos (starEach es X.env)).any (·.1) = false := by rfl) :
    PE X (.Call (.Name x p) (e :: es) [] pos) (tM X.K W (mBi g as)) := by
  refine PE.imp (t := tCB r (tA X.K W as)) ⟨fun pins s σ H Q I h => ?_⟩ fun _ _ _ => tM_bi hr
  refine wpAny_Call_Name_kw (ld_glob I hg hm ?_ hdb)
  exact PySem.W.callWith_K (h₀ := X.base) I.ok.mod.kin hk (thn (ha.run pos pins s σ H _ I h) fun us s1 ⟨vs, H1, I1, r1, q1⟩ => ⟨I1.kIn, hc pins s1 σ H1 vs us Q I1 r1 q1⟩) he hpl
theorem dm_callC0 (hc : CallR X (.ref C) r) (hr : CallD X.K r g) (hg : Gl X x) (hm : X.mg x = some (.ref C)) (hk : PySem.W.keepIn X.K (.ref C) = true)
    (hdb : (x == ("__debug__" : Str)) = false := by decide) : PE X (.Call (.Name x p) [] [] pos) (tM X.K W (mBi g mNil)) := by
  refine PE.imp (t := tCB r tNil) ⟨fun pins s σ H Q I h => ?_⟩ fun σ H Q h => ?_
  · refine wpAny_Call_Name_kw (ld_glob I hg hm ?_ hdb)
    exact PySem.W.callWith_K0 I.kIn hk (hc pins s σ H [] [] Q I .nil h)
  · obtain ⟨Hb, ρ, S, P⟩ := tM_bi (W := W) hr h
    exact P [] H Hb (Ste.refl S) .nil
theorem dm_callCK {kpos : Pos} (hc : ∀ {pins : List (Addr × Obj)} {σ : L2.St} {H : Hp} {s : Shared} {xs : List V} {us : List Value} {Q : VK}, Inv X pins σ H s → Vals xs us → r xs H Q → wpAny (model X.prog X.w) X.A (call (.ref C) [] ([f].zip us)) (EP X pins σ Q) X.xe s)
    (hr : CallD X.K r g) (hg : Gl X x) (hm : X.mg x = some (.ref C)) (hk : PySem.W.keepIn X.K (.ref C) = true) (ha : PK X [⟨some f, e, kpos⟩] (tA X.K W as))
    (hdb : (x == ("__debug__" : Str)) = false := by decide) : PE X (.Call (.Name x p) [] [⟨some f, e, kpos⟩] pos) (tM X.K W (mBi g as)) := by
  refine PE.imp (t := tCB r (tA X.K W as)) ⟨fun pins s σ H Q I h => ?_⟩ fun _ _ _ => tM_bi hr
  refine wpAny_Call_Name_kw (ld_glob I hg hm ?_ hdb)
  refine PySem.W.callWith_KW0 (h₀ := X.base) I.ok.mod.kin hk rfl ?_ rfl
  exact thn (ha.run pos pins s σ H _ I h) fun us s1 ⟨vs, H1, I1, r1, q1⟩ => ⟨I1.kIn, hc I1 r1 q1⟩
end
end DL

namespace PySem
namespace DLX
open PySem.W PySem.Calls PyProof.Rows
section
variable {prog : Program} {w : World} {A : Around} {E : Value → Shared → Prop} {s : Shared} {K : Frag} {x D : Addr} {ox : Obj} {od : Option Obj}
theorem find_dataX {C : Addr} {name : Str} {a g : Value} (hc : (clsIn K C).isSome = true) (ha : findIn K (.ref C) name = some (some a)) (hg : specialIn K a "__get__" = some (some g)) (ht : takesIn K a = some true) : findObj K C od name = some (.bind g a) := by
  obtain ⟨cd, hc⟩ := Option.isSome_iff_exists.mp hc
  unfold findObj
  rw [hc, Option.bind_some, ha, Option.bind_some]
  simp [hg, ht]
/-- e.__class__ of an exception with a dict of its own -/
theorem kin_classX {Q : Option Value → Shared → Prop} (T : L2.ExcC K D) (X : K.In s.heap) (I : InstAt s.heap x ox D od) (h : Q (some (.ref D)) { s with toks := s.toks + 1 }) : wpAny (model prog w) A (getAttr? (.ref x) "__class__") Q E s := by
  have hf : findObj K D od "__class__" = some (.bind (.builtin "getset_descriptor.__get__") (.builtin "object.__class__")) := find_dataX (by obtain ⟨cd, hc, _⟩ := any_some T.hd; rw [hc]; rfl) T.ha T.hn T.ht
  obtain ⟨hp, g, d, t, os⟩ := s
  have l0 := I.type (M := model prog w)
  have l1 := looks_findIn (M := model prog w) X T.hg
  have l2 := looks_findIn (M := model prog w) X T.hk
  have l3 := looks_find (M := model prog w) X I hf
  have sb : Looks (model prog w) hp (isInstance (.ref x) (.type "BaseException")) true := l0.andThen (looks_subIn X T.hs)
  have n2 : (Value.builtin "BaseException.__getattribute__" == Value.builtin "object.__getattribute__") = false := by decide +kernel
  have n1 : (onTheHeap (Value.ref D) && Value.builtin "BaseException.__getattribute__" == Value.builtin "object.__getattribute__") = false := by rw [n2]; rfl
  have n0 : (false && onTheHeap (Value.builtin "BaseException.__getattribute__")) = false := rfl
  unfold getAttr? getAttrBy? getAttrBy
  refine wpAny_bind (wpAny_mkText (wpAny_bind (wpAny_attempt (wpAny_holding (wpAny_bind (l0.at (wpAny_bind (l1.at ?_))))))))
  show wpAny _ _ (if (onTheHeap (Value.ref D) && Value.builtin "BaseException.__getattribute__" == Value.builtin "object.__getattribute__") = true then _ else _) _ _ _
  rw [n1, if_neg Bool.false_ne_true]
  unfold getAttrByItsOwn hookBefore
  refine wpAny_bind ?_
  rw [if_pos (show onTheHeap (Value.ref D) = true from rfl)]
  refine l2.at ?_
  refine wpAny_bind (wpAny_attempt (wpAny_holding ?_))
  unfold callGetattribute
  rw [n0, if_neg Bool.false_ne_true]
  unfold boundAndCalled
  rw [PySem.F.excAttr_ValueError.ga.bind (.ref x)]
  refine wpAny_bind (wpAny_pure ?_)
  show wpAny _ _ (call (.builtin "BaseException.__getattribute__") [.ref x, .str "__class__" t]) _ _ _
  refine wpAny_call (codeAny_call_builtin PySem.F.excAttr_ValueError.ga.plain PySem.F.entry_bexc_ga ?_)
  refine @check_slot (model prog w) _ _ ⟨hp, g, d, t + 1, os⟩ "BaseException.__getattribute__" "BaseException" "__getattribute__" (.ref x) [.str "__class__" t] [] _ (by decide +kernel) (by decide +kernel) sb (PySem.F.args_bexc_ga (.ref x) (.str "__class__" t)) ?_
  unfold Builtin.«object.__getattribute__»
  refine wpAny_bind (wpAny_of_eq (a := ((Value.ref x : Value), [Value.str "__class__" t])) (by first | rfl | (simp only [slotArgs]; rfl)) ?_)
  refine wpAny_bind (wpAny_pure (wpAny_bind (l0.at (wpAny_bind (l3.at ?_)))))
  show wpAny _ _ (holding [Value.builtin "object.__class__"] (call (.builtin "getset_descriptor.__get__") [.builtin "object.__class__", .ref x, .ref D]) >>= ret) _ _ _
  refine wpAny_bind (wpAny_holding (wpAny_call (class_get (s := ⟨hp, g, d, t + 1, os⟩) (ox := ox) (od := od) X I T.hm ?_)))
  refine wpAny_pure ?_
  show wpAny _ _ (handedOut (.ref D)) _ _ _
  rw [handedOut_of (v := .ref D) rfl]
  first
    | exact wpAny_pure (wpAny_pure h)
    | exact wpAny_pure h
    | exact wpAny_pure (wpAny_bind (wpAny_pure (wpAny_pure h)))
theorem kitx_X (T : L2.ExcC K D) : KitX K (.ref x) (.ref D) (fun h => InstAt h x ox D od) where
  ty := fun _ _ _ I => I.type
  it := fun _ _ X _ => by
    obtain ⟨cdD, hcD, _⟩ := any_some T.hd
    unfold clsIn at hcD
    split at hcD
    · rename_i c1 d1 cd1 sl1 ho
      intro A2 Q2 E2 s2 k q
      unfold isType loadHead
      exact wpAny_bind (wpAny_loadPart (k _ _ (X _ _ ho)) (wpAny_pure q))
    · cases hcD
  ne := (handS_kitx_exc (x := x) (ox := ox) T.hg T.hk T.hs T.hd T.ha T.hn T.ht T.hm).ne
  ca := fun X I k => kin_classX T X I k
end
end DLX
end PySem

namespace DL
open PySem L2 PyProof.Rows
/-! ### isinstance of own exceptions, with a field or without -/
def rIsY (K : PySem.W.Frag) : List V → Hp → VK → Prop := fun xs H Q => ∃ (a D : Addr) (d : Option Addr) (c : V) (cv : Value) (b : Bool), xs = [.ref a, c] ∧ (∀ u, RelV c u → u = cv) ∧ H a = some (ExH D d a) ∧ (∀ dd, d = some dd → ∃ fs, H dd = some (.xd fs)) ∧ ExcC K D ∧ PySem.W.kitOne K (.ref D) cv = some b ∧ Q (.bl b) H
theorem exh_at {X : Cx} {pins : List (Addr × Obj)} {σ : L2.St} {H : Hp} {s : Shared} {a D : Addr} {d : Option Addr} (I : Inv X pins σ H s) (hH : H a = some (ExH D d a)) (hd : ∀ dd, d = some dd → ∃ fs, H dd = some (.xd fs)) : ∃ oe od, PySem.W.InstAt s.heap a oe D od := by
  obtain ⟨⟨oe, vs, hget, h1, h2, hv⟩, _⟩ := (show ObjOk X.prog X.w H s.heap a (ExH D d a) from I.hok a _ hH)
  have nc : PySem.W.notCls oe = true := by unfold PySem.W.notCls; rw [hv] <;> rfl
  cases d with
  | none => exact ⟨oe, none, hget, h1, nc, by rw [h2]; trivial⟩
  | some dd =>
    obtain ⟨fs, hx⟩ := hd dd rfl
    obtain ⟨mA, hns, _⟩ := (show ObjOk X.prog X.w H s.heap dd (.xd fs) from I.hok dd _ hx)
    obtain ⟨od, ho, _⟩ := lookIn_ns hns
    exact ⟨oe, some od, hget, h1, nc, by rw [h2]; exact ho⟩
theorem call_isY {X : Cx} : CallR X (.builtin "isinstance") (rIsY X.K) := by
  intro pins s σ H xs us Q I r h
  obtain ⟨a, D, d, c, cv, b, rfl, hcv, hH, hd, C, e, q⟩ := h
  obtain ⟨u1, u2, rfl, r1, r2⟩ := vals2 r
  cases (show u1 = Value.ref a from r1)
  cases hcv _ r2
  obtain ⟨oe, od, J⟩ := exh_at I hH hd
  exact PySem.W.kia_one (PySem.DLX.kitx_X C) I.kIn J e (fun z => nomatch z) fun tk => ⟨.bl b, H, I.kept (t' := tk) fun _ _ z => z, rfl, q⟩
def isiF (cl ks : List Nat) : List DL.D → Option Rs
  | [.exc j _, .cls k] => if (cl.contains j && ks.contains k) = true then some (.va (.bl (subK j k))) else none
  | [.non, .cls k] => if ks.contains k = true then some (.va (.bl false)) else none
  | [.exc j _, .ty n] => if (cl.contains j && n == "ValueError") = true then some (.va (.bl true)) else none
  | ds => isiD ds
section
variable {K : PySem.W.Frag}
theorem is_excY {Hb H : Hp} {j : Nat} {x : DL.D} {v : V} (s : Same Hb H) (h : RdR K Hb H (.exc j x) v) : ∃ a c d, ClsAt K j c ∧ v = .ref a ∧ H a = some (ExH c d a) ∧ (∀ dd, d = some dd → ∃ fs, H dd = some (.xd fs)) := by
  rcases h with h | ⟨_, _, _, e, _⟩
  · simp only [Is] at h
    obtain ⟨a, c, hc, rfl, h | ⟨hk, dd, y, h1, h2, _⟩⟩ := h
    · exact ⟨a, c, none, hc, rfl, s _ _ h.2.2, fun _ z => by cases z⟩
    · exact ⟨a, c, some dd, hc, rfl, s _ _ h1, fun d2 z => by cases z; exact ⟨_, s _ _ h2⟩⟩
  · cases e
theorem cd_isiF {cl ks : List Nat} (O : IsiOk K cl ks) : CallD K (fun xs H Q => rIsY K xs H Q ∨ rIsi K xs H Q) (isiF cl ks) := by
  intro Hb H xs ds res Q s r e q
  unfold isiF at e
  split at e
  · rename_i j x k
    by_cases hc : (cl.contains j && ks.contains k) = true
    · rw [if_pos hc] at e; cases e
      rw [Bool.and_eq_true] at hc
      obtain ⟨v, w, rfl, h, h2⟩ := pair2 r
      obtain ⟨a, c, d, h1, rfl, h3, hd⟩ := is_excY s h
      obtain ⟨c', h4, rfl⟩ := is_cls h2
      exact .inl ⟨a, c, d, .ref c', .ref c', _, rfl, fun u hu => hu, h3, hd, O.ex j c hc.1 h1, O.kk j c k c' hc.1 hc.2 h1 h4, q _ Hb H (Gro.refl s) (Is.blI (K := K) (H := Hb))⟩
    · rw [if_neg hc] at e; cases e
  · rename_i k
    by_cases hc : ks.contains k = true
    · rw [if_pos hc] at e; cases e
      obtain ⟨v, w, rfl, h, h2⟩ := pair2 r
      obtain ⟨c', h4, rfl⟩ := is_cls h2
      exact .inr ⟨v, .ref c', .type "NoneType", .ref c', false, rfl, .own c', by rw [h.non]; exact .base .non, O.kn k c' hc h4, q _ Hb H (Gro.refl s) (Is.blI (K := K) (H := Hb))⟩
    · rw [if_neg hc] at e; cases e
  · rename_i j x n
    by_cases hc : (cl.contains j && n == "ValueError") = true
    · rw [if_pos hc] at e; cases e
      rw [Bool.and_eq_true] at hc
      have en : n = "ValueError" := by simpa using hc.2
      subst en
      obtain ⟨v, w, rfl, h, h2⟩ := pair2 r
      obtain ⟨a, c, d, h1, rfl, h3, hd⟩ := is_excY s h
      rw [is_ty h2]
      exact .inl ⟨a, c, d, .ty "ValueError", .type "ValueError", true, rfl, fun u hu => hu, h3, hd, O.ex j c hc.1 h1, O.kv j c hc.1 h1, q _ Hb H (Gro.refl s) (Is.blI (K := K) (H := Hb))⟩
    · rw [if_neg hc] at e; cases e
  · exact .inr (cd_isi Hb H xs ds res Q s r e q)
/-! ### made: by the data -/
def exD (k n : Nat) : List DL.D → Option Rs := fun ds => if ds.length = n then some (.va (.exc k .non)) else none
theorem cd_ex {k n : Nat} {C : Addr} (hk : ClsAt K k C) (h11 : k < 11) : CallD K (rEx C n) (exD k n) := by
  intro Hb H xs ds res Q s r e q
  unfold exD at e
  by_cases hl : ds.length = n
  · rw [if_pos hl] at e; cases e
    refine ⟨by rw [← hl]; exact (Paired.length r).symm, fun a na => q _ _ _ (Gro.newT s na) ?_⟩
    show Is K _ (.exc k .non) (.ref a)
    simp only [Is]
    exact ⟨a, C, hk, rfl, .inl ⟨h11, trivial, upd_same⟩⟩
  · rw [if_neg hl] at e; cases e
def xiD (k : Nat) : List DL.D → Option Rs
  | [.lst _] => none
  | [d] => some (.va (.exc k d))
  | _ => none
theorem cd_ini {k : Nat} {C : Addr} (hk : ClsAt K k C) (h11 : 11 ≤ k) : CallD K (rIni C (fldStr k)) (xiD k) := by
  intro Hb H xs ds res Q s r e q
  unfold xiD at e
  split at e
  · cases e
  · rename_i d hne
    cases e
    obtain ⟨v, rfl, h⟩ := pair1 r
    have iv : Is K Hb d v := by
      rcases h with h | ⟨p, vs, ys, e, _⟩
      · exact h
      · exact (hne ys e).elim
    refine ⟨v, rfl, fun a dd na nd ne => ?_⟩
    have g1 : Gro Hb H (upd Hb dd (.xd [(fldStr k, v)])) (upd H dd (.xd [(fldStr k, v)])) := Gro.newT s nd
    have na1 : (upd H dd (HO.xd [(fldStr k, v)])) a = none := by rw [upd_ne ne.symm]; exact na
    have g2 := Gro.newT (o := ExH C (some dd) a) g1.sub na1
    refine q _ _ _ (g1.trans g2) ?_
    show Is K _ (.exc k d) (.ref a)
    simp only [Is]
    refine ⟨a, C, hk, rfl, .inr ⟨h11, dd, v, upd_same, ?_, Is.mono (g1.trans g2).gr _ _ iv⟩⟩
    rw [upd_ne ne]; exact upd_same
  · cases e
end
/-! ### e.f -/
def atD (cl : List Nat) (f : Str) : DL.D → Option Rs
  | .exc k x => if (decide (11 ≤ k) && (cl.contains k && decide (fldStr k = f))) = true then some (.va x) else none
  | _ => none
def rAt (K : PySem.W.Frag) (f : Str) : V → Hp → VK → Prop := fun x H Q => ∃ (a D dd : Addr) (fs : List (Str × V)) (v : V), x = .ref a ∧ H a = some (ExH D (some dd) a) ∧ H dd = some (.xd fs) ∧ fs.lookup f = some v ∧ XfC K D ∧ PySem.W.findIn K (.ref D) f = some none ∧ Q v H
theorem pe_at {X : Cx} {e : Expr} {te : TE} {f : Str} {pos : Pos} (he : PE X e te) (hb : attributeBase e f X.env (eval e X.env) = eval e X.env := by rfl) : PE X (.Attribute e f pos) (tUn (rAt X.K f) te) := by
  refine ⟨fun pins s σ H Q I h => ?_⟩
  refine attr_of hb (thn (he.run pins s σ H _ I h) fun u s1 ⟨x, H1, I1, rx, a, D, dd, fs, v, ex, ea, ed, l, T, hno, q⟩ => ?_)
  subst ex
  obtain rfl : u = Value.ref a := rx
  obtain ⟨⟨oe, vs, hget, h1, h2, hv⟩, _⟩ := (show ObjOk X.prog X.w H1 s1.heap a (ExH D (some dd) a) from I1.hok a _ ea)
  obtain ⟨mA, hns, hr⟩ := (show ObjOk X.prog X.w H1 s1.heap dd (.xd fs) from I1.hok dd _ ed)
  obtain ⟨od, ho, hl⟩ := lookIn_ns hns
  obtain ⟨u, hu, ru⟩ := RelO.some_of (v := v) (o := mA f) (by rw [← l]; exact hr f)
  have J : PySem.W.InstAt s1.heap a oe D (some od) := ⟨hget, h1, by unfold PySem.W.notCls; rw [hv] <;> rfl, by rw [h2]; exact ho⟩
  exact HandSPX.exc_get I1.kIn J T.ga T.gg T.exC (PySem.W.findObj_own T.hdC hno rfl (by rw [hl, hu])) (handed_of ru) ⟨v, H1, I1.tok _, ru, q⟩
/-- the classes at cl have fields -/
structure AtOk (K : PySem.W.Frag) (cl : List Nat) : Prop where
  f : ∀ k D, cl.contains k = true → ClsAt K k D → XfC K D
  n : ∀ k D, cl.contains k = true → ClsAt K k D → PySem.W.findIn K (.ref D) (fldStr k) = some none
theorem ud_at {K : PySem.W.Frag} {cl : List Nat} {f : Str} (O : AtOk K cl) : UnD K (rAt K f) (atD cl f) := by
  intro Hb H x dx res Q s r e q
  unfold atD at e
  split at e
  · rename_i k y
    by_cases hc : (decide (11 ≤ k) && (cl.contains k && decide (fldStr k = f))) = true
    · rw [if_pos hc] at e; cases e
      rw [Bool.and_eq_true, Bool.and_eq_true] at hc
      obtain ⟨h11, hcl, hf⟩ := hc
      have h11 := of_decide_eq_true h11
      have hf := of_decide_eq_true hf
      subst hf
      rcases r with h | ⟨_, _, _, e, _⟩
      · simp only [Is] at h
        obtain ⟨a, c, hcc, rfl, h | ⟨_, dd, v, h1, h2, h3⟩⟩ := h
        · omega
        · exact ⟨a, c, dd, _, v, rfl, s _ _ h1, s _ _ h2, by simp [List.lookup], O.f k c hcl hcc, O.n k c hcl hcc, q v Hb H (Gro.refl s) h3⟩
      · cases e
    · rw [if_neg hc] at e; cases e
  · cases e
theorem dm_at {X : Cx} {W : WX} {e : Expr} {ma : M Rs} {cl : List Nat} {f : Str} {pos : Pos} (O : AtOk X.K cl) (he : PE X e (tM X.K W ma)) (hb : attributeBase e f X.env (eval e X.env) = eval e X.env := by rfl) :
    PE X (.Attribute e f pos) (tM X.K W (mUn (atD cl f) ma)) := PE.imp (pe_at he hb) fun _ _ _ => tM_un (ud_at O)
end DL

namespace DL
open PySem L2 PyProof.Rows
/-- one argument by its name -/
theorem dk_one {X : Cx} {W : WX} {f : Str} {e : Expr} {kpos : Pos} {a : M Rs} (ha : PE X e (tM X.K W a)) : PK X [⟨some f, e, kpos⟩] (tA X.K W (mCons a mNil)) := by
  have hb : PK X [⟨some f, e, kpos⟩] (tCons (tM X.K W a) (tA X.K W mNil)) := pk_cons ha ⟨fun pos pins s σ H Q I h => wpAny_evalAll_nil (by
    obtain ⟨Hb, ρ, S, P⟩ := h
    exact ⟨[], H, I, .nil, P [] H Hb (Ste.refl S) .nil⟩)⟩
  refine ⟨fun pos pins s σ H Q I h => hb.run pos pins s σ H Q I ?_⟩
  obtain ⟨Hb, ρ, S, P⟩ := h
  refine ⟨Hb, ρ, S, ?_⟩
  unfold mCons at P
  cases ea : a ρ with
  | stuck => rw [ea] at P; exact P
  | er e ρ1 => rw [ea] at P; exact P
  | ok x ρ1 =>
    rw [ea] at P
    intro v H1 Hb1' s1' r1'
    obtain ⟨Hb1, s1, _, r1⟩ := RsR.put S s1' r1'
    refine ⟨Hb1, ρ1, s1.st, ?_⟩
    intro vs H2 Hb2 s2 r2
    cases r2
    exact P [v] H2 Hb2 (s1.trans s2) (.cons (r1.step (own_there' S s1) s2) .nil)
end DL

namespace K95
open PySem L2 PyProof.Rows DL
local macro_rules | `(tactic| mconstructor) => `(tactic| first | exact .inl rfl | exact .inr (.inl rfl) | exact .inr rfl | exact .inr (.inr rfl))
local macro_rules | `(tactic| mpure_intro) => `(tactic| (simp only [cxOf, envOfC, Cx.blk, compEnvC, relab_eq]; decide +kernel))
/-! ### the text -/
def topS (i : Nat) : Stmt := PySem.Challenge.pw_leapfolk_k95_refusals_made.main.body.getD i (.Pass ⟨0, 0, 0, 0⟩)
abbrev s_is_whole : Stmt := topS 15
theorem sc_is_whole : FnScope ["thing"] ["thing"] (defScope s_is_whole) := ⟨rfl, rfl, rfl, by decide +kernel, rfl, by decide +kernel, by decide +kernel⟩
abbrev s_is_whole_in : Stmt := topS 16
theorem sc_is_whole_in : FnScope ["least", "most", "thing"] ["least", "most", "thing"] (defScope s_is_whole_in) := ⟨rfl, rfl, rfl, by decide +kernel, rfl, by decide +kernel, by decide +kernel⟩
abbrev s_is_tuple_of : Stmt := topS 17
theorem sc_is_tuple_of : FnScope ["least", "most", "thing"] ["least", "most", "thing"] (defScope s_is_tuple_of) := ⟨rfl, rfl, rfl, by decide +kernel, rfl, by decide +kernel, by decide +kernel⟩
abbrev s_is_way : Stmt := topS 22
theorem sc_is_way : FnScope ["thing"] ["thing"] (defScope s_is_way) := ⟨rfl, rfl, rfl, by decide +kernel, rfl, by decide +kernel, by decide +kernel⟩
abbrev s_is_ways : Stmt := topS 23
theorem sc_is_ways : FnScope ["thing", "way"] ["thing"] (defScope s_is_ways) := ⟨rfl, rfl, rfl, by decide +kernel, rfl, by decide +kernel, by decide +kernel⟩
abbrev s_is_persons : Stmt := topS 24
theorem sc_is_persons : FnScope ["thing"] ["thing"] (defScope s_is_persons) := ⟨rfl, rfl, rfl, by decide +kernel, rfl, by decide +kernel, by decide +kernel⟩
abbrev s_is_posts : Stmt := topS 25
theorem sc_is_posts : FnScope ["persons", "thing", "lowest", "post"] ["persons", "thing"] (defScope s_is_posts) := ⟨rfl, rfl, rfl, by decide +kernel, rfl, by decide +kernel, by decide +kernel⟩
abbrev s_yard_wrong : Stmt := topS 26
theorem sc_yard_wrong : FnScope ["thing", "ways", "persons", "posts"] ["thing"] (defScope s_yard_wrong) := ⟨rfl, rfl, rfl, by decide +kernel, rfl, by decide +kernel, by decide +kernel⟩
abbrev s__law_mixed : Stmt := topS 28
theorem sc__law_mixed : FnScope ["cell", "k", "number"] ["cell", "k"] (defScope s__law_mixed) := ⟨rfl, rfl, rfl, by decide +kernel, rfl, by decide +kernel, by decide +kernel⟩
abbrev s__law_pile : Stmt := topS 29
theorem sc__law_pile : FnScope ["script", "k", "cell", "digits"] ["script", "k"] (defScope s__law_pile) := ⟨rfl, rfl, rfl, by decide +kernel, rfl, by decide +kernel, by decide +kernel⟩
abbrev s__law_take : Stmt := topS 30
theorem sc__law_take : FnScope ["pile", "many", "digit"] ["pile", "many"] (defScope s__law_take) := ⟨rfl, rfl, rfl, by decide +kernel, rfl, by decide +kernel, by decide +kernel⟩
abbrev s__law_great : Stmt := topS 31
theorem sc__law_great : FnScope ["pile"] ["pile"] (defScope s__law_great) := ⟨rfl, rfl, rfl, by decide +kernel, rfl, by decide +kernel, by decide +kernel⟩
abbrev s__law_kind : Stmt := topS 32
theorem sc__law_kind : FnScope ["e", "some", "words", "word", "truth"] ["e"] (defScope s__law_kind) := ⟨rfl, rfl, rfl, by decide +kernel, rfl, by decide +kernel, by decide +kernel⟩
abbrev s__law_bare : Stmt := topS 33
theorem sc__law_bare : FnScope ["word"] ["word"] (defScope s__law_bare) := ⟨rfl, rfl, rfl, by decide +kernel, rfl, by decide +kernel, by decide +kernel⟩
abbrev s__law_all : Stmt := topS 34
theorem sc__law_all : FnScope ["word", "some"] ["word"] (defScope s__law_all) := ⟨rfl, rfl, rfl, by decide +kernel, rfl, by decide +kernel, by decide +kernel⟩
abbrev s_law : Stmt := topS 35
theorem sc_law : FnScope ["script", "words", "kept_ones", "k", "pile", "some", "number", "thing", "other", "two", "one", "word"] ["script"] (defScope s_law) := ⟨rfl, rfl, rfl, by decide +kernel, rfl, by decide +kernel, by decide +kernel⟩
def si_NoPerson : Stmt := match topS 12 with
  | .ClassDef _ _ _ b _ _ _ _ _ _ _ => b.getD 0 (.Pass ⟨0, 0, 0, 0⟩)
  | s => s
theorem bd_NoPerson : defBody si_NoPerson = PySem.DLX.iniBd "person" "this is not a person that is asked for" ⟨27, 8, 27, 13⟩ ⟨27, 8, 27, 15⟩ ⟨27, 8, 27, 24⟩ ⟨27, 25, 27, 65⟩ ⟨27, 8, 27, 66⟩ ⟨27, 8, 27, 66⟩ ⟨28, 8, 28, 12⟩ ⟨28, 8, 28, 19⟩ ⟨28, 22, 28, 28⟩ ⟨28, 8, 28, 28⟩ := by rfl
theorem sc_NoPerson : defScope si_NoPerson = PySem.DLX.iniSc "person" := by rfl
theorem ev_NoPerson : PySem.DLX.EvIni "this is not a person that is asked for" ⟨27, 8, 27, 13⟩ ⟨27, 8, 27, 15⟩ ⟨27, 8, 27, 24⟩ ⟨27, 25, 27, 65⟩ ⟨27, 8, 27, 66⟩ := fun env => ⟨_, rfl⟩
def si_TooMany : Stmt := match topS 13 with
  | .ClassDef _ _ _ b _ _ _ _ _ _ _ => b.getD 0 (.Pass ⟨0, 0, 0, 0⟩)
  | s => s
theorem bd_TooMany : defBody si_TooMany = PySem.DLX.iniBd "most" "the answer is above the bound" ⟨32, 8, 32, 13⟩ ⟨32, 8, 32, 15⟩ ⟨32, 8, 32, 24⟩ ⟨32, 25, 32, 56⟩ ⟨32, 8, 32, 57⟩ ⟨32, 8, 32, 57⟩ ⟨33, 8, 33, 12⟩ ⟨33, 8, 33, 17⟩ ⟨33, 20, 33, 24⟩ ⟨33, 8, 33, 24⟩ := by rfl
theorem sc_TooMany : defScope si_TooMany = PySem.DLX.iniSc "most" := by rfl
theorem ev_TooMany : PySem.DLX.EvIni "the answer is above the bound" ⟨32, 8, 32, 13⟩ ⟨32, 8, 32, 15⟩ ⟨32, 8, 32, 24⟩ ⟨32, 25, 32, 56⟩ ⟨32, 8, 32, 57⟩ := fun env => ⟨_, rfl⟩
/-! ### the builtins by their names -/
theorem bb_ValueError : bootBuiltins "ValueError" = some (.type "ValueError") := by first | rfl | decide +kernel
theorem bb_abs : bootBuiltins "abs" = some (.builtin "abs") := by first | rfl | decide +kernel
theorem bb_all : bootBuiltins "all" = some (.builtin "all") := by first | rfl | decide +kernel
theorem bb_bool : bootBuiltins "bool" = some (.type "bool") := by first | rfl | decide +kernel
theorem bb_int : bootBuiltins "int" = some (.type "int") := by first | rfl | decide +kernel
theorem bb_isinstance : bootBuiltins "isinstance" = some (.builtin "isinstance") := by first | rfl | decide +kernel
theorem bb_len : bootBuiltins "len" = some (.builtin "len") := by first | rfl | decide +kernel
theorem bb_str : bootBuiltins "str" = some (.type "str") := by first | rfl | decide +kernel
theorem bb_tuple : bootBuiltins "tuple" = some (.type "tuple") := by first | rfl | decide +kernel
/-! ### the meanings -/
abbrev CL : List Nat := [0, 1, 2, 3, 4, 5, 6, 7, 8, 9, 10, 11, 12]
abbrev KS : List Nat := [0, 1, 2, 3, 4, 5, 6, 7, 8, 9, 10, 11, 12]
abbrev AT : List Nat := [11, 12]
def n_is_whole : DL.N := (nRet (mAndV (mBi (isiF CL KS) (mCons (mV 0) (mCons (mC (.ty "int")) mNil))) (mNotV (mBi (isiF CL KS) (mCons (mV 0) (mCons (mC (.ty "bool")) mNil))))))
def m_is_whole : M Rs := fsem 1 n_is_whole
def n_is_whole_in : DL.N := (nRet (mAndV (mCall 1 m_is_whole (mCons (mV 2) mNil)) (mChain leD leD (mV 0) (mV 2) (mV 1))))
def m_is_whole_in : M Rs := fsem 3 n_is_whole_in
def n_is_tuple_of : DL.N := (nRet (mAndV (mBi (isiF CL KS) (mCons (mV 2) (mCons (mC (.ty "tuple")) mNil))) (mChain leD leD (mV 0) (mBi (lenD) (mCons (mV 2) mNil)) (mV 1))))
def m_is_tuple_of : M Rs := fsem 3 n_is_tuple_of
def n_is_way : DL.N := (nRet (mAndV (mCall 1 m_is_whole (mCons (mV 0) mNil)) (mOrV (mBin eqD (mV 0) (mC (.int 0))) (mBin geD (mV 0) (mC (.int 2))))))
def m_is_way : M Rs := fsem 1 n_is_way
def n_is_ways : DL.N := (nRet (mAndV (mCall 3 m_is_tuple_of (mCons (mC (.int 1)) (mCons (mC (.int 3)) (mCons (mV 0) mNil)))) (mBi (allD) (mCons (mComp (mIter (mV 0)) (gN 1) [1] mTrue (mCall 1 m_is_way (mCons (mV 1) mNil))) mNil))))
def m_is_ways : M Rs := fsem 2 n_is_ways
def n_is_persons : DL.N := (nRet (mCall 3 m_is_whole_in (mCons (mC (.int 2)) (mCons (mC (.int 6)) (mCons (mV 0) mNil)))))
def m_is_persons : M Rs := fsem 1 n_is_persons
def n_is_posts : DL.N := (nSeq (nIf (mNot (mTv (mCall 3 m_is_tuple_of (mCons (mC (.int 0)) (mCons (mBin subD (mV 0) (mC (.int 1))) (mCons (mV 1) mNil)))))) (nRet (mC (.bl false))) nNext)
    (nSeq (nSet 2 (mC (.int 0)))
    (nSeq (nFor (mIter (mV 1)) (gN 3)
    (nSeq (nIf (mNot (mTv (mCall 3 m_is_whole_in (mCons (mV 2) (mCons (mBin subD (mV 0) (mC (.int 1))) (mCons (mV 3) mNil)))))) (nRet (mC (.bl false))) nNext)
    (nSet 2 (mBin addD (mV 3) (mC (.int 1))))))
    (nRet (mC (.bl true))))))
def m_is_posts : M Rs := fsem 4 n_is_posts
def n_yard_wrong : DL.N := (nSeq (nIf (mNot (mTv (mCall 3 m_is_tuple_of (mCons (mC (.int 3)) (mCons (mC (.int 3)) (mCons (mV 0) mNil)))))) (nRet (mTup (mCons (mC (.str "yard")) mNil))) nNext)
    (nSeq (nUnp [1, 2, 3] (mV 0))
    (nSeq (nIf (mNot (mTv (mCall 1 m_is_ways (mCons (mV 1) mNil)))) (nRet (mTup (mCons (mC (.str "ways")) mNil))) nNext)
    (nSeq (nIf (mNot (mTv (mCall 1 m_is_persons (mCons (mV 2) mNil)))) (nRet (mTup (mCons (mC (.str "persons")) mNil))) nNext)
    (nSeq (nIf (mNot (mTv (mCall 2 m_is_posts (mCons (mV 2) (mCons (mV 3) mNil))))) (nRet (mTup (mCons (mC (.str "posts")) mNil))) nNext)
    (nRet (mC .non)))))))
def m_yard_wrong : M Rs := fsem 4 n_yard_wrong
def n__law_mixed : DL.N := (nSeq (nSet 2 (mBin modD (mBin addD (mBin addD (mBin mulD (mBin modD (mV 0) (mC (.int 2147483647))) (mC (.int 48271))) (mBin mulD (mV 1) (mC (.int 69621)))) (mC (.int 11))) (mC (.int 2147483647))))
    (nSeq (nSet 2 (mBin modD (mBin mulD (mV 2) (mV 2)) (mC (.int 2147483629))))
    (nRet (mBin divD (mBin modD (mBin mulD (mV 2) (mV 2)) (mC (.int 2147483587))) (mC (.int 64))))))
def m__law_mixed : M Rs := fsem 3 n__law_mixed
def n__law_pile : DL.N := (nSeq (nSet 2 (mC (.int 0)))
    (nSeq (nIf (mTv (mBin ltD (mV 1) (mBi (lenD) (mCons (mV 0) mNil)))) (nSet 2 (mBin ixD (mV 0) (mV 1))) nNext)
    (nSeq (nSet 3 (mBin ixD (mLst (mCons (mC (.int 0)) (mCons (mBin modD (mV 2) (mBin mulD (mBin mulD (mBin powD (mC (.int 10)) (mC (.int 50))) (mBin powD (mC (.int 10)) (mC (.int 50)))) (mBin powD (mC (.int 10)) (mC (.int 50))))) mNil))) (mBi (intD) (mCons (mBin geD (mBi (absD) (mCons (mV 2) mNil)) (mBin powD (mC (.int 10)) (mC (.int 18)))) mNil))))
    (nRet (mLst (mCons (mV 3) (mCons (mBin modD (mV 2) (mC (.int 2147483647))) (mCons (mBin mulD (mC (.int 97)) (mV 1)) (mCons (mBin ltD (mV 1) (mC (.int 2))) mNil)))))))))
def m__law_pile : M Rs := fsem 4 n__law_pile
def n__law_take : DL.N := (nSeq (nIf (mTv (mBin (inD false) (mBin ixD (mV 0) (mC (.int 0))) (mLst (mCons (mC (.int 0)) (mCons (mUn negD (mC (.int 1))) mNil))))) (nSeq (nSetIx 0 (mC (.int 2)) (mBin addD (mBin ixD (mV 0) (mC (.int 2))) (mC (.int 1))))
    (nRet (mBin modD (mCall 2 m__law_mixed (mCons (mBin ixD (mV 0) (mC (.int 1))) (mCons (mBin ixD (mV 0) (mC (.int 2))) mNil))) (mV 1)))) nNext)
    (nSeq (nSet 2 (mBin modD (mBin ixD (mV 0) (mC (.int 0))) (mV 1)))
    (nSeq (nSetIx 0 (mC (.int 0)) (mBin divD (mBin ixD (mV 0) (mC (.int 0))) (mV 1)))
    (nRet (mV 2)))))
def m__law_take : M Rs := fsem 3 n__law_take
def n__law_great : DL.N := (nRet (mBin addD (mBin mulD (mCall 2 m__law_take (mCons (mV 0) (mCons (mBin powD (mC (.int 10)) (mC (.int 5))) mNil))) (mBin powD (mC (.int 10)) (mC (.int 5)))) (mCall 2 m__law_take (mCons (mV 0) (mCons (mBin powD (mC (.int 10)) (mC (.int 5))) mNil)))))
def m__law_great : M Rs := fsem 1 n__law_great
def n__law_kind : DL.N := (nSeq (nSet 1 (mLst (mCons (mBi (isiF CL KS) (mCons (mV 0) (mCons (mC (.cls 1)) mNil))) (mCons (mBi (isiF CL KS) (mCons (mV 0) (mCons (mC (.cls 2)) mNil))) (mCons (mBi (isiF CL KS) (mCons (mV 0) (mCons (mC (.cls 3)) mNil))) (mCons (mBi (isiF CL KS) (mCons (mV 0) (mCons (mC (.cls 4)) mNil))) mNil))))))
    (nSeq (nSet 1 (mBin addD (mV 1) (mLst (mCons (mBi (isiF CL KS) (mCons (mV 0) (mCons (mC (.cls 5)) mNil))) (mCons (mBi (isiF CL KS) (mCons (mV 0) (mCons (mC (.cls 6)) mNil))) (mCons (mBi (isiF CL KS) (mCons (mV 0) (mCons (mC (.cls 7)) mNil))) (mCons (mBi (isiF CL KS) (mCons (mV 0) (mCons (mC (.cls 8)) mNil))) mNil)))))))
    (nSeq (nSet 1 (mBin addD (mV 1) (mLst (mCons (mBi (isiF CL KS) (mCons (mV 0) (mCons (mC (.cls 9)) mNil))) (mCons (mBi (isiF CL KS) (mCons (mV 0) (mCons (mC (.cls 10)) mNil))) (mCons (mBi (isiF CL KS) (mCons (mV 0) (mCons (mC (.cls 11)) mNil))) (mCons (mBi (isiF CL KS) (mCons (mV 0) (mCons (mC (.cls 12)) mNil))) mNil)))))))
    (nSeq (nSet 2 (mLst (mCons (mC (.str "yard")) (mCons (mC (.str "standing")) (mCons (mC (.str "leap")) (mCons (mC (.str "row")) (mCons (mC (.str "vector")) (mCons (mC (.str "reading")) (mCons (mC (.str "wishes")) (mCons (mC (.str "cell")) (mCons (mC (.str "table")) (mCons (mC (.str "number")) (mCons (mC (.str "person")) mNil)))))))))))))
    (nSeq (nIf (mAnd (mTv (mUn (isN true) (mV 0))) (mOr (mNot (mTv (mBi (isiF CL KS) (mCons (mV 0) (mCons (mC (.cls 0)) mNil))))) (mNot (mTv (mBi (isiF CL KS) (mCons (mV 0) (mCons (mC (.ty "ValueError")) mNil))))))) (nRet (mLst (mCons (mC (.str "odd")) mNil))) nNext)
    (nRet (mComp (mSeqs zip2D (mCons (mBin addD (mV 2) (mLst (mCons (mC (.str "many")) mNil))) (mCons (mV 1) mNil))) (gT [3, 4]) [3, 4] (mTv (mV 4)) (mV 3))))))))
def m__law_kind : M Rs := fsem 5 n__law_kind
def n__law_bare : DL.N := (nRet (mLst (mCons (mBi (exD 1 1) (mCons (mV 0) mNil)) (mCons (mBi (exD 2 1) (mCons (mV 0) mNil)) (mCons (mBi (exD 3 1) (mCons (mV 0) mNil)) (mCons (mBi (exD 4 1) (mCons (mV 0) mNil)) (mCons (mBi (exD 5 1) (mCons (mV 0) mNil)) (mCons (mBi (exD 6 1) (mCons (mV 0) mNil)) (mCons (mBi (exD 7 1) (mCons (mV 0) mNil)) mNil)))))))))
def m__law_bare : M Rs := fsem 1 n__law_bare
def n__law_all : DL.N := (nSeq (nSet 1 (mLst (mCons (mBi (exD 1 0) mNil) (mCons (mBi (exD 2 0) mNil) (mCons (mBi (exD 3 0) mNil) (mCons (mBi (exD 4 0) mNil) (mCons (mBi (exD 5 0) mNil) (mCons (mBi (exD 6 0) mNil) (mCons (mBi (exD 7 0) mNil) (mCons (mBi (exD 8 0) mNil) (mCons (mBi (exD 9 0) mNil) mNil)))))))))))
    (nRet (mLst (mCons (mBin addD (mV 1) (mLst (mCons (mBi (exD 10 0) mNil) mNil))) (mCons (mBin addD (mCall 1 m__law_bare (mCons (mV 0) mNil)) (mLst (mCons (mBi (exD 8 1) (mCons (mV 0) mNil)) (mCons (mBi (exD 9 1) (mCons (mV 0) mNil)) (mCons (mBi (exD 10 1) (mCons (mV 0) mNil)) mNil))))) mNil)))))
def m__law_all : M Rs := fsem 2 n__law_all
def n_law : DL.N := (nSeq (nSet 1 (mLst (mCons (mC (.str "yard")) (mCons (mC (.str "standing")) (mCons (mC (.str "leap")) (mCons (mC (.str "row")) (mCons (mC (.str "vector")) (mCons (mC (.str "reading")) (mCons (mC (.str "wishes")) (mCons (mC (.str "cell")) (mCons (mC (.str "table")) (mCons (mC (.str "number")) mNil))))))))))))
    (nSeq (nSet 2 (mLst mNil))
    (nSeq (nFor (mRng rngD1 (mCons (mC (.int 8)) mNil)) (gN 3)
    (nSeq (nSet 4 (mCall 2 m__law_pile (mCons (mV 0) (mCons (mV 3) mNil))))
    (nSeq (nFor (mIter (mCall 1 m__law_all (mCons (mBin addD (mC (.str "word ")) (mBi (shownD) (mCons (mCall 2 m__law_take (mCons (mV 4) (mCons (mC (.int 1000)) mNil))) mNil))) mNil))) (gN 5)
    (nIf (mTv (mBin neD (mComp (mIter (mV 5)) (gN 10) [10] mTrue (mCall 1 m__law_kind (mCons (mV 10) mNil))) (mComp (mIter (mV 1)) (gN 11) [11] mTrue (mLst (mCons (mV 11) mNil))))) (nRet (mC (.bl false))) nNext))
    (nSeq (nSet 6 (mCall 1 m__law_great (mCons (mV 4) mNil)))
    (nSeq (nSet 7 (mBin ixD (mLst (mCons (mV 6) (mCons (mC .non) (mCons (mC (.str "a")) (mCons (mTup (mCons (mV 6) (mCons (mC (.int 0)) mNil))) (mCons (mBin subD (mC (.int 0)) (mV 6)) (mCons (mC (.bl true)) mNil))))))) (mCall 2 m__law_take (mCons (mV 4) (mCons (mC (.int 6)) mNil)))))
    (nSeq (nSet 8 (mBin ixD (mLst (mCons (mV 6) (mCons (mC .non) (mCons (mC (.str "b")) (mCons (mTup (mCons (mC (.int 0)) (mCons (mV 6) mNil))) (mCons (mBin subD (mC (.int 0)) (mV 6)) (mCons (mC (.bl false)) mNil))))))) (mCall 2 m__law_take (mCons (mV 4) (mCons (mC (.int 6)) mNil)))))
    (nSeq (nSet 9 (mLst (mCons (mBi (xiD 11) (mCons (mV 7) mNil)) (mCons (mBi (xiD 11) (mCons (mV 7) mNil)) (mCons (mBi (xiD 12) (mCons (mV 8) mNil)) (mCons (mBi (xiD 12) (mCons (mV 8) mNil)) mNil))))))
    (nSeq (nApp 2 (mTup (mCons (mV 7) (mCons (mV 8) (mCons (mV 9) mNil)))))
    (nSeq (nIf (mTv (mBin neD (mComp (mIter (mV 9)) (gN 10) [10] mTrue (mCall 1 m__law_kind (mCons (mV 10) mNil))) (mLst (mCons (mLst (mCons (mC (.str "person")) mNil)) (mCons (mLst (mCons (mC (.str "person")) mNil)) (mCons (mLst (mCons (mC (.str "many")) mNil)) (mCons (mLst (mCons (mC (.str "many")) mNil)) mNil))))))) (nRet (mC (.bl false))) nNext)
    (nIf (mOr (mTv (mBin neD (mCall 1 m__law_kind (mCons (mBi (exD 0 1) (mCons (mC (.str "a")) mNil)) mNil)) (mLst mNil))) (mTv (mBin neD (mCall 1 m__law_kind (mCons (mBi (exD 0 0) mNil) mNil)) (mLst mNil)))) (nRet (mC (.bl false))) nNext))))))))))
    (nSeq (nFor (mIter (mV 2)) (gT [7, 8, 9])
    (nIf (mTv (mBin neD (mLst (mCons (mUn (atD AT "person") (mBin ixD (mV 9) (mC (.int 0)))) (mCons (mUn (atD AT "person") (mBin ixD (mV 9) (mC (.int 1)))) (mCons (mUn (atD AT "most") (mBin ixD (mV 9) (mC (.int 2)))) (mCons (mUn (atD AT "most") (mBin ixD (mV 9) (mC (.int 3)))) mNil))))) (mLst (mCons (mV 7) (mCons (mV 7) (mCons (mV 8) (mCons (mV 8) mNil))))))) (nRet (mC (.bl false))) nNext))
    (nRet (mUn (isN false) (mCall 1 m_yard_wrong (mCons (mTup (mCons (mTup (mCons (mC (.int 0)) mNil)) (mCons (mC (.int 2)) (mCons (mTup mNil) mNil)))) mNil))))))))
def m_law : M Rs := fsem 12 n_law
/-! ### what the written part says -/
structure Txt (P : Program) (K : PySem.W.Frag) (mg : Str → Option Value) : Type where
  f_is_whole : Addr
  d_is_whole : FuncData
  F_is_whole : Fun K "is_whole" "is_whole" s_is_whole f_is_whole d_is_whole
  g_is_whole : mg "is_whole" = some (.ref f_is_whole)
  b_is_whole : Binds K d_is_whole ["thing"] []
  f_is_whole_in : Addr
  d_is_whole_in : FuncData
  F_is_whole_in : Fun K "is_whole_in" "is_whole_in" s_is_whole_in f_is_whole_in d_is_whole_in
  g_is_whole_in : mg "is_whole_in" = some (.ref f_is_whole_in)
  b_is_whole_in : Binds K d_is_whole_in ["least", "most", "thing"] []
  f_is_tuple_of : Addr
  d_is_tuple_of : FuncData
  F_is_tuple_of : Fun K "is_tuple_of" "is_tuple_of" s_is_tuple_of f_is_tuple_of d_is_tuple_of
  g_is_tuple_of : mg "is_tuple_of" = some (.ref f_is_tuple_of)
  b_is_tuple_of : Binds K d_is_tuple_of ["least", "most", "thing"] []
  f_is_way : Addr
  d_is_way : FuncData
  F_is_way : Fun K "is_way" "is_way" s_is_way f_is_way d_is_way
  g_is_way : mg "is_way" = some (.ref f_is_way)
  b_is_way : Binds K d_is_way ["thing"] []
  f_is_ways : Addr
  d_is_ways : FuncData
  F_is_ways : Fun K "is_ways" "is_ways" s_is_ways f_is_ways d_is_ways
  g_is_ways : mg "is_ways" = some (.ref f_is_ways)
  b_is_ways : Binds K d_is_ways ["thing"] []
  f_is_persons : Addr
  d_is_persons : FuncData
  F_is_persons : Fun K "is_persons" "is_persons" s_is_persons f_is_persons d_is_persons
  g_is_persons : mg "is_persons" = some (.ref f_is_persons)
  b_is_persons : Binds K d_is_persons ["thing"] []
  f_is_posts : Addr
  d_is_posts : FuncData
  F_is_posts : Fun K "is_posts" "is_posts" s_is_posts f_is_posts d_is_posts
  g_is_posts : mg "is_posts" = some (.ref f_is_posts)
  b_is_posts : Binds K d_is_posts ["persons", "thing"] []
  f_yard_wrong : Addr
  d_yard_wrong : FuncData
  F_yard_wrong : Fun K "yard_wrong" "yard_wrong" s_yard_wrong f_yard_wrong d_yard_wrong
  g_yard_wrong : mg "yard_wrong" = some (.ref f_yard_wrong)
  b_yard_wrong : Binds K d_yard_wrong ["thing"] []
  f__law_mixed : Addr
  d__law_mixed : FuncData
  F__law_mixed : Fun K "_law_mixed" "_law_mixed" s__law_mixed f__law_mixed d__law_mixed
  g__law_mixed : mg "_law_mixed" = some (.ref f__law_mixed)
  b__law_mixed : Binds K d__law_mixed ["cell", "k"] []
  f__law_pile : Addr
  d__law_pile : FuncData
  F__law_pile : Fun K "_law_pile" "_law_pile" s__law_pile f__law_pile d__law_pile
  g__law_pile : mg "_law_pile" = some (.ref f__law_pile)
  b__law_pile : Binds K d__law_pile ["script", "k"] []
  f__law_take : Addr
  d__law_take : FuncData
  F__law_take : Fun K "_law_take" "_law_take" s__law_take f__law_take d__law_take
  g__law_take : mg "_law_take" = some (.ref f__law_take)
  b__law_take : Binds K d__law_take ["pile", "many"] []
  f__law_great : Addr
  d__law_great : FuncData
  F__law_great : Fun K "_law_great" "_law_great" s__law_great f__law_great d__law_great
  g__law_great : mg "_law_great" = some (.ref f__law_great)
  b__law_great : Binds K d__law_great ["pile"] []
  f__law_kind : Addr
  d__law_kind : FuncData
  F__law_kind : Fun K "_law_kind" "_law_kind" s__law_kind f__law_kind d__law_kind
  g__law_kind : mg "_law_kind" = some (.ref f__law_kind)
  b__law_kind : Binds K d__law_kind ["e"] []
  f__law_bare : Addr
  d__law_bare : FuncData
  F__law_bare : Fun K "_law_bare" "_law_bare" s__law_bare f__law_bare d__law_bare
  g__law_bare : mg "_law_bare" = some (.ref f__law_bare)
  b__law_bare : Binds K d__law_bare ["word"] []
  f__law_all : Addr
  d__law_all : FuncData
  F__law_all : Fun K "_law_all" "_law_all" s__law_all f__law_all d__law_all
  g__law_all : mg "_law_all" = some (.ref f__law_all)
  b__law_all : Binds K d__law_all ["word"] []
  f_law : Addr
  d_law : FuncData
  F_law : Fun K "law" "law" s_law f_law d_law
  g_law : mg "law" = some (.ref f_law)
  b_law : Binds K d_law ["script"] []
  c_FolkError : Addr
  k_FolkError : ClsAt K 0 c_FolkError
  g_FolkError : mg "FolkError" = some (.ref c_FolkError)
  c_NoYard : Addr
  k_NoYard : ClsAt K 1 c_NoYard
  g_NoYard : mg "NoYard" = some (.ref c_NoYard)
  c_NoStanding : Addr
  k_NoStanding : ClsAt K 2 c_NoStanding
  g_NoStanding : mg "NoStanding" = some (.ref c_NoStanding)
  c_NoLeap : Addr
  k_NoLeap : ClsAt K 3 c_NoLeap
  g_NoLeap : mg "NoLeap" = some (.ref c_NoLeap)
  c_NoRow : Addr
  k_NoRow : ClsAt K 4 c_NoRow
  g_NoRow : mg "NoRow" = some (.ref c_NoRow)
  c_NoVector : Addr
  k_NoVector : ClsAt K 5 c_NoVector
  g_NoVector : mg "NoVector" = some (.ref c_NoVector)
  c_NoReading : Addr
  k_NoReading : ClsAt K 6 c_NoReading
  g_NoReading : mg "NoReading" = some (.ref c_NoReading)
  c_NoWishes : Addr
  k_NoWishes : ClsAt K 7 c_NoWishes
  g_NoWishes : mg "NoWishes" = some (.ref c_NoWishes)
  c_NoCell : Addr
  k_NoCell : ClsAt K 8 c_NoCell
  g_NoCell : mg "NoCell" = some (.ref c_NoCell)
  c_NoTable : Addr
  k_NoTable : ClsAt K 9 c_NoTable
  g_NoTable : mg "NoTable" = some (.ref c_NoTable)
  c_NoNumber : Addr
  k_NoNumber : ClsAt K 10 c_NoNumber
  g_NoNumber : mg "NoNumber" = some (.ref c_NoNumber)
  c_NoPerson : Addr
  k_NoPerson : ClsAt K 11 c_NoPerson
  g_NoPerson : mg "NoPerson" = some (.ref c_NoPerson)
  c_TooMany : Addr
  k_TooMany : ClsAt K 12 c_TooMany
  g_TooMany : mg "TooMany" = some (.ref c_TooMany)
  kp_FolkError : PySem.W.keepIn K (.ref c_FolkError) = true
  x_FolkError : PySem.W.excIn K c_FolkError [.type "ValueError", .type "Exception", .type "BaseException", .type "object"] "ValueError.__new__" = true
  kp_NoYard : PySem.W.keepIn K (.ref c_NoYard) = true
  x_NoYard : PySem.W.excIn K c_NoYard [.type "ValueError", .type "Exception", .type "BaseException", .type "object"] "ValueError.__new__" = true
  kp_NoStanding : PySem.W.keepIn K (.ref c_NoStanding) = true
  x_NoStanding : PySem.W.excIn K c_NoStanding [.type "ValueError", .type "Exception", .type "BaseException", .type "object"] "ValueError.__new__" = true
  kp_NoLeap : PySem.W.keepIn K (.ref c_NoLeap) = true
  x_NoLeap : PySem.W.excIn K c_NoLeap [.type "ValueError", .type "Exception", .type "BaseException", .type "object"] "ValueError.__new__" = true
  kp_NoRow : PySem.W.keepIn K (.ref c_NoRow) = true
  x_NoRow : PySem.W.excIn K c_NoRow [.type "ValueError", .type "Exception", .type "BaseException", .type "object"] "ValueError.__new__" = true
  kp_NoVector : PySem.W.keepIn K (.ref c_NoVector) = true
  x_NoVector : PySem.W.excIn K c_NoVector [.type "ValueError", .type "Exception", .type "BaseException", .type "object"] "ValueError.__new__" = true
  kp_NoReading : PySem.W.keepIn K (.ref c_NoReading) = true
  x_NoReading : PySem.W.excIn K c_NoReading [.type "ValueError", .type "Exception", .type "BaseException", .type "object"] "ValueError.__new__" = true
  kp_NoWishes : PySem.W.keepIn K (.ref c_NoWishes) = true
  x_NoWishes : PySem.W.excIn K c_NoWishes [.type "ValueError", .type "Exception", .type "BaseException", .type "object"] "ValueError.__new__" = true
  kp_NoCell : PySem.W.keepIn K (.ref c_NoCell) = true
  x_NoCell : PySem.W.excIn K c_NoCell [.type "ValueError", .type "Exception", .type "BaseException", .type "object"] "ValueError.__new__" = true
  kp_NoTable : PySem.W.keepIn K (.ref c_NoTable) = true
  x_NoTable : PySem.W.excIn K c_NoTable [.type "ValueError", .type "Exception", .type "BaseException", .type "object"] "ValueError.__new__" = true
  kp_NoNumber : PySem.W.keepIn K (.ref c_NoNumber) = true
  x_NoNumber : PySem.W.excIn K c_NoNumber [.type "ValueError", .type "Exception", .type "BaseException", .type "object"] "ValueError.__new__" = true
  kp_NoPerson : PySem.W.keepIn K (.ref c_NoPerson) = true
  in_NoPerson : Addr
  di_NoPerson : FuncData
  xi_NoPerson : PySem.DLX.XiC P K c_NoPerson in_NoPerson di_NoPerson "person"
  xb_NoPerson : XiB K di_NoPerson "person"
  kp_TooMany : PySem.W.keepIn K (.ref c_TooMany) = true
  in_TooMany : Addr
  di_TooMany : FuncData
  xi_TooMany : PySem.DLX.XiC P K c_TooMany in_TooMany di_TooMany "most"
  xb_TooMany : XiB K di_TooMany "most"
  at_ : AtOk K AT
  z_ValueError : mg "ValueError" = none
  z_abs : mg "abs" = none
  z_all : mg "all" = none
  z_bool : mg "bool" = none
  z_int : mg "int" = none
  z_isinstance : mg "isinstance" = none
  z_len : mg "len" = none
  z_range : mg "range" = none
  z_str : mg "str" = none
  z_tuple : mg "tuple" = none
  z_zip : mg "zip" = none
  g_LEAST_PERSONS : ∃ t, mg "LEAST_PERSONS" = some (.int 2 t)
  g_MOST_PERSONS : ∃ t, mg "MOST_PERSONS" = some (.int 6 t)
  g_MOST_WAYS : ∃ t, mg "MOST_WAYS" = some (.int 3 t)
  isi : IsiOk K CL KS
theorem hu64 {k : Nat} {A : Around} (h : Room k A) : A.units + 64 < cLine := by have := h.un; omega
theorem rm {k j : Nat} {A : Around} (h : Room k A) (hj : j ≤ k := by decide) : Room j A := h.mono hj
theorem hu100 {k : Nat} {A : Around} (h : Room k A) : A.units + 100 < cLine := by have := h.un; omega
theorem is_clsI {K : PySem.W.Frag} {H : Hp} {k : Nat} {c : Addr} (h : ClsAt K k c) : Is K H (.cls k) (.ref c) := by simp only [Is]; exact ⟨c, h, rfl⟩
section
variable {P : Program} {w : World} {K : PySem.W.Frag} {mg : Str → Option Value} {base : Heap}
theorem ok_is_whole (T : Txt P K mg) : FnOk P w K mg base (L2.CX P w) 1 T.f_is_whole T.d_is_whole ["thing"] (spD K 1 m_is_whole) :=
  fun_ok T.F_is_whole sc_is_whole (by decide) fun cdv A outer s H E hr tk hp =>
    (ds_one (dn_ret (dm_and (dm_callB (call_isY.or call_isi) (cd_isiF T.isi) (by rfl) T.z_isinstance bb_isinstance (da_cons (dv 0) (da_cons (dm_tyName (by rfl) T.z_int bb_int) da_nil))) (dm_one (dm_not (dm_callB (call_isY.or call_isi) (cd_isiF T.isi) (by rfl) T.z_isinstance bb_isinstance (da_cons (dv 0) (da_cons (dm_tyName (by rfl) T.z_bool bb_bool) da_nil))))))))
theorem ok_is_whole_in (T : Txt P K mg) : FnOk P w K mg base (L2.CX P w) 2 T.f_is_whole_in T.d_is_whole_in ["least", "most", "thing"] (spD K 3 m_is_whole_in) :=
  fun_ok T.F_is_whole_in sc_is_whole_in (by decide) fun cdv A outer s H E hr tk hp =>
    (ds_one (dn_ret (dm_and (dm_call (ok_is_whole T) (rm hr) (passW_of tk) (by rfl) T.g_is_whole T.F_is_whole.kp T.b_is_whole (da_cons (dv 2) da_nil)) (dm_one (dm_chain op_le op_le ob_int ob_int (dv 0) (dv 2) (dv 1))))))
theorem ok_is_tuple_of (T : Txt P K mg) : FnOk P w K mg base (L2.CX P w) 1 T.f_is_tuple_of T.d_is_tuple_of ["least", "most", "thing"] (spD K 3 m_is_tuple_of) :=
  fun_ok T.F_is_tuple_of sc_is_tuple_of (by decide) fun cdv A outer s H E hr tk hp =>
    (ds_one (dn_ret (dm_and (dm_callB (call_isY.or call_isi) (cd_isiF T.isi) (by rfl) T.z_isinstance bb_isinstance (da_cons (dv 2) (da_cons (dm_tyName (by rfl) T.z_tuple bb_tuple) da_nil))) (dm_one (dm_chain op_le op_le ob_int ob_int (dv 0) (dm_callB (call_len_seq.or call_len_str) (cd_len) (by rfl) T.z_len bb_len (da_cons (dv 2) da_nil)) (dv 1))))))
theorem ok_is_way (T : Txt P K mg) : FnOk P w K mg base (L2.CX P w) 2 T.f_is_way T.d_is_way ["thing"] (spD K 1 m_is_way) :=
  fun_ok T.F_is_way sc_is_way (by decide) fun cdv A outer s H E hr tk hp =>
    (ds_one (dn_ret (dm_and (dm_call (ok_is_whole T) (rm hr) (passW_of tk) (by rfl) T.g_is_whole T.F_is_whole.kp T.b_is_whole (da_cons (dv 0) da_nil)) (dm_one (dm_or (dm_eq (hu64 hr) (dv 0) dm_int) (dm_one (dm_ge (dv 0) dm_int)))))))
theorem ok_is_ways (T : Txt P K mg) : FnOk P w K mg base (L2.CX P w) 3 T.f_is_ways T.d_is_ways ["thing"] (spD K 1 m_is_ways) :=
  fun_ok T.F_is_ways sc_is_ways (by decide) fun cdv A outer s H E hr tk hp =>
    (ds_one (dn_ret (dm_and (dm_call (ok_is_tuple_of T) (rm hr) (passW_of tk) (by rfl) T.g_is_tuple_of T.F_is_tuple_of.kp T.b_is_tuple_of (da_cons dm_int (da_cons (dm_glob (d := .int 3) (v := .int 3) (u := .int 3 T.g_MOST_WAYS.choose) (fun _ => Is.intI) (by rfl) T.g_MOST_WAYS.choose_spec ⟨_, rfl⟩) (da_cons (dv 0) da_nil)))) (dm_one (dm_callB (cr_all rfl) (cd_all) (by rfl) T.z_all bb_all (da_cons (dm_lc (by rfl) sc_is_ways.nd (di_seq (dv 0)) (blkOk_by (own := [("way", 1)]) (by mpure_intro)) (tgd_name (i := 1) (by decide)) (fun _ _ _ _ _ => (pg_name (i := 1) sc_is_ways.nd (by rfl) (by mconstructor))) (fun _ _ _ _ _ => dts_nil) (fun _ _ _ _ _ => (dm_call (ok_is_way T) (rm hr) passW_none (by rfl) T.g_is_way T.F_is_way.kp T.b_is_way (da_cons (dv 1) da_nil)))) da_nil))))))
theorem ok_is_persons (T : Txt P K mg) : FnOk P w K mg base (L2.CX P w) 3 T.f_is_persons T.d_is_persons ["thing"] (spD K 1 m_is_persons) :=
  fun_ok T.F_is_persons sc_is_persons (by decide) fun cdv A outer s H E hr tk hp =>
    (ds_one (dn_ret (dm_call (ok_is_whole_in T) (rm hr) (passW_of tk) (by rfl) T.g_is_whole_in T.F_is_whole_in.kp T.b_is_whole_in (da_cons (dm_glob (d := .int 2) (v := .int 2) (u := .int 2 T.g_LEAST_PERSONS.choose) (fun _ => Is.intI) (by rfl) T.g_LEAST_PERSONS.choose_spec ⟨_, rfl⟩) (da_cons (dm_glob (d := .int 6) (v := .int 6) (u := .int 6 T.g_MOST_PERSONS.choose) (fun _ => Is.intI) (by rfl) T.g_MOST_PERSONS.choose_spec ⟨_, rfl⟩) (da_cons (dv 0) da_nil))))))
theorem ok_is_posts (T : Txt P K mg) : FnOk P w K mg base (L2.CX P w) 3 T.f_is_posts T.d_is_posts ["persons", "thing"] (spD K 2 m_is_posts) :=
  fun_ok T.F_is_posts sc_is_posts (by decide) fun cdv A outer s H E hr tk hp =>
    (ds_cons (dn_if (dt_not (dt_val (dm_call (ok_is_tuple_of T) (rm hr) (passW_of tk) (by rfl) T.g_is_tuple_of T.F_is_tuple_of.kp T.b_is_tuple_of (da_cons dm_int (da_cons (dm_sub (dv 0) dm_int) (da_cons (dv 1) da_nil)))))) (ds_one (dn_ret dm_bl)) ds_nil)
    (ds_cons (dn_set (i := 2) sc_is_posts.nd rfl (by mconstructor) dm_int)
    (ds_cons (dn_for hp (by rfl) (di_seq (dv 1)) (dg_name (i := 3) sc_is_posts.nd rfl (by mconstructor)) (ds_cons (dn_if (dt_not (dt_val (dm_call (ok_is_whole_in T) (rm hr) (passW_of tk) (by rfl) T.g_is_whole_in T.F_is_whole_in.kp T.b_is_whole_in (da_cons (dv 2) (da_cons (dm_sub (dv 0) dm_int) (da_cons (dv 3) da_nil)))))) (ds_one (dn_ret dm_bl)) ds_nil)
    (ds_one (dn_set (i := 2) sc_is_posts.nd rfl (by mconstructor) (dm_add (dv 3) dm_int)))))
    (ds_one (dn_ret dm_bl)))))
theorem ok_yard_wrong (T : Txt P K mg) : FnOk P w K mg base (L2.CX P w) 4 T.f_yard_wrong T.d_yard_wrong ["thing"] (spD K 1 m_yard_wrong) :=
  fun_ok T.F_yard_wrong sc_yard_wrong (by decide) fun cdv A outer s H E hr tk hp =>
    (ds_cons (dn_if (dt_not (dt_val (dm_call (ok_is_tuple_of T) (rm hr) (passW_of tk) (by rfl) T.g_is_tuple_of T.F_is_tuple_of.kp T.b_is_tuple_of (da_cons dm_int (da_cons dm_int (da_cons (dv 0) da_nil)))))) (ds_one (dn_ret (dm_tup (da_cons dm_str da_nil)))) ds_nil)
    (ds_cons (dn_unp (is := [1, 2, 3]) (by rfl) (dg_cons (i := 1) sc_yard_wrong.nd rfl (by mconstructor) (dg_cons (i := 2) sc_yard_wrong.nd rfl (by mconstructor) (dg_cons (i := 3) sc_yard_wrong.nd rfl (by mconstructor) dg_nil))) (dv 0))
    (ds_cons (dn_if (dt_not (dt_val (dm_call (ok_is_ways T) (rm hr) (passW_of tk) (by rfl) T.g_is_ways T.F_is_ways.kp T.b_is_ways (da_cons (dv 1) da_nil)))) (ds_one (dn_ret (dm_tup (da_cons dm_str da_nil)))) ds_nil)
    (ds_cons (dn_if (dt_not (dt_val (dm_call (ok_is_persons T) (rm hr) (passW_of tk) (by rfl) T.g_is_persons T.F_is_persons.kp T.b_is_persons (da_cons (dv 2) da_nil)))) (ds_one (dn_ret (dm_tup (da_cons dm_str da_nil)))) ds_nil)
    (ds_cons (dn_if (dt_not (dt_val (dm_call (ok_is_posts T) (rm hr) (passW_of tk) (by rfl) T.g_is_posts T.F_is_posts.kp T.b_is_posts (da_cons (dv 2) (da_cons (dv 3) da_nil))))) (ds_one (dn_ret (dm_tup (da_cons dm_str da_nil)))) ds_nil)
    (ds_one (dn_ret dm_non)))))))
theorem ok__law_mixed (T : Txt P K mg) : FnOk P w K mg base (L2.CX P w) 1 T.f__law_mixed T.d__law_mixed ["cell", "k"] (spD K 2 m__law_mixed) :=
  fun_ok T.F__law_mixed sc__law_mixed (by decide) fun cdv A outer s H E hr tk hp =>
    (ds_cons (dn_set (i := 2) sc__law_mixed.nd rfl (by mconstructor) (dm_mod (dm_add (dm_add (dm_mul (dm_mod (dv 0) dm_int) dm_int) (dm_mul (dv 1) dm_int)) dm_int) dm_int))
    (ds_cons (dn_set (i := 2) sc__law_mixed.nd rfl (by mconstructor) (dm_mod (dm_mul (dv 2) (dv 2)) dm_int))
    (ds_one (dn_ret (dm_div (dm_mod (dm_mul (dv 2) (dv 2)) dm_int) dm_int)))))
theorem ok__law_pile (T : Txt P K mg) : FnOk P w K mg base (L2.CX P w) 1 T.f__law_pile T.d__law_pile ["script", "k"] (spD K 2 m__law_pile) :=
  fun_ok T.F__law_pile sc__law_pile (by decide) fun cdv A outer s H E hr tk hp =>
    (ds_cons (dn_set (i := 2) sc__law_pile.nd rfl (by mconstructor) dm_int)
    (ds_cons (dn_if (dt_lt (dv 1) (dm_callB (call_len_seq.or call_len_str) (cd_len) (by rfl) T.z_len bb_len (da_cons (dv 0) da_nil))) (ds_one (dn_set (i := 2) sc__law_pile.nd rfl (by mconstructor) (dm_ix (dv 0) (dv 1)))) ds_nil)
    (ds_cons (dn_set (i := 3) sc__law_pile.nd rfl (by mconstructor) (dm_ix (dm_lst (da_cons dm_int (da_cons (dm_mod (dv 2) (dm_mul (dm_mul (dm_pow dm_int dm_int) (dm_pow dm_int dm_int)) (dm_pow dm_int dm_int))) da_nil))) (dm_callTy (call_int1) (cd_int) (by rfl) T.z_int bb_int (da_cons (dm_ge (dm_callB (call_abs) (cd_abs) (by rfl) T.z_abs bb_abs (da_cons (dv 2) da_nil)) (dm_pow dm_int dm_int)) da_nil))))
    (ds_one (dn_ret (dm_lst (da_cons (dv 3) (da_cons (dm_mod (dv 2) dm_int) (da_cons (dm_mul dm_int (dv 1)) (da_cons (dm_lt (dv 1) dm_int) da_nil))))))))))
theorem ok__law_take (T : Txt P K mg) : FnOk P w K mg base (L2.CX P w) 2 T.f__law_take T.d__law_take ["pile", "many"] (spD K 2 m__law_take) :=
  fun_ok T.F__law_take sc__law_take (by decide) fun cdv A outer s H E hr tk hp =>
    (ds_cons (dn_if (dt_in (dm_ix (dv 0) dm_int) (dm_lst (da_cons dm_int (da_cons (dm_neg dm_int) da_nil)))) (ds_cons (dn_setIx (k := 0) (pv 0) dm_int (dm_add (dm_ix (dv 0) dm_int) dm_int))
    (ds_one (dn_ret (dm_mod (dm_call (ok__law_mixed T) (rm hr) (passW_of tk) (by rfl) T.g__law_mixed T.F__law_mixed.kp T.b__law_mixed (da_cons (dm_ix (dv 0) dm_int) (da_cons (dm_ix (dv 0) dm_int) da_nil))) (dv 1))))) ds_nil)
    (ds_cons (dn_set (i := 2) sc__law_take.nd rfl (by mconstructor) (dm_mod (dm_ix (dv 0) dm_int) (dv 1)))
    (ds_cons (dn_setIx (k := 0) (pv 0) dm_int (dm_div (dm_ix (dv 0) dm_int) (dv 1)))
    (ds_one (dn_ret (dv 2))))))
theorem ok__law_great (T : Txt P K mg) : FnOk P w K mg base (L2.CX P w) 3 T.f__law_great T.d__law_great ["pile"] (spD K 1 m__law_great) :=
  fun_ok T.F__law_great sc__law_great (by decide) fun cdv A outer s H E hr tk hp =>
    (ds_one (dn_ret (dm_add (dm_mul (dm_call (ok__law_take T) (rm hr) (passW_of tk) (by rfl) T.g__law_take T.F__law_take.kp T.b__law_take (da_cons (dv 0) (da_cons (dm_pow dm_int dm_int) da_nil))) (dm_pow dm_int dm_int)) (dm_call (ok__law_take T) (rm hr) (passW_of tk) (by rfl) T.g__law_take T.F__law_take.kp T.b__law_take (da_cons (dv 0) (da_cons (dm_pow dm_int dm_int) da_nil))))))
theorem ok__law_kind (T : Txt P K mg) : FnOk P w K mg base (L2.CX P w) 1 T.f__law_kind T.d__law_kind ["e"] (spD K 1 m__law_kind) :=
  fun_ok T.F__law_kind sc__law_kind (by decide) fun cdv A outer s H E hr tk hp =>
    (ds_cons (dn_set (i := 1) sc__law_kind.nd rfl (by mconstructor) (dm_lst (da_cons (dm_callB (call_isY.or call_isi) (cd_isiF T.isi) (by rfl) T.z_isinstance bb_isinstance (da_cons (dv 0) (da_cons (dm_glob (d := .cls 1) (v := .ref T.c_NoYard) (u := .ref T.c_NoYard) (fun _ => is_clsI T.k_NoYard) (by rfl) T.g_NoYard rfl) da_nil))) (da_cons (dm_callB (call_isY.or call_isi) (cd_isiF T.isi) (by rfl) T.z_isinstance bb_isinstance (da_cons (dv 0) (da_cons (dm_glob (d := .cls 2) (v := .ref T.c_NoStanding) (u := .ref T.c_NoStanding) (fun _ => is_clsI T.k_NoStanding) (by rfl) T.g_NoStanding rfl) da_nil))) (da_cons (dm_callB (call_isY.or call_isi) (cd_isiF T.isi) (by rfl) T.z_isinstance bb_isinstance (da_cons (dv 0) (da_cons (dm_glob (d := .cls 3) (v := .ref T.c_NoLeap) (u := .ref T.c_NoLeap) (fun _ => is_clsI T.k_NoLeap) (by rfl) T.g_NoLeap rfl) da_nil))) (da_cons (dm_callB (call_isY.or call_isi) (cd_isiF T.isi) (by rfl) T.z_isinstance bb_isinstance (da_cons (dv 0) (da_cons (dm_glob (d := .cls 4) (v := .ref T.c_NoRow) (u := .ref T.c_NoRow) (fun _ => is_clsI T.k_NoRow) (by rfl) T.g_NoRow rfl) da_nil))) da_nil))))))
    (ds_cons (dn_set (i := 1) sc__law_kind.nd rfl (by mconstructor) (dm_add (dv 1) (dm_lst (da_cons (dm_callB (call_isY.or call_isi) (cd_isiF T.isi) (by rfl) T.z_isinstance bb_isinstance (da_cons (dv 0) (da_cons (dm_glob (d := .cls 5) (v := .ref T.c_NoVector) (u := .ref T.c_NoVector) (fun _ => is_clsI T.k_NoVector) (by rfl) T.g_NoVector rfl) da_nil))) (da_cons (dm_callB (call_isY.or call_isi) (cd_isiF T.isi) (by rfl) T.z_isinstance bb_isinstance (da_cons (dv 0) (da_cons (dm_glob (d := .cls 6) (v := .ref T.c_NoReading) (u := .ref T.c_NoReading) (fun _ => is_clsI T.k_NoReading) (by rfl) T.g_NoReading rfl) da_nil))) (da_cons (dm_callB (call_isY.or call_isi) (cd_isiF T.isi) (by rfl) T.z_isinstance bb_isinstance (da_cons (dv 0) (da_cons (dm_glob (d := .cls 7) (v := .ref T.c_NoWishes) (u := .ref T.c_NoWishes) (fun _ => is_clsI T.k_NoWishes) (by rfl) T.g_NoWishes rfl) da_nil))) (da_cons (dm_callB (call_isY.or call_isi) (cd_isiF T.isi) (by rfl) T.z_isinstance bb_isinstance (da_cons (dv 0) (da_cons (dm_glob (d := .cls 8) (v := .ref T.c_NoCell) (u := .ref T.c_NoCell) (fun _ => is_clsI T.k_NoCell) (by rfl) T.g_NoCell rfl) da_nil))) da_nil)))))))
    (ds_cons (dn_set (i := 1) sc__law_kind.nd rfl (by mconstructor) (dm_add (dv 1) (dm_lst (da_cons (dm_callB (call_isY.or call_isi) (cd_isiF T.isi) (by rfl) T.z_isinstance bb_isinstance (da_cons (dv 0) (da_cons (dm_glob (d := .cls 9) (v := .ref T.c_NoTable) (u := .ref T.c_NoTable) (fun _ => is_clsI T.k_NoTable) (by rfl) T.g_NoTable rfl) da_nil))) (da_cons (dm_callB (call_isY.or call_isi) (cd_isiF T.isi) (by rfl) T.z_isinstance bb_isinstance (da_cons (dv 0) (da_cons (dm_glob (d := .cls 10) (v := .ref T.c_NoNumber) (u := .ref T.c_NoNumber) (fun _ => is_clsI T.k_NoNumber) (by rfl) T.g_NoNumber rfl) da_nil))) (da_cons (dm_callB (call_isY.or call_isi) (cd_isiF T.isi) (by rfl) T.z_isinstance bb_isinstance (da_cons (dv 0) (da_cons (dm_glob (d := .cls 11) (v := .ref T.c_NoPerson) (u := .ref T.c_NoPerson) (fun _ => is_clsI T.k_NoPerson) (by rfl) T.g_NoPerson rfl) da_nil))) (da_cons (dm_callB (call_isY.or call_isi) (cd_isiF T.isi) (by rfl) T.z_isinstance bb_isinstance (da_cons (dv 0) (da_cons (dm_glob (d := .cls 12) (v := .ref T.c_TooMany) (u := .ref T.c_TooMany) (fun _ => is_clsI T.k_TooMany) (by rfl) T.g_TooMany rfl) da_nil))) da_nil)))))))
    (ds_cons (dn_set (i := 2) sc__law_kind.nd rfl (by mconstructor) (dm_lst (da_cons dm_str (da_cons dm_str (da_cons dm_str (da_cons dm_str (da_cons dm_str (da_cons dm_str (da_cons dm_str (da_cons dm_str (da_cons dm_str (da_cons dm_str (da_cons dm_str da_nil)))))))))))))
    (ds_cons (dn_if ((dw_and (dt_notN (dv 0)) (dw_and1 ((dw_or (dt_not (dt_val (dm_callB (call_isY.or call_isi) (cd_isiF T.isi) (by rfl) T.z_isinstance bb_isinstance (da_cons (dv 0) (da_cons (dm_glob (d := .cls 0) (v := .ref T.c_FolkError) (u := .ref T.c_FolkError) (fun _ => is_clsI T.k_FolkError) (by rfl) T.g_FolkError rfl) da_nil))))) (dw_or1 (dt_not (dt_val (dm_callB (call_isY.or call_isi) (cd_isiF T.isi) (by rfl) T.z_isinstance bb_isinstance (da_cons (dv 0) (da_cons (dm_tyName (by rfl) T.z_ValueError bb_ValueError) da_nil)))))))).pt))).pt (ds_one (dn_ret (dm_lst (da_cons dm_str da_nil)))) ds_nil)
    (ds_one (dn_ret (dm_lc (by rfl) sc__law_kind.nd (di_zip2 (by rfl) T.z_zip (da_cons (dm_add (dv 2) (dm_lst (da_cons dm_str da_nil))) (da_cons (dv 1) da_nil))) (blkOk_by (own := [("word", 3), ("truth", 4)]) (by mpure_intro)) (tgd_tup (is := [3, 4]) (by decide)) (fun _ _ _ _ _ => (pg_tup (by rfl) (dg_cons (i := 3) sc__law_kind.nd (by rfl) (by mconstructor) (dg_cons (i := 4) sc__law_kind.nd (by rfl) (by mconstructor) dg_nil)))) (fun _ _ _ _ _ => (dts_one (dt_val (dv 4)))) (fun _ _ _ _ _ => (dv 3))))))))))
theorem ok__law_bare (T : Txt P K mg) : FnOk P w K mg base (L2.CX P w) 1 T.f__law_bare T.d__law_bare ["word"] (spD K 1 m__law_bare) :=
  fun_ok T.F__law_bare sc__law_bare (by decide) fun cdv A outer s H E hr tk hp =>
    (ds_one (dn_ret (dm_lst (da_cons (dm_callC (call_ex (n := 1) (by decide) T.x_NoYard) (cd_ex T.k_NoYard (by decide)) (by rfl) T.g_NoYard T.kp_NoYard (da_cons (dv 0) da_nil)) (da_cons (dm_callC (call_ex (n := 1) (by decide) T.x_NoStanding) (cd_ex T.k_NoStanding (by decide)) (by rfl) T.g_NoStanding T.kp_NoStanding (da_cons (dv 0) da_nil)) (da_cons (dm_callC (call_ex (n := 1) (by decide) T.x_NoLeap) (cd_ex T.k_NoLeap (by decide)) (by rfl) T.g_NoLeap T.kp_NoLeap (da_cons (dv 0) da_nil)) (da_cons (dm_callC (call_ex (n := 1) (by decide) T.x_NoRow) (cd_ex T.k_NoRow (by decide)) (by rfl) T.g_NoRow T.kp_NoRow (da_cons (dv 0) da_nil)) (da_cons (dm_callC (call_ex (n := 1) (by decide) T.x_NoVector) (cd_ex T.k_NoVector (by decide)) (by rfl) T.g_NoVector T.kp_NoVector (da_cons (dv 0) da_nil)) (da_cons (dm_callC (call_ex (n := 1) (by decide) T.x_NoReading) (cd_ex T.k_NoReading (by decide)) (by rfl) T.g_NoReading T.kp_NoReading (da_cons (dv 0) da_nil)) (da_cons (dm_callC (call_ex (n := 1) (by decide) T.x_NoWishes) (cd_ex T.k_NoWishes (by decide)) (by rfl) T.g_NoWishes T.kp_NoWishes (da_cons (dv 0) da_nil)) da_nil))))))))))
theorem ok__law_all (T : Txt P K mg) : FnOk P w K mg base (L2.CX P w) 2 T.f__law_all T.d__law_all ["word"] (spD K 1 m__law_all) :=
  fun_ok T.F__law_all sc__law_all (by decide) fun cdv A outer s H E hr tk hp =>
    (ds_cons (dn_set (i := 1) sc__law_all.nd rfl (by mconstructor) (dm_lst (da_cons (dm_callC0 (call_ex (n := 0) (by decide) T.x_NoYard) (cd_ex T.k_NoYard (by decide)) (by rfl) T.g_NoYard T.kp_NoYard) (da_cons (dm_callC0 (call_ex (n := 0) (by decide) T.x_NoStanding) (cd_ex T.k_NoStanding (by decide)) (by rfl) T.g_NoStanding T.kp_NoStanding) (da_cons (dm_callC0 (call_ex (n := 0) (by decide) T.x_NoLeap) (cd_ex T.k_NoLeap (by decide)) (by rfl) T.g_NoLeap T.kp_NoLeap) (da_cons (dm_callC0 (call_ex (n := 0) (by decide) T.x_NoRow) (cd_ex T.k_NoRow (by decide)) (by rfl) T.g_NoRow T.kp_NoRow) (da_cons (dm_callC0 (call_ex (n := 0) (by decide) T.x_NoVector) (cd_ex T.k_NoVector (by decide)) (by rfl) T.g_NoVector T.kp_NoVector) (da_cons (dm_callC0 (call_ex (n := 0) (by decide) T.x_NoReading) (cd_ex T.k_NoReading (by decide)) (by rfl) T.g_NoReading T.kp_NoReading) (da_cons (dm_callC0 (call_ex (n := 0) (by decide) T.x_NoWishes) (cd_ex T.k_NoWishes (by decide)) (by rfl) T.g_NoWishes T.kp_NoWishes) (da_cons (dm_callC0 (call_ex (n := 0) (by decide) T.x_NoCell) (cd_ex T.k_NoCell (by decide)) (by rfl) T.g_NoCell T.kp_NoCell) (da_cons (dm_callC0 (call_ex (n := 0) (by decide) T.x_NoTable) (cd_ex T.k_NoTable (by decide)) (by rfl) T.g_NoTable T.kp_NoTable) da_nil)))))))))))
    (ds_one (dn_ret (dm_lst (da_cons (dm_add (dv 1) (dm_lst (da_cons (dm_callC0 (call_ex (n := 0) (by decide) T.x_NoNumber) (cd_ex T.k_NoNumber (by decide)) (by rfl) T.g_NoNumber T.kp_NoNumber) da_nil))) (da_cons (dm_add (dm_call (ok__law_bare T) (rm hr) (passW_of tk) (by rfl) T.g__law_bare T.F__law_bare.kp T.b__law_bare (da_cons (dv 0) da_nil)) (dm_lst (da_cons (dm_callC (call_ex (n := 1) (by decide) T.x_NoCell) (cd_ex T.k_NoCell (by decide)) (by rfl) T.g_NoCell T.kp_NoCell (da_cons (dv 0) da_nil)) (da_cons (dm_callC (call_ex (n := 1) (by decide) T.x_NoTable) (cd_ex T.k_NoTable (by decide)) (by rfl) T.g_NoTable T.kp_NoTable (da_cons (dv 0) da_nil)) (da_cons (dm_callC (call_ex (n := 1) (by decide) T.x_NoNumber) (cd_ex T.k_NoNumber (by decide)) (by rfl) T.g_NoNumber T.kp_NoNumber (da_cons (dv 0) da_nil)) da_nil))))) da_nil))))))
theorem ok_law (T : Txt P K mg) : LawG P w K mg base T.f_law T.d_law "script" (spD K 1 m_law) :=
  lawG_of (k := 4) T.F_law sc_law (by decide) ⟨rfl, by decide, by decide⟩ fun cdv s H E X eX hG hr tk hp => by
    subst eX
    exact (ds_cons (dn_set (i := 1) sc_law.nd rfl (by mconstructor) (dm_lst (da_cons dm_str (da_cons dm_str (da_cons dm_str (da_cons dm_str (da_cons dm_str (da_cons dm_str (da_cons dm_str (da_cons dm_str (da_cons dm_str (da_cons dm_str da_nil))))))))))))
    (ds_cons (dn_set (i := 2) sc_law.nd rfl (by mconstructor) (dm_lst da_nil))
    (ds_cons (dn_for hp (by rfl) (di_rng1 (by rfl) T.z_range (da_cons dm_int da_nil)) (dg_name (i := 3) sc_law.nd rfl (by mconstructor)) (ds_cons (dn_set (i := 4) sc_law.nd rfl (by mconstructor) (dm_call (ok__law_pile T) (rm hr) (passW_of tk) (by rfl) T.g__law_pile T.F__law_pile.kp T.b__law_pile (da_cons (dv 0) (da_cons (dv 3) da_nil))))
    (ds_cons (dn_for hp (by rfl) (di_seq (dm_call (ok__law_all T) (rm hr) (passW_of tk) (by rfl) T.g__law_all T.F__law_all.kp T.b__law_all (da_cons (dm_add dm_str (dm_callTy (call_show hG (hu100 hr)) (cd_shown) (by rfl) T.z_str bb_str (da_cons (dm_call (ok__law_take T) (rm hr) (passW_of tk) (by rfl) T.g__law_take T.F__law_take.kp T.b__law_take (da_cons (dv 4) (da_cons dm_int da_nil))) da_nil))) da_nil))) (dg_name (i := 5) sc_law.nd rfl (by mconstructor)) (ds_one (dn_if (dt_ne (hu64 hr) (dm_lc (by rfl) sc_law.nd (di_seq (dv 5)) (blkOk_by (own := [("one", 10)]) (by mpure_intro)) (tgd_name (i := 10) (by decide)) (fun _ _ _ _ _ => (pg_name (i := 10) sc_law.nd (by rfl) (by mconstructor))) (fun _ _ _ _ _ => dts_nil) (fun _ _ _ _ _ => (dm_call (ok__law_kind T) (rm hr) passW_none (by rfl) T.g__law_kind T.F__law_kind.kp T.b__law_kind (da_cons (dv 10) da_nil)))) (dm_lc (by rfl) sc_law.nd (di_seq (dv 1)) (blkOk_by (own := [("word", 11)]) (by mpure_intro)) (tgd_name (i := 11) (by decide)) (fun _ _ _ _ _ => (pg_name (i := 11) sc_law.nd (by rfl) (by mconstructor))) (fun _ _ _ _ _ => dts_nil) (fun _ _ _ _ _ => (dm_lst (da_cons (dv 11) da_nil))))) (ds_one (dn_ret dm_bl)) ds_nil)))
    (ds_cons (dn_set (i := 6) sc_law.nd rfl (by mconstructor) (dm_call (ok__law_great T) (rm hr) (passW_of tk) (by rfl) T.g__law_great T.F__law_great.kp T.b__law_great (da_cons (dv 4) da_nil)))
    (ds_cons (dn_set (i := 7) sc_law.nd rfl (by mconstructor) (dm_ix (dm_lst (da_cons (dv 6) (da_cons dm_non (da_cons dm_str (da_cons (dm_tup (da_cons (dv 6) (da_cons dm_int da_nil))) (da_cons (dm_sub dm_int (dv 6)) (da_cons dm_bl da_nil))))))) (dm_call (ok__law_take T) (rm hr) (passW_of tk) (by rfl) T.g__law_take T.F__law_take.kp T.b__law_take (da_cons (dv 4) (da_cons dm_int da_nil)))))
    (ds_cons (dn_set (i := 8) sc_law.nd rfl (by mconstructor) (dm_ix (dm_lst (da_cons (dv 6) (da_cons dm_non (da_cons dm_str (da_cons (dm_tup (da_cons dm_int (da_cons (dv 6) da_nil))) (da_cons (dm_sub dm_int (dv 6)) (da_cons dm_bl da_nil))))))) (dm_call (ok__law_take T) (rm hr) (passW_of tk) (by rfl) T.g__law_take T.F__law_take.kp T.b__law_take (da_cons (dv 4) (da_cons dm_int da_nil)))))
    (ds_cons (dn_set (i := 9) sc_law.nd rfl (by mconstructor) (dm_lst (da_cons (dm_callC (call_ini (k := 0) T.xi_NoPerson PySem.DLX.fld_person T.xb_NoPerson (rm hr)) (cd_ini T.k_NoPerson (by decide)) (by rfl) T.g_NoPerson T.kp_NoPerson (da_cons (dv 7) da_nil)) (da_cons (dm_callCK (fun I r h => call_iniK (k := 0) T.xi_NoPerson PySem.DLX.fld_person T.xb_NoPerson (rm hr) I r h) (cd_ini T.k_NoPerson (by decide)) (by rfl) T.g_NoPerson T.kp_NoPerson (dk_one (dv 7))) (da_cons (dm_callC (call_ini (k := 0) T.xi_TooMany PySem.DLX.fld_most T.xb_TooMany (rm hr)) (cd_ini T.k_TooMany (by decide)) (by rfl) T.g_TooMany T.kp_TooMany (da_cons (dv 8) da_nil)) (da_cons (dm_callCK (fun I r h => call_iniK (k := 0) T.xi_TooMany PySem.DLX.fld_most T.xb_TooMany (rm hr) I r h) (cd_ini T.k_TooMany (by decide)) (by rfl) T.g_TooMany T.kp_TooMany (dk_one (dv 8))) da_nil))))))
    (ds_cons (dn_app (pe_bm PySem.F.plainAttrs_list PySem.F.slot_list_append PySem.F.type_list_append mt_append (pv 2) (pa_cons (dm_tup (da_cons (dv 7) (da_cons (dv 8) (da_cons (dv 9) da_nil)))) pa_nil)))
    (ds_cons (dn_if (dt_ne (hu64 hr) (dm_lc (by rfl) sc_law.nd (di_seq (dv 9)) (blkOk_by (own := [("one", 10)]) (by mpure_intro)) (tgd_name (i := 10) (by decide)) (fun _ _ _ _ _ => (pg_name (i := 10) sc_law.nd (by rfl) (by mconstructor))) (fun _ _ _ _ _ => dts_nil) (fun _ _ _ _ _ => (dm_call (ok__law_kind T) (rm hr) passW_none (by rfl) T.g__law_kind T.F__law_kind.kp T.b__law_kind (da_cons (dv 10) da_nil)))) (dm_lst (da_cons (dm_lst (da_cons dm_str da_nil)) (da_cons (dm_lst (da_cons dm_str da_nil)) (da_cons (dm_lst (da_cons dm_str da_nil)) (da_cons (dm_lst (da_cons dm_str da_nil)) da_nil)))))) (ds_one (dn_ret dm_bl)) ds_nil)
    (ds_one (dn_if ((dw_or (dt_ne (hu64 hr) (dm_call (ok__law_kind T) (rm hr) (passW_of tk) (by rfl) T.g__law_kind T.F__law_kind.kp T.b__law_kind (da_cons (dm_callC (call_ex (n := 1) (by decide) T.x_FolkError) (cd_ex T.k_FolkError (by decide)) (by rfl) T.g_FolkError T.kp_FolkError (da_cons dm_str da_nil)) da_nil)) (dm_lst da_nil)) (dw_or1 (dt_ne (hu64 hr) (dm_call (ok__law_kind T) (rm hr) (passW_of tk) (by rfl) T.g__law_kind T.F__law_kind.kp T.b__law_kind (da_cons (dm_callC0 (call_ex (n := 0) (by decide) T.x_FolkError) (cd_ex T.k_FolkError (by decide)) (by rfl) T.g_FolkError T.kp_FolkError) da_nil)) (dm_lst da_nil))))).pt (ds_one (dn_ret dm_bl)) ds_nil)))))))))))
    (ds_cons (dn_for hp (by rfl) (di_seq (dv 2)) (dg_tup (is := [7, 8, 9]) (by rfl) (dg_cons (i := 7) sc_law.nd rfl (by mconstructor) (dg_cons (i := 8) sc_law.nd rfl (by mconstructor) (dg_cons (i := 9) sc_law.nd rfl (by mconstructor) dg_nil)))) (ds_one (dn_if (dt_ne (hu64 hr) (dm_lst (da_cons (dm_at T.at_ (dm_ix (dv 9) dm_int)) (da_cons (dm_at T.at_ (dm_ix (dv 9) dm_int)) (da_cons (dm_at T.at_ (dm_ix (dv 9) dm_int)) (da_cons (dm_at T.at_ (dm_ix (dv 9) dm_int)) da_nil))))) (dm_lst (da_cons (dv 7) (da_cons (dv 7) (da_cons (dv 8) (da_cons (dv 8) da_nil)))))) (ds_one (dn_ret dm_bl)) ds_nil)))
    (ds_one (dn_ret (dm_isN (dm_call (ok_yard_wrong T) (rm hr) (passW_of tk) (by rfl) T.g_yard_wrong T.F_yard_wrong.kp T.b_yard_wrong (da_cons (dm_tup (da_cons (dm_tup (da_cons dm_int da_nil)) (da_cons dm_int (da_cons (dm_tup da_nil) da_nil)))) da_nil)))))))))
end
end K95

namespace DL
open PySem L2 PyProof.Rows
section
variable {ρ : Rho} {N B C : Rho → Prop} {R : Rs → Rho → Prop} {E : Exn → Rho → Prop}
theorem wsv {i : Nat} {d : DL.D} (h1 : i < ρ.length) (h2 : isIo ρ[i]? = false) (h : N (ρ.set i (.va d))) : OW (setR i (.va d) ρ) N R B C E := by
  unfold setR; rw [if_pos ⟨h1, h2⟩]; exact h
theorem wsf {i : Nat} {xs : List DL.D} (h1 : i < ρ.length) (h2 : isIo ρ[i]? = false) (h : N (ρ.set i (.ow false xs))) : OW (setR i (.fr xs) ρ) N R B C E := by
  unfold setR; rw [if_pos ⟨h1, h2⟩]; exact h
end
end DL
namespace K95
open PySem L2 PyProof.Rows DL
local macro_rules | `(tactic| mconstructor) => `(tactic| first | exact .inl rfl | exact .inr (.inl rfl) | exact .inr rfl | exact .inr (.inr rfl))
local macro_rules | `(tactic| mpure_intro) => `(tactic| (simp only [cxOf, envOfC, Cx.blk, compEnvC, relab_eq]; decide +kernel))
theorem rng_ok {n : Int} (h0 : 0 ≤ n) (h : n ≤ 1000000) : rngD1 [.int n] = some (rngL 0 n.toNat) := by
  unfold rngD1
  simp only
  rw [if_pos (by unfold big62; omega)]
theorem rng_at {n i : Nat} {d : DL.D} (h : (rngL 0 n)[i]? = some d) : i < n ∧ d = .int i := by
  unfold rngL at h
  rw [List.getElem?_map] at h
  by_cases hi : i < n
  · rw [List.getElem?_range hi] at h
    cases h
    exact ⟨hi, by simp⟩
  · rw [List.getElem?_eq_none (by simp; omega)] at h
    cases h
theorem rng_len {n : Nat} : (rngL 0 n).length = n := by simp [rngL]
theorem ix_ok {xs : List DL.D} {i : Int} {d : DL.D} (h : atI xs i = some d) : ixD (.lst xs) (.int i) = some (.va d) := by
  show (atI xs i).map Rs.va = _
  rw [h]; rfl
theorem ixt_ok {xs : List DL.D} {i : Int} {d : DL.D} (h : atI xs i = some d) : ixD (.tup xs) (.int i) = some (.va d) := by
  show (atI xs i).map Rs.va = _
  rw [h]; rfl
theorem at3 {x y z : DL.D} {i : Int} (h : i = 0 ∨ i = 1 ∨ i = 2) : ∃ d, atI [x, y, z] i = some d ∧ (i = 0 → d = x) ∧ (i = 1 → d = y) ∧ (i = 2 → d = z) := by
  rcases h with rfl | rfl | rfl
  · exact ⟨x, rfl, fun _ => rfl, fun e => by omega, fun e => by omega⟩
  · exact ⟨y, rfl, fun e => by omega, fun _ => rfl, fun e => by omega⟩
  · exact ⟨z, rfl, fun e => by omega, fun e => by omega, fun _ => rfl⟩
theorem at2 {x y : DL.D} (c : Bool) : ∃ d, atI [x, y] (if c = true then 1 else 0) = some d ∧ (c = true → d = y) ∧ (c = false → d = x) := by
  cases c with
  | true => exact ⟨y, rfl, fun _ => rfl, fun e => by cases e⟩
  | false => exact ⟨x, rfl, fun e => (by cases e), fun _ => rfl⟩
theorem upd1_va {rs : List Rs} {as' : List Sl} {i : Nat} {d : DL.D} : upd1 rs as' i (.va d) = .va d := rfl
theorem upd1_un {rs : List Rs} {as' : List Sl} {i : Nat} : upd1 rs as' i .un = .un := rfl
theorem upd1_ow {rs : List Rs} {as' : List Sl} {i : Nat} {io : Bool} {xs : List DL.D} : upd1 rs as' i (.ow io xs) = match pos? rs i with
    | some k => (match as'[k]? with
      | some (.ow true ys) => .ow io ys
      | _ => .ow io xs)
    | none => .ow io xs := rfl
theorem upd1_none {rs : List Rs} {as' : List Sl} {i : Nat} {s : Sl} (h : pos? rs i = none) : upd1 rs as' i s = s := by
  cases s with
  | un => rfl
  | va d => rfl
  | ow io xs => rw [upd1_ow, h]
theorem upd1_v1 {x : DL.D} {as' : List Sl} {i : Nat} {s : Sl} : upd1 [.va x] as' i s = s := upd1_none rfl
theorem upd1_v2 {x y : DL.D} {as' : List Sl} {i : Nat} {s : Sl} : upd1 [.va x, .va y] as' i s = s := upd1_none rfl
theorem upd1_v3 {x y z : DL.D} {as' : List Sl} {i : Nat} {s : Sl} : upd1 [.va x, .va y, .va z] as' i s = s := upd1_none rfl
theorem upd1_v4 {x y z u : DL.D} {as' : List Sl} {i : Nat} {s : Sl} : upd1 [.va x, .va y, .va z, .va u] as' i s = s := upd1_none rfl
local macro_rules | `(tactic| mleft) => `(tactic| first | with_reducible refine wSeq ?_ | with_reducible refine wRet ?_ | with_reducible refine wSet ?_ | with_reducible refine wNext ?_ | with_reducible refine wBin ?_ | with_reducible refine wC ?_ | with_reducible refine wCons ?_ | with_reducible refine wNil ?_ | with_reducible refine wTv ?_ | with_reducible refine wUn ?_ | with_reducible refine wBi ?_ | with_reducible refine wLst ?_ | with_reducible refine wTup ?_ | with_reducible refine wNot ?_ | with_reducible refine wNotV ?_ | with_reducible refine wTrue ?_ | with_reducible refine wAnd ?_ | with_reducible refine wOr ?_ | with_reducible refine wIf ?_ | with_reducible refine wIte ?_ | with_reducible refine wAndV ?_ | with_reducible refine wOrV ?_ | with_reducible refine wChain ?_ | with_reducible refine wSl ?_ | with_reducible refine wPN ?_ | with_reducible refine wPS ?_ | with_reducible refine wExpr ?_ | with_reducible refine wRaise ?_ | with_reducible refine wIter ?_ | with_reducible refine wRng ?_ | with_reducible refine wSeqs ?_ | with_reducible refine wCall ?_ | with_reducible refine wSetIx rfl ?_ | with_reducible refine wApp rfl ?_ | with_reducible refine wUnp ?_ | with_reducible refine wFor ?_ | with_reducible refine wComp ?_ | with_reducible refine wFrz ?_ | with_reducible refine wV rfl ?_ | with_reducible refine wVo rfl ?_)
local macro_rules | `(tactic| massumption) => `(tactic| first | decide | omega | assumption | exact cmul 100 100 (by omega) (by omega) (by decide))
local macro_rules | `(tactic| mright) => `(tactic| first | ((with_reducible refine And.intro (a := (_ && _) = true) ?_ ?_); (focus ((try dsimp only [soft, List.map_cons, List.map_nil, toArg, List.getElem?_cons_zero, List.getElem?_cons_succ]); first | rfl | (simp [alNd, pos?, argOk]; done))); (try dsimp only [soft, List.map_cons, List.map_nil, toArg, List.getElem?_cons_zero, List.getElem?_cons_succ])) | ((with_reducible refine And.intro (a := _ < _) ?_ ?_); focus (first | omega | (simp; omega))) | ((with_reducible show And _ _); first | refine ⟨fun z => absurd z (by decide), fun _ => ?_⟩ | refine ⟨fun _ => ?_, fun z => absurd z (by decide)⟩) | ((with_reducible show Exists _); first | refine ⟨_, _, _, rfl, rfl, mod_ok (by massumption), ?_⟩ | refine ⟨_, _, _, rfl, rfl, mul_ok (by massumption), ?_⟩ | refine ⟨_, _, _, rfl, rfl, div_ok (by massumption), ?_⟩ | (refine ⟨_, _, _, rfl, rfl, pow_ok (by decide), ?_⟩; simp only [Int.reduceToNat, Int.reducePow]) | refine ⟨_, _, _, rfl, rfl, rfl, ?_⟩ | refine ⟨_, _, _, rfl, rfl, ix_ok (by assumption), ?_⟩ | refine ⟨_, _, _, rfl, rfl, ixt_ok (by assumption), ?_⟩ | (refine ⟨_, _, _, _, rfl, rfl, rfl, ?_⟩; (try dsimp only [Int.reduceToNat, List.set_cons_zero, List.set_cons_succ])) | refine ⟨_, _, _, _, rfl, rfl, (by first | massumption | (simp; omega)), ?_⟩ | refine ⟨_, _, _, rfl, rfl, ?_⟩ | refine ⟨_, _, rfl, rng_ok (by omega) (by omega), ?_⟩ | refine ⟨_, rfl, ?_⟩ | refine ⟨_, _, rfl, rfl, ?_⟩ | refine ⟨_, _, rfl, (by first | decide | (simp; done)), ?_⟩ | refine ⟨_, _, rfl, ?_⟩))
local macro_rules | `(tactic| mstop) => `(tactic| first | ((with_reducible refine wsv ?_ ?_ ?_); (focus (simp; done)); (focus (first | rfl | assumption | (rw [upd1_none (by rfl)]; assumption))); dsimp only [List.set_cons_zero, List.set_cons_succ]) | ((with_reducible refine wsf ?_ ?_ ?_); (focus (simp; done)); (focus (first | rfl | assumption | (rw [upd1_none (by rfl)]; assumption))); dsimp only [List.set_cons_zero, List.set_cons_succ]))
local macro_rules | `(tactic| mexfalso) => `(tactic| (refine ⟨trivial, ?_⟩; simp only [backC, upd1_va, upd1_un, upd1_v1, upd1_v2, upd1_v3, upd1_v4, upd1_ow, upd1_none, pos?, if_true, if_false, reduceIte, Option.map_some, Option.map_none, Nat.reduceAdd, Nat.reduceEqDiff, List.getElem?_cons_zero, List.getElem?_cons_succ, List.set_cons_zero, List.set_cons_succ]))
local macro_rules | `(tactic| mstart) => `(tactic| repeat (first | mleft | mright | mstop))
theorem mixed_w {c k : Int} {Q : Rs → Rho → Prop} {E : Exn → Rho → Prop} (hk : 0 ≤ k) (hk2 : k < 1000000) (h : ∀ r : Int, Q (.va (.int r)) [.va (.int c), .va (.int k)]) : RW (m__law_mixed [.va (.int c), .va (.int k)]) Q E := by
  (refine wFun ?_; unfold n__law_mixed; simp only [List.length_cons, List.length_nil, Nat.reduceAdd, Nat.reduceSub, List.replicate, List.cons_append, List.nil_append, Nat.zero_add])
  mstart
  exact h _
end K95

namespace K95
open PySem L2 PyProof.Rows DL
local macro_rules | `(tactic| mconstructor) => `(tactic| first | exact .inl rfl | exact .inr (.inl rfl) | exact .inr rfl | exact .inr (.inr rfl))
local macro_rules | `(tactic| mpure_intro) => `(tactic| (simp only [cxOf, envOfC, Cx.blk, compEnvC, relab_eq]; decide +kernel))
local macro_rules | `(tactic| mleft) => `(tactic| first | with_reducible refine wSeq ?_ | with_reducible refine wRet ?_ | with_reducible refine wSet ?_ | with_reducible refine wNext ?_ | with_reducible refine wBin ?_ | with_reducible refine wC ?_ | with_reducible refine wCons ?_ | with_reducible refine wNil ?_ | with_reducible refine wTv ?_ | with_reducible refine wUn ?_ | with_reducible refine wBi ?_ | with_reducible refine wLst ?_ | with_reducible refine wTup ?_ | with_reducible refine wNot ?_ | with_reducible refine wNotV ?_ | with_reducible refine wTrue ?_ | with_reducible refine wAnd ?_ | with_reducible refine wOr ?_ | with_reducible refine wIf ?_ | with_reducible refine wIte ?_ | with_reducible refine wAndV ?_ | with_reducible refine wOrV ?_ | with_reducible refine wChain ?_ | with_reducible refine wSl ?_ | with_reducible refine wPN ?_ | with_reducible refine wPS ?_ | with_reducible refine wExpr ?_ | with_reducible refine wRaise ?_ | with_reducible refine wIter ?_ | with_reducible refine wRng ?_ | with_reducible refine wSeqs ?_ | with_reducible refine wCall ?_ | with_reducible refine wSetIx rfl ?_ | with_reducible refine wApp rfl ?_ | with_reducible refine wUnp ?_ | with_reducible refine wFor ?_ | with_reducible refine wComp ?_ | with_reducible refine wFrz ?_ | with_reducible refine wV rfl ?_ | with_reducible refine wVo rfl ?_)
local macro_rules | `(tactic| massumption) => `(tactic| first | decide | omega | assumption | exact cmul 100 100 (by omega) (by omega) (by decide))
local macro_rules | `(tactic| mright) => `(tactic| first | ((with_reducible refine And.intro (a := (_ && _) = true) ?_ ?_); (focus ((try dsimp only [soft, List.map_cons, List.map_nil, toArg, List.getElem?_cons_zero, List.getElem?_cons_succ]); first | rfl | (simp [alNd, pos?, argOk]; done))); (try dsimp only [soft, List.map_cons, List.map_nil, toArg, List.getElem?_cons_zero, List.getElem?_cons_succ])) | ((with_reducible refine And.intro (a := _ < _) ?_ ?_); focus (first | omega | (simp; omega))) | ((with_reducible show And _ _); first | refine ⟨fun z => absurd z (by decide), fun _ => ?_⟩ | refine ⟨fun _ => ?_, fun z => absurd z (by decide)⟩) | ((with_reducible show Exists _); first | refine ⟨_, _, _, rfl, rfl, mod_ok (by massumption), ?_⟩ | refine ⟨_, _, _, rfl, rfl, mul_ok (by massumption), ?_⟩ | refine ⟨_, _, _, rfl, rfl, div_ok (by massumption), ?_⟩ | (refine ⟨_, _, _, rfl, rfl, pow_ok (by decide), ?_⟩; simp only [Int.reduceToNat, Int.reducePow]) | refine ⟨_, _, _, rfl, rfl, rfl, ?_⟩ | refine ⟨_, _, _, rfl, rfl, ix_ok (by assumption), ?_⟩ | refine ⟨_, _, _, rfl, rfl, ixt_ok (by assumption), ?_⟩ | (refine ⟨_, _, _, _, rfl, rfl, rfl, ?_⟩; (try dsimp only [Int.reduceToNat, List.set_cons_zero, List.set_cons_succ])) | refine ⟨_, _, _, _, rfl, rfl, (by first | massumption | (simp; omega)), ?_⟩ | refine ⟨_, _, _, rfl, rfl, ?_⟩ | refine ⟨_, _, rfl, rng_ok (by omega) (by omega), ?_⟩ | refine ⟨_, rfl, ?_⟩ | refine ⟨_, _, rfl, rfl, ?_⟩ | refine ⟨_, _, rfl, (by first | decide | (simp; done)), ?_⟩ | refine ⟨_, _, rfl, ?_⟩))
local macro_rules | `(tactic| mstop) => `(tactic| first | ((with_reducible refine wsv ?_ ?_ ?_); (focus (simp; done)); (focus (first | rfl | assumption | (rw [upd1_none (by rfl)]; assumption))); dsimp only [List.set_cons_zero, List.set_cons_succ]) | ((with_reducible refine wsf ?_ ?_ ?_); (focus (simp; done)); (focus (first | rfl | assumption | (rw [upd1_none (by rfl)]; assumption))); dsimp only [List.set_cons_zero, List.set_cons_succ]))
local macro_rules | `(tactic| mexfalso) => `(tactic| (refine ⟨trivial, ?_⟩; simp only [backC, upd1_va, upd1_un, upd1_v1, upd1_v2, upd1_v3, upd1_v4, upd1_ow, upd1_none, pos?, if_true, if_false, reduceIte, Option.map_some, Option.map_none, Nat.reduceAdd, Nat.reduceEqDiff, List.getElem?_cons_zero, List.getElem?_cons_succ, List.set_cons_zero, List.set_cons_succ]))
local macro_rules | `(tactic| mstart) => `(tactic| repeat (first | mleft | mright | mstop))
abbrev pl (d c k : Int) (b : Bool) : Sl := .ow true [.int d, .int c, .int k, .bl b]
theorem take_w {d c k m : Int} {b : Bool} {Q : Rs → Rho → Prop} {E : Exn → Rho → Prop} (hm : 0 < m) (hm2 : m < 1000000000000) (hk : 0 ≤ k) (hk2 : k < 900000)
    (h : ∀ r d' k' : Int, 0 ≤ r → r < m → 0 ≤ k' → k' ≤ k + 1 → Q (.va (.int r)) [pl d' c k' b, .va (.int m)]) : RW (m__law_take [pl d c k b, .va (.int m)]) Q E := by
  (refine wFun ?_; unfold n__law_take; simp only [List.length_cons, List.length_nil, Nat.reduceAdd, Nat.reduceSub, List.replicate, List.cons_append, List.nil_append, Nat.zero_add])
  have hdv : CDivW d m := ⟨hm, by have := Nat.log2_le_self m.natAbs; have : m.natAbs.log2 ≤ 40 := Nat.le_of_lt_succ ((Nat.log2_lt (by omega)).mpr (by omega)); omega⟩
  mstart
  refine ⟨fun hc => ?_, fun hc => ?_⟩
  · mstart
    refine mixed_w (by omega) (by omega) fun r => ?_
    mexfalso
    mstart
    exact h _ _ _ (Int.emod_nonneg _ (by omega)) (Int.emod_lt_of_pos _ hm) (by omega) (by omega)
  · mstart
    exact h _ _ _ (Int.emod_nonneg _ (by omega)) (Int.emod_lt_of_pos _ hm) (by omega) (by omega)
theorem great_w {d c k : Int} {b : Bool} {Q : Rs → Rho → Prop} {E : Exn → Rho → Prop} (hk : 0 ≤ k) (hk2 : k < 800000)
    (h : ∀ r d' k' : Int, 0 ≤ r → r < 10000100000 → 0 ≤ k' → k' ≤ k + 2 → Q (.va (.int r)) [pl d' c k' b]) : RW (m__law_great [pl d c k b]) Q E := by
  (refine wFun ?_; unfold n__law_great; simp only [List.length_cons, List.length_nil, Nat.reduceAdd, Nat.reduceSub, List.replicate, List.cons_append, List.nil_append, Nat.zero_add])
  mstart
  refine take_w (by omega) (by omega) hk (by omega) fun r d1 k1 a1 a2 a3 a4 => ?_
  mexfalso
  mstart
  refine take_w (by omega) (by omega) a3 (by omega) fun r2 d2 k2 b1 b2 b3 b4 => ?_
  mexfalso
  mstart
  exact h _ _ _ (by omega) (by omega) (by omega) (by omega)
end K95

namespace K95
open PySem L2 PyProof.Rows DL
local macro_rules | `(tactic| mconstructor) => `(tactic| first | exact .inl rfl | exact .inr (.inl rfl) | exact .inr rfl | exact .inr (.inr rfl))
local macro_rules | `(tactic| mpure_intro) => `(tactic| (simp only [cxOf, envOfC, Cx.blk, compEnvC, relab_eq]; decide +kernel))
local macro_rules | `(tactic| mleft) => `(tactic| first | with_reducible refine wSeq ?_ | with_reducible refine wRet ?_ | with_reducible refine wSet ?_ | with_reducible refine wNext ?_ | with_reducible refine wBin ?_ | with_reducible refine wC ?_ | with_reducible refine wCons ?_ | with_reducible refine wNil ?_ | with_reducible refine wTv ?_ | with_reducible refine wUn ?_ | with_reducible refine wBi ?_ | with_reducible refine wLst ?_ | with_reducible refine wTup ?_ | with_reducible refine wNot ?_ | with_reducible refine wNotV ?_ | with_reducible refine wTrue ?_ | with_reducible refine wAnd ?_ | with_reducible refine wOr ?_ | with_reducible refine wIf ?_ | with_reducible refine wIte ?_ | with_reducible refine wAndV ?_ | with_reducible refine wOrV ?_ | with_reducible refine wChain ?_ | with_reducible refine wSl ?_ | with_reducible refine wPN ?_ | with_reducible refine wPS ?_ | with_reducible refine wExpr ?_ | with_reducible refine wRaise ?_ | with_reducible refine wIter ?_ | with_reducible refine wRng ?_ | with_reducible refine wSeqs ?_ | with_reducible refine wCall ?_ | with_reducible refine wSetIx rfl ?_ | with_reducible refine wApp rfl ?_ | with_reducible refine wUnp ?_ | with_reducible refine wFor ?_ | with_reducible refine wComp ?_ | with_reducible refine wFrz ?_ | with_reducible refine wV rfl ?_ | with_reducible refine wVo rfl ?_)
local macro_rules | `(tactic| massumption) => `(tactic| first | decide | omega | assumption | exact cmul 100 100 (by omega) (by omega) (by decide))
local macro_rules | `(tactic| mright) => `(tactic| first | ((with_reducible refine And.intro (a := (_ && _) = true) ?_ ?_); (focus ((try dsimp only [soft, List.map_cons, List.map_nil, toArg, List.getElem?_cons_zero, List.getElem?_cons_succ]); first | rfl | (simp [alNd, pos?, argOk]; done))); (try dsimp only [soft, List.map_cons, List.map_nil, toArg, List.getElem?_cons_zero, List.getElem?_cons_succ])) | ((with_reducible refine And.intro (a := _ < _) ?_ ?_); focus (first | omega | (simp; omega))) | ((with_reducible show And _ _); first | refine ⟨fun z => absurd z (by decide), fun _ => ?_⟩ | refine ⟨fun _ => ?_, fun z => absurd z (by decide)⟩) | ((with_reducible show Exists _); first | refine ⟨_, _, _, rfl, rfl, mod_ok (by massumption), ?_⟩ | refine ⟨_, _, _, rfl, rfl, mul_ok (by massumption), ?_⟩ | refine ⟨_, _, _, rfl, rfl, div_ok (by massumption), ?_⟩ | (refine ⟨_, _, _, rfl, rfl, pow_ok (by decide), ?_⟩; simp only [Int.reduceToNat, Int.reducePow]) | refine ⟨_, _, _, rfl, rfl, rfl, ?_⟩ | refine ⟨_, _, _, rfl, rfl, ix_ok (by assumption), ?_⟩ | refine ⟨_, _, _, rfl, rfl, ixt_ok (by assumption), ?_⟩ | (refine ⟨_, _, _, _, rfl, rfl, rfl, ?_⟩; (try dsimp only [Int.reduceToNat, List.set_cons_zero, List.set_cons_succ])) | refine ⟨_, _, _, _, rfl, rfl, (by first | massumption | (simp; omega)), ?_⟩ | refine ⟨_, _, _, rfl, rfl, ?_⟩ | refine ⟨_, _, rfl, rng_ok (by omega) (by omega), ?_⟩ | refine ⟨_, rfl, ?_⟩ | refine ⟨_, _, rfl, rfl, ?_⟩ | refine ⟨_, _, rfl, (by first | decide | (simp; done)), ?_⟩ | refine ⟨_, _, rfl, ?_⟩))
local macro_rules | `(tactic| mstop) => `(tactic| first | ((with_reducible refine wsv ?_ ?_ ?_); (focus (simp; done)); (focus (first | rfl | assumption | (rw [upd1_none (by rfl)]; assumption))); dsimp only [List.set_cons_zero, List.set_cons_succ]) | ((with_reducible refine wsf ?_ ?_ ?_); (focus (simp; done)); (focus (first | rfl | assumption | (rw [upd1_none (by rfl)]; assumption))); dsimp only [List.set_cons_zero, List.set_cons_succ]))
local macro_rules | `(tactic| mexfalso) => `(tactic| (refine ⟨trivial, ?_⟩; simp only [backC, upd1_va, upd1_un, upd1_v1, upd1_v2, upd1_v3, upd1_v4, upd1_ow, upd1_none, pos?, if_true, if_false, reduceIte, Option.map_some, Option.map_none, Nat.reduceAdd, Nat.reduceEqDiff, List.getElem?_cons_zero, List.getElem?_cons_succ, List.set_cons_zero, List.set_cons_succ]))
local macro_rules | `(tactic| mstart) => `(tactic| repeat (first | mleft | mright | mstop))
variable {Q : Rs → Rho → Prop} {E : Exn → Rho → Prop}
theorem at_get {xs : List Int} {i : Int} (h0 : 0 ≤ i) (h1 : i < xs.length) : ∃ x, atI (xs.map DL.D.int) i = some (.int x) ∧ x ∈ xs ∧ xs[i.toNat]? = some x := by
  have hi : i.toNat < xs.length := by omega
  refine ⟨xs[i.toNat], ?_, List.getElem_mem hi, List.getElem?_eq_getElem hi⟩
  have e : ((i.toNat : Nat) : Int) = i := Int.toNat_of_nonneg h0
  have g : atI (xs.map DL.D.int) ((i.toNat : Nat) : Int) = some (.int xs[i.toNat]) := ?_
  · rw [e] at g; exact g
  refine atI_nat (j := i.toNat) ?_
  rw [List.getElem?_map, List.getElem?_eq_getElem hi]; rfl
theorem pile_w {ns : List Int} {k : Int} (hk : 0 ≤ k) (hk2 : k < 1000) (hn : ns.length ≤ 63) (h : ∀ (d c : Int) (b : Bool), Q (.fr [.int d, .int c, .int (97 * k), .bl b]) [.va (.lst (ns.map .int)), .va (.int k)]) : RW (m__law_pile [.va (.lst (ns.map .int)), .va (.int k)]) Q E := by
  (refine wFun ?_; unfold n__law_pile; simp only [List.length_cons, List.length_nil, Nat.reduceAdd, Nat.reduceSub, List.replicate, List.cons_append, List.nil_append, Nat.zero_add])
  have fin : ∀ cell : Int, OW
      (nSeq (nSet 3 (mBin ixD (mLst (mCons (mC (.int 0)) (mCons (mBin modD (mV 2) (mBin mulD (mBin mulD (mBin powD (mC (.int 10)) (mC (.int 50))) (mBin powD (mC (.int 10)) (mC (.int 50)))) (mBin powD (mC (.int 10)) (mC (.int 50))))) mNil))) (mBi (DL.intD) (mCons (mBin geD (mBi (absD) (mCons (mV 2) mNil)) (mBin powD (mC (.int 10)) (mC (.int 18)))) mNil))))
        (nRet (mLst (mCons (mV 3) (mCons (mBin modD (mV 2) (mC (.int 2147483647))) (mCons (mBin mulD (mC (.int 97)) (mV 1)) (mCons (mBin ltD (mV 1) (mC (.int 2))) mNil)))))) [.va (.lst (ns.map .int)), .va (.int k), .va (.int cell), .un])
      (fun ρ => Q (Rs.va D.non) (backF [.va (.lst (ns.map .int)), .va (.int k)] ρ)) (fun r ρ => ∃ r', fin1 ρ r = some r' ∧ Q r' (backF [.va (.lst (ns.map .int)), .va (.int k)] ρ)) (fun _ => False) (fun _ => False) fun e ρ => E e (backF [.va (.lst (ns.map .int)), .va (.int k)] ρ) := fun cell => by
    obtain ⟨z, hx1, g1, g2⟩ := at2 (x := .int 0) (y := .int (cell % (100000000000000000000000000000000000000000000000000 * 100000000000000000000000000000000000000000000000000 * 100000000000000000000000000000000000000000000000000))) (decide (1000000000000000000 ≤ if cell < 0 then -cell else cell))
    obtain ⟨dg, rfl⟩ : ∃ dg, z = .int dg := by
      cases q : decide (1000000000000000000 ≤ if cell < 0 then -cell else cell) with
      | true => exact ⟨_, g1 q⟩
      | false => exact ⟨_, g2 q⟩
    mstart
    exact h _ _ _
  mstart
  refine ⟨fun q => ?_, fun q => ?_⟩
  · have q1 := of_decide_eq_true q
    rw [List.length_map] at q1
    obtain ⟨x, hx1, _, _⟩ := at_get hk q1
    with_reducible refine wSet ?_
    with_reducible refine wBin ?_
    repeat mleft
    refine ⟨_, _, _, rfl, rfl, ix_ok hx1, ?_⟩
    mstop
    exact fin x
  · exact wNext (fin 0)
end K95

namespace K95
open PySem L2 PyProof.Rows DL
local macro_rules | `(tactic| mconstructor) => `(tactic| first | exact .inl rfl | exact .inr (.inl rfl) | exact .inr rfl | exact .inr (.inr rfl))
local macro_rules | `(tactic| mpure_intro) => `(tactic| (simp only [cxOf, envOfC, Cx.blk, compEnvC, relab_eq]; decide +kernel))
local macro_rules | `(tactic| mleft) => `(tactic| first | with_reducible refine wSeq ?_ | with_reducible refine wRet ?_ | with_reducible refine wSet ?_ | with_reducible refine wNext ?_ | with_reducible refine wBin ?_ | with_reducible refine wC ?_ | with_reducible refine wCons ?_ | with_reducible refine wNil ?_ | with_reducible refine wTv ?_ | with_reducible refine wUn ?_ | with_reducible refine wBi ?_ | with_reducible refine wLst ?_ | with_reducible refine wTup ?_ | with_reducible refine wNot ?_ | with_reducible refine wNotV ?_ | with_reducible refine wTrue ?_ | with_reducible refine wAnd ?_ | with_reducible refine wOr ?_ | with_reducible refine wIf ?_ | with_reducible refine wIte ?_ | with_reducible refine wAndV ?_ | with_reducible refine wOrV ?_ | with_reducible refine wChain ?_ | with_reducible refine wSl ?_ | with_reducible refine wPN ?_ | with_reducible refine wPS ?_ | with_reducible refine wExpr ?_ | with_reducible refine wRaise ?_ | with_reducible refine wIter ?_ | with_reducible refine wRng ?_ | with_reducible refine wSeqs ?_ | with_reducible refine wCall ?_ | with_reducible refine wSetIx rfl ?_ | with_reducible refine wApp rfl ?_ | with_reducible refine wUnp ?_ | with_reducible refine wFor ?_ | with_reducible refine wComp ?_ | with_reducible refine wFrz ?_ | with_reducible refine wV rfl ?_ | with_reducible refine wVo rfl ?_)
local macro_rules | `(tactic| massumption) => `(tactic| first | decide | omega | assumption | exact cmul 100 100 (by omega) (by omega) (by decide))
local macro_rules | `(tactic| mright) => `(tactic| first | ((with_reducible refine And.intro (a := (_ && _) = true) ?_ ?_); (focus ((try dsimp only [soft, List.map_cons, List.map_nil, toArg, List.getElem?_cons_zero, List.getElem?_cons_succ]); first | rfl | (simp [alNd, pos?, argOk]; done))); (try dsimp only [soft, List.map_cons, List.map_nil, toArg, List.getElem?_cons_zero, List.getElem?_cons_succ])) | ((with_reducible refine And.intro (a := _ < _) ?_ ?_); focus (first | omega | (simp; omega))) | ((with_reducible show And _ _); first | refine ⟨fun z => absurd z (by decide), fun _ => ?_⟩ | refine ⟨fun _ => ?_, fun z => absurd z (by decide)⟩) | ((with_reducible show Exists _); first | refine ⟨_, _, _, rfl, rfl, mod_ok (by massumption), ?_⟩ | refine ⟨_, _, _, rfl, rfl, mul_ok (by massumption), ?_⟩ | refine ⟨_, _, _, rfl, rfl, div_ok (by massumption), ?_⟩ | (refine ⟨_, _, _, rfl, rfl, pow_ok (by decide), ?_⟩; simp only [Int.reduceToNat, Int.reducePow]) | refine ⟨_, _, _, rfl, rfl, rfl, ?_⟩ | refine ⟨_, _, _, rfl, rfl, ix_ok (by assumption), ?_⟩ | refine ⟨_, _, _, rfl, rfl, ixt_ok (by assumption), ?_⟩ | (refine ⟨_, _, _, _, rfl, rfl, rfl, ?_⟩; (try dsimp only [Int.reduceToNat, List.set_cons_zero, List.set_cons_succ])) | refine ⟨_, _, _, _, rfl, rfl, (by first | massumption | (simp; omega)), ?_⟩ | refine ⟨_, _, _, rfl, rfl, ?_⟩ | refine ⟨_, _, rfl, rng_ok (by omega) (by omega), ?_⟩ | refine ⟨_, rfl, ?_⟩ | refine ⟨_, _, rfl, rfl, ?_⟩ | refine ⟨_, _, rfl, (by first | decide | (simp; done)), ?_⟩ | refine ⟨_, _, rfl, ?_⟩))
local macro_rules | `(tactic| mstop) => `(tactic| first | ((with_reducible refine wsv ?_ ?_ ?_); (focus (simp; done)); (focus (first | rfl | assumption | (rw [upd1_none (by rfl)]; assumption))); dsimp only [List.set_cons_zero, List.set_cons_succ]) | ((with_reducible refine wsf ?_ ?_ ?_); (focus (simp; done)); (focus (first | rfl | assumption | (rw [upd1_none (by rfl)]; assumption))); dsimp only [List.set_cons_zero, List.set_cons_succ]))
local macro_rules | `(tactic| mexfalso) => `(tactic| (refine ⟨trivial, ?_⟩; simp only [backC, upd1_va, upd1_un, upd1_v1, upd1_v2, upd1_v3, upd1_v4, upd1_ow, upd1_none, pos?, if_true, if_false, reduceIte, Option.map_some, Option.map_none, Nat.reduceAdd, Nat.reduceEqDiff, List.getElem?_cons_zero, List.getElem?_cons_succ, List.set_cons_zero, List.set_cons_succ]))
local macro_rules | `(tactic| mstart) => `(tactic| repeat (first | mleft | mright | mstop))
theorem pos_va {d : DL.D} {rs : List Rs} {i : Nat} : pos? (.va d :: rs) i = (pos? rs i).map (· + 1) := rfl
theorem pos_al {j : Nat} {rs : List Rs} {i : Nat} : pos? (.al j :: rs) i = if j = i then some 0 else (pos? rs i).map (· + 1) := rfl
theorem pos_nil {i : Nat} : pos? [] i = none := rfl
theorem soft_va {d : DL.D} : soft (.va d) = .va d := rfl
theorem soft_fr {xs : List DL.D} : soft (.fr xs) = .va (.lst xs) := rfl
theorem soft_al {d : Nat} : soft (.al d) = .al d := rfl
local macro_rules | `(tactic| mleave) => `(tactic| (refine ⟨trivial, ?_⟩; simp only [soft_va, soft_fr, soft_al, backC, upd1_va, upd1_un, upd1_v1, upd1_v2, upd1_v3, upd1_v4, upd1_ow, upd1_none, pos_va, pos_al, pos_nil, if_true, if_false, reduceIte, Option.map_some, Option.map_none, Nat.reduceAdd, Nat.reduceEqDiff, List.getElem?_cons_zero, List.getElem?_cons_succ, List.set_cons_zero, List.set_cons_succ]))
theorem sh_ok : ∀ n : Nat, n < 1000 → shOk (.int (n : Int)) = true ∧ (shD (.int (n : Int))).length ≤ 10 := by decide +kernel
def wds : List DL.D := [.str "yard", .str "standing", .str "leap", .str "row", .str "vector", .str "reading", .str "wishes", .str "cell", .str "table", .str "number"]
def exs : List DL.D := [.exc 1 .non, .exc 2 .non, .exc 3 .non, .exc 4 .non, .exc 5 .non, .exc 6 .non, .exc 7 .non, .exc 8 .non, .exc 9 .non, .exc 10 .non]
theorem kind_x {i : Nat} {x : DL.D} (h : exs[i]? = some x) : ∃ w, wds[i]? = some w ∧ m__law_kind [.va x] = .ok (.fr [w]) [.va x] := by
  have hi : i < 10 := by have := (List.getElem?_eq_some_iff.mp h).1; exact this
  have : i = 0 ∨ i = 1 ∨ i = 2 ∨ i = 3 ∨ i = 4 ∨ i = 5 ∨ i = 6 ∨ i = 7 ∨ i = 8 ∨ i = 9 := by omega
  rcases this with rfl | rfl | rfl | rfl | rfl | rfl | rfl | rfl | rfl | rfl <;> (cases h; exact ⟨_, rfl, by rfl⟩)
theorem kind_p {d : DL.D} : m__law_kind [.va (.exc 11 d)] = .ok (.fr [.str "person"]) [.va (.exc 11 d)] := by kernel_rfl
theorem kind_m {d : DL.D} : m__law_kind [.va (.exc 12 d)] = .ok (.fr [.str "many"]) [.va (.exc 12 d)] := by kernel_rfl
theorem kind_f : m__law_kind [.va (.exc 0 .non)] = .ok (.fr []) [.va (.exc 0 .non)] := by rfl
theorem all_e {w : Str} : m__law_all [.va (.str w)] = .ok (.fr [.lst exs, .lst exs]) [.va (.str w)] := by rfl
theorem yard_e : m_yard_wrong [.va (.tup [.tup [.int 0], .int 2, .tup []])] = .ok (.va .non) [.va (.tup [.tup [.int 0], .int 2, .tup []])] := by rfl
theorem of_ok {m : M Rs} {as as' : Rho} {r : Rs} {Q : Rs → Rho → Prop} {E : Exn → Rho → Prop} (e : m as = .ok r as') (h : Q r as') : RW (m as) Q E := by rw [e]; exact h
/-- what NoPerson and TooMany are made of -/
structure Th (d : DL.D) : Prop where
  f : DL.D.fine 59 d = true
  e : DL.D.eqv d d = true
  n : ∀ ys, d ≠ .lst ys
theorem xi_ok {k : Nat} {d : DL.D} (h : Th d) : xiD k [d] = some (.va (.exc k d)) := by
  cases d <;> first | rfl | exact absurd rfl (h.n _)
theorem neD_of {x : DL.D} (f : DL.D.fine 60 x = true) (e : DL.D.eqv x x = true) : neD x x = some (.va (.bl false)) := by
  unfold neD
  rw [f, e]
  rfl
theorem ne_four {p o : DL.D} (hp : Th p) (ho : Th o) : neD (.lst [p, p, o, o]) (.lst [p, p, o, o]) = some (.va (.bl false)) := by
  refine neD_of ?_ ?_
  · show (DL.D.fine 59 p && (DL.D.fine 59 p && (DL.D.fine 59 o && (DL.D.fine 59 o && true)))) = true
    rw [hp.f, ho.f]; rfl
  · show (DL.D.eqv p p && (DL.D.eqv p p && (DL.D.eqv o o && (DL.D.eqv o o && true)))) = true
    rw [hp.e, ho.e]; rfl
theorem ne_wds : neD (.lst (wds.map fun w => .lst [w])) (.lst (wds.map fun w => .lst [w])) = some (.va (.bl false)) := neD_of (by decide +kernel) (by decide +kernel)
theorem ne_pm : neD (.lst [.lst [.str "person"], .lst [.str "person"], .lst [.str "many"], .lst [.str "many"]]) (.lst [.lst [.str "person"], .lst [.str "person"], .lst [.str "many"], .lst [.str "many"]]) = some (.va (.bl false)) := neD_of (by decide +kernel) (by decide +kernel)
theorem ne_nil0 : neD (.lst []) (.lst []) = some (.va (.bl false)) := neD_of (by decide +kernel) (by decide +kernel)
theorem at6 {a b c d e f : DL.D} {r : Int} (h0 : 0 ≤ r) (h6 : r < 6) : ∃ x, atI [a, b, c, d, e, f] r = some x ∧ (x = a ∨ x = b ∨ x = c ∨ x = d ∨ x = e ∨ x = f) := by
  have : r = 0 ∨ r = 1 ∨ r = 2 ∨ r = 3 ∨ r = 4 ∨ r = 5 := by omega
  rcases this with rfl | rfl | rfl | rfl | rfl | rfl
  · exact ⟨a, rfl, .inl rfl⟩
  · exact ⟨b, rfl, .inr (.inl rfl)⟩
  · exact ⟨c, rfl, .inr (.inr (.inl rfl))⟩
  · exact ⟨d, rfl, .inr (.inr (.inr (.inl rfl)))⟩
  · exact ⟨e, rfl, .inr (.inr (.inr (.inr (.inl rfl))))⟩
  · exact ⟨f, rfl, .inr (.inr (.inr (.inr (.inr rfl))))⟩
theorem eqv_int {i : Int} : DL.D.eqv (.int i) (.int i) = true := by simp [DL.D.eqv]
theorem th_one {n : Int} {x : DL.D} (h : x = .int n ∨ x = .non ∨ x = .str "a" ∨ x = .tup [.int n, .int 0] ∨ x = .int (0 - n) ∨ x = .bl true) : Th x := by
  rcases h with rfl | rfl | rfl | rfl | rfl | rfl
  · exact ⟨rfl, eqv_int, fun _ z => by cases z⟩
  · exact ⟨rfl, rfl, fun _ z => by cases z⟩
  · exact ⟨by decide +kernel, by decide +kernel, fun _ z => by cases z⟩
  · exact ⟨rfl, by show (DL.D.eqv (.int n) (.int n) && (DL.D.eqv (.int 0) (.int 0) && true)) = true; rw [eqv_int, eqv_int]; rfl, fun _ z => by cases z⟩
  · exact ⟨rfl, eqv_int, fun _ z => by cases z⟩
  · exact ⟨rfl, rfl, fun _ z => by cases z⟩
theorem th_two {n : Int} {x : DL.D} (h : x = .int n ∨ x = .non ∨ x = .str "b" ∨ x = .tup [.int 0, .int n] ∨ x = .int (0 - n) ∨ x = .bl false) : Th x := by
  rcases h with rfl | rfl | rfl | rfl | rfl | rfl
  · exact ⟨rfl, eqv_int, fun _ z => by cases z⟩
  · exact ⟨rfl, rfl, fun _ z => by cases z⟩
  · exact ⟨by decide +kernel, by decide +kernel, fun _ z => by cases z⟩
  · exact ⟨rfl, by show (DL.D.eqv (.int 0) (.int 0) && (DL.D.eqv (.int n) (.int n) && true)) = true; rw [eqv_int, eqv_int]; rfl, fun _ z => by cases z⟩
  · exact ⟨rfl, eqv_int, fun _ z => by cases z⟩
  · exact ⟨rfl, rfl, fun _ z => by cases z⟩
/-- what is kept of a turn -/
def kp (p : DL.D × DL.D) : DL.D := .tup [p.1, p.2, .lst [.exc 11 p.1, .exc 11 p.1, .exc 12 p.2, .exc 12 p.2]]
end K95

namespace K95
open PySem L2 PyProof.Rows DL
local macro_rules | `(tactic| mconstructor) => `(tactic| first | exact .inl rfl | exact .inr (.inl rfl) | exact .inr rfl | exact .inr (.inr rfl))
local macro_rules | `(tactic| mpure_intro) => `(tactic| (simp only [cxOf, envOfC, Cx.blk, compEnvC, relab_eq]; decide +kernel))
local macro_rules | `(tactic| mleft) => `(tactic| first | with_reducible refine wSeq ?_ | with_reducible refine wRet ?_ | with_reducible refine wSet ?_ | with_reducible refine wNext ?_ | with_reducible refine wBin ?_ | with_reducible refine wC ?_ | with_reducible refine wCons ?_ | with_reducible refine wNil ?_ | with_reducible refine wTv ?_ | with_reducible refine wUn ?_ | with_reducible refine wBi ?_ | with_reducible refine wLst ?_ | with_reducible refine wTup ?_ | with_reducible refine wNot ?_ | with_reducible refine wNotV ?_ | with_reducible refine wTrue ?_ | with_reducible refine wAnd ?_ | with_reducible refine wOr ?_ | with_reducible refine wIf ?_ | with_reducible refine wIte ?_ | with_reducible refine wAndV ?_ | with_reducible refine wOrV ?_ | with_reducible refine wChain ?_ | with_reducible refine wSl ?_ | with_reducible refine wPN ?_ | with_reducible refine wPS ?_ | with_reducible refine wExpr ?_ | with_reducible refine wRaise ?_ | with_reducible refine wIter ?_ | with_reducible refine wRng ?_ | with_reducible refine wSeqs ?_ | with_reducible refine wCall ?_ | with_reducible refine wSetIx rfl ?_ | with_reducible refine wApp rfl ?_ | with_reducible refine wUnp ?_ | with_reducible refine wFor ?_ | with_reducible refine wComp ?_ | with_reducible refine wFrz ?_ | with_reducible refine wV rfl ?_ | with_reducible refine wVo rfl ?_)
local macro_rules | `(tactic| massumption) => `(tactic| first | decide | omega | assumption | exact cmul 100 100 (by omega) (by omega) (by decide))
local macro_rules | `(tactic| mright) => `(tactic| first | ((with_reducible refine And.intro (a := (_ && _) = true) ?_ ?_); (focus ((try dsimp only [soft, List.map_cons, List.map_nil, toArg, List.getElem?_cons_zero, List.getElem?_cons_succ]); first | rfl | (simp [alNd, pos?, argOk]; done))); (try dsimp only [soft, List.map_cons, List.map_nil, toArg, List.getElem?_cons_zero, List.getElem?_cons_succ])) | ((with_reducible refine And.intro (a := _ < _) ?_ ?_); focus (first | omega | (simp; omega))) | ((with_reducible show And _ _); first | refine ⟨fun z => absurd z (by decide), fun _ => ?_⟩ | refine ⟨fun _ => ?_, fun z => absurd z (by decide)⟩) | ((with_reducible show Exists _); first | refine ⟨_, _, _, rfl, rfl, mod_ok (by massumption), ?_⟩ | refine ⟨_, _, _, rfl, rfl, mul_ok (by massumption), ?_⟩ | refine ⟨_, _, _, rfl, rfl, div_ok (by massumption), ?_⟩ | (refine ⟨_, _, _, rfl, rfl, pow_ok (by decide), ?_⟩; simp only [Int.reduceToNat, Int.reducePow]) | refine ⟨_, _, _, rfl, rfl, rfl, ?_⟩ | refine ⟨_, _, _, rfl, rfl, ix_ok (by assumption), ?_⟩ | refine ⟨_, _, _, rfl, rfl, ixt_ok (by assumption), ?_⟩ | (refine ⟨_, _, _, _, rfl, rfl, rfl, ?_⟩; (try dsimp only [Int.reduceToNat, List.set_cons_zero, List.set_cons_succ])) | refine ⟨_, _, _, _, rfl, rfl, (by first | massumption | (simp; omega)), ?_⟩ | refine ⟨_, _, _, rfl, rfl, ?_⟩ | refine ⟨_, _, rfl, rng_ok (by omega) (by omega), ?_⟩ | refine ⟨_, rfl, ?_⟩ | refine ⟨_, _, rfl, rfl, ?_⟩ | refine ⟨_, _, rfl, (by first | decide | (simp; done)), ?_⟩ | refine ⟨_, _, rfl, ?_⟩))
local macro_rules | `(tactic| mstop) => `(tactic| first | ((with_reducible refine wsv ?_ ?_ ?_); (focus (simp; done)); (focus (first | rfl | assumption | (rw [upd1_none (by rfl)]; assumption))); dsimp only [List.set_cons_zero, List.set_cons_succ]) | ((with_reducible refine wsf ?_ ?_ ?_); (focus (simp; done)); (focus (first | rfl | assumption | (rw [upd1_none (by rfl)]; assumption))); dsimp only [List.set_cons_zero, List.set_cons_succ]))
local macro_rules | `(tactic| mexfalso) => `(tactic| (refine ⟨trivial, ?_⟩; simp only [backC, upd1_va, upd1_un, upd1_v1, upd1_v2, upd1_v3, upd1_v4, upd1_ow, upd1_none, pos?, if_true, if_false, reduceIte, Option.map_some, Option.map_none, Nat.reduceAdd, Nat.reduceEqDiff, List.getElem?_cons_zero, List.getElem?_cons_succ, List.set_cons_zero, List.set_cons_succ]))
local macro_rules | `(tactic| mstart) => `(tactic| repeat (first | mleft | mright | mstop))
local macro_rules | `(tactic| mleave) => `(tactic| (refine ⟨trivial, ?_⟩; simp only [soft_va, soft_fr, soft_al, backC, upd1_va, upd1_un, upd1_v1, upd1_v2, upd1_v3, upd1_v4, upd1_ow, upd1_none, pos_va, pos_al, pos_nil, if_true, if_false, reduceIte, Option.map_some, Option.map_none, Nat.reduceAdd, Nat.reduceEqDiff, List.getElem?_cons_zero, List.getElem?_cons_succ, List.set_cons_zero, List.set_cons_succ]))
theorem test_w {sc s1 s2 s3 s4 s6 s7 s8 s9 s10 s11 : Sl} {N' : Rho → Prop} {R' : Rs → Rho → Prop} {B C : Rho → Prop} {E : Exn → Rho → Prop} (h1 : s1 = .ow false wds ∨ s1 = .va (.lst wds))
    (h : N' [sc, .va (.lst wds), s2, s3, s4, .va (.lst exs), s6, s7, s8, s9, s10, s11]) :
    OW (nIf (mTv (mBin neD (mComp (mIter (mV 5)) (gN 10) [10] mTrue (mCall 1 m__law_kind (mCons (mV 10) mNil))) (mComp (mIter (mV 1)) (gN 11) [11] mTrue (mLst (mCons (mV 11) mNil))))) (nRet (mC (.bl false))) nNext
      [sc, s1, s2, s3, s4, .va (.lst exs), s6, s7, s8, s9, s10, s11]) N' R' B C E := by
  with_reducible refine wIf ?_
  with_reducible refine wTv ?_
  with_reducible refine wBin ?_
  with_reducible refine wComp ?_
  with_reducible refine wIter ?_
  repeat mleft
  refine ⟨_, _, _, rfl, rfl, ?_⟩
  refine ⟨fun i acc ρ => ρ = [sc, s1, s2, s3, s4, .va (.lst exs), s6, s7, s8, s9, .un, s11] ∧ acc = (wds.take i).map fun w => .lst [w], ⟨rfl, rfl⟩, ?_, ?_⟩
  · rintro i x acc ρ hx ⟨rfl, rfl⟩
    obtain ⟨w, hw, ek⟩ := kind_x hx
    have hi : i < 10 := by have := (List.getElem?_eq_some_iff.mp hw).1; exact this
    refine ⟨_, if_pos ⟨by simp, rfl⟩, ?_⟩
    dsimp only [List.set_cons_zero, List.set_cons_succ]
    repeat mleft
    refine ⟨fun _ => ⟨by rw [List.length_map, List.length_take]; omega, ?_⟩, fun z => by cases z⟩
    with_reducible refine wCall ?_
    repeat (first | mleft | mright)
    refine of_ok ek ?_
    mleave
    refine ⟨_, _, rfl, rfl, ?_⟩
    rw [List.take_add_one, hw, List.map_append]; rfl
  · rintro acc ρ ⟨rfl, rfl⟩
    rw [show exs.length = wds.length by rfl, List.take_length]
    dsimp only [restoR, wipeR, List.set_cons_zero, List.set_cons_succ, List.getElem?_cons_zero, List.getElem?_cons_succ]
    with_reducible refine wComp ?_
    with_reducible refine wIter ?_
    have go : ∀ {Q : Rs → Rho → Prop} {E2 : Exn → Rho → Prop}, (∀ (Q2 : List DL.D → Rho → Prop), Q2 wds [sc, .va (.lst wds), s2, s3, s4, .va (.lst exs), s6, s7, s8, s9, s10, s11] → RW (mV 1 [sc, s1, s2, s3, s4, .va (.lst exs), s6, s7, s8, s9, s10, s11]) (fun r ρ1 => ∃ d ds ρ2, keepR ρ1 r = some (d, ρ2) ∧ seqOf d = some ds ∧ Q2 ds ρ2) E2) := by
      intro Q E2 Q2 q
      rcases h1 with rfl | rfl
      · with_reducible refine wVo rfl ?_
        exact ⟨_, _, _, rfl, rfl, q⟩
      · with_reducible refine wV rfl ?_
        exact ⟨_, _, _, rfl, rfl, q⟩
    refine go (Q := fun _ _ => True) _ ?_
    refine ⟨fun i acc ρ => ρ = [sc, .va (.lst wds), s2, s3, s4, .va (.lst exs), s6, s7, s8, s9, s10, .un] ∧ acc = (wds.take i).map fun w => .lst [w], ⟨rfl, rfl⟩, ?_, ?_⟩
    · rintro i x acc ρ hx ⟨rfl, rfl⟩
      have hi : i < 10 := by have := (List.getElem?_eq_some_iff.mp hx).1; exact this
      refine ⟨_, if_pos ⟨by simp, rfl⟩, ?_⟩
      dsimp only [List.set_cons_zero, List.set_cons_succ]
      repeat mleft
      refine ⟨fun _ => ⟨by rw [List.length_map, List.length_take]; omega, ?_⟩, fun z => by cases z⟩
      repeat mleft
      refine ⟨_, _, rfl, by simp, ?_⟩
      refine ⟨_, _, rfl, rfl, ?_⟩
      rw [List.take_add_one, hx, List.map_append]; rfl
    · rintro acc ρ ⟨rfl, rfl⟩
      rw [List.take_length]
      dsimp only [restoR, wipeR, List.set_cons_zero, List.set_cons_succ, List.getElem?_cons_zero, List.getElem?_cons_succ]
      refine ⟨_, _, _, rfl, rfl, ne_wds, ?_⟩
      refine ⟨_, rfl, fun z => absurd z (by decide), fun _ => ?_⟩
      with_reducible refine wNext ?_
      exact h
end K95

namespace K95
open PySem L2 PyProof.Rows DL
local macro_rules | `(tactic| mconstructor) => `(tactic| first | exact .inl rfl | exact .inr (.inl rfl) | exact .inr rfl | exact .inr (.inr rfl))
local macro_rules | `(tactic| mpure_intro) => `(tactic| (simp only [cxOf, envOfC, Cx.blk, compEnvC, relab_eq]; decide +kernel))
local macro_rules | `(tactic| mleft) => `(tactic| first | with_reducible refine wSeq ?_ | with_reducible refine wRet ?_ | with_reducible refine wSet ?_ | with_reducible refine wNext ?_ | with_reducible refine wBin ?_ | with_reducible refine wC ?_ | with_reducible refine wCons ?_ | with_reducible refine wNil ?_ | with_reducible refine wTv ?_ | with_reducible refine wUn ?_ | with_reducible refine wBi ?_ | with_reducible refine wLst ?_ | with_reducible refine wTup ?_ | with_reducible refine wNot ?_ | with_reducible refine wNotV ?_ | with_reducible refine wTrue ?_ | with_reducible refine wAnd ?_ | with_reducible refine wOr ?_ | with_reducible refine wIf ?_ | with_reducible refine wIte ?_ | with_reducible refine wAndV ?_ | with_reducible refine wOrV ?_ | with_reducible refine wChain ?_ | with_reducible refine wSl ?_ | with_reducible refine wPN ?_ | with_reducible refine wPS ?_ | with_reducible refine wExpr ?_ | with_reducible refine wRaise ?_ | with_reducible refine wIter ?_ | with_reducible refine wRng ?_ | with_reducible refine wSeqs ?_ | with_reducible refine wCall ?_ | with_reducible refine wSetIx rfl ?_ | with_reducible refine wApp rfl ?_ | with_reducible refine wUnp ?_ | with_reducible refine wFor ?_ | with_reducible refine wComp ?_ | with_reducible refine wFrz ?_ | with_reducible refine wV rfl ?_ | with_reducible refine wVo rfl ?_)
local macro_rules | `(tactic| massumption) => `(tactic| first | decide | omega | assumption | exact cmul 100 100 (by omega) (by omega) (by decide))
local macro_rules | `(tactic| mright) => `(tactic| first | ((with_reducible refine And.intro (a := (_ && _) = true) ?_ ?_); (focus ((try dsimp only [soft, List.map_cons, List.map_nil, toArg, List.getElem?_cons_zero, List.getElem?_cons_succ]); first | rfl | (simp [alNd, pos?, argOk]; done))); (try dsimp only [soft, List.map_cons, List.map_nil, toArg, List.getElem?_cons_zero, List.getElem?_cons_succ])) | ((with_reducible refine And.intro (a := _ < _) ?_ ?_); focus (first | omega | (simp; omega))) | ((with_reducible show And _ _); first | refine ⟨fun z => absurd z (by decide), fun _ => ?_⟩ | refine ⟨fun _ => ?_, fun z => absurd z (by decide)⟩) | ((with_reducible show Exists _); first | refine ⟨_, _, _, rfl, rfl, mod_ok (by massumption), ?_⟩ | refine ⟨_, _, _, rfl, rfl, mul_ok (by massumption), ?_⟩ | refine ⟨_, _, _, rfl, rfl, div_ok (by massumption), ?_⟩ | (refine ⟨_, _, _, rfl, rfl, pow_ok (by decide), ?_⟩; simp only [Int.reduceToNat, Int.reducePow]) | refine ⟨_, _, _, rfl, rfl, rfl, ?_⟩ | refine ⟨_, _, _, rfl, rfl, ix_ok (by assumption), ?_⟩ | refine ⟨_, _, _, rfl, rfl, ixt_ok (by assumption), ?_⟩ | (refine ⟨_, _, _, _, rfl, rfl, rfl, ?_⟩; (try dsimp only [Int.reduceToNat, List.set_cons_zero, List.set_cons_succ])) | refine ⟨_, _, _, _, rfl, rfl, (by first | massumption | (simp; omega)), ?_⟩ | refine ⟨_, _, _, rfl, rfl, ?_⟩ | refine ⟨_, _, rfl, rng_ok (by omega) (by omega), ?_⟩ | refine ⟨_, rfl, ?_⟩ | refine ⟨_, _, rfl, rfl, ?_⟩ | refine ⟨_, _, rfl, (by first | decide | (simp; done)), ?_⟩ | refine ⟨_, _, rfl, ?_⟩))
local macro_rules | `(tactic| mstop) => `(tactic| first | ((with_reducible refine wsv ?_ ?_ ?_); (focus (simp; done)); (focus (first | rfl | assumption | (rw [upd1_none (by rfl)]; assumption))); dsimp only [List.set_cons_zero, List.set_cons_succ]) | ((with_reducible refine wsf ?_ ?_ ?_); (focus (simp; done)); (focus (first | rfl | assumption | (rw [upd1_none (by rfl)]; assumption))); dsimp only [List.set_cons_zero, List.set_cons_succ]))
local macro_rules | `(tactic| mexfalso) => `(tactic| (refine ⟨trivial, ?_⟩; simp only [backC, upd1_va, upd1_un, upd1_v1, upd1_v2, upd1_v3, upd1_v4, upd1_ow, upd1_none, pos?, if_true, if_false, reduceIte, Option.map_some, Option.map_none, Nat.reduceAdd, Nat.reduceEqDiff, List.getElem?_cons_zero, List.getElem?_cons_succ, List.set_cons_zero, List.set_cons_succ]))
local macro_rules | `(tactic| mstart) => `(tactic| repeat (first | mleft | mright | mstop))
local macro_rules | `(tactic| mleave) => `(tactic| (refine ⟨trivial, ?_⟩; simp only [soft_va, soft_fr, soft_al, backC, upd1_va, upd1_un, upd1_v1, upd1_v2, upd1_v3, upd1_v4, upd1_ow, upd1_none, pos_va, pos_al, pos_nil, if_true, if_false, reduceIte, Option.map_some, Option.map_none, Nat.reduceAdd, Nat.reduceEqDiff, List.getElem?_cons_zero, List.getElem?_cons_succ, List.set_cons_zero, List.set_cons_succ]))
def NI (s : Sl) : Prop := isIo (some s) = false
theorem add_str {a b : Str} (h : a.length + b.length ≤ 100000) : addD (.str a) (.str b) = some (.va (.str (a ++ b))) := by
  show catS (.str a) (.str b) = _
  unfold catS
  simp only
  rw [if_pos h]
theorem wd_len : ("word " : Str).length = 5 := by decide +kernel
def pmw : List DL.D := [.str "person", .str "person", .str "many", .str "many"]
abbrev two (p o : DL.D) : List DL.D := [.exc 11 p, .exc 11 p, .exc 12 o, .exc 12 o]
theorem kind_t {p o : DL.D} {i : Nat} {x : DL.D} (h : (two p o)[i]? = some x) : ∃ w, pmw[i]? = some w ∧ m__law_kind [.va x] = .ok (.fr [w]) [.va x] := by
  have hi : i < 4 := by have := (List.getElem?_eq_some_iff.mp h).1; exact this
  have : i = 0 ∨ i = 1 ∨ i = 2 ∨ i = 3 := by omega
  rcases this with rfl | rfl | rfl | rfl
  · cases h; exact ⟨_, rfl, kind_p⟩
  · cases h; exact ⟨_, rfl, kind_p⟩
  · cases h; exact ⟨_, rfl, kind_m⟩
  · cases h; exact ⟨_, rfl, kind_m⟩
theorem at_p {d : DL.D} : atD AT "person" (.exc 11 d) = some (.va d) := by kernel_rfl
theorem at_m {d : DL.D} : atD AT "most" (.exc 12 d) = some (.va d) := by kernel_rfl
theorem law_w {ns : List Int} (hn : ns.length ≤ 63) : RW (m_law [.va (.lst (ns.map .int))]) (fun r _ => r = .va (.bl true)) no := by
  (refine wFun ?_; unfold n_law; simp only [List.length_cons, List.length_nil, Nat.reduceAdd, Nat.reduceSub, List.replicate, List.cons_append, List.nil_append, Nat.zero_add])
  with_reducible refine wSeq ?_
  with_reducible refine wSet ?_
  repeat mleft
  refine ⟨_, _, rfl, by simp, ?_⟩
  refine wsf (by simp) rfl ?_
  dsimp only [List.set_cons_zero, List.set_cons_succ]
  with_reducible refine wSeq ?_
  with_reducible refine wSet ?_
  repeat mleft
  refine ⟨_, _, rfl, by simp, ?_⟩
  refine wsf (by simp) rfl ?_
  dsimp only [List.set_cons_zero, List.set_cons_succ]
  with_reducible refine wSeq ?_
  with_reducible refine wFor ?_
  with_reducible refine wRng ?_
  repeat mleft
  refine ⟨_, _, rfl, rng_ok (by omega) (by omega), ?_⟩
  refine ⟨fun i ρ => ∃ s1 s3 s4 s5 s6 s7 s8 s9 s10 s11 L, (s1 = .ow false wds ∨ s1 = .va (.lst wds)) ∧ NI s3 ∧ NI s4 ∧ NI s5 ∧ NI s6 ∧ NI s7 ∧ NI s8 ∧ NI s9 ∧ L.length = i ∧ (∀ p ∈ L, Th p.1 ∧ Th p.2) ∧ ρ = [.va (.lst (ns.map .int)), s1, .ow false (L.map kp), s3, s4, s5, s6, s7, s8, s9, s10, s11], ⟨_, .un, .un, .un, .un, .un, .un, .un, .un, .un, [], .inl rfl, rfl, rfl, rfl, rfl, rfl, rfl, rfl, rfl, (fun p h => by cases h), rfl⟩, ?_, ?_⟩
  · rintro q x ρ hx ⟨s1, s3, s4, s5, s6, s7, s8, s9, s10, s11, L, h1, i3, i4, i5, i6, i7, i8, i9, hL, hT, rfl⟩
    obtain ⟨hq, rfl⟩ := rng_at hx
    have hq8 : q < 8 := by simpa using hq
    refine ⟨_, if_pos ⟨by simp, i3⟩, ?_⟩
    dsimp only [List.set_cons_zero, List.set_cons_succ]
    with_reducible refine wSeq ?_
    with_reducible refine wSet ?_
    with_reducible refine wCall ?_
    repeat mleft
    refine ⟨by rfl, ?_⟩
    refine pile_w (k := (q : Int)) (by omega) (by omega) hn fun d c b => ?_
    mleave
    refine wsf (by simp) i4 ?_
    dsimp only [List.set_cons_zero, List.set_cons_succ]
    -- of nothing, of a text
    with_reducible refine wSeq ?_
    with_reducible refine wFor ?_
    with_reducible refine wIter ?_
    with_reducible refine wCall ?_
    repeat (first | mleft | mright)
    refine take_w (by decide) (by decide) (by omega) (by omega) fun r d1 k1 r0 r1 a1 a2 => ?_
    mleave
    obtain ⟨m, rfl⟩ : ∃ m : Nat, r = m := ⟨r.toNat, by omega⟩
    obtain ⟨sok, sln⟩ := sh_ok m (by omega)
    refine ⟨_, _, rfl, (by show (if shOk (.int (m : Int)) = true then some (Rs.va (.str (shD (.int (m : Int))))) else none) = _; rw [if_pos sok]), ?_⟩
    refine ⟨_, _, _, rfl, rfl, add_str (by rw [wd_len]; omega), ?_⟩
    generalize ("word " : Str) ++ shD (.int (m : Int)) = wd
    with_reducible refine wNil ?_
    dsimp only [soft, List.map_cons, List.map_nil, toArg, List.getElem?_cons_zero, List.getElem?_cons_succ]
    simp only [List.map_cons, List.map_nil, toArg]
    refine ⟨by rfl, ?_⟩
    with_reducible refine of_ok (m := m__law_all) (all_e (w := wd)) ?_
    mleave
    refine ⟨_, _, _, rfl, rfl, ?_⟩
    refine ⟨fun i ρ => ∃ t1 t5, (t1 = .ow false wds ∨ t1 = .va (.lst wds)) ∧ NI t5 ∧ ρ = [.va (.lst (ns.map .int)), t1, .ow false (L.map kp), .va (.int q), .ow false [.int d1, .int c, .int k1, .bl b], t5, s6, s7, s8, s9, s10, s11], ⟨s1, s5, h1, i5, rfl⟩, ?_, ?_⟩
    · rintro i x ρ hx ⟨t1, t5, j1, j5, rfl⟩
      have ex : x = .lst exs := by
        have hm := List.mem_of_getElem? hx
        simp only [List.mem_cons, List.not_mem_nil, or_false, or_self] at hm
        exact hm
      subst ex
      refine ⟨_, if_pos ⟨by simp, j5⟩, ?_⟩
      dsimp only [List.set_cons_zero, List.set_cons_succ]
      with_reducible refine test_w j1 ?_
      exact ⟨.va (.lst wds), .va (.lst exs), .inr rfl, rfl, rfl⟩
    · rintro ρ ⟨t1, t5, j1, j5, rfl⟩
      -- the number
      with_reducible refine wSeq ?_
      with_reducible refine wSet ?_
      with_reducible refine wCall ?_
      repeat (first | mleft | mright)
      refine great_w a1 (by omega) fun n d2 k2 n0 n1 b1 b2 => ?_
      mleave
      refine wsv (by simp) i6 ?_
      dsimp only [List.set_cons_zero, List.set_cons_succ]
      -- thing
      with_reducible refine wSeq ?_
      with_reducible refine wSet ?_
      with_reducible refine wBin ?_
      with_reducible refine wLst ?_
      repeat (first | mleft | mright)
      refine take_w (by decide) (by decide) b1 (by omega) fun r2 d3 k3 c0 c6 c1 c2 => ?_
      mleave
      obtain ⟨th, e7, o7⟩ := at6 (a := .int n) (b := .non) (c := .str "a") (d := .tup [.int n, .int 0]) (e := .int (0 - n)) (f := .bl true) c0 c6
      have T7 := th_one o7
      refine ⟨_, _, _, rfl, rfl, ix_ok e7, ?_⟩
      refine wsv (by simp) i7 ?_
      dsimp only [List.set_cons_zero, List.set_cons_succ]
      -- other
      with_reducible refine wSeq ?_
      with_reducible refine wSet ?_
      with_reducible refine wBin ?_
      with_reducible refine wLst ?_
      repeat (first | mleft | mright)
      refine take_w (by decide) (by decide) c1 (by omega) fun r3 d4 k4 g0 g6 g1 g2 => ?_
      mleave
      obtain ⟨ot, e8, o8⟩ := at6 (a := .int n) (b := .non) (c := .str "b") (d := .tup [.int 0, .int n]) (e := .int (0 - n)) (f := .bl false) g0 g6
      have T8 := th_two o8
      refine ⟨_, _, _, rfl, rfl, ix_ok e8, ?_⟩
      refine wsv (by simp) i8 ?_
      dsimp only [List.set_cons_zero, List.set_cons_succ]
      -- two
      with_reducible refine wSeq ?_
      with_reducible refine wSet ?_
      repeat mleft
      refine ⟨_, _, rfl, xi_ok T7, ?_⟩
      repeat mleft
      refine ⟨_, _, rfl, xi_ok T7, ?_⟩
      repeat mleft
      refine ⟨_, _, rfl, xi_ok T8, ?_⟩
      repeat mleft
      refine ⟨_, _, rfl, xi_ok T8, ?_⟩
      repeat mleft
      refine ⟨_, _, rfl, by simp, ?_⟩
      refine wsf (by simp) i9 ?_
      dsimp only [List.set_cons_zero, List.set_cons_succ]
      -- kept
      with_reducible refine wSeq ?_
      with_reducible refine wApp rfl ?_
      repeat mleft
      refine ⟨_, _, rfl, by simp, ?_⟩
      refine ⟨_, _, _, _, rfl, rfl, by rw [List.length_map]; omega, ?_⟩
      dsimp only [List.set_cons_zero, List.set_cons_succ]
      -- their kinds
      with_reducible refine wSeq ?_
      with_reducible refine wIf ?_
      with_reducible refine wTv ?_
      with_reducible refine wBin ?_
      with_reducible refine wComp ?_
      with_reducible refine wIter ?_
      repeat mleft
      refine ⟨_, _, _, rfl, rfl, ?_⟩
      refine ⟨fun i acc ρ => ρ = [.va (.lst (ns.map .int)), t1, .ow false (L.map kp ++ [kp (th, ot)]), .va (.int q), .ow false [.int d4, .int c, .int k4, .bl b], t5, .va (.int n), .va th, .va ot, .va (.lst (two th ot)), .un, s11] ∧ acc = (pmw.take i).map fun w => .lst [w], ⟨rfl, rfl⟩, ?_, ?_⟩
      · rintro i x acc ρ hx ⟨rfl, rfl⟩
        obtain ⟨w, hw, ek⟩ := kind_t hx
        have hi : i < 4 := by have := (List.getElem?_eq_some_iff.mp hw).1; exact this
        refine ⟨_, if_pos ⟨by simp, rfl⟩, ?_⟩
        dsimp only [List.set_cons_zero, List.set_cons_succ]
        repeat mleft
        refine ⟨fun _ => ⟨by rw [List.length_map, List.length_take]; omega, ?_⟩, fun z => by cases z⟩
        with_reducible refine wCall ?_
        repeat (first | mleft | mright)
        refine of_ok ek ?_
        mleave
        refine ⟨_, _, rfl, rfl, ?_⟩
        rw [List.take_add_one, hw, List.map_append]; rfl
      · rintro acc ρ ⟨rfl, rfl⟩
        rw [show (two th ot).length = pmw.length by rfl, List.take_length]
        dsimp only [restoR, wipeR, List.set_cons_zero, List.set_cons_succ, List.getElem?_cons_zero, List.getElem?_cons_succ]
        with_reducible refine wLst ?_
        repeat mleft
        refine ⟨_, _, rfl, by simp, ?_⟩
        repeat mleft
        refine ⟨_, _, rfl, by simp, ?_⟩
        repeat mleft
        refine ⟨_, _, rfl, by simp, ?_⟩
        repeat mleft
        refine ⟨_, _, rfl, by simp, ?_⟩
        repeat mleft
        refine ⟨_, _, rfl, by simp, ?_⟩
        refine ⟨_, _, _, rfl, rfl, ne_pm, ?_⟩
        refine ⟨_, rfl, fun z => absurd z (by decide), fun _ => ?_⟩
        with_reducible refine wNext ?_
        -- FolkError itself
        with_reducible refine wIf ?_
        with_reducible refine wOr ?_
        with_reducible refine wTv ?_
        with_reducible refine wBin ?_
        with_reducible refine wCall ?_
        repeat mleft
        refine ⟨_, _, rfl, rfl, ?_⟩
        repeat mleft
        dsimp only [soft, List.map_cons, List.map_nil, toArg, List.getElem?_cons_zero, List.getElem?_cons_succ]
        simp only [List.map_cons, List.map_nil, toArg]
        refine ⟨by rfl, ?_⟩
        with_reducible refine of_ok (m := m__law_kind) kind_f ?_
        mleave
        repeat mleft
        refine ⟨_, _, rfl, by simp, ?_⟩
        refine ⟨_, _, _, rfl, rfl, ne_nil0, ?_⟩
        refine ⟨_, rfl, fun z => absurd z (by decide), fun _ => ?_⟩
        with_reducible refine wTv ?_
        with_reducible refine wBin ?_
        with_reducible refine wCall ?_
        repeat mleft
        refine ⟨_, _, rfl, rfl, ?_⟩
        repeat mleft
        dsimp only [soft, List.map_cons, List.map_nil, toArg, List.getElem?_cons_zero, List.getElem?_cons_succ]
        simp only [List.map_cons, List.map_nil, toArg]
        refine ⟨by rfl, ?_⟩
        with_reducible refine of_ok (m := m__law_kind) kind_f ?_
        mleave
        repeat mleft
        refine ⟨_, _, rfl, by simp, ?_⟩
        refine ⟨_, _, _, rfl, rfl, ne_nil0, ?_⟩
        refine ⟨_, rfl, fun z => absurd z (by decide), fun _ => ?_⟩
        with_reducible refine wNext ?_
        refine ⟨t1, .va (.int q), .ow false [.int d4, .int c, .int k4, .bl b], t5, .va (.int n), .va th, .va ot, .va (.lst (two th ot)), s10, s11, L ++ [(th, ot)], j1, rfl, rfl, j5, rfl, rfl, rfl, rfl, by rw [List.length_append, hL]; rfl, fun p hp => ?_, by rw [List.map_append]; rfl⟩
        rcases List.mem_append.mp hp with hp | hp
        · exact hT p hp
        · rw [List.mem_singleton.mp hp]
          exact ⟨T7, T8⟩
  · rintro ρ ⟨s1, s3, s4, s5, s6, s7, s8, s9, s10, s11, L, h1, i3, i4, i5, i6, i7, i8, i9, hL, hT, rfl⟩
    with_reducible refine wSeq ?_
    with_reducible refine wFor ?_
    with_reducible refine wIter ?_
    repeat mleft
    refine ⟨_, _, _, rfl, rfl, ?_⟩
    refine ⟨fun i ρ => ∃ s7 s8 s9, NI s7 ∧ NI s8 ∧ NI s9 ∧ ρ = [.va (.lst (ns.map .int)), s1, .va (.lst (L.map kp)), s3, s4, s5, s6, s7, s8, s9, s10, s11], ⟨s7, s8, s9, i7, i8, i9, rfl⟩, ?_, ?_⟩
    · rintro i x ρ hx ⟨s7, s8, s9, i7, i8, i9, rfl⟩
      rw [List.getElem?_map] at hx
      obtain ⟨p, hp, ex⟩ := Option.map_eq_some_iff.mp hx
      subst ex
      obtain ⟨T7, T8⟩ := hT p (List.mem_of_getElem? hp)
      refine ⟨[.va (.lst (ns.map .int)), s1, .va (.lst (L.map kp)), s3, s4, s5, s6, .va p.1, .va p.2, .va (.lst (two p.1 p.2)), s10, s11], ?_, ?_⟩
      · show setVs [7, 8, 9] [_, _, _] _ = _
        unfold setVs
        rw [if_pos ⟨by simp, i7⟩]
        unfold setVs
        rw [if_pos ⟨by simp, i8⟩]
        unfold setVs
        rw [if_pos ⟨by simp, i9⟩]
        rfl
      · with_reducible refine wIf ?_
        with_reducible refine wTv ?_
        with_reducible refine wBin ?_
        with_reducible refine wLst ?_
        repeat mleft
        refine ⟨_, _, _, rfl, rfl, ix_ok (xs := two p.1 p.2) (i := 0) rfl, ?_⟩
        refine ⟨_, _, rfl, at_p, ?_⟩
        repeat mleft
        refine ⟨_, _, _, rfl, rfl, ix_ok (xs := two p.1 p.2) (i := 1) rfl, ?_⟩
        refine ⟨_, _, rfl, at_p, ?_⟩
        repeat mleft
        refine ⟨_, _, _, rfl, rfl, ix_ok (xs := two p.1 p.2) (i := 2) rfl, ?_⟩
        refine ⟨_, _, rfl, at_m, ?_⟩
        repeat mleft
        refine ⟨_, _, _, rfl, rfl, ix_ok (xs := two p.1 p.2) (i := 3) rfl, ?_⟩
        refine ⟨_, _, rfl, at_m, ?_⟩
        repeat mleft
        refine ⟨_, _, rfl, by simp, ?_⟩
        repeat mleft
        refine ⟨_, _, rfl, by simp, ?_⟩
        refine ⟨_, _, _, rfl, rfl, ne_four T7 T8, ?_⟩
        refine ⟨_, rfl, fun z => absurd z (by decide), fun _ => ?_⟩
        with_reducible refine wNext ?_
        exact ⟨.va p.1, .va p.2, .va (.lst (two p.1 p.2)), rfl, rfl, rfl, rfl⟩
    · rintro ρ ⟨s7, s8, s9, i7, i8, i9, rfl⟩
      with_reducible refine wRet ?_
      with_reducible refine wUn ?_
      with_reducible refine wCall ?_
      repeat mleft
      refine ⟨_, _, rfl, by simp, ?_⟩
      repeat mleft
      refine ⟨_, _, rfl, by simp, ?_⟩
      repeat mleft
      refine ⟨_, _, rfl, by simp, ?_⟩
      repeat mleft
      dsimp only [soft, List.map_cons, List.map_nil, toArg, List.getElem?_cons_zero, List.getElem?_cons_succ]
      simp only [List.map_cons, List.map_nil, toArg]
      refine ⟨by rfl, ?_⟩
      with_reducible refine of_ok (m := m_yard_wrong) yard_e ?_
      mleave
      refine ⟨_, _, rfl, rfl, ?_⟩
      exact ⟨_, rfl, rfl⟩
theorem law_true (ns : List Int) (hn : ns.length ≤ 63) : ∃ as', m_law [.va (.lst (ns.map .int))] = .ok (.va (.bl true)) as' := by
  obtain ⟨r, ρ, e, rfl⟩ := (law_w hn).eq
  exact ⟨ρ, e⟩
end K95

namespace DL
open PySem L2 PyProof.Rows
theorem no_cx {P : Program} {w : World} {H : Hp} {s : Shared} {e : Value} {s' : Shared} (h : L2.CX P w [] H s (fun _ _ _ => False) e s') : False := by
  obtain ⟨_, _, _, _, _, _, _, _, _, _, _, _, z⟩ := h
  exact z
end DL
namespace K95
open PySem L2 PyProof.Rows DL
local macro_rules | `(tactic| mconstructor) => `(tactic| first | exact .inl rfl | exact .inr (.inl rfl) | exact .inr rfl | exact .inr (.inr rfl))
local macro_rules | `(tactic| mpure_intro) => `(tactic| (simp only [cxOf, envOfC, Cx.blk, compEnvC, relab_eq]; decide +kernel))
local macro_rules | `(tactic| mleft) => `(tactic| first | with_reducible refine wSeq ?_ | with_reducible refine wRet ?_ | with_reducible refine wSet ?_ | with_reducible refine wNext ?_ | with_reducible refine wBin ?_ | with_reducible refine wC ?_ | with_reducible refine wCons ?_ | with_reducible refine wNil ?_ | with_reducible refine wTv ?_ | with_reducible refine wUn ?_ | with_reducible refine wBi ?_ | with_reducible refine wLst ?_ | with_reducible refine wTup ?_ | with_reducible refine wNot ?_ | with_reducible refine wNotV ?_ | with_reducible refine wTrue ?_ | with_reducible refine wAnd ?_ | with_reducible refine wOr ?_ | with_reducible refine wIf ?_ | with_reducible refine wIte ?_ | with_reducible refine wAndV ?_ | with_reducible refine wOrV ?_ | with_reducible refine wChain ?_ | with_reducible refine wSl ?_ | with_reducible refine wPN ?_ | with_reducible refine wPS ?_ | with_reducible refine wExpr ?_ | with_reducible refine wRaise ?_ | with_reducible refine wIter ?_ | with_reducible refine wRng ?_ | with_reducible refine wSeqs ?_ | with_reducible refine wCall ?_ | with_reducible refine wSetIx rfl ?_ | with_reducible refine wApp rfl ?_ | with_reducible refine wUnp ?_ | with_reducible refine wFor ?_ | with_reducible refine wComp ?_ | with_reducible refine wFrz ?_ | with_reducible refine wV rfl ?_ | with_reducible refine wVo rfl ?_)
local macro_rules | `(tactic| massumption) => `(tactic| first | decide | omega | assumption | exact cmul 100 100 (by omega) (by omega) (by decide))
local macro_rules | `(tactic| mright) => `(tactic| first | ((with_reducible refine And.intro (a := (_ && _) = true) ?_ ?_); (focus ((try dsimp only [soft, List.map_cons, List.map_nil, toArg, List.getElem?_cons_zero, List.getElem?_cons_succ]); first | rfl | (simp [alNd, pos?, argOk]; done))); (try dsimp only [soft, List.map_cons, List.map_nil, toArg, List.getElem?_cons_zero, List.getElem?_cons_succ])) | ((with_reducible refine And.intro (a := _ < _) ?_ ?_); focus (first | omega | (simp; omega))) | ((with_reducible show And _ _); first | refine ⟨fun z => absurd z (by decide), fun _ => ?_⟩ | refine ⟨fun _ => ?_, fun z => absurd z (by decide)⟩) | ((with_reducible show Exists _); first | refine ⟨_, _, _, rfl, rfl, mod_ok (by massumption), ?_⟩ | refine ⟨_, _, _, rfl, rfl, mul_ok (by massumption), ?_⟩ | refine ⟨_, _, _, rfl, rfl, div_ok (by massumption), ?_⟩ | (refine ⟨_, _, _, rfl, rfl, pow_ok (by decide), ?_⟩; simp only [Int.reduceToNat, Int.reducePow]) | refine ⟨_, _, _, rfl, rfl, rfl, ?_⟩ | refine ⟨_, _, _, rfl, rfl, ix_ok (by assumption), ?_⟩ | refine ⟨_, _, _, rfl, rfl, ixt_ok (by assumption), ?_⟩ | (refine ⟨_, _, _, _, rfl, rfl, rfl, ?_⟩; (try dsimp only [Int.reduceToNat, List.set_cons_zero, List.set_cons_succ])) | refine ⟨_, _, _, _, rfl, rfl, (by first | massumption | (simp; omega)), ?_⟩ | refine ⟨_, _, _, rfl, rfl, ?_⟩ | refine ⟨_, _, rfl, rng_ok (by omega) (by omega), ?_⟩ | refine ⟨_, rfl, ?_⟩ | refine ⟨_, _, rfl, rfl, ?_⟩ | refine ⟨_, _, rfl, (by first | decide | (simp; done)), ?_⟩ | refine ⟨_, _, rfl, ?_⟩))
local macro_rules | `(tactic| mstop) => `(tactic| first | ((with_reducible refine wsv ?_ ?_ ?_); (focus (simp; done)); (focus (first | rfl | assumption | (rw [upd1_none (by rfl)]; assumption))); dsimp only [List.set_cons_zero, List.set_cons_succ]) | ((with_reducible refine wsf ?_ ?_ ?_); (focus (simp; done)); (focus (first | rfl | assumption | (rw [upd1_none (by rfl)]; assumption))); dsimp only [List.set_cons_zero, List.set_cons_succ]))
local macro_rules | `(tactic| mexfalso) => `(tactic| (refine ⟨trivial, ?_⟩; simp only [backC, upd1_va, upd1_un, upd1_v1, upd1_v2, upd1_v3, upd1_v4, upd1_ow, upd1_none, pos?, if_true, if_false, reduceIte, Option.map_some, Option.map_none, Nat.reduceAdd, Nat.reduceEqDiff, List.getElem?_cons_zero, List.getElem?_cons_succ, List.set_cons_zero, List.set_cons_succ]))
local macro_rules | `(tactic| mstart) => `(tactic| repeat (first | mleft | mright | mstop))
local macro_rules | `(tactic| mleave) => `(tactic| (refine ⟨trivial, ?_⟩; simp only [soft_va, soft_fr, soft_al, backC, upd1_va, upd1_un, upd1_v1, upd1_v2, upd1_v3, upd1_v4, upd1_ow, upd1_none, pos_va, pos_al, pos_nil, if_true, if_false, reduceIte, Option.map_some, Option.map_none, Nat.reduceAdd, Nat.reduceEqDiff, List.getElem?_cons_zero, List.getElem?_cons_succ, List.set_cons_zero, List.set_cons_succ]))
theorem law_sp {K : PySem.W.Frag} {H : Hp} {a : Addr} {ns : List Int} (hl : ns.length ≤ 63) (hS : SqL K H a (ns.map V.int)) : spD K 1 m_law [.ref a] H (fun v _ => v = .bl true) fun _ _ _ => False := by
  have iv : IsA K H (ns.map .int) (ns.map V.int) := by
    clear hS hl
    induction ns with
    | nil => exact IsA.nil
    | cons n ns ih => exact IsA.cons Is.intI ih
  refine ⟨rfl, H, [.va (.lst (ns.map .int))], ⟨Same.refl _, rfl, fun i s e => ?_, fun i j b h => ?_⟩, rfl, ?_⟩
  · cases i with
    | zero => cases e; exact ⟨some (.ref a), rfl, .ref a, rfl, Is.lstI hS iv⟩
    | succ i => cases e
  · obtain ⟨_, io, xs, q⟩ := h
    cases i with
    | zero => cases q
    | succ i => cases q
  · obtain ⟨as', e⟩ := law_true ns hl
    rw [e]
    intro v H' Hb' _ r
    have r : Is K Hb' (.bl true) v := r
    simpa only [Is] using r
end K95

namespace K95
open PySem L2 PyProof.Rows DL
local macro_rules | `(tactic| mconstructor) => `(tactic| first | exact .inl rfl | exact .inr (.inl rfl) | exact .inr rfl | exact .inr (.inr rfl))
local macro_rules | `(tactic| mpure_intro) => `(tactic| (simp only [cxOf, envOfC, Cx.blk, compEnvC, relab_eq]; decide +kernel))
local macro_rules | `(tactic| mleft) => `(tactic| first | with_reducible refine wSeq ?_ | with_reducible refine wRet ?_ | with_reducible refine wSet ?_ | with_reducible refine wNext ?_ | with_reducible refine wBin ?_ | with_reducible refine wC ?_ | with_reducible refine wCons ?_ | with_reducible refine wNil ?_ | with_reducible refine wTv ?_ | with_reducible refine wUn ?_ | with_reducible refine wBi ?_ | with_reducible refine wLst ?_ | with_reducible refine wTup ?_ | with_reducible refine wNot ?_ | with_reducible refine wNotV ?_ | with_reducible refine wTrue ?_ | with_reducible refine wAnd ?_ | with_reducible refine wOr ?_ | with_reducible refine wIf ?_ | with_reducible refine wIte ?_ | with_reducible refine wAndV ?_ | with_reducible refine wOrV ?_ | with_reducible refine wChain ?_ | with_reducible refine wSl ?_ | with_reducible refine wPN ?_ | with_reducible refine wPS ?_ | with_reducible refine wExpr ?_ | with_reducible refine wRaise ?_ | with_reducible refine wIter ?_ | with_reducible refine wRng ?_ | with_reducible refine wSeqs ?_ | with_reducible refine wCall ?_ | with_reducible refine wSetIx rfl ?_ | with_reducible refine wApp rfl ?_ | with_reducible refine wUnp ?_ | with_reducible refine wFor ?_ | with_reducible refine wComp ?_ | with_reducible refine wFrz ?_ | with_reducible refine wV rfl ?_ | with_reducible refine wVo rfl ?_)
local macro_rules | `(tactic| massumption) => `(tactic| first | decide | omega | assumption | exact cmul 100 100 (by omega) (by omega) (by decide))
local macro_rules | `(tactic| mright) => `(tactic| first | ((with_reducible refine And.intro (a := (_ && _) = true) ?_ ?_); (focus ((try dsimp only [soft, List.map_cons, List.map_nil, toArg, List.getElem?_cons_zero, List.getElem?_cons_succ]); first | rfl | (simp [alNd, pos?, argOk]; done))); (try dsimp only [soft, List.map_cons, List.map_nil, toArg, List.getElem?_cons_zero, List.getElem?_cons_succ])) | ((with_reducible refine And.intro (a := _ < _) ?_ ?_); focus (first | omega | (simp; omega))) | ((with_reducible show And _ _); first | refine ⟨fun z => absurd z (by decide), fun _ => ?_⟩ | refine ⟨fun _ => ?_, fun z => absurd z (by decide)⟩) | ((with_reducible show Exists _); first | refine ⟨_, _, _, rfl, rfl, mod_ok (by massumption), ?_⟩ | refine ⟨_, _, _, rfl, rfl, mul_ok (by massumption), ?_⟩ | refine ⟨_, _, _, rfl, rfl, div_ok (by massumption), ?_⟩ | (refine ⟨_, _, _, rfl, rfl, pow_ok (by decide), ?_⟩; simp only [Int.reduceToNat, Int.reducePow]) | refine ⟨_, _, _, rfl, rfl, rfl, ?_⟩ | refine ⟨_, _, _, rfl, rfl, ix_ok (by assumption), ?_⟩ | refine ⟨_, _, _, rfl, rfl, ixt_ok (by assumption), ?_⟩ | (refine ⟨_, _, _, _, rfl, rfl, rfl, ?_⟩; (try dsimp only [Int.reduceToNat, List.set_cons_zero, List.set_cons_succ])) | refine ⟨_, _, _, _, rfl, rfl, (by first | massumption | (simp; omega)), ?_⟩ | refine ⟨_, _, _, rfl, rfl, ?_⟩ | refine ⟨_, _, rfl, rng_ok (by omega) (by omega), ?_⟩ | refine ⟨_, rfl, ?_⟩ | refine ⟨_, _, rfl, rfl, ?_⟩ | refine ⟨_, _, rfl, (by first | decide | (simp; done)), ?_⟩ | refine ⟨_, _, rfl, ?_⟩))
local macro_rules | `(tactic| mstop) => `(tactic| first | ((with_reducible refine wsv ?_ ?_ ?_); (focus (simp; done)); (focus (first | rfl | assumption | (rw [upd1_none (by rfl)]; assumption))); dsimp only [List.set_cons_zero, List.set_cons_succ]) | ((with_reducible refine wsf ?_ ?_ ?_); (focus (simp; done)); (focus (first | rfl | assumption | (rw [upd1_none (by rfl)]; assumption))); dsimp only [List.set_cons_zero, List.set_cons_succ]))
local macro_rules | `(tactic| mexfalso) => `(tactic| (refine ⟨trivial, ?_⟩; simp only [backC, upd1_va, upd1_un, upd1_v1, upd1_v2, upd1_v3, upd1_v4, upd1_ow, upd1_none, pos?, if_true, if_false, reduceIte, Option.map_some, Option.map_none, Nat.reduceAdd, Nat.reduceEqDiff, List.getElem?_cons_zero, List.getElem?_cons_succ, List.set_cons_zero, List.set_cons_succ]))
local macro_rules | `(tactic| mstart) => `(tactic| repeat (first | mleft | mright | mstop))
local macro_rules | `(tactic| mleave) => `(tactic| (refine ⟨trivial, ?_⟩; simp only [soft_va, soft_fr, soft_al, backC, upd1_va, upd1_un, upd1_v1, upd1_v2, upd1_v3, upd1_v4, upd1_ow, upd1_none, pos_va, pos_al, pos_nil, if_true, if_false, reduceIte, Option.map_some, Option.map_none, Nat.reduceAdd, Nat.reduceEqDiff, List.getElem?_cons_zero, List.getElem?_cons_succ, List.set_cons_zero, List.set_cons_succ]))
/-! ### the end -/
theorem cls_u {K : PySem.W.Frag} {k : Nat} {x : Str} {a c : Addr} (h : PySem.W.nsIn K mainGlobals x = some (some (.ref a))) (e : clsStr k = x) (q : ClsAt K k c) : c = a := by
  subst e
  have z := q.symm.trans h
  cases z
  rfl
theorem kit_cl {K : PySem.W.Frag} {t : Value} {C : Addr} {b : Bool} (h2 : PySem.W.isClsIn K C = true) (h3 : PySem.W.typeIn K (.ref C) = some (.type "type")) (h4 : PySem.W.subIn K t (.ref C) = some b) : PySem.W.kitCls K t (.ref C) = some b := by
  have e2 : ((PySem.W.clsIn K C).isSome && PySem.W.typeIn K (.ref C) == some (.type "type")) = true := by
    have h2' : (PySem.W.clsIn K C).isSome = true := h2
    rw [h2', h3]
    first | rfl | decide
  show (if ((PySem.W.clsIn K C).isSome && PySem.W.typeIn K (.ref C) == some (.type "type")) = true then PySem.W.subIn K t (.ref C) else none) = some b
  rw [if_pos e2]
  exact h4
theorem kit_ref {K : PySem.W.Frag} {t : Addr} {C : Addr} {b : Bool} (h2 : PySem.W.isClsIn K C = true) (h3 : PySem.W.typeIn K (.ref C) = some (.type "type")) (h4 : PySem.W.subIn K (.ref t) (.ref C) = some b) (hs : PySem.W.subIn K (.ref t) (.ref t) = some true) : PySem.W.kitOne K (.ref t) (.ref C) = some b := by
  unfold PySem.W.kitOne
  by_cases e : ((Value.ref t) == (Value.ref C)) = true
  · rw [if_pos e]
    have e2 : t = C := by simpa using e
    subst e2
    rw [hs] at h4
    exact h4
  · rw [if_neg e]
    exact kit_cl h2 h3 h4
theorem kit_non {K : PySem.W.Frag} {C : Addr} {b : Bool} (h2 : PySem.W.isClsIn K C = true) (h3 : PySem.W.typeIn K (.ref C) = some (.type "type")) (h4 : PySem.W.subIn K (.type "NoneType") (.ref C) = some b) : PySem.W.kitOne K (.type "NoneType") (.ref C) = some b := by
  unfold PySem.W.kitOne
  rw [if_neg (by simp)]
  exact kit_cl h2 h3 h4
theorem kit_val {K : PySem.W.Frag} {t : Addr} (h4 : PySem.W.subIn K (.ref t) (.type "ValueError") = some true) : PySem.W.kitOne K (.ref t) (.type "ValueError") = some true := by
  unfold PySem.W.kitOne
  rw [if_neg (by simp)]
  unfold PySem.W.kitCls
  simp only
  rw [if_pos (by decide)]
  exact h4
theorem exm_by {K : PySem.W.Frag} {t : Addr} {C : Addr} {b : Bool} (h : PySem.W.subIn K (.ref C) (.type "BaseException") = some true) (q : PySem.W.kitCls K (.ref t) (.ref C) = some b) : PySem.W.exmOne K (.ref t) (.ref C) = some b := by
  unfold PySem.W.exmOne
  rw [if_pos (by rw [h]; first | rfl | decide)]
  exact q
set_option maxHeartbeats 8000000 in
theorem all_mk {l : PySem.W.OpenLaw} {w : World} {K : PySem.W.Frag} {h : Heap} {mg : Str → Option Value} {fa : Addr} (X : K.In h) (G : h.Ns mainGlobals mg) (hfa : mg "law" = some (.ref fa))
    {C_FolkError C_NoYard C_NoStanding C_NoLeap C_NoRow C_NoVector C_NoReading C_NoWishes C_NoCell C_NoTable C_NoNumber C_NoPerson C_TooMany : Addr} {nm_NoPerson q_NoPerson file_NoPerson : Str} {N_NoPerson fI_NoPerson cda_NoPerson cc_NoPerson : Addr} {bs_NoPerson bm_NoPerson sub_NoPerson : List Value} {sn_NoPerson : List Str} {ab_NoPerson : Bool} {col_NoPerson : Option Bool} {dd_NoPerson od_NoPerson cdd_NoPerson cld_NoPerson an_NoPerson : Option Addr} {k0_NoPerson k1_NoPerson k2_NoPerson k3_NoPerson k5_NoPerson : Option Value} {oc_NoPerson ccl_NoPerson cl_NoPerson kV_NoPerson dc_NoPerson pm_NoPerson ct_NoPerson : Value} {osl_NoPerson ccs_NoPerson csl_NoPerson : Array (Option Value)} {vs_NoPerson : Array Value} {tf_NoPerson : Tok} {nm_TooMany q_TooMany file_TooMany : Str} {N_TooMany fI_TooMany cda_TooMany cc_TooMany : Addr} {bs_TooMany bm_TooMany sub_TooMany : List Value} {sn_TooMany : List Str} {ab_TooMany : Bool} {col_TooMany : Option Bool} {dd_TooMany od_TooMany cdd_TooMany cld_TooMany an_TooMany : Option Addr} {k0_TooMany k1_TooMany k2_TooMany k3_TooMany k5_TooMany : Option Value} {oc_TooMany ccl_TooMany cl_TooMany kV_TooMany dc_TooMany pm_TooMany ct_TooMany : Value} {osl_TooMany ccs_TooMany csl_TooMany : Array (Option Value)} {vs_TooMany : Array Value} {tf_TooMany : Tok} {f_is_whole : Addr} {od_is_whole an_is_whole : Option Addr} {sl_is_whole : Array (Option Value)} {oc_is_whole kV_is_whole dc_is_whole pm_is_whole cd_is_whole ct_is_whole : Value} {f_is_whole_in : Addr} {od_is_whole_in an_is_whole_in : Option Addr} {sl_is_whole_in : Array (Option Value)} {oc_is_whole_in kV_is_whole_in dc_is_whole_in pm_is_whole_in cd_is_whole_in ct_is_whole_in : Value} {f_is_tuple_of : Addr} {od_is_tuple_of an_is_tuple_of : Option Addr} {sl_is_tuple_of : Array (Option Value)} {oc_is_tuple_of kV_is_tuple_of dc_is_tuple_of pm_is_tuple_of cd_is_tuple_of ct_is_tuple_of : Value} {f_is_way : Addr} {od_is_way an_is_way : Option Addr} {sl_is_way : Array (Option Value)} {oc_is_way kV_is_way dc_is_way pm_is_way cd_is_way ct_is_way : Value} {f_is_ways : Addr} {od_is_ways an_is_ways : Option Addr} {sl_is_ways : Array (Option Value)} {oc_is_ways kV_is_ways dc_is_ways pm_is_ways cd_is_ways ct_is_ways : Value} {f_is_persons : Addr} {od_is_persons an_is_persons : Option Addr} {sl_is_persons : Array (Option Value)} {oc_is_persons kV_is_persons dc_is_persons pm_is_persons cd_is_persons ct_is_persons : Value} {f_is_posts : Addr} {od_is_posts an_is_posts : Option Addr} {sl_is_posts : Array (Option Value)} {oc_is_posts kV_is_posts dc_is_posts pm_is_posts cd_is_posts ct_is_posts : Value} {f_yard_wrong : Addr} {od_yard_wrong an_yard_wrong : Option Addr} {sl_yard_wrong : Array (Option Value)} {oc_yard_wrong kV_yard_wrong dc_yard_wrong pm_yard_wrong cd_yard_wrong ct_yard_wrong : Value} {f__law_mixed : Addr} {od__law_mixed an__law_mixed : Option Addr} {sl__law_mixed : Array (Option Value)} {oc__law_mixed kV__law_mixed dc__law_mixed pm__law_mixed cd__law_mixed ct__law_mixed : Value} {f__law_pile : Addr} {od__law_pile an__law_pile : Option Addr} {sl__law_pile : Array (Option Value)} {oc__law_pile kV__law_pile dc__law_pile pm__law_pile cd__law_pile ct__law_pile : Value} {f__law_take : Addr} {od__law_take an__law_take : Option Addr} {sl__law_take : Array (Option Value)} {oc__law_take kV__law_take dc__law_take pm__law_take cd__law_take ct__law_take : Value} {f__law_great : Addr} {od__law_great an__law_great : Option Addr} {sl__law_great : Array (Option Value)} {oc__law_great kV__law_great dc__law_great pm__law_great cd__law_great ct__law_great : Value} {f__law_kind : Addr} {od__law_kind an__law_kind : Option Addr} {sl__law_kind : Array (Option Value)} {oc__law_kind kV__law_kind dc__law_kind pm__law_kind cd__law_kind ct__law_kind : Value} {f__law_bare : Addr} {od__law_bare an__law_bare : Option Addr} {sl__law_bare : Array (Option Value)} {oc__law_bare kV__law_bare dc__law_bare pm__law_bare cd__law_bare ct__law_bare : Value} {f__law_all : Addr} {od__law_all an__law_all : Option Addr} {sl__law_all : Array (Option Value)} {oc__law_all kV__law_all dc__law_all pm__law_all cd__law_all ct__law_all : Value} {f_law : Addr} {od_law an_law : Option Addr} {sl_law : Array (Option Value)} {oc_law kV_law dc_law pm_law cd_law ct_law : Value} {t_LEAST_PERSONS : Tok} {t_MOST_PERSONS : Tok} {t_MOST_WAYS : Tok}
    (n_FolkError : PySem.W.nsIn K mainGlobals "FolkError" = some (some (.ref C_FolkError)))
    (n_NoYard : PySem.W.nsIn K mainGlobals "NoYard" = some (some (.ref C_NoYard)))
    (n_NoStanding : PySem.W.nsIn K mainGlobals "NoStanding" = some (some (.ref C_NoStanding)))
    (n_NoLeap : PySem.W.nsIn K mainGlobals "NoLeap" = some (some (.ref C_NoLeap)))
    (n_NoRow : PySem.W.nsIn K mainGlobals "NoRow" = some (some (.ref C_NoRow)))
    (n_NoVector : PySem.W.nsIn K mainGlobals "NoVector" = some (some (.ref C_NoVector)))
    (n_NoReading : PySem.W.nsIn K mainGlobals "NoReading" = some (some (.ref C_NoReading)))
    (n_NoWishes : PySem.W.nsIn K mainGlobals "NoWishes" = some (some (.ref C_NoWishes)))
    (n_NoCell : PySem.W.nsIn K mainGlobals "NoCell" = some (some (.ref C_NoCell)))
    (n_NoTable : PySem.W.nsIn K mainGlobals "NoTable" = some (some (.ref C_NoTable)))
    (n_NoNumber : PySem.W.nsIn K mainGlobals "NoNumber" = some (some (.ref C_NoNumber)))
    (n_NoPerson : PySem.W.nsIn K mainGlobals "NoPerson" = some (some (.ref C_NoPerson)))
    (n_TooMany : PySem.W.nsIn K mainGlobals "TooMany" = some (some (.ref C_TooMany)))
    (x_FolkError : PySem.W.excIn K C_FolkError [.type "ValueError", .type "Exception", .type "BaseException", .type "object"] "ValueError.__new__" = true)
    (kp_FolkError : PySem.W.keepIn K (.ref C_FolkError) = true)
    (sb_FolkError : PySem.W.subIn K (.ref C_FolkError) (.type "BaseException") = some true)
    (ty_FolkError : PySem.W.typeIn K (.ref C_FolkError) = some (.type "type"))
    (hg_FolkError : PySem.W.findIn K (.ref C_FolkError) "__getattribute__" = some (some (.builtin "BaseException.__getattribute__")))
    (hk_FolkError : PySem.W.findIn K (.ref C_FolkError) "__getattr__" = some none)
    (hd_FolkError : PySem.W.hasDictIn K C_FolkError = true)
    (ha_FolkError : PySem.W.findIn K (.ref C_FolkError) "__class__" = some (some (.builtin "object.__class__")))
    (hm_FolkError : PySem.W.mroIn K C_FolkError (.type "object") = some true)
    (kv_FolkError : PySem.W.subIn K (.ref C_FolkError) (.type "ValueError") = some true)
    (kk_FolkError_FolkError : PySem.W.subIn K (.ref C_FolkError) (.ref C_FolkError) = some true)
    (kk_FolkError_NoYard : PySem.W.subIn K (.ref C_FolkError) (.ref C_NoYard) = some false)
    (kk_FolkError_NoStanding : PySem.W.subIn K (.ref C_FolkError) (.ref C_NoStanding) = some false)
    (kk_FolkError_NoLeap : PySem.W.subIn K (.ref C_FolkError) (.ref C_NoLeap) = some false)
    (kk_FolkError_NoRow : PySem.W.subIn K (.ref C_FolkError) (.ref C_NoRow) = some false)
    (kk_FolkError_NoVector : PySem.W.subIn K (.ref C_FolkError) (.ref C_NoVector) = some false)
    (kk_FolkError_NoReading : PySem.W.subIn K (.ref C_FolkError) (.ref C_NoReading) = some false)
    (kk_FolkError_NoWishes : PySem.W.subIn K (.ref C_FolkError) (.ref C_NoWishes) = some false)
    (kk_FolkError_NoCell : PySem.W.subIn K (.ref C_FolkError) (.ref C_NoCell) = some false)
    (kk_FolkError_NoTable : PySem.W.subIn K (.ref C_FolkError) (.ref C_NoTable) = some false)
    (kk_FolkError_NoNumber : PySem.W.subIn K (.ref C_FolkError) (.ref C_NoNumber) = some false)
    (kk_FolkError_NoPerson : PySem.W.subIn K (.ref C_FolkError) (.ref C_NoPerson) = some false)
    (kk_FolkError_TooMany : PySem.W.subIn K (.ref C_FolkError) (.ref C_TooMany) = some false)
    (x_NoYard : PySem.W.excIn K C_NoYard [.type "ValueError", .type "Exception", .type "BaseException", .type "object"] "ValueError.__new__" = true)
    (kp_NoYard : PySem.W.keepIn K (.ref C_NoYard) = true)
    (sb_NoYard : PySem.W.subIn K (.ref C_NoYard) (.type "BaseException") = some true)
    (ty_NoYard : PySem.W.typeIn K (.ref C_NoYard) = some (.type "type"))
    (hg_NoYard : PySem.W.findIn K (.ref C_NoYard) "__getattribute__" = some (some (.builtin "BaseException.__getattribute__")))
    (hk_NoYard : PySem.W.findIn K (.ref C_NoYard) "__getattr__" = some none)
    (hd_NoYard : PySem.W.hasDictIn K C_NoYard = true)
    (ha_NoYard : PySem.W.findIn K (.ref C_NoYard) "__class__" = some (some (.builtin "object.__class__")))
    (hm_NoYard : PySem.W.mroIn K C_NoYard (.type "object") = some true)
    (kv_NoYard : PySem.W.subIn K (.ref C_NoYard) (.type "ValueError") = some true)
    (kk_NoYard_FolkError : PySem.W.subIn K (.ref C_NoYard) (.ref C_FolkError) = some true)
    (kk_NoYard_NoYard : PySem.W.subIn K (.ref C_NoYard) (.ref C_NoYard) = some true)
    (kk_NoYard_NoStanding : PySem.W.subIn K (.ref C_NoYard) (.ref C_NoStanding) = some false)
    (kk_NoYard_NoLeap : PySem.W.subIn K (.ref C_NoYard) (.ref C_NoLeap) = some false)
    (kk_NoYard_NoRow : PySem.W.subIn K (.ref C_NoYard) (.ref C_NoRow) = some false)
    (kk_NoYard_NoVector : PySem.W.subIn K (.ref C_NoYard) (.ref C_NoVector) = some false)
    (kk_NoYard_NoReading : PySem.W.subIn K (.ref C_NoYard) (.ref C_NoReading) = some false)
    (kk_NoYard_NoWishes : PySem.W.subIn K (.ref C_NoYard) (.ref C_NoWishes) = some false)
    (kk_NoYard_NoCell : PySem.W.subIn K (.ref C_NoYard) (.ref C_NoCell) = some false)
    (kk_NoYard_NoTable : PySem.W.subIn K (.ref C_NoYard) (.ref C_NoTable) = some false)
    (kk_NoYard_NoNumber : PySem.W.subIn K (.ref C_NoYard) (.ref C_NoNumber) = some false)
    (kk_NoYard_NoPerson : PySem.W.subIn K (.ref C_NoYard) (.ref C_NoPerson) = some false)
    (kk_NoYard_TooMany : PySem.W.subIn K (.ref C_NoYard) (.ref C_TooMany) = some false)
    (x_NoStanding : PySem.W.excIn K C_NoStanding [.type "ValueError", .type "Exception", .type "BaseException", .type "object"] "ValueError.__new__" = true)
    (kp_NoStanding : PySem.W.keepIn K (.ref C_NoStanding) = true)
    (sb_NoStanding : PySem.W.subIn K (.ref C_NoStanding) (.type "BaseException") = some true)
    (ty_NoStanding : PySem.W.typeIn K (.ref C_NoStanding) = some (.type "type"))
    (hg_NoStanding : PySem.W.findIn K (.ref C_NoStanding) "__getattribute__" = some (some (.builtin "BaseException.__getattribute__")))
    (hk_NoStanding : PySem.W.findIn K (.ref C_NoStanding) "__getattr__" = some none)
    (hd_NoStanding : PySem.W.hasDictIn K C_NoStanding = true)
    (ha_NoStanding : PySem.W.findIn K (.ref C_NoStanding) "__class__" = some (some (.builtin "object.__class__")))
    (hm_NoStanding : PySem.W.mroIn K C_NoStanding (.type "object") = some true)
    (kv_NoStanding : PySem.W.subIn K (.ref C_NoStanding) (.type "ValueError") = some true)
    (kk_NoStanding_FolkError : PySem.W.subIn K (.ref C_NoStanding) (.ref C_FolkError) = some true)
    (kk_NoStanding_NoYard : PySem.W.subIn K (.ref C_NoStanding) (.ref C_NoYard) = some false)
    (kk_NoStanding_NoStanding : PySem.W.subIn K (.ref C_NoStanding) (.ref C_NoStanding) = some true)
    (kk_NoStanding_NoLeap : PySem.W.subIn K (.ref C_NoStanding) (.ref C_NoLeap) = some false)
    (kk_NoStanding_NoRow : PySem.W.subIn K (.ref C_NoStanding) (.ref C_NoRow) = some false)
    (kk_NoStanding_NoVector : PySem.W.subIn K (.ref C_NoStanding) (.ref C_NoVector) = some false)
    (kk_NoStanding_NoReading : PySem.W.subIn K (.ref C_NoStanding) (.ref C_NoReading) = some false)
    (kk_NoStanding_NoWishes : PySem.W.subIn K (.ref C_NoStanding) (.ref C_NoWishes) = some false)
    (kk_NoStanding_NoCell : PySem.W.subIn K (.ref C_NoStanding) (.ref C_NoCell) = some false)
    (kk_NoStanding_NoTable : PySem.W.subIn K (.ref C_NoStanding) (.ref C_NoTable) = some false)
    (kk_NoStanding_NoNumber : PySem.W.subIn K (.ref C_NoStanding) (.ref C_NoNumber) = some false)
    (kk_NoStanding_NoPerson : PySem.W.subIn K (.ref C_NoStanding) (.ref C_NoPerson) = some false)
    (kk_NoStanding_TooMany : PySem.W.subIn K (.ref C_NoStanding) (.ref C_TooMany) = some false)
    (x_NoLeap : PySem.W.excIn K C_NoLeap [.type "ValueError", .type "Exception", .type "BaseException", .type "object"] "ValueError.__new__" = true)
    (kp_NoLeap : PySem.W.keepIn K (.ref C_NoLeap) = true)
    (sb_NoLeap : PySem.W.subIn K (.ref C_NoLeap) (.type "BaseException") = some true)
    (ty_NoLeap : PySem.W.typeIn K (.ref C_NoLeap) = some (.type "type"))
    (hg_NoLeap : PySem.W.findIn K (.ref C_NoLeap) "__getattribute__" = some (some (.builtin "BaseException.__getattribute__")))
    (hk_NoLeap : PySem.W.findIn K (.ref C_NoLeap) "__getattr__" = some none)
    (hd_NoLeap : PySem.W.hasDictIn K C_NoLeap = true)
    (ha_NoLeap : PySem.W.findIn K (.ref C_NoLeap) "__class__" = some (some (.builtin "object.__class__")))
    (hm_NoLeap : PySem.W.mroIn K C_NoLeap (.type "object") = some true)
    (kv_NoLeap : PySem.W.subIn K (.ref C_NoLeap) (.type "ValueError") = some true)
    (kk_NoLeap_FolkError : PySem.W.subIn K (.ref C_NoLeap) (.ref C_FolkError) = some true)
    (kk_NoLeap_NoYard : PySem.W.subIn K (.ref C_NoLeap) (.ref C_NoYard) = some false)
    (kk_NoLeap_NoStanding : PySem.W.subIn K (.ref C_NoLeap) (.ref C_NoStanding) = some false)
    (kk_NoLeap_NoLeap : PySem.W.subIn K (.ref C_NoLeap) (.ref C_NoLeap) = some true)
    (kk_NoLeap_NoRow : PySem.W.subIn K (.ref C_NoLeap) (.ref C_NoRow) = some false)
    (kk_NoLeap_NoVector : PySem.W.subIn K (.ref C_NoLeap) (.ref C_NoVector) = some false)
    (kk_NoLeap_NoReading : PySem.W.subIn K (.ref C_NoLeap) (.ref C_NoReading) = some false)
    (kk_NoLeap_NoWishes : PySem.W.subIn K (.ref C_NoLeap) (.ref C_NoWishes) = some false)
    (kk_NoLeap_NoCell : PySem.W.subIn K (.ref C_NoLeap) (.ref C_NoCell) = some false)
    (kk_NoLeap_NoTable : PySem.W.subIn K (.ref C_NoLeap) (.ref C_NoTable) = some false)
    (kk_NoLeap_NoNumber : PySem.W.subIn K (.ref C_NoLeap) (.ref C_NoNumber) = some false)
    (kk_NoLeap_NoPerson : PySem.W.subIn K (.ref C_NoLeap) (.ref C_NoPerson) = some false)
    (kk_NoLeap_TooMany : PySem.W.subIn K (.ref C_NoLeap) (.ref C_TooMany) = some false)
    (x_NoRow : PySem.W.excIn K C_NoRow [.type "ValueError", .type "Exception", .type "BaseException", .type "object"] "ValueError.__new__" = true)
    (kp_NoRow : PySem.W.keepIn K (.ref C_NoRow) = true)
    (sb_NoRow : PySem.W.subIn K (.ref C_NoRow) (.type "BaseException") = some true)
    (ty_NoRow : PySem.W.typeIn K (.ref C_NoRow) = some (.type "type"))
    (hg_NoRow : PySem.W.findIn K (.ref C_NoRow) "__getattribute__" = some (some (.builtin "BaseException.__getattribute__")))
    (hk_NoRow : PySem.W.findIn K (.ref C_NoRow) "__getattr__" = some none)
    (hd_NoRow : PySem.W.hasDictIn K C_NoRow = true)
    (ha_NoRow : PySem.W.findIn K (.ref C_NoRow) "__class__" = some (some (.builtin "object.__class__")))
    (hm_NoRow : PySem.W.mroIn K C_NoRow (.type "object") = some true)
    (kv_NoRow : PySem.W.subIn K (.ref C_NoRow) (.type "ValueError") = some true)
    (kk_NoRow_FolkError : PySem.W.subIn K (.ref C_NoRow) (.ref C_FolkError) = some true)
    (kk_NoRow_NoYard : PySem.W.subIn K (.ref C_NoRow) (.ref C_NoYard) = some false)
    (kk_NoRow_NoStanding : PySem.W.subIn K (.ref C_NoRow) (.ref C_NoStanding) = some false)
    (kk_NoRow_NoLeap : PySem.W.subIn K (.ref C_NoRow) (.ref C_NoLeap) = some false)
    (kk_NoRow_NoRow : PySem.W.subIn K (.ref C_NoRow) (.ref C_NoRow) = some true)
    (kk_NoRow_NoVector : PySem.W.subIn K (.ref C_NoRow) (.ref C_NoVector) = some false)
    (kk_NoRow_NoReading : PySem.W.subIn K (.ref C_NoRow) (.ref C_NoReading) = some false)
    (kk_NoRow_NoWishes : PySem.W.subIn K (.ref C_NoRow) (.ref C_NoWishes) = some false)
    (kk_NoRow_NoCell : PySem.W.subIn K (.ref C_NoRow) (.ref C_NoCell) = some false)
    (kk_NoRow_NoTable : PySem.W.subIn K (.ref C_NoRow) (.ref C_NoTable) = some false)
    (kk_NoRow_NoNumber : PySem.W.subIn K (.ref C_NoRow) (.ref C_NoNumber) = some false)
    (kk_NoRow_NoPerson : PySem.W.subIn K (.ref C_NoRow) (.ref C_NoPerson) = some false)
    (kk_NoRow_TooMany : PySem.W.subIn K (.ref C_NoRow) (.ref C_TooMany) = some false)
    (x_NoVector : PySem.W.excIn K C_NoVector [.type "ValueError", .type "Exception", .type "BaseException", .type "object"] "ValueError.__new__" = true)
    (kp_NoVector : PySem.W.keepIn K (.ref C_NoVector) = true)
    (sb_NoVector : PySem.W.subIn K (.ref C_NoVector) (.type "BaseException") = some true)
    (ty_NoVector : PySem.W.typeIn K (.ref C_NoVector) = some (.type "type"))
    (hg_NoVector : PySem.W.findIn K (.ref C_NoVector) "__getattribute__" = some (some (.builtin "BaseException.__getattribute__")))
    (hk_NoVector : PySem.W.findIn K (.ref C_NoVector) "__getattr__" = some none)
    (hd_NoVector : PySem.W.hasDictIn K C_NoVector = true)
    (ha_NoVector : PySem.W.findIn K (.ref C_NoVector) "__class__" = some (some (.builtin "object.__class__")))
    (hm_NoVector : PySem.W.mroIn K C_NoVector (.type "object") = some true)
    (kv_NoVector : PySem.W.subIn K (.ref C_NoVector) (.type "ValueError") = some true)
    (kk_NoVector_FolkError : PySem.W.subIn K (.ref C_NoVector) (.ref C_FolkError) = some true)
    (kk_NoVector_NoYard : PySem.W.subIn K (.ref C_NoVector) (.ref C_NoYard) = some false)
    (kk_NoVector_NoStanding : PySem.W.subIn K (.ref C_NoVector) (.ref C_NoStanding) = some false)
    (kk_NoVector_NoLeap : PySem.W.subIn K (.ref C_NoVector) (.ref C_NoLeap) = some false)
    (kk_NoVector_NoRow : PySem.W.subIn K (.ref C_NoVector) (.ref C_NoRow) = some false)
    (kk_NoVector_NoVector : PySem.W.subIn K (.ref C_NoVector) (.ref C_NoVector) = some true)
    (kk_NoVector_NoReading : PySem.W.subIn K (.ref C_NoVector) (.ref C_NoReading) = some false)
    (kk_NoVector_NoWishes : PySem.W.subIn K (.ref C_NoVector) (.ref C_NoWishes) = some false)
    (kk_NoVector_NoCell : PySem.W.subIn K (.ref C_NoVector) (.ref C_NoCell) = some false)
    (kk_NoVector_NoTable : PySem.W.subIn K (.ref C_NoVector) (.ref C_NoTable) = some false)
    (kk_NoVector_NoNumber : PySem.W.subIn K (.ref C_NoVector) (.ref C_NoNumber) = some false)
    (kk_NoVector_NoPerson : PySem.W.subIn K (.ref C_NoVector) (.ref C_NoPerson) = some false)
    (kk_NoVector_TooMany : PySem.W.subIn K (.ref C_NoVector) (.ref C_TooMany) = some false)
    (x_NoReading : PySem.W.excIn K C_NoReading [.type "ValueError", .type "Exception", .type "BaseException", .type "object"] "ValueError.__new__" = true)
    (kp_NoReading : PySem.W.keepIn K (.ref C_NoReading) = true)
    (sb_NoReading : PySem.W.subIn K (.ref C_NoReading) (.type "BaseException") = some true)
    (ty_NoReading : PySem.W.typeIn K (.ref C_NoReading) = some (.type "type"))
    (hg_NoReading : PySem.W.findIn K (.ref C_NoReading) "__getattribute__" = some (some (.builtin "BaseException.__getattribute__")))
    (hk_NoReading : PySem.W.findIn K (.ref C_NoReading) "__getattr__" = some none)
    (hd_NoReading : PySem.W.hasDictIn K C_NoReading = true)
    (ha_NoReading : PySem.W.findIn K (.ref C_NoReading) "__class__" = some (some (.builtin "object.__class__")))
    (hm_NoReading : PySem.W.mroIn K C_NoReading (.type "object") = some true)
    (kv_NoReading : PySem.W.subIn K (.ref C_NoReading) (.type "ValueError") = some true)
    (kk_NoReading_FolkError : PySem.W.subIn K (.ref C_NoReading) (.ref C_FolkError) = some true)
    (kk_NoReading_NoYard : PySem.W.subIn K (.ref C_NoReading) (.ref C_NoYard) = some false)
    (kk_NoReading_NoStanding : PySem.W.subIn K (.ref C_NoReading) (.ref C_NoStanding) = some false)
    (kk_NoReading_NoLeap : PySem.W.subIn K (.ref C_NoReading) (.ref C_NoLeap) = some false)
    (kk_NoReading_NoRow : PySem.W.subIn K (.ref C_NoReading) (.ref C_NoRow) = some false)
    (kk_NoReading_NoVector : PySem.W.subIn K (.ref C_NoReading) (.ref C_NoVector) = some false)
    (kk_NoReading_NoReading : PySem.W.subIn K (.ref C_NoReading) (.ref C_NoReading) = some true)
    (kk_NoReading_NoWishes : PySem.W.subIn K (.ref C_NoReading) (.ref C_NoWishes) = some false)
    (kk_NoReading_NoCell : PySem.W.subIn K (.ref C_NoReading) (.ref C_NoCell) = some false)
    (kk_NoReading_NoTable : PySem.W.subIn K (.ref C_NoReading) (.ref C_NoTable) = some false)
    (kk_NoReading_NoNumber : PySem.W.subIn K (.ref C_NoReading) (.ref C_NoNumber) = some false)
    (kk_NoReading_NoPerson : PySem.W.subIn K (.ref C_NoReading) (.ref C_NoPerson) = some false)
    (kk_NoReading_TooMany : PySem.W.subIn K (.ref C_NoReading) (.ref C_TooMany) = some false)
    (x_NoWishes : PySem.W.excIn K C_NoWishes [.type "ValueError", .type "Exception", .type "BaseException", .type "object"] "ValueError.__new__" = true)
    (kp_NoWishes : PySem.W.keepIn K (.ref C_NoWishes) = true)
    (sb_NoWishes : PySem.W.subIn K (.ref C_NoWishes) (.type "BaseException") = some true)
    (ty_NoWishes : PySem.W.typeIn K (.ref C_NoWishes) = some (.type "type"))
    (hg_NoWishes : PySem.W.findIn K (.ref C_NoWishes) "__getattribute__" = some (some (.builtin "BaseException.__getattribute__")))
    (hk_NoWishes : PySem.W.findIn K (.ref C_NoWishes) "__getattr__" = some none)
    (hd_NoWishes : PySem.W.hasDictIn K C_NoWishes = true)
    (ha_NoWishes : PySem.W.findIn K (.ref C_NoWishes) "__class__" = some (some (.builtin "object.__class__")))
    (hm_NoWishes : PySem.W.mroIn K C_NoWishes (.type "object") = some true)
    (kv_NoWishes : PySem.W.subIn K (.ref C_NoWishes) (.type "ValueError") = some true)
    (kk_NoWishes_FolkError : PySem.W.subIn K (.ref C_NoWishes) (.ref C_FolkError) = some true)
    (kk_NoWishes_NoYard : PySem.W.subIn K (.ref C_NoWishes) (.ref C_NoYard) = some false)
    (kk_NoWishes_NoStanding : PySem.W.subIn K (.ref C_NoWishes) (.ref C_NoStanding) = some false)
    (kk_NoWishes_NoLeap : PySem.W.subIn K (.ref C_NoWishes) (.ref C_NoLeap) = some false)
    (kk_NoWishes_NoRow : PySem.W.subIn K (.ref C_NoWishes) (.ref C_NoRow) = some false)
    (kk_NoWishes_NoVector : PySem.W.subIn K (.ref C_NoWishes) (.ref C_NoVector) = some false)
    (kk_NoWishes_NoReading : PySem.W.subIn K (.ref C_NoWishes) (.ref C_NoReading) = some false)
    (kk_NoWishes_NoWishes : PySem.W.subIn K (.ref C_NoWishes) (.ref C_NoWishes) = some true)
    (kk_NoWishes_NoCell : PySem.W.subIn K (.ref C_NoWishes) (.ref C_NoCell) = some false)
    (kk_NoWishes_NoTable : PySem.W.subIn K (.ref C_NoWishes) (.ref C_NoTable) = some false)
    (kk_NoWishes_NoNumber : PySem.W.subIn K (.ref C_NoWishes) (.ref C_NoNumber) = some false)
    (kk_NoWishes_NoPerson : PySem.W.subIn K (.ref C_NoWishes) (.ref C_NoPerson) = some false)
    (kk_NoWishes_TooMany : PySem.W.subIn K (.ref C_NoWishes) (.ref C_TooMany) = some false)
    (x_NoCell : PySem.W.excIn K C_NoCell [.type "ValueError", .type "Exception", .type "BaseException", .type "object"] "ValueError.__new__" = true)
    (kp_NoCell : PySem.W.keepIn K (.ref C_NoCell) = true)
    (sb_NoCell : PySem.W.subIn K (.ref C_NoCell) (.type "BaseException") = some true)
    (ty_NoCell : PySem.W.typeIn K (.ref C_NoCell) = some (.type "type"))
    (hg_NoCell : PySem.W.findIn K (.ref C_NoCell) "__getattribute__" = some (some (.builtin "BaseException.__getattribute__")))
    (hk_NoCell : PySem.W.findIn K (.ref C_NoCell) "__getattr__" = some none)
    (hd_NoCell : PySem.W.hasDictIn K C_NoCell = true)
    (ha_NoCell : PySem.W.findIn K (.ref C_NoCell) "__class__" = some (some (.builtin "object.__class__")))
    (hm_NoCell : PySem.W.mroIn K C_NoCell (.type "object") = some true)
    (kv_NoCell : PySem.W.subIn K (.ref C_NoCell) (.type "ValueError") = some true)
    (kk_NoCell_FolkError : PySem.W.subIn K (.ref C_NoCell) (.ref C_FolkError) = some true)
    (kk_NoCell_NoYard : PySem.W.subIn K (.ref C_NoCell) (.ref C_NoYard) = some false)
    (kk_NoCell_NoStanding : PySem.W.subIn K (.ref C_NoCell) (.ref C_NoStanding) = some false)
    (kk_NoCell_NoLeap : PySem.W.subIn K (.ref C_NoCell) (.ref C_NoLeap) = some false)
    (kk_NoCell_NoRow : PySem.W.subIn K (.ref C_NoCell) (.ref C_NoRow) = some false)
    (kk_NoCell_NoVector : PySem.W.subIn K (.ref C_NoCell) (.ref C_NoVector) = some false)
    (kk_NoCell_NoReading : PySem.W.subIn K (.ref C_NoCell) (.ref C_NoReading) = some false)
    (kk_NoCell_NoWishes : PySem.W.subIn K (.ref C_NoCell) (.ref C_NoWishes) = some false)
    (kk_NoCell_NoCell : PySem.W.subIn K (.ref C_NoCell) (.ref C_NoCell) = some true)
    (kk_NoCell_NoTable : PySem.W.subIn K (.ref C_NoCell) (.ref C_NoTable) = some false)
    (kk_NoCell_NoNumber : PySem.W.subIn K (.ref C_NoCell) (.ref C_NoNumber) = some false)
    (kk_NoCell_NoPerson : PySem.W.subIn K (.ref C_NoCell) (.ref C_NoPerson) = some false)
    (kk_NoCell_TooMany : PySem.W.subIn K (.ref C_NoCell) (.ref C_TooMany) = some false)
    (x_NoTable : PySem.W.excIn K C_NoTable [.type "ValueError", .type "Exception", .type "BaseException", .type "object"] "ValueError.__new__" = true)
    (kp_NoTable : PySem.W.keepIn K (.ref C_NoTable) = true)
    (sb_NoTable : PySem.W.subIn K (.ref C_NoTable) (.type "BaseException") = some true)
    (ty_NoTable : PySem.W.typeIn K (.ref C_NoTable) = some (.type "type"))
    (hg_NoTable : PySem.W.findIn K (.ref C_NoTable) "__getattribute__" = some (some (.builtin "BaseException.__getattribute__")))
    (hk_NoTable : PySem.W.findIn K (.ref C_NoTable) "__getattr__" = some none)
    (hd_NoTable : PySem.W.hasDictIn K C_NoTable = true)
    (ha_NoTable : PySem.W.findIn K (.ref C_NoTable) "__class__" = some (some (.builtin "object.__class__")))
    (hm_NoTable : PySem.W.mroIn K C_NoTable (.type "object") = some true)
    (kv_NoTable : PySem.W.subIn K (.ref C_NoTable) (.type "ValueError") = some true)
    (kk_NoTable_FolkError : PySem.W.subIn K (.ref C_NoTable) (.ref C_FolkError) = some true)
    (kk_NoTable_NoYard : PySem.W.subIn K (.ref C_NoTable) (.ref C_NoYard) = some false)
    (kk_NoTable_NoStanding : PySem.W.subIn K (.ref C_NoTable) (.ref C_NoStanding) = some false)
    (kk_NoTable_NoLeap : PySem.W.subIn K (.ref C_NoTable) (.ref C_NoLeap) = some false)
    (kk_NoTable_NoRow : PySem.W.subIn K (.ref C_NoTable) (.ref C_NoRow) = some false)
    (kk_NoTable_NoVector : PySem.W.subIn K (.ref C_NoTable) (.ref C_NoVector) = some false)
    (kk_NoTable_NoReading : PySem.W.subIn K (.ref C_NoTable) (.ref C_NoReading) = some false)
    (kk_NoTable_NoWishes : PySem.W.subIn K (.ref C_NoTable) (.ref C_NoWishes) = some false)
    (kk_NoTable_NoCell : PySem.W.subIn K (.ref C_NoTable) (.ref C_NoCell) = some false)
    (kk_NoTable_NoTable : PySem.W.subIn K (.ref C_NoTable) (.ref C_NoTable) = some true)
    (kk_NoTable_NoNumber : PySem.W.subIn K (.ref C_NoTable) (.ref C_NoNumber) = some false)
    (kk_NoTable_NoPerson : PySem.W.subIn K (.ref C_NoTable) (.ref C_NoPerson) = some false)
    (kk_NoTable_TooMany : PySem.W.subIn K (.ref C_NoTable) (.ref C_TooMany) = some false)
    (x_NoNumber : PySem.W.excIn K C_NoNumber [.type "ValueError", .type "Exception", .type "BaseException", .type "object"] "ValueError.__new__" = true)
    (kp_NoNumber : PySem.W.keepIn K (.ref C_NoNumber) = true)
    (sb_NoNumber : PySem.W.subIn K (.ref C_NoNumber) (.type "BaseException") = some true)
    (ty_NoNumber : PySem.W.typeIn K (.ref C_NoNumber) = some (.type "type"))
    (hg_NoNumber : PySem.W.findIn K (.ref C_NoNumber) "__getattribute__" = some (some (.builtin "BaseException.__getattribute__")))
    (hk_NoNumber : PySem.W.findIn K (.ref C_NoNumber) "__getattr__" = some none)
    (hd_NoNumber : PySem.W.hasDictIn K C_NoNumber = true)
    (ha_NoNumber : PySem.W.findIn K (.ref C_NoNumber) "__class__" = some (some (.builtin "object.__class__")))
    (hm_NoNumber : PySem.W.mroIn K C_NoNumber (.type "object") = some true)
    (kv_NoNumber : PySem.W.subIn K (.ref C_NoNumber) (.type "ValueError") = some true)
    (kk_NoNumber_FolkError : PySem.W.subIn K (.ref C_NoNumber) (.ref C_FolkError) = some true)
    (kk_NoNumber_NoYard : PySem.W.subIn K (.ref C_NoNumber) (.ref C_NoYard) = some false)
    (kk_NoNumber_NoStanding : PySem.W.subIn K (.ref C_NoNumber) (.ref C_NoStanding) = some false)
    (kk_NoNumber_NoLeap : PySem.W.subIn K (.ref C_NoNumber) (.ref C_NoLeap) = some false)
    (kk_NoNumber_NoRow : PySem.W.subIn K (.ref C_NoNumber) (.ref C_NoRow) = some false)
    (kk_NoNumber_NoVector : PySem.W.subIn K (.ref C_NoNumber) (.ref C_NoVector) = some false)
    (kk_NoNumber_NoReading : PySem.W.subIn K (.ref C_NoNumber) (.ref C_NoReading) = some false)
    (kk_NoNumber_NoWishes : PySem.W.subIn K (.ref C_NoNumber) (.ref C_NoWishes) = some false)
    (kk_NoNumber_NoCell : PySem.W.subIn K (.ref C_NoNumber) (.ref C_NoCell) = some false)
    (kk_NoNumber_NoTable : PySem.W.subIn K (.ref C_NoNumber) (.ref C_NoTable) = some false)
    (kk_NoNumber_NoNumber : PySem.W.subIn K (.ref C_NoNumber) (.ref C_NoNumber) = some true)
    (kk_NoNumber_NoPerson : PySem.W.subIn K (.ref C_NoNumber) (.ref C_NoPerson) = some false)
    (kk_NoNumber_TooMany : PySem.W.subIn K (.ref C_NoNumber) (.ref C_TooMany) = some false)
    (kp_NoPerson : PySem.W.keepIn K (.ref C_NoPerson) = true)
    (sb_NoPerson : PySem.W.subIn K (.ref C_NoPerson) (.type "BaseException") = some true)
    (ty_NoPerson : PySem.W.typeIn K (.ref C_NoPerson) = some (.type "type"))
    (hg_NoPerson : PySem.W.findIn K (.ref C_NoPerson) "__getattribute__" = some (some (.builtin "BaseException.__getattribute__")))
    (hk_NoPerson : PySem.W.findIn K (.ref C_NoPerson) "__getattr__" = some none)
    (hd_NoPerson : PySem.W.hasDictIn K C_NoPerson = true)
    (ha_NoPerson : PySem.W.findIn K (.ref C_NoPerson) "__class__" = some (some (.builtin "object.__class__")))
    (hm_NoPerson : PySem.W.mroIn K C_NoPerson (.type "object") = some true)
    (kv_NoPerson : PySem.W.subIn K (.ref C_NoPerson) (.type "ValueError") = some true)
    (kk_NoPerson_FolkError : PySem.W.subIn K (.ref C_NoPerson) (.ref C_FolkError) = some true)
    (kk_NoPerson_NoYard : PySem.W.subIn K (.ref C_NoPerson) (.ref C_NoYard) = some false)
    (kk_NoPerson_NoStanding : PySem.W.subIn K (.ref C_NoPerson) (.ref C_NoStanding) = some false)
    (kk_NoPerson_NoLeap : PySem.W.subIn K (.ref C_NoPerson) (.ref C_NoLeap) = some false)
    (kk_NoPerson_NoRow : PySem.W.subIn K (.ref C_NoPerson) (.ref C_NoRow) = some false)
    (kk_NoPerson_NoVector : PySem.W.subIn K (.ref C_NoPerson) (.ref C_NoVector) = some false)
    (kk_NoPerson_NoReading : PySem.W.subIn K (.ref C_NoPerson) (.ref C_NoReading) = some false)
    (kk_NoPerson_NoWishes : PySem.W.subIn K (.ref C_NoPerson) (.ref C_NoWishes) = some false)
    (kk_NoPerson_NoCell : PySem.W.subIn K (.ref C_NoPerson) (.ref C_NoCell) = some false)
    (kk_NoPerson_NoTable : PySem.W.subIn K (.ref C_NoPerson) (.ref C_NoTable) = some false)
    (kk_NoPerson_NoNumber : PySem.W.subIn K (.ref C_NoPerson) (.ref C_NoNumber) = some false)
    (kk_NoPerson_NoPerson : PySem.W.subIn K (.ref C_NoPerson) (.ref C_NoPerson) = some true)
    (kk_NoPerson_TooMany : PySem.W.subIn K (.ref C_NoPerson) (.ref C_TooMany) = some false)
    (kp_TooMany : PySem.W.keepIn K (.ref C_TooMany) = true)
    (sb_TooMany : PySem.W.subIn K (.ref C_TooMany) (.type "BaseException") = some true)
    (ty_TooMany : PySem.W.typeIn K (.ref C_TooMany) = some (.type "type"))
    (hg_TooMany : PySem.W.findIn K (.ref C_TooMany) "__getattribute__" = some (some (.builtin "BaseException.__getattribute__")))
    (hk_TooMany : PySem.W.findIn K (.ref C_TooMany) "__getattr__" = some none)
    (hd_TooMany : PySem.W.hasDictIn K C_TooMany = true)
    (ha_TooMany : PySem.W.findIn K (.ref C_TooMany) "__class__" = some (some (.builtin "object.__class__")))
    (hm_TooMany : PySem.W.mroIn K C_TooMany (.type "object") = some true)
    (kv_TooMany : PySem.W.subIn K (.ref C_TooMany) (.type "ValueError") = some true)
    (kk_TooMany_FolkError : PySem.W.subIn K (.ref C_TooMany) (.ref C_FolkError) = some true)
    (kk_TooMany_NoYard : PySem.W.subIn K (.ref C_TooMany) (.ref C_NoYard) = some false)
    (kk_TooMany_NoStanding : PySem.W.subIn K (.ref C_TooMany) (.ref C_NoStanding) = some false)
    (kk_TooMany_NoLeap : PySem.W.subIn K (.ref C_TooMany) (.ref C_NoLeap) = some false)
    (kk_TooMany_NoRow : PySem.W.subIn K (.ref C_TooMany) (.ref C_NoRow) = some false)
    (kk_TooMany_NoVector : PySem.W.subIn K (.ref C_TooMany) (.ref C_NoVector) = some false)
    (kk_TooMany_NoReading : PySem.W.subIn K (.ref C_TooMany) (.ref C_NoReading) = some false)
    (kk_TooMany_NoWishes : PySem.W.subIn K (.ref C_TooMany) (.ref C_NoWishes) = some false)
    (kk_TooMany_NoCell : PySem.W.subIn K (.ref C_TooMany) (.ref C_NoCell) = some false)
    (kk_TooMany_NoTable : PySem.W.subIn K (.ref C_TooMany) (.ref C_NoTable) = some false)
    (kk_TooMany_NoNumber : PySem.W.subIn K (.ref C_TooMany) (.ref C_NoNumber) = some false)
    (kk_TooMany_NoPerson : PySem.W.subIn K (.ref C_TooMany) (.ref C_NoPerson) = some false)
    (kk_TooMany_TooMany : PySem.W.subIn K (.ref C_TooMany) (.ref C_TooMany) = some true)
    (kn_FolkError : PySem.W.subIn K (.type "NoneType") (.ref C_FolkError) = some false)
    (ic_FolkError : PySem.W.isClsIn K C_FolkError = true)
    (kn_NoYard : PySem.W.subIn K (.type "NoneType") (.ref C_NoYard) = some false)
    (ic_NoYard : PySem.W.isClsIn K C_NoYard = true)
    (kn_NoStanding : PySem.W.subIn K (.type "NoneType") (.ref C_NoStanding) = some false)
    (ic_NoStanding : PySem.W.isClsIn K C_NoStanding = true)
    (kn_NoLeap : PySem.W.subIn K (.type "NoneType") (.ref C_NoLeap) = some false)
    (ic_NoLeap : PySem.W.isClsIn K C_NoLeap = true)
    (kn_NoRow : PySem.W.subIn K (.type "NoneType") (.ref C_NoRow) = some false)
    (ic_NoRow : PySem.W.isClsIn K C_NoRow = true)
    (kn_NoVector : PySem.W.subIn K (.type "NoneType") (.ref C_NoVector) = some false)
    (ic_NoVector : PySem.W.isClsIn K C_NoVector = true)
    (kn_NoReading : PySem.W.subIn K (.type "NoneType") (.ref C_NoReading) = some false)
    (ic_NoReading : PySem.W.isClsIn K C_NoReading = true)
    (kn_NoWishes : PySem.W.subIn K (.type "NoneType") (.ref C_NoWishes) = some false)
    (ic_NoWishes : PySem.W.isClsIn K C_NoWishes = true)
    (kn_NoCell : PySem.W.subIn K (.type "NoneType") (.ref C_NoCell) = some false)
    (ic_NoCell : PySem.W.isClsIn K C_NoCell = true)
    (kn_NoTable : PySem.W.subIn K (.type "NoneType") (.ref C_NoTable) = some false)
    (ic_NoTable : PySem.W.isClsIn K C_NoTable = true)
    (kn_NoNumber : PySem.W.subIn K (.type "NoneType") (.ref C_NoNumber) = some false)
    (ic_NoNumber : PySem.W.isClsIn K C_NoNumber = true)
    (kn_NoPerson : PySem.W.subIn K (.type "NoneType") (.ref C_NoPerson) = some false)
    (ic_NoPerson : PySem.W.isClsIn K C_NoPerson = true)
    (kn_TooMany : PySem.W.subIn K (.type "NoneType") (.ref C_TooMany) = some false)
    (ic_TooMany : PySem.W.isClsIn K C_TooMany = true)
    (bF : PySem.W.subIn K (.ref C_FolkError) (.type "BaseException") = some true)
    (hn : PySem.W.specialIn K (.builtin "object.__class__") "__get__" = some (some (.builtin "getset_descriptor.__get__")))
    (ht : PySem.W.takesIn K (.builtin "object.__class__") = some true)
    (tp : PySem.W.nsIn K cStatics "thirdparty.any" = some none)
    (sg : PySem.W.nsIn K mainGlobals "super" = some none)
    (htop : (l.prog.main.scope.names.lookup ("super" : Str)).isSome = false)
    (lc_NoPerson : K.lookup C_NoPerson = some (excClassObj nm_NoPerson q_NoPerson C_NoPerson N_NoPerson bs_NoPerson bm_NoPerson true sn_NoPerson sub_NoPerson ab_NoPerson col_NoPerson dd_NoPerson k0_NoPerson k1_NoPerson k2_NoPerson k3_NoPerson k5_NoPerson "ValueError.__new__"))
    (rv_NoPerson : PySem.HandSPX.refsVE bm_NoPerson = true)
    (sa_NoPerson : PySem.W.findIn K (.ref C_NoPerson) "__setattr__" = some (some (.builtin "object.__setattr__")))
    (no_NoPerson : PySem.W.findIn K (.ref C_NoPerson) "person" = some none)
    (ini_NoPerson : PySem.W.findIn K (.ref C_NoPerson) "__init__" = some (some (.ref fI_NoPerson)))
    (tI_NoPerson : PySem.W.typeIn K (.ref fI_NoPerson) = some (.type "function"))
    (sup_NoPerson : PySem.W.ks_superIn K C_NoPerson C_NoPerson "__init__" = some (some (.builtin "ValueError.__init__")))
    (ss_NoPerson : PySem.W.mroIn K C_NoPerson (.ref C_NoPerson) = some true)
    (lf_NoPerson : K.lookup fI_NoPerson = some ⟨oc_NoPerson, od_NoPerson, .func (PySem.W.ksFn "__init__" "NoPerson.__init__" (defArgs si_NoPerson) (defBody si_NoPerson) (defScope si_NoPerson) .none kV_NoPerson dc_NoPerson pm_NoPerson an_NoPerson (.ref cda_NoPerson) ct_NoPerson cc_NoPerson), osl_NoPerson⟩)
    (ci_NoPerson : PySem.W.codeIn K (.ref cda_NoPerson) "NoPerson.__init__" = true)
    (la_NoPerson : K.lookup cda_NoPerson = some ⟨ccl_NoPerson, cdd_NoPerson, .fields vs_NoPerson, ccs_NoPerson⟩)
    (vx_NoPerson : vs_NoPerson[2]? = some (.str file_NoPerson tf_NoPerson))
    (fl_NoPerson : ((l.prog.main.file : Str) == file_NoPerson) = true)
    (lk_NoPerson : K.lookup cc_NoPerson = some ⟨cl_NoPerson, cld_NoPerson, .cell (some (.ref C_NoPerson)), csl_NoPerson⟩)
    (lc_TooMany : K.lookup C_TooMany = some (excClassObj nm_TooMany q_TooMany C_TooMany N_TooMany bs_TooMany bm_TooMany true sn_TooMany sub_TooMany ab_TooMany col_TooMany dd_TooMany k0_TooMany k1_TooMany k2_TooMany k3_TooMany k5_TooMany "ValueError.__new__"))
    (rv_TooMany : PySem.HandSPX.refsVE bm_TooMany = true)
    (sa_TooMany : PySem.W.findIn K (.ref C_TooMany) "__setattr__" = some (some (.builtin "object.__setattr__")))
    (no_TooMany : PySem.W.findIn K (.ref C_TooMany) "most" = some none)
    (ini_TooMany : PySem.W.findIn K (.ref C_TooMany) "__init__" = some (some (.ref fI_TooMany)))
    (tI_TooMany : PySem.W.typeIn K (.ref fI_TooMany) = some (.type "function"))
    (sup_TooMany : PySem.W.ks_superIn K C_TooMany C_TooMany "__init__" = some (some (.builtin "ValueError.__init__")))
    (ss_TooMany : PySem.W.mroIn K C_TooMany (.ref C_TooMany) = some true)
    (lf_TooMany : K.lookup fI_TooMany = some ⟨oc_TooMany, od_TooMany, .func (PySem.W.ksFn "__init__" "TooMany.__init__" (defArgs si_TooMany) (defBody si_TooMany) (defScope si_TooMany) .none kV_TooMany dc_TooMany pm_TooMany an_TooMany (.ref cda_TooMany) ct_TooMany cc_TooMany), osl_TooMany⟩)
    (ci_TooMany : PySem.W.codeIn K (.ref cda_TooMany) "TooMany.__init__" = true)
    (la_TooMany : K.lookup cda_TooMany = some ⟨ccl_TooMany, cdd_TooMany, .fields vs_TooMany, ccs_TooMany⟩)
    (vx_TooMany : vs_TooMany[2]? = some (.str file_TooMany tf_TooMany))
    (fl_TooMany : ((l.prog.main.file : Str) == file_TooMany) = true)
    (lk_TooMany : K.lookup cc_TooMany = some ⟨cl_TooMany, cld_TooMany, .cell (some (.ref C_TooMany)), csl_TooMany⟩)
    (a_is_whole : PySem.W.nsIn K mainGlobals "is_whole" = some (some (.ref f_is_whole)))
    (l_is_whole : K.lookup f_is_whole = some ⟨oc_is_whole, od_is_whole, .func (PySem.W.fnOf "is_whole" "is_whole" (defArgs s_is_whole) (defBody s_is_whole) (defScope s_is_whole) .none kV_is_whole dc_is_whole pm_is_whole an_is_whole cd_is_whole ct_is_whole), sl_is_whole⟩)
    (cc_is_whole : PySem.W.codeIn K cd_is_whole "is_whole" = true)
    (ke_is_whole : PySem.W.keepIn K (.ref f_is_whole) = true)
    (a_is_whole_in : PySem.W.nsIn K mainGlobals "is_whole_in" = some (some (.ref f_is_whole_in)))
    (l_is_whole_in : K.lookup f_is_whole_in = some ⟨oc_is_whole_in, od_is_whole_in, .func (PySem.W.fnOf "is_whole_in" "is_whole_in" (defArgs s_is_whole_in) (defBody s_is_whole_in) (defScope s_is_whole_in) .none kV_is_whole_in dc_is_whole_in pm_is_whole_in an_is_whole_in cd_is_whole_in ct_is_whole_in), sl_is_whole_in⟩)
    (cc_is_whole_in : PySem.W.codeIn K cd_is_whole_in "is_whole_in" = true)
    (ke_is_whole_in : PySem.W.keepIn K (.ref f_is_whole_in) = true)
    (a_is_tuple_of : PySem.W.nsIn K mainGlobals "is_tuple_of" = some (some (.ref f_is_tuple_of)))
    (l_is_tuple_of : K.lookup f_is_tuple_of = some ⟨oc_is_tuple_of, od_is_tuple_of, .func (PySem.W.fnOf "is_tuple_of" "is_tuple_of" (defArgs s_is_tuple_of) (defBody s_is_tuple_of) (defScope s_is_tuple_of) .none kV_is_tuple_of dc_is_tuple_of pm_is_tuple_of an_is_tuple_of cd_is_tuple_of ct_is_tuple_of), sl_is_tuple_of⟩)
    (cc_is_tuple_of : PySem.W.codeIn K cd_is_tuple_of "is_tuple_of" = true)
    (ke_is_tuple_of : PySem.W.keepIn K (.ref f_is_tuple_of) = true)
    (a_is_way : PySem.W.nsIn K mainGlobals "is_way" = some (some (.ref f_is_way)))
    (l_is_way : K.lookup f_is_way = some ⟨oc_is_way, od_is_way, .func (PySem.W.fnOf "is_way" "is_way" (defArgs s_is_way) (defBody s_is_way) (defScope s_is_way) .none kV_is_way dc_is_way pm_is_way an_is_way cd_is_way ct_is_way), sl_is_way⟩)
    (cc_is_way : PySem.W.codeIn K cd_is_way "is_way" = true)
    (ke_is_way : PySem.W.keepIn K (.ref f_is_way) = true)
    (a_is_ways : PySem.W.nsIn K mainGlobals "is_ways" = some (some (.ref f_is_ways)))
    (l_is_ways : K.lookup f_is_ways = some ⟨oc_is_ways, od_is_ways, .func (PySem.W.fnOf "is_ways" "is_ways" (defArgs s_is_ways) (defBody s_is_ways) (defScope s_is_ways) .none kV_is_ways dc_is_ways pm_is_ways an_is_ways cd_is_ways ct_is_ways), sl_is_ways⟩)
    (cc_is_ways : PySem.W.codeIn K cd_is_ways "is_ways" = true)
    (ke_is_ways : PySem.W.keepIn K (.ref f_is_ways) = true)
    (a_is_persons : PySem.W.nsIn K mainGlobals "is_persons" = some (some (.ref f_is_persons)))
    (l_is_persons : K.lookup f_is_persons = some ⟨oc_is_persons, od_is_persons, .func (PySem.W.fnOf "is_persons" "is_persons" (defArgs s_is_persons) (defBody s_is_persons) (defScope s_is_persons) .none kV_is_persons dc_is_persons pm_is_persons an_is_persons cd_is_persons ct_is_persons), sl_is_persons⟩)
    (cc_is_persons : PySem.W.codeIn K cd_is_persons "is_persons" = true)
    (ke_is_persons : PySem.W.keepIn K (.ref f_is_persons) = true)
    (a_is_posts : PySem.W.nsIn K mainGlobals "is_posts" = some (some (.ref f_is_posts)))
    (l_is_posts : K.lookup f_is_posts = some ⟨oc_is_posts, od_is_posts, .func (PySem.W.fnOf "is_posts" "is_posts" (defArgs s_is_posts) (defBody s_is_posts) (defScope s_is_posts) .none kV_is_posts dc_is_posts pm_is_posts an_is_posts cd_is_posts ct_is_posts), sl_is_posts⟩)
    (cc_is_posts : PySem.W.codeIn K cd_is_posts "is_posts" = true)
    (ke_is_posts : PySem.W.keepIn K (.ref f_is_posts) = true)
    (a_yard_wrong : PySem.W.nsIn K mainGlobals "yard_wrong" = some (some (.ref f_yard_wrong)))
    (l_yard_wrong : K.lookup f_yard_wrong = some ⟨oc_yard_wrong, od_yard_wrong, .func (PySem.W.fnOf "yard_wrong" "yard_wrong" (defArgs s_yard_wrong) (defBody s_yard_wrong) (defScope s_yard_wrong) .none kV_yard_wrong dc_yard_wrong pm_yard_wrong an_yard_wrong cd_yard_wrong ct_yard_wrong), sl_yard_wrong⟩)
    (cc_yard_wrong : PySem.W.codeIn K cd_yard_wrong "yard_wrong" = true)
    (ke_yard_wrong : PySem.W.keepIn K (.ref f_yard_wrong) = true)
    (a__law_mixed : PySem.W.nsIn K mainGlobals "_law_mixed" = some (some (.ref f__law_mixed)))
    (l__law_mixed : K.lookup f__law_mixed = some ⟨oc__law_mixed, od__law_mixed, .func (PySem.W.fnOf "_law_mixed" "_law_mixed" (defArgs s__law_mixed) (defBody s__law_mixed) (defScope s__law_mixed) .none kV__law_mixed dc__law_mixed pm__law_mixed an__law_mixed cd__law_mixed ct__law_mixed), sl__law_mixed⟩)
    (cc__law_mixed : PySem.W.codeIn K cd__law_mixed "_law_mixed" = true)
    (ke__law_mixed : PySem.W.keepIn K (.ref f__law_mixed) = true)
    (a__law_pile : PySem.W.nsIn K mainGlobals "_law_pile" = some (some (.ref f__law_pile)))
    (l__law_pile : K.lookup f__law_pile = some ⟨oc__law_pile, od__law_pile, .func (PySem.W.fnOf "_law_pile" "_law_pile" (defArgs s__law_pile) (defBody s__law_pile) (defScope s__law_pile) .none kV__law_pile dc__law_pile pm__law_pile an__law_pile cd__law_pile ct__law_pile), sl__law_pile⟩)
    (cc__law_pile : PySem.W.codeIn K cd__law_pile "_law_pile" = true)
    (ke__law_pile : PySem.W.keepIn K (.ref f__law_pile) = true)
    (a__law_take : PySem.W.nsIn K mainGlobals "_law_take" = some (some (.ref f__law_take)))
    (l__law_take : K.lookup f__law_take = some ⟨oc__law_take, od__law_take, .func (PySem.W.fnOf "_law_take" "_law_take" (defArgs s__law_take) (defBody s__law_take) (defScope s__law_take) .none kV__law_take dc__law_take pm__law_take an__law_take cd__law_take ct__law_take), sl__law_take⟩)
    (cc__law_take : PySem.W.codeIn K cd__law_take "_law_take" = true)
    (ke__law_take : PySem.W.keepIn K (.ref f__law_take) = true)
    (a__law_great : PySem.W.nsIn K mainGlobals "_law_great" = some (some (.ref f__law_great)))
    (l__law_great : K.lookup f__law_great = some ⟨oc__law_great, od__law_great, .func (PySem.W.fnOf "_law_great" "_law_great" (defArgs s__law_great) (defBody s__law_great) (defScope s__law_great) .none kV__law_great dc__law_great pm__law_great an__law_great cd__law_great ct__law_great), sl__law_great⟩)
    (cc__law_great : PySem.W.codeIn K cd__law_great "_law_great" = true)
    (ke__law_great : PySem.W.keepIn K (.ref f__law_great) = true)
    (a__law_kind : PySem.W.nsIn K mainGlobals "_law_kind" = some (some (.ref f__law_kind)))
    (l__law_kind : K.lookup f__law_kind = some ⟨oc__law_kind, od__law_kind, .func (PySem.W.fnOf "_law_kind" "_law_kind" (defArgs s__law_kind) (defBody s__law_kind) (defScope s__law_kind) .none kV__law_kind dc__law_kind pm__law_kind an__law_kind cd__law_kind ct__law_kind), sl__law_kind⟩)
    (cc__law_kind : PySem.W.codeIn K cd__law_kind "_law_kind" = true)
    (ke__law_kind : PySem.W.keepIn K (.ref f__law_kind) = true)
    (a__law_bare : PySem.W.nsIn K mainGlobals "_law_bare" = some (some (.ref f__law_bare)))
    (l__law_bare : K.lookup f__law_bare = some ⟨oc__law_bare, od__law_bare, .func (PySem.W.fnOf "_law_bare" "_law_bare" (defArgs s__law_bare) (defBody s__law_bare) (defScope s__law_bare) .none kV__law_bare dc__law_bare pm__law_bare an__law_bare cd__law_bare ct__law_bare), sl__law_bare⟩)
    (cc__law_bare : PySem.W.codeIn K cd__law_bare "_law_bare" = true)
    (ke__law_bare : PySem.W.keepIn K (.ref f__law_bare) = true)
    (a__law_all : PySem.W.nsIn K mainGlobals "_law_all" = some (some (.ref f__law_all)))
    (l__law_all : K.lookup f__law_all = some ⟨oc__law_all, od__law_all, .func (PySem.W.fnOf "_law_all" "_law_all" (defArgs s__law_all) (defBody s__law_all) (defScope s__law_all) .none kV__law_all dc__law_all pm__law_all an__law_all cd__law_all ct__law_all), sl__law_all⟩)
    (cc__law_all : PySem.W.codeIn K cd__law_all "_law_all" = true)
    (ke__law_all : PySem.W.keepIn K (.ref f__law_all) = true)
    (a_law : PySem.W.nsIn K mainGlobals "law" = some (some (.ref f_law)))
    (l_law : K.lookup f_law = some ⟨oc_law, od_law, .func (PySem.W.fnOf "law" "law" (defArgs s_law) (defBody s_law) (defScope s_law) .none kV_law dc_law pm_law an_law cd_law ct_law), sl_law⟩)
    (cc_law : PySem.W.codeIn K cd_law "law" = true)
    (ke_law : PySem.W.keepIn K (.ref f_law) = true)
    (zz_ValueError : PySem.W.nsIn K mainGlobals "ValueError" = some none)
    (zz_abs : PySem.W.nsIn K mainGlobals "abs" = some none)
    (zz_all : PySem.W.nsIn K mainGlobals "all" = some none)
    (zz_bool : PySem.W.nsIn K mainGlobals "bool" = some none)
    (zz_int : PySem.W.nsIn K mainGlobals "int" = some none)
    (zz_isinstance : PySem.W.nsIn K mainGlobals "isinstance" = some none)
    (zz_len : PySem.W.nsIn K mainGlobals "len" = some none)
    (zz_range : PySem.W.nsIn K mainGlobals "range" = some none)
    (zz_str : PySem.W.nsIn K mainGlobals "str" = some none)
    (zz_tuple : PySem.W.nsIn K mainGlobals "tuple" = some none)
    (zz_zip : PySem.W.nsIn K mainGlobals "zip" = some none)
    (v_LEAST_PERSONS : PySem.W.nsIn K mainGlobals "LEAST_PERSONS" = some (some (.int 2 t_LEAST_PERSONS)))
    (v_MOST_PERSONS : PySem.W.nsIn K mainGlobals "MOST_PERSONS" = some (some (.int 6 t_MOST_PERSONS)))
    (v_MOST_WAYS : PySem.W.nsIn K mainGlobals "MOST_WAYS" = some (some (.int 3 t_MOST_WAYS))) :
    ∃ fd : FuncData, (∀ (s : Shared) (v : Value), BindsTo s fd ⟨[v], []⟩ [("script", v)]) ∧ ∀ base : Heap, K.In base → base.Ns mainGlobals mg → LawG l.prog w K mg base fa fd "script" (spD K 1 m_law) := by
  have e := hfa.symm.trans (PySem.W.mg_of X G a_law)
  cases e
  have F_is_whole := fun_mk (st := s_is_whole) l_is_whole cc_is_whole ke_is_whole
  have b_is_whole := F_is_whole.binds (ps := ["thing"]) fun _ _ _ _ _ _ us hl => match us, hl with | [_], _ => rfl
  have F_is_whole_in := fun_mk (st := s_is_whole_in) l_is_whole_in cc_is_whole_in ke_is_whole_in
  have b_is_whole_in := F_is_whole_in.binds (ps := ["least", "most", "thing"]) fun _ _ _ _ _ _ us hl => match us, hl with | [_, _, _], _ => rfl
  have F_is_tuple_of := fun_mk (st := s_is_tuple_of) l_is_tuple_of cc_is_tuple_of ke_is_tuple_of
  have b_is_tuple_of := F_is_tuple_of.binds (ps := ["least", "most", "thing"]) fun _ _ _ _ _ _ us hl => match us, hl with | [_, _, _], _ => rfl
  have F_is_way := fun_mk (st := s_is_way) l_is_way cc_is_way ke_is_way
  have b_is_way := F_is_way.binds (ps := ["thing"]) fun _ _ _ _ _ _ us hl => match us, hl with | [_], _ => rfl
  have F_is_ways := fun_mk (st := s_is_ways) l_is_ways cc_is_ways ke_is_ways
  have b_is_ways := F_is_ways.binds (ps := ["thing"]) fun _ _ _ _ _ _ us hl => match us, hl with | [_], _ => rfl
  have F_is_persons := fun_mk (st := s_is_persons) l_is_persons cc_is_persons ke_is_persons
  have b_is_persons := F_is_persons.binds (ps := ["thing"]) fun _ _ _ _ _ _ us hl => match us, hl with | [_], _ => rfl
  have F_is_posts := fun_mk (st := s_is_posts) l_is_posts cc_is_posts ke_is_posts
  have b_is_posts := F_is_posts.binds (ps := ["persons", "thing"]) fun _ _ _ _ _ _ us hl => match us, hl with | [_, _], _ => rfl
  have F_yard_wrong := fun_mk (st := s_yard_wrong) l_yard_wrong cc_yard_wrong ke_yard_wrong
  have b_yard_wrong := F_yard_wrong.binds (ps := ["thing"]) fun _ _ _ _ _ _ us hl => match us, hl with | [_], _ => rfl
  have F__law_mixed := fun_mk (st := s__law_mixed) l__law_mixed cc__law_mixed ke__law_mixed
  have b__law_mixed := F__law_mixed.binds (ps := ["cell", "k"]) fun _ _ _ _ _ _ us hl => match us, hl with | [_, _], _ => rfl
  have F__law_pile := fun_mk (st := s__law_pile) l__law_pile cc__law_pile ke__law_pile
  have b__law_pile := F__law_pile.binds (ps := ["script", "k"]) fun _ _ _ _ _ _ us hl => match us, hl with | [_, _], _ => rfl
  have F__law_take := fun_mk (st := s__law_take) l__law_take cc__law_take ke__law_take
  have b__law_take := F__law_take.binds (ps := ["pile", "many"]) fun _ _ _ _ _ _ us hl => match us, hl with | [_, _], _ => rfl
  have F__law_great := fun_mk (st := s__law_great) l__law_great cc__law_great ke__law_great
  have b__law_great := F__law_great.binds (ps := ["pile"]) fun _ _ _ _ _ _ us hl => match us, hl with | [_], _ => rfl
  have F__law_kind := fun_mk (st := s__law_kind) l__law_kind cc__law_kind ke__law_kind
  have b__law_kind := F__law_kind.binds (ps := ["e"]) fun _ _ _ _ _ _ us hl => match us, hl with | [_], _ => rfl
  have F__law_bare := fun_mk (st := s__law_bare) l__law_bare cc__law_bare ke__law_bare
  have b__law_bare := F__law_bare.binds (ps := ["word"]) fun _ _ _ _ _ _ us hl => match us, hl with | [_], _ => rfl
  have F__law_all := fun_mk (st := s__law_all) l__law_all cc__law_all ke__law_all
  have b__law_all := F__law_all.binds (ps := ["word"]) fun _ _ _ _ _ _ us hl => match us, hl with | [_], _ => rfl
  have F_law := fun_mk (st := s_law) l_law cc_law ke_law
  have b_law := F_law.binds (ps := ["script"]) fun _ _ _ _ _ _ us hl => match us, hl with | [_], _ => rfl
  have isi : IsiOk K CL KS := by
    refine ⟨fun j c hj q => ?_, fun j c k c2 hj hk q q2 => ?_, fun k c2 hk q2 => ?_, fun j c hj q => ?_⟩
    · have hj2 : j = 0 ∨ j = 1 ∨ j = 2 ∨ j = 3 ∨ j = 4 ∨ j = 5 ∨ j = 6 ∨ j = 7 ∨ j = 8 ∨ j = 9 ∨ j = 10 ∨ j = 11 ∨ j = 12 := by simpa [CL] using hj
      rcases hj2 with rfl | rfl | rfl | rfl | rfl | rfl | rfl | rfl | rfl | rfl | rfl | rfl | rfl
      · have ec := cls_u n_FolkError rfl q
        subst ec
        exact ⟨hg_FolkError, hk_FolkError, sb_FolkError, hd_FolkError, ha_FolkError, hn, ht, hm_FolkError⟩
      · have ec := cls_u n_NoYard rfl q
        subst ec
        exact ⟨hg_NoYard, hk_NoYard, sb_NoYard, hd_NoYard, ha_NoYard, hn, ht, hm_NoYard⟩
      · have ec := cls_u n_NoStanding rfl q
        subst ec
        exact ⟨hg_NoStanding, hk_NoStanding, sb_NoStanding, hd_NoStanding, ha_NoStanding, hn, ht, hm_NoStanding⟩
      · have ec := cls_u n_NoLeap rfl q
        subst ec
        exact ⟨hg_NoLeap, hk_NoLeap, sb_NoLeap, hd_NoLeap, ha_NoLeap, hn, ht, hm_NoLeap⟩
      · have ec := cls_u n_NoRow rfl q
        subst ec
        exact ⟨hg_NoRow, hk_NoRow, sb_NoRow, hd_NoRow, ha_NoRow, hn, ht, hm_NoRow⟩
      · have ec := cls_u n_NoVector rfl q
        subst ec
        exact ⟨hg_NoVector, hk_NoVector, sb_NoVector, hd_NoVector, ha_NoVector, hn, ht, hm_NoVector⟩
      · have ec := cls_u n_NoReading rfl q
        subst ec
        exact ⟨hg_NoReading, hk_NoReading, sb_NoReading, hd_NoReading, ha_NoReading, hn, ht, hm_NoReading⟩
      · have ec := cls_u n_NoWishes rfl q
        subst ec
        exact ⟨hg_NoWishes, hk_NoWishes, sb_NoWishes, hd_NoWishes, ha_NoWishes, hn, ht, hm_NoWishes⟩
      · have ec := cls_u n_NoCell rfl q
        subst ec
        exact ⟨hg_NoCell, hk_NoCell, sb_NoCell, hd_NoCell, ha_NoCell, hn, ht, hm_NoCell⟩
      · have ec := cls_u n_NoTable rfl q
        subst ec
        exact ⟨hg_NoTable, hk_NoTable, sb_NoTable, hd_NoTable, ha_NoTable, hn, ht, hm_NoTable⟩
      · have ec := cls_u n_NoNumber rfl q
        subst ec
        exact ⟨hg_NoNumber, hk_NoNumber, sb_NoNumber, hd_NoNumber, ha_NoNumber, hn, ht, hm_NoNumber⟩
      · have ec := cls_u n_NoPerson rfl q
        subst ec
        exact ⟨hg_NoPerson, hk_NoPerson, sb_NoPerson, hd_NoPerson, ha_NoPerson, hn, ht, hm_NoPerson⟩
      · have ec := cls_u n_TooMany rfl q
        subst ec
        exact ⟨hg_TooMany, hk_TooMany, sb_TooMany, hd_TooMany, ha_TooMany, hn, ht, hm_TooMany⟩
    · have hj2 : j = 0 ∨ j = 1 ∨ j = 2 ∨ j = 3 ∨ j = 4 ∨ j = 5 ∨ j = 6 ∨ j = 7 ∨ j = 8 ∨ j = 9 ∨ j = 10 ∨ j = 11 ∨ j = 12 := by simpa [CL] using hj
      rcases hj2 with rfl | rfl | rfl | rfl | rfl | rfl | rfl | rfl | rfl | rfl | rfl | rfl | rfl
      · have ec := cls_u n_FolkError rfl q
        subst ec
        have hk2 : k = 0 ∨ k = 1 ∨ k = 2 ∨ k = 3 ∨ k = 4 ∨ k = 5 ∨ k = 6 ∨ k = 7 ∨ k = 8 ∨ k = 9 ∨ k = 10 ∨ k = 11 ∨ k = 12 := by simpa [KS] using hk
        rcases hk2 with rfl | rfl | rfl | rfl | rfl | rfl | rfl | rfl | rfl | rfl | rfl | rfl | rfl
        · have ed := cls_u n_FolkError rfl q2
          rw [ed]
          exact kit_ref ic_FolkError ty_FolkError kk_FolkError_FolkError kk_FolkError_FolkError
        · have ed := cls_u n_NoYard rfl q2
          rw [ed]
          exact kit_ref ic_NoYard ty_NoYard kk_FolkError_NoYard kk_FolkError_FolkError
        · have ed := cls_u n_NoStanding rfl q2
          rw [ed]
          exact kit_ref ic_NoStanding ty_NoStanding kk_FolkError_NoStanding kk_FolkError_FolkError
        · have ed := cls_u n_NoLeap rfl q2
          rw [ed]
          exact kit_ref ic_NoLeap ty_NoLeap kk_FolkError_NoLeap kk_FolkError_FolkError
        · have ed := cls_u n_NoRow rfl q2
          rw [ed]
          exact kit_ref ic_NoRow ty_NoRow kk_FolkError_NoRow kk_FolkError_FolkError
        · have ed := cls_u n_NoVector rfl q2
          rw [ed]
          exact kit_ref ic_NoVector ty_NoVector kk_FolkError_NoVector kk_FolkError_FolkError
        · have ed := cls_u n_NoReading rfl q2
          rw [ed]
          exact kit_ref ic_NoReading ty_NoReading kk_FolkError_NoReading kk_FolkError_FolkError
        · have ed := cls_u n_NoWishes rfl q2
          rw [ed]
          exact kit_ref ic_NoWishes ty_NoWishes kk_FolkError_NoWishes kk_FolkError_FolkError
        · have ed := cls_u n_NoCell rfl q2
          rw [ed]
          exact kit_ref ic_NoCell ty_NoCell kk_FolkError_NoCell kk_FolkError_FolkError
        · have ed := cls_u n_NoTable rfl q2
          rw [ed]
          exact kit_ref ic_NoTable ty_NoTable kk_FolkError_NoTable kk_FolkError_FolkError
        · have ed := cls_u n_NoNumber rfl q2
          rw [ed]
          exact kit_ref ic_NoNumber ty_NoNumber kk_FolkError_NoNumber kk_FolkError_FolkError
        · have ed := cls_u n_NoPerson rfl q2
          rw [ed]
          exact kit_ref ic_NoPerson ty_NoPerson kk_FolkError_NoPerson kk_FolkError_FolkError
        · have ed := cls_u n_TooMany rfl q2
          rw [ed]
          exact kit_ref ic_TooMany ty_TooMany kk_FolkError_TooMany kk_FolkError_FolkError
      · have ec := cls_u n_NoYard rfl q
        subst ec
        have hk2 : k = 0 ∨ k = 1 ∨ k = 2 ∨ k = 3 ∨ k = 4 ∨ k = 5 ∨ k = 6 ∨ k = 7 ∨ k = 8 ∨ k = 9 ∨ k = 10 ∨ k = 11 ∨ k = 12 := by simpa [KS] using hk
        rcases hk2 with rfl | rfl | rfl | rfl | rfl | rfl | rfl | rfl | rfl | rfl | rfl | rfl | rfl
        · have ed := cls_u n_FolkError rfl q2
          rw [ed]
          exact kit_ref ic_FolkError ty_FolkError kk_NoYard_FolkError kk_NoYard_NoYard
        · have ed := cls_u n_NoYard rfl q2
          rw [ed]
          exact kit_ref ic_NoYard ty_NoYard kk_NoYard_NoYard kk_NoYard_NoYard
        · have ed := cls_u n_NoStanding rfl q2
          rw [ed]
          exact kit_ref ic_NoStanding ty_NoStanding kk_NoYard_NoStanding kk_NoYard_NoYard
        · have ed := cls_u n_NoLeap rfl q2
          rw [ed]
          exact kit_ref ic_NoLeap ty_NoLeap kk_NoYard_NoLeap kk_NoYard_NoYard
        · have ed := cls_u n_NoRow rfl q2
          rw [ed]
          exact kit_ref ic_NoRow ty_NoRow kk_NoYard_NoRow kk_NoYard_NoYard
        · have ed := cls_u n_NoVector rfl q2
          rw [ed]
          exact kit_ref ic_NoVector ty_NoVector kk_NoYard_NoVector kk_NoYard_NoYard
        · have ed := cls_u n_NoReading rfl q2
          rw [ed]
          exact kit_ref ic_NoReading ty_NoReading kk_NoYard_NoReading kk_NoYard_NoYard
        · have ed := cls_u n_NoWishes rfl q2
          rw [ed]
          exact kit_ref ic_NoWishes ty_NoWishes kk_NoYard_NoWishes kk_NoYard_NoYard
        · have ed := cls_u n_NoCell rfl q2
          rw [ed]
          exact kit_ref ic_NoCell ty_NoCell kk_NoYard_NoCell kk_NoYard_NoYard
        · have ed := cls_u n_NoTable rfl q2
          rw [ed]
          exact kit_ref ic_NoTable ty_NoTable kk_NoYard_NoTable kk_NoYard_NoYard
        · have ed := cls_u n_NoNumber rfl q2
          rw [ed]
          exact kit_ref ic_NoNumber ty_NoNumber kk_NoYard_NoNumber kk_NoYard_NoYard
        · have ed := cls_u n_NoPerson rfl q2
          rw [ed]
          exact kit_ref ic_NoPerson ty_NoPerson kk_NoYard_NoPerson kk_NoYard_NoYard
        · have ed := cls_u n_TooMany rfl q2
          rw [ed]
          exact kit_ref ic_TooMany ty_TooMany kk_NoYard_TooMany kk_NoYard_NoYard
      · have ec := cls_u n_NoStanding rfl q
        subst ec
        have hk2 : k = 0 ∨ k = 1 ∨ k = 2 ∨ k = 3 ∨ k = 4 ∨ k = 5 ∨ k = 6 ∨ k = 7 ∨ k = 8 ∨ k = 9 ∨ k = 10 ∨ k = 11 ∨ k = 12 := by simpa [KS] using hk
        rcases hk2 with rfl | rfl | rfl | rfl | rfl | rfl | rfl | rfl | rfl | rfl | rfl | rfl | rfl
        · have ed := cls_u n_FolkError rfl q2
          rw [ed]
          exact kit_ref ic_FolkError ty_FolkError kk_NoStanding_FolkError kk_NoStanding_NoStanding
        · have ed := cls_u n_NoYard rfl q2
          rw [ed]
          exact kit_ref ic_NoYard ty_NoYard kk_NoStanding_NoYard kk_NoStanding_NoStanding
        · have ed := cls_u n_NoStanding rfl q2
          rw [ed]
          exact kit_ref ic_NoStanding ty_NoStanding kk_NoStanding_NoStanding kk_NoStanding_NoStanding
        · have ed := cls_u n_NoLeap rfl q2
          rw [ed]
          exact kit_ref ic_NoLeap ty_NoLeap kk_NoStanding_NoLeap kk_NoStanding_NoStanding
        · have ed := cls_u n_NoRow rfl q2
          rw [ed]
          exact kit_ref ic_NoRow ty_NoRow kk_NoStanding_NoRow kk_NoStanding_NoStanding
        · have ed := cls_u n_NoVector rfl q2
          rw [ed]
          exact kit_ref ic_NoVector ty_NoVector kk_NoStanding_NoVector kk_NoStanding_NoStanding
        · have ed := cls_u n_NoReading rfl q2
          rw [ed]
          exact kit_ref ic_NoReading ty_NoReading kk_NoStanding_NoReading kk_NoStanding_NoStanding
        · have ed := cls_u n_NoWishes rfl q2
          rw [ed]
          exact kit_ref ic_NoWishes ty_NoWishes kk_NoStanding_NoWishes kk_NoStanding_NoStanding
        · have ed := cls_u n_NoCell rfl q2
          rw [ed]
          exact kit_ref ic_NoCell ty_NoCell kk_NoStanding_NoCell kk_NoStanding_NoStanding
        · have ed := cls_u n_NoTable rfl q2
          rw [ed]
          exact kit_ref ic_NoTable ty_NoTable kk_NoStanding_NoTable kk_NoStanding_NoStanding
        · have ed := cls_u n_NoNumber rfl q2
          rw [ed]
          exact kit_ref ic_NoNumber ty_NoNumber kk_NoStanding_NoNumber kk_NoStanding_NoStanding
        · have ed := cls_u n_NoPerson rfl q2
          rw [ed]
          exact kit_ref ic_NoPerson ty_NoPerson kk_NoStanding_NoPerson kk_NoStanding_NoStanding
        · have ed := cls_u n_TooMany rfl q2
          rw [ed]
          exact kit_ref ic_TooMany ty_TooMany kk_NoStanding_TooMany kk_NoStanding_NoStanding
      · have ec := cls_u n_NoLeap rfl q
        subst ec
        have hk2 : k = 0 ∨ k = 1 ∨ k = 2 ∨ k = 3 ∨ k = 4 ∨ k = 5 ∨ k = 6 ∨ k = 7 ∨ k = 8 ∨ k = 9 ∨ k = 10 ∨ k = 11 ∨ k = 12 := by simpa [KS] using hk
        rcases hk2 with rfl | rfl | rfl | rfl | rfl | rfl | rfl | rfl | rfl | rfl | rfl | rfl | rfl
        · have ed := cls_u n_FolkError rfl q2
          rw [ed]
          exact kit_ref ic_FolkError ty_FolkError kk_NoLeap_FolkError kk_NoLeap_NoLeap
        · have ed := cls_u n_NoYard rfl q2
          rw [ed]
          exact kit_ref ic_NoYard ty_NoYard kk_NoLeap_NoYard kk_NoLeap_NoLeap
        · have ed := cls_u n_NoStanding rfl q2
          rw [ed]
          exact kit_ref ic_NoStanding ty_NoStanding kk_NoLeap_NoStanding kk_NoLeap_NoLeap
        · have ed := cls_u n_NoLeap rfl q2
          rw [ed]
          exact kit_ref ic_NoLeap ty_NoLeap kk_NoLeap_NoLeap kk_NoLeap_NoLeap
        · have ed := cls_u n_NoRow rfl q2
          rw [ed]
          exact kit_ref ic_NoRow ty_NoRow kk_NoLeap_NoRow kk_NoLeap_NoLeap
        · have ed := cls_u n_NoVector rfl q2
          rw [ed]
          exact kit_ref ic_NoVector ty_NoVector kk_NoLeap_NoVector kk_NoLeap_NoLeap
        · have ed := cls_u n_NoReading rfl q2
          rw [ed]
          exact kit_ref ic_NoReading ty_NoReading kk_NoLeap_NoReading kk_NoLeap_NoLeap
        · have ed := cls_u n_NoWishes rfl q2
          rw [ed]
          exact kit_ref ic_NoWishes ty_NoWishes kk_NoLeap_NoWishes kk_NoLeap_NoLeap
        · have ed := cls_u n_NoCell rfl q2
          rw [ed]
          exact kit_ref ic_NoCell ty_NoCell kk_NoLeap_NoCell kk_NoLeap_NoLeap
        · have ed := cls_u n_NoTable rfl q2
          rw [ed]
          exact kit_ref ic_NoTable ty_NoTable kk_NoLeap_NoTable kk_NoLeap_NoLeap
        · have ed := cls_u n_NoNumber rfl q2
          rw [ed]
          exact kit_ref ic_NoNumber ty_NoNumber kk_NoLeap_NoNumber kk_NoLeap_NoLeap
        · have ed := cls_u n_NoPerson rfl q2
          rw [ed]
          exact kit_ref ic_NoPerson ty_NoPerson kk_NoLeap_NoPerson kk_NoLeap_NoLeap
        · have ed := cls_u n_TooMany rfl q2
          rw [ed]
          exact kit_ref ic_TooMany ty_TooMany kk_NoLeap_TooMany kk_NoLeap_NoLeap
      · have ec := cls_u n_NoRow rfl q
        subst ec
        have hk2 : k = 0 ∨ k = 1 ∨ k = 2 ∨ k = 3 ∨ k = 4 ∨ k = 5 ∨ k = 6 ∨ k = 7 ∨ k = 8 ∨ k = 9 ∨ k = 10 ∨ k = 11 ∨ k = 12 := by simpa [KS] using hk
        rcases hk2 with rfl | rfl | rfl | rfl | rfl | rfl | rfl | rfl | rfl | rfl | rfl | rfl | rfl
        · have ed := cls_u n_FolkError rfl q2
          rw [ed]
          exact kit_ref ic_FolkError ty_FolkError kk_NoRow_FolkError kk_NoRow_NoRow
        · have ed := cls_u n_NoYard rfl q2
          rw [ed]
          exact kit_ref ic_NoYard ty_NoYard kk_NoRow_NoYard kk_NoRow_NoRow
        · have ed := cls_u n_NoStanding rfl q2
          rw [ed]
          exact kit_ref ic_NoStanding ty_NoStanding kk_NoRow_NoStanding kk_NoRow_NoRow
        · have ed := cls_u n_NoLeap rfl q2
          rw [ed]
          exact kit_ref ic_NoLeap ty_NoLeap kk_NoRow_NoLeap kk_NoRow_NoRow
        · have ed := cls_u n_NoRow rfl q2
          rw [ed]
          exact kit_ref ic_NoRow ty_NoRow kk_NoRow_NoRow kk_NoRow_NoRow
        · have ed := cls_u n_NoVector rfl q2
          rw [ed]
          exact kit_ref ic_NoVector ty_NoVector kk_NoRow_NoVector kk_NoRow_NoRow
        · have ed := cls_u n_NoReading rfl q2
          rw [ed]
          exact kit_ref ic_NoReading ty_NoReading kk_NoRow_NoReading kk_NoRow_NoRow
        · have ed := cls_u n_NoWishes rfl q2
          rw [ed]
          exact kit_ref ic_NoWishes ty_NoWishes kk_NoRow_NoWishes kk_NoRow_NoRow
        · have ed := cls_u n_NoCell rfl q2
          rw [ed]
          exact kit_ref ic_NoCell ty_NoCell kk_NoRow_NoCell kk_NoRow_NoRow
        · have ed := cls_u n_NoTable rfl q2
          rw [ed]
          exact kit_ref ic_NoTable ty_NoTable kk_NoRow_NoTable kk_NoRow_NoRow
        · have ed := cls_u n_NoNumber rfl q2
          rw [ed]
          exact kit_ref ic_NoNumber ty_NoNumber kk_NoRow_NoNumber kk_NoRow_NoRow
        · have ed := cls_u n_NoPerson rfl q2
          rw [ed]
          exact kit_ref ic_NoPerson ty_NoPerson kk_NoRow_NoPerson kk_NoRow_NoRow
        · have ed := cls_u n_TooMany rfl q2
          rw [ed]
          exact kit_ref ic_TooMany ty_TooMany kk_NoRow_TooMany kk_NoRow_NoRow
      · have ec := cls_u n_NoVector rfl q
        subst ec
        have hk2 : k = 0 ∨ k = 1 ∨ k = 2 ∨ k = 3 ∨ k = 4 ∨ k = 5 ∨ k = 6 ∨ k = 7 ∨ k = 8 ∨ k = 9 ∨ k = 10 ∨ k = 11 ∨ k = 12 := by simpa [KS] using hk
        rcases hk2 with rfl | rfl | rfl | rfl | rfl | rfl | rfl | rfl | rfl | rfl | rfl | rfl | rfl
        · have ed := cls_u n_FolkError rfl q2
          rw [ed]
          exact kit_ref ic_FolkError ty_FolkError kk_NoVector_FolkError kk_NoVector_NoVector
        · have ed := cls_u n_NoYard rfl q2
          rw [ed]
          exact kit_ref ic_NoYard ty_NoYard kk_NoVector_NoYard kk_NoVector_NoVector
        · have ed := cls_u n_NoStanding rfl q2
          rw [ed]
          exact kit_ref ic_NoStanding ty_NoStanding kk_NoVector_NoStanding kk_NoVector_NoVector
        · have ed := cls_u n_NoLeap rfl q2
          rw [ed]
          exact kit_ref ic_NoLeap ty_NoLeap kk_NoVector_NoLeap kk_NoVector_NoVector
        · have ed := cls_u n_NoRow rfl q2
          rw [ed]
          exact kit_ref ic_NoRow ty_NoRow kk_NoVector_NoRow kk_NoVector_NoVector
        · have ed := cls_u n_NoVector rfl q2
          rw [ed]
          exact kit_ref ic_NoVector ty_NoVector kk_NoVector_NoVector kk_NoVector_NoVector
        · have ed := cls_u n_NoReading rfl q2
          rw [ed]
          exact kit_ref ic_NoReading ty_NoReading kk_NoVector_NoReading kk_NoVector_NoVector
        · have ed := cls_u n_NoWishes rfl q2
          rw [ed]
          exact kit_ref ic_NoWishes ty_NoWishes kk_NoVector_NoWishes kk_NoVector_NoVector
        · have ed := cls_u n_NoCell rfl q2
          rw [ed]
          exact kit_ref ic_NoCell ty_NoCell kk_NoVector_NoCell kk_NoVector_NoVector
        · have ed := cls_u n_NoTable rfl q2
          rw [ed]
          exact kit_ref ic_NoTable ty_NoTable kk_NoVector_NoTable kk_NoVector_NoVector
        · have ed := cls_u n_NoNumber rfl q2
          rw [ed]
          exact kit_ref ic_NoNumber ty_NoNumber kk_NoVector_NoNumber kk_NoVector_NoVector
        · have ed := cls_u n_NoPerson rfl q2
          rw [ed]
          exact kit_ref ic_NoPerson ty_NoPerson kk_NoVector_NoPerson kk_NoVector_NoVector
        · have ed := cls_u n_TooMany rfl q2
          rw [ed]
          exact kit_ref ic_TooMany ty_TooMany kk_NoVector_TooMany kk_NoVector_NoVector
      · have ec := cls_u n_NoReading rfl q
        subst ec
        have hk2 : k = 0 ∨ k = 1 ∨ k = 2 ∨ k = 3 ∨ k = 4 ∨ k = 5 ∨ k = 6 ∨ k = 7 ∨ k = 8 ∨ k = 9 ∨ k = 10 ∨ k = 11 ∨ k = 12 := by simpa [KS] using hk
        rcases hk2 with rfl | rfl | rfl | rfl | rfl | rfl | rfl | rfl | rfl | rfl | rfl | rfl | rfl
        · have ed := cls_u n_FolkError rfl q2
          rw [ed]
          exact kit_ref ic_FolkError ty_FolkError kk_NoReading_FolkError kk_NoReading_NoReading
        · have ed := cls_u n_NoYard rfl q2
          rw [ed]
          exact kit_ref ic_NoYard ty_NoYard kk_NoReading_NoYard kk_NoReading_NoReading
        · have ed := cls_u n_NoStanding rfl q2
          rw [ed]
          exact kit_ref ic_NoStanding ty_NoStanding kk_NoReading_NoStanding kk_NoReading_NoReading
        · have ed := cls_u n_NoLeap rfl q2
          rw [ed]
          exact kit_ref ic_NoLeap ty_NoLeap kk_NoReading_NoLeap kk_NoReading_NoReading
        · have ed := cls_u n_NoRow rfl q2
          rw [ed]
          exact kit_ref ic_NoRow ty_NoRow kk_NoReading_NoRow kk_NoReading_NoReading
        · have ed := cls_u n_NoVector rfl q2
          rw [ed]
          exact kit_ref ic_NoVector ty_NoVector kk_NoReading_NoVector kk_NoReading_NoReading
        · have ed := cls_u n_NoReading rfl q2
          rw [ed]
          exact kit_ref ic_NoReading ty_NoReading kk_NoReading_NoReading kk_NoReading_NoReading
        · have ed := cls_u n_NoWishes rfl q2
          rw [ed]
          exact kit_ref ic_NoWishes ty_NoWishes kk_NoReading_NoWishes kk_NoReading_NoReading
        · have ed := cls_u n_NoCell rfl q2
          rw [ed]
          exact kit_ref ic_NoCell ty_NoCell kk_NoReading_NoCell kk_NoReading_NoReading
        · have ed := cls_u n_NoTable rfl q2
          rw [ed]
          exact kit_ref ic_NoTable ty_NoTable kk_NoReading_NoTable kk_NoReading_NoReading
        · have ed := cls_u n_NoNumber rfl q2
          rw [ed]
          exact kit_ref ic_NoNumber ty_NoNumber kk_NoReading_NoNumber kk_NoReading_NoReading
        · have ed := cls_u n_NoPerson rfl q2
          rw [ed]
          exact kit_ref ic_NoPerson ty_NoPerson kk_NoReading_NoPerson kk_NoReading_NoReading
        · have ed := cls_u n_TooMany rfl q2
          rw [ed]
          exact kit_ref ic_TooMany ty_TooMany kk_NoReading_TooMany kk_NoReading_NoReading
      · have ec := cls_u n_NoWishes rfl q
        subst ec
        have hk2 : k = 0 ∨ k = 1 ∨ k = 2 ∨ k = 3 ∨ k = 4 ∨ k = 5 ∨ k = 6 ∨ k = 7 ∨ k = 8 ∨ k = 9 ∨ k = 10 ∨ k = 11 ∨ k = 12 := by simpa [KS] using hk
        rcases hk2 with rfl | rfl | rfl | rfl | rfl | rfl | rfl | rfl | rfl | rfl | rfl | rfl | rfl
        · have ed := cls_u n_FolkError rfl q2
          rw [ed]
          exact kit_ref ic_FolkError ty_FolkError kk_NoWishes_FolkError kk_NoWishes_NoWishes
        · have ed := cls_u n_NoYard rfl q2
          rw [ed]
          exact kit_ref ic_NoYard ty_NoYard kk_NoWishes_NoYard kk_NoWishes_NoWishes
        · have ed := cls_u n_NoStanding rfl q2
          rw [ed]
          exact kit_ref ic_NoStanding ty_NoStanding kk_NoWishes_NoStanding kk_NoWishes_NoWishes
        · have ed := cls_u n_NoLeap rfl q2
          rw [ed]
          exact kit_ref ic_NoLeap ty_NoLeap kk_NoWishes_NoLeap kk_NoWishes_NoWishes
        · have ed := cls_u n_NoRow rfl q2
          rw [ed]
          exact kit_ref ic_NoRow ty_NoRow kk_NoWishes_NoRow kk_NoWishes_NoWishes
        · have ed := cls_u n_NoVector rfl q2
          rw [ed]
          exact kit_ref ic_NoVector ty_NoVector kk_NoWishes_NoVector kk_NoWishes_NoWishes
        · have ed := cls_u n_NoReading rfl q2
          rw [ed]
          exact kit_ref ic_NoReading ty_NoReading kk_NoWishes_NoReading kk_NoWishes_NoWishes
        · have ed := cls_u n_NoWishes rfl q2
          rw [ed]
          exact kit_ref ic_NoWishes ty_NoWishes kk_NoWishes_NoWishes kk_NoWishes_NoWishes
        · have ed := cls_u n_NoCell rfl q2
          rw [ed]
          exact kit_ref ic_NoCell ty_NoCell kk_NoWishes_NoCell kk_NoWishes_NoWishes
        · have ed := cls_u n_NoTable rfl q2
          rw [ed]
          exact kit_ref ic_NoTable ty_NoTable kk_NoWishes_NoTable kk_NoWishes_NoWishes
        · have ed := cls_u n_NoNumber rfl q2
          rw [ed]
          exact kit_ref ic_NoNumber ty_NoNumber kk_NoWishes_NoNumber kk_NoWishes_NoWishes
        · have ed := cls_u n_NoPerson rfl q2
          rw [ed]
          exact kit_ref ic_NoPerson ty_NoPerson kk_NoWishes_NoPerson kk_NoWishes_NoWishes
        · have ed := cls_u n_TooMany rfl q2
          rw [ed]
          exact kit_ref ic_TooMany ty_TooMany kk_NoWishes_TooMany kk_NoWishes_NoWishes
      · have ec := cls_u n_NoCell rfl q
        subst ec
        have hk2 : k = 0 ∨ k = 1 ∨ k = 2 ∨ k = 3 ∨ k = 4 ∨ k = 5 ∨ k = 6 ∨ k = 7 ∨ k = 8 ∨ k = 9 ∨ k = 10 ∨ k = 11 ∨ k = 12 := by simpa [KS] using hk
        rcases hk2 with rfl | rfl | rfl | rfl | rfl | rfl | rfl | rfl | rfl | rfl | rfl | rfl | rfl
        · have ed := cls_u n_FolkError rfl q2
          rw [ed]
          exact kit_ref ic_FolkError ty_FolkError kk_NoCell_FolkError kk_NoCell_NoCell
        · have ed := cls_u n_NoYard rfl q2
          rw [ed]
          exact kit_ref ic_NoYard ty_NoYard kk_NoCell_NoYard kk_NoCell_NoCell
        · have ed := cls_u n_NoStanding rfl q2
          rw [ed]
          exact kit_ref ic_NoStanding ty_NoStanding kk_NoCell_NoStanding kk_NoCell_NoCell
        · have ed := cls_u n_NoLeap rfl q2
          rw [ed]
          exact kit_ref ic_NoLeap ty_NoLeap kk_NoCell_NoLeap kk_NoCell_NoCell
        · have ed := cls_u n_NoRow rfl q2
          rw [ed]
          exact kit_ref ic_NoRow ty_NoRow kk_NoCell_NoRow kk_NoCell_NoCell
        · have ed := cls_u n_NoVector rfl q2
          rw [ed]
          exact kit_ref ic_NoVector ty_NoVector kk_NoCell_NoVector kk_NoCell_NoCell
        · have ed := cls_u n_NoReading rfl q2
          rw [ed]
          exact kit_ref ic_NoReading ty_NoReading kk_NoCell_NoReading kk_NoCell_NoCell
        · have ed := cls_u n_NoWishes rfl q2
          rw [ed]
          exact kit_ref ic_NoWishes ty_NoWishes kk_NoCell_NoWishes kk_NoCell_NoCell
        · have ed := cls_u n_NoCell rfl q2
          rw [ed]
          exact kit_ref ic_NoCell ty_NoCell kk_NoCell_NoCell kk_NoCell_NoCell
        · have ed := cls_u n_NoTable rfl q2
          rw [ed]
          exact kit_ref ic_NoTable ty_NoTable kk_NoCell_NoTable kk_NoCell_NoCell
        · have ed := cls_u n_NoNumber rfl q2
          rw [ed]
          exact kit_ref ic_NoNumber ty_NoNumber kk_NoCell_NoNumber kk_NoCell_NoCell
        · have ed := cls_u n_NoPerson rfl q2
          rw [ed]
          exact kit_ref ic_NoPerson ty_NoPerson kk_NoCell_NoPerson kk_NoCell_NoCell
        · have ed := cls_u n_TooMany rfl q2
          rw [ed]
          exact kit_ref ic_TooMany ty_TooMany kk_NoCell_TooMany kk_NoCell_NoCell
      · have ec := cls_u n_NoTable rfl q
        subst ec
        have hk2 : k = 0 ∨ k = 1 ∨ k = 2 ∨ k = 3 ∨ k = 4 ∨ k = 5 ∨ k = 6 ∨ k = 7 ∨ k = 8 ∨ k = 9 ∨ k = 10 ∨ k = 11 ∨ k = 12 := by simpa [KS] using hk
        rcases hk2 with rfl | rfl | rfl | rfl | rfl | rfl | rfl | rfl | rfl | rfl | rfl | rfl | rfl
        · have ed := cls_u n_FolkError rfl q2
          rw [ed]
          exact kit_ref ic_FolkError ty_FolkError kk_NoTable_FolkError kk_NoTable_NoTable
        · have ed := cls_u n_NoYard rfl q2
          rw [ed]
          exact kit_ref ic_NoYard ty_NoYard kk_NoTable_NoYard kk_NoTable_NoTable
        · have ed := cls_u n_NoStanding rfl q2
          rw [ed]
          exact kit_ref ic_NoStanding ty_NoStanding kk_NoTable_NoStanding kk_NoTable_NoTable
        · have ed := cls_u n_NoLeap rfl q2
          rw [ed]
          exact kit_ref ic_NoLeap ty_NoLeap kk_NoTable_NoLeap kk_NoTable_NoTable
        · have ed := cls_u n_NoRow rfl q2
          rw [ed]
          exact kit_ref ic_NoRow ty_NoRow kk_NoTable_NoRow kk_NoTable_NoTable
        · have ed := cls_u n_NoVector rfl q2
          rw [ed]
          exact kit_ref ic_NoVector ty_NoVector kk_NoTable_NoVector kk_NoTable_NoTable
        · have ed := cls_u n_NoReading rfl q2
          rw [ed]
          exact kit_ref ic_NoReading ty_NoReading kk_NoTable_NoReading kk_NoTable_NoTable
        · have ed := cls_u n_NoWishes rfl q2
          rw [ed]
          exact kit_ref ic_NoWishes ty_NoWishes kk_NoTable_NoWishes kk_NoTable_NoTable
        · have ed := cls_u n_NoCell rfl q2
          rw [ed]
          exact kit_ref ic_NoCell ty_NoCell kk_NoTable_NoCell kk_NoTable_NoTable
        · have ed := cls_u n_NoTable rfl q2
          rw [ed]
          exact kit_ref ic_NoTable ty_NoTable kk_NoTable_NoTable kk_NoTable_NoTable
        · have ed := cls_u n_NoNumber rfl q2
          rw [ed]
          exact kit_ref ic_NoNumber ty_NoNumber kk_NoTable_NoNumber kk_NoTable_NoTable
        · have ed := cls_u n_NoPerson rfl q2
          rw [ed]
          exact kit_ref ic_NoPerson ty_NoPerson kk_NoTable_NoPerson kk_NoTable_NoTable
        · have ed := cls_u n_TooMany rfl q2
          rw [ed]
          exact kit_ref ic_TooMany ty_TooMany kk_NoTable_TooMany kk_NoTable_NoTable
      · have ec := cls_u n_NoNumber rfl q
        subst ec
        have hk2 : k = 0 ∨ k = 1 ∨ k = 2 ∨ k = 3 ∨ k = 4 ∨ k = 5 ∨ k = 6 ∨ k = 7 ∨ k = 8 ∨ k = 9 ∨ k = 10 ∨ k = 11 ∨ k = 12 := by simpa [KS] using hk
        rcases hk2 with rfl | rfl | rfl | rfl | rfl | rfl | rfl | rfl | rfl | rfl | rfl | rfl | rfl
        · have ed := cls_u n_FolkError rfl q2
          rw [ed]
          exact kit_ref ic_FolkError ty_FolkError kk_NoNumber_FolkError kk_NoNumber_NoNumber
        · have ed := cls_u n_NoYard rfl q2
          rw [ed]
          exact kit_ref ic_NoYard ty_NoYard kk_NoNumber_NoYard kk_NoNumber_NoNumber
        · have ed := cls_u n_NoStanding rfl q2
          rw [ed]
          exact kit_ref ic_NoStanding ty_NoStanding kk_NoNumber_NoStanding kk_NoNumber_NoNumber
        · have ed := cls_u n_NoLeap rfl q2
          rw [ed]
          exact kit_ref ic_NoLeap ty_NoLeap kk_NoNumber_NoLeap kk_NoNumber_NoNumber
        · have ed := cls_u n_NoRow rfl q2
          rw [ed]
          exact kit_ref ic_NoRow ty_NoRow kk_NoNumber_NoRow kk_NoNumber_NoNumber
        · have ed := cls_u n_NoVector rfl q2
          rw [ed]
          exact kit_ref ic_NoVector ty_NoVector kk_NoNumber_NoVector kk_NoNumber_NoNumber
        · have ed := cls_u n_NoReading rfl q2
          rw [ed]
          exact kit_ref ic_NoReading ty_NoReading kk_NoNumber_NoReading kk_NoNumber_NoNumber
        · have ed := cls_u n_NoWishes rfl q2
          rw [ed]
          exact kit_ref ic_NoWishes ty_NoWishes kk_NoNumber_NoWishes kk_NoNumber_NoNumber
        · have ed := cls_u n_NoCell rfl q2
          rw [ed]
          exact kit_ref ic_NoCell ty_NoCell kk_NoNumber_NoCell kk_NoNumber_NoNumber
        · have ed := cls_u n_NoTable rfl q2
          rw [ed]
          exact kit_ref ic_NoTable ty_NoTable kk_NoNumber_NoTable kk_NoNumber_NoNumber
        · have ed := cls_u n_NoNumber rfl q2
          rw [ed]
          exact kit_ref ic_NoNumber ty_NoNumber kk_NoNumber_NoNumber kk_NoNumber_NoNumber
        · have ed := cls_u n_NoPerson rfl q2
          rw [ed]
          exact kit_ref ic_NoPerson ty_NoPerson kk_NoNumber_NoPerson kk_NoNumber_NoNumber
        · have ed := cls_u n_TooMany rfl q2
          rw [ed]
          exact kit_ref ic_TooMany ty_TooMany kk_NoNumber_TooMany kk_NoNumber_NoNumber
      · have ec := cls_u n_NoPerson rfl q
        subst ec
        have hk2 : k = 0 ∨ k = 1 ∨ k = 2 ∨ k = 3 ∨ k = 4 ∨ k = 5 ∨ k = 6 ∨ k = 7 ∨ k = 8 ∨ k = 9 ∨ k = 10 ∨ k = 11 ∨ k = 12 := by simpa [KS] using hk
        rcases hk2 with rfl | rfl | rfl | rfl | rfl | rfl | rfl | rfl | rfl | rfl | rfl | rfl | rfl
        · have ed := cls_u n_FolkError rfl q2
          rw [ed]
          exact kit_ref ic_FolkError ty_FolkError kk_NoPerson_FolkError kk_NoPerson_NoPerson
        · have ed := cls_u n_NoYard rfl q2
          rw [ed]
          exact kit_ref ic_NoYard ty_NoYard kk_NoPerson_NoYard kk_NoPerson_NoPerson
        · have ed := cls_u n_NoStanding rfl q2
          rw [ed]
          exact kit_ref ic_NoStanding ty_NoStanding kk_NoPerson_NoStanding kk_NoPerson_NoPerson
        · have ed := cls_u n_NoLeap rfl q2
          rw [ed]
          exact kit_ref ic_NoLeap ty_NoLeap kk_NoPerson_NoLeap kk_NoPerson_NoPerson
        · have ed := cls_u n_NoRow rfl q2
          rw [ed]
          exact kit_ref ic_NoRow ty_NoRow kk_NoPerson_NoRow kk_NoPerson_NoPerson
        · have ed := cls_u n_NoVector rfl q2
          rw [ed]
          exact kit_ref ic_NoVector ty_NoVector kk_NoPerson_NoVector kk_NoPerson_NoPerson
        · have ed := cls_u n_NoReading rfl q2
          rw [ed]
          exact kit_ref ic_NoReading ty_NoReading kk_NoPerson_NoReading kk_NoPerson_NoPerson
        · have ed := cls_u n_NoWishes rfl q2
          rw [ed]
          exact kit_ref ic_NoWishes ty_NoWishes kk_NoPerson_NoWishes kk_NoPerson_NoPerson
        · have ed := cls_u n_NoCell rfl q2
          rw [ed]
          exact kit_ref ic_NoCell ty_NoCell kk_NoPerson_NoCell kk_NoPerson_NoPerson
        · have ed := cls_u n_NoTable rfl q2
          rw [ed]
          exact kit_ref ic_NoTable ty_NoTable kk_NoPerson_NoTable kk_NoPerson_NoPerson
        · have ed := cls_u n_NoNumber rfl q2
          rw [ed]
          exact kit_ref ic_NoNumber ty_NoNumber kk_NoPerson_NoNumber kk_NoPerson_NoPerson
        · have ed := cls_u n_NoPerson rfl q2
          rw [ed]
          exact kit_ref ic_NoPerson ty_NoPerson kk_NoPerson_NoPerson kk_NoPerson_NoPerson
        · have ed := cls_u n_TooMany rfl q2
          rw [ed]
          exact kit_ref ic_TooMany ty_TooMany kk_NoPerson_TooMany kk_NoPerson_NoPerson
      · have ec := cls_u n_TooMany rfl q
        subst ec
        have hk2 : k = 0 ∨ k = 1 ∨ k = 2 ∨ k = 3 ∨ k = 4 ∨ k = 5 ∨ k = 6 ∨ k = 7 ∨ k = 8 ∨ k = 9 ∨ k = 10 ∨ k = 11 ∨ k = 12 := by simpa [KS] using hk
        rcases hk2 with rfl | rfl | rfl | rfl | rfl | rfl | rfl | rfl | rfl | rfl | rfl | rfl | rfl
        · have ed := cls_u n_FolkError rfl q2
          rw [ed]
          exact kit_ref ic_FolkError ty_FolkError kk_TooMany_FolkError kk_TooMany_TooMany
        · have ed := cls_u n_NoYard rfl q2
          rw [ed]
          exact kit_ref ic_NoYard ty_NoYard kk_TooMany_NoYard kk_TooMany_TooMany
        · have ed := cls_u n_NoStanding rfl q2
          rw [ed]
          exact kit_ref ic_NoStanding ty_NoStanding kk_TooMany_NoStanding kk_TooMany_TooMany
        · have ed := cls_u n_NoLeap rfl q2
          rw [ed]
          exact kit_ref ic_NoLeap ty_NoLeap kk_TooMany_NoLeap kk_TooMany_TooMany
        · have ed := cls_u n_NoRow rfl q2
          rw [ed]
          exact kit_ref ic_NoRow ty_NoRow kk_TooMany_NoRow kk_TooMany_TooMany
        · have ed := cls_u n_NoVector rfl q2
          rw [ed]
          exact kit_ref ic_NoVector ty_NoVector kk_TooMany_NoVector kk_TooMany_TooMany
        · have ed := cls_u n_NoReading rfl q2
          rw [ed]
          exact kit_ref ic_NoReading ty_NoReading kk_TooMany_NoReading kk_TooMany_TooMany
        · have ed := cls_u n_NoWishes rfl q2
          rw [ed]
          exact kit_ref ic_NoWishes ty_NoWishes kk_TooMany_NoWishes kk_TooMany_TooMany
        · have ed := cls_u n_NoCell rfl q2
          rw [ed]
          exact kit_ref ic_NoCell ty_NoCell kk_TooMany_NoCell kk_TooMany_TooMany
        · have ed := cls_u n_NoTable rfl q2
          rw [ed]
          exact kit_ref ic_NoTable ty_NoTable kk_TooMany_NoTable kk_TooMany_TooMany
        · have ed := cls_u n_NoNumber rfl q2
          rw [ed]
          exact kit_ref ic_NoNumber ty_NoNumber kk_TooMany_NoNumber kk_TooMany_TooMany
        · have ed := cls_u n_NoPerson rfl q2
          rw [ed]
          exact kit_ref ic_NoPerson ty_NoPerson kk_TooMany_NoPerson kk_TooMany_TooMany
        · have ed := cls_u n_TooMany rfl q2
          rw [ed]
          exact kit_ref ic_TooMany ty_TooMany kk_TooMany_TooMany kk_TooMany_TooMany
    · have hk2 : k = 0 ∨ k = 1 ∨ k = 2 ∨ k = 3 ∨ k = 4 ∨ k = 5 ∨ k = 6 ∨ k = 7 ∨ k = 8 ∨ k = 9 ∨ k = 10 ∨ k = 11 ∨ k = 12 := by simpa [KS] using hk
      rcases hk2 with rfl | rfl | rfl | rfl | rfl | rfl | rfl | rfl | rfl | rfl | rfl | rfl | rfl
      · have ed := cls_u n_FolkError rfl q2
        rw [ed]
        exact kit_non ic_FolkError ty_FolkError kn_FolkError
      · have ed := cls_u n_NoYard rfl q2
        rw [ed]
        exact kit_non ic_NoYard ty_NoYard kn_NoYard
      · have ed := cls_u n_NoStanding rfl q2
        rw [ed]
        exact kit_non ic_NoStanding ty_NoStanding kn_NoStanding
      · have ed := cls_u n_NoLeap rfl q2
        rw [ed]
        exact kit_non ic_NoLeap ty_NoLeap kn_NoLeap
      · have ed := cls_u n_NoRow rfl q2
        rw [ed]
        exact kit_non ic_NoRow ty_NoRow kn_NoRow
      · have ed := cls_u n_NoVector rfl q2
        rw [ed]
        exact kit_non ic_NoVector ty_NoVector kn_NoVector
      · have ed := cls_u n_NoReading rfl q2
        rw [ed]
        exact kit_non ic_NoReading ty_NoReading kn_NoReading
      · have ed := cls_u n_NoWishes rfl q2
        rw [ed]
        exact kit_non ic_NoWishes ty_NoWishes kn_NoWishes
      · have ed := cls_u n_NoCell rfl q2
        rw [ed]
        exact kit_non ic_NoCell ty_NoCell kn_NoCell
      · have ed := cls_u n_NoTable rfl q2
        rw [ed]
        exact kit_non ic_NoTable ty_NoTable kn_NoTable
      · have ed := cls_u n_NoNumber rfl q2
        rw [ed]
        exact kit_non ic_NoNumber ty_NoNumber kn_NoNumber
      · have ed := cls_u n_NoPerson rfl q2
        rw [ed]
        exact kit_non ic_NoPerson ty_NoPerson kn_NoPerson
      · have ed := cls_u n_TooMany rfl q2
        rw [ed]
        exact kit_non ic_TooMany ty_TooMany kn_TooMany
    · have hj2 : j = 0 ∨ j = 1 ∨ j = 2 ∨ j = 3 ∨ j = 4 ∨ j = 5 ∨ j = 6 ∨ j = 7 ∨ j = 8 ∨ j = 9 ∨ j = 10 ∨ j = 11 ∨ j = 12 := by simpa [CL] using hj
      rcases hj2 with rfl | rfl | rfl | rfl | rfl | rfl | rfl | rfl | rfl | rfl | rfl | rfl | rfl
      · have ec := cls_u n_FolkError rfl q
        subst ec
        exact kit_val kv_FolkError
      · have ec := cls_u n_NoYard rfl q
        subst ec
        exact kit_val kv_NoYard
      · have ec := cls_u n_NoStanding rfl q
        subst ec
        exact kit_val kv_NoStanding
      · have ec := cls_u n_NoLeap rfl q
        subst ec
        exact kit_val kv_NoLeap
      · have ec := cls_u n_NoRow rfl q
        subst ec
        exact kit_val kv_NoRow
      · have ec := cls_u n_NoVector rfl q
        subst ec
        exact kit_val kv_NoVector
      · have ec := cls_u n_NoReading rfl q
        subst ec
        exact kit_val kv_NoReading
      · have ec := cls_u n_NoWishes rfl q
        subst ec
        exact kit_val kv_NoWishes
      · have ec := cls_u n_NoCell rfl q
        subst ec
        exact kit_val kv_NoCell
      · have ec := cls_u n_NoTable rfl q
        subst ec
        exact kit_val kv_NoTable
      · have ec := cls_u n_NoNumber rfl q
        subst ec
        exact kit_val kv_NoNumber
      · have ec := cls_u n_NoPerson rfl q
        subst ec
        exact kit_val kv_NoPerson
      · have ec := cls_u n_TooMany rfl q
        subst ec
        exact kit_val kv_TooMany
  have xi_NoPerson : PySem.DLX.XiC l.prog K C_NoPerson fI_NoPerson _ "person" := ⟨⟨nm_NoPerson, q_NoPerson, N_NoPerson, bs_NoPerson, bm_NoPerson, sn_NoPerson, sub_NoPerson, ab_NoPerson, col_NoPerson, dd_NoPerson, k0_NoPerson, k1_NoPerson, k2_NoPerson, k3_NoPerson, k5_NoPerson, lc_NoPerson, rv_NoPerson⟩, sa_NoPerson, no_NoPerson, ini_NoPerson, tI_NoPerson, sup_NoPerson, tp, sg, kv_NoPerson, ss_NoPerson, htop, ⟨oc_NoPerson, ccl_NoPerson, cl_NoPerson, od_NoPerson, cdd_NoPerson, cld_NoPerson, an_NoPerson, "NoPerson.__init__", "this is not a person that is asked for", file_NoPerson, defArgs si_NoPerson, .none, kV_NoPerson, dc_NoPerson, pm_NoPerson, ct_NoPerson, cda_NoPerson, cc_NoPerson, osl_NoPerson, ccs_NoPerson, csl_NoPerson, vs_NoPerson, tf_NoPerson, _, ⟨27, 8, 27, 13⟩, ⟨27, 8, 27, 15⟩, ⟨27, 8, 27, 24⟩, ⟨27, 25, 27, 65⟩, ⟨27, 8, 27, 66⟩, ⟨27, 8, 27, 66⟩, ⟨28, 8, 28, 12⟩, ⟨28, 8, 28, 19⟩, ⟨28, 22, 28, 28⟩, ⟨28, 8, 28, 28⟩, by rw [← bd_NoPerson, ← sc_NoPerson], lf_NoPerson, ci_NoPerson, la_NoPerson, vx_NoPerson, fl_NoPerson, lk_NoPerson, rfl, rfl, ev_NoPerson⟩⟩
  have xb_NoPerson : XiB K (PySem.W.ksFn "__init__" "NoPerson.__init__" (defArgs si_NoPerson) (defBody si_NoPerson) (defScope si_NoPerson) .none kV_NoPerson dc_NoPerson pm_NoPerson an_NoPerson (.ref cda_NoPerson) ct_NoPerson cc_NoPerson) "person" := ⟨fun s e u X => .of_eq rfl, fun s e u X => .of_eq rfl⟩
  have xi_TooMany : PySem.DLX.XiC l.prog K C_TooMany fI_TooMany _ "most" := ⟨⟨nm_TooMany, q_TooMany, N_TooMany, bs_TooMany, bm_TooMany, sn_TooMany, sub_TooMany, ab_TooMany, col_TooMany, dd_TooMany, k0_TooMany, k1_TooMany, k2_TooMany, k3_TooMany, k5_TooMany, lc_TooMany, rv_TooMany⟩, sa_TooMany, no_TooMany, ini_TooMany, tI_TooMany, sup_TooMany, tp, sg, kv_TooMany, ss_TooMany, htop, ⟨oc_TooMany, ccl_TooMany, cl_TooMany, od_TooMany, cdd_TooMany, cld_TooMany, an_TooMany, "TooMany.__init__", "the answer is above the bound", file_TooMany, defArgs si_TooMany, .none, kV_TooMany, dc_TooMany, pm_TooMany, ct_TooMany, cda_TooMany, cc_TooMany, osl_TooMany, ccs_TooMany, csl_TooMany, vs_TooMany, tf_TooMany, _, ⟨32, 8, 32, 13⟩, ⟨32, 8, 32, 15⟩, ⟨32, 8, 32, 24⟩, ⟨32, 25, 32, 56⟩, ⟨32, 8, 32, 57⟩, ⟨32, 8, 32, 57⟩, ⟨33, 8, 33, 12⟩, ⟨33, 8, 33, 17⟩, ⟨33, 20, 33, 24⟩, ⟨33, 8, 33, 24⟩, by rw [← bd_TooMany, ← sc_TooMany], lf_TooMany, ci_TooMany, la_TooMany, vx_TooMany, fl_TooMany, lk_TooMany, rfl, rfl, ev_TooMany⟩⟩
  have xb_TooMany : XiB K (PySem.W.ksFn "__init__" "TooMany.__init__" (defArgs si_TooMany) (defBody si_TooMany) (defScope si_TooMany) .none kV_TooMany dc_TooMany pm_TooMany an_TooMany (.ref cda_TooMany) ct_TooMany cc_TooMany) "most" := ⟨fun s e u X => .of_eq rfl, fun s e u X => .of_eq rfl⟩
  have at_ : AtOk K AT := by
    refine ⟨fun k D hk q => ?_, fun k D hk q => ?_⟩
    · have hk2 : k = 11 ∨ k = 12 := by simpa [AT] using hk
      rcases hk2 with rfl | rfl
      · have ec := cls_u n_NoPerson rfl q
        subst ec
        exact ⟨hg_NoPerson, hk_NoPerson, sb_NoPerson, hd_NoPerson⟩
      · have ec := cls_u n_TooMany rfl q
        subst ec
        exact ⟨hg_TooMany, hk_TooMany, sb_TooMany, hd_TooMany⟩
    · have hk2 : k = 11 ∨ k = 12 := by simpa [AT] using hk
      rcases hk2 with rfl | rfl
      · have ec := cls_u n_NoPerson rfl q
        subst ec
        exact no_NoPerson
      · have ec := cls_u n_TooMany rfl q
        subst ec
        exact no_TooMany
  let T : Txt l.prog K mg := {
    f_is_whole := _, d_is_whole := _, F_is_whole := F_is_whole, g_is_whole := PySem.W.mg_of X G a_is_whole, b_is_whole := b_is_whole,
    f_is_whole_in := _, d_is_whole_in := _, F_is_whole_in := F_is_whole_in, g_is_whole_in := PySem.W.mg_of X G a_is_whole_in, b_is_whole_in := b_is_whole_in,
    f_is_tuple_of := _, d_is_tuple_of := _, F_is_tuple_of := F_is_tuple_of, g_is_tuple_of := PySem.W.mg_of X G a_is_tuple_of, b_is_tuple_of := b_is_tuple_of,
    f_is_way := _, d_is_way := _, F_is_way := F_is_way, g_is_way := PySem.W.mg_of X G a_is_way, b_is_way := b_is_way,
    f_is_ways := _, d_is_ways := _, F_is_ways := F_is_ways, g_is_ways := PySem.W.mg_of X G a_is_ways, b_is_ways := b_is_ways,
    f_is_persons := _, d_is_persons := _, F_is_persons := F_is_persons, g_is_persons := PySem.W.mg_of X G a_is_persons, b_is_persons := b_is_persons,
    f_is_posts := _, d_is_posts := _, F_is_posts := F_is_posts, g_is_posts := PySem.W.mg_of X G a_is_posts, b_is_posts := b_is_posts,
    f_yard_wrong := _, d_yard_wrong := _, F_yard_wrong := F_yard_wrong, g_yard_wrong := PySem.W.mg_of X G a_yard_wrong, b_yard_wrong := b_yard_wrong,
    f__law_mixed := _, d__law_mixed := _, F__law_mixed := F__law_mixed, g__law_mixed := PySem.W.mg_of X G a__law_mixed, b__law_mixed := b__law_mixed,
    f__law_pile := _, d__law_pile := _, F__law_pile := F__law_pile, g__law_pile := PySem.W.mg_of X G a__law_pile, b__law_pile := b__law_pile,
    f__law_take := _, d__law_take := _, F__law_take := F__law_take, g__law_take := PySem.W.mg_of X G a__law_take, b__law_take := b__law_take,
    f__law_great := _, d__law_great := _, F__law_great := F__law_great, g__law_great := PySem.W.mg_of X G a__law_great, b__law_great := b__law_great,
    f__law_kind := _, d__law_kind := _, F__law_kind := F__law_kind, g__law_kind := PySem.W.mg_of X G a__law_kind, b__law_kind := b__law_kind,
    f__law_bare := _, d__law_bare := _, F__law_bare := F__law_bare, g__law_bare := PySem.W.mg_of X G a__law_bare, b__law_bare := b__law_bare,
    f__law_all := _, d__law_all := _, F__law_all := F__law_all, g__law_all := PySem.W.mg_of X G a__law_all, b__law_all := b__law_all,
    f_law := _, d_law := _, F_law := F_law, g_law := PySem.W.mg_of X G a_law, b_law := b_law,
    c_FolkError := C_FolkError, k_FolkError := n_FolkError, g_FolkError := PySem.W.mg_of X G n_FolkError,
    c_NoYard := C_NoYard, k_NoYard := n_NoYard, g_NoYard := PySem.W.mg_of X G n_NoYard,
    c_NoStanding := C_NoStanding, k_NoStanding := n_NoStanding, g_NoStanding := PySem.W.mg_of X G n_NoStanding,
    c_NoLeap := C_NoLeap, k_NoLeap := n_NoLeap, g_NoLeap := PySem.W.mg_of X G n_NoLeap,
    c_NoRow := C_NoRow, k_NoRow := n_NoRow, g_NoRow := PySem.W.mg_of X G n_NoRow,
    c_NoVector := C_NoVector, k_NoVector := n_NoVector, g_NoVector := PySem.W.mg_of X G n_NoVector,
    c_NoReading := C_NoReading, k_NoReading := n_NoReading, g_NoReading := PySem.W.mg_of X G n_NoReading,
    c_NoWishes := C_NoWishes, k_NoWishes := n_NoWishes, g_NoWishes := PySem.W.mg_of X G n_NoWishes,
    c_NoCell := C_NoCell, k_NoCell := n_NoCell, g_NoCell := PySem.W.mg_of X G n_NoCell,
    c_NoTable := C_NoTable, k_NoTable := n_NoTable, g_NoTable := PySem.W.mg_of X G n_NoTable,
    c_NoNumber := C_NoNumber, k_NoNumber := n_NoNumber, g_NoNumber := PySem.W.mg_of X G n_NoNumber,
    c_NoPerson := C_NoPerson, k_NoPerson := n_NoPerson, g_NoPerson := PySem.W.mg_of X G n_NoPerson,
    c_TooMany := C_TooMany, k_TooMany := n_TooMany, g_TooMany := PySem.W.mg_of X G n_TooMany,
    kp_FolkError := kp_FolkError,
    x_FolkError := x_FolkError,
    kp_NoYard := kp_NoYard,
    x_NoYard := x_NoYard,
    kp_NoStanding := kp_NoStanding,
    x_NoStanding := x_NoStanding,
    kp_NoLeap := kp_NoLeap,
    x_NoLeap := x_NoLeap,
    kp_NoRow := kp_NoRow,
    x_NoRow := x_NoRow,
    kp_NoVector := kp_NoVector,
    x_NoVector := x_NoVector,
    kp_NoReading := kp_NoReading,
    x_NoReading := x_NoReading,
    kp_NoWishes := kp_NoWishes,
    x_NoWishes := x_NoWishes,
    kp_NoCell := kp_NoCell,
    x_NoCell := x_NoCell,
    kp_NoTable := kp_NoTable,
    x_NoTable := x_NoTable,
    kp_NoNumber := kp_NoNumber,
    x_NoNumber := x_NoNumber,
    kp_NoPerson := kp_NoPerson,
    in_NoPerson := fI_NoPerson, di_NoPerson := _, xi_NoPerson := xi_NoPerson, xb_NoPerson := xb_NoPerson,
    kp_TooMany := kp_TooMany,
    in_TooMany := fI_TooMany, di_TooMany := _, xi_TooMany := xi_TooMany, xb_TooMany := xb_TooMany,
    at_ := at_,
    z_ValueError := PySem.W.mg_none_of X G zz_ValueError,
    z_abs := PySem.W.mg_none_of X G zz_abs,
    z_all := PySem.W.mg_none_of X G zz_all,
    z_bool := PySem.W.mg_none_of X G zz_bool,
    z_int := PySem.W.mg_none_of X G zz_int,
    z_isinstance := PySem.W.mg_none_of X G zz_isinstance,
    z_len := PySem.W.mg_none_of X G zz_len,
    z_range := PySem.W.mg_none_of X G zz_range,
    z_str := PySem.W.mg_none_of X G zz_str,
    z_tuple := PySem.W.mg_none_of X G zz_tuple,
    z_zip := PySem.W.mg_none_of X G zz_zip,
    g_LEAST_PERSONS := ⟨_, PySem.W.mg_of X G v_LEAST_PERSONS⟩,
    g_MOST_PERSONS := ⟨_, PySem.W.mg_of X G v_MOST_PERSONS⟩,
    g_MOST_WAYS := ⟨_, PySem.W.mg_of X G v_MOST_WAYS⟩,
    isi := isi }
  exact ⟨_, fun s v => .of_eq rfl, fun base _ _ => ok_law T⟩
end K95
open PySem PySem.W PyProof.Rows
set_option maxHeartbeats 0 in
theorem PySem.Challenge.cw_leapfolk_k95_refusals_made_holds : PySem.Challenge.rw_leapfolk_k95_refusals_made.Holds := by
  w_on; o_law; k_head; (case hw => w_witness2)
  k_fill
  refine DL.walkG (l := PySem.Challenge.rw_leapfolk_k95_refusals_made) (n := 63) (x := "script") (sp := fun w => DL.spD _ 1 K95.m_law) rfl (by decide) rfl (fun w h Y => PySem.W.kIn_of Y) ?F (fun w H a ns hl _ hS => K95.law_sp hl hS) (fun w H s e s' h => DL.no_cx h)
  case F =>
    intro w mg fa h KX G hmg
    refine' K95.all_mk KX G hmg ?n_FolkError ?n_NoYard ?n_NoStanding ?n_NoLeap ?n_NoRow ?n_NoVector ?n_NoReading ?n_NoWishes ?n_NoCell ?n_NoTable ?n_NoNumber ?n_NoPerson ?n_TooMany ?x_FolkError ?kp_FolkError ?sb_FolkError ?ty_FolkError ?hg_FolkError ?hk_FolkError ?hd_FolkError ?ha_FolkError ?hm_FolkError ?kv_FolkError ?kk_FolkError_FolkError ?kk_FolkError_NoYard ?kk_FolkError_NoStanding ?kk_FolkError_NoLeap ?kk_FolkError_NoRow ?kk_FolkError_NoVector ?kk_FolkError_NoReading ?kk_FolkError_NoWishes ?kk_FolkError_NoCell ?kk_FolkError_NoTable ?kk_FolkError_NoNumber ?kk_FolkError_NoPerson ?kk_FolkError_TooMany ?x_NoYard ?kp_NoYard ?sb_NoYard ?ty_NoYard ?hg_NoYard ?hk_NoYard ?hd_NoYard ?ha_NoYard ?hm_NoYard ?kv_NoYard ?kk_NoYard_FolkError ?kk_NoYard_NoYard ?kk_NoYard_NoStanding ?kk_NoYard_NoLeap ?kk_NoYard_NoRow ?kk_NoYard_NoVector ?kk_NoYard_NoReading ?kk_NoYard_NoWishes ?kk_NoYard_NoCell ?kk_NoYard_NoTable ?kk_NoYard_NoNumber ?kk_NoYard_NoPerson ?kk_NoYard_TooMany ?x_NoStanding ?kp_NoStanding ?sb_NoStanding ?ty_NoStanding ?hg_NoStanding ?hk_NoStanding ?hd_NoStanding ?ha_NoStanding ?hm_NoStanding ?kv_NoStanding ?kk_NoStanding_FolkError ?kk_NoStanding_NoYard ?kk_NoStanding_NoStanding ?kk_NoStanding_NoLeap ?kk_NoStanding_NoRow ?kk_NoStanding_NoVector ?kk_NoStanding_NoReading ?kk_NoStanding_NoWishes ?kk_NoStanding_NoCell ?kk_NoStanding_NoTable ?kk_NoStanding_NoNumber ?kk_NoStanding_NoPerson ?kk_NoStanding_TooMany ?x_NoLeap ?kp_NoLeap ?sb_NoLeap ?ty_NoLeap ?hg_NoLeap ?hk_NoLeap ?hd_NoLeap ?ha_NoLeap ?hm_NoLeap ?kv_NoLeap ?kk_NoLeap_FolkError ?kk_NoLeap_NoYard ?kk_NoLeap_NoStanding ?kk_NoLeap_NoLeap ?kk_NoLeap_NoRow ?kk_NoLeap_NoVector ?kk_NoLeap_NoReading ?kk_NoLeap_NoWishes ?kk_NoLeap_NoCell ?kk_NoLeap_NoTable ?kk_NoLeap_NoNumber ?kk_NoLeap_NoPerson ?kk_NoLeap_TooMany ?x_NoRow ?kp_NoRow ?sb_NoRow ?ty_NoRow ?hg_NoRow ?hk_NoRow ?hd_NoRow ?ha_NoRow ?hm_NoRow ?kv_NoRow ?kk_NoRow_FolkError ?kk_NoRow_NoYard ?kk_NoRow_NoStanding ?kk_NoRow_NoLeap ?kk_NoRow_NoRow ?kk_NoRow_NoVector ?kk_NoRow_NoReading ?kk_NoRow_NoWishes ?kk_NoRow_NoCell ?kk_NoRow_NoTable ?kk_NoRow_NoNumber ?kk_NoRow_NoPerson ?kk_NoRow_TooMany ?x_NoVector ?kp_NoVector ?sb_NoVector ?ty_NoVector ?hg_NoVector ?hk_NoVector ?hd_NoVector ?ha_NoVector ?hm_NoVector ?kv_NoVector ?kk_NoVector_FolkError ?kk_NoVector_NoYard ?kk_NoVector_NoStanding ?kk_NoVector_NoLeap ?kk_NoVector_NoRow ?kk_NoVector_NoVector ?kk_NoVector_NoReading ?kk_NoVector_NoWishes ?kk_NoVector_NoCell ?kk_NoVector_NoTable ?kk_NoVector_NoNumber ?kk_NoVector_NoPerson ?kk_NoVector_TooMany ?x_NoReading ?kp_NoReading ?sb_NoReading ?ty_NoReading ?hg_NoReading ?hk_NoReading ?hd_NoReading ?ha_NoReading ?hm_NoReading ?kv_NoReading ?kk_NoReading_FolkError ?kk_NoReading_NoYard ?kk_NoReading_NoStanding ?kk_NoReading_NoLeap ?kk_NoReading_NoRow ?kk_NoReading_NoVector ?kk_NoReading_NoReading ?kk_NoReading_NoWishes ?kk_NoReading_NoCell ?kk_NoReading_NoTable ?kk_NoReading_NoNumber ?kk_NoReading_NoPerson ?kk_NoReading_TooMany ?x_NoWishes ?kp_NoWishes ?sb_NoWishes ?ty_NoWishes ?hg_NoWishes ?hk_NoWishes ?hd_NoWishes ?ha_NoWishes ?hm_NoWishes ?kv_NoWishes ?kk_NoWishes_FolkError ?kk_NoWishes_NoYard ?kk_NoWishes_NoStanding ?kk_NoWishes_NoLeap ?kk_NoWishes_NoRow ?kk_NoWishes_NoVector ?kk_NoWishes_NoReading ?kk_NoWishes_NoWishes ?kk_NoWishes_NoCell ?kk_NoWishes_NoTable ?kk_NoWishes_NoNumber ?kk_NoWishes_NoPerson ?kk_NoWishes_TooMany ?x_NoCell ?kp_NoCell ?sb_NoCell ?ty_NoCell ?hg_NoCell ?hk_NoCell ?hd_NoCell ?ha_NoCell ?hm_NoCell ?kv_NoCell ?kk_NoCell_FolkError ?kk_NoCell_NoYard ?kk_NoCell_NoStanding ?kk_NoCell_NoLeap ?kk_NoCell_NoRow ?kk_NoCell_NoVector ?kk_NoCell_NoReading ?kk_NoCell_NoWishes ?kk_NoCell_NoCell ?kk_NoCell_NoTable ?kk_NoCell_NoNumber ?kk_NoCell_NoPerson ?kk_NoCell_TooMany ?x_NoTable ?kp_NoTable ?sb_NoTable ?ty_NoTable ?hg_NoTable ?hk_NoTable ?hd_NoTable ?ha_NoTable ?hm_NoTable ?kv_NoTable ?kk_NoTable_FolkError ?kk_NoTable_NoYard ?kk_NoTable_NoStanding ?kk_NoTable_NoLeap ?kk_NoTable_NoRow ?kk_NoTable_NoVector ?kk_NoTable_NoReading ?kk_NoTable_NoWishes ?kk_NoTable_NoCell ?kk_NoTable_NoTable ?kk_NoTable_NoNumber ?kk_NoTable_NoPerson ?kk_NoTable_TooMany ?x_NoNumber ?kp_NoNumber ?sb_NoNumber ?ty_NoNumber ?hg_NoNumber ?hk_NoNumber ?hd_NoNumber ?ha_NoNumber ?hm_NoNumber ?kv_NoNumber ?kk_NoNumber_FolkError ?kk_NoNumber_NoYard ?kk_NoNumber_NoStanding ?kk_NoNumber_NoLeap ?kk_NoNumber_NoRow ?kk_NoNumber_NoVector ?kk_NoNumber_NoReading ?kk_NoNumber_NoWishes ?kk_NoNumber_NoCell ?kk_NoNumber_NoTable ?kk_NoNumber_NoNumber ?kk_NoNumber_NoPerson ?kk_NoNumber_TooMany ?kp_NoPerson ?sb_NoPerson ?ty_NoPerson ?hg_NoPerson ?hk_NoPerson ?hd_NoPerson ?ha_NoPerson ?hm_NoPerson ?kv_NoPerson ?kk_NoPerson_FolkError ?kk_NoPerson_NoYard ?kk_NoPerson_NoStanding ?kk_NoPerson_NoLeap ?kk_NoPerson_NoRow ?kk_NoPerson_NoVector ?kk_NoPerson_NoReading ?kk_NoPerson_NoWishes ?kk_NoPerson_NoCell ?kk_NoPerson_NoTable ?kk_NoPerson_NoNumber ?kk_NoPerson_NoPerson ?kk_NoPerson_TooMany ?kp_TooMany ?sb_TooMany ?ty_TooMany ?hg_TooMany ?hk_TooMany ?hd_TooMany ?ha_TooMany ?hm_TooMany ?kv_TooMany ?kk_TooMany_FolkError ?kk_TooMany_NoYard ?kk_TooMany_NoStanding ?kk_TooMany_NoLeap ?kk_TooMany_NoRow ?kk_TooMany_NoVector ?kk_TooMany_NoReading ?kk_TooMany_NoWishes ?kk_TooMany_NoCell ?kk_TooMany_NoTable ?kk_TooMany_NoNumber ?kk_TooMany_NoPerson ?kk_TooMany_TooMany ?kn_FolkError ?ic_FolkError ?kn_NoYard ?ic_NoYard ?kn_NoStanding ?ic_NoStanding ?kn_NoLeap ?ic_NoLeap ?kn_NoRow ?ic_NoRow ?kn_NoVector ?ic_NoVector ?kn_NoReading ?ic_NoReading ?kn_NoWishes ?ic_NoWishes ?kn_NoCell ?ic_NoCell ?kn_NoTable ?ic_NoTable ?kn_NoNumber ?ic_NoNumber ?kn_NoPerson ?ic_NoPerson ?kn_TooMany ?ic_TooMany ?bF ?hn ?ht ?tp ?sg ?htop ?lc_NoPerson ?rv_NoPerson ?sa_NoPerson ?no_NoPerson ?ini_NoPerson ?tI_NoPerson ?sup_NoPerson ?ss_NoPerson ?lf_NoPerson ?ci_NoPerson ?la_NoPerson ?vx_NoPerson ?fl_NoPerson ?lk_NoPerson ?lc_TooMany ?rv_TooMany ?sa_TooMany ?no_TooMany ?ini_TooMany ?tI_TooMany ?sup_TooMany ?ss_TooMany ?lf_TooMany ?ci_TooMany ?la_TooMany ?vx_TooMany ?fl_TooMany ?lk_TooMany ?a_is_whole ?l_is_whole ?cc_is_whole ?ke_is_whole ?a_is_whole_in ?l_is_whole_in ?cc_is_whole_in ?ke_is_whole_in ?a_is_tuple_of ?l_is_tuple_of ?cc_is_tuple_of ?ke_is_tuple_of ?a_is_way ?l_is_way ?cc_is_way ?ke_is_way ?a_is_ways ?l_is_ways ?cc_is_ways ?ke_is_ways ?a_is_persons ?l_is_persons ?cc_is_persons ?ke_is_persons ?a_is_posts ?l_is_posts ?cc_is_posts ?ke_is_posts ?a_yard_wrong ?l_yard_wrong ?cc_yard_wrong ?ke_yard_wrong ?a__law_mixed ?l__law_mixed ?cc__law_mixed ?ke__law_mixed ?a__law_pile ?l__law_pile ?cc__law_pile ?ke__law_pile ?a__law_take ?l__law_take ?cc__law_take ?ke__law_take ?a__law_great ?l__law_great ?cc__law_great ?ke__law_great ?a__law_kind ?l__law_kind ?cc__law_kind ?ke__law_kind ?a__law_bare ?l__law_bare ?cc__law_bare ?ke__law_bare ?a__law_all ?l__law_all ?cc__law_all ?ke__law_all ?a_law ?l_law ?cc_law ?ke_law ?zz_ValueError ?zz_abs ?zz_all ?zz_bool ?zz_int ?zz_isinstance ?zz_len ?zz_range ?zz_str ?zz_tuple ?zz_zip ?v_LEAST_PERSONS ?v_MOST_PERSONS ?v_MOST_WAYS
    (case n_FolkError => k_is)
    (case n_NoYard => k_is)
    (case n_NoStanding => k_is)
    (case n_NoLeap => k_is)
    (case n_NoRow => k_is)
    (case n_NoVector => k_is)
    (case n_NoReading => k_is)
    (case n_NoWishes => k_is)
    (case n_NoCell => k_is)
    (case n_NoTable => k_is)
    (case n_NoNumber => k_is)
    (case n_NoPerson => k_is)
    (case n_TooMany => k_is)
    (case x_FolkError => k_exc)
    (case kp_FolkError => k_is)
    (case sb_FolkError => k_is)
    (case ty_FolkError => k_is)
    (case hg_FolkError => k_is)
    (case hk_FolkError => k_is)
    (case hd_FolkError => k_is)
    (case ha_FolkError => k_is)
    (case hm_FolkError => k_is)
    (case kv_FolkError => k_is)
    (case kk_FolkError_FolkError => k_is)
    (case kk_FolkError_NoYard => k_is)
    (case kk_FolkError_NoStanding => k_is)
    (case kk_FolkError_NoLeap => k_is)
    (case kk_FolkError_NoRow => k_is)
    (case kk_FolkError_NoVector => k_is)
    (case kk_FolkError_NoReading => k_is)
    (case kk_FolkError_NoWishes => k_is)
    (case kk_FolkError_NoCell => k_is)
    (case kk_FolkError_NoTable => k_is)
    (case kk_FolkError_NoNumber => k_is)
    (case kk_FolkError_NoPerson => k_is)
    (case kk_FolkError_TooMany => k_is)
    (case x_NoYard => k_exc)
    (case kp_NoYard => k_is)
    (case sb_NoYard => k_is)
    (case ty_NoYard => k_is)
    (case hg_NoYard => k_is)
    (case hk_NoYard => k_is)
    (case hd_NoYard => k_is)
    (case ha_NoYard => k_is)
    (case hm_NoYard => k_is)
    (case kv_NoYard => k_is)
    (case kk_NoYard_FolkError => k_is)
    (case kk_NoYard_NoYard => k_is)
    (case kk_NoYard_NoStanding => k_is)
    (case kk_NoYard_NoLeap => k_is)
    (case kk_NoYard_NoRow => k_is)
    (case kk_NoYard_NoVector => k_is)
    (case kk_NoYard_NoReading => k_is)
    (case kk_NoYard_NoWishes => k_is)
    (case kk_NoYard_NoCell => k_is)
    (case kk_NoYard_NoTable => k_is)
    (case kk_NoYard_NoNumber => k_is)
    (case kk_NoYard_NoPerson => k_is)
    (case kk_NoYard_TooMany => k_is)
    (case x_NoStanding => k_exc)
    (case kp_NoStanding => k_is)
    (case sb_NoStanding => k_is)
    (case ty_NoStanding => k_is)
    (case hg_NoStanding => k_is)
    (case hk_NoStanding => k_is)
    (case hd_NoStanding => k_is)
    (case ha_NoStanding => k_is)
    (case hm_NoStanding => k_is)
    (case kv_NoStanding => k_is)
    (case kk_NoStanding_FolkError => k_is)
    (case kk_NoStanding_NoYard => k_is)
    (case kk_NoStanding_NoStanding => k_is)
    (case kk_NoStanding_NoLeap => k_is)
    (case kk_NoStanding_NoRow => k_is)
    (case kk_NoStanding_NoVector => k_is)
    (case kk_NoStanding_NoReading => k_is)
    (case kk_NoStanding_NoWishes => k_is)
    (case kk_NoStanding_NoCell => k_is)
    (case kk_NoStanding_NoTable => k_is)
    (case kk_NoStanding_NoNumber => k_is)
    (case kk_NoStanding_NoPerson => k_is)
    (case kk_NoStanding_TooMany => k_is)
    (case x_NoLeap => k_exc)
    (case kp_NoLeap => k_is)
    (case sb_NoLeap => k_is)
    (case ty_NoLeap => k_is)
    (case hg_NoLeap => k_is)
    (case hk_NoLeap => k_is)
    (case hd_NoLeap => k_is)
    (case ha_NoLeap => k_is)
    (case hm_NoLeap => k_is)
    (case kv_NoLeap => k_is)
    (case kk_NoLeap_FolkError => k_is)
    (case kk_NoLeap_NoYard => k_is)
    (case kk_NoLeap_NoStanding => k_is)
    (case kk_NoLeap_NoLeap => k_is)
    (case kk_NoLeap_NoRow => k_is)
    (case kk_NoLeap_NoVector => k_is)
    (case kk_NoLeap_NoReading => k_is)
    (case kk_NoLeap_NoWishes => k_is)
    (case kk_NoLeap_NoCell => k_is)
    (case kk_NoLeap_NoTable => k_is)
    (case kk_NoLeap_NoNumber => k_is)
    (case kk_NoLeap_NoPerson => k_is)
    (case kk_NoLeap_TooMany => k_is)
    (case x_NoRow => k_exc)
    (case kp_NoRow => k_is)
    (case sb_NoRow => k_is)
    (case ty_NoRow => k_is)
    (case hg_NoRow => k_is)
    (case hk_NoRow => k_is)
    (case hd_NoRow => k_is)
    (case ha_NoRow => k_is)
    (case hm_NoRow => k_is)
    (case kv_NoRow => k_is)
    (case kk_NoRow_FolkError => k_is)
    (case kk_NoRow_NoYard => k_is)
    (case kk_NoRow_NoStanding => k_is)
    (case kk_NoRow_NoLeap => k_is)
    (case kk_NoRow_NoRow => k_is)
    (case kk_NoRow_NoVector => k_is)
    (case kk_NoRow_NoReading => k_is)
    (case kk_NoRow_NoWishes => k_is)
    (case kk_NoRow_NoCell => k_is)
    (case kk_NoRow_NoTable => k_is)
    (case kk_NoRow_NoNumber => k_is)
    (case kk_NoRow_NoPerson => k_is)
    (case kk_NoRow_TooMany => k_is)
    (case x_NoVector => k_exc)
    (case kp_NoVector => k_is)
    (case sb_NoVector => k_is)
    (case ty_NoVector => k_is)
    (case hg_NoVector => k_is)
    (case hk_NoVector => k_is)
    (case hd_NoVector => k_is)
    (case ha_NoVector => k_is)
    (case hm_NoVector => k_is)
    (case kv_NoVector => k_is)
    (case kk_NoVector_FolkError => k_is)
    (case kk_NoVector_NoYard => k_is)
    (case kk_NoVector_NoStanding => k_is)
    (case kk_NoVector_NoLeap => k_is)
    (case kk_NoVector_NoRow => k_is)
    (case kk_NoVector_NoVector => k_is)
    (case kk_NoVector_NoReading => k_is)
    (case kk_NoVector_NoWishes => k_is)
    (case kk_NoVector_NoCell => k_is)
    (case kk_NoVector_NoTable => k_is)
    (case kk_NoVector_NoNumber => k_is)
    (case kk_NoVector_NoPerson => k_is)
    (case kk_NoVector_TooMany => k_is)
    (case x_NoReading => k_exc)
    (case kp_NoReading => k_is)
    (case sb_NoReading => k_is)
    (case ty_NoReading => k_is)
    (case hg_NoReading => k_is)
    (case hk_NoReading => k_is)
    (case hd_NoReading => k_is)
    (case ha_NoReading => k_is)
    (case hm_NoReading => k_is)
    (case kv_NoReading => k_is)
    (case kk_NoReading_FolkError => k_is)
    (case kk_NoReading_NoYard => k_is)
    (case kk_NoReading_NoStanding => k_is)
    (case kk_NoReading_NoLeap => k_is)
    (case kk_NoReading_NoRow => k_is)
    (case kk_NoReading_NoVector => k_is)
    (case kk_NoReading_NoReading => k_is)
    (case kk_NoReading_NoWishes => k_is)
    (case kk_NoReading_NoCell => k_is)
    (case kk_NoReading_NoTable => k_is)
    (case kk_NoReading_NoNumber => k_is)
    (case kk_NoReading_NoPerson => k_is)
    (case kk_NoReading_TooMany => k_is)
    (case x_NoWishes => k_exc)
    (case kp_NoWishes => k_is)
    (case sb_NoWishes => k_is)
    (case ty_NoWishes => k_is)
    (case hg_NoWishes => k_is)
    (case hk_NoWishes => k_is)
    (case hd_NoWishes => k_is)
    (case ha_NoWishes => k_is)
    (case hm_NoWishes => k_is)
    (case kv_NoWishes => k_is)
    (case kk_NoWishes_FolkError => k_is)
    (case kk_NoWishes_NoYard => k_is)
    (case kk_NoWishes_NoStanding => k_is)
    (case kk_NoWishes_NoLeap => k_is)
    (case kk_NoWishes_NoRow => k_is)
    (case kk_NoWishes_NoVector => k_is)
    (case kk_NoWishes_NoReading => k_is)
    (case kk_NoWishes_NoWishes => k_is)
    (case kk_NoWishes_NoCell => k_is)
    (case kk_NoWishes_NoTable => k_is)
    (case kk_NoWishes_NoNumber => k_is)
    (case kk_NoWishes_NoPerson => k_is)
    (case kk_NoWishes_TooMany => k_is)
    (case x_NoCell => k_exc)
    (case kp_NoCell => k_is)
    (case sb_NoCell => k_is)
    (case ty_NoCell => k_is)
    (case hg_NoCell => k_is)
    (case hk_NoCell => k_is)
    (case hd_NoCell => k_is)
    (case ha_NoCell => k_is)
    (case hm_NoCell => k_is)
    (case kv_NoCell => k_is)
    (case kk_NoCell_FolkError => k_is)
    (case kk_NoCell_NoYard => k_is)
    (case kk_NoCell_NoStanding => k_is)
    (case kk_NoCell_NoLeap => k_is)
    (case kk_NoCell_NoRow => k_is)
    (case kk_NoCell_NoVector => k_is)
    (case kk_NoCell_NoReading => k_is)
    (case kk_NoCell_NoWishes => k_is)
    (case kk_NoCell_NoCell => k_is)
    (case kk_NoCell_NoTable => k_is)
    (case kk_NoCell_NoNumber => k_is)
    (case kk_NoCell_NoPerson => k_is)
    (case kk_NoCell_TooMany => k_is)
    (case x_NoTable => k_exc)
    (case kp_NoTable => k_is)
    (case sb_NoTable => k_is)
    (case ty_NoTable => k_is)
    (case hg_NoTable => k_is)
    (case hk_NoTable => k_is)
    (case hd_NoTable => k_is)
    (case ha_NoTable => k_is)
    (case hm_NoTable => k_is)
    (case kv_NoTable => k_is)
    (case kk_NoTable_FolkError => k_is)
    (case kk_NoTable_NoYard => k_is)
    (case kk_NoTable_NoStanding => k_is)
    (case kk_NoTable_NoLeap => k_is)
    (case kk_NoTable_NoRow => k_is)
    (case kk_NoTable_NoVector => k_is)
    (case kk_NoTable_NoReading => k_is)
    (case kk_NoTable_NoWishes => k_is)
    (case kk_NoTable_NoCell => k_is)
    (case kk_NoTable_NoTable => k_is)
    (case kk_NoTable_NoNumber => k_is)
    (case kk_NoTable_NoPerson => k_is)
    (case kk_NoTable_TooMany => k_is)
    (case x_NoNumber => k_exc)
    (case kp_NoNumber => k_is)
    (case sb_NoNumber => k_is)
    (case ty_NoNumber => k_is)
    (case hg_NoNumber => k_is)
    (case hk_NoNumber => k_is)
    (case hd_NoNumber => k_is)
    (case ha_NoNumber => k_is)
    (case hm_NoNumber => k_is)
    (case kv_NoNumber => k_is)
    (case kk_NoNumber_FolkError => k_is)
    (case kk_NoNumber_NoYard => k_is)
    (case kk_NoNumber_NoStanding => k_is)
    (case kk_NoNumber_NoLeap => k_is)
    (case kk_NoNumber_NoRow => k_is)
    (case kk_NoNumber_NoVector => k_is)
    (case kk_NoNumber_NoReading => k_is)
    (case kk_NoNumber_NoWishes => k_is)
    (case kk_NoNumber_NoCell => k_is)
    (case kk_NoNumber_NoTable => k_is)
    (case kk_NoNumber_NoNumber => k_is)
    (case kk_NoNumber_NoPerson => k_is)
    (case kk_NoNumber_TooMany => k_is)
    (case kp_NoPerson => k_is)
    (case sb_NoPerson => k_is)
    (case ty_NoPerson => k_is)
    (case hg_NoPerson => k_is)
    (case hk_NoPerson => k_is)
    (case hd_NoPerson => k_is)
    (case ha_NoPerson => k_is)
    (case hm_NoPerson => k_is)
    (case kv_NoPerson => k_is)
    (case kk_NoPerson_FolkError => k_is)
    (case kk_NoPerson_NoYard => k_is)
    (case kk_NoPerson_NoStanding => k_is)
    (case kk_NoPerson_NoLeap => k_is)
    (case kk_NoPerson_NoRow => k_is)
    (case kk_NoPerson_NoVector => k_is)
    (case kk_NoPerson_NoReading => k_is)
    (case kk_NoPerson_NoWishes => k_is)
    (case kk_NoPerson_NoCell => k_is)
    (case kk_NoPerson_NoTable => k_is)
    (case kk_NoPerson_NoNumber => k_is)
    (case kk_NoPerson_NoPerson => k_is)
    (case kk_NoPerson_TooMany => k_is)
    (case kp_TooMany => k_is)
    (case sb_TooMany => k_is)
    (case ty_TooMany => k_is)
    (case hg_TooMany => k_is)
    (case hk_TooMany => k_is)
    (case hd_TooMany => k_is)
    (case ha_TooMany => k_is)
    (case hm_TooMany => k_is)
    (case kv_TooMany => k_is)
    (case kk_TooMany_FolkError => k_is)
    (case kk_TooMany_NoYard => k_is)
    (case kk_TooMany_NoStanding => k_is)
    (case kk_TooMany_NoLeap => k_is)
    (case kk_TooMany_NoRow => k_is)
    (case kk_TooMany_NoVector => k_is)
    (case kk_TooMany_NoReading => k_is)
    (case kk_TooMany_NoWishes => k_is)
    (case kk_TooMany_NoCell => k_is)
    (case kk_TooMany_NoTable => k_is)
    (case kk_TooMany_NoNumber => k_is)
    (case kk_TooMany_NoPerson => k_is)
    (case kk_TooMany_TooMany => k_is)
    (case kn_FolkError => k_is)
    (case ic_FolkError => k_is)
    (case kn_NoYard => k_is)
    (case ic_NoYard => k_is)
    (case kn_NoStanding => k_is)
    (case ic_NoStanding => k_is)
    (case kn_NoLeap => k_is)
    (case ic_NoLeap => k_is)
    (case kn_NoRow => k_is)
    (case ic_NoRow => k_is)
    (case kn_NoVector => k_is)
    (case ic_NoVector => k_is)
    (case kn_NoReading => k_is)
    (case ic_NoReading => k_is)
    (case kn_NoWishes => k_is)
    (case ic_NoWishes => k_is)
    (case kn_NoCell => k_is)
    (case ic_NoCell => k_is)
    (case kn_NoTable => k_is)
    (case ic_NoTable => k_is)
    (case kn_NoNumber => k_is)
    (case ic_NoNumber => k_is)
    (case kn_NoPerson => k_is)
    (case ic_NoPerson => k_is)
    (case kn_TooMany => k_is)
    (case ic_TooMany => k_is)
    (case bF => k_is)
    (case hn => k_is)
    (case ht => k_is)
    (case tp => k_is)
    (case sg => k_is)
    (case htop => first | rfl | decide +kernel)
    (case lc_NoPerson => k_is)
    (case rv_NoPerson => first | rfl | decide +kernel)
    (case sa_NoPerson => k_is)
    (case no_NoPerson => k_is)
    (case ini_NoPerson => k_is)
    (case tI_NoPerson => k_is)
    (case sup_NoPerson => ks_is)
    (case ss_NoPerson => k_is)
    (case lf_NoPerson => k_is)
    (case ci_NoPerson => k_is)
    (case la_NoPerson => k_is)
    (case vx_NoPerson => first | rfl | decide +kernel)
    (case fl_NoPerson => first | rfl | decide +kernel)
    (case lk_NoPerson => k_is)
    (case lc_TooMany => k_is)
    (case rv_TooMany => first | rfl | decide +kernel)
    (case sa_TooMany => k_is)
    (case no_TooMany => k_is)
    (case ini_TooMany => k_is)
    (case tI_TooMany => k_is)
    (case sup_TooMany => ks_is)
    (case ss_TooMany => k_is)
    (case lf_TooMany => k_is)
    (case ci_TooMany => k_is)
    (case la_TooMany => k_is)
    (case vx_TooMany => first | rfl | decide +kernel)
    (case fl_TooMany => first | rfl | decide +kernel)
    (case lk_TooMany => k_is)
    (case a_is_whole => k_is)
    (case l_is_whole => k_is)
    (case cc_is_whole => k_is)
    (case ke_is_whole => k_is)
    (case a_is_whole_in => k_is)
    (case l_is_whole_in => k_is)
    (case cc_is_whole_in => k_is)
    (case ke_is_whole_in => k_is)
    (case a_is_tuple_of => k_is)
    (case l_is_tuple_of => k_is)
    (case cc_is_tuple_of => k_is)
    (case ke_is_tuple_of => k_is)
    (case a_is_way => k_is)
    (case l_is_way => k_is)
    (case cc_is_way => k_is)
    (case ke_is_way => k_is)
    (case a_is_ways => k_is)
    (case l_is_ways => k_is)
    (case cc_is_ways => k_is)
    (case ke_is_ways => k_is)
    (case a_is_persons => k_is)
    (case l_is_persons => k_is)
    (case cc_is_persons => k_is)
    (case ke_is_persons => k_is)
    (case a_is_posts => k_is)
    (case l_is_posts => k_is)
    (case cc_is_posts => k_is)
    (case ke_is_posts => k_is)
    (case a_yard_wrong => k_is)
    (case l_yard_wrong => k_is)
    (case cc_yard_wrong => k_is)
    (case ke_yard_wrong => k_is)
    (case a__law_mixed => k_is)
    (case l__law_mixed => k_is)
    (case cc__law_mixed => k_is)
    (case ke__law_mixed => k_is)
    (case a__law_pile => k_is)
    (case l__law_pile => k_is)
    (case cc__law_pile => k_is)
    (case ke__law_pile => k_is)
    (case a__law_take => k_is)
    (case l__law_take => k_is)
    (case cc__law_take => k_is)
    (case ke__law_take => k_is)
    (case a__law_great => k_is)
    (case l__law_great => k_is)
    (case cc__law_great => k_is)
    (case ke__law_great => k_is)
    (case a__law_kind => k_is)
    (case l__law_kind => k_is)
    (case cc__law_kind => k_is)
    (case ke__law_kind => k_is)
    (case a__law_bare => k_is)
    (case l__law_bare => k_is)
    (case cc__law_bare => k_is)
    (case ke__law_bare => k_is)
    (case a__law_all => k_is)
    (case l__law_all => k_is)
    (case cc__law_all => k_is)
    (case ke__law_all => k_is)
    (case a_law => k_is)
    (case l_law => k_is)
    (case cc_law => k_is)
    (case ke_law => k_is)
    (case zz_ValueError => k_is)
    (case zz_abs => k_is)
    (case zz_all => k_is)
    (case zz_bool => k_is)
    (case zz_int => k_is)
    (case zz_isinstance => k_is)
    (case zz_len => k_is)
    (case zz_range => k_is)
    (case zz_str => k_is)
    (case zz_tuple => k_is)
    (case zz_zip => k_is)
    (case v_LEAST_PERSONS => k_is)
    (case v_MOST_PERSONS => k_is)
    (case v_MOST_WAYS => k_is)
