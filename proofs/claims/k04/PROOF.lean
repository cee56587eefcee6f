import PyProof.Rows.All
import Wide.All
import OpenK.AllK
import Wide.FinOn
import HandS.ForMost
import HandS.Exc
import HandS.TryOnly
import HandS.ExcOwn
import HandS.WordsExc
import HandS.Wide
import PyProof.Rows.SeqMore
import HandS.IsInst
import HandS.TupAny
import HandS.Zip
import KE.GoesNew
import HandS.ExcIs
import HandS.Gcd
import HandS.TryMany
import HandS.TupMul
import KE.KDictKeyed
import HandS.Style
import PySem.Challenge.RW_leapfolk_k04_steady_leaps
set_option Elab.async false
set_option linter.all false
set_option maxRecDepth 100000
set_option maxHeartbeats 8000000
namespace DL
open PySem L2

/-- data: a value as a tree -/
inductive D where
  | non | bl (b : Bool) | int (i : Int) | str (x : Str)
  | tup (xs : List D) | lst (xs : List D)
  | exc (k : Nat) (x : D)
  | ty (n : String) | cls (k : Nat) | obj (a : Addr)
  deriving Inhabited

/-- the program's own classes by number -/
def clsStr : Nat → Str
  | 0 => "FolkError" | 1 => "NoYard" | 2 => "NoStanding" | 3 => "NoLeap" | 4 => "NoRow" | 5 => "NoVector" | 6 => "NoReading" | 7 => "NoWishes" | 8 => "NoCell" | 9 => "NoTable" | 10 => "NoNumber" | 11 => "NoPerson" | _ => "TooMany"
def ClsAt (K : PySem.W.Frag) (k : Nat) (c : Addr) : Prop := PySem.W.nsIn K mainGlobals (clsStr k) = some (some (.ref c))
/-- an exception object of the class at c, its dict d -/
def ExH (c : Addr) (d : Option Addr) (a : Addr) : HO := .ext fun h => ∃ (oe : Obj) (vs : Array Value), h.get? a = some oe ∧ oe.cls = .ref c ∧ oe.dict = d ∧ oe.data = .fields vs

mutual
def Is (K : PySem.W.Frag) (H : Hp) : D → V → Prop
  | .non, v => v = .non
  | .bl b, v => v = .bl b
  | .int i, v => v = .int i
  | .str x, v => v = .str x
  | .ty n, v => v = .ty n
  | .cls k, v => ∃ c, ClsAt K k c ∧ v = .ref c
  | .obj a, v => v = .ref a
  | .tup ds, v => ∃ a xs, v = .ref a ∧ SqT K H a xs ∧ IsA K H ds xs
  | .lst ds, v => ∃ a xs, v = .ref a ∧ SqL K H a xs ∧ IsA K H ds xs
  | .exc k x, v => ∃ a c, ClsAt K k c ∧ v = .ref a ∧ ((k < 11 ∧ x = .non ∧ H a = some (ExH c none a)) ∨
      11 ≤ k ∧ ∃ dd f y, H a = some (ExH c (some dd) a) ∧ H dd = some (.xd [(f, y)]) ∧ Is K H x y)
def IsA (K : PySem.W.Frag) (H : Hp) : List D → List V → Prop
  | [], vs => vs = []
  | d :: ds, vs => ∃ v r, vs = v :: r ∧ Is K H d v ∧ IsA K H ds r
end

theorem Same.tup {K : PySem.W.Frag} {H H' : Hp} {a : Addr} {xs : List V} (e : Same H H') (h : SqT K H a xs) : SqT K H' a xs := by
  rcases h with (h | ⟨o, h⟩) | h
  · exact .inl (.inl (e _ _ h))
  · exact .inl (.inr ⟨o, e _ _ h⟩)
  · exact .inr h

theorem Same.rd {H H' : Hp} {a : Addr} {u : HO} (e : Same H H') (h : Rd H a u) : Rd H' a u := by
  rcases h with h | ⟨o, h⟩
  · exact .inl (e _ _ h)
  · exact .inr ⟨o, e _ _ h⟩

mutual
theorem Is.mono {K : PySem.W.Frag} {H H' : Hp} (e : Same H H') : ∀ (d : D) (v : V), Is K H d v → Is K H' d v
  | .non, v, h => by simpa only [Is] using h
  | .bl b, v, h => by simpa only [Is] using h
  | .int i, v, h => by simpa only [Is] using h
  | .str x, v, h => by simpa only [Is] using h
  | .ty n, v, h => by simpa only [Is] using h
  | .cls c, v, h => by simpa only [Is] using h
  | .obj c, v, h => by simpa only [Is] using h
  | .tup ds, v, h => by
    simp only [Is] at h ⊢
    obtain ⟨a, xs, rfl, h1, h2⟩ := h
    exact ⟨a, xs, rfl, Same.tup e h1, IsA.mono e ds xs h2⟩
  | .lst ds, v, h => by
    simp only [Is] at h ⊢
    obtain ⟨a, xs, rfl, h1, h2⟩ := h
    exact ⟨a, xs, rfl, Same.seq e h1, IsA.mono e ds xs h2⟩
  | .exc c x, v, h => by
    simp only [Is] at h ⊢
    obtain ⟨a, c0, hc, rfl, h | ⟨hk, dd, f, y, h1, h2, h3⟩⟩ := h
    · exact ⟨a, c0, hc, rfl, .inl ⟨h.1, h.2.1, e _ _ h.2.2⟩⟩
    · exact ⟨a, c0, hc, rfl, .inr ⟨hk, dd, f, y, e _ _ h1, e _ _ h2, Is.mono e x y h3⟩⟩
theorem IsA.mono {K : PySem.W.Frag} {H H' : Hp} (e : Same H H') : ∀ (ds : List D) (vs : List V), IsA K H ds vs → IsA K H' ds vs
  | [], vs, h => by simpa only [IsA] using h
  | d :: ds, vs, h => by
    simp only [IsA] at h ⊢
    obtain ⟨v, r, rfl, h1, h2⟩ := h
    exact ⟨v, r, rfl, Is.mono e d v h1, IsA.mono e ds r h2⟩
end
section
variable {K : PySem.W.Frag} {H : Hp}
theorem IsA.length : ∀ {ds : List D} {vs : List V}, IsA K H ds vs → vs.length = ds.length
  | [], vs, h => by simp only [IsA] at h; subst h; rfl
  | d :: ds, vs, h => by
    simp only [IsA] at h
    obtain ⟨v, r, rfl, _, h2⟩ := h
    simp [IsA.length h2]
theorem IsA.nil : IsA K H [] [] := by simp only [IsA]
theorem IsA.cons {d : D} {v : V} {ds : List D} {vs : List V} (h : Is K H d v) (hs : IsA K H ds vs) : IsA K H (d :: ds) (v :: vs) := by
  simp only [IsA]; exact ⟨v, vs, rfl, h, hs⟩
theorem IsA.append : ∀ {ds es : List D} {vs ws : List V}, IsA K H ds vs → IsA K H es ws → IsA K H (ds ++ es) (vs ++ ws)
  | [], es, vs, ws, h, h' => by simp only [IsA] at h; subst h; exact h'
  | d :: ds, es, vs, ws, h, h' => by
    simp only [IsA] at h
    obtain ⟨v, r, rfl, h1, h2⟩ := h
    exact IsA.cons h1 (IsA.append h2 h')
theorem IsA.get : ∀ {ds : List D} {vs : List V} {i : Nat} {d : D}, IsA K H ds vs → ds[i]? = some d → ∃ v, vs[i]? = some v ∧ Is K H d v
  | [], vs, i, d, _, e => by simp at e
  | x :: ds, vs, 0, d, h, e => by
    simp only [IsA] at h
    obtain ⟨v, r, rfl, h1, h2⟩ := h
    simp at e; subst e
    exact ⟨v, rfl, h1⟩
  | x :: ds, vs, i + 1, d, h, e => by
    simp only [IsA] at h
    obtain ⟨v, r, rfl, h1, h2⟩ := h
    obtain ⟨w, e1, e2⟩ := IsA.get (i := i) (d := d) h2 (by simpa using e)
    exact ⟨w, by simpa using e1, e2⟩
theorem IsA.get' : ∀ {ds : List D} {vs : List V} {i : Nat} {v : V}, IsA K H ds vs → vs[i]? = some v → ∃ d, ds[i]? = some d ∧ Is K H d v := fun {ds vs i v} h e => by
  have hl := h.length
  obtain ⟨hi, _⟩ := List.getElem?_eq_some_iff.mp e
  have : i < ds.length := by omega
  obtain ⟨w, e1, e2⟩ := h.get (List.getElem?_eq_getElem this)
  rw [e] at e1; cases e1
  exact ⟨_, List.getElem?_eq_getElem this, e2⟩
theorem IsA.set : ∀ {ds : List D} {vs : List V} {d : D} {v : V} (i : Nat), IsA K H ds vs → Is K H d v → IsA K H (ds.set i d) (vs.set i v)
  | [], vs, d, v, i, h, _ => by simp only [IsA] at h; subst h; exact IsA.nil
  | x :: ds, vs, d, v, 0, h, h' => by
    simp only [IsA] at h
    obtain ⟨w, r, rfl, h1, h2⟩ := h
    exact IsA.cons h' h2
  | x :: ds, vs, d, v, i + 1, h, h' => by
    simp only [IsA] at h
    obtain ⟨w, r, rfl, h1, h2⟩ := h
    exact IsA.cons h1 (IsA.set i h2 h')
theorem IsA.take : ∀ {ds : List D} {vs : List V} (n : Nat), IsA K H ds vs → IsA K H (ds.take n) (vs.take n)
  | ds, vs, 0, _ => by simp only [List.take_zero]; exact IsA.nil
  | [], vs, n + 1, h => by simp only [IsA] at h; subst h; exact IsA.nil
  | x :: ds, vs, n + 1, h => by
    simp only [IsA] at h
    obtain ⟨w, r, rfl, h1, h2⟩ := h
    exact IsA.cons h1 (IsA.take n h2)
theorem IsA.drop : ∀ {ds : List D} {vs : List V} (n : Nat), IsA K H ds vs → IsA K H (ds.drop n) (vs.drop n)
  | ds, vs, 0, h => by simpa using h
  | [], vs, n + 1, h => by simp only [IsA] at h; subst h; exact IsA.nil
  | x :: ds, vs, n + 1, h => by
    simp only [IsA] at h
    obtain ⟨w, r, rfl, h1, h2⟩ := h
    exact IsA.drop n h2
theorem Is.nonI : Is K H .non .non := by simp only [Is]
theorem Is.blI {b : Bool} : Is K H (.bl b) (.bl b) := by simp only [Is]
theorem Is.intI {i : Int} : Is K H (.int i) (.int i) := by simp only [Is]
theorem Is.strI {x : Str} : Is K H (.str x) (.str x) := by simp only [Is]
theorem Is.tupI {a : Addr} {xs : List V} {ds : List D} (h : SqT K H a xs) (h' : IsA K H ds xs) : Is K H (.tup ds) (.ref a) := by simp only [Is]; exact ⟨a, xs, rfl, h, h'⟩
theorem Is.lstI {a : Addr} {xs : List V} {ds : List D} (h : SqL K H a xs) (h' : IsA K H ds xs) : Is K H (.lst ds) (.ref a) := by simp only [Is]; exact ⟨a, xs, rfl, h, h'⟩
end

/-! ### states -/
/-- what a slot holds: nothing, a value that stays as it is, a list of one's own (io: of the caller's, to be handed back) -/
inductive Sl where
  | un | va (d : D) | ow (io : Bool) (xs : List D)
  deriving Inhabited
abbrev Rho := List Sl
/-- an expression's worth: a value that stays, a new list that nobody holds, the own list of slot i -/
inductive Rs where
  | va (d : D) | fr (xs : List D) | al (i : Nat)
structure Exn where
  cls : Nat
  x : D
inductive Res (α : Type) where
  | ok (a : α) (ρ : Rho) | er (e : Exn) (ρ : Rho) | stuck
abbrev M (α : Type) := Rho → Res α


def SlR (K : PySem.W.Frag) (Hb H : Hp) : Option V → Sl → Prop
  | _, .un => True
  | o, .va d => ∃ v, o = some v ∧ Is K Hb d v
  | o, .ow _ xs => ∃ p vs, o = some (.ref p) ∧ H p = some (.lst vs) ∧ IsA K Hb xs vs ∧ Hb p = none
def OwnAt (σ : L2.St) (ρ : Rho) (i : Nat) (b : Addr) : Prop := σ[i]? = some (some (.ref b)) ∧ ∃ io xs, ρ[i]? = some (Sl.ow io xs)
def Own (σ : L2.St) (ρ : Rho) (b : Addr) : Prop := ∃ i, OwnAt σ ρ i b
structure StR (K : PySem.W.Frag) (Hb : Hp) (σ : L2.St) (ρ : Rho) (H : Hp) : Prop where
  sub : Same Hb H
  len : σ.length = ρ.length
  sl : ∀ (i : Nat) (s : Sl), ρ[i]? = some s → ∃ o, σ[i]? = some o ∧ SlR K Hb H o s
  dis : ∀ i j b, OwnAt σ ρ i b → OwnAt σ ρ j b → i = j
theorem StR.own {K : PySem.W.Frag} {Hb H : Hp} {σ : L2.St} {ρ : Rho} (S : StR K Hb σ ρ H) {i : Nat} {io : Bool} {xs : List D} (h : ρ[i]? = some (.ow io xs)) :
    ∃ p vs, OwnAt σ ρ i p ∧ σ[i]? = some (some (.ref p)) ∧ H p = some (.lst vs) ∧ IsA K Hb xs vs ∧ Hb p = none := by
  obtain ⟨o, e, p, vs, rfl, h1, h2, h3⟩ := S.sl i _ h
  exact ⟨p, vs, ⟨e, io, xs, h⟩, e, h1, h2, h3⟩
theorem StR.ownH {K : PySem.W.Frag} {Hb H : Hp} {σ : L2.St} {ρ : Rho} (S : StR K Hb σ ρ H) {b : Addr} (h : Own σ ρ b) : ∃ vs, H b = some (.lst vs) ∧ Hb b = none := by
  obtain ⟨i, e, io, xs, h⟩ := h
  obtain ⟨p, vs, _, e', h1, _, h3⟩ := S.own h
  rw [e] at e'; cases e'
  exact ⟨vs, h1, h3⟩
theorem StR.va {K : PySem.W.Frag} {Hb H : Hp} {σ : L2.St} {ρ : Rho} (S : StR K Hb σ ρ H) {i : Nat} {d : D} (h : ρ[i]? = some (.va d)) : ∃ v, σ[i]? = some (some v) ∧ Is K Hb d v := by
  obtain ⟨o, e, v, rfl, h1⟩ := S.sl i _ h
  exact ⟨v, e, h1⟩

/-- from one state to a later one, the slots' values the same (an expression) -/
structure Ste (K : PySem.W.Frag) (σ : L2.St) (Hb : Hp) (ρ : Rho) (H : Hp) (Hb' : Hp) (ρ' : Rho) (H' : Hp) : Prop where
  fr : ∀ b o, H b = some o → ¬ Own σ ρ b → H' b = some o
  th : ∀ b, H' b = none → H b = none
  gr : Same Hb Hb'
  gn : ∀ b o, H b = some o → Hb b = none → ¬ Own σ ρ b → Hb' b = none
  ow : ∀ b, Own σ ρ' b → Own σ ρ b
  io : ∀ (i : Nat) (xs : List D), ρ[i]? = some (Sl.ow true xs) → ∃ ys, ρ'[i]? = some (Sl.ow true ys)
  st : StR K Hb' σ ρ' H'
/-- .. of a statement -/
structure SteS (K : PySem.W.Frag) (Hb : Hp) (σ : L2.St) (ρ : Rho) (H : Hp) (Hb' : Hp) (σ' : L2.St) (ρ' : Rho) (H' : Hp) : Prop where
  fr : ∀ b o, H b = some o → ¬ Own σ ρ b → H' b = some o
  th : ∀ b, H' b = none → H b = none
  gr : Same Hb Hb'
  gn : ∀ b o, H b = some o → Hb b = none → ¬ Own σ ρ b → Hb' b = none
  ow : ∀ b, Own σ' ρ' b → Own σ ρ b ∨ H b = none
  io : ∀ (i : Nat) (xs : List D), ρ[i]? = some (Sl.ow true xs) → σ'[i]? = σ[i]? ∧ ∃ ys, ρ'[i]? = some (Sl.ow true ys)
  len : ρ'.length = ρ.length
  st : StR K Hb' σ' ρ' H'
section
variable {K : PySem.W.Frag} {σ σ1 σ2 : L2.St} {Hb Hb1 Hb2 H H1 H2 : Hp} {ρ ρ1 ρ2 : Rho}
theorem Ste.refl (S : StR K Hb σ ρ H) : Ste K σ Hb ρ H Hb ρ H := ⟨fun _ _ h _ => h, fun _ h => h, Same.refl _, fun _ _ _ h _ => h, fun _ h => h, fun _ xs h => ⟨xs, h⟩, S⟩
theorem Ste.trans (a : Ste K σ Hb ρ H Hb1 ρ1 H1) (b : Ste K σ Hb1 ρ1 H1 Hb2 ρ2 H2) : Ste K σ Hb ρ H Hb2 ρ2 H2 where
  fr := fun c o h n => b.fr c o (a.fr c o h n) fun z => n (a.ow c z)
  th := fun c h => a.th c (b.th c h)
  gr := a.gr.trans b.gr
  gn := fun c o h n q => b.gn c o (a.fr c o h q) (a.gn c o h n q) fun z => q (a.ow c z)
  ow := fun c h => a.ow c (b.ow c h)
  io := fun i xs h => let ⟨ys, h1⟩ := a.io i xs h; b.io i ys h1
  st := b.st
theorem Ste.toS (a : Ste K σ Hb ρ H Hb1 ρ1 H1) (S : StR K Hb σ ρ H) : SteS K Hb σ ρ H Hb1 σ ρ1 H1 :=
  ⟨a.fr, a.th, a.gr, a.gn, fun b h => .inl (a.ow b h), fun i xs h => ⟨rfl, a.io i xs h⟩, by rw [← a.st.len, S.len], a.st⟩
theorem SteS.refl (S : StR K Hb σ ρ H) : SteS K Hb σ ρ H Hb σ ρ H := (Ste.refl S).toS S
theorem SteS.trans (a : SteS K Hb σ ρ H Hb1 σ1 ρ1 H1) (b : SteS K Hb1 σ1 ρ1 H1 Hb2 σ2 ρ2 H2) : SteS K Hb σ ρ H Hb2 σ2 ρ2 H2 := by
  have no : ∀ c o, H c = some o → ¬ Own σ ρ c → ¬ Own σ1 ρ1 c := fun c o h n z => by
    rcases a.ow c z with q | q
    · exact n q
    · rw [h] at q; cases q
  refine ⟨fun c o h n => b.fr c o (a.fr c o h n) (no c o h n), fun c h => a.th c (b.th c h), a.gr.trans b.gr, fun c o h n q => b.gn c o (a.fr c o h q) (a.gn c o h n q) (no c o h q), fun c h => ?_, fun i xs h => ?_, by rw [b.len, a.len], b.st⟩
  · rcases b.ow c h with q | q
    · exact a.ow c q
    · exact .inr (a.th c q)
  · obtain ⟨e, ys, h1⟩ := a.io i xs h
    obtain ⟨e', h2⟩ := b.io i ys h1
    exact ⟨e'.trans e, h2⟩
end

/-! ### what an expression is worth -/
def RsR (K : PySem.W.Frag) (H0 Hb : Hp) (σ : L2.St) (H : Hp) : Rs → V → Prop
  | .va d, v => Is K Hb d v
  | .fr xs, v => ∃ p vs, v = .ref p ∧ H0 p = none ∧ Hb p = none ∧ H p = some (.lst vs) ∧ IsA K Hb xs vs
  | .al i, v => σ[i]? = some (some v)
def rd (ρ : Rho) : Rs → Option D
  | .va d => some d
  | .fr xs => some (.lst xs)
  | .al i => match ρ[i]? with
    | some (.va d) => some d
    | some (.ow _ xs) => some (.lst xs)
    | _ => none
/-- what may be read just now -/
def RdR (K : PySem.W.Frag) (Hb H : Hp) (d : D) (v : V) : Prop := Is K Hb d v ∨ ∃ p vs xs, d = .lst xs ∧ v = .ref p ∧ H p = some (.lst vs) ∧ IsA K Hb xs vs
section
variable {K : PySem.W.Frag} {σ : L2.St} {H0 Hb Hb1 H H1 : Hp} {ρ ρ1 : Rho} {r : Rs} {v : V} {d : D}
theorem RdR.is (s : Same Hb H) (h : RdR K Hb H d v) : Is K H d v := by
  rcases h with h | ⟨p, vs, xs, rfl, rfl, h1, h2⟩
  · exact Is.mono s d v h
  · exact Is.lstI (.inl (.inl h1)) (IsA.mono s _ _ h2)
theorem RdR.lstR {xs : List D} (s : Same Hb H) (h : RdR K Hb H (.lst xs) v) : ∃ p vs, v = .ref p ∧ SqL K H p vs ∧ IsA K Hb xs vs := by
  rcases h with h | ⟨p, vs, xs', e, rfl, h1, h2⟩
  · simp only [Is] at h
    obtain ⟨a, vs, rfl, h1, h2⟩ := h
    exact ⟨a, vs, rfl, Same.seq s h1, h2⟩
  · cases e
    exact ⟨p, vs, rfl, .inl (.inl h1), h2⟩
theorem RdR.lst {xs : List D} (s : Same Hb H) (h : RdR K Hb H (.lst xs) v) : ∃ p vs, v = .ref p ∧ SqL K H p vs ∧ IsA K Hb xs vs := by
  obtain ⟨p, vs, e, h1, h2⟩ := RdR.lstR s h
  exact ⟨p, vs, e, h1, h2⟩
theorem RdR.tup {xs : List D} (s : Same Hb H) (h : RdR K Hb H (.tup xs) v) : ∃ p vs, v = .ref p ∧ SqT K H p vs ∧ IsA K Hb xs vs := by
  rcases h with h | ⟨p, vs, xs', e, rfl, h1, h2⟩
  · simp only [Is] at h
    obtain ⟨a, vs, rfl, h1, h2⟩ := h
    exact ⟨a, vs, rfl, Same.tup s h1, h2⟩
  · cases e
theorem RdR.va (h : Is K Hb d v) : RdR K Hb H d v := .inl h
theorem RdR.int {i : Int} (h : RdR K Hb H (.int i) v) : v = .int i := by
  rcases h with h | ⟨_, _, _, e, _⟩
  · simpa only [Is] using h
  · cases e
theorem RdR.bl {i : Bool} (h : RdR K Hb H (.bl i) v) : v = .bl i := by
  rcases h with h | ⟨_, _, _, e, _⟩
  · simpa only [Is] using h
  · cases e
theorem RdR.str {i : Str} (h : RdR K Hb H (.str i) v) : v = .str i := by
  rcases h with h | ⟨_, _, _, e, _⟩
  · simpa only [Is] using h
  · cases e
theorem RdR.non (h : RdR K Hb H .non v) : v = .non := by
  rcases h with h | ⟨_, _, _, e, _⟩
  · simpa only [Is] using h
  · cases e
theorem rd_ok (S : StR K Hb σ ρ H) (h : RsR K H0 Hb σ H r v) (e : rd ρ r = some d) : RdR K Hb H d v := by
  cases r with
  | va d' => cases e; exact .inl h
  | fr xs =>
    cases e
    obtain ⟨p, vs, rfl, _, _, h1, h2⟩ := h
    exact .inr ⟨p, vs, xs, rfl, rfl, h1, h2⟩
  | al i =>
    have h : σ[i]? = some (some v) := h
    cases q : ρ[i]? with
    | none => simp only [rd, q] at e; cases e
    | some s =>
      cases s with
      | un => simp only [rd, q] at e; cases e
      | va d' =>
        simp only [rd, q] at e; cases e
        obtain ⟨w, e1, h1⟩ := S.va q
        rw [h] at e1; cases e1
        exact .inl h1
      | ow io xs =>
        simp only [rd, q] at e; cases e
        obtain ⟨p, vs, _, e1, h1, h2, _⟩ := S.own q
        rw [h] at e1; cases e1
        exact .inr ⟨p, vs, xs, rfl, rfl, h1, h2⟩
/-- a worth stays over a later step; O: what is owned was there at H0 -/
theorem RsR.step (O : ∀ b, Own σ ρ b → H0 b ≠ none) (s : Ste K σ Hb ρ H Hb1 ρ1 H1) (h : RsR K H0 Hb σ H r v) : RsR K H0 Hb1 σ H1 r v := by
  cases r with
  | va d => exact Is.mono s.gr d v h
  | fr xs =>
    obtain ⟨p, vs, rfl, h0, h1, h2, h3⟩ := h
    have no : ¬ Own σ ρ p := fun z => O p z h0
    exact ⟨p, vs, rfl, h0, s.gn p _ h2 h1 no, s.fr p _ h2 no, IsA.mono s.gr _ _ h3⟩
  | al i => exact h
theorem RsR.older {H00 : Hp} (h : RsR K H0 Hb σ H r v) (o : ∀ b, H0 b = none → H00 b = none) : RsR K H00 Hb σ H r v := by
  cases r with
  | va d => exact h
  | fr xs =>
    obtain ⟨p, vs, rfl, h0, h1⟩ := h
    exact ⟨p, vs, rfl, o p h0, h1⟩
  | al i => exact h
end
end DL

namespace DL
open PySem L2

def bnd {α β : Type} (m : Res α) (f : α → Rho → Res β) : Res β := match m with
  | .ok a ρ => f a ρ
  | .er e ρ => .er e ρ
  | .stuck => .stuck

def ExR (K : PySem.W.Frag) (Hb H : Hp) (e : Exn) (d : Value × Option Addr) : Prop :=
  ∃ c, ClsAt K e.cls c ∧ d.1 = .ref c ∧ ((e.cls < 11 ∧ e.x = .non ∧ d.2 = none) ∨ 11 ≤ e.cls ∧ ∃ dd f y, d.2 = some dd ∧ Hb dd = some (.xd [(f, y)]) ∧ Is K Hb e.x y)

def PostM (K : PySem.W.Frag) (W : WX) (Hb : Hp) (σ : L2.St) (ρ : Rho) (H : Hp) (Q : VK) : Res Rs → Prop
  | .ok r ρ' => ∀ v H' Hb', Ste K σ Hb ρ H Hb' ρ' H' → RsR K H Hb' σ H' r v → Q v H'
  | .er e ρ' => ∀ (d : Value × Option Addr) H' Hb', Ste K σ Hb ρ H Hb' ρ' H' → ExR K Hb' H' e d → W d.1 d.2 σ H'
  | .stuck => False
def PostA (K : PySem.W.Frag) (W : WX) (Hb : Hp) (σ : L2.St) (ρ : Rho) (H : Hp) (Q : List V → Hp → Prop) : Res (List Rs) → Prop
  | .ok rs ρ' => ∀ vs H' Hb', Ste K σ Hb ρ H Hb' ρ' H' → Paired (RsR K H Hb' σ H') rs vs → Q vs H'
  | .er e ρ' => ∀ (d : Value × Option Addr) H' Hb', Ste K σ Hb ρ H Hb' ρ' H' → ExR K Hb' H' e d → W d.1 d.2 σ H'
  | .stuck => False
def PostT (K : PySem.W.Frag) (W : WX) (Hb : Hp) (σ : L2.St) (ρ : Rho) (H : Hp) (Q : Bool → Hp → Prop) : Res Bool → Prop
  | .ok b ρ' => ∀ H' Hb', Ste K σ Hb ρ H Hb' ρ' H' → Q b H'
  | .er e ρ' => ∀ (d : Value × Option Addr) H' Hb', Ste K σ Hb ρ H Hb' ρ' H' → ExR K Hb' H' e d → W d.1 d.2 σ H'
  | .stuck => False
/-- an expression's reading by its meaning -/
def tM (K : PySem.W.Frag) (W : WX) (m : M Rs) : TE := fun σ H Q => ∃ Hb ρ, StR K Hb σ ρ H ∧ PostM K W Hb σ ρ H Q (m ρ)
def tA (K : PySem.W.Frag) (W : WX) (m : M (List Rs)) : TA := fun σ H Q => ∃ Hb ρ, StR K Hb σ ρ H ∧ PostA K W Hb σ ρ H Q (m ρ)
def tT (K : PySem.W.Frag) (W : WX) (m : M Bool) : TT := fun σ H Q => ∃ Hb ρ, StR K Hb σ ρ H ∧ PostT K W Hb σ ρ H Q (m ρ)

section
variable {X : Cx}
theorem PE.imp {e : Expr} {t t' : TE} (h : PE X e t) (i : ∀ σ H Q, t' σ H Q → t σ H Q) : PE X e t' := ⟨fun pins s σ H Q I q => h.run pins s σ H Q I (i σ H Q q)⟩
theorem PT.imp {e : Expr} {t t' : TT} (h : PT X e t) (i : ∀ σ H Q, t' σ H Q → t σ H Q) : PT X e t' := ⟨fun pins s σ H Q I q => h.run pins s σ H Q I (i σ H Q q)⟩
theorem PW.imp {e : Expr} {t t' : TT} (h : PW X e t) (i : ∀ σ H Q, t' σ H Q → t σ H Q) : PW X e t' := ⟨fun wh pins s σ H Q I q => h.run wh pins s σ H Q I (i σ H Q q)⟩
theorem PA.imp {es : List Expr} {t t' : TA} (h : PA X es t) (i : ∀ σ H Q, t' σ H Q → t σ H Q) : PA X es t' := ⟨fun pos pins s σ H Q I q => h.run pos pins s σ H Q I (i σ H Q q)⟩
theorem PS.imp {st : Stmt} {t t' : TS} (h : PS X st t) (i : ∀ D σ H, t' D σ H → t D σ H) : PS X st t' := ⟨fun pins s σ H D I q => h.run pins s σ H D I (i D σ H q)⟩
theorem PSs.imp {st : List Stmt} {t t' : TS} (h : PSs X st t) (i : ∀ D σ H, t' D σ H → t D σ H) : PSs X st t' := ⟨fun pins s σ H D I q => h.run pins s σ H D I (i D σ H q)⟩
end

/-- the heap has only grown -/
structure Gro (Hb H Hb' H' : Hp) : Prop where
  fr : Same H H'
  gr : Same Hb Hb'
  gn : ∀ b o, H b = some o → Hb b = none → Hb' b = none
  sub : Same Hb' H'
theorem Same.new {H : Hp} {p : Addr} {o : HO} (h : H p = none) : Same H (upd H p o) := fun b x e => by
  rw [upd_ne (ne_of_none e h)]
  exact e
theorem Same.new2 {H H' : Hp} {p : Addr} {o : HO} (s : Same H H') : Same (upd H p o) (upd H' p o) := fun b x e => by
  by_cases hb : b = p
  · subst hb; rw [upd_same] at e ⊢; exact e
  · rw [upd_ne hb] at e ⊢; exact s b x e
theorem Same.none {H H' : Hp} (s : Same H H') {b : Addr} (h : H' b = none) : H b = none := s.free h
section
variable {K : PySem.W.Frag} {σ : L2.St} {Hb Hb1 Hb2 H H1 H2 : Hp} {ρ : Rho} {p : Addr} {o : HO}
theorem Gro.refl (s : Same Hb H) : Gro Hb H Hb H := ⟨Same.refl _, Same.refl _, fun _ _ _ h => h, s⟩
theorem Gro.newL (s : Same Hb H) (h : H p = none) : Gro Hb H Hb (upd H p o) := ⟨Same.new h, Same.refl _, fun _ _ _ h => h, s.trans (Same.new h)⟩
theorem Gro.newT (s : Same Hb H) (h : H p = none) : Gro Hb H (upd Hb p o) (upd H p o) :=
  ⟨Same.new h, Same.new (Same.none s h), fun b u e n => by rw [upd_ne (ne_of_none e h)]; exact n, Same.new2 s⟩
theorem Gro.trans (a : Gro Hb H Hb1 H1) (b : Gro Hb1 H1 Hb2 H2) : Gro Hb H Hb2 H2 :=
  ⟨a.fr.trans b.fr, a.gr.trans b.gr, fun c o e n => b.gn c o (a.fr c o e) (a.gn c o e n), b.sub⟩
theorem StR.grow (S : StR K Hb σ ρ H) (g : Gro Hb H Hb1 H1) : StR K Hb1 σ ρ H1 := by
  refine ⟨g.sub, S.len, fun i s e => ?_, S.dis⟩
  obtain ⟨o, h1, h2⟩ := S.sl i s e
  refine ⟨o, h1, ?_⟩
  cases s with
  | un => trivial
  | va d =>
    obtain ⟨v, h3, h4⟩ := h2
    exact ⟨v, h3, Is.mono g.gr _ _ h4⟩
  | ow io xs =>
    obtain ⟨q, vs, h3, h4, h5, h6⟩ := h2
    exact ⟨q, vs, h3, g.fr _ _ h4, IsA.mono g.gr _ _ h5, g.gn _ _ h4 h6⟩
theorem Gro.ste (S : StR K Hb σ ρ H) (g : Gro Hb H Hb1 H1) : Ste K σ Hb ρ H Hb1 ρ H1 :=
  ⟨fun b o e _ => g.fr b o e, fun b h => Same.none g.fr h, g.gr, fun b o e n _ => g.gn b o e n, fun b h => h, fun i xs h => ⟨xs, h⟩, S.grow g⟩
end

section
variable {K : PySem.W.Frag} {W : WX} {X : Cx} {σ : L2.St} {H : Hp} {Q : VK}
theorem RsR.some {H0 Hb : Hp} {r : Rs} {v : V} (h : RsR K H0 Hb [] H r v) : RsR K H0 Hb σ H r v := by
  cases r with
  | va d => exact h
  | fr xs => exact h
  | al i => exact absurd h (by simp [RsR])
theorem own_there {Hb : Hp} {ρ : Rho} (S : StR K Hb σ ρ H) : ∀ b, Own σ ρ b → H b ≠ none := fun b h e => by
  obtain ⟨vs, h1, _⟩ := S.ownH h
  rw [e] at h1; cases h1
theorem own_there' {Hb Hb1 H1 : Hp} {ρ ρ1 : Rho} (S : StR K Hb σ ρ H) (s : Ste K σ Hb ρ H Hb1 ρ1 H1) : ∀ b, Own σ ρ1 b → H b ≠ none := fun b h => own_there S b (s.ow b h)

/-! ### constants and names -/
def mC (d : D) : M Rs := fun ρ => .ok (.va d) ρ
def mV (i : Nat) : M Rs := fun ρ => match ρ[i]? with
  | some (.va d) => .ok (.va d) ρ
  | some (.ow _ _) => .ok (.al i) ρ
  | _ => .stuck
theorem tM_C {d : D} {v : V} (hv : ∀ Hb, Is K Hb d v) (h : tM K W (mC d) σ H Q) : tC v σ H Q := by
  obtain ⟨Hb, ρ, S, P⟩ := h
  exact P v H Hb (Ste.refl S) (hv Hb)
theorem dm_int {i j pos} : PE X (.Constant (.int i) j pos) (tM K W (mC (.int i))) := PE.imp pe_int fun _ _ _ => tM_C fun _ => Is.intI
theorem dm_bl {b j pos} : PE X (.Constant (.bool b) j pos) (tM K W (mC (.bl b))) := PE.imp pe_bl fun _ _ _ => tM_C fun _ => Is.blI
theorem dm_non {j pos} : PE X (.Constant .none j pos) (tM K W (mC .non)) := PE.imp pe_non fun _ _ _ => tM_C fun _ => Is.nonI
theorem dm_str {x j pos} : PE X (.Constant (.str x) j pos) (tM K W (mC (.str x))) := PE.imp pe_str fun _ _ _ => tM_C fun _ => Is.strI
theorem tM_V {i : Nat} (h : tM K W (mV i) σ H Q) : tVar i σ H Q := by
  obtain ⟨Hb, ρ, S, P⟩ := h
  unfold mV at P
  cases e : ρ[i]? with
  | none => simp only [e] at P; exact P.elim
  | some s =>
    cases s with
    | un => simp only [e] at P; exact P.elim
    | va d =>
      simp only [e] at P
      obtain ⟨v, h1, h2⟩ := S.va e
      exact ⟨v, h1, P v H Hb (Ste.refl S) h2⟩
    | ow io xs =>
      simp only [e] at P
      obtain ⟨p, vs, _, h1, _⟩ := S.own e
      exact ⟨.ref p, h1, P _ H Hb (Ste.refl S) h1⟩
theorem dv (i : Nat) {x : Str} {pos : Pos} (hN : X.N[i]? = some x := by rfl) (hv : Vis X.env.scope x := by first | exact Or.inl rfl | exact Or.inr (Or.inl rfl) | exact Or.inr (Or.inr rfl)) (hd : (x == ("__debug__" : Str)) = false := by decide)
    (hcd : (x == ("__classdict__" : Str)) = false := by decide) : PE X (.Name x pos) (tM K W (mV i)) := PE.imp (pe_var hN hv hd hcd) fun _ _ _ => tM_V

/-! ### two in a row, an operator -/
def mBin (f : D → D → Option Rs) (a b : M Rs) : M Rs := fun ρ => bnd (a ρ) fun x ρ1 => bnd (b ρ1) fun y ρ2 => match rd ρ2 x, rd ρ2 y with
  | some dx, some dy => (match f dx dy with
    | some r => .ok r ρ2
    | none => .stuck)
  | _, _ => .stuck
def OpD (K : PySem.W.Frag) (r : R2) (f : D → D → Option Rs) : Prop := ∀ (Hb H : Hp) (x y : V) (dx dy : D) (res : Rs) (Q : VK), Same Hb H → RdR K Hb H dx x → RdR K Hb H dy y → f dx dy = some res →
  (∀ v Hb' H', Gro Hb H Hb' H' → RsR K H Hb' [] H' res v → Q v H') → r x y H Q
theorem tM_bin {r : R2} {f : D → D → Option Rs} {a b : M Rs} (hr : OpD K r f) (h : tM K W (mBin f a b) σ H Q) : tOp r (tM K W a) (tM K W b) σ H Q := by
  obtain ⟨Hb, ρ, S, P⟩ := h
  refine ⟨Hb, ρ, S, ?_⟩
  unfold mBin at P
  cases ea : a ρ with
  | stuck => rw [ea] at P; exact P
  | er e ρ1 => rw [ea] at P; exact P
  | ok x ρ1 =>
    rw [ea] at P
    intro v H1 Hb1 s1 r1
    refine ⟨Hb1, ρ1, s1.st, ?_⟩
    simp only [bnd] at P
    cases eb : b ρ1 with
    | stuck => rw [eb] at P; exact P
    | er e ρ2 =>
      rw [eb] at P
      intro d H2 Hb2 s2 ex
      exact P d H2 Hb2 (s1.trans s2) ex
    | ok y ρ2 =>
      rw [eb] at P
      intro w H2 Hb2 s2 r2
      simp only at P
      have r1' : RsR K H Hb2 σ H2 x v := r1.step (own_there' S s1) s2
      have s12 := s1.trans s2
      cases ex : rd ρ2 x with
      | none => simp only [ex] at P; exact P.elim
      | some dx =>
        cases ey : rd ρ2 y with
        | none => simp only [ex, ey] at P; exact P.elim
        | some dy =>
          simp only [ex, ey] at P
          cases ef : f dx dy with
          | none => simp only [ef] at P; exact P.elim
          | some res =>
            simp only [ef] at P
            refine hr Hb2 H2 v w dx dy res Q s2.st.sub (rd_ok s2.st r1' ex) (rd_ok s2.st r2 ey) ef fun z Hb3 H3 g rz => ?_
            exact P z H3 Hb3 (s12.trans (g.ste s2.st)) ((RsR.some rz).older s12.th)
theorem dm_bin {op : Operator} {r : R2} {f : D → D → Option Rs} {a b : Expr} {ma mb : M Rs} {pos : Pos} (ho : OpR X (binaryOp op) r) (hr : OpD K r f) (ha : PE X a (tM K W ma)) (hb : PE X b (tM K W mb)) :
    PE X (.BinOp a op b pos) (tM K W (mBin f ma mb)) := PE.imp (pe_op ho ha hb) fun _ _ _ => tM_bin hr
theorem dm_cmp {op : CmpOp} {r : R2} {f : D → D → Option Rs} {a b : Expr} {ma mb : M Rs} {pos : Pos} (ho : OpR X (compareOp op) r) (hr : OpD K r f) (ha : PE X a (tM K W ma)) (hb : PE X b (tM K W mb)) (hm : behindInMarks op b = false := by first | exact nomark _ | rfl) :
    PE X (.Compare a [op] [b] pos) (tM K W (mBin f ma mb)) := PE.imp (pe_cmpR ho ha hb hm) fun _ _ _ => tM_bin hr
theorem OpD.or {r r' : R2} {f f' : D → D → Option Rs} (h : OpD K r f) (h' : OpD K r' f') : OpD K (fun x y H Q => r x y H Q ∨ r' x y H Q) (fun x y => match f x y with | some z => some z | none => f' x y) := by
  intro Hb H x y dx dy res Q s rx ry e q
  cases e1 : f dx dy with
  | some z => simp only [e1] at e; exact .inl (h Hb H x y dx dy res Q s rx ry (e1.trans e) q)
  | none => simp only [e1] at e; exact .inr (h' Hb H x y dx dy res Q s rx ry e q)
/-- one operand -/
def mUn (f : D → Option Rs) (a : M Rs) : M Rs := fun ρ => bnd (a ρ) fun x ρ1 => match rd ρ1 x with
  | some dx => (match f dx with
    | some r => .ok r ρ1
    | none => .stuck)
  | none => .stuck
def UnD (K : PySem.W.Frag) (r : V → Hp → VK → Prop) (f : D → Option Rs) : Prop := ∀ (Hb H : Hp) (x : V) (dx : D) (res : Rs) (Q : VK), Same Hb H → RdR K Hb H dx x → f dx = some res →
  (∀ v Hb' H', Gro Hb H Hb' H' → RsR K H Hb' [] H' res v → Q v H') → r x H Q
theorem tM_un {r : V → Hp → VK → Prop} {f : D → Option Rs} {a : M Rs} (hr : UnD K r f) (h : tM K W (mUn f a) σ H Q) : tUn r (tM K W a) σ H Q := by
  obtain ⟨Hb, ρ, S, P⟩ := h
  refine ⟨Hb, ρ, S, ?_⟩
  unfold mUn at P
  cases ea : a ρ with
  | stuck => rw [ea] at P; exact P
  | er e ρ1 => rw [ea] at P; exact P
  | ok x ρ1 =>
    rw [ea] at P
    intro v H1 Hb1 s1 r1
    simp only [bnd] at P
    cases ex : rd ρ1 x with
    | none => simp only [ex] at P; exact P.elim
    | some dx =>
      simp only [ex] at P
      cases ef : f dx with
      | none => simp only [ef] at P; exact P.elim
      | some res =>
        simp only [ef] at P
        refine hr Hb1 H1 v dx res Q s1.st.sub (rd_ok s1.st r1 ex) ef fun z Hb3 H3 g rz => ?_
        exact P z H3 Hb3 (s1.trans (g.ste s1.st)) ((RsR.some rz).older s1.th)
theorem dm_un {op : UnaryOp} {r : V → Hp → VK → Prop} {f : D → Option Rs} {a : Expr} {ma : M Rs} {pos : Pos} (ho : UnR X (unaryOp op) r) (hr : UnD K r f) (ha : PE X a (tM K W ma)) :
    PE X (.UnaryOp op a pos) (tM K W (mUn f ma)) := PE.imp (pe_un ho ha) fun _ _ _ => tM_un hr

/-! ### tests -/
/-- a value that is True or False, as a test -/
def mTv (a : M Rs) : M Bool := fun ρ => bnd (a ρ) fun x ρ1 => match rd ρ1 x with
  | some (.bl b) => .ok b ρ1
  | _ => .stuck
theorem tT_val {a : M Rs} {Q : Bool → Hp → Prop} (h : tT K W (mTv a) σ H Q) : tB (tM K W a) σ H Q := by
  obtain ⟨Hb, ρ, S, P⟩ := h
  refine ⟨Hb, ρ, S, ?_⟩
  unfold mTv at P
  cases ea : a ρ with
  | stuck => rw [ea] at P; exact P
  | er e ρ1 => rw [ea] at P; exact P
  | ok x ρ1 =>
    rw [ea] at P
    intro v H1 Hb1 s1 r1
    simp only [bnd] at P
    cases ex : rd ρ1 x with
    | none => simp only [ex] at P; exact P.elim
    | some dx =>
      have q := rd_ok s1.st r1 ex
      cases dx with
      | bl b =>
        simp only [ex] at P
        exact ⟨b, q.bl, P H1 Hb1 s1⟩
      | _ => simp only [ex] at P; exact P.elim
/-- the test of an expression whose value is True or False -/
theorem dt_val {a : Expr} {ma : M Rs} (ha : PE X a (tM K W ma)) (he : ∀ whole, isTrue a X.env whole = (do let v ← whole; standAt a.pos; holding [v] (truthy v)) := by intro _; rfl) : PT X a (tT K W (mTv ma)) :=
  PT.imp (pt_val ha he) fun _ _ _ => tT_val
theorem dt_cmp {op : CmpOp} {r : R2} {f : D → D → Option Rs} {a b : Expr} {ma mb : M Rs} {pos : Pos} (ho : OpR X (compareOp op) r) (hr : OpD K r f) (ha : PE X a (tM K W ma)) (hb : PE X b (tM K W mb)) (hm : behindInMarks op b = false := by first | exact nomark _ | rfl) :
    PT X (.Compare a [op] [b] pos) (tT K W (mTv (mBin f ma mb))) := by
  refine PT.imp (pt_cmpR ho ha hb hm) fun σ H Q h => ?_
  obtain ⟨Hb, ρ, S, P⟩ := tT_val h
  exact tM_bin hr ⟨Hb, ρ, S, P⟩
def mAnd (a b : M Bool) : M Bool := fun ρ => bnd (a ρ) fun x ρ1 => if x = true then b ρ1 else .ok false ρ1
def mOr (a b : M Bool) : M Bool := fun ρ => bnd (a ρ) fun x ρ1 => if x = true then .ok true ρ1 else b ρ1
def mNot (a : M Bool) : M Bool := fun ρ => bnd (a ρ) fun x ρ1 => .ok (!x) ρ1
theorem tT_seq {a : M Bool} {Q Q' : Bool → Hp → Prop} {f : Bool → Rho → Res Bool} {Hb : Hp} {ρ : Rho} (S : StR K Hb σ ρ H) (P : PostT K W Hb σ ρ H Q (bnd (a ρ) f))
    (h : ∀ b ρ1 Hb1 H1, Ste K σ Hb ρ H Hb1 ρ1 H1 → PostT K W Hb1 σ ρ1 H1 Q (f b ρ1) → Q' b H1) : tT K W a σ H Q' := by
  refine ⟨Hb, ρ, S, ?_⟩
  cases ea : a ρ with
  | stuck => rw [ea] at P; exact P
  | er e ρ1 => rw [ea] at P; exact P
  | ok x ρ1 =>
    rw [ea] at P
    intro H1 Hb1 s1
    refine h x ρ1 Hb1 H1 s1 ?_
    simp only [bnd] at P
    cases ef : f x ρ1 with
    | stuck => rw [ef] at P; exact P
    | er e ρ2 =>
      rw [ef] at P
      exact fun d H2 Hb2 s2 ex => P d H2 Hb2 (s1.trans s2) ex
    | ok y ρ2 =>
      rw [ef] at P
      exact fun H2 Hb2 s2 => P H2 Hb2 (s1.trans s2)
theorem dw_and1 {a : Expr} {pos : Pos} {ma : M Bool} (ha : PT X a (tT K W ma)) : PW X (.BoolOp .And [a] pos) (tT K W ma) := pw_and1 ha
theorem dw_or1 {a : Expr} {pos : Pos} {ma : M Bool} (ha : PT X a (tT K W ma)) : PW X (.BoolOp .Or [a] pos) (tT K W ma) := pw_or1 ha
theorem dw_and {a b : Expr} {rest : List Expr} {pos : Pos} {ma mb : M Bool} (ha : PT X a (tT K W ma)) (hb : PW X (.BoolOp .And (b :: rest) pos) (tT K W mb)) : PW X (.BoolOp .And (a :: b :: rest) pos) (tT K W (mAnd ma mb)) := by
  refine PW.imp (pw_and ha hb) fun σ H Q h => ?_
  obtain ⟨Hb, ρ, S, P⟩ := h
  refine tT_seq S P fun c ρ1 Hb1 H1 s1 P1 => ?_
  cases c with
  | true => exact ⟨Hb1, ρ1, s1.st, P1⟩
  | false => exact P1 H1 Hb1 (Ste.refl s1.st)
theorem dw_or {a b : Expr} {rest : List Expr} {pos : Pos} {ma mb : M Bool} (ha : PT X a (tT K W ma)) (hb : PW X (.BoolOp .Or (b :: rest) pos) (tT K W mb)) : PW X (.BoolOp .Or (a :: b :: rest) pos) (tT K W (mOr ma mb)) := by
  refine PW.imp (pw_or ha hb) fun σ H Q h => ?_
  obtain ⟨Hb, ρ, S, P⟩ := h
  refine tT_seq S P fun c ρ1 Hb1 H1 s1 P1 => ?_
  cases c with
  | true => exact P1 H1 Hb1 (Ste.refl s1.st)
  | false => exact ⟨Hb1, ρ1, s1.st, P1⟩
theorem dt_not {a : Expr} {pos : Pos} {ma : M Bool} (ha : PT X a (tT K W ma)) : PT X (.UnaryOp .Not a pos) (tT K W (mNot ma)) := by
  refine PT.imp (pt_not ha) fun σ H Q h => ?_
  obtain ⟨Hb, ρ, S, P⟩ := h
  exact tT_seq (Q' := fun c H1 => Q (!c) H1) S P fun c ρ1 Hb1 H1 s1 P1 => P1 H1 Hb1 (Ste.refl s1.st)
/-- a if t else b -/
def mIte (t : M Bool) (a b : M Rs) : M Rs := fun ρ => bnd (t ρ) fun c ρ1 => if c = true then a ρ1 else b ρ1
theorem tM_back {Hb Hb1 H1 : Hp} {ρ ρ1 : Rho} {m : Res Rs} (s : Ste K σ Hb ρ H Hb1 ρ1 H1) (P : PostM K W Hb σ ρ H Q m) : PostM K W Hb1 σ ρ1 H1 Q m := by
  cases m with
  | stuck => exact P
  | er e ρ2 => exact fun d H2 Hb2 s2 ex => P d H2 Hb2 (s.trans s2) ex
  | ok r ρ2 => exact fun v H2 Hb2 s2 rr => P v H2 Hb2 (s.trans s2) (rr.older s.th)
theorem dm_ite {t a b : Expr} {pos : Pos} {mt : M Bool} {ma mb : M Rs} (ht : PT X t (tT K W mt)) (ha : PE X a (tM K W ma)) (hb : PE X b (tM K W mb)) : PE X (.IfExp t a b pos) (tM K W (mIte mt ma mb)) := by
  refine PE.imp (pe_ifExp ht ha hb) fun σ H Q h => ?_
  obtain ⟨Hb, ρ, S, P⟩ := h
  refine ⟨Hb, ρ, S, ?_⟩
  unfold mIte at P
  cases ea : mt ρ with
  | stuck => rw [ea] at P; exact P
  | er e ρ1 => rw [ea] at P; exact P
  | ok x ρ1 =>
    rw [ea] at P
    intro H1 Hb1 s1
    simp only [bnd] at P
    cases x with
    | true => exact iteT ⟨Hb1, ρ1, s1.st, tM_back s1 P⟩
    | false => exact iteF ⟨Hb1, ρ1, s1.st, tM_back s1 P⟩
/-- and, or, not as values (of truths) -/
def mAndV (a b : M Rs) : M Rs := fun ρ => bnd (a ρ) fun x ρ1 => match rd ρ1 x with
  | some (.bl true) => b ρ1
  | some (.bl false) => .ok (.va (.bl false)) ρ1
  | _ => .stuck
def mOrV (a b : M Rs) : M Rs := fun ρ => bnd (a ρ) fun x ρ1 => match rd ρ1 x with
  | some (.bl false) => b ρ1
  | some (.bl true) => .ok (.va (.bl true)) ρ1
  | _ => .stuck
theorem dm_one {op : BoolOp} {a : Expr} {pos : Pos} {ma : M Rs} (ha : PE X a (tM K W ma)) : PE X (.BoolOp op [a] pos) (tM K W ma) := pe_one ha

theorem dm_and {a b : Expr} {rest : List Expr} {pos : Pos} {ma mb : M Rs} (ha : PE X a (tM K W ma)) (hb : PE X (.BoolOp .And (b :: rest) pos) (tM K W mb)) : PE X (.BoolOp .And (a :: b :: rest) pos) (tM K W (mAndV ma mb)) := by
  refine PE.imp (pe_and ha hb) fun σ H Q h => ?_
  obtain ⟨Hb, ρ, S, P⟩ := h
  refine ⟨Hb, ρ, S, ?_⟩
  unfold mAndV at P
  cases ea : ma ρ with
  | stuck => rw [ea] at P; exact P
  | er e ρ1 => rw [ea] at P; exact P
  | ok x ρ1 =>
    rw [ea] at P
    intro v H1 Hb1 s1 r1
    simp only [bnd] at P
    cases ex : rd ρ1 x with
    | none => simp only [ex] at P; exact P.elim
    | some dx =>
      have q := rd_ok s1.st r1 ex
      cases dx with
      | bl b =>
        refine ⟨b, q.bl, ?_⟩
        cases b with
        | true => simp only [ex] at P; exact iteT ⟨Hb1, ρ1, s1.st, tM_back s1 P⟩
        | false => simp only [ex] at P; exact iteF (P (.bl false) H1 Hb1 s1 (Is.blI (K := K) (H := Hb1)))
      | _ => simp only [ex] at P; exact P.elim
theorem dm_or {a b : Expr} {rest : List Expr} {pos : Pos} {ma mb : M Rs} (ha : PE X a (tM K W ma)) (hb : PE X (.BoolOp .Or (b :: rest) pos) (tM K W mb)) : PE X (.BoolOp .Or (a :: b :: rest) pos) (tM K W (mOrV ma mb)) := by
  refine PE.imp (pe_or ha hb) fun σ H Q h => ?_
  obtain ⟨Hb, ρ, S, P⟩ := h
  refine ⟨Hb, ρ, S, ?_⟩
  unfold mOrV at P
  cases ea : ma ρ with
  | stuck => rw [ea] at P; exact P
  | er e ρ1 => rw [ea] at P; exact P
  | ok x ρ1 =>
    rw [ea] at P
    intro v H1 Hb1 s1 r1
    simp only [bnd] at P
    cases ex : rd ρ1 x with
    | none => simp only [ex] at P; exact P.elim
    | some dx =>
      have q := rd_ok s1.st r1 ex
      cases dx with
      | bl b =>
        refine ⟨b, q.bl, ?_⟩
        cases b with
        | false => simp only [ex] at P; exact iteF ⟨Hb1, ρ1, s1.st, tM_back s1 P⟩
        | true => simp only [ex] at P; exact iteT (P (.bl true) H1 Hb1 s1 (Is.blI (K := K) (H := Hb1)))
      | _ => simp only [ex] at P; exact P.elim
def mNotV (a : M Rs) : M Rs := fun ρ => bnd (a ρ) fun x ρ1 => match rd ρ1 x with
  | some (.bl b) => .ok (.va (.bl (!b))) ρ1
  | _ => .stuck
theorem dm_not {a : Expr} {pos : Pos} {ma : M Rs} (ha : PE X a (tM K W ma)) : PE X (.UnaryOp .Not a pos) (tM K W (mNotV ma)) := by
  refine PE.imp (pe_not ha) fun σ H Q h => ?_
  obtain ⟨Hb, ρ, S, P⟩ := h
  refine ⟨Hb, ρ, S, ?_⟩
  unfold mNotV at P
  cases ea : ma ρ with
  | stuck => rw [ea] at P; exact P
  | er e ρ1 => rw [ea] at P; exact P
  | ok x ρ1 =>
    rw [ea] at P
    intro v H1 Hb1 s1 r1
    simp only [bnd] at P
    cases ex : rd ρ1 x with
    | none => simp only [ex] at P; exact P.elim
    | some dx =>
      have q := rd_ok s1.st r1 ex
      cases dx with
      | bl b =>
        simp only [ex] at P
        exact ⟨b, q.bl, P (.bl (!b)) H1 Hb1 s1 (Is.blI (K := K) (H := Hb1))⟩
      | _ => simp only [ex] at P; exact P.elim

/-! ### several, from the left; what is new is put down as it comes -/
def soft : Rs → Rs
  | .fr xs => .va (.lst xs)
  | r => r
def mNil : M (List Rs) := fun ρ => .ok [] ρ
def mCons (a : M Rs) (as : M (List Rs)) : M (List Rs) := fun ρ => bnd (a ρ) fun x ρ1 => bnd (as ρ1) fun xs ρ2 => .ok (soft x :: xs) ρ2
/-- a new list is put down: it stays as it is -/
theorem Ste.put {Hb Hb1 H1 : Hp} {ρ ρ1 : Rho} {p : Addr} {vs : List V} (S : StR K Hb σ ρ H) (s : Ste K σ Hb ρ H Hb1 ρ1 H1) (h0 : H p = none) (h1 : H1 p = some (.lst vs)) (hb : Hb1 p = none) : Ste K σ Hb ρ H (upd Hb1 p (.lst vs)) ρ1 H1 ∧ Same Hb1 (upd Hb1 p (.lst vs)) := by
  have sm : Same Hb1 (upd Hb1 p (.lst vs)) := Same.new hb
  refine ⟨⟨s.fr, s.th, s.gr.trans sm, fun b o e n q => by rw [upd_ne (ne_of_none e h0)]; exact s.gn b o e n q, s.ow, s.io, ⟨fun b o e => ?_, s.st.len, fun i sl e => ?_, s.st.dis⟩⟩, sm⟩
  · by_cases hbp : b = p
    · subst hbp; rw [upd_same] at e; cases e; exact h1
    · rw [upd_ne hbp] at e; exact s.st.sub b o e
  · obtain ⟨o, e1, e2⟩ := s.st.sl i sl e
    refine ⟨o, e1, ?_⟩
    cases sl with
    | un => trivial
    | va d =>
      obtain ⟨v, e3, e4⟩ := e2
      exact ⟨v, e3, Is.mono sm _ _ e4⟩
    | ow io xs =>
      obtain ⟨q, ws, e3, e4, e5, e6⟩ := e2
      subst e3
      have nq : q ≠ p := fun z => by
        subst z
        exact own_there S q (s.ow q ⟨i, e1, io, xs, e⟩) h0
      exact ⟨q, ws, rfl, e4, IsA.mono sm _ _ e5, by rw [upd_ne nq]; exact e6⟩
theorem RsR.put {Hb Hb1 H1 : Hp} {ρ ρ1 : Rho} {r : Rs} {v : V} (S : StR K Hb σ ρ H) (s : Ste K σ Hb ρ H Hb1 ρ1 H1) (h : RsR K H Hb1 σ H1 r v) : ∃ Hb2, Ste K σ Hb ρ H Hb2 ρ1 H1 ∧ Same Hb1 Hb2 ∧ RsR K H Hb2 σ H1 (soft r) v := by
  cases r with
  | va d => exact ⟨Hb1, s, Same.refl _, h⟩
  | al i => exact ⟨Hb1, s, Same.refl _, h⟩
  | fr xs =>
    obtain ⟨p, vs, rfl, h0, h1, h2, h3⟩ := h
    obtain ⟨s', sm⟩ := Ste.put S s h0 h2 h1
    exact ⟨_, s', sm, Is.lstI (K := K) (H := upd Hb1 p (.lst vs)) (.inl (.inl upd_same)) (IsA.mono sm _ _ h3)⟩
end
section
variable {K : PySem.W.Frag} {W : WX} {X : Cx} {σ : L2.St} {H : Hp}
theorem da_nil : PA X [] (tA K W mNil) := PA.imp pa_nil fun σ H Q h => by
  obtain ⟨Hb, ρ, S, P⟩ := h
  exact P [] H Hb (Ste.refl S) .nil
theorem soft_step {H0 Hb Hb1 H1 : Hp} {ρ ρ1 : Rho} {r : Rs} {v : V} (O : ∀ b, Own σ ρ b → H0 b ≠ none) (s : Ste K σ Hb ρ H Hb1 ρ1 H1) (h : RsR K H0 Hb σ H r v) : RsR K H0 Hb1 σ H1 r v := RsR.step O s h
theorem da_cons {e : Expr} {es : List Expr} {a : M Rs} {as : M (List Rs)} (ha : PE X e (tM K W a)) (hr : PA X es (tA K W as)) (hs : starEach (e :: es) X.env = (false, eval e X.env) :: starEach es X.env := by rfl) : PA X (e :: es) (tA K W (mCons a as)) := by
  refine PA.imp (pa_cons ha hr hs) fun σ H Q h => ?_
  obtain ⟨Hb, ρ, S, P⟩ := h
  refine ⟨Hb, ρ, S, ?_⟩
  unfold mCons at P
  cases ea : a ρ with
  | stuck => rw [ea] at P; exact P
  | er e ρ1 => rw [ea] at P; exact P
  | ok x ρ1 =>
    rw [ea] at P
    intro v H1 Hb1' s1' r1'
    obtain ⟨Hb1, s1, _, r1⟩ := RsR.put S s1' r1'
    refine ⟨Hb1, ρ1, s1.st, ?_⟩
    simp only [bnd] at P
    cases eb : as ρ1 with
    | stuck => rw [eb] at P; exact P
    | er e ρ2 =>
      rw [eb] at P
      intro d H2 Hb2 s2 ex
      exact P d H2 Hb2 (s1.trans s2) ex
    | ok xs ρ2 =>
      rw [eb] at P
      intro vs H2 Hb2 s2 r2
      refine P (v :: vs) H2 Hb2 (s1.trans s2) (.cons (r1.step (own_there' S s1) s2) (Paired.mapP r2 fun r w hh => hh.older s1.th))

/-! ### to keep: an own list that is kept elsewhere is one's own no more -/
def keep1 (ρ : Rho) : Rs → Option (D × Rho)
  | .va d => some (d, ρ)
  | .fr _ => none
  | .al i => match ρ[i]? with
    | some (.va d) => some (d, ρ)
    | some (.ow false xs) => some (.lst xs, ρ.set i (.va (.lst xs)))
    | _ => none
def keeps (ρ : Rho) : List Rs → Option (List D × Rho)
  | [] => some ([], ρ)
  | r :: rs => match keep1 ρ r with
    | some (d, ρ1) => (match keeps ρ1 rs with
      | some (ds, ρ2) => some (d :: ds, ρ2)
      | none => none)
    | none => none
theorem own_set {i : Nat} {d : D} {ρ : Rho} {b : Addr} (h : Own σ (ρ.set i (.va d)) b) : Own σ ρ b := by
  obtain ⟨j, e, io, xs, q⟩ := h
  by_cases hj : i = j
  · subst hj
    rw [List.getElem?_set] at q
    simp at q
  · rw [List.getElem?_set_ne hj] at q
    exact ⟨j, e, io, xs, q⟩
/-- an own list of slot i is put down -/
theorem Ste.down {Hb : Hp} {ρ : Rho} {i : Nat} {xs : List D} (S : StR K Hb σ ρ H) (h : ρ[i]? = some (.ow false xs)) :
    ∃ p Hb1, σ[i]? = some (some (.ref p)) ∧ Ste K σ Hb ρ H Hb1 (ρ.set i (.va (.lst xs))) H ∧ Is K Hb1 (.lst xs) (.ref p) := by
  obtain ⟨p, vs, oa, h1, h2, h3, h4⟩ := S.own h
  have sm : Same Hb (upd Hb p (.lst vs)) := Same.new h4
  have io' : Is K (upd Hb p (.lst vs)) (.lst xs) (.ref p) := Is.lstI (.inl (.inl upd_same)) (IsA.mono sm _ _ h3)
  have hi : i < ρ.length := (List.getElem?_eq_some_iff.mp h).1
  refine ⟨p, upd Hb p (.lst vs), h1, ⟨fun _ _ e _ => e, fun _ e => e, sm, fun b o e n q => ?_, fun b hb => own_set hb, fun j ys hj => ?_, ⟨fun b o e => ?_, by rw [List.length_set]; exact S.len, fun j s e => ?_, fun j k b hj hk => ?_⟩⟩, io'⟩
  · rw [upd_ne (fun z => q (by subst z; exact ⟨i, oa⟩))]; exact n
  · by_cases hij : i = j
    · subst hij; rw [h] at hj; cases hj
    · exact ⟨ys, by rw [List.getElem?_set_ne hij]; exact hj⟩
  · by_cases hb : b = p
    · subst hb; rw [upd_same] at e; cases e; exact h2
    · rw [upd_ne hb] at e; exact S.sub b o e
  · by_cases hij : i = j
    · subst hij
      rw [List.getElem?_set_self hi] at e; cases e
      exact ⟨_, h1, _, rfl, io'⟩
    · rw [List.getElem?_set_ne hij] at e
      obtain ⟨o, e1, e2⟩ := S.sl j s e
      refine ⟨o, e1, ?_⟩
      cases s with
      | un => trivial
      | va d =>
        obtain ⟨v, e3, e4⟩ := e2
        exact ⟨v, e3, Is.mono sm _ _ e4⟩
      | ow io ys =>
        obtain ⟨q, ws, e3, e4, e5, e6⟩ := e2
        subst e3
        have nq : q ≠ p := fun z => by
          subst z
          exact hij (S.dis i j q oa ⟨e1, io, ys, e⟩)
        exact ⟨q, ws, rfl, e4, IsA.mono sm _ _ e5, by rw [upd_ne nq]; exact e6⟩
  · have f : ∀ {j}, OwnAt σ (ρ.set i (.va (.lst xs))) j b → OwnAt σ ρ j b := fun {j} hj => by
      obtain ⟨e, io, ys, q⟩ := hj
      by_cases hij : i = j
      · subst hij; rw [List.getElem?_set_self hi] at q; cases q
      · rw [List.getElem?_set_ne hij] at q
        exact ⟨e, io, ys, q⟩
    exact S.dis j k b (f hj) (f hk)
theorem keep1_ok {H0 Hb : Hp} {ρ ρ1 : Rho} {r : Rs} {v : V} {d : D} (S : StR K Hb σ ρ H) (h : RsR K H0 Hb σ H r v) (e : keep1 ρ r = some (d, ρ1)) : ∃ Hb1, Ste K σ Hb ρ H Hb1 ρ1 H ∧ Is K Hb1 d v := by
  cases r with
  | va d' => cases e; exact ⟨Hb, Ste.refl S, h⟩
  | fr xs => cases e
  | al i =>
    have h : σ[i]? = some (some v) := h
    cases q : ρ[i]? with
    | none => simp only [keep1, q] at e; cases e
    | some s =>
      cases s with
      | un => simp only [keep1, q] at e; cases e
      | va d' =>
        simp only [keep1, q] at e; cases e
        obtain ⟨w, e1, h1⟩ := S.va q
        rw [h] at e1; cases e1
        exact ⟨Hb, Ste.refl S, h1⟩
      | ow io xs =>
        cases io with
        | true => simp only [keep1, q] at e; cases e
        | false =>
          simp only [keep1, q] at e; cases e
          obtain ⟨p, Hb1, e1, s1, i1⟩ := Ste.down S q
          rw [h] at e1; cases e1
          exact ⟨Hb1, s1, i1⟩
theorem keeps_ok {H0 : Hp} : ∀ {rs : List Rs} {vs : List V} {Hb : Hp} {ρ ρ1 : Rho} {ds : List D}, (∀ b, Own σ ρ b → H0 b ≠ none) → StR K Hb σ ρ H → Paired (RsR K H0 Hb σ H) rs vs → keeps ρ rs = some (ds, ρ1) → ∃ Hb1, Ste K σ Hb ρ H Hb1 ρ1 H ∧ IsA K Hb1 ds vs
  | [], _, Hb, ρ, ρ1, ds, _, S, .nil, e => by
    cases e; exact ⟨Hb, Ste.refl S, IsA.nil⟩
  | r :: rs, _, Hb, ρ, ρ1, ds, O, S, .cons (b := v) (l₂ := vs) h t, e => by
    unfold keeps at e
    cases e1 : keep1 ρ r with
    | none => simp only [e1] at e; cases e
    | some q =>
      obtain ⟨d, ρ2⟩ := q
      simp only [e1] at e
      obtain ⟨Hb2, s2, i2⟩ := keep1_ok S h e1
      cases e3 : keeps ρ2 rs with
      | none => simp only [e3] at e; cases e
      | some q =>
        obtain ⟨ds', ρ3⟩ := q
        simp only [e3] at e
        cases e
        obtain ⟨Hb3, s3, i3⟩ := keeps_ok (fun b hb => O b (s2.ow b hb)) s2.st (Paired.mapP t fun a b hh => RsR.step O s2 hh) e3
        exact ⟨Hb3, s2.trans s3, IsA.cons (Is.mono s3.gr _ _ i2) i3⟩
/-- (a, b, ..) -/
def mTup (as : M (List Rs)) : M Rs := fun ρ => bnd (as ρ) fun rs ρ1 => match keeps ρ1 rs with
  | some (ds, ρ2) => if ds.length ≤ 100000 then .ok (.va (.tup ds)) ρ2 else .stuck
  | none => .stuck
/-- [a, b, ..] -/
def mLst (as : M (List Rs)) : M Rs := fun ρ => bnd (as ρ) fun rs ρ1 => match keeps ρ1 rs with
  | some (ds, ρ2) => if ds.length ≤ 100000 then .ok (.fr ds) ρ2 else .stuck
  | none => .stuck
theorem size_ok {n : Nat} (h : n ≤ 100000) : n ≤ sizeLine := Nat.le_trans h (by decide)
theorem tA_keep {a : M (List Rs)} {Q : VK} {f : List D → Rho → Res Rs} {R : List V → Hp → Prop}
    (k : ∀ (Hb0 H0 Hb : Hp) (ρ0 ρ : Rho) (ds : List D) (vs : List V) (H : Hp), StR K Hb0 σ ρ0 H0 → Ste K σ Hb0 ρ0 H0 Hb ρ H → IsA K Hb ds vs → PostM K W Hb0 σ ρ0 H0 Q (f ds ρ) → R vs H)
    (h : tM K W (fun ρ => bnd (a ρ) fun rs ρ1 => match keeps ρ1 rs with | some (ds, ρ2) => f ds ρ2 | none => .stuck) σ H Q) : tA K W a σ H R := by
  obtain ⟨Hb, ρ, S, P⟩ := h
  refine ⟨Hb, ρ, S, ?_⟩
  simp only [bnd] at P
  cases ea : a ρ with
  | stuck => rw [ea] at P; exact P
  | er e ρ1 => rw [ea] at P; exact P
  | ok rs ρ1 =>
    rw [ea] at P
    intro vs H1 Hb1 s1 r1
    simp only at P
    cases ek : keeps ρ1 rs with
    | none => simp only [ek] at P; exact P.elim
    | some q =>
      obtain ⟨ds, ρ2⟩ := q
      simp only [ek] at P
      obtain ⟨Hb2, s2, i2⟩ := keeps_ok (own_there' S s1) s1.st r1 ek
      exact k Hb H Hb2 ρ ρ2 ds vs H1 S (s1.trans s2) i2 P
theorem dm_tup {es : List Expr} {a : M (List Rs)} {n : Nat} {pos : Pos} (h : PA X es (tA K W a)) : PE X (.Tuple es n pos) (tM K W (mTup a)) := by
  refine PE.imp (pe_tup h) fun σ H Q h => ?_
  refine tA_keep (f := fun ds ρ2 => if ds.length ≤ 100000 then .ok (.va (.tup ds)) ρ2 else .stuck) (fun Hb0 H0 Hb ρ0 ρ ds vs H S s i P => ?_) h
  by_cases hz : ds.length ≤ 100000
  · simp only [if_pos hz] at P
    refine ⟨by rw [i.length]; exact size_ok hz, fun p hp => ?_⟩
    have g : Gro Hb H (upd Hb p (.tup vs)) (upd H p (.tup vs)) := Gro.newT s.st.sub hp
    exact P (.ref p) _ _ (s.trans (g.ste s.st)) (Is.tupI (K := K) (H := upd Hb p (.tup vs)) (.inl (.inl upd_same)) (IsA.mono g.gr _ _ i))
  · simp only [if_neg hz] at P; exact P.elim
theorem dm_lst {es : List Expr} {a : M (List Rs)} {pos : Pos} (h : PA X es (tA K W a)) : PE X (.List es pos) (tM K W (mLst a)) := by
  refine PE.imp (pe_lst h) fun σ H Q h => ?_
  refine tA_keep (f := fun ds ρ2 => if ds.length ≤ 100000 then .ok (.fr ds) ρ2 else .stuck) (fun Hb0 H0 Hb ρ0 ρ ds vs H S s i P => ?_) h
  by_cases hz : ds.length ≤ 100000
  · simp only [if_pos hz] at P
    refine ⟨by rw [i.length]; exact size_ok hz, fun p hp => ?_⟩
    have g : Gro Hb H Hb (upd H p (.lst vs)) := Gro.newL s.st.sub hp
    exact P (.ref p) _ _ (s.trans (g.ste s.st)) ⟨p, vs, rfl, s.th p hp, Same.none s.st.sub hp, upd_same, i⟩
  · simp only [if_neg hz] at P; exact P.elim

/-! ### a built-in called by name, by the data of its arguments -/
def rds (ρ : Rho) : List Rs → Option (List D)
  | [] => some []
  | r :: rs => match rd ρ r with
    | some d => (match rds ρ rs with
      | some ds => some (d :: ds)
      | none => none)
    | none => none
def mBi (f : List D → Option Rs) (as : M (List Rs)) : M Rs := fun ρ => bnd (as ρ) fun rs ρ1 => match rds ρ1 rs with
  | some ds => (match f ds with
    | some r => .ok r ρ1
    | none => .stuck)
  | none => .stuck
def CallD (K : PySem.W.Frag) (r : List V → Hp → VK → Prop) (f : List D → Option Rs) : Prop := ∀ (Hb H : Hp) (xs : List V) (ds : List D) (res : Rs) (Q : VK), Same Hb H → Paired (RdR K Hb H) ds xs → f ds = some res →
  (∀ v Hb' H', Gro Hb H Hb' H' → RsR K H Hb' [] H' res v → Q v H') → r xs H Q
theorem rds_ok {H0 Hb : Hp} {ρ : Rho} (S : StR K Hb σ ρ H) : ∀ {rs : List Rs} {vs : List V} {ds : List D}, Paired (RsR K H0 Hb σ H) rs vs → rds ρ rs = some ds → Paired (RdR K Hb H) ds vs
  | [], _, ds, .nil, e => by cases e; exact .nil
  | r :: rs, _, ds, .cons (b := v) (l₂ := vs) h t, e => by
    unfold rds at e
    cases e1 : rd ρ r with
    | none => simp only [e1] at e; cases e
    | some d =>
      simp only [e1] at e
      cases e2 : rds ρ rs with
      | none => simp only [e2] at e; cases e
      | some ds' =>
        simp only [e2] at e
        cases e
        exact .cons (rd_ok S h e1) (rds_ok S t e2)
theorem tM_bi {r : List V → Hp → VK → Prop} {f : List D → Option Rs} {a : M (List Rs)} {Q : VK} (hr : CallD K r f) (h : tM K W (mBi f a) σ H Q) : tCB r (tA K W a) σ H Q := by
  obtain ⟨Hb, ρ, S, P⟩ := h
  refine ⟨Hb, ρ, S, ?_⟩
  unfold mBi at P
  simp only [bnd] at P
  cases ea : a ρ with
  | stuck => rw [ea] at P; exact P
  | er e ρ1 => rw [ea] at P; exact P
  | ok rs ρ1 =>
    rw [ea] at P
    intro vs H1 Hb1 s1 r1
    simp only at P
    cases ek : rds ρ1 rs with
    | none => simp only [ek] at P; exact P.elim
    | some ds =>
      simp only [ek] at P
      cases ef : f ds with
      | none => simp only [ef] at P; exact P.elim
      | some res =>
        simp only [ef] at P
        exact hr Hb1 H1 vs ds res Q s1.st.sub (rds_ok s1.st r1 ek) ef fun z Hb3 H3 g rz => P z H3 Hb3 (s1.trans (g.ste s1.st)) ((RsR.some rz).older s1.th)
end
end DL

namespace DL
open PySem L2
/-! ### equality of data -/
mutual
def D.eqv : D → D → Bool
  | .non, .non => true
  | .bl a, .bl b => a == b
  | .bl a, .int j => (if a then 1 else 0) == j
  | .int i, .bl b => i == (if b then 1 else 0)
  | .int i, .int j => i == j
  | .str x, .str y => x == y
  | .lst xs, .lst ys => D.eqvs xs ys
  | .tup xs, .tup ys => D.eqvs xs ys
  | _, _ => false
def D.eqvs : List D → List D → Bool
  | [], [] => true
  | x :: xs, y :: ys => D.eqv x y && D.eqvs xs ys
  | _, _ => false
end
mutual
/-- data that may be compared: no exceptions, classes; not too deep -/
def D.fine : Nat → D → Bool
  | _, .non => true
  | _, .bl _ => true
  | _, .int _ => true
  | _, .str x => PyData.strOk x
  | n + 1, .tup xs => D.fines n xs
  | n + 1, .lst xs => D.fines n xs
  | _, _ => false
def D.fines : Nat → List D → Bool
  | _, [] => true
  | n, x :: xs => D.fine n x && D.fines n xs
end
mutual
def D.py : D → PyData
  | .non => .none
  | .bl b => .bool b
  | .int i => .int i
  | .str x => .str x
  | .tup xs => .tuple (D.pys xs)
  | .lst xs => .list (D.pys xs)
  | .exc _ _ => .none
  | .ty _ => .none
  | .cls _ => .none
  | .obj _ => .none
def D.pys : List D → List PyData
  | [] => []
  | x :: xs => D.py x :: D.pys xs
end
mutual
theorem D.py_eqv : ∀ (n m : Nat) (x y : D), D.fine n x = true → D.fine m y = true → PyData.eqv (D.py x) (D.py y) = D.eqv x y
  | n, m, .non, y, _, h => by cases y <;> simp_all [D.py, PyData.eqv, D.eqv, D.fine]
  | n, m, .bl a, y, _, h => by cases y <;> simp_all [D.py, PyData.eqv, D.eqv, D.fine]
  | n, m, .int a, y, _, h => by cases y <;> simp_all [D.py, PyData.eqv, D.eqv, D.fine]
  | n, m, .str a, y, _, h => by cases y <;> simp_all [D.py, PyData.eqv, D.eqv, D.fine]
  | n, m, .exc _ _, y, h, _ => by cases n <;> simp [D.fine] at h
  | n, m, .ty _, y, h, _ => by cases n <;> simp [D.fine] at h
  | n, m, .cls _, y, h, _ => by cases n <;> simp [D.fine] at h
  | n, m, .tup xs, y, h, h' => by
    cases n with
    | zero => simp [D.fine] at h
    | succ n =>
      cases y with
      | tup ys =>
        cases m with
        | zero => simp [D.fine] at h'
        | succ m =>
          simp only [D.fine] at h h'
          simp only [D.py, PyData.eqv, D.eqv]
          exact D.pys_eqv n m xs ys h h'
      | _ => simp_all [D.py, PyData.eqv, D.eqv, D.fine]
  | n, m, .lst xs, y, h, h' => by
    cases n with
    | zero => simp [D.fine] at h
    | succ n =>
      cases y with
      | lst ys =>
        cases m with
        | zero => simp [D.fine] at h'
        | succ m =>
          simp only [D.fine] at h h'
          simp only [D.py, PyData.eqv, D.eqv]
          exact D.pys_eqv n m xs ys h h'
      | _ => simp_all [D.py, PyData.eqv, D.eqv, D.fine]
theorem D.pys_eqv : ∀ (n m : Nat) (xs ys : List D), D.fines n xs = true → D.fines m ys = true → PyData.eqvAll (D.pys xs) (D.pys ys) = D.eqvs xs ys
  | n, m, [], ys, _, _ => by cases ys <;> simp [D.pys, PyData.eqvAll, D.eqvs]
  | n, m, x :: xs, [], _, _ => by simp [D.pys, PyData.eqvAll, D.eqvs]
  | n, m, x :: xs, y :: ys, h, h' => by
    simp only [D.fines, Bool.and_eq_true] at h h'
    simp only [D.pys, PyData.eqvAll, D.eqvs]
    rw [D.py_eqv n m x y h.1 h'.1, D.pys_eqv n m xs ys h.2 h'.2]
end
mutual
theorem D.py_lay : ∀ (n : Nat) (x : D), D.fine n x = true → (D.py x).canLay0 = true ∧ (D.py x).depth ≤ n
  | n, .non, _ => by simp [D.py, PyData.canLay0, PyData.depth]
  | n, .bl a, _ => by simp [D.py, PyData.canLay0, PyData.depth]
  | n, .int a, _ => by simp [D.py, PyData.canLay0, PyData.depth]
  | n, .str a, h => by
    have h : PyData.strOk a = true := by simpa [D.fine] using h
    simp [D.py, PyData.canLay0, PyData.depth, h]
  | n, .exc _ _, h => by cases n <;> simp [D.fine] at h
  | n, .ty _, h => by cases n <;> simp [D.fine] at h
  | n, .cls _, h => by cases n <;> simp [D.fine] at h
  | n, .tup xs, h => by
    cases n with
    | zero => simp [D.fine] at h
    | succ n =>
      simp only [D.fine] at h
      obtain ⟨h1, h2⟩ := D.pys_lay n xs h
      simp only [D.py, PyData.canLay0, PyData.depth]
      exact ⟨h1, by omega⟩
  | n, .lst xs, h => by
    cases n with
    | zero => simp [D.fine] at h
    | succ n =>
      simp only [D.fine] at h
      obtain ⟨h1, h2⟩ := D.pys_lay n xs h
      simp only [D.py, PyData.canLay0, PyData.depth]
      exact ⟨h1, by omega⟩
theorem D.pys_lay : ∀ (n : Nat) (xs : List D), D.fines n xs = true → PyData.canLayAll0 (D.pys xs) = true ∧ PyData.depthAll (D.pys xs) ≤ n
  | n, [], _ => by simp [D.pys, PyData.canLayAll0, PyData.depthAll]
  | n, x :: xs, h => by
    simp only [D.fines, Bool.and_eq_true] at h
    obtain ⟨h1, h2⟩ := D.py_lay n x h.1
    obtain ⟨h3, h4⟩ := D.pys_lay n xs h.2
    simp only [D.pys, PyData.canLayAll0, PyData.depthAll, h1, h3]
    exact ⟨rfl, by omega⟩
end
theorem D.py_shaped {x : D} (h : D.fine 60 x = true) : SeqAt.shaped (D.py x) = true := by
  obtain ⟨h1, h2⟩ := D.py_lay 60 x h
  unfold SeqAt.shaped
  rw [h1, decide_eq_true (by omega)]
  rfl
mutual
theorem Is.dp {K : PySem.W.Frag} {H : Hp} : ∀ (n : Nat) (x : D) (v : V), D.fine n x = true → Is K H x v → Dp K H v (D.py x)
  | n, .non, v, _, h => by simp only [Is] at h; subst h; exact .non
  | n, .bl a, v, _, h => by simp only [Is] at h; subst h; exact .bl a
  | n, .int a, v, _, h => by simp only [Is] at h; subst h; exact .int a
  | n, .str a, v, _, h => by simp only [Is] at h; subst h; exact .str a
  | n, .exc _ _, v, h, _ => by cases n <;> simp [D.fine] at h
  | n, .ty _, v, h, _ => by cases n <;> simp [D.fine] at h
  | n, .cls _, v, h, _ => by cases n <;> simp [D.fine] at h
  | n, .tup xs, v, h, h' => by
    cases n with
    | zero => simp [D.fine] at h
    | succ n =>
      simp only [D.fine] at h
      simp only [Is] at h'
      obtain ⟨a, vs, rfl, h1, h2⟩ := h'
      exact .tup h1 (IsA.dp n xs vs h h2)
  | n, .lst xs, v, h, h' => by
    cases n with
    | zero => simp [D.fine] at h
    | succ n =>
      simp only [D.fine] at h
      simp only [Is] at h'
      obtain ⟨a, vs, rfl, h1, h2⟩ := h'
      exact .lst (h1) (IsA.dp n xs vs h h2)
theorem IsA.dp {K : PySem.W.Frag} {H : Hp} : ∀ (n : Nat) (xs : List D) (vs : List V), D.fines n xs = true → IsA K H xs vs → DpAll K H vs (D.pys xs)
  | n, [], vs, _, h => by simp only [IsA] at h; subst h; exact .nil
  | n, x :: xs, vs, h, h' => by
    simp only [D.fines, Bool.and_eq_true] at h
    simp only [IsA] at h'
    obtain ⟨v, r, rfl, h1, h2⟩ := h'
    exact .cons (Is.dp n x v h.1 h1) (IsA.dp n xs r h.2 h2)
end

section
variable {K : PySem.W.Frag} {W : WX} {X : Cx} {σ : L2.St} {H : Hp}
def eqD (x y : D) : Option Rs := if (D.fine 60 x && D.fine 60 y) = true then some (.va (.bl (D.eqv x y))) else none
def neD (x y : D) : Option Rs := if (D.fine 60 x && D.fine 60 y) = true then some (.va (.bl (!D.eqv x y))) else none
theorem od_eq : OpD K (rEqD K) eqD := by
  intro Hb H x y dx dy res Q s rx ry e q
  unfold eqD at e
  by_cases h : (D.fine 60 dx && D.fine 60 dy) = true
  · rw [if_pos h] at e
    cases e
    rw [Bool.and_eq_true] at h
    refine ⟨D.py dx, D.py dy, Is.dp 60 dx x h.1 (rx.is s), Is.dp 60 dy y h.2 (ry.is s), D.py_shaped h.1, D.py_shaped h.2, ?_⟩
    rw [D.py_eqv 60 60 dx dy h.1 h.2]
    exact q _ Hb H (Gro.refl s) (Is.blI (K := K) (H := Hb))
  · rw [if_neg h] at e; cases e
theorem od_ne : OpD K (rNeD K) neD := by
  intro Hb H x y dx dy res Q s rx ry e q
  unfold neD at e
  by_cases h : (D.fine 60 dx && D.fine 60 dy) = true
  · rw [if_pos h] at e
    cases e
    rw [Bool.and_eq_true] at h
    refine ⟨D.py dx, D.py dy, Is.dp 60 dx x h.1 (rx.is s), Is.dp 60 dy y h.2 (ry.is s), D.py_shaped h.1, D.py_shaped h.2, ?_⟩
    rw [D.py_eqv 60 60 dx dy h.1 h.2]
    exact q _ Hb H (Gro.refl s) (Is.blI (K := K) (H := Hb))
  · rw [if_neg h] at e; cases e
/-! ### ints -/
def iop (g : Int → Int → Option D) (x y : D) : Option Rs := match x, y with
  | .int i, .int j => (match g i j with
    | some d => some (.va d)
    | none => none)
  | _, _ => none
theorem od_int {r : R2} {g : Int → Int → Option D} (h : ∀ i j d H (Q : VK), g i j = some d → (∀ v, (∀ Hb, Is K Hb d v) → Q v H) → r (.int i) (.int j) H Q) : OpD K r (iop g) := by
  intro Hb H x y dx dy res Q s rx ry e q
  unfold iop at e
  cases dx with
  | int i =>
    cases dy with
    | int j =>
      simp only at e
      cases eg : g i j with
      | none => rw [eg] at e; cases e
      | some d =>
        rw [eg] at e; cases e
        rw [rx.int, ry.int]
        exact h i j d H Q eg fun v hv => q v Hb H (Gro.refl s) (hv Hb)
    | _ => cases e
  | _ => cases e
theorem od_I0 {g : Int → Int → Int} : OpD K (rI0 fun i j => .int (g i j)) (iop fun i j => some (.int (g i j))) :=
  od_int fun i j d H Q e q => by cases e; exact ⟨i, j, rfl, rfl, q _ fun _ => Is.intI⟩
theorem od_IC {C : Int → Int → Prop} [∀ i j, Decidable (C i j)] {g : Int → Int → Int} : OpD K (rI C fun i j => .int (g i j)) (iop fun i j => if C i j then some (.int (g i j)) else none) :=
  od_int fun i j d H Q e q => by
    by_cases hc : C i j
    · rw [if_pos hc] at e; cases e; exact ⟨i, j, rfl, rfl, hc, q _ fun _ => Is.intI⟩
    · rw [if_neg hc] at e; cases e
theorem od_B0 {g : Int → Int → Bool} : OpD K (rI0 fun i j => .bl (g i j)) (iop fun i j => some (.bl (g i j))) :=
  od_int fun i j d H Q e q => by cases e; exact ⟨i, j, rfl, rfl, q _ fun _ => Is.blI⟩
instance : ∀ i j, Decidable (CMulW i j) := fun i j => by unfold CMulW; infer_instance
instance : ∀ i j, Decidable (CDivW i j) := fun i j => by unfold CDivW; infer_instance
def ltD : D → D → Option Rs := iop fun i j => some (.bl (decide (i < j)))
def leD : D → D → Option Rs := iop fun i j => some (.bl (decide (i ≤ j)))
def gtD : D → D → Option Rs := iop fun i j => some (.bl (decide (j < i)))
def geD : D → D → Option Rs := iop fun i j => some (.bl (decide (j ≤ i)))
def subD : D → D → Option Rs := iop fun i j => some (.int (i - j))
def mulD : D → D → Option Rs := iop fun i j => if CMulW i j then some (.int (i * j)) else none
def divD : D → D → Option Rs := iop fun i j => if CDivW i j then some (.int (i / j)) else none
def modD : D → D → Option Rs := iop fun i j => if 0 < j then some (.int (i % j)) else none
def powD : D → D → Option Rs := iop fun i j => if 0 ≤ j ∧ j ≤ 1000000 ∧ i.natAbs < 2 ^ 64 then some (.int (i ^ j.toNat)) else none
/-! ### + -/
def rCatL (K : PySem.W.Frag) : R2 := fun x y H Q => ∃ l b xs zs, x = .ref l ∧ y = .ref b ∧ SqL K H l xs ∧ SqL K H b zs ∧ xs.length + zs.length ≤ sizeLine ∧ ∀ p, H p = none → Q (.ref p) (upd H p (.lst (xs ++ zs)))
theorem op_catL : OpR X (binaryOp .Add) (rCatL X.K) := by
  intro pins s σ H x y v u Q I rx ry h
  obtain ⟨l, b, xs, zs, rfl, rfl, hH, hB, hz, q⟩ := h
  cases rx
  cases ry
  obtain ⟨its, r, ⟨⟨c1, d1, t1, sl1⟩, n, e, k1, k2, k3⟩, _⟩ := I.list hH
  obtain ⟨its2, r2, ⟨⟨c2, d2, t2, sl2⟩, n2, e2, k4, k5, k6⟩, _⟩ := I.list hB
  dsimp only at k1 k2 k3 k4 k5 k6
  subst k1 k2 k3 k4 k5 k6
  have hl := r.length
  have hl2 := r2.length
  refine concat_meets ⟨_, e, rfl⟩ ⟨_, e2, rfl⟩ noFill_list_add seq_list_add PySem.F.slot_list_add PySem.F.entry_list_add (PySem.F.args_list_add_2 _ _) (PyProof.Rows.list_addW l b its.toArray its2.toArray n n2 none none sl1 sl2 (by rw [List.size_toArray, List.size_toArray]; omega)) ⟨e, e2, ?_⟩
  have ea : its.toArray ++ its2.toArray = (its ++ its2).toArray := by simp
  rw [ea]
  exact ⟨.ref _, _, I.lnew (t' := s.toks) (r.append r2) (by rw [List.length_append]; omega), rfl, q _ I.fresh⟩
def catL (x y : D) : Option Rs := match x, y with
  | .lst xs, .lst ys => if xs.length + ys.length ≤ 100000 then some (.fr (xs ++ ys)) else none
  | _, _ => none
def catT (x y : D) : Option Rs := match x, y with
  | .tup xs, .tup ys => if xs.length + ys.length ≤ 100000 then some (.va (.tup (xs ++ ys))) else none
  | _, _ => none
def catS (x y : D) : Option Rs := match x, y with
  | .str a, .str b => if a.length + b.length ≤ 100000 then some (.va (.str (a ++ b))) else none
  | _, _ => none
theorem od_catL : OpD K (rCatL K) catL := by
  intro Hb H x y dx dy res Q s rx ry e q
  unfold catL at e
  cases dx with
  | lst xs =>
    cases dy with
    | lst ys =>
      simp only at e
      by_cases hz : xs.length + ys.length ≤ 100000
      · rw [if_pos hz] at e; cases e
        obtain ⟨p, vs, rfl, h1, i1⟩ := rx.lstR s
        obtain ⟨p2, ws, rfl, h2, i2⟩ := ry.lstR s
        refine ⟨p, p2, vs, ws, rfl, rfl, h1, h2, by rw [i1.length, i2.length]; exact size_ok hz, fun t ht => ?_⟩
        exact q _ _ _ (Gro.newL s ht) ⟨t, _, rfl, ht, Same.none s ht, upd_same, i1.append i2⟩
      · rw [if_neg hz] at e; cases e
    | _ => cases e
  | _ => cases e
theorem od_catT : OpD K (rCatA K) catT := by
  intro Hb H x y dx dy res Q s rx ry e q
  unfold catT at e
  cases dx with
  | tup xs =>
    cases dy with
    | tup ys =>
      simp only at e
      by_cases hz : xs.length + ys.length ≤ 100000
      · rw [if_pos hz] at e; cases e
        obtain ⟨p, vs, rfl, h1, i1⟩ := rx.tup s
        obtain ⟨p2, ws, rfl, h2, i2⟩ := ry.tup s
        have ia := i1.append i2
        refine ⟨p, p2, vs, ws, rfl, rfl, h1, h2, by rw [i1.length, i2.length]; exact size_ok hz, fun z => ?_, fun z z2 => ?_, fun _ _ t ht => ?_⟩
        · subst z
          have : xs = [] := by have := i1.length; simp at this; exact List.eq_nil_of_length_eq_zero (by omega)
          subst this
          refine q _ Hb H (Gro.refl s) ?_
          rcases ry with ry | ⟨_, _, _, e, _⟩
          · exact ry
          · cases e
        · subst z2
          have : ys = [] := by have := i2.length; simp at this; exact List.eq_nil_of_length_eq_zero (by omega)
          subst this
          refine q _ Hb H (Gro.refl s) ?_
          rcases rx with rx | ⟨_, _, _, e, _⟩
          · show Is K Hb (.tup (xs ++ [])) _
            rw [List.append_nil]; exact rx
          · cases e
        · have g : Gro Hb H (upd Hb t (.tup (vs ++ ws))) (upd H t (.tup (vs ++ ws))) := Gro.newT s ht
          exact q _ _ _ g (Is.tupI (K := K) (H := upd Hb t (.tup (vs ++ ws))) (.inl (.inl upd_same)) (IsA.mono g.gr _ _ ia))
      · rw [if_neg hz] at e; cases e
    | _ => cases e
  | _ => cases e
theorem od_catS : OpD K (fun x y H Q => ∃ i j, x = .str i ∧ y = .str j ∧ i.length + j.length ≤ sizeLine ∧ Q (.str (i ++ j)) H) catS := by
  intro Hb H x y dx dy res Q s rx ry e q
  unfold catS at e
  cases dx with
  | str a =>
    cases dy with
    | str b =>
      simp only at e
      by_cases hz : a.length + b.length ≤ 100000
      · rw [if_pos hz] at e; cases e
        exact ⟨a, b, rx.str, ry.str, size_ok hz, q _ Hb H (Gro.refl s) (Is.strI (K := K) (H := Hb))⟩
      · rw [if_neg hz] at e; cases e
    | _ => cases e
  | _ => cases e

def or2 (f g : D → D → Option Rs) : D → D → Option Rs := fun x y => match f x y with | some z => some z | none => g x y
def addD : D → D → Option Rs := or2 (iop fun i j => some (.int (i + j))) (or2 catL (or2 catT catS))
theorem od_add : OpD K (fun x y H Q => rI0 (fun i j => .int (i + j)) x y H Q ∨ (rCatL K x y H Q ∨ (rCatA K x y H Q ∨ ∃ i j, x = .str i ∧ y = .str j ∧ i.length + j.length ≤ sizeLine ∧ Q (.str (i ++ j)) H))) addD :=
  od_I0.or (od_catL.or (od_catT.or od_catS))
theorem dm_add {a b : Expr} {ma mb : M Rs} {pos : Pos} (ha : PE X a (tM X.K W ma)) (hb : PE X b (tM X.K W mb)) : PE X (.BinOp a .Add b pos) (tM X.K W (mBin addD ma mb)) := dm_bin (op_add.or (op_catL.or ((op_catA (X := X)).or op_add_str))) od_add ha hb
theorem dm_sub {a b : Expr} {ma mb : M Rs} {pos : Pos} (ha : PE X a (tM K W ma)) (hb : PE X b (tM K W mb)) : PE X (.BinOp a .Sub b pos) (tM K W (mBin subD ma mb)) := dm_bin op_sub od_I0 ha hb
theorem dm_mul {a b : Expr} {ma mb : M Rs} {pos : Pos} (ha : PE X a (tM K W ma)) (hb : PE X b (tM K W mb)) : PE X (.BinOp a .Mult b pos) (tM K W (mBin mulD ma mb)) := dm_bin op_mulW od_IC ha hb
theorem dm_div {a b : Expr} {ma mb : M Rs} {pos : Pos} (ha : PE X a (tM K W ma)) (hb : PE X b (tM K W mb)) : PE X (.BinOp a .FloorDiv b pos) (tM K W (mBin divD ma mb)) := dm_bin op_fdivW od_IC ha hb
theorem dm_mod {a b : Expr} {ma mb : M Rs} {pos : Pos} (ha : PE X a (tM K W ma)) (hb : PE X b (tM K W mb)) : PE X (.BinOp a .Mod b pos) (tM K W (mBin modD ma mb)) := dm_bin op_mod od_IC ha hb
instance : ∀ i j, Decidable (CPow i j) := fun i j => by unfold CPow; infer_instance
theorem dm_pow {a b : Expr} {ma mb : M Rs} {pos : Pos} (ha : PE X a (tM K W ma)) (hb : PE X b (tM K W mb)) : PE X (.BinOp a .Pow b pos) (tM K W (mBin powD ma mb)) := dm_bin op_pow (od_int fun i j d H Q e q => by
    by_cases hc : 0 ≤ j ∧ j ≤ 1000000 ∧ i.natAbs < 2 ^ 64
    · rw [if_pos hc] at e; cases e; exact ⟨i, j, rfl, rfl, hc, q _ fun _ => Is.intI⟩
    · rw [if_neg hc] at e; cases e) ha hb
theorem dm_lt {a b : Expr} {ma mb : M Rs} {pos : Pos} (ha : PE X a (tM K W ma)) (hb : PE X b (tM K W mb)) : PE X (.Compare a [.Lt] [b] pos) (tM K W (mBin ltD ma mb)) := dm_cmp op_lt od_B0 ha hb
theorem dm_le {a b : Expr} {ma mb : M Rs} {pos : Pos} (ha : PE X a (tM K W ma)) (hb : PE X b (tM K W mb)) : PE X (.Compare a [.LtE] [b] pos) (tM K W (mBin leD ma mb)) := dm_cmp op_le od_B0 ha hb
theorem dm_gt {a b : Expr} {ma mb : M Rs} {pos : Pos} (ha : PE X a (tM K W ma)) (hb : PE X b (tM K W mb)) : PE X (.Compare a [.Gt] [b] pos) (tM K W (mBin gtD ma mb)) := dm_cmp op_gt od_B0 ha hb
theorem dm_ge {a b : Expr} {ma mb : M Rs} {pos : Pos} (ha : PE X a (tM K W ma)) (hb : PE X b (tM K W mb)) : PE X (.Compare a [.GtE] [b] pos) (tM K W (mBin geD ma mb)) := dm_cmp op_ge od_B0 ha hb
theorem dm_eq {a b : Expr} {ma mb : M Rs} {pos : Pos} (hu : X.A.units + 64 < cLine) (ha : PE X a (tM X.K W ma)) (hb : PE X b (tM X.K W mb)) : PE X (.Compare a [.Eq] [b] pos) (tM X.K W (mBin eqD ma mb)) := dm_cmp (op_eqD hu) od_eq ha hb
theorem dm_ne {a b : Expr} {ma mb : M Rs} {pos : Pos} (hu : X.A.units + 64 < cLine) (ha : PE X a (tM X.K W ma)) (hb : PE X b (tM X.K W mb)) : PE X (.Compare a [.NotEq] [b] pos) (tM X.K W (mBin neD ma mb)) := dm_cmp (op_neD hu) od_ne ha hb
theorem dt_lt {a b : Expr} {ma mb : M Rs} {pos : Pos} (ha : PE X a (tM K W ma)) (hb : PE X b (tM K W mb)) : PT X (.Compare a [.Lt] [b] pos) (tT K W (mTv (mBin ltD ma mb))) := dt_cmp op_lt od_B0 ha hb
theorem dt_le {a b : Expr} {ma mb : M Rs} {pos : Pos} (ha : PE X a (tM K W ma)) (hb : PE X b (tM K W mb)) : PT X (.Compare a [.LtE] [b] pos) (tT K W (mTv (mBin leD ma mb))) := dt_cmp op_le od_B0 ha hb
theorem dt_gt {a b : Expr} {ma mb : M Rs} {pos : Pos} (ha : PE X a (tM K W ma)) (hb : PE X b (tM K W mb)) : PT X (.Compare a [.Gt] [b] pos) (tT K W (mTv (mBin gtD ma mb))) := dt_cmp op_gt od_B0 ha hb
theorem dt_ge {a b : Expr} {ma mb : M Rs} {pos : Pos} (ha : PE X a (tM K W ma)) (hb : PE X b (tM K W mb)) : PT X (.Compare a [.GtE] [b] pos) (tT K W (mTv (mBin geD ma mb))) := dt_cmp op_ge od_B0 ha hb
theorem dt_eq {a b : Expr} {ma mb : M Rs} {pos : Pos} (hu : X.A.units + 64 < cLine) (ha : PE X a (tM X.K W ma)) (hb : PE X b (tM X.K W mb)) : PT X (.Compare a [.Eq] [b] pos) (tT X.K W (mTv (mBin eqD ma mb))) := dt_cmp (op_eqD hu) od_eq ha hb
theorem dt_ne {a b : Expr} {ma mb : M Rs} {pos : Pos} (hu : X.A.units + 64 < cLine) (ha : PE X a (tM X.K W ma)) (hb : PE X b (tM X.K W mb)) : PT X (.Compare a [.NotEq] [b] pos) (tT X.K W (mTv (mBin neD ma mb))) := dt_cmp (op_neD hu) od_ne ha hb
def negD : D → Option Rs
  | .int i => some (.va (.int (-i)))
  | _ => none
theorem ud_neg : UnD K (rU fun i => .int (-i)) negD := by
  intro Hb H x dx res Q s rx e q
  cases dx with
  | int i =>
    cases e
    exact ⟨i, rx.int, q _ Hb H (Gro.refl s) (Is.intI (K := K) (H := Hb))⟩
  | _ => cases e
theorem dm_neg {a : Expr} {ma : M Rs} {pos : Pos} (ha : PE X a (tM K W ma)) : PE X (.UnaryOp .USub a pos) (tM K W (mUn negD ma)) := dm_un un_neg ud_neg ha
end
end DL

namespace DL
open PySem L2
section
variable {K : PySem.W.Frag} {W : WX} {X : Cx} {σ : L2.St} {H : Hp}
/-! ### in, not in (flat things) -/
def D.flat : D → Bool
  | .non => true | .bl _ => true | .int _ => true | .str _ => true | _ => false
theorem flat_is {d : D} {v : V} {Hb : Hp} (h : Is K Hb d v) (f : d.flat = true) : flatV v = true ∧ (∀ e w Hb', Is K Hb' e w → e.flat = true → eqV v w = D.eqv d e) := by
  cases d with
  | non => simp only [Is] at h; subst h; refine ⟨rfl, fun e w Hb' h' f' => ?_⟩; cases e <;> simp_all [D.flat, Is, eqV, D.eqv]
  | bl b => simp only [Is] at h; subst h; refine ⟨rfl, fun e w Hb' h' f' => ?_⟩; cases e <;> simp_all [D.flat, Is, eqV, D.eqv] <;> (try cases b) <;> (try rfl) <;> simp_all [b2i]
  | int i => simp only [Is] at h; subst h; refine ⟨rfl, fun e w Hb' h' f' => ?_⟩; cases e <;> simp_all [D.flat, Is, eqV, D.eqv] <;> (try simp_all [b2i])
  | str x => simp only [Is] at h; subst h; refine ⟨rfl, fun e w Hb' h' f' => ?_⟩; cases e <;> simp_all [D.flat, Is, eqV, D.eqv]
  | _ => cases f

def inD (neg : Bool) (x y : D) : Option Rs := match y with
  | .lst ys => if (x.flat && ys.all D.flat) = true then some (.va (.bl (if neg then !(ys.any fun y => D.eqv y x) else ys.any fun y => D.eqv y x))) else none
  | .tup ys => if (x.flat && ys.all D.flat) = true then some (.va (.bl (if neg then !(ys.any fun y => D.eqv y x) else ys.any fun y => D.eqv y x))) else none
  | _ => none
theorem all_flat {Hb : Hp} : ∀ {ys : List D} {vs : List V}, IsA K Hb ys vs → ys.all D.flat = true → vs.all flatV = true ∧ ∀ (x : D) (v : V) (Hb' : Hp), Is K Hb' x v → x.flat = true → inV v vs = ys.any fun y => D.eqv y x
  | [], vs, h, _ => by simp only [IsA] at h; subst h; exact ⟨rfl, fun _ _ _ _ _ => rfl⟩
  | y :: ys, vs, h, f => by
    simp only [IsA] at h
    obtain ⟨w, r, rfl, h1, h2⟩ := h
    simp only [List.all_cons, Bool.and_eq_true] at f
    obtain ⟨i1, i2⟩ := all_flat h2 f.2
    obtain ⟨j1, j2⟩ := flat_is h1 f.1
    refine ⟨by simp only [List.all_cons, j1, i1, Bool.and_self], fun x v Hb' hx fx => ?_⟩
    show (eqV w v || inV v r) = (D.eqv y x || ys.any fun y => D.eqv y x)
    rw [j2 x v Hb' hx fx, i2 x v Hb' hx fx]
theorem od_in {neg : Bool} : OpD K (rIn K neg) (inD neg) := by
  intro Hb H x y dx dy res Q s rx ry e q
  have key : ∀ ys, (dx.flat && ys.all D.flat) = true → some (Rs.va (.bl (if neg then !(ys.any fun y => D.eqv y dx) else ys.any fun y => D.eqv y dx))) = some res → ∀ p vs, IsA K Hb ys vs → y = .ref p → (SqL K H p vs ∨ SqT K H p vs) → rIn K neg x y H Q := by
    intro ys hc e p vs iv ey hp
    rw [Bool.and_eq_true] at hc
    cases e
    have hx : Is K Hb dx x := by
      rcases rx with h | ⟨_, _, _, e, _⟩
      · exact h
      · subst e; exact absurd hc.1 (by simp [D.flat])
    obtain ⟨a1, a2⟩ := all_flat iv hc.2
    refine ⟨p, vs, ey, hp, (flat_is hx hc.1).1, a1, ?_⟩
    rw [a2 dx x Hb hx hc.1]
    exact q _ Hb H (Gro.refl s) (Is.blI (K := K) (H := Hb))
  unfold inD at e
  cases dy with
  | lst ys =>
    simp only at e
    by_cases hc : (dx.flat && ys.all D.flat) = true
    · rw [if_pos hc] at e
      obtain ⟨p, vs, ey, h1, i1⟩ := ry.lst s
      exact key ys hc e p vs i1 ey (.inl h1)
    · rw [if_neg hc] at e; cases e
  | tup ys =>
    simp only at e
    by_cases hc : (dx.flat && ys.all D.flat) = true
    · rw [if_pos hc] at e
      obtain ⟨p, vs, ey, h1, i1⟩ := ry.tup s
      exact key ys hc e p vs i1 ey (.inr h1)
    · rw [if_neg hc] at e; cases e
  | _ => cases e
theorem dm_in {a b : Expr} {ma mb : M Rs} {pos : Pos} (ha : PE X a (tM X.K W ma)) (hb : PE X b (tM X.K W mb)) (hm : behindInMarks .In b = false := by rfl) : PE X (.Compare a [.In] [b] pos) (tM X.K W (mBin (inD false) ma mb)) := dm_cmp op_in_seq od_in ha hb hm
theorem dm_notIn {a b : Expr} {ma mb : M Rs} {pos : Pos} (ha : PE X a (tM X.K W ma)) (hb : PE X b (tM X.K W mb)) (hm : behindInMarks .NotIn b = false := by rfl) : PE X (.Compare a [.NotIn] [b] pos) (tM X.K W (mBin (inD true) ma mb)) := dm_cmp op_notIn_seq od_in ha hb hm
theorem dt_in {a b : Expr} {ma mb : M Rs} {pos : Pos} (ha : PE X a (tM X.K W ma)) (hb : PE X b (tM X.K W mb)) (hm : behindInMarks .In b = false := by rfl) : PT X (.Compare a [.In] [b] pos) (tT X.K W (mTv (mBin (inD false) ma mb))) := dt_cmp op_in_seq od_in ha hb hm
theorem dt_notIn {a b : Expr} {ma mb : M Rs} {pos : Pos} (ha : PE X a (tM X.K W ma)) (hb : PE X b (tM X.K W mb)) (hm : behindInMarks .NotIn b = false := by rfl) : PT X (.Compare a [.NotIn] [b] pos) (tT X.K W (mTv (mBin (inD true) ma mb))) := dt_cmp op_notIn_seq od_in ha hb hm

/-! ### is None -/
def D.isNon : D → Bool
  | .non => true
  | _ => false
theorem isNon_ok {Hb : Hp} {d : D} {v : V} (h : RdR K Hb H d v) : decide (v = V.non) = d.isNon := by
  rcases h with h | ⟨_, _, _, rfl, rfl, _⟩
  · cases d <;> simp only [Is] at h
    case non => subst h; rfl
    case tup => obtain ⟨a, _, rfl, _⟩ := h; rfl
    case lst => obtain ⟨a, _, rfl, _⟩ := h; rfl
    case exc => obtain ⟨a, _, _, rfl, _⟩ := h; rfl
    case cls => obtain ⟨a, _, rfl⟩ := h; rfl
    all_goals (subst h; rfl)
  · rfl
def isN (neg : Bool) (d : D) : Option Rs := some (.va (.bl (if neg then !d.isNon else d.isNon)))
theorem dm_isN {a : Expr} {ma : M Rs} {j : Nat} {pos pos' : Pos} (ha : PE X a (tM K W ma)) : PE X (.Compare a [.Is] [.Constant .none j pos'] pos) (tM K W (mUn (isN false) ma)) :=
  PE.imp (pe_cmp (pc_isN ha)) fun σ H Q h => tM_un (r := fun x H Q => Q (.bl (decide (x = .non))) H) (fun Hb H x dx res Q s rx e q => by
    cases e
    rw [isNon_ok rx]
    exact q _ Hb H (Gro.refl s) (Is.blI (K := K) (H := Hb))) h
theorem dm_notN {a : Expr} {ma : M Rs} {j : Nat} {pos pos' : Pos} (ha : PE X a (tM K W ma)) : PE X (.Compare a [.IsNot] [.Constant .none j pos'] pos) (tM K W (mUn (isN true) ma)) :=
  PE.imp (pe_cmp (pc_notN ha)) fun σ H Q h => tM_un (r := fun x H Q => Q (.bl (!decide (x = .non))) H) (fun Hb H x dx res Q s rx e q => by
    cases e
    rw [isNon_ok rx]
    exact q _ Hb H (Gro.refl s) (Is.blI (K := K) (H := Hb))) h
theorem dt_isN {a : Expr} {ma : M Rs} {j : Nat} {pos pos' : Pos} (ha : PE X a (tM K W ma)) : PT X (.Compare a [.Is] [.Constant .none j pos'] pos) (tT K W (mTv (mUn (isN false) ma))) :=
  PT.imp (pt_cmp (pc_isN ha)) fun σ H Q h => by
    obtain ⟨Hb, ρ, S, P⟩ := tT_val h
    exact tM_un (r := fun x H Q => Q (.bl (decide (x = .non))) H) (fun Hb H x dx res Q s rx e q => by
      cases e
      rw [isNon_ok rx]
      exact q _ Hb H (Gro.refl s) (Is.blI (K := K) (H := Hb))) ⟨Hb, ρ, S, P⟩
theorem dt_notN {a : Expr} {ma : M Rs} {j : Nat} {pos pos' : Pos} (ha : PE X a (tM K W ma)) : PT X (.Compare a [.IsNot] [.Constant .none j pos'] pos) (tT K W (mTv (mUn (isN true) ma))) :=
  PT.imp (pt_cmp (pc_notN ha)) fun σ H Q h => by
    obtain ⟨Hb, ρ, S, P⟩ := tT_val h
    exact tM_un (r := fun x H Q => Q (.bl (!decide (x = .non))) H) (fun Hb H x dx res Q s rx e q => by
      cases e
      rw [isNon_ok rx]
      exact q _ Hb H (Gro.refl s) (Is.blI (K := K) (H := Hb))) ⟨Hb, ρ, S, P⟩

/-! ### a op1 b op2 c -/
def mChain (f g : D → D → Option Rs) (a b c : M Rs) : M Rs := fun ρ => bnd (a ρ) fun x ρ1 => bnd (b ρ1) fun y ρ2 => match rd ρ2 x, rd ρ2 y with
  | some dx, some dy => (match f dx dy with
    | some (.va (.bl true)) => bnd (c ρ2) fun z ρ3 => (match rd ρ3 y, rd ρ3 z with
      | some dy', some dz => (match g dy' dz with
        | some (.va (.bl b)) => .ok (.va (.bl b)) ρ3
        | _ => .stuck)
      | _, _ => .stuck)
    | some (.va (.bl false)) => .ok (.va (.bl false)) ρ2
    | _ => .stuck)
  | _, _ => .stuck
/-- tests alone: an operator that gives a truth and leaves the heap -/
def OpB (K : PySem.W.Frag) (r : R2) (f : D → D → Option Rs) : Prop := ∀ (Hb H : Hp) (x y : V) (dx dy : D) (b : Bool) (Q : VK), Same Hb H → RdR K Hb H dx x → RdR K Hb H dy y → f dx dy = some (.va (.bl b)) → Q (.bl b) H → r x y H Q
theorem ob_int {g : Int → Int → Bool} : OpB K (rI0 fun i j => .bl (g i j)) (iop fun i j => some (.bl (g i j))) := by
  intro Hb H x y dx dy b Q s rx ry e q
  unfold iop at e
  cases dx with
  | int i =>
    cases dy with
    | int j => simp only at e; cases e; exact ⟨i, j, rx.int, ry.int, q⟩
    | _ => cases e
  | _ => cases e
theorem tM_chain {r r' : R2} {f g : D → D → Option Rs} {a b c : M Rs} {Q : VK} (hr : OpB K r f) (hr' : OpB K r' g) (h : tM K W (mChain f g a b c) σ H Q) : tChain r r' (tM K W a) (tM K W b) (tM K W c) σ H Q := by
  obtain ⟨Hb, ρ, S, P⟩ := h
  refine ⟨Hb, ρ, S, ?_⟩
  unfold mChain at P
  cases ea : a ρ with
  | stuck => rw [ea] at P; exact P
  | er e ρ1 => rw [ea] at P; exact P
  | ok x ρ1 =>
    rw [ea] at P
    intro v H1 Hb1 s1 r1
    refine ⟨Hb1, ρ1, s1.st, ?_⟩
    simp only [bnd] at P
    cases eb : b ρ1 with
    | stuck => rw [eb] at P; exact P
    | er e ρ2 =>
      rw [eb] at P
      intro d H2 Hb2 s2 ex
      exact P d H2 Hb2 (s1.trans s2) ex
    | ok y ρ2 =>
      rw [eb] at P
      intro w H2 Hb2 s2 r2
      simp only at P
      have r1' : RsR K H Hb2 σ H2 x v := r1.step (own_there' S s1) s2
      have s12 := s1.trans s2
      cases ex : rd ρ2 x with
      | none => simp only [ex] at P; exact P.elim
      | some dx =>
        cases ey : rd ρ2 y with
        | none => simp only [ex, ey] at P; exact P.elim
        | some dy =>
          simp only [ex, ey] at P
          have go : ∀ k, f dx dy = some (.va (.bl k)) → (if k = true then tM K W c σ H2 fun w' H4 => r' w w' H4 Q else Q (.bl false) H2) → r v w H2 fun z H3 => ∃ k, z = .bl k ∧ (if k = true then tM K W c σ H3 fun w' H4 => r' w w' H4 Q else Q (.bl false) H3) := fun k ek q => hr Hb2 H2 v w dx dy k _ s2.st.sub (rd_ok s2.st r1' ex) (rd_ok s2.st r2 ey) ek ⟨k, rfl, q⟩
          cases ef : f dx dy with
          | none => simp only [ef] at P; exact P.elim
          | some res =>
            cases res with
            | fr xs => simp only [ef] at P; exact P.elim
            | al i => simp only [ef] at P; exact P.elim
            | va d =>
              cases d with
              | bl k =>
                cases k with
                | false =>
                  simp only [ef] at P
                  exact go false ef (iteF (P _ H2 Hb2 s12 (Is.blI (K := K) (H := Hb2))))
                | true =>
                  simp only [ef] at P
                  refine go true ef (iteT ⟨Hb2, ρ2, s2.st, ?_⟩)
                  cases ec : c ρ2 with
                  | stuck => rw [ec] at P; exact P
                  | er e ρ3 =>
                    rw [ec] at P
                    intro d H3 Hb3 s3 ex
                    exact P d H3 Hb3 (s12.trans s3) ex
                  | ok z ρ3 =>
                    rw [ec] at P
                    intro w' H3 Hb3 s3 r3
                    simp only at P
                    have r2' : RsR K H1 Hb3 σ H3 y w := r2.step (own_there' s1.st s2) s3
                    cases ey' : rd ρ3 y with
                    | none => simp only [ey'] at P; exact P.elim
                    | some dy' =>
                      cases ez : rd ρ3 z with
                      | none => simp only [ey', ez] at P; exact P.elim
                      | some dz =>
                        simp only [ey', ez] at P
                        cases eg : g dy' dz with
                        | none => simp only [eg] at P; exact P.elim
                        | some res =>
                          cases res with
                          | fr xs => simp only [eg] at P; exact P.elim
                          | al i => simp only [eg] at P; exact P.elim
                          | va d =>
                            cases d with
                            | bl k =>
                              simp only [eg] at P
                              exact hr' Hb3 H3 w w' dy' dz k Q s3.st.sub (rd_ok s3.st r2' ey') (rd_ok s3.st r3 ez) eg (P _ H3 Hb3 (s12.trans s3) (Is.blI (K := K) (H := Hb3)))
                            | _ => simp only [eg] at P; exact P.elim
              | _ => simp only [ef] at P; exact P.elim
theorem dm_chain {op op' : CmpOp} {r r' : R2} {f g : D → D → Option Rs} {a b c : Expr} {ma mb mc : M Rs} {pos : Pos} (ho : OpR X (compareOp op) r) (ho' : OpR X (compareOp op') r') (hr : OpB K r f) (hr' : OpB K r' g) (ha : PE X a (tM K W ma)) (hb : PE X b (tM K W mb)) (hc : PE X c (tM K W mc))
    (hm : lastMarks [op, op'] [b, c] = false := by with_unfolding_all rfl) : PE X (.Compare a [op, op'] [b, c] pos) (tM K W (mChain f g ma mb mc)) := PE.imp (pe_chain ho ho' ha hb hc hm) fun _ _ _ => tM_chain hr hr'
theorem dt_chain {op op' : CmpOp} {r r' : R2} {f g : D → D → Option Rs} {a b c : Expr} {ma mb mc : M Rs} {pos : Pos} (ho : OpR X (compareOp op) r) (ho' : OpR X (compareOp op') r') (hr : OpB K r f) (hr' : OpB K r' g) (ha : PE X a (tM K W ma)) (hb : PE X b (tM K W mb)) (hc : PE X c (tM K W mc))
    (hm : lastMarks [op, op'] [b, c] = false := by with_unfolding_all rfl) : PT X (.Compare a [op, op'] [b, c] pos) (tT K W (mTv (mChain f g ma mb mc))) := by
  refine PT.imp (pt_chain ho ho' ha hb hc hm) fun σ H Q h => ?_
  obtain ⟨Hb, ρ, S, P⟩ := tT_val h
  exact tM_chain hr hr' ⟨Hb, ρ, S, P⟩

/-! ### a[i], a[lo:hi] -/
def ixD (x y : D) : Option Rs := match x, y with
  | .lst xs, .int i => (atI xs i).map .va
  | .tup xs, .int i => (atI xs i).map .va
  | _, _ => none
theorem atI_is {Hb : Hp} {xs : List D} {vs : List V} {i : Int} {d : D} (h : IsA K Hb xs vs) (e : atI xs i = some d) : ∃ v, atI vs i = some v ∧ Is K Hb d v := by
  unfold atI at e ⊢
  rw [h.length]
  cases q : ixN xs.length i with
  | none => rw [q] at e; cases e
  | some j =>
    rw [q] at e
    exact h.get e
theorem od_ix : OpD K (rIx K) ixD := by
  intro Hb H x y dx dy res Q s rx ry e q
  unfold ixD at e
  cases dx with
  | lst xs =>
    cases dy with
    | int i =>
      simp only at e
      cases ea : atI xs i with
      | none => rw [ea] at e; cases e
      | some d =>
        rw [ea] at e; cases e
        obtain ⟨p, vs, rfl, h1, i1⟩ := rx.lst s
        obtain ⟨v, ev, iv⟩ := atI_is i1 ea
        exact .inl ⟨p, vs, i, v, rfl, ry.int, h1, ev, q _ Hb H (Gro.refl s) iv⟩
    | _ => cases e
  | tup xs =>
    cases dy with
    | int i =>
      simp only at e
      cases ea : atI xs i with
      | none => rw [ea] at e; cases e
      | some d =>
        rw [ea] at e; cases e
        obtain ⟨p, vs, rfl, h1, i1⟩ := rx.tup s
        obtain ⟨v, ev, iv⟩ := atI_is i1 ea
        exact .inr (.inl ⟨p, vs, i, v, rfl, ry.int, h1, ev, q _ Hb H (Gro.refl s) iv⟩)
    | _ => cases e
  | _ => cases e
theorem dm_ix {a b : Expr} {ma mb : M Rs} {pos : Pos} (ha : PE X a (tM X.K W ma)) (hb : PE X b (tM X.K W mb)) (hs : PlainIx b := by exact fun _ _ => rfl) : PE X (.Subscript a b pos) (tM X.K W (mBin ixD ma mb)) := PE.imp (pe_ix ix_seq ha hb hs) fun _ _ _ => tM_bin od_ix
def tO (K : PySem.W.Frag) (W : WX) (m : M (Option Int)) : TO := fun σ H Q => ∃ Hb ρ, StR K Hb σ ρ H ∧ (match m ρ with
  | .ok o ρ' => ∀ H' Hb', Ste K σ Hb ρ H Hb' ρ' H' → Q o H'
  | .er e ρ' => ∀ (d : Value × Option Addr) H' Hb', Ste K σ Hb ρ H Hb' ρ' H' → ExR K Hb' H' e d → W d.1 d.2 σ H'
  | .stuck => False)
def mPN : M (Option Int) := fun ρ => .ok none ρ
def mPS (a : M Rs) : M (Option Int) := fun ρ => bnd (a ρ) fun x ρ1 => match rd ρ1 x with
  | some (.int i) => .ok (some i) ρ1
  | _ => .stuck
theorem PO.imp {e : Option Expr} {t t' : TO} (h : PO X e t) (i : ∀ σ H Q, t' σ H Q → t σ H Q) : PO X e t' := ⟨fun pins s σ H Q I q => h.run pins s σ H Q I (i σ H Q q)⟩
theorem do_none : PO X none (tO K W mPN) := PO.imp po_none fun σ H Q h => by
  obtain ⟨Hb, ρ, S, P⟩ := h
  exact P H Hb (Ste.refl S)
theorem do_some {a : Expr} {ma : M Rs} (ha : PE X a (tM K W ma)) : PO X (some a) (tO K W (mPS ma)) := PO.imp (po_some ha) fun σ H Q h => by
  obtain ⟨Hb, ρ, S, P⟩ := h
  refine ⟨Hb, ρ, S, ?_⟩
  unfold mPS at P
  cases ea : ma ρ with
  | stuck => rw [ea] at P; exact P
  | er e ρ1 => rw [ea] at P; exact P
  | ok x ρ1 =>
    rw [ea] at P
    intro v H1 Hb1 s1 r1
    simp only [bnd] at P
    cases ex : rd ρ1 x with
    | none => simp only [ex] at P
    | some dx =>
      have q := rd_ok s1.st r1 ex
      cases dx with
      | int i =>
        simp only [ex] at P
        exact ⟨i, q.int, P H1 Hb1 s1⟩
      | _ => simp only [ex] at P
def cutD (xs : List D) (lo hi : Option Int) : List D := (xs.drop (HT.sIx xs.length 0 lo)).take (HT.sIx xs.length xs.length hi - HT.sIx xs.length 0 lo)
def slD (x : D) (lo hi : Option Int) : Option Rs := match x with
  | .lst xs => some (.fr (cutD xs lo hi))
  | .tup xs => some (.va (.tup (cutD xs lo hi)))
  | _ => none
def mSl (a : M Rs) (lo hi : M (Option Int)) : M Rs := fun ρ => bnd (a ρ) fun x ρ1 => bnd (lo ρ1) fun l ρ2 => bnd (hi ρ2) fun h ρ3 => match rd ρ3 x with
  | some d => (match slD d l h with
    | some r => .ok r ρ3
    | none => .stuck)
  | none => .stuck
theorem cut_is {Hb : Hp} {xs : List D} {vs : List V} {lo hi : Option Int} (h : IsA K Hb xs vs) : IsA K Hb (cutD xs lo hi) (cutV vs lo hi) := by
  unfold cutD cutV
  rw [h.length]
  exact IsA.take _ (IsA.drop _ h)
theorem cut_whole {xs : List D} {lo hi : Option Int} (h : HT.sIx xs.length 0 lo = 0 ∧ HT.sIx xs.length xs.length hi = xs.length) : cutD xs lo hi = xs := by
  unfold cutD
  rw [h.1, h.2]
  simp
theorem dm_sl {a : Expr} {lo hi : Option Expr} {ma : M Rs} {ml mh : M (Option Int)} {pos p2 : Pos} (ha : PE X a (tM X.K W ma)) (hl : PO X lo (tO X.K W ml)) (hh : PO X hi (tO X.K W mh)) : PE X (.Subscript a (.Slice lo hi none p2) pos) (tM X.K W (mSl ma ml mh)) := by
  refine PE.imp (pe_slice (sl_list.or sl_tupA) ha hl hh) fun σ H Q h => ?_
  obtain ⟨Hb, ρ, S, P⟩ := h
  refine ⟨Hb, ρ, S, ?_⟩
  unfold mSl at P
  cases ea : ma ρ with
  | stuck => rw [ea] at P; exact P
  | er e ρ1 => rw [ea] at P; exact P
  | ok x ρ1 =>
    rw [ea] at P
    intro v H1 Hb1 s1 r1
    refine ⟨Hb1, ρ1, s1.st, ?_⟩
    simp only [bnd] at P
    cases el : ml ρ1 with
    | stuck => rw [el] at P; exact P
    | er e ρ2 =>
      rw [el] at P
      intro d H2 Hb2 s2 ex
      exact P d H2 Hb2 (s1.trans s2) ex
    | ok l ρ2 =>
      rw [el] at P
      intro H2 Hb2 s2
      refine ⟨Hb2, ρ2, s2.st, ?_⟩
      have s12 := s1.trans s2
      simp only at P
      cases eh : mh ρ2 with
      | stuck => rw [eh] at P; exact P
      | er e ρ3 =>
        rw [eh] at P
        intro d H3 Hb3 s3 ex
        exact P d H3 Hb3 (s12.trans s3) ex
      | ok u ρ3 =>
        rw [eh] at P
        intro H3 Hb3 s3
        have s13 := s12.trans s3
        have r3 := (r1.step (own_there' S s1) s2).step (own_there' S s12) s3
        simp only at P
        cases ex : rd ρ3 x with
        | none => simp only [ex] at P; exact P.elim
        | some dx =>
          simp only [ex] at P
          have q := rd_ok s3.st r3 ex
          cases dx with
          | lst xs =>
            simp only [slD] at P
            obtain ⟨p, vs, rfl, h1, i1⟩ := q.lst s3.st.sub
            refine .inl ⟨p, vs, rfl, h1, fun t ht => ?_⟩
            have g : Gro Hb3 H3 Hb3 (upd H3 t (.lst (cutV vs l u))) := Gro.newL s3.st.sub ht
            exact P (.ref t) _ _ (s13.trans (g.ste s3.st)) ⟨t, _, rfl, s13.th t ht, Same.none s3.st.sub ht, upd_same, cut_is i1⟩
          | tup xs =>
            simp only [slD] at P
            have q' : Is X.K Hb3 (.tup xs) v := by
              rcases q with q | ⟨_, _, _, e, _⟩
              · exact q
              · cases e
            obtain ⟨p, vs, rfl, h1, i1⟩ := q.tup s3.st.sub
            refine .inr ⟨p, vs, rfl, h1, fun hw => ?_, fun _ t ht => ?_⟩
            · rw [i1.length] at hw
              refine P (.ref p) _ _ s13 ?_
              show Is X.K Hb3 (.tup (cutD xs l u)) _
              rw [cut_whole hw]
              exact q'
            · have g : Gro Hb3 H3 (upd Hb3 t (.tup (cutV vs l u))) (upd H3 t (.tup (cutV vs l u))) := Gro.newT s3.st.sub ht
              exact P (.ref t) _ _ (s13.trans (g.ste s3.st)) (Is.tupI (K := X.K) (H := upd Hb3 t (.tup (cutV vs l u))) (.inl (.inl upd_same)) (IsA.mono g.gr _ _ (cut_is i1)))
          | _ => simp only [slD] at P; exact P.elim
end
end DL

namespace DL
open PySem L2
section
variable {K : PySem.W.Frag} {W : WX} {X : Cx} {σ : L2.St} {H : Hp}
/-! ### built-ins called by name -/
theorem dm_callB {id : String} {r : List V → Hp → VK → Prop} {f : List D → Option Rs} {x : Str} {p pos : Pos} {e : Expr} {es : List Expr} {as : M (List Rs)} (hc : CallR X (.builtin id) r) (hr : CallD K r f) (hg : Gl X x) (hm : X.mg x = none) (hv : bootBuiltins x = some (.builtin id)) (ha : PA X (e :: es) (tA K W as))
    (hn : x ≠ "__name__" := by decide) (hdb : (x == ("__debug__" : Str)) = false := by decide) (he : starEach (e :: es) X.env = (false, eval e X.env) :: starEach es X.env := by rfl) (hpl : (backTo pos (starEach es X.env)).any (·.1) = false := by rfl) :
    PE X (.Call (.Name x p) (e :: es) [] pos) (tM K W (mBi f as)) := PE.imp (pe_callB hc hg hm hv ha hn hdb he hpl) fun _ _ _ => tM_bi hr
theorem dm_callTy {T : String} {r : List V → Hp → VK → Prop} {f : List D → Option Rs} {x : Str} {p pos : Pos} {e : Expr} {es : List Expr} {as : M (List Rs)} (hc : CallR X (.type T) r) (hr : CallD K r f) (hg : Gl X x) (hm : X.mg x = none) (hv : bootBuiltins x = some (.type T)) (ha : PA X (e :: es) (tA K W as))
    (hn : x ≠ "__name__" := by decide) (hdb : (x == ("__debug__" : Str)) = false := by decide) (he : starEach (e :: es) X.env = (false, eval e X.env) :: starEach es X.env := by rfl) (hpl : (backTo pos (starEach es X.env)).any (·.1) = false := by rfl) :
    PE X (.Call (.Name x p) (e :: es) [] pos) (tM K W (mBi f as)) := PE.imp (pe_callTy hc hg hm hv ha hn hdb he hpl) fun _ _ _ => tM_bi hr
theorem dm_tyName {n : String} {x : Str} {pos : Pos} (hg : Gl X x) (hm : X.mg x = none) (hv : bootBuiltins x = some (.type n)) (hn : x ≠ "__name__" := by decide) (hd : (x == ("__debug__" : Str)) = false := by decide) : PE X (.Name x pos) (tM K W (mC (.ty n))) :=
  PE.imp (pe_bltn (v := .ty n) hg hm hv rfl hn hd) fun _ _ _ => tM_C fun _ => by simp only [Is]
theorem dm_glob {x : Str} {d : D} {v : V} {u : Value} {pos : Pos} (hv : ∀ Hb, Is K Hb d v) (hg : Gl X x) (hm : X.mg x = some u) (r : RelV v u) (hd : (x == ("__debug__" : Str)) = false := by decide) : PE X (.Name x pos) (tM K W (mC d)) :=
  PE.imp (pe_glob hg hm r hd) fun _ _ _ => tM_C hv
def lenD : List D → Option Rs
  | [.lst xs] => some (.va (.int xs.length))
  | [.tup xs] => some (.va (.int xs.length))
  | [.str x] => if x.length ≤ 100000 then some (.va (.int x.length)) else none
  | _ => none
theorem pair1 {α β : Type} {F : α → β → Prop} {a : α} {l : List β} (h : Paired F [a] l) : ∃ b, l = [b] ∧ F a b := by
  cases h with
  | cons h t => cases t; exact ⟨_, rfl, h⟩
theorem pair2 {α β : Type} {F : α → β → Prop} {a c : α} {l : List β} (h : Paired F [a, c] l) : ∃ b d, l = [b, d] ∧ F a b ∧ F c d := by
  cases h with
  | cons h t =>
    obtain ⟨d, rfl, h2⟩ := pair1 t
    exact ⟨_, _, rfl, h, h2⟩
theorem cd_len : CallD K (fun xs H Q => (∃ p ys, xs = [.ref p] ∧ (SqL K H p ys ∨ SqT K H p ys) ∧ Q (.int ys.length) H) ∨ ∃ z, xs = [.str z] ∧ z.length ≤ sizeLine ∧ Q (.int z.length) H) lenD := by
  intro Hb H xs ds res Q s r e q
  unfold lenD at e
  split at e
  · rename_i ys
    cases e
    obtain ⟨v, rfl, h⟩ := pair1 r
    obtain ⟨p, vs, rfl, h1, i1⟩ := h.lst s
    refine .inl ⟨p, vs, rfl, .inl h1, ?_⟩
    rw [i1.length]
    exact q _ Hb H (Gro.refl s) (Is.intI (K := K) (H := Hb))
  · rename_i ys
    cases e
    obtain ⟨v, rfl, h⟩ := pair1 r
    obtain ⟨p, vs, rfl, h1, i1⟩ := h.tup s
    refine .inl ⟨p, vs, rfl, .inr h1, ?_⟩
    rw [i1.length]
    exact q _ Hb H (Gro.refl s) (Is.intI (K := K) (H := Hb))
  · rename_i x
    by_cases hz : x.length ≤ 100000
    · rw [if_pos hz] at e; cases e
      obtain ⟨v, rfl, h⟩ := pair1 r
      rw [h.str]
      exact .inr ⟨x, rfl, size_ok hz, q _ Hb H (Gro.refl s) (Is.intI (K := K) (H := Hb))⟩
    · rw [if_neg hz] at e; cases e
  · cases e
def absD : List D → Option Rs
  | [.int i] => some (.va (.int (if i < 0 then -i else i)))
  | _ => none
theorem cd_abs : CallD K (fun xs H Q => ∃ i, xs = [.int i] ∧ Q (.int (if i < 0 then -i else i)) H) absD := by
  intro Hb H xs ds res Q s r e q
  unfold absD at e
  split at e
  · cases e
    obtain ⟨v, rfl, h⟩ := pair1 r
    rw [h.int]
    exact ⟨_, rfl, q _ Hb H (Gro.refl s) (Is.intI (K := K) (H := Hb))⟩
  · cases e
def intD : List D → Option Rs
  | [.int i] => some (.va (.int i))
  | [.bl b] => some (.va (.int (if b then 1 else 0)))
  | _ => none
theorem cd_int : CallD K (fun xs H Q => (∃ i, xs = [.int i] ∧ Q (.int i) H) ∨ ∃ k, xs = [.bl k] ∧ Q (.int (if k then 1 else 0)) H) intD := by
  intro Hb H xs ds res Q s r e q
  unfold intD at e
  split at e
  · cases e
    obtain ⟨v, rfl, h⟩ := pair1 r
    rw [h.int]
    exact .inl ⟨_, rfl, q _ Hb H (Gro.refl s) (Is.intI (K := K) (H := Hb))⟩
  · cases e
    obtain ⟨v, rfl, h⟩ := pair1 r
    rw [h.bl]
    exact .inr ⟨_, rfl, q _ Hb H (Gro.refl s) (Is.intI (K := K) (H := Hb))⟩
  · cases e
def tupD : List D → Option Rs
  | [.lst xs] => some (.va (.tup xs))
  | [.tup xs] => some (.va (.tup xs))
  | _ => none
theorem cd_tup : CallD K (fun xs H Q => ∃ p ys, xs = [.ref p] ∧ ((SqL K H p ys ∧ ∀ l, H l = none → Q (.ref l) (upd H l (.tup ys))) ∨ (SqT K H p ys ∧ Q (.ref p) H))) tupD := by
  intro Hb H xs ds res Q s r e q
  unfold tupD at e
  split at e
  · rename_i ys
    cases e
    obtain ⟨v, rfl, h⟩ := pair1 r
    obtain ⟨p, vs, rfl, h1, i1⟩ := h.lst s
    refine ⟨p, vs, rfl, .inl ⟨h1, fun t ht => ?_⟩⟩
    have g : Gro Hb H (upd Hb t (.tup vs)) (upd H t (.tup vs)) := Gro.newT s ht
    exact q _ _ _ g (Is.tupI (K := K) (H := upd Hb t (.tup vs)) (.inl (.inl upd_same)) (IsA.mono g.gr _ _ i1))
  · rename_i ys
    cases e
    obtain ⟨v, rfl, h⟩ := pair1 r
    have h' : Is K Hb (.tup ys) v := by
      rcases h with h | ⟨_, _, _, e, _⟩
      · exact h
      · cases e
    obtain ⟨p, vs, rfl, h1, i1⟩ := h.tup s
    exact ⟨p, vs, rfl, .inr ⟨h1, q _ Hb H (Gro.refl s) h'⟩⟩
  · cases e
def listD : List D → Option Rs
  | [.lst xs] => some (.fr xs)
  | [.tup xs] => some (.fr xs)
  | _ => none
theorem cd_list : CallD K (fun xs H Q => ∃ p ys, xs = [.ref p] ∧ (SqL K H p ys ∨ SqT K H p ys) ∧ ∀ l, H l = none → Q (.ref l) (upd H l (.lst ys))) listD := by
  intro Hb H xs ds res Q s r e q
  unfold listD at e
  split at e
  · rename_i ys
    cases e
    obtain ⟨v, rfl, h⟩ := pair1 r
    obtain ⟨p, vs, rfl, h1, i1⟩ := h.lst s
    exact ⟨p, vs, rfl, .inl h1, fun t ht => q _ _ _ (Gro.newL s ht) ⟨t, vs, rfl, ht, Same.none s ht, upd_same, i1⟩⟩
  · rename_i ys
    cases e
    obtain ⟨v, rfl, h⟩ := pair1 r
    obtain ⟨p, vs, rfl, h1, i1⟩ := h.tup s
    exact ⟨p, vs, rfl, .inr h1, fun t ht => q _ _ _ (Gro.newL s ht) ⟨t, vs, rfl, ht, Same.none s ht, upd_same, i1⟩⟩
  · cases e
def max2D : List D → Option Rs
  | [.int i, .int j] => some (.va (.int (if j > i then j else i)))
  | _ => none
theorem cd_max2 : CallD K (fun xs H Q => ∃ i j, xs = [.int i, .int j] ∧ Q (.int (if j > i then j else i)) H) max2D := by
  intro Hb H xs ds res Q s r e q
  unfold max2D at e
  split at e
  · cases e
    obtain ⟨v, w, rfl, h, h2⟩ := pair2 r
    rw [h.int, h2.int]
    exact ⟨_, _, rfl, q _ Hb H (Gro.refl s) (Is.intI (K := K) (H := Hb))⟩
  · cases e
def min2D : List D → Option Rs
  | [.int i, .int j] => some (.va (.int (if j < i then j else i)))
  | _ => none
theorem cd_min2 : CallD K (fun xs H Q => ∃ i j, xs = [.int i, .int j] ∧ Q (.int (if j < i then j else i)) H) min2D := by
  intro Hb H xs ds res Q s r e q
  unfold min2D at e
  split at e
  · cases e
    obtain ⟨v, w, rfl, h, h2⟩ := pair2 r
    rw [h.int, h2.int]
    exact ⟨_, _, rfl, q _ Hb H (Gro.refl s) (Is.intI (K := K) (H := Hb))⟩
  · cases e
def strD : List D → Option Rs
  | [.int i] => if i.natAbs.log2 < 1920 then some (.va (.str (toString i))) else none
  | _ => none
theorem cd_str : CallD K (fun xs H Q => ∃ i, xs = [.int i] ∧ i.natAbs.log2 < 1920 ∧ Q (.str (toString i)) H) strD := by
  intro Hb H xs ds res Q s r e q
  unfold strD at e
  split at e
  · rename_i i
    by_cases hz : i.natAbs.log2 < 1920
    · rw [if_pos hz] at e; cases e
      obtain ⟨v, rfl, h⟩ := pair1 r
      rw [h.int]
      exact ⟨_, rfl, hz, q _ Hb H (Gro.refl s) (Is.strI (K := K) (H := Hb))⟩
    · rw [if_neg hz] at e; cases e
  · cases e
/-- all items ints; all items truths -/
def intsOf : List D → Option (List Int)
  | [] => some []
  | .int i :: xs => (match intsOf xs with
    | some r => some (i :: r)
    | none => none)
  | _ => none
def blsOf : List D → Option (List Bool)
  | [] => some []
  | .bl i :: xs => (match blsOf xs with
    | some r => some (i :: r)
    | none => none)
  | _ => none
theorem intsOf_is {Hb : Hp} : ∀ {xs : List D} {vs : List V} {ns : List Int}, IsA K Hb xs vs → intsOf xs = some ns → vs = ns.map V.int
  | [], vs, ns, h, e => by simp only [IsA] at h; subst h; cases e; rfl
  | .int i :: xs, vs, ns, h, e => by
    simp only [IsA] at h
    obtain ⟨v, r, rfl, h1, h2⟩ := h
    simp only [Is] at h1
    subst h1
    unfold intsOf at e
    cases q : intsOf xs with
    | none => simp only [q] at e; cases e
    | some r' => simp only [q] at e; cases e; rw [intsOf_is h2 q]; rfl
  | .non :: xs, vs, ns, h, e => by cases e
  | .bl _ :: xs, vs, ns, h, e => by cases e
  | .str _ :: xs, vs, ns, h, e => by cases e
  | .tup _ :: xs, vs, ns, h, e => by cases e
  | .lst _ :: xs, vs, ns, h, e => by cases e
  | .exc _ _ :: xs, vs, ns, h, e => by cases e
  | .ty _ :: xs, vs, ns, h, e => by cases e
  | .cls _ :: xs, vs, ns, h, e => by cases e
theorem blsOf_is {Hb : Hp} : ∀ {xs : List D} {vs : List V} {ns : List Bool}, IsA K Hb xs vs → blsOf xs = some ns → vs = ns.map V.bl
  | [], vs, ns, h, e => by simp only [IsA] at h; subst h; cases e; rfl
  | .bl i :: xs, vs, ns, h, e => by
    simp only [IsA] at h
    obtain ⟨v, r, rfl, h1, h2⟩ := h
    simp only [Is] at h1
    subst h1
    unfold blsOf at e
    cases q : blsOf xs with
    | none => simp only [q] at e; cases e
    | some r' => simp only [q] at e; cases e; rw [blsOf_is h2 q]; rfl
  | .non :: xs, vs, ns, h, e => by cases e
  | .int _ :: xs, vs, ns, h, e => by cases e
  | .str _ :: xs, vs, ns, h, e => by cases e
  | .tup _ :: xs, vs, ns, h, e => by cases e
  | .lst _ :: xs, vs, ns, h, e => by cases e
  | .exc _ _ :: xs, vs, ns, h, e => by cases e
  | .ty _ :: xs, vs, ns, h, e => by cases e
  | .cls _ :: xs, vs, ns, h, e => by cases e
def sumD : List D → Option Rs
  | [.lst xs] => (match intsOf xs with
    | some ns => some (.va (.int ns.sum))
    | none => none)
  | _ => none
theorem cd_sum : CallD K (rSum K) sumD := by
  intro Hb H xs ds res Q s r e q
  unfold sumD at e
  split at e
  · rename_i ys
    cases ei : intsOf ys with
    | none => rw [ei] at e; cases e
    | some ns =>
      rw [ei] at e; cases e
      obtain ⟨v, rfl, h⟩ := pair1 r
      obtain ⟨p, vs, rfl, h1, i1⟩ := h.lst s
      rw [intsOf_is i1 ei] at h1
      exact ⟨p, ns, rfl, h1, q _ Hb H (Gro.refl s) (Is.intI (K := K) (H := Hb))⟩
  · cases e
def allD : List D → Option Rs
  | [.lst xs] => (match blsOf xs with
    | some ns => some (.va (.bl (ns.all id)))
    | none => none)
  | _ => none
def anyD : List D → Option Rs
  | [.lst xs] => (match blsOf xs with
    | some ns => some (.va (.bl (ns.any id)))
    | none => none)
  | _ => none
theorem cd_all : CallD K (rAll K) allD := by
  intro Hb H xs ds res Q s r e q
  unfold allD at e
  split at e
  · rename_i ys
    cases ei : blsOf ys with
    | none => rw [ei] at e; cases e
    | some ns =>
      rw [ei] at e; cases e
      obtain ⟨v, rfl, h⟩ := pair1 r
      obtain ⟨p, vs, rfl, h1, i1⟩ := h.lst s
      rw [blsOf_is i1 ei] at h1
      exact ⟨p, ns, rfl, h1, q _ Hb H (Gro.refl s) (Is.blI (K := K) (H := Hb))⟩
  · cases e
theorem cd_any : CallD K (rAny K) anyD := by
  intro Hb H xs ds res Q s r e q
  unfold anyD at e
  split at e
  · rename_i ys
    cases ei : blsOf ys with
    | none => rw [ei] at e; cases e
    | some ns =>
      rw [ei] at e; cases e
      obtain ⟨v, rfl, h⟩ := pair1 r
      obtain ⟨p, vs, rfl, h1, i1⟩ := h.lst s
      rw [blsOf_is i1 ei] at h1
      exact ⟨p, ns, rfl, h1, q _ Hb H (Gro.refl s) (Is.blI (K := K) (H := Hb))⟩
  · cases e
/-- isinstance(x, T), T one of the usual built-in types -/
def D.tyName : D → Option String
  | .non => some "NoneType" | .bl _ => some "bool" | .int _ => some "int" | .str _ => some "str" | .tup _ => some "tuple" | .lst _ => some "list" | _ => none
def isiD : List D → Option Rs
  | [d, .ty n] => (match d.tyName with
    | some t => (match kitB t n with
      | some b => some (.va (.bl b))
      | none => none)
    | none => none)
  | _ => none
theorem tyX_of {Hb : Hp} {d : D} {v : V} {t : String} (s : Same Hb H) (h : RdR K Hb H d v) (e : d.tyName = some t) : TyX K H v (.type t) := by
  have h' := h.is s
  cases d with
  | non => cases e; simp only [Is] at h'; subst h'; exact .base .non
  | bl b => cases e; simp only [Is] at h'; subst h'; exact .base (.bl b)
  | int b => cases e; simp only [Is] at h'; subst h'; exact .base (.int b)
  | str b => cases e; simp only [Is] at h'; subst h'; exact .base (.str b)
  | tup ds =>
    cases e; simp only [Is] at h'
    obtain ⟨a, xs, rfl, (h1 | ⟨o, h1⟩) | ⟨o, its, n, h1, h2, _⟩, _⟩ := h'
    · exact .base (.tup h1)
    · exact .fTuple h1
    · exact .kTuple h1 h2
  | lst ds =>
    cases e; simp only [Is] at h'
    obtain ⟨a, xs, rfl, (h1 | ⟨o, h1⟩) | ⟨o, its, n, h1, h2, _⟩, _⟩ := h'
    · exact .base (.lst h1)
    · exact .base (.frz h1)
    · exact .kList h1 h2
  | _ => cases e
theorem cd_isi : CallD K (rIsi K) isiD := by
  intro Hb H xs ds res Q s r e q
  unfold isiD at e
  split at e
  · rename_i d n
    cases et : d.tyName with
    | none => simp only [et] at e; cases e
    | some t =>
      simp only [et] at e
      cases eb : kitB t n with
      | none => simp only [eb] at e; cases e
      | some b =>
        simp only [eb] at e; cases e
        obtain ⟨v, w, rfl, h, h2⟩ := pair2 r
        have h2' : w = .ty n := by
          rcases h2 with h2 | ⟨_, _, _, e, _⟩
          · simpa only [Is] using h2
          · cases e
        subst h2'
        exact ⟨v, .ty n, .type t, .type n, b, rfl, .ty n, tyX_of s h et, kit_ty eb, q _ Hb H (Gro.refl s) (Is.blI (K := K) (H := Hb))⟩
  · cases e
theorem kit1 : kitB "bool" "int" = some true ∧ kitB "int" "int" = some true ∧ kitB "str" "int" = some false ∧ kitB "tuple" "int" = some false ∧ kitB "list" "int" = some false ∧ kitB "NoneType" "int" = some false := by decide +kernel
theorem kit2 : kitB "bool" "bool" = some true ∧ kitB "int" "bool" = some false ∧ kitB "str" "bool" = some false ∧ kitB "tuple" "bool" = some false ∧ kitB "list" "bool" = some false ∧ kitB "NoneType" "bool" = some false := by decide +kernel
theorem kit3 : kitB "bool" "tuple" = some false ∧ kitB "int" "tuple" = some false ∧ kitB "str" "tuple" = some false ∧ kitB "tuple" "tuple" = some true ∧ kitB "list" "tuple" = some false ∧ kitB "NoneType" "tuple" = some false := by decide +kernel
theorem kit4 : kitB "bool" "list" = some false ∧ kitB "int" "list" = some false ∧ kitB "str" "list" = some false ∧ kitB "tuple" "list" = some false ∧ kitB "list" "list" = some true ∧ kitB "NoneType" "list" = some false := by decide +kernel
end
end DL

namespace DL
open PySem L2
/-! ### statements -/
inductive Out where
  | nx (ρ : Rho) | rt (r : Rs) (ρ : Rho) | bk (ρ : Rho) | ct (ρ : Rho) | er (e : Exn) (ρ : Rho) | stuck
abbrev N := Rho → Out
def PostS (K : PySem.W.Frag) (W : WX) (Hb : Hp) (σ : L2.St) (ρ : Rho) (H : Hp) (D : Ends) : Out → Prop
  | .nx ρ' => ∀ σ' H' Hb', SteS K Hb σ ρ H Hb' σ' ρ' H' → D.nx σ' H'
  | .bk ρ' => ∀ σ' H' Hb', SteS K Hb σ ρ H Hb' σ' ρ' H' → D.bk σ' H'
  | .ct ρ' => ∀ σ' H' Hb', SteS K Hb σ ρ H Hb' σ' ρ' H' → D.ct σ' H'
  | .rt r ρ' => ∀ v σ' H' Hb', SteS K Hb σ ρ H Hb' σ' ρ' H' → RsR K H Hb' σ' H' r v → D.rt v H'
  | .er e ρ' => ∀ (d : Value × Option Addr) σ' H' Hb', SteS K Hb σ ρ H Hb' σ' ρ' H' → ExR K Hb' H' e d → W d.1 d.2 σ' H'
  | .stuck => False
def tN (K : PySem.W.Frag) (W : WX) (n : N) : TS := fun D σ H => ∃ Hb ρ, StR K Hb σ ρ H ∧ PostS K W Hb σ ρ H D (n ρ)
section
variable {K : PySem.W.Frag} {W : WX} {X : Cx} {σ σ1 : L2.St} {H H1 Hb Hb1 : Hp} {ρ ρ1 : Rho} {D : Ends}
theorem PostS.back {o : Out} (s : SteS K Hb σ ρ H Hb1 σ1 ρ1 H1) (P : PostS K W Hb σ ρ H D o) : PostS K W Hb1 σ1 ρ1 H1 D o := by
  cases o with
  | stuck => exact P
  | nx ρ2 => exact fun σ2 H2 Hb2 s2 => P σ2 H2 Hb2 (s.trans s2)
  | bk ρ2 => exact fun σ2 H2 Hb2 s2 => P σ2 H2 Hb2 (s.trans s2)
  | ct ρ2 => exact fun σ2 H2 Hb2 s2 => P σ2 H2 Hb2 (s.trans s2)
  | rt r ρ2 => exact fun v σ2 H2 Hb2 s2 rr => P v σ2 H2 Hb2 (s.trans s2) (rr.older s.th)
  | er e ρ2 => exact fun d σ2 H2 Hb2 s2 ex => P d σ2 H2 Hb2 (s.trans s2) ex
theorem PostS.wide {o : Out} {D' : Ends} (P : PostS K W Hb σ ρ H D o) (h1 : ∀ σ H, D.nx σ H → D'.nx σ H) (h2 : ∀ v H, D.rt v H → D'.rt v H) (h3 : ∀ σ H, D.bk σ H → D'.bk σ H) (h4 : ∀ σ H, D.ct σ H → D'.ct σ H) : PostS K W Hb σ ρ H D' o := by
  cases o with
  | stuck => exact P
  | nx ρ2 => exact fun σ2 H2 Hb2 s2 => h1 _ _ (P σ2 H2 Hb2 s2)
  | bk ρ2 => exact fun σ2 H2 Hb2 s2 => h3 _ _ (P σ2 H2 Hb2 s2)
  | ct ρ2 => exact fun σ2 H2 Hb2 s2 => h4 _ _ (P σ2 H2 Hb2 s2)
  | rt r ρ2 => exact fun v σ2 H2 Hb2 s2 rr => h2 _ _ (P v σ2 H2 Hb2 s2 rr)
  | er e ρ2 => exact P
/-- one after another -/
def sbnd (o : Out) (f : Rho → Out) : Out := match o with
  | .nx ρ => f ρ
  | .rt r ρ => .rt r ρ
  | .bk ρ => .bk ρ
  | .ct ρ => .ct ρ
  | .er e ρ => .er e ρ
  | .stuck => .stuck
def nSeq (a b : N) : N := fun ρ => sbnd (a ρ) b
def nNext : N := fun ρ => .nx ρ
theorem PostS.bnd {o : Out} {f : N} (P : PostS K W Hb σ ρ H D (sbnd o f)) : PostS K W Hb σ ρ H { D with nx := tN K W f D } o := by
  cases o with
  | stuck => exact P
  | nx ρ2 => exact fun σ2 H2 Hb2 s2 => ⟨Hb2, ρ2, s2.st, PostS.back s2 P⟩
  | bk ρ2 => exact P
  | ct ρ2 => exact P
  | rt r ρ2 => exact P
  | er e ρ2 => exact P
theorem ds_nil : PSs X [] (tN K W nNext) := PSs.imp pss_nil fun D σ H h => by
  obtain ⟨Hb, ρ, S, P⟩ := h
  exact P σ H Hb (SteS.refl S)
theorem ds_cons {st : Stmt} {rest : List Stmt} {a b : N} (h1 : PS X st (tN K W a)) (h2 : PSs X rest (tN K W b)) : PSs X (st :: rest) (tN K W (nSeq a b)) := PSs.imp (pss_cons h1 h2) fun D σ H h => by
  obtain ⟨Hb, ρ, S, P⟩ := h
  exact ⟨Hb, ρ, S, PostS.bnd P⟩
theorem ds_one {st : Stmt} {a : N} (h1 : PS X st (tN K W a)) : PSs X [st] (tN K W a) := pss_one h1
theorem dn_pass {pos : Pos} : PS X (.Pass pos) (tN K W nNext) := PS.imp ps_pass fun D σ H h => by
  obtain ⟨Hb, ρ, S, P⟩ := h
  exact P σ H Hb (SteS.refl S)
def nBk : N := fun ρ => .bk ρ
def nCt : N := fun ρ => .ct ρ
theorem dn_break {pos : Pos} : PS X (.Break pos) (tN K W nBk) := PS.imp ps_break fun D σ H h => by
  obtain ⟨Hb, ρ, S, P⟩ := h
  exact P σ H Hb (SteS.refl S)
theorem dn_cont {pos : Pos} : PS X (.Continue pos) (tN K W nCt) := PS.imp ps_continue fun D σ H h => by
  obtain ⟨Hb, ρ, S, P⟩ := h
  exact P σ H Hb (SteS.refl S)
/-- a statement that begins with an expression -/
def ebnd {α : Type} (m : Res α) (f : α → Rho → Out) : Out := match m with
  | .ok a ρ => f a ρ
  | .er e ρ => .er e ρ
  | .stuck => .stuck
theorem tM_then {m : M Rs} {f : Rs → Rho → Out} {Q : VK} (S : StR K Hb σ ρ H) (P : PostS K W Hb σ ρ H D (ebnd (m ρ) f))
    (h : ∀ r ρ1 v H1 Hb1, Ste K σ Hb ρ H Hb1 ρ1 H1 → RsR K H Hb1 σ H1 r v → PostS K W Hb1 σ ρ1 H1 D (f r ρ1) → Q v H1) : tM K W m σ H Q := by
  refine ⟨Hb, ρ, S, ?_⟩
  cases ea : m ρ with
  | stuck => rw [ea] at P; exact P
  | er e ρ1 =>
    rw [ea] at P
    exact fun d H1 Hb1 s1 ex => P d σ H1 Hb1 (s1.toS S) ex
  | ok x ρ1 =>
    rw [ea] at P
    exact fun v H1 Hb1 s1 r1 => h x ρ1 v H1 Hb1 s1 r1 (PostS.back (s1.toS S) P)
theorem tM_then0 {m : M Rs} {f : Rs → Rho → Out} {Q : VK} (S : StR K Hb σ ρ H) (P : PostS K W Hb σ ρ H D (ebnd (m ρ) f))
    (h : ∀ r ρ1 v H1 Hb1, Ste K σ Hb ρ H Hb1 ρ1 H1 → RsR K H Hb1 σ H1 r v → PostS K W Hb σ ρ H D (f r ρ1) → Q v H1) : tM K W m σ H Q := by
  refine ⟨Hb, ρ, S, ?_⟩
  cases ea : m ρ with
  | stuck => rw [ea] at P; exact P
  | er e ρ1 =>
    rw [ea] at P
    exact fun d H1 Hb1 s1 ex => P d σ H1 Hb1 (s1.toS S) ex
  | ok x ρ1 =>
    rw [ea] at P
    exact fun v H1 Hb1 s1 r1 => h x ρ1 v H1 Hb1 s1 r1 P
theorem tT_then {m : M Bool} {f : Bool → Rho → Out} {Q : Bool → Hp → Prop} (S : StR K Hb σ ρ H) (P : PostS K W Hb σ ρ H D (ebnd (m ρ) f))
    (h : ∀ b ρ1 H1 Hb1, Ste K σ Hb ρ H Hb1 ρ1 H1 → PostS K W Hb1 σ ρ1 H1 D (f b ρ1) → Q b H1) : tT K W m σ H Q := by
  refine ⟨Hb, ρ, S, ?_⟩
  cases ea : m ρ with
  | stuck => rw [ea] at P; exact P
  | er e ρ1 =>
    rw [ea] at P
    exact fun d H1 Hb1 s1 ex => P d σ H1 Hb1 (s1.toS S) ex
  | ok x ρ1 =>
    rw [ea] at P
    exact fun H1 Hb1 s1 => h x ρ1 H1 Hb1 s1 (PostS.back (s1.toS S) P)
def nIf (t : M Bool) (a b : N) : N := fun ρ => ebnd (t ρ) fun c ρ1 => if c = true then a ρ1 else b ρ1
theorem dn_if {c : Expr} {a b : List Stmt} {pos : Pos} {mc : M Bool} {na nb : N} (hc : PT X c (tT K W mc)) (ha : PSs X a (tN K W na)) (hb : PSs X b (tN K W nb)) : PS X (.If c a b pos) (tN K W (nIf mc na nb)) := by
  refine PS.imp (ps_if hc ha hb) fun D σ H h => ?_
  obtain ⟨Hb, ρ, S, P⟩ := h
  refine tT_then S P fun b ρ1 H1 Hb1 s1 P1 => ?_
  cases b with
  | true => exact iteT ⟨Hb1, ρ1, s1.st, P1⟩
  | false => exact iteF ⟨Hb1, ρ1, s1.st, P1⟩
def nExpr (m : M Rs) : N := fun ρ => ebnd (m ρ) fun _ ρ1 => .nx ρ1
theorem dn_expr {e : Expr} {m : M Rs} {pos : Pos} (he : PE X e (tM K W m)) (hs : swapsWith e none pos.line X.env = pure false := by rfl) : PS X (.Expr e pos) (tN K W (nExpr m)) := by
  refine PS.imp (ps_expr he hs) fun D σ H h => ?_
  obtain ⟨Hb, ρ, S, P⟩ := h
  exact tM_then S P fun r ρ1 v H1 Hb1 s1 r1 P1 => P1 σ H1 Hb1 (SteS.refl s1.st)
theorem dn_doc {x : Str} {j : Nat} {pos pos' : Pos} : PS X (.Expr (.Constant (.str x) j pos) pos') (tN K W nNext) := PS.imp ps_doc fun D σ H h => by
  obtain ⟨Hb, ρ, S, P⟩ := h
  exact P σ H Hb (SteS.refl S)
def nRet (m : M Rs) : N := fun ρ => match m ρ with
  | .ok r ρ1 => .rt r ρ1
  | .er e ρ1 => .er e ρ1
  | .stuck => .stuck
def nRetN : N := fun ρ => .rt (.va .non) ρ
theorem dn_ret {e : Expr} {m : M Rs} {pos : Pos} (he : PE X e (tM K W m)) : PS X (.Return (some e) pos) (tN K W (nRet m)) := by
  refine PS.imp (ps_ret he) fun D σ H h => ?_
  obtain ⟨Hb, ρ, S, P⟩ := h
  refine ⟨Hb, ρ, S, ?_⟩
  unfold nRet at P
  cases ea : m ρ with
  | stuck => rw [ea] at P; exact P
  | er e ρ1 => rw [ea] at P; exact fun d H1 Hb1 s1 ex => P d σ H1 Hb1 (s1.toS S) ex
  | ok x ρ1 => rw [ea] at P; exact fun v H1 Hb1 s1 r1 => P v σ H1 Hb1 (s1.toS S) r1
theorem dn_retN {pos : Pos} : PS X (.Return none pos) (tN K W nRetN) := PS.imp ps_retN fun D σ H h => by
  obtain ⟨Hb, ρ, S, P⟩ := h
  exact P .non σ H Hb (SteS.refl S) (Is.nonI (K := K) (H := Hb))

/-! ### names stored -/
theorem set_own {σ : L2.St} {ρ : Rho} {i j : Nat} {b : Addr} {o : Option V} {s : Sl} (hij : i ≠ j) (h : OwnAt (σ.set i o) (ρ.set i s) j b) : OwnAt σ ρ j b := by
  obtain ⟨e, io, xs, q⟩ := h
  rw [List.getElem?_set_ne hij] at e q
  exact ⟨e, io, xs, q⟩
/-- slot i takes a value that stays -/
theorem SteS.storeV {i : Nat} {v : V} {d : DL.D} (S : StR K Hb σ ρ H) (s : Ste K σ Hb ρ H Hb1 ρ1 H1) (hi : i < ρ1.length) (nio : ∀ xs, ρ1[i]? ≠ some (Sl.ow true xs)) (hv : Is K Hb1 d v) :
    SteS K Hb σ ρ H Hb1 (σ.set i (some v)) (ρ1.set i (.va d)) H1 := by
  have hl : σ.length = ρ1.length := s.st.len
  have own : ∀ {j b}, OwnAt (σ.set i (some v)) (ρ1.set i (.va d)) j b → i ≠ j ∧ OwnAt σ ρ1 j b := fun {j b} h => by
    by_cases hij : i = j
    · subst hij
      obtain ⟨_, io, xs, q⟩ := h
      rw [List.getElem?_set_self hi] at q; cases q
    · exact ⟨hij, set_own hij h⟩
  refine ⟨s.fr, s.th, s.gr, s.gn, fun b h => ?_, fun k xs h => ?_, by rw [List.length_set, ← s.st.len, S.len], ⟨s.st.sub, by rw [List.length_set, List.length_set]; exact hl, fun j sl e => ?_, fun j k b hj hk => s.st.dis j k b (own hj).2 (own hk).2⟩⟩
  · obtain ⟨j, h⟩ := h
    exact .inl (s.ow b ⟨j, (own h).2⟩)
  · obtain ⟨ys, hy⟩ := s.io k xs h
    have hik : i ≠ k := fun z => by subst z; exact nio ys hy
    exact ⟨List.getElem?_set_ne hik, ys, by rw [List.getElem?_set_ne hik]; exact hy⟩
  · by_cases hij : i = j
    · subst hij
      rw [List.getElem?_set_self hi] at e; cases e
      exact ⟨some v, List.getElem?_set_self (by omega), v, rfl, hv⟩
    · rw [List.getElem?_set_ne hij] at e
      obtain ⟨o, e1, e2⟩ := s.st.sl j sl e
      exact ⟨o, by rw [List.getElem?_set_ne hij]; exact e1, e2⟩
/-- slot i takes a new list -/
theorem SteS.storeL {i : Nat} {p : Addr} {xs : List DL.D} {vs : List V} (S : StR K Hb σ ρ H) (s : Ste K σ Hb ρ H Hb1 ρ1 H1) (hi : i < ρ1.length) (nio : ∀ xs, ρ1[i]? ≠ some (Sl.ow true xs))
    (h0 : H p = none) (hb : Hb1 p = none) (h1 : H1 p = some (.lst vs)) (hv : IsA K Hb1 xs vs) : SteS K Hb σ ρ H Hb1 (σ.set i (some (.ref p))) (ρ1.set i (.ow false xs)) H1 := by
  have hl : σ.length = ρ1.length := s.st.len
  have np : ∀ {j b}, OwnAt σ ρ1 j b → b ≠ p := fun {j b} h z => by
    subst z
    exact own_there S b (s.ow b ⟨j, h⟩) h0
  have own : ∀ {j b}, OwnAt (σ.set i (some (.ref p))) (ρ1.set i (.ow false xs)) j b → (i = j ∧ b = p) ∨ (i ≠ j ∧ OwnAt σ ρ1 j b) := fun {j b} h => by
    by_cases hij : i = j
    · subst hij
      obtain ⟨e, _⟩ := h
      rw [List.getElem?_set_self (by omega)] at e; cases e
      exact .inl ⟨rfl, rfl⟩
    · exact .inr ⟨hij, set_own hij h⟩
  refine ⟨s.fr, s.th, s.gr, s.gn, fun b h => ?_, fun k xs h => ?_, by rw [List.length_set, ← s.st.len, S.len], ⟨s.st.sub, by rw [List.length_set, List.length_set]; exact hl, fun j sl e => ?_, fun j k b hj hk => ?_⟩⟩
  · obtain ⟨j, h⟩ := h
    rcases own h with ⟨_, rfl⟩ | ⟨_, h⟩
    · exact .inr h0
    · exact .inl (s.ow b ⟨j, h⟩)
  · obtain ⟨ys, hy⟩ := s.io k xs h
    have hik : i ≠ k := fun z => by subst z; exact nio ys hy
    exact ⟨List.getElem?_set_ne hik, ys, by rw [List.getElem?_set_ne hik]; exact hy⟩
  · by_cases hij : i = j
    · subst hij
      rw [List.getElem?_set_self hi] at e; cases e
      exact ⟨some (.ref p), List.getElem?_set_self (by omega), p, vs, rfl, h1, hv, hb⟩
    · rw [List.getElem?_set_ne hij] at e
      obtain ⟨o, e1, e2⟩ := s.st.sl j sl e
      exact ⟨o, by rw [List.getElem?_set_ne hij]; exact e1, e2⟩
  · rcases own hj with ⟨e1, z1⟩ | ⟨_, o1⟩
    · rcases own hk with ⟨e2, _⟩ | ⟨_, o2⟩
      · omega
      · exact absurd z1 (np o2)
    · rcases own hk with ⟨e2, z2⟩ | ⟨_, o2⟩
      · exact absurd z2 (np o1)
      · exact s.st.dis j k b o1 o2
def isIo : Option Sl → Bool
  | some (.ow true _) => true
  | _ => false
theorem nio_of {o : Option Sl} (h : isIo o = false) : ∀ xs, o ≠ some (Sl.ow true xs) := fun xs e => by subst e; cases h
/-- x = e -/
def setR (i : Nat) (r : Rs) (ρ : Rho) : Out := if i < ρ.length ∧ isIo ρ[i]? = false then (match r with
    | .va d => .nx (ρ.set i (.va d))
    | .fr xs => .nx (ρ.set i (.ow false xs))
    | .al j => (match keep1 ρ (.al j) with
      | some (d, ρ2) => .nx (ρ2.set i (.va d))
      | none => .stuck))
  else .stuck
def nSet (i : Nat) (m : M Rs) : N := fun ρ => ebnd (m ρ) (setR i)
theorem keep1_len {ρ ρ2 : Rho} {r : Rs} {d : DL.D} (h : keep1 ρ r = some (d, ρ2)) : ρ2.length = ρ.length ∧ ∀ (i : Nat) (xs : List DL.D), ρ2[i]? = some (Sl.ow true xs) → ρ[i]? = some (Sl.ow true xs) := by
  cases r with
  | va d' => cases h; exact ⟨rfl, fun _ _ h => h⟩
  | fr xs => cases h
  | al j =>
    unfold keep1 at h
    simp only at h
    split at h
    · cases h; exact ⟨rfl, fun _ _ h => h⟩
    · cases h
      refine ⟨List.length_set, fun i xs e => ?_⟩
      by_cases hij : j = i
      · subst hij
        rw [List.getElem?_set] at e
        simp at e
      · rw [List.getElem?_set_ne hij] at e; exact e
    · cases h
theorem set_ok {i : Nat} {r : Rs} {v : V} (S : StR K Hb σ ρ H) (s : Ste K σ Hb ρ H Hb1 ρ1 H1) (h : RsR K H Hb1 σ H1 r v) (P : PostS K W Hb σ ρ H D (setR i r ρ1)) : D.nx (σ.set i (some v)) H1 := by
  unfold setR at P
  by_cases hc : i < ρ1.length ∧ isIo ρ1[i]? = false
  · rw [if_pos hc] at P
    cases r with
    | va d => exact P _ H1 Hb1 (SteS.storeV S s hc.1 (nio_of hc.2) h)
    | fr xs =>
      obtain ⟨p, vs, rfl, h0, hb, h1, hv⟩ := h
      exact P _ H1 Hb1 (SteS.storeL S s hc.1 (nio_of hc.2) h0 hb h1 hv)
    | al j =>
      simp only at P
      cases ek : keep1 ρ1 (.al j) with
      | none => rw [ek] at P; exact P.elim
      | some q =>
        obtain ⟨d, ρ2⟩ := q
        rw [ek] at P
        obtain ⟨Hb2, s2, i2⟩ := keep1_ok s.st h ek
        obtain ⟨l1, l2⟩ := keep1_len ek
        exact P _ H1 Hb2 (SteS.storeV S (s.trans s2) (by rw [l1]; exact hc.1) (fun xs e => nio_of hc.2 xs (l2 _ _ e)) i2)
  · rw [if_neg hc] at P; exact P.elim
theorem dn_set {i : Nat} {x : Str} {e : Expr} {m : M Rs} {pos pos' : Pos} (hN : X.N.Nodup) (hi : X.N[i]? = some x) (hx : Loc X.env.scope x) (he : PE X e (tM K W m)) (hs : swapsWith e (some (.Name x pos')) pos.line X.env = pure false := by rfl)
    (hf : X.fn x = true ∨ X.env.scope.names.lookup x = some .local := by first | exact .inl rfl | exact .inr rfl | assumption) : PS X (.Assign [.Name x pos'] e pos) (tN K W (nSet i m)) := by
  refine PS.imp (ps_set hN hi hx he hs hf) fun D σ H h => ?_
  obtain ⟨Hb, ρ, S, P⟩ := h
  refine ⟨Hb, ρ, S, ?_⟩
  unfold nSet at P
  cases ea : m ρ with
  | stuck => rw [ea] at P; exact P
  | er e ρ1 => rw [ea] at P; exact fun d H1 Hb1 s1 ex => P d σ H1 Hb1 (s1.toS S) ex
  | ok r ρ1 => rw [ea] at P; exact fun v H1 Hb1 s1 r1 => set_ok S s1 r1 P

/-! ### a, b, .. = e -/
def setVs : List Nat → List DL.D → Rho → Option Rho
  | [], [], ρ => some ρ
  | i :: is, d :: ds, ρ => if i < ρ.length ∧ isIo ρ[i]? = false then setVs is ds (ρ.set i (.va d)) else none
  | _, _, _ => none
def gNs : List Nat → TGs
  | [] => gNil
  | i :: is => gCons (gName i) (gNs is)
theorem setVs_ok {Q : L2.St → Hp → Prop} : ∀ {is : List Nat} {ds : List DL.D} {vs : List V} {ρ ρ2 : Rho} {σ : L2.St} {Hb : Hp}, StR K Hb σ ρ H → IsA K Hb ds vs → setVs is ds ρ = some ρ2 → (∀ σ2, SteS K Hb σ ρ H Hb σ2 ρ2 H → Q σ2 H) → gNs is vs σ H Q
  | [], [], vs, ρ, ρ2, σ, Hb, S, i, e, q => by
    simp only [IsA] at i; subst i; cases e
    exact ⟨rfl, q σ (SteS.refl S)⟩
  | i :: is, d :: ds, vs, ρ, ρ2, σ, Hb, S, h, e, q => by
    simp only [IsA] at h
    obtain ⟨v, r, rfl, h1, h2⟩ := h
    unfold setVs at e
    by_cases hc : i < ρ.length ∧ isIo ρ[i]? = false
    · rw [if_pos hc] at e
      have s := SteS.storeV S (Ste.refl S) hc.1 (nio_of hc.2) h1
      exact ⟨v, r, rfl, setVs_ok s.st h2 e fun σ2 s2 => q σ2 (s.trans s2)⟩
    · rw [if_neg hc] at e; cases e
  | [], d :: ds, vs, ρ, ρ2, σ, Hb, S, i, e, q => by cases e
  | i :: is, [], vs, ρ, ρ2, σ, Hb, S, _, e, q => by cases e
def nUnp (is : List Nat) (m : M Rs) : N := fun ρ => ebnd (m ρ) fun r ρ1 => match r with
  | .va (.tup ds) => (match setVs is ds ρ1 with
    | some ρ2 => .nx ρ2
    | none => .stuck)
  | _ => .stuck
theorem setVs_len : ∀ {is : List Nat} {ds : List DL.D} {ρ ρ2 : Rho}, setVs is ds ρ = some ρ2 → ds.length = is.length
  | [], [], ρ, ρ2, e => rfl
  | i :: is, d :: ds, ρ, ρ2, e => by
    unfold setVs at e
    split at e
    · simp [setVs_len e]
    · cases e
  | [], d :: ds, ρ, ρ2, e => by cases e
  | i :: is, [], ρ, ρ2, e => by cases e
/-- the targets' names, one after another -/
theorem dg_nil : PGs X [] (gNs []) := pgs_nil
theorem dg_cons {i : Nat} {is : List Nat} {x : Str} {pos : Pos} {es : List Expr} (hN : X.N.Nodup) (hi : X.N[i]? = some x) (hx : Loc X.env.scope x) (hr : PGs X es (gNs is)) (hf : X.fn x = true ∨ X.env.scope.names.lookup x = some .local := by first | exact .inl rfl | exact .inr rfl | assumption)
    (hs : (assignEach (.Name x pos :: es) X.env).map (·.2) = assign (.Name x pos) X.env :: (assignEach es X.env).map (·.2) := by rfl) : PGs X (.Name x pos :: es) (gNs (i :: is)) := pgs_cons (pg_name hN hi hx hf) hr hs
theorem dn_unp {is : List Nat} {es : List Expr} {k : Nat} {e : Expr} {m : M Rs} {pos tpos : Pos} (hc : X.calm = true) (hg : PGs X es (gNs is)) (he : PE X e (tM X.K W m))
    (hn : (assignEach es X.env).length = is.length := by rfl) (hst : (assignEach es X.env).findIdx? (·.1) = none := by rfl) (hs : swapsWithSole [.Tuple es k tpos] e pos.line X.env = pure false := by rfl) (hw : swappedStores [.Tuple es k tpos] e X.env = pure none := by rfl)
    (h1 : (assignEach [.Tuple es k tpos] X.env).map (·.2) = [assign (.Tuple es k tpos) X.env] := by rfl) : PS X (.Assign [.Tuple es k tpos] e pos) (tN X.K W (nUnp is m)) := by
  refine PS.imp (ps_asg he (pg_tup hc hg hn hst) hs hw h1) fun D σ H h => ?_
  obtain ⟨Hb, ρ, S, P⟩ := h
  refine ⟨Hb, ρ, S, ?_⟩
  unfold nUnp at P
  cases ea : m ρ with
  | stuck => rw [ea] at P; exact P
  | er e ρ1 => rw [ea] at P; exact fun d H1 Hb1 s1 ex => P d σ H1 Hb1 (s1.toS S) ex
  | ok r ρ1 =>
    rw [ea] at P
    intro v H1 Hb1 s1 r1
    simp only [ebnd] at P
    cases r with
    | fr xs => exact P.elim
    | al i => exact P.elim
    | va d =>
      cases d with
      | tup ds =>
        simp only at P
        cases ev : setVs is ds ρ1 with
        | none => rw [ev] at P; exact P.elim
        | some ρ2 =>
          rw [ev] at P
          have r1' : Is X.K Hb1 (.tup ds) v := r1
          simp only [Is] at r1'
          obtain ⟨a, vs, rfl, h1, i1⟩ := r1'
          refine ⟨a, vs, rfl, Same.tup s1.st.sub h1, ?_, setVs_ok s1.st i1 ev fun σ2 s2 => P σ2 H1 Hb1 ((s1.toS S).trans s2)⟩
          rw [i1.length, setVs_len ev]
      | _ => exact P.elim

/-! ### x += e -/
def nAug (f : DL.D → DL.D → Option Rs) (i : Nat) (m : M Rs) : N := fun ρ => match ρ[i]? with
  | some (.va dx) => ebnd (m ρ) fun r ρ1 => (match rd ρ1 r with
    | some dy => (match f dx dy with
      | some (.va d) => if i < ρ1.length ∧ isIo ρ1[i]? = false then .nx (ρ1.set i (.va d)) else .stuck
      | _ => .stuck)
    | none => .stuck)
  | _ => .stuck
theorem dn_aug {op : Operator} {r : R2} {f : DL.D → DL.D → Option Rs} {i : Nat} {x : Str} {e : Expr} {m : M Rs} {pos pos' : Pos} (ho : OpR X (inplaceOp op) r) (hr : OpD K r f) (hN : X.N.Nodup) (hi : X.N[i]? = some x) (hx : Loc X.env.scope x) (he : PE X e (tM K W m))
    (hf : X.fn x = true ∨ X.env.scope.names.lookup x = some .local := by first | exact .inl rfl | exact .inr rfl | assumption) : PS X (.AugAssign (.Name x pos') op e pos) (tN K W (nAug f i m)) := by
  refine PS.imp (ps_aug hN hi hx he (show PIp X op r from ho) hf) fun D σ H h => ?_
  obtain ⟨Hb, ρ, S, P⟩ := h
  unfold nAug at P
  split at P
  · rename_i dx ex
    obtain ⟨v, ev, iv⟩ := S.va ex
    refine ⟨v, ev, tM_then S P fun r ρ1 w H1 Hb1 s1 r1 P1 => ?_⟩
    cases er : rd ρ1 r with
    | none => rw [er] at P1; exact P1.elim
    | some dy =>
      rw [er] at P1
      simp only at P1
      split at P1
      · rename_i d ed
        by_cases hc : i < ρ1.length ∧ isIo ρ1[i]? = false
        · rw [if_pos hc] at P1
          refine hr Hb1 H1 v w dx dy _ _ s1.st.sub (.inl (Is.mono s1.gr _ _ iv)) (rd_ok s1.st r1 er) ed fun z Hb2 H2 g rz => ?_
          exact P1 _ H2 Hb2 (SteS.storeV s1.st (g.ste s1.st) hc.1 (nio_of hc.2) rz)
        · rw [if_neg hc] at P1; exact P1.elim
      · exact P1.elim
  · exact P.elim
theorem dn_augAdd {i : Nat} {x : Str} {e : Expr} {m : M Rs} {pos pos' : Pos} (hN : X.N.Nodup) (hi : X.N[i]? = some x) (hx : Loc X.env.scope x) (he : PE X e (tM K W m)) (hf : X.fn x = true ∨ X.env.scope.names.lookup x = some .local := by first | exact .inl rfl | exact .inr rfl | assumption) :
    PS X (.AugAssign (.Name x pos') .Add e pos) (tN K W (nAug (or2 (iop fun i j => some (.int (i + j))) catS) i m)) := dn_aug (iop_add.or iop_add_str) (od_I0.or od_catS) hN hi hx he hf
theorem dn_augSub {i : Nat} {x : Str} {e : Expr} {m : M Rs} {pos pos' : Pos} (hN : X.N.Nodup) (hi : X.N[i]? = some x) (hx : Loc X.env.scope x) (he : PE X e (tM K W m)) (hf : X.fn x = true ∨ X.env.scope.names.lookup x = some .local := by first | exact .inl rfl | exact .inr rfl | assumption) :
    PS X (.AugAssign (.Name x pos') .Sub e pos) (tN K W (nAug subD i m)) := dn_aug iop_sub od_I0 hN hi hx he hf

/-! ### own lists changed -/
theorem Ste.mut {k : Nat} {io : Bool} {p : Addr} {xs xs' : List DL.D} {vs' : List V} (S : StR K Hb σ ρ H) (h : ρ[k]? = some (.ow io xs)) (hp : σ[k]? = some (some (.ref p))) (iv : IsA K Hb xs' vs') :
    Ste K σ Hb ρ H Hb (ρ.set k (.ow io xs')) (upd H p (.lst vs')) := by
  obtain ⟨p', vs, oa, e1, h1, h2, h3⟩ := S.own h
  rw [hp] at e1; cases e1
  have hk : k < ρ.length := (List.getElem?_eq_some_iff.mp h).1
  have own : ∀ {j b}, OwnAt σ (ρ.set k (.ow io xs')) j b → OwnAt σ ρ j b := fun {j b} hj => by
    obtain ⟨e, io', ys, q⟩ := hj
    by_cases hkj : k = j
    · subst hkj; exact ⟨e, io, xs, h⟩
    · rw [List.getElem?_set_ne hkj] at q; exact ⟨e, io', ys, q⟩
  refine ⟨fun b o e n => ?_, fun b e => ?_, Same.refl _, fun b o e n _ => n, fun b ⟨j, hj⟩ => ⟨j, own hj⟩, fun j ys hj => ?_, ⟨fun b o e => ?_, by rw [List.length_set]; exact S.len, fun j s e => ?_, fun j l b hj hl => S.dis j l b (own hj) (own hl)⟩⟩
  · rw [upd_ne (fun z => n (by subst z; exact ⟨k, oa⟩))]; exact e
  · by_cases hb : b = p
    · subst hb; rw [upd_same] at e; cases e
    · rw [upd_ne hb] at e; exact e
  · by_cases hkj : k = j
    · subst hkj
      rw [h] at hj; cases hj
      exact ⟨xs', List.getElem?_set_self hk⟩
    · exact ⟨ys, by rw [List.getElem?_set_ne hkj]; exact hj⟩
  · rw [upd_ne (fun z => by subst z; rw [h3] at e; cases e)]; exact S.sub b o e
  · by_cases hkj : k = j
    · subst hkj
      rw [List.getElem?_set_self hk] at e; cases e
      exact ⟨_, hp, p, vs', rfl, upd_same, iv, h3⟩
    · rw [List.getElem?_set_ne hkj] at e
      obtain ⟨o, e1, e2⟩ := S.sl j s e
      refine ⟨o, e1, ?_⟩
      cases s with
      | un => trivial
      | va d => exact e2
      | ow io' ys =>
        obtain ⟨q, ws, e3, e4, e5, e6⟩ := e2
        subst e3
        have nq : q ≠ p := fun z => by
          subst z
          exact hkj (S.dis k j q oa ⟨e1, io', ys, e⟩)
        exact ⟨q, ws, rfl, by rw [upd_ne nq]; exact e4, e5, e6⟩
/-- a value about to be kept: new lists put down, own ones given away -/
def keepR (ρ : Rho) (r : Rs) : Option (DL.D × Rho) := keep1 ρ (soft r)
theorem keepR_ok {r : Rs} {v : V} {d : DL.D} {ρ2 : Rho} (S : StR K Hb σ ρ H) (s : Ste K σ Hb ρ H Hb1 ρ1 H1) (h : RsR K H Hb1 σ H1 r v) (e : keepR ρ1 r = some (d, ρ2)) : ∃ Hb2, Ste K σ Hb ρ H Hb2 ρ2 H1 ∧ Is K Hb2 d v := by
  obtain ⟨Hb2, s2, _, r2⟩ := RsR.put S s h
  obtain ⟨Hb3, s3, i3⟩ := keep1_ok s2.st r2 e
  exact ⟨Hb3, s2.trans s3, i3⟩
/-- xs.append(e), xs the own list of slot k -/
def isOw : Option Sl → Bool
  | some (.ow _ _) => true
  | _ => false
def nApp (k : Nat) (m : M Rs) : N := fun ρ => if isOw ρ[k]? = true then ebnd (m ρ) (fun r ρ1 => match keepR ρ1 r with
  | some (d, ρ2) => (match ρ2[k]? with
    | some (.ow io xs) => if xs.length < 100000 then .nx (ρ2.set k (.ow io (xs ++ [d]))) else .stuck
    | _ => .stuck)
  | none => .stuck) else .stuck
theorem size_lt {n : Nat} (h : n < 100000) : n < sizeLine := Nat.lt_of_lt_of_le h (by decide)
theorem dn_app {k : Nat} {o : Expr} {e : Expr} {m : M Rs} {pos apos spos : Pos} (hbm : PE X (.Call (.Attribute o "append" apos) [e] [] pos) (tBM X.K "list" rAppend (tVar k) (tCons (tM X.K W m) tNil)))
    (hs : swapsWith (.Call (.Attribute o "append" apos) [e] [] pos) none spos.line X.env = pure false := by rfl) : PS X (.Expr (.Call (.Attribute o "append" apos) [e] [] pos) spos) (tN X.K W (nApp k m)) := by
  refine PS.imp (ps_expr hbm hs) fun D σ H h => ?_
  obtain ⟨Hb, ρ, S, P⟩ := h
  unfold nApp at P
  by_cases hw : isOw ρ[k]? = true
  · rw [if_pos hw] at P
    cases eρ : ρ[k]? with
    | none => rw [eρ] at hw; cases hw
    | some sl =>
      cases sl with
      | un => rw [eρ] at hw; cases hw
      | va d => rw [eρ] at hw; cases hw
      | ow io0 xs0 =>
        obtain ⟨p, vs, oa, e1, h1, h2, h3⟩ := S.own eρ
        refine ⟨.ref p, e1, .inl ⟨rfl, vs, .inl (.inl h1)⟩, tM_then0 S P fun r ρ1 v H1 Hb1 s1 r1 P1 => ?_⟩
        cases ek : keepR ρ1 r with
        | none => rw [ek] at P1; exact P1.elim
        | some q =>
          obtain ⟨d, ρ2⟩ := q
          rw [ek] at P1
          obtain ⟨Hb2, s2, i2⟩ := keepR_ok S s1 r1 ek
          simp only at P1
          cases e2 : ρ2[k]? with
          | none => rw [e2] at P1; exact P1.elim
          | some sl =>
            rw [e2] at P1
            cases sl with
            | un => exact P1.elim
            | va d' => exact P1.elim
            | ow io xs =>
              simp only at P1
              by_cases hz : xs.length < 100000
              · rw [if_pos hz] at P1
                obtain ⟨p', vs', oa', e1', h1', h2', h3'⟩ := s2.st.own e2
                rw [e1] at e1'; cases e1'
                refine ⟨p, vs', v, rfl, rfl, h1', by rw [h2'.length]; exact size_lt hz, ?_⟩
                have sm := Ste.mut s2.st e2 e1 (h2'.append (IsA.cons i2 IsA.nil))
                exact P1 σ _ Hb2 ((s2.trans sm).toS S)
              · rw [if_neg hz] at P1; exact P1.elim
  · rw [if_neg hw] at P; exact P.elim
/-- xs[i] = e, xs the own list of slot k -/
def nSetIx (k : Nat) (mi me : M Rs) : N := fun ρ => if isOw ρ[k]? = true then ebnd (me ρ) (fun r ρ1 => match keepR ρ1 r with
  | some (d, ρ2) => ebnd (mi ρ2) (fun ri ρ3 => match rd ρ3 ri with
    | some (.int i) => (match ρ3[k]? with
      | some (.ow io xs) => (match ixN xs.length i with
        | some j => .nx (ρ3.set k (.ow io (xs.set j d)))
        | none => .stuck)
      | _ => .stuck)
    | _ => .stuck)
  | none => .stuck) else .stuck
theorem dn_setIx {k : Nat} {o i e : Expr} {mi me : M Rs} {opos pos : Pos} (ho : PE X o (tVar k)) (hi : PE X i (tM X.K W mi)) (he : PE X e (tM X.K W me))
    (ha : ∀ v, assign (.Subscript o i opos) X.env v = (do
      let ov ← holding [v] (eval o X.env)
      let iv ← holding [v, ov] (eval i X.env)
      standAt opos
      holding [v, ov, iv] (setItem ov iv v)
      release [v, ov, iv] []) := by intro _; rfl)
    (hs : swapsWithSole [.Subscript o i opos] e pos.line X.env = pure false := by rfl) (hw : swappedStores [.Subscript o i opos] e X.env = pure none := by rfl)
    (h1 : (assignEach [.Subscript o i opos] X.env).map (·.2) = [assign (.Subscript o i opos) X.env] := by rfl) : PS X (.Assign [.Subscript o i opos] e pos) (tN X.K W (nSetIx k mi me)) := by
  refine PS.imp (ps_asg he (pg_sub ho hi set_list ha) hs hw h1) fun D σ H h => ?_
  obtain ⟨Hb, ρ, S, P⟩ := h
  unfold nSetIx at P
  by_cases hw : isOw ρ[k]? = true
  · rw [if_pos hw] at P
    have ex : ∃ p, σ[k]? = some (some (.ref p)) := by
      cases eρ : ρ[k]? with
      | none => rw [eρ] at hw; cases hw
      | some sl =>
        cases sl with
        | un => rw [eρ] at hw; cases hw
        | va d => rw [eρ] at hw; cases hw
        | ow io0 xs0 =>
          obtain ⟨p, _, _, e, _⟩ := S.own eρ
          exact ⟨p, e⟩
    obtain ⟨p, e1⟩ := ex
    refine tM_then0 S P fun r ρ1 v H1 Hb1 s1 r1 P1 => ?_
    cases ek : keepR ρ1 r with
    | none => rw [ek] at P1; exact P1.elim
    | some q =>
      obtain ⟨d, ρ2⟩ := q
      rw [ek] at P1
      obtain ⟨Hb2, s2, i2⟩ := keepR_ok S s1 r1 ek
      simp only at P1
      refine ⟨.ref p, e1, ?_⟩
      refine tM_then0 s2.st (PostS.back (s2.toS S) P1) fun ri ρ3 iv H3 Hb3 s3 r3 P3 => ?_
      cases er : rd ρ3 ri with
      | none => rw [er] at P3; exact P3.elim
      | some di =>
        rw [er] at P3
        cases di with
        | int i =>
          simp only at P3
          have ei := (rd_ok s3.st r3 er).int
          subst ei
          cases e2 : ρ3[k]? with
          | none => rw [e2] at P3; exact P3.elim
          | some sl =>
            rw [e2] at P3
            cases sl with
            | un => exact P3.elim
            | va d' => exact P3.elim
            | ow io xs =>
              simp only at P3
              cases ej : ixN xs.length i with
              | none => rw [ej] at P3; exact P3.elim
              | some j =>
                rw [ej] at P3
                obtain ⟨p', vs', oa', e1', h1', h2', h3'⟩ := s3.st.own e2
                rw [e1] at e1'; cases e1'
                have sm := Ste.mut s3.st e2 e1 (h2'.set j (Is.mono s3.gr _ _ i2))
                exact ⟨p, vs', i, j, rfl, rfl, h1', by rw [h2'.length]; exact ej, P3 σ _ Hb3 ((s3.trans sm).toS s2.st)⟩
        | _ => exact P3.elim
  · rw [if_neg hw] at P; exact P.elim
/-! ### raise, while -/
def nRaise (k : Nat) : N := fun ρ => .er ⟨k, .non⟩ ρ
theorem dn_raise {e : Expr} {k : Nat} {c : Addr} {pos : Pos} (hc : X.calm = true) (tk : Takes X W) (hk : ClsAt K k c) (hk11 : k < 11) (he : PMk X e (fun σ H Q => Q (.ref c) none H)) : PS X (.Raise (some e) none pos) (tN K W (nRaise k)) := by
  refine PS.imp (ps_raise hc tk he) fun D σ H h => ?_
  obtain ⟨Hb, ρ, S, P⟩ := h
  exact P (.ref c, none) σ H Hb (SteS.refl S) ⟨c, hk, rfl, .inl ⟨hk11, rfl, rfl⟩⟩
/-- a while, so many turns at most -/
def nWhile (t : M Bool) (b : N) : Nat → N
  | 0, _ => .stuck
  | n + 1, ρ => ebnd (t ρ) fun c ρ1 => if c = true then (match b ρ1 with
    | .nx ρ2 => nWhile t b n ρ2
    | .ct ρ2 => nWhile t b n ρ2
    | .bk ρ2 => .nx ρ2
    | .rt r ρ2 => .rt r ρ2
    | .er e ρ2 => .er e ρ2
    | .stuck => .stuck) else .nx ρ1
theorem dn_while {c : Expr} {body : List Stmt} {mt : M Bool} {nb : N} {F : Rho → Nat} {pos : Pos} (hp : PassesOwn (model X.prog X.w) X.A X.env X.xe) (hc : PT X c (tT K W mt)) (hb : PSs X body (tN K W nb)) : PS X (.While c body [] pos) (tN K W (fun ρ => nWhile mt nb (F ρ) ρ)) := by
  refine PS.imp (ps_while hp hc hb) fun D σ0 H0 h => ?_
  obtain ⟨Hb, ρ, S, P⟩ := h
  refine ⟨fun m σ H => ∃ Hb ρ, StR K Hb σ ρ H ∧ PostS K W Hb σ ρ H D (nWhile mt nb m ρ), ⟨F ρ, Hb, ρ, S, P⟩, ?_⟩
  rintro m σ H ⟨Hb, ρ, S, P⟩
  cases m with
  | zero => exact P.elim
  | succ m =>
    unfold nWhile at P
    refine tT_then S P fun b ρ1 H1 Hb1 s1 P1 => ?_
    cases b with
    | false => exact iteF (P1 σ H1 Hb1 (SteS.refl s1.st))
    | true =>
      refine iteT ⟨fun σ' H' => ∃ Hb ρ, StR K Hb σ' ρ H' ∧ PostS K W Hb σ' ρ H' D (nWhile mt nb m ρ), fun σ' H' h => ⟨m, Nat.lt_succ_self m, h⟩, Hb1, ρ1, s1.st, ?_⟩
      simp only [if_true] at P1
      cases eb : nb ρ1 with
      | stuck => rw [eb] at P1; exact P1
      | nx ρ2 => rw [eb] at P1; exact fun σ2 H2 Hb2 s2 => ⟨Hb2, ρ2, s2.st, PostS.back s2 P1⟩
      | ct ρ2 => rw [eb] at P1; exact fun σ2 H2 Hb2 s2 => ⟨Hb2, ρ2, s2.st, PostS.back s2 P1⟩
      | bk ρ2 => rw [eb] at P1; exact P1
      | rt r ρ2 => rw [eb] at P1; exact P1
      | er e ρ2 => rw [eb] at P1; exact P1
end
end DL

namespace DL
open PySem L2 PyProof.Rows
/-! ### a def by its meaning -/
def argOk : Sl → Bool
  | .va _ => true
  | .ow true _ => true
  | _ => false
def PostF (K : PySem.W.Frag) (Hb : Hp) (vs : List V) (as : List Sl) (H : Hp) (Q : VK) (E : XK) : Res Rs → Prop
  | .ok r as' => ∀ v H' Hb', Ste K (vs.map some) Hb as H Hb' as' H' → RsR K H Hb' [] H' r v → Q v H'
  | .er e as' => ∀ (d : Value × Option Addr) H' Hb', Ste K (vs.map some) Hb as H Hb' as' H' → ExR K Hb' H' e d → E d.1 d.2 H'
  | .stuck => False
def spD (K : PySem.W.Frag) (n : Nat) (sem : M Rs) : Sp := fun vs H Q E => vs.length = n ∧ ∃ Hb as, StR K Hb (vs.map some) as H ∧ as.all argOk = true ∧ PostF K Hb vs as H Q E (sem as)
/-- what is handed back at the parameters -/
def backF : List Sl → List Sl → List Sl
  | [], _ => []
  | .ow true xs :: as, s :: ρ => s :: backF as ρ
  | a :: as, _ :: ρ => a :: backF as ρ
  | as, [] => as
def fin1 (ρ : Rho) : Rs → Option Rs
  | .va d => some (.va d)
  | .fr xs => some (.fr xs)
  | .al i => match ρ[i]? with
    | some (.va d) => some (.va d)
    | some (.ow false xs) => some (.fr xs)
    | _ => none
def fsem (k : Nat) (n : N) : M Rs := fun as => match n (as ++ List.replicate (k - as.length) Sl.un) with
  | .nx ρ => .ok (.va .non) (backF as ρ)
  | .rt r ρ => (match fin1 ρ r with
    | some r' => .ok r' (backF as ρ)
    | none => .stuck)
  | .er e ρ => .er e (backF as ρ)
  | _ => .stuck
theorem backF_get : ∀ {as ρ : List Sl} {i : Nat}, as.length ≤ ρ.length → (backF as ρ)[i]? = (match as[i]? with
    | some (.ow true _) => ρ[i]?
    | o => o)
  | [], ρ, i, _ => by simp [backF]
  | a :: as, [], i, h => by simp at h
  | a :: as, s :: ρ, i, h => by
    have ih : ∀ {j : Nat}, (backF as ρ)[j]? = (match as[j]? with | some (.ow true _) => ρ[j]? | o => o) := backF_get (by simpa using h)
    cases i with
    | zero => cases a with
      | un => rfl
      | va d => rfl
      | ow io xs => cases io <;> rfl
    | succ i => cases a with
      | un => simpa [backF] using ih
      | va d => simpa [backF] using ih
      | ow io xs => cases io <;> simpa [backF] using ih
theorem backF_len : ∀ {as ρ : List Sl}, as.length ≤ ρ.length → (backF as ρ).length = as.length
  | [], ρ, _ => rfl
  | a :: as, [], h => by simp at h
  | a :: as, s :: ρ, h => by
    have ih := backF_len (as := as) (ρ := ρ) (by simpa using h)
    cases a with
    | un => simp [backF, ih]
    | va d => simp [backF, ih]
    | ow io xs => cases io <;> simp [backF, ih]
section
variable {K : PySem.W.Frag} {Hb Hb' H H' : Hp} {vs : List V} {as ρ' : List Sl} {σ' : L2.St} {k : Nat}
theorem start_get {N : List Str} {i : Nat} (h : i < vs.length) : (L2.start N vs)[i]? = (vs.map some)[i]? := by
  unfold L2.start
  rw [List.getElem?_append_left (by simpa using h)]
theorem rho_get {i : Nat} (h : i < as.length) : (as ++ List.replicate (k - as.length) Sl.un)[i]? = as[i]? := List.getElem?_append_left h
theorem StR.start {N : List Str} (S : StR K Hb (vs.map some) as H) (hk : vs.length ≤ N.length) : StR K Hb (L2.start N vs) (as ++ List.replicate (N.length - as.length) Sl.un) H := by
  have hl : vs.length = as.length := by have := S.len; simpa using this
  have own : ∀ {j b}, OwnAt (L2.start N vs) (as ++ List.replicate (N.length - as.length) Sl.un) j b → OwnAt (vs.map some) as j b := fun {j b} h => by
    obtain ⟨e, io, xs, q⟩ := h
    by_cases hj : j < as.length
    · rw [rho_get hj] at q
      rw [start_get (by omega)] at e
      exact ⟨e, io, xs, q⟩
    · rw [List.getElem?_append_right (by omega)] at q
      rw [List.getElem?_replicate] at q
      split at q <;> cases q
  refine ⟨S.sub, ?_, fun i s e => ?_, fun i j b hi hj => S.dis i j b (own hi) (own hj)⟩
  · unfold L2.start
    simp only [List.length_append, List.length_map, List.length_replicate]
    omega
  · by_cases hi : i < as.length
    · rw [rho_get hi] at e
      rw [start_get (by omega)]
      exact S.sl i s e
    · rw [List.getElem?_append_right (by omega), List.getElem?_replicate] at e
      split at e
      · cases e
        unfold L2.start
        rw [List.getElem?_append_right (by simp; omega), List.getElem?_replicate]
        refine ⟨none, ?_, trivial⟩
        rw [if_pos (by simp; omega)]
      · cases e
theorem own_start {N : List Str} (S : StR K Hb (vs.map some) as H) {b : Addr} : Own (L2.start N vs) (as ++ List.replicate (N.length - as.length) Sl.un) b ↔ Own (vs.map some) as b := by
  have hl : vs.length = as.length := by have := S.len; simpa using this
  constructor
  · rintro ⟨j, e, io, xs, q⟩
    by_cases hj : j < as.length
    · rw [rho_get hj] at q
      rw [start_get (by omega)] at e
      exact ⟨j, e, io, xs, q⟩
    · rw [List.getElem?_append_right (by omega), List.getElem?_replicate] at q
      split at q <;> cases q
  · rintro ⟨j, e, io, xs, q⟩
    have hj : j < as.length := (List.getElem?_eq_some_iff.mp q).1
    exact ⟨j, by rw [start_get (by omega)]; exact e, io, xs, by rw [rho_get hj]; exact q⟩
theorem all_get {i : Nat} {s : Sl} (h : as.all argOk = true) (e : as[i]? = some s) : argOk s = true := List.all_eq_true.mp h s (List.mem_of_getElem? e)
theorem Ste.ofS {N : List Str} (S : StR K Hb (vs.map some) as H) (ao : as.all argOk = true) (hk : vs.length ≤ N.length) (s : SteS K Hb (L2.start N vs) (as ++ List.replicate (N.length - as.length) Sl.un) H Hb' σ' ρ' H') :
    Ste K (vs.map some) Hb as H Hb' (backF as ρ') H' := by
  have hl : vs.length = as.length := by have := S.len; simpa using this
  have hl2 : as.length ≤ ρ'.length := by rw [s.len]; simp
  -- an io slot
  have io : ∀ {i : Nat} {xs : List DL.D}, as[i]? = some (.ow true xs) → ∃ p us ys, (vs.map some)[i]? = some (some (.ref p)) ∧ ρ'[i]? = some (.ow true ys) ∧ (backF as ρ')[i]? = some (.ow true ys) ∧ OwnAt σ' ρ' i p ∧ H' p = some (.lst us) ∧ IsA K Hb' ys us ∧ Hb' p = none := fun {i xs} e => by
    have hi : i < as.length := (List.getElem?_eq_some_iff.mp e).1
    obtain ⟨e1, ys, e2⟩ := s.io i xs (by rw [rho_get hi]; exact e)
    rw [start_get (by omega)] at e1
    obtain ⟨p, us, oa, e3, h1, h2, h3⟩ := s.st.own e2
    refine ⟨p, us, ys, by rw [← e1]; exact e3, e2, by rw [backF_get hl2, e]; exact e2, oa, h1, h2, h3⟩
  have nio : ∀ {i : Nat} {s : Sl}, as[i]? = some s → (∀ xs, s ≠ .ow true xs) → (backF as ρ')[i]? = some s ∧ ∃ d, s = .va d := fun {i s} e n => by
    have a := all_get ao e
    cases s with
    | un => cases a
    | va d => exact ⟨by rw [backF_get hl2, e], d, rfl⟩
    | ow io xs =>
      cases io with
      | true => exact absurd rfl (n xs)
      | false => cases a
  have own : ∀ {j b}, OwnAt (vs.map some) (backF as ρ') j b → OwnAt (vs.map some) as j b ∧ OwnAt σ' ρ' j b := fun {j b} h => by
    obtain ⟨e, io', xs, q⟩ := h
    have hj : j < as.length := by
      have := (List.getElem?_eq_some_iff.mp q).1
      rw [backF_len hl2] at this; exact this
    cases ea : as[j]? with
    | none => rw [List.getElem?_eq_none_iff] at ea; omega
    | some sl =>
      by_cases hs : ∃ xs, sl = .ow true xs
      · obtain ⟨ys, rfl⟩ := hs
        obtain ⟨p, us, zs, e1, e2, e3, oa, _⟩ := io ea
        rw [e] at e1; cases e1
        exact ⟨⟨e, true, ys, ea⟩, oa⟩
      · obtain ⟨e1, d, rfl⟩ := nio ea (fun xs z => hs ⟨xs, z⟩)
        rw [e1] at q; cases q
  refine ⟨fun b o e n => s.fr b o e (fun z => n ((own_start S).mp z)), s.th, s.gr, fun b o e n q => s.gn b o e n (fun z => q ((own_start S).mp z)), fun b ⟨j, h⟩ => ⟨j, (own h).1⟩, fun i xs e => ?_, ⟨s.st.sub, ?_, fun i sl e => ?_, fun i j b hi hj => s.st.dis i j b (own hi).2 (own hj).2⟩⟩
  · obtain ⟨p, us, ys, _, _, e3, _⟩ := io e
    exact ⟨ys, e3⟩
  · rw [backF_len hl2]; exact S.len
  · have hi : i < as.length := by
      have := (List.getElem?_eq_some_iff.mp e).1
      rw [backF_len hl2] at this; exact this
    cases ea : as[i]? with
    | none => rw [List.getElem?_eq_none_iff] at ea; omega
    | some s0 =>
      by_cases hs : ∃ xs, s0 = .ow true xs
      · obtain ⟨ys, rfl⟩ := hs
        obtain ⟨p, us, zs, e1, e2, e3, oa, h1, h2, h3⟩ := io ea
        rw [e3] at e; cases e
        exact ⟨_, e1, p, us, rfl, h1, h2, h3⟩
      · obtain ⟨e1, d, rfl⟩ := nio ea (fun xs z => hs ⟨xs, z⟩)
        rw [e1] at e; cases e
        obtain ⟨v, e2, i2⟩ := S.va ea
        exact ⟨_, e2, v, rfl, Is.mono s.gr _ _ i2⟩
theorem fin1_ok {N : List Str} {r r' : Rs} {v : V} (S : StR K Hb (vs.map some) as H) (ao : as.all argOk = true) (hk : vs.length ≤ N.length) (s : SteS K Hb (L2.start N vs) (as ++ List.replicate (N.length - as.length) Sl.un) H Hb' σ' ρ' H')
    (h : RsR K H Hb' σ' H' r v) (e : fin1 ρ' r = some r') : RsR K H Hb' [] H' r' v := by
  cases r with
  | va d => cases e; exact h
  | fr xs => cases e; exact h
  | al i =>
    have h : σ'[i]? = some (some v) := h
    unfold fin1 at e
    simp only at e
    split at e
    · rename_i d q
      cases e
      obtain ⟨w, e1, i1⟩ := s.st.va q
      rw [h] at e1; cases e1
      exact i1
    · rename_i xs q
      cases e
      obtain ⟨p, us, oa, e1, h1, h2, h3⟩ := s.st.own q
      rw [h] at e1; cases e1
      refine ⟨p, us, rfl, ?_, h3, h1, h2⟩
      rcases s.ow p ⟨i, oa⟩ with z | z
      · exfalso
        obtain ⟨j, e2, io, ys, q2⟩ := (own_start S).mp z
        have a := all_get ao q2
        have hj : j < as.length := (List.getElem?_eq_some_iff.mp q2).1
        cases io with
        | false => cases a
        | true =>
          have hl : vs.length = as.length := by have := S.len; simpa using this
          obtain ⟨e3, zs, e4⟩ := s.io j ys (by rw [rho_get hj]; exact q2)
          rw [start_get (by omega), e2] at e3
          have := s.st.dis i j p oa ⟨e3, true, zs, e4⟩
          subst this
          rw [q] at e4; cases e4
      · exact z
    · cases e
end
section
variable {P : Program} {w : World} {K : PySem.W.Frag} {mg : Str → Option Value} {base : Heap}
def WEx (E : XK) : WX := fun cls d _ H => E cls d H
/-- THE RULE for a def by its meaning -/
theorem fun_ok {x qual : Str} {st : Stmt} {f : Addr} {fd : FuncData} {N ps : List Str} {k : Nat} {nb : DL.N} (F : Fun K x qual st f fd) (S : FnScope N ps (defScope st)) (hk : ps.length ≤ N.length)
    (hbody : ∀ (cdv : Value) (A : Around) (outer : List Env) (s : Shared) (H : Hp) (E : XK), Room k (A.deeper (envOfC qual (defScope st) s.heap.objs.size f cdv)) →
      Takes (cxOf (L2.CX P w) P w K mg base N qual (defScope st) f cdv A outer s H E) (WEx E) → PassesOwn (model P w) (cxOf (L2.CX P w) P w K mg base N qual (defScope st) f cdv A outer s H E).A (cxOf (L2.CX P w) P w K mg base N qual (defScope st) f cdv A outer s H E).env (cxOf (L2.CX P w) P w K mg base N qual (defScope st) f cdv A outer s H E).xe → PSs (cxOf (L2.CX P w) P w K mg base N qual (defScope st) f cdv A outer s H E) (defBody st) (tN K (WEx E) nb)) :
    FnOk P w K mg base (L2.CX P w) (k + 1) f fd ps (spD K ps.length (fsem N.length nb)) := by
  refine F.okX S (fun vs H Q E h => h.1) fun cdv A outer s H vs Q E hr h => ?_
  obtain ⟨hl, Hb, as, S0, ao, Pf⟩ := h
  refine ⟨_, hbody cdv A outer s H E hr (takes_of rfl rfl rfl rfl) (passes_of rfl), Hb, as ++ List.replicate (N.length - as.length) Sl.un, S0.start (by omega), ?_⟩
  unfold fsem at Pf
  have hkv : vs.length ≤ N.length := by omega
  cases en : nb (as ++ List.replicate (N.length - as.length) Sl.un) with
  | stuck => rw [en] at Pf; exact Pf
  | bk ρ => rw [en] at Pf; exact Pf.elim
  | ct ρ => rw [en] at Pf; exact Pf.elim
  | nx ρ =>
    rw [en] at Pf
    exact fun σ' H' Hb' s' => Pf .non H' Hb' (Ste.ofS S0 ao hkv s') (Is.nonI (K := K) (H := Hb'))
  | er e ρ =>
    rw [en] at Pf
    exact fun d σ' H' Hb' s' ex => Pf d H' Hb' (Ste.ofS S0 ao hkv s') ex
  | rt r ρ =>
    rw [en] at Pf
    simp only at Pf
    cases ef : fin1 ρ r with
    | none => rw [ef] at Pf; exact Pf.elim
    | some r' =>
      rw [ef] at Pf
      exact fun v σ' H' Hb' s' rr => Pf v H' Hb' (Ste.ofS S0 ao hkv s') (fin1_ok S0 ao hkv s' rr ef)
end
/-! ### a call -/
def toArg (ρ : Rho) : Rs → Sl
  | .va d => .va d
  | .fr _ => .un
  | .al i => match ρ[i]? with
    | some (.va d) => .va d
    | some (.ow _ xs) => .ow true xs
    | _ => .un
def pos? : List Rs → Nat → Option Nat
  | [], _ => none
  | .al j :: rs, i => if j = i then some 0 else (pos? rs i).map (· + 1)
  | _ :: rs, i => (pos? rs i).map (· + 1)
def alNd : List Rs → Bool
  | [] => true
  | .al i :: rs => (pos? rs i).isNone && alNd rs
  | _ :: rs => alNd rs
def upd1 (rs : List Rs) (as' : List Sl) (i : Nat) : Sl → Sl
  | .ow io xs => match pos? rs i with
    | some k => (match as'[k]? with
      | some (.ow true ys) => .ow io ys
      | _ => .ow io xs)
    | none => .ow io xs
  | s => s
def backC (rs : List Rs) (as' : List Sl) : Nat → Rho → Rho
  | _, [] => []
  | i, s :: ρ => upd1 rs as' i s :: backC rs as' (i + 1) ρ
theorem backC_get {rs : List Rs} {as' : List Sl} : ∀ {ρ : Rho} {k i : Nat}, (backC rs as' k ρ)[i]? = (ρ[i]?).map (upd1 rs as' (k + i))
  | [], k, i => by simp [backC]
  | s :: ρ, k, 0 => by simp [backC]
  | s :: ρ, k, i + 1 => by
    simp only [backC, List.getElem?_cons_succ]
    rw [backC_get (ρ := ρ) (k := k + 1) (i := i), show k + 1 + i = k + (i + 1) by omega]
theorem backC_len {rs : List Rs} {as' : List Sl} : ∀ {ρ : Rho} {k : Nat}, (backC rs as' k ρ).length = ρ.length
  | [], k => rfl
  | s :: ρ, k => by simp [backC, backC_len]
theorem pos_get : ∀ {rs : List Rs} {i k : Nat}, pos? rs i = some k → rs[k]? = some (.al i)
  | [], i, k, h => by cases h
  | .al j :: rs, i, k, h => by
    unfold pos? at h
    by_cases e : j = i
    · rw [if_pos e] at h; cases h; subst e; rfl
    · rw [if_neg e] at h
      cases q : pos? rs i with
      | none => rw [q] at h; cases h
      | some m => rw [q] at h; cases h; simpa using pos_get q
  | .va d :: rs, i, k, h => by
    unfold pos? at h
    cases q : pos? rs i with
    | none => rw [q] at h; cases h
    | some m => rw [q] at h; cases h; simpa using pos_get q
  | .fr d :: rs, i, k, h => by
    unfold pos? at h
    cases q : pos? rs i with
    | none => rw [q] at h; cases h
    | some m => rw [q] at h; cases h; simpa using pos_get q
theorem pos_some : ∀ {rs : List Rs} {i k : Nat}, rs[k]? = some (.al i) → ∃ m, pos? rs i = some m
  | [], i, k, h => by simp at h
  | r :: rs, i, 0, h => by
    simp at h; subst h
    exact ⟨0, by simp [pos?]⟩
  | r :: rs, i, k + 1, h => by
    obtain ⟨m, q⟩ := pos_some (rs := rs) (i := i) (k := k) (by simpa using h)
    cases r with
    | va d => exact ⟨m + 1, by simp [pos?, q]⟩
    | fr d => exact ⟨m + 1, by simp [pos?, q]⟩
    | al j =>
      by_cases e : j = i
      · exact ⟨0, by simp [pos?, e]⟩
      · exact ⟨m + 1, by simp [pos?, q, e]⟩
theorem nd_al : ∀ {rs : List Rs} {i k l : Nat}, alNd rs = true → rs[k]? = some (.al i) → rs[l]? = some (.al i) → k = l
  | [], i, k, l, _, h, _ => by simp at h
  | r :: rs, i, 0, 0, _, _, _ => rfl
  | r :: rs, i, k + 1, l + 1, n, h, h' => by
    have n' : alNd rs = true := by
      cases r with
      | va d => exact n
      | fr d => exact n
      | al j => simp only [alNd, Bool.and_eq_true] at n; exact n.2
    exact congrArg (· + 1) (nd_al (i := i) n' (by simpa using h) (by simpa using h'))
  | r :: rs, i, 0, l + 1, n, h, h' => by
    simp at h; subst h
    simp only [alNd, Bool.and_eq_true] at n
    obtain ⟨m, q⟩ := pos_some (rs := rs) (i := i) (k := l) (by simpa using h')
    rw [q] at n; simp at n
  | r :: rs, i, k + 1, 0, n, h', h => by
    simp at h; subst h
    simp only [alNd, Bool.and_eq_true] at n
    obtain ⟨m, q⟩ := pos_some (rs := rs) (i := i) (k := k) (by simpa using h')
    rw [q] at n; simp at n
def mCall (n : Nat) (sem : M Rs) (ms : M (List Rs)) : M Rs := fun ρ => bnd (ms ρ) fun rs ρ1 => if (decide (rs.length = n) && alNd rs && (rs.map (toArg ρ1)).all argOk) = true then (match sem (rs.map (toArg ρ1)) with
    | .ok (.va d) as' => .ok (.va d) (backC rs as' 0 ρ1)
    | .ok (.fr d) as' => .ok (.fr d) (backC rs as' 0 ρ1)
    | .er e as' => .er e (backC rs as' 0 ρ1)
    | _ => .stuck)
  else .stuck
theorem paired_get {α β : Type} {F : α → β → Prop} : ∀ {l : List α} {m : List β} {i : Nat} {a : α}, Paired F l m → l[i]? = some a → ∃ b, m[i]? = some b ∧ F a b
  | _, _, i, a, .nil, h => by simp at h
  | _, _, 0, a, .cons h t, e => by simp at e; subst e; exact ⟨_, rfl, h⟩
  | _, _, i + 1, a, .cons h t, e => by
    obtain ⟨b, e1, f⟩ := paired_get (i := i) (a := a) t (by simpa using e)
    exact ⟨b, by simpa using e1, f⟩
section
variable {K : PySem.W.Frag} {W : WX} {σ : L2.St} {H0 Hb Hb' H H' : Hp} {ρ : Rho} {rs : List Rs} {vs : List V} {as' : List Sl}
theorem toArg_own {k : Nat} {b : Addr} (S : StR K Hb σ ρ H) (p : Paired (RsR K H0 Hb σ H) rs vs) (h : OwnAt (vs.map some) (rs.map (toArg ρ)) k b) : ∃ i, rs[k]? = some (.al i) ∧ OwnAt σ ρ i b := by
  obtain ⟨e, io, xs, q⟩ := h
  rw [List.getElem?_map] at q
  cases er : rs[k]? with
  | none => rw [er] at q; cases q
  | some r =>
    rw [er] at q
    obtain ⟨v, ev, hv⟩ := paired_get p er
    rw [List.getElem?_map, ev] at e
    cases e
    cases r with
    | va d => cases q
    | fr d => cases q
    | al i =>
      have hv : σ[i]? = some (some (.ref b)) := hv
      simp only [Option.map_some, toArg] at q
      cases eρ : ρ[i]? with
      | none => rw [eρ] at q; cases q
      | some sl =>
        cases sl with
        | un => rw [eρ] at q; cases q
        | va d => rw [eρ] at q; cases q
        | ow io' ys => exact ⟨i, rfl, hv, io', ys, eρ⟩
theorem callee_st (S : StR K Hb σ ρ H) (p : Paired (RsR K H0 Hb σ H) rs vs) (nd : alNd rs = true) : StR K Hb (vs.map some) (rs.map (toArg ρ)) H := by
  have hl := Paired.length p
  refine ⟨S.sub, by simp [hl], fun k s e => ?_, fun k l b hk hl => ?_⟩
  · rw [List.getElem?_map] at e
    cases er : rs[k]? with
    | none => rw [er] at e; cases e
    | some r =>
      rw [er] at e
      obtain ⟨v, ev, hv⟩ := paired_get p er
      refine ⟨some v, by rw [List.getElem?_map, ev]; rfl, ?_⟩
      simp only [Option.map_some, Option.some.injEq] at e
      subst e
      cases r with
      | va d => exact ⟨v, rfl, hv⟩
      | fr d => trivial
      | al i =>
        have hv : σ[i]? = some (some v) := hv
        unfold toArg
        simp only
        cases eρ : ρ[i]? with
        | none => trivial
        | some sl =>
          cases sl with
          | un => trivial
          | va d =>
            obtain ⟨w, e1, i1⟩ := S.va eρ
            rw [hv] at e1; cases e1
            exact ⟨v, rfl, i1⟩
          | ow io xs =>
            obtain ⟨q, us, _, e1, h1, h2, h3⟩ := S.own eρ
            rw [hv] at e1; cases e1
            exact ⟨q, us, rfl, h1, h2, h3⟩
  · obtain ⟨i, e1, o1⟩ := toArg_own S p hk
    obtain ⟨j, e2, o2⟩ := toArg_own S p hl
    have := S.dis i j b o1 o2
    subst this
    exact nd_al nd e1 e2
theorem upd1_kind {rs : List Rs} {as' : List Sl} {i : Nat} {s : Sl} {io : Bool} {xs : List DL.D} (h : upd1 rs as' i s = .ow io xs) : ∃ ys, s = .ow io ys := by
  cases s with
  | un => cases h
  | va d => cases h
  | ow io' zs =>
    unfold upd1 at h
    simp only at h
    split at h
    · split at h <;> cases h <;> exact ⟨_, rfl⟩
    · cases h; exact ⟨_, rfl⟩
theorem caller_st (S : StR K Hb σ ρ H) (p : Paired (RsR K H0 Hb σ H) rs vs) (nd : alNd rs = true) (s : Ste K (vs.map some) Hb (rs.map (toArg ρ)) H Hb' as' H') : Ste K σ Hb ρ H Hb' (backC rs as' 0 ρ) H' := by
  have get : ∀ i, (backC rs as' 0 ρ)[i]? = (ρ[i]?).map (upd1 rs as' i) := fun i => by rw [backC_get, Nat.zero_add]
  have ownc : ∀ {b}, Own (vs.map some) (rs.map (toArg ρ)) b → Own σ ρ b := fun ⟨k, h⟩ => let ⟨i, _, o⟩ := toArg_own S p h; ⟨i, o⟩
  have own : ∀ {j b}, OwnAt σ (backC rs as' 0 ρ) j b → OwnAt σ ρ j b := fun {j b} h => by
    obtain ⟨e, io, xs, q⟩ := h
    rw [get] at q
    cases eρ : ρ[j]? with
    | none => rw [eρ] at q; cases q
    | some sl =>
      rw [eρ] at q
      simp only [Option.map_some, Option.some.injEq] at q
      obtain ⟨ys, rfl⟩ := upd1_kind q
      exact ⟨e, io, ys, eρ⟩
  have up : ∀ i (io : Bool) (xs : List DL.D), ∃ ys, upd1 rs as' i (.ow io xs) = .ow io ys := fun i io xs => by
    unfold upd1
    simp only
    split
    · split <;> exact ⟨_, rfl⟩
    · exact ⟨_, rfl⟩
  refine ⟨fun b o e n => s.fr b o e (fun z => n (ownc z)), s.th, s.gr, fun b o e n q => s.gn b o e n (fun z => q (ownc z)), fun b ⟨j, h⟩ => ⟨j, own h⟩, fun i xs e => ?_, ⟨s.st.sub, by rw [backC_len]; exact S.len, fun i sl e => ?_, fun i j b hi hj => S.dis i j b (own hi) (own hj)⟩⟩
  · obtain ⟨ys, h⟩ := up i true xs
    exact ⟨ys, by rw [get, e]; simp [h]⟩
  · rw [get] at e
    cases eρ : ρ[i]? with
    | none => rw [eρ] at e; cases e
    | some s0 =>
      rw [eρ] at e
      simp only [Option.map_some, Option.some.injEq] at e
      subst e
      obtain ⟨o, e1, e2⟩ := S.sl i s0 eρ
      refine ⟨o, e1, ?_⟩
      cases s0 with
      | un => trivial
      | va d =>
        obtain ⟨v, e3, i3⟩ := e2
        exact ⟨v, e3, Is.mono s.gr _ _ i3⟩
      | ow io xs =>
        obtain ⟨q, us, rfl, h1, h2, h3⟩ := e2
        -- the list stands still, if it wasn't handed over
        have still : ¬ Own (vs.map some) (rs.map (toArg ρ)) q → SlR K Hb' H' (some (.ref q)) (.ow io xs) := fun n => ⟨q, us, rfl, s.fr q _ h1 n, IsA.mono s.gr _ _ h2, s.gn q _ h1 h3 n⟩
        unfold upd1
        simp only
        cases ep : pos? rs i with
        | none =>
          refine still fun ⟨k, h⟩ => ?_
          obtain ⟨j, e3, o3⟩ := toArg_own S p h
          have := S.dis i j q ⟨e1, io, xs, eρ⟩ o3
          subst this
          obtain ⟨m, q2⟩ := pos_some e3
          rw [ep] at q2; cases q2
        | some k =>
          have er := pos_get ep
          obtain ⟨v, ev, hv⟩ := paired_get p er
          have hv : σ[i]? = some (some v) := hv
          rw [e1] at hv; cases hv
          have e4 : (rs.map (toArg ρ))[k]? = some (.ow true xs) := by rw [List.getElem?_map, er]; simp [toArg, eρ]
          obtain ⟨ys, e5⟩ := s.io k xs e4
          simp only [e5]
          obtain ⟨q', us', _, e6, h1', h2', h3'⟩ := s.st.own e5
          rw [List.getElem?_map, ev] at e6; cases e6
          exact ⟨q, us', rfl, h1', h2', h3'⟩
end
section
variable {X : Cx} {W : WX} {σ : L2.St} {H : Hp}
def PassW (X : Cx) (W : WX) : Prop := ∀ σ, PassesAt (L2.CX X.prog X.w) X σ (WE W σ)
theorem passW_of (tk : Takes X W) : PassW X W := fun σ => passAt tk σ
theorem passW_none : PassW X (fun _ _ _ _ => False) := fun σ => fun _ _ _ _ _ _ h => by
  obtain ⟨_, _, _, _, _, _, _, _, _, _, _, _, z⟩ := h
  exact z.elim
theorem dm_call {k n : Nat} {f : Addr} {fd : FuncData} {ps : List Str} {x : Str} {p pos : Pos} {e : Expr} {es : List Expr} {sem : M Rs} {ms : M (List Rs)} (F : FnOk X.prog X.w X.K X.mg X.base (L2.CX X.prog X.w) k f fd ps (spD X.K n sem)) (hr : Room k X.A) (hp : PassW X W) (hg : Gl X x) (hm : X.mg x = some (.ref f))
    (hk : PySem.W.keepIn X.K (.ref f) = true) (hb : Binds X.K fd ps []) (ha : PA X (e :: es) (tA X.K W ms)) (hdb : (x == ("__debug__" : Str)) = false := by decide) (he : starEach (e :: es) X.env = (false, eval e X.env) :: starEach es X.env := by rfl) (hpl : (backTo pos (starEach es X.env)).any (·.1) = false := by rfl) :
    PE X (.Call (.Name x p) (e :: es) [] pos) (tM X.K W (mCall n sem ms)) := by
  refine PE.imp (pe_callS F hr hg hm hk hb hp ha hdb he hpl) fun σ H Q h => ?_
  obtain ⟨Hb, ρ, S, P⟩ := h
  refine ⟨Hb, ρ, S, ?_⟩
  unfold mCall at P
  simp only [bnd] at P
  cases ea : ms ρ with
  | stuck => rw [ea] at P; exact P
  | er e ρ1 => rw [ea] at P; exact P
  | ok rs ρ1 =>
    rw [ea] at P
    intro vs H1 Hb1 s1 r1
    simp only at P
    by_cases hc : (decide (rs.length = n) && alNd rs && (rs.map (toArg ρ1)).all argOk) = true
    · rw [if_pos hc] at P
      simp only [Bool.and_eq_true, decide_eq_true_eq] at hc
      obtain ⟨⟨hl, nd⟩, ao⟩ := hc
      refine ⟨by rw [← Paired.length r1]; exact hl, Hb1, rs.map (toArg ρ1), callee_st s1.st r1 nd, ao, ?_⟩
      cases es : sem (rs.map (toArg ρ1)) with
      | stuck => rw [es] at P; exact P
      | er e as' =>
        rw [es] at P
        exact fun d H2 Hb2 s2 ex => P d H2 Hb2 (s1.trans (caller_st s1.st r1 nd s2)) ex
      | ok r as' =>
        rw [es] at P
        cases r with
        | al i => exact P.elim
        | va d => exact fun v H2 Hb2 s2 rr => P v H2 Hb2 (s1.trans (caller_st s1.st r1 nd s2)) ((RsR.some rr).older s1.th)
        | fr xs => exact fun v H2 Hb2 s2 rr => P v H2 Hb2 (s1.trans (caller_st s1.st r1 nd s2)) ((RsR.some rr).older s1.th)
    · rw [if_neg hc] at P; exact P.elim
end
end DL

namespace DL
open PySem L2 PyProof.Rows
/-! ### what is walked -/
structure ItD (K : PySem.W.Frag) (Hb0 : Hp) (J : It) (ds : List DL.D) : Prop where
  go : ∀ Hb H i, Same Hb0 Hb → Same Hb H → i < ds.length → J.go i H
  yld : ∀ Hb H i x H' d, Same Hb0 Hb → Same Hb H → J.yld i H x H' → ds[i]? = some d → ∃ Hb', Gro Hb H Hb' H' ∧ Is K Hb' d x
  stop : ∀ Hb H, Same Hb0 Hb → Same Hb H → J.stop ds.length H
def PostI (K : PySem.W.Frag) (W : WX) (Hb : Hp) (σ : L2.St) (ρ : Rho) (H : Hp) (R : It → Hp → Prop) : Res (List DL.D) → Prop
  | .ok ds ρ1 => ∀ J H1 Hb1, Ste K σ Hb ρ H Hb1 ρ1 H1 → ItD K Hb1 J ds → R J H1
  | .er e ρ' => ∀ (d : Value × Option Addr) H' Hb', Ste K σ Hb ρ H Hb' ρ' H' → ExR K Hb' H' e d → W d.1 d.2 σ H'
  | .stuck => False
def tI (K : PySem.W.Frag) (W : WX) (m : M (List DL.D)) : TI := fun σ H R => ∃ Hb ρ, StR K Hb σ ρ H ∧ PostI K W Hb σ ρ H R (m ρ)
section
variable {X : Cx} {tg : Expr} {K : PySem.W.Frag} {W : WX} {σ : L2.St} {H : Hp}
theorem PI.imp {iter : Expr} {t t' : TI} (h : PI X tg iter t) (i : ∀ σ H R, t' σ H R → t σ H R) : PI X tg iter t' := ⟨fun pins s σ H R I q => h.run pins s σ H R I (i σ H R q)⟩
theorem PI.or {iter : Expr} {t t' : TI} (h : PI X tg iter t) (h' : PI X tg iter t') : PI X tg iter (fun σ H R => t σ H R ∨ t' σ H R) := ⟨fun pins s σ H R I q => by
  rcases q with q | q
  · exact h.run pins s σ H R I q
  · exact h'.run pins s σ H R I q⟩
/-- a list or a tuple -/
def mIter (a : M Rs) : M (List DL.D) := fun ρ => bnd (a ρ) fun r ρ1 => match keepR ρ1 r with
  | some (.lst ds, ρ2) => .ok ds ρ2
  | some (.tup ds, ρ2) => .ok ds ρ2
  | _ => .stuck
theorem itl_is {Hb0 : Hp} {a : Addr} {vs : List V} {ds : List DL.D} (h : SqL K Hb0 a vs) (i : IsA K Hb0 ds vs) : ItD K Hb0 (Itl K a) ds := by
  have sq : ∀ {Hb H}, Same Hb0 Hb → Same Hb H → SqL K H a vs := fun s1 s2 => Same.seq s2 (Same.seq s1 h)
  refine ⟨fun Hb H j s1 s2 hj => ?_, fun Hb H j x H' d s1 s2 y e => ?_, fun Hb H s1 s2 => ⟨vs, sq s1 s2, by rw [i.length]; exact Nat.le_refl _⟩⟩
  · obtain ⟨v, ev, _⟩ := i.get (List.getElem?_eq_getElem hj)
    exact ⟨vs, v, sq s1 s2, ev⟩
  · obtain ⟨rfl, y⟩ := y
    obtain ⟨v, ev, iv⟩ := i.get e
    have := y vs (sq s1 s2)
    rw [ev] at this; cases this
    exact ⟨Hb, Gro.refl s2, Is.mono s1 _ _ iv⟩
theorem itt_is {Hb0 : Hp} {a : Addr} {vs : List V} {ds : List DL.D} (h : SqT K Hb0 a vs) (i : IsA K Hb0 ds vs) : ItD K Hb0 (Itt K a) ds := by
  have sq : ∀ {Hb H}, Same Hb0 Hb → Same Hb H → SqT K H a vs := fun s1 s2 => Same.tup s2 (Same.tup s1 h)
  refine ⟨fun Hb H j s1 s2 hj => ?_, fun Hb H j x H' d s1 s2 y e => ?_, fun Hb H s1 s2 => ⟨vs, sq s1 s2, by rw [i.length]; exact Nat.le_refl _⟩⟩
  · obtain ⟨v, ev, _⟩ := i.get (List.getElem?_eq_getElem hj)
    exact ⟨vs, v, sq s1 s2, ev⟩
  · obtain ⟨rfl, y⟩ := y
    obtain ⟨v, ev, iv⟩ := i.get e
    have := y vs (sq s1 s2)
    rw [ev] at this; cases this
    exact ⟨Hb, Gro.refl s2, Is.mono s1 _ _ iv⟩
theorem di_seq {l : Expr} {a : M Rs} (hl : PE X l (tM X.K W a)) : PI X tg l (tI X.K W (mIter a)) := by
  refine PI.imp (DL.PI.or (pi_list hl) (pi_tup hl)) fun σ H R h => ?_
  obtain ⟨Hb, ρ, S, P⟩ := h
  unfold mIter at P
  cases ea : a ρ with
  | stuck => rw [ea] at P; exact P.elim
  | er e ρ1 =>
    rw [ea] at P
    exact .inl ⟨Hb, ρ, S, by rw [ea]; exact P⟩
  | ok r ρ1 =>
    rw [ea] at P
    simp only [bnd] at P
    cases ek : keepR ρ1 r with
    | none => rw [ek] at P; exact P.elim
    | some q =>
      obtain ⟨d, ρ2⟩ := q
      rw [ek] at P
      cases d with
      | lst ds =>
        refine .inl ⟨Hb, ρ, S, by
          rw [ea]
          intro v H1 Hb1 s1 r1
          obtain ⟨Hb2, s2, i2⟩ := keepR_ok S s1 r1 ek
          simp only [Is] at i2
          obtain ⟨p, vs, rfl, h1, i1⟩ := i2
          exact ⟨p, rfl, ⟨vs, Same.seq s2.st.sub h1⟩, P _ H1 Hb2 s2 (itl_is h1 i1)⟩⟩
      | tup ds =>
        refine .inr ⟨Hb, ρ, S, by
          rw [ea]
          intro v H1 Hb1 s1 r1
          obtain ⟨Hb2, s2, i2⟩ := keepR_ok S s1 r1 ek
          simp only [Is] at i2
          obtain ⟨p, vs, rfl, h1, i1⟩ := i2
          exact ⟨p, rfl, ⟨vs, Same.tup s2.st.sub h1⟩, P _ H1 Hb2 s2 (itt_is h1 i1)⟩⟩
      | _ => exact P.elim
/-- range(n), range(a, b) -/
def rngL (lo : Int) (n : Nat) : List DL.D := (List.range n).map fun (i : Nat) => DL.D.int (lo + (i : Int))
def big62 : Int := 4611686018427387904
def rngD1 : List DL.D → Option (List DL.D)
  | [.int j] => if -big62 ≤ j ∧ j < big62 then some (rngL 0 j.toNat) else none
  | _ => none
def rngD2 : List DL.D → Option (List DL.D)
  | [.int i, .int j] => if (-big62 ≤ i ∧ i < big62) ∧ (-big62 ≤ j ∧ j < big62) then some (rngL i (j - i).toNat) else none
  | _ => none
def mRng (f : List DL.D → Option (List DL.D)) (as : M (List Rs)) : M (List DL.D) := fun ρ => bnd (as ρ) fun rs ρ1 => match rds ρ1 rs with
  | some ds => (match f ds with
    | some xs => .ok xs ρ1
    | none => .stuck)
  | none => .stuck
theorem itr_is {Hb0 : Hp} {lo : Int} {n : Nat} : ItD K Hb0 (Itr lo n) (rngL lo n) := by
  have hl : (rngL lo n).length = n := by simp [rngL]
  refine ⟨fun Hb H j s1 s2 hj => by rw [hl] at hj; exact hj, fun Hb H j x H' d s1 s2 y e => ?_, fun Hb H s1 s2 => by rw [hl]; exact Nat.le_refl _⟩
  obtain ⟨rfl, rfl⟩ := y
  have hj : j < n := by have := (List.getElem?_eq_some_iff.mp e).1; omega
  unfold rngL at e
  rw [List.getElem?_map, List.getElem?_range hj] at e
  cases e
  exact ⟨Hb, Gro.refl s2, Is.intI⟩
theorem tI_rng {f : List DL.D → Option (List DL.D)} {as : M (List Rs)} {R : It → Hp → Prop} {Rv : List V → Hp → Prop} (h : tI K W (mRng f as) σ H R)
    (k : ∀ Hb H1 ds vs xs, Same Hb H1 → Paired (RdR K Hb H1) ds vs → f ds = some xs → (∀ J, ItD K Hb J xs → R J H1) → Rv vs H1) : tA K W as σ H Rv := by
  obtain ⟨Hb, ρ, S, P⟩ := h
  refine ⟨Hb, ρ, S, ?_⟩
  unfold mRng at P
  cases ea : as ρ with
  | stuck => rw [ea] at P; exact P
  | er e ρ1 => rw [ea] at P; exact P
  | ok rs ρ1 =>
    rw [ea] at P
    intro vs H1 Hb1 s1 r1
    simp only [bnd] at P
    cases ek : rds ρ1 rs with
    | none => rw [ek] at P; exact P.elim
    | some ds =>
      rw [ek] at P
      simp only at P
      cases er : f ds with
      | none => rw [er] at P; exact P.elim
      | some xs =>
        rw [er] at P
        exact k Hb1 H1 ds vs xs s1.st.sub (rds_ok s1.st r1 ek) er fun J hJ => P J H1 Hb1 s1 hJ
theorem di_rng1 {a : Expr} {as : M (List Rs)} {p pos : Pos} (hg : Gl X "range") (hm : X.mg "range" = none) (ha : PA X [a] (tA K W as)) (hs : starEach [a] X.env = [(false, eval a X.env)] := by rfl) : PI X tg (.Call (.Name "range" p) [a] [] pos) (tI K W (mRng rngD1 as)) := by
  refine PI.imp (pi_range1 hg hm ha hs) fun σ H R h => tI_rng h fun Hb H1 ds vs xs sb pr er go => ?_
  unfold rngD1 at er
  split at er
  · rename_i j
    by_cases hc : -big62 ≤ j ∧ j < big62
    · rw [if_pos hc] at er; cases er
      obtain ⟨v, rfl, h⟩ := pair1 pr
      rw [h.int]
      have h1 := hc.1
      have h2 := hc.2
      unfold big62 at h1 h2
      exact ⟨j, rfl, by omega, by omega, go _ itr_is⟩
    · rw [if_neg hc] at er; cases er
  · cases er
theorem di_rng2 {a b : Expr} {as : M (List Rs)} {p pos : Pos} (hg : Gl X "range") (hm : X.mg "range" = none) (ha : PA X [a, b] (tA K W as)) (hs : starEach [a, b] X.env = [(false, eval a X.env), (false, eval b X.env)] := by rfl) (hs2 : starEach [b] X.env = [(false, eval b X.env)] := by rfl) : PI X tg (.Call (.Name "range" p) [a, b] [] pos) (tI K W (mRng rngD2 as)) := by
  refine PI.imp (pi_range2 hg hm ha hs hs2) fun σ H R h => tI_rng h fun Hb H1 ds vs xs sb pr er go => ?_
  unfold rngD2 at er
  split at er
  · rename_i i j
    by_cases hc : (-big62 ≤ i ∧ i < big62) ∧ (-big62 ≤ j ∧ j < big62)
    · rw [if_pos hc] at er; cases er
      obtain ⟨v, w, rfl, h, h'⟩ := pair2 pr
      rw [h.int, h'.int]
      obtain ⟨⟨h1, h2⟩, h3, h4⟩ := hc
      unfold big62 at h1 h2 h3 h4
      exact ⟨i, j, rfl, ⟨by omega, by omega, by omega, by omega⟩, go _ itr_is⟩
    · rw [if_neg hc] at er; cases er
  · cases er

/-! ### targets -/
/-- what a target makes of an item -/
def tG (K : PySem.W.Frag) (g : DL.D → Rho → Option Rho) : TG := fun v σ H Q => ∃ Hb ρ d ρ', StR K Hb σ ρ H ∧ Is K Hb d v ∧ g d ρ = some ρ' ∧ ∀ σ2, SteS K Hb σ ρ H Hb σ2 ρ' H → Q σ2 H
def gN (i : Nat) (d : DL.D) (ρ : Rho) : Option Rho := if i < ρ.length ∧ isIo ρ[i]? = false then some (ρ.set i (.va d)) else none
def gT (is : List Nat) (d : DL.D) (ρ : Rho) : Option Rho := match d with
  | .tup ds => setVs is ds ρ
  | _ => none
theorem PG.imp {tgt : Expr} {t t' : TG} (h : PG X tgt t) (i : ∀ v σ H Q, t' v σ H Q → t v σ H Q) : PG X tgt t' := ⟨fun pins s σ H v u Q I r q => h.run pins s σ H v u Q I r (i v σ H Q q)⟩
theorem dg_name {i : Nat} {x : Str} {pos : Pos} (hN : X.N.Nodup) (hi : X.N[i]? = some x) (hx : Loc X.env.scope x) (hf : X.fn x = true ∨ X.env.scope.names.lookup x = some .local := by first | exact .inl rfl | exact .inr rfl | assumption) : PG X (.Name x pos) (tG K (gN i)) := by
  refine PG.imp (pg_name hN hi hx hf) fun v σ H Q h => ?_
  obtain ⟨Hb, ρ, d, ρ', S, hv, e, q⟩ := h
  unfold gN at e
  by_cases hc : i < ρ.length ∧ isIo ρ[i]? = false
  · rw [if_pos hc] at e; cases e
    exact q _ (SteS.storeV S (Ste.refl S) hc.1 (nio_of hc.2) hv)
  · rw [if_neg hc] at e; cases e
theorem dg_tup {is : List Nat} {es : List Expr} {k : Nat} {pos : Pos} (hc : X.calm = true) (h : PGs X es (gNs is)) (hn : (assignEach es X.env).length = is.length := by rfl) (hst : (assignEach es X.env).findIdx? (·.1) = none := by rfl) : PG X (.Tuple es k pos) (tG X.K (gT is)) := by
  refine PG.imp (pg_tup hc h hn hst) fun v σ H Q h => ?_
  obtain ⟨Hb, ρ, d, ρ', S, hv, e, q⟩ := h
  unfold gT at e
  cases d with
  | tup ds =>
    simp only [Is] at hv
    obtain ⟨a, vs, rfl, h1, i1⟩ := hv
    refine ⟨a, vs, rfl, Same.tup S.sub h1, ?_, setVs_ok S i1 e q⟩
    rw [i1.length, setVs_len e]
  | _ => cases e

/-! ### for -/
def forL (g : DL.D → Rho → Option Rho) (nb : N) : List DL.D → N
  | [], ρ => .nx ρ
  | d :: ds, ρ => match g d ρ with
    | none => .stuck
    | some ρ1 => (match nb ρ1 with
      | .nx ρ2 => forL g nb ds ρ2
      | .ct ρ2 => forL g nb ds ρ2
      | .bk ρ2 => .nx ρ2
      | .rt r ρ2 => .rt r ρ2
      | .er e ρ2 => .er e ρ2
      | .stuck => .stuck)
def nFor (m : M (List DL.D)) (g : DL.D → Rho → Option Rho) (nb : N) : N := fun ρ => ebnd (m ρ) fun ds ρ1 => forL g nb ds ρ1
theorem dn_for {tgt iter : Expr} {body : List Stmt} {m : M (List DL.D)} {g : DL.D → Rho → Option Rho} {nb : N} {pos : Pos} (hp : PassesOwn (model X.prog X.w) X.A X.env X.xe) (hc : X.calm = true) (hi : PI X tgt iter (tI K W m)) (hg : PG X tgt (tG K g)) (hb : PSs X body (tN K W nb))
    (hs : ∀ x, foldedSetIterable iter X.env x = pure x := by intro _; rfl) : PS X (.For tgt iter body [] pos) (tN K W (nFor m g nb)) := by
  refine PS.imp (ps_for hp hc hi hg hb hs) fun D σ0 H0 h => ?_
  obtain ⟨Hb, ρ, S, P⟩ := h
  refine ⟨Hb, ρ, S, ?_⟩
  unfold nFor at P
  cases em : m ρ with
  | stuck => rw [em] at P; exact P
  | er e ρ1 => rw [em] at P; exact fun d H1 Hb1 s1 ex => P d σ0 H1 Hb1 (s1.toS S) ex
  | ok ds ρ1 =>
    rw [em] at P
    intro J H1 Hb1 s1 hJ
    have P1 := PostS.back (s1.toS S) P
    refine ⟨fun i m σ H => m = ds.length - i ∧ i ≤ ds.length ∧ ∃ Hb2 ρ2, StR K Hb2 σ ρ2 H ∧ Same Hb1 Hb2 ∧ PostS K W Hb2 σ ρ2 H D (forL g nb (ds.drop i) ρ2), ⟨ds.length, by simp, Nat.zero_le _, Hb1, ρ1, s1.st, Same.refl _, P1⟩, ?_⟩
    rintro i m σ H ⟨rfl, hi, Hb2, ρ2, S2, sm, P2⟩
    by_cases hlt : i < ds.length
    · refine .inr ⟨hJ.go Hb2 H i sm S2.sub hlt, fun σ' H' => ∃ Hb3 ρ3, StR K Hb3 σ' ρ3 H' ∧ Same Hb1 Hb3 ∧ PostS K W Hb3 σ' ρ3 H' D (forL g nb (ds.drop (i + 1)) ρ3), fun σ' H' ⟨Hb3, ρ3, h1, h2, h3⟩ => ⟨ds.length - (i + 1), by omega, rfl, hlt, Hb3, ρ3, h1, h2, h3⟩, fun x H' y => ?_⟩
      obtain ⟨Hb3, gr, hx⟩ := hJ.yld Hb2 H i x H' ds[i] sm S2.sub y (List.getElem?_eq_getElem hlt)
      have ed : ds.drop i = ds[i] :: ds.drop (i + 1) := List.drop_eq_getElem_cons hlt
      rw [ed] at P2
      unfold forL at P2
      have P3 := PostS.back ((gr.ste S2).toS S2) P2
      cases eg : g ds[i] ρ2 with
      | none => rw [eg] at P3; exact P3.elim
      | some ρ3 =>
        rw [eg] at P3
        simp only at P3
        refine ⟨Hb3, ρ2, ds[i], ρ3, S2.grow gr, hx, eg, fun σ2 s2 => ⟨Hb3, ρ3, s2.st, ?_⟩⟩
        have P4 := PostS.back s2 P3
        have sm3 : Same Hb1 Hb3 := sm.trans gr.gr
        cases eb : nb ρ3 with
        | stuck => rw [eb] at P4; exact P4
        | nx ρ4 => rw [eb] at P4; exact fun σ4 H4 Hb4 s4 => ⟨Hb4, ρ4, s4.st, sm3.trans s4.gr, PostS.back s4 P4⟩
        | ct ρ4 => rw [eb] at P4; exact fun σ4 H4 Hb4 s4 => ⟨Hb4, ρ4, s4.st, sm3.trans s4.gr, PostS.back s4 P4⟩
        | bk ρ4 => rw [eb] at P4; exact P4
        | rt r ρ4 => rw [eb] at P4; exact P4
        | er e ρ4 => rw [eb] at P4; exact P4
    · have e : i = ds.length := by omega
      subst e
      rw [List.drop_length] at P2
      exact .inl ⟨hJ.stop Hb2 H sm S2.sub, P2 σ H Hb2 (SteS.refl S2)⟩
end
end DL

namespace DL
open PySem L2 PyProof.Rows
/-! ### list comprehensions -/
def wipeR (ρ : Rho) : List Nat → Rho
  | [] => ρ
  | v :: vs => (wipeR ρ vs).set v .un
/-- the slots at vs as they were -/
def restoR (ρ0 ρ : Rho) : List Nat → Rho
  | [] => ρ
  | v :: vs => match ρ0[v]? with
    | some s => (restoR ρ0 ρ vs).set v s
    | none => restoR ρ0 ρ vs
theorem wipe_get {σ : L2.St} {i : Nat} : ∀ {vs : List Nat}, (wipe σ vs)[i]? = if i ∈ vs ∧ i < σ.length then some none else σ[i]?
  | [] => by simp [wipe]
  | v :: vs => by
    unfold wipe
    by_cases hv : v = i
    · subst hv
      by_cases hl : v < σ.length
      · rw [List.getElem?_set_self (by rw [wipe_length]; exact hl), if_pos ⟨List.mem_cons_self, hl⟩]
      · rw [List.getElem?_eq_none (by rw [List.length_set, wipe_length]; omega), if_neg (fun z => hl z.2), List.getElem?_eq_none (by omega)]
    · rw [List.getElem?_set_ne hv, wipe_get]
      by_cases hl : i < σ.length
      · by_cases hm : i ∈ vs
        · rw [if_pos ⟨hm, hl⟩, if_pos ⟨List.mem_cons_of_mem _ hm, hl⟩]
        · rw [if_neg (fun z => hm z.1), if_neg (fun z => (List.mem_cons.mp z.1).elim (fun e => hv e.symm) hm)]
      · rw [if_neg (fun z => hl z.2), if_neg (fun z => hl z.2)]
theorem wipeR_len {ρ : Rho} : ∀ {vs : List Nat}, (wipeR ρ vs).length = ρ.length
  | [] => rfl
  | v :: vs => by unfold wipeR; rw [List.length_set, wipeR_len]
theorem wipeR_get {ρ : Rho} {i : Nat} : ∀ {vs : List Nat}, (wipeR ρ vs)[i]? = if i ∈ vs ∧ i < ρ.length then some .un else ρ[i]?
  | [] => by simp [wipeR]
  | v :: vs => by
    unfold wipeR
    by_cases hv : v = i
    · subst hv
      by_cases hl : v < ρ.length
      · rw [List.getElem?_set_self (by rw [wipeR_len]; exact hl), if_pos ⟨List.mem_cons_self, hl⟩]
      · rw [List.getElem?_eq_none (by rw [List.length_set, wipeR_len]; omega), if_neg (fun z => hl z.2), List.getElem?_eq_none (by omega)]
    · rw [List.getElem?_set_ne hv, wipeR_get]
      by_cases hl : i < ρ.length
      · by_cases hm : i ∈ vs
        · rw [if_pos ⟨hm, hl⟩, if_pos ⟨List.mem_cons_of_mem _ hm, hl⟩]
        · rw [if_neg (fun z => hm z.1), if_neg (fun z => (List.mem_cons.mp z.1).elim (fun e => hv e.symm) hm)]
      · rw [if_neg (fun z => hl z.2), if_neg (fun z => hl z.2)]
theorem restoR_len {ρ0 ρ : Rho} : ∀ {vs : List Nat}, (restoR ρ0 ρ vs).length = ρ.length
  | [] => rfl
  | v :: vs => by
    unfold restoR
    split
    · rw [List.length_set, restoR_len]
    · exact restoR_len
theorem restoR_get {ρ0 ρ : Rho} {i : Nat} (hl : ρ0.length = ρ.length) : ∀ {vs : List Nat}, (restoR ρ0 ρ vs)[i]? = if i ∈ vs then ρ0[i]? else ρ[i]?
  | [] => by simp [restoR]
  | v :: vs => by
    unfold restoR
    have ih := restoR_get (i := i) hl (vs := vs)
    by_cases hv : v = i
    · subst hv
      rw [if_pos List.mem_cons_self]
      cases e : ρ0[v]? with
      | none =>
        simp only
        rw [ih]
        by_cases hm : v ∈ vs
        · rw [if_pos hm]; exact e
        · rw [if_neg hm]
          rw [List.getElem?_eq_none_iff] at e ⊢; omega
      | some s =>
        simp only
        rw [List.getElem?_set_self (by rw [restoR_len, ← hl]; exact (List.getElem?_eq_some_iff.mp e).1)]
    · have hm : (i ∈ v :: vs) ↔ i ∈ vs := ⟨fun z => (List.mem_cons.mp z).elim (fun e => absurd e.symm hv) id, List.mem_cons_of_mem _⟩
      rw [show (if i ∈ v :: vs then ρ0[i]? else ρ[i]?) = if i ∈ vs then ρ0[i]? else ρ[i]? by simp only [hm]]
      split
      · rw [List.getElem?_set_ne hv]; exact ih
      · exact ih
section
variable {K : PySem.W.Frag} {W : WX} {σ σ2 : L2.St} {H H1 H2 Hb Hb1 Hb2 : Hp} {ρ ρ1 ρ2 : Rho} {vs : List Nat}
theorem own_wipe {i : Nat} {b : Addr} (h : OwnAt (wipe σ vs) (wipeR ρ vs) i b) : i ∉ vs ∧ OwnAt σ ρ i b := by
  obtain ⟨e, io, xs, q⟩ := h
  rw [wipeR_get] at q
  rw [wipe_get] at e
  by_cases hc : i ∈ vs ∧ i < ρ.length
  · rw [if_pos hc] at q; cases q
  · rw [if_neg hc] at q
    by_cases hc2 : i ∈ vs ∧ i < σ.length
    · rw [if_pos hc2] at e; cases e
    · rw [if_neg hc2] at e
      refine ⟨fun z => hc2 ⟨z, (List.getElem?_eq_some_iff.mp e).1⟩, e, io, xs, q⟩
theorem own_wipe' {i : Nat} {b : Addr} (hi : i ∉ vs) (h : OwnAt σ ρ i b) : OwnAt (wipe σ vs) (wipeR ρ vs) i b := by
  obtain ⟨e, io, xs, q⟩ := h
  exact ⟨by rw [wipe_get, if_neg (fun z => hi z.1)]; exact e, io, xs, by rw [wipeR_get, if_neg (fun z => hi z.1)]; exact q⟩
theorem StR.wiped (S : StR K Hb σ ρ H) : StR K Hb (wipe σ vs) (wipeR ρ vs) H := by
  refine ⟨S.sub, by rw [wipe_length, wipeR_len]; exact S.len, fun i s e => ?_, fun i j b hi hj => S.dis i j b (own_wipe hi).2 (own_wipe hj).2⟩
  rw [wipeR_get] at e
  by_cases hc : i ∈ vs ∧ i < ρ.length
  · rw [if_pos hc] at e; cases e
    exact ⟨none, by rw [wipe_get, if_pos ⟨hc.1, by rw [S.len]; exact hc.2⟩], trivial⟩
  · rw [if_neg hc] at e
    have hi : i < ρ.length := (List.getElem?_eq_some_iff.mp e).1
    obtain ⟨o, e1, e2⟩ := S.sl i s e
    exact ⟨o, by rw [wipe_get, if_neg (fun z => hc ⟨z.1, hi⟩)]; exact e1, e2⟩
theorem wipe_idem : wipe (wipe σ vs) vs = wipe σ vs := by
  apply List.ext_getElem?
  intro i
  rw [wipe_get, wipe_get, wipe_length]
  split <;> rfl
/-- what is at a new address, unknown to the base, may change -/
theorem StR.updD {p : Addr} {o : HO} (S : StR K Hb σ ρ H) (hb : Hb p = none) (no : ¬ Own σ ρ p) : StR K Hb σ ρ (upd H p o) := by
  refine ⟨fun b u e => ?_, S.len, fun i s e => ?_, S.dis⟩
  · rw [upd_ne (fun z => by subst z; rw [hb] at e; cases e)]; exact S.sub b u e
  · obtain ⟨q, e1, e2⟩ := S.sl i s e
    refine ⟨q, e1, ?_⟩
    cases s with
    | un => trivial
    | va d => exact e2
    | ow io xs =>
      obtain ⟨r, ws, e3, e4, e5, e6⟩ := e2
      subst e3
      exact ⟨r, ws, rfl, by rw [upd_ne (fun z => no (by subst z; exact ⟨i, e1, io, xs, e⟩))]; exact e4, e5, e6⟩
/-- one turn in the block -/
theorem comp_turn {σw : L2.St} {wR ρ3 ρ6 : Rho} {Hb3 Hb6 H3 H5 : Hp} {p : Addr} {o : HO} (A : Ste K σw Hb1 wR H1 Hb2 ρ2 H2) (gr : Gro Hb2 H2 Hb3 H3) (C : SteS K Hb3 σw ρ2 H3 Hb3 σ2 ρ3 H3) (D : Ste K σ2 Hb3 ρ3 H3 Hb6 ρ6 H5)
    (hw : wipe σ2 vs = σw) (hwR : ∀ (i : Nat) xs, wR[i]? = some (Sl.ow true xs) → i ∉ vs) (p1 : H1 p = none) (p2 : Hb6 p = none) (p3 : ¬ Own σ2 ρ6 p) :
    Ste K σw Hb1 wR H1 Hb6 (wipeR ρ6 vs) (upd H5 p o) := by
  have B := gr.ste A.st
  have AB := A.trans B
  have noC : ∀ b, Own σ2 ρ3 b → Own σw ρ2 b := fun b h => by
    rcases C.ow b h with z | z
    · exact z
    · obtain ⟨us, h1, _⟩ := C.st.ownH h
      rw [z] at h1; cases h1
  refine ⟨fun b u e n => ?_, fun b e => ?_, (AB.gr.trans C.gr).trans D.gr, fun b u e n q => ?_, fun b h => ?_, fun i xs e => ?_, ?_⟩
  · have h3 := AB.fr b u e n
    have n3 : ¬ Own σ2 ρ3 b := fun z => n (AB.ow b (noC b z))
    rw [upd_ne (fun z => by subst z; rw [p1] at e; cases e)]
    exact D.fr b u h3 n3
  · have : b ≠ p := fun z => by subst z; rw [upd_same] at e; cases e
    rw [upd_ne this] at e
    exact AB.th b (D.th b e)
  · have h3 := AB.fr b u e q
    have n3 : ¬ Own σ2 ρ3 b := fun z => q (AB.ow b (noC b z))
    exact D.gn b u h3 (AB.gn b u e n q) n3
  · obtain ⟨i, h⟩ := h
    rw [← hw] at h
    exact AB.ow b (noC b (D.ow b ⟨i, (own_wipe h).2⟩))
  · have hi := hwR i xs e
    obtain ⟨ys, e1⟩ := AB.io i xs e
    obtain ⟨_, zs, e2⟩ := C.io i ys e1
    obtain ⟨us, e3⟩ := D.io i zs e2
    exact ⟨us, by rw [wipeR_get, if_neg (fun z => hi z.1)]; exact e3⟩
  · have S1 : StR K Hb6 (wipe σ2 vs) (wipeR ρ6 vs) H5 := D.st.wiped
    rw [hw] at S1
    refine S1.updD p2 fun ⟨i, h⟩ => p3 ?_
    rw [← hw] at h
    exact ⟨i, (own_wipe h).2⟩
/-- behind the block -/
theorem comp_end {Hb2 : Hp} (S : StR K Hb1 σ ρ1 H1) (A : Ste K (wipe σ vs) Hb1 (wipeR ρ1 vs) H1 Hb2 ρ2 H2) : Ste K σ Hb1 ρ1 H1 Hb2 (restoR ρ1 ρ2 vs) H2 := by
  have hl : ρ1.length = ρ2.length := by have h1 := A.st.len; have h2 := S.len; rw [wipe_length] at h1; omega
  have n1 : ∀ b, ¬ Own σ ρ1 b → ¬ Own (wipe σ vs) (wipeR ρ1 vs) b := fun b n ⟨i, h⟩ => n ⟨i, (own_wipe h).2⟩
  have sg : ∀ i, i ∉ vs → (wipe σ vs)[i]? = σ[i]? := fun i hi => by rw [wipe_get, if_neg (fun z => hi z.1)]
  have own : ∀ {i b}, OwnAt σ (restoR ρ1 ρ2 vs) i b → (i ∈ vs ∧ OwnAt σ ρ1 i b) ∨ (i ∉ vs ∧ OwnAt (wipe σ vs) ρ2 i b) := fun {i b} h => by
    obtain ⟨e, io, xs, q⟩ := h
    rw [restoR_get hl] at q
    by_cases hi : i ∈ vs
    · rw [if_pos hi] at q; exact .inl ⟨hi, e, io, xs, q⟩
    · rw [if_neg hi] at q; exact .inr ⟨hi, by rw [sg i hi]; exact e, io, xs, q⟩
  have back : ∀ {j b}, OwnAt (wipe σ vs) ρ2 j b → ∃ k, k ∉ vs ∧ OwnAt σ ρ1 k b := fun {j b} h => by
    obtain ⟨k, hk⟩ := A.ow b ⟨j, h⟩
    exact ⟨k, (own_wipe hk).1, (own_wipe hk).2⟩
  refine ⟨fun b u e n => A.fr b u e (n1 b n), A.th, A.gr, fun b u e n q => A.gn b u e n (n1 b q), fun b ⟨i, h⟩ => ?_, fun i xs e => ?_, ⟨A.st.sub, by rw [restoR_len, ← hl]; exact S.len, fun i s e => ?_, fun i j b hi hj => ?_⟩⟩
  · rcases own h with ⟨_, h⟩ | ⟨_, h⟩
    · exact ⟨i, h⟩
    · obtain ⟨k, _, h2⟩ := back h
      exact ⟨k, h2⟩
  · rw [restoR_get hl]
    by_cases hi : i ∈ vs
    · rw [if_pos hi]; exact ⟨xs, e⟩
    · rw [if_neg hi]
      exact A.io i xs (by rw [wipeR_get, if_neg (fun z => hi z.1)]; exact e)
  · rw [restoR_get hl] at e
    by_cases hi : i ∈ vs
    · rw [if_pos hi] at e
      obtain ⟨o, e1, e2⟩ := S.sl i s e
      refine ⟨o, e1, ?_⟩
      cases s with
      | un => trivial
      | va d =>
        obtain ⟨v, e3, e4⟩ := e2
        exact ⟨v, e3, Is.mono A.gr _ _ e4⟩
      | ow io xs =>
        obtain ⟨q, us, e3, e4, e5, e6⟩ := e2
        subst e3
        have nq : ¬ Own (wipe σ vs) (wipeR ρ1 vs) q := fun ⟨j, hj⟩ => by
          obtain ⟨hj1, hj2⟩ := own_wipe hj
          have := S.dis i j q ⟨e1, io, xs, e⟩ hj2
          exact hj1 (this ▸ hi)
        exact ⟨q, us, rfl, A.fr q _ e4 nq, IsA.mono A.gr _ _ e5, A.gn q _ e4 e6 nq⟩
    · rw [if_neg hi] at e
      obtain ⟨o, e1, e2⟩ := A.st.sl i s e
      exact ⟨o, by rw [← sg i hi]; exact e1, e2⟩
  · rcases own hi with ⟨i1, oi⟩ | ⟨i1, oi⟩
    · rcases own hj with ⟨j1, oj⟩ | ⟨j1, oj⟩
      · exact S.dis i j b oi oj
      · obtain ⟨k, k1, ok⟩ := back oj
        have := S.dis i k b oi ok
        exact absurd i1 (this ▸ k1)
    · rcases own hj with ⟨j1, oj⟩ | ⟨j1, oj⟩
      · obtain ⟨k, k1, ok⟩ := back oi
        have := S.dis j k b oj ok
        exact absurd j1 (this ▸ k1)
      · exact A.st.dis i j b oi oj
end
/-- a comprehension's target: its slots are the block's own -/
def TGd (K : PySem.W.Frag) (vs : List Nat) (tg : TG) (g : DL.D → Rho → Option Rho) : Prop := ∀ (v : V) (σ : L2.St) (H : Hp) (Q : L2.St → Hp → Prop) (Hb : Hp) (ρ : Rho) (d : DL.D) (ρ' : Rho), StR K Hb σ ρ H → Is K Hb d v → g d ρ = some ρ' →
  (∀ σ2, wipe σ2 vs = wipe σ vs → SteS K Hb σ ρ H Hb σ2 ρ' H → Q σ2 H) → tg v σ H Q
theorem wipe_set {σ : L2.St} {vs : List Nat} {i : Nat} {o : Option V} (hi : i ∈ vs) : wipe (σ.set i o) vs = wipe σ vs := by
  apply List.ext_getElem?
  intro j
  rw [wipe_get, wipe_get, List.length_set]
  by_cases hj : j ∈ vs ∧ j < σ.length
  · rw [if_pos hj, if_pos hj]
  · rw [if_neg hj, if_neg hj]
    by_cases hij : i = j
    · subst hij
      have : ¬ i < σ.length := fun z => hj ⟨hi, z⟩
      rw [List.getElem?_eq_none (by rw [List.length_set]; omega), List.getElem?_eq_none (by omega)]
    · rw [List.getElem?_set_ne hij]
theorem tgd_name {K : PySem.W.Frag} {vs : List Nat} {i : Nat} (hi : i ∈ vs) : TGd K vs (gName i) (gN i) := by
  intro v σ H Q Hb ρ d ρ' S hv e q
  unfold gN at e
  by_cases hc : i < ρ.length ∧ isIo ρ[i]? = false
  · rw [if_pos hc] at e; cases e
    exact q _ (wipe_set hi) (SteS.storeV S (Ste.refl S) hc.1 (nio_of hc.2) hv)
  · rw [if_neg hc] at e; cases e
theorem setVs_w {K : PySem.W.Frag} {H : Hp} {Q : L2.St → Hp → Prop} {us : List Nat} : ∀ {is : List Nat} {ds : List DL.D} {vs : List V} {ρ ρ2 : Rho} {σ : L2.St} {Hb : Hp}, (∀ i ∈ is, i ∈ us) → StR K Hb σ ρ H → IsA K Hb ds vs → setVs is ds ρ = some ρ2 → (∀ σ2, wipe σ2 us = wipe σ us → SteS K Hb σ ρ H Hb σ2 ρ2 H → Q σ2 H) → gNs is vs σ H Q
  | [], [], vs, ρ, ρ2, σ, Hb, _, S, i, e, q => by
    simp only [IsA] at i; subst i; cases e
    exact ⟨rfl, q σ rfl (SteS.refl S)⟩
  | i :: is, d :: ds, vs, ρ, ρ2, σ, Hb, hu, S, h, e, q => by
    simp only [IsA] at h
    obtain ⟨v, r, rfl, h1, h2⟩ := h
    unfold setVs at e
    by_cases hc : i < ρ.length ∧ isIo ρ[i]? = false
    · rw [if_pos hc] at e
      have s := SteS.storeV S (Ste.refl S) hc.1 (nio_of hc.2) h1
      exact ⟨v, r, rfl, setVs_w (fun j hj => hu j (List.mem_cons_of_mem _ hj)) s.st h2 e fun σ2 w s2 => q σ2 (w.trans (wipe_set (hu i List.mem_cons_self))) (s.trans s2)⟩
    · rw [if_neg hc] at e; cases e
  | [], d :: ds, vs, ρ, ρ2, σ, Hb, _, S, i, e, q => by cases e
  | i :: is, [], vs, ρ, ρ2, σ, Hb, _, S, _, e, q => by cases e
theorem tgd_tup {K : PySem.W.Frag} {vs is : List Nat} (hi : ∀ i ∈ is, i ∈ vs) : TGd K vs (gTup K is.length (gNs is)) (gT is) := by
  intro v σ H Q Hb ρ d ρ' S hv e q
  unfold gT at e
  cases d with
  | tup ds =>
    simp only [Is] at hv
    obtain ⟨a, us, rfl, h1, i1⟩ := hv
    exact ⟨a, us, rfl, Same.tup S.sub h1, by rw [i1.length, setVs_len e], setVs_w hi S i1 e q⟩
  | _ => cases e
def mTrue : M Bool := fun ρ => .ok true ρ
/-- the turns -/
def compL (g : DL.D → Rho → Option Rho) (vs : List Nat) (mt : M Bool) (me : M Rs) : List DL.D → List DL.D → Rho → Option (List DL.D × Rho)
  | [], acc, ρ => some (acc, ρ)
  | d :: ds, acc, ρ => match g d ρ with
    | none => none
    | some ρ1 => (match mt ρ1 with
      | .ok true ρ2 => (match me ρ2 with
        | .ok r ρ3 => (match keepR ρ3 r with
          | some (x, ρ4) => if acc.length < 100000 then compL g vs mt me ds (acc ++ [x]) (wipeR ρ4 vs) else none
          | none => none)
        | _ => none)
      | .ok false ρ2 => compL g vs mt me ds acc (wipeR ρ2 vs)
      | _ => none)
def mComp (m : M (List DL.D)) (g : DL.D → Rho → Option Rho) (vs : List Nat) (mt : M Bool) (me : M Rs) : M Rs := fun ρ => bnd (m ρ) fun ds ρ1 => match compL g vs mt me ds [] (wipeR ρ1 vs) with
  | some (acc, ρ2) => .ok (.fr acc) (restoR ρ1 ρ2 vs)
  | none => .stuck
abbrev W0 : WX := fun _ _ _ _ => False
section
variable {X : Cx} {K : PySem.W.Frag} {W : WX}
theorem tLc_ok {m : M (List DL.D)} {tg : TG} {g : DL.D → Rho → Option Rho} {vs : List Nat} {mt : M Bool} {me : M Rs} {σ : L2.St} {H : Hp} {Q : VK} (hg : TGd K vs tg g) (h : tM K W (mComp m g vs mt me) σ H Q) : tLc (tI K W m) tg (tT K W0 mt) (tM K W0 me) vs σ H Q := by
  obtain ⟨Hb, ρ, S, P⟩ := h
  refine ⟨Hb, ρ, S, ?_⟩
  unfold mComp at P
  cases em : m ρ with
  | stuck => rw [em] at P; exact P
  | er e ρ1 => rw [em] at P; exact P
  | ok ds ρ1 =>
    rw [em] at P
    intro J H1 Hb1 s1 hJ D hD
    simp only [bnd] at P
    cases et : compL g vs mt me ds [] (wipeR ρ1 vs) with
    | none => rw [et] at P; exact P.elim
    | some tot =>
      obtain ⟨accT, ρT⟩ := tot
      rw [et] at P
      have S1 := s1.st
      have Sw : StR K Hb1 (wipe σ vs) (wipeR ρ1 vs) H1 := S1.wiped
      have hb1D : Hb1 D = none := Same.none S1.sub hD
      have hwR : ∀ (i : Nat) xs, (wipeR ρ1 vs)[i]? = some (Sl.ow true xs) → i ∉ vs := fun i xs e hi => by
        rw [wipeR_get] at e
        by_cases hc : i ∈ vs ∧ i < ρ1.length
        · rw [if_pos hc] at e; cases e
        · rw [if_neg hc] at e; exact hc ⟨hi, (List.getElem?_eq_some_iff.mp e).1⟩
      have start : Ste K (wipe σ vs) Hb1 (wipeR ρ1 vs) H1 Hb1 (wipeR ρ1 vs) (upd H1 D (.lst [])) := by
        refine ⟨fun b u e _ => Same.new hD b u e, fun b e => ?_, Same.refl _, fun _ _ _ n _ => n, fun _ h => h, fun _ xs e => ⟨xs, e⟩, Sw.updD hb1D fun z => own_there Sw D z hD⟩
        have : b ≠ D := fun z => by subst z; rw [upd_same] at e; cases e
        rw [upd_ne this] at e; exact e
      refine ⟨fun i m H => m = ds.length - i ∧ i ≤ ds.length ∧ ∃ Hb2 ρ2 acc vacc, Ste K (wipe σ vs) Hb1 (wipeR ρ1 vs) H1 Hb2 ρ2 H ∧ H D = some (.lst vacc) ∧ IsA K Hb2 acc vacc ∧ Hb2 D = none ∧ compL g vs mt me (ds.drop i) acc ρ2 = some (accT, ρT),
        ⟨ds.length, by simp, Nat.zero_le _, Hb1, wipeR ρ1 vs, [], [], start, upd_same, IsA.nil, hb1D, et⟩, ?_⟩
      rintro i m H2 ⟨rfl, hi, Hb2, ρ2, acc, vacc, A, d1, d2, d3, ec⟩
      by_cases hlt : i < ds.length
      · refine .inr ⟨hJ.go Hb2 H2 i A.gr A.st.sub hlt, fun H' => ∃ Hb2 ρ2 acc vacc, Ste K (wipe σ vs) Hb1 (wipeR ρ1 vs) H1 Hb2 ρ2 H' ∧ H' D = some (.lst vacc) ∧ IsA K Hb2 acc vacc ∧ Hb2 D = none ∧ compL g vs mt me (ds.drop (i + 1)) acc ρ2 = some (accT, ρT),
          fun H' h => ⟨ds.length - (i + 1), by omega, rfl, hlt, h⟩, fun x H' y => ?_⟩
        obtain ⟨Hb3, gr, hx⟩ := hJ.yld Hb2 H2 i x H' ds[i] A.gr A.st.sub y (List.getElem?_eq_getElem hlt)
        have ed : ds.drop i = ds[i] :: ds.drop (i + 1) := List.drop_eq_getElem_cons hlt
        rw [ed] at ec
        unfold compL at ec
        cases eg : g ds[i] ρ2 with
        | none => rw [eg] at ec; cases ec
        | some ρ3 =>
          rw [eg] at ec
          simp only at ec
          have d1' := gr.fr D _ d1
          have d3' := gr.gn D _ d1 d3
          have nD2 : ¬ Own (wipe σ vs) ρ2 D := fun z => own_there Sw D (A.ow D z) hD
          refine hg x (wipe σ vs) H' _ Hb3 ρ2 ds[i] ρ3 (A.st.grow gr) hx eg fun σ2 w s2 => ⟨w.trans wipe_idem, ?_⟩
          have nD3 : ¬ Own σ2 ρ3 D := fun z => by
            rcases s2.ow D z with q | q
            · exact nD2 q
            · rw [d1'] at q; cases q
          have hw : wipe σ2 vs = wipe σ vs := w.trans wipe_idem
          refine ⟨Hb3, ρ3, s2.st, ?_⟩
          cases emt : mt ρ3 with
          | stuck => rw [emt] at ec; cases ec
          | er e ρ4 => rw [emt] at ec; cases ec
          | ok b ρ4 =>
            rw [emt] at ec
            intro H4 Hb4 s4
            have nD4 : ¬ Own σ2 ρ4 D := fun z => nD3 (s4.ow D z)
            have d1'' := s4.fr D _ d1' nD3
            have d3'' := s4.gn D _ d1' d3' nD3
            cases b with
            | false =>
              simp only at ec
              refine iteF ⟨Hb4, wipeR ρ4 vs, acc, vacc, ?_, d1'', IsA.mono s4.gr _ _ (IsA.mono gr.gr _ _ d2), d3'', ec⟩
              have T := comp_turn (o := .lst vacc) A gr s2 s4 hw hwR hD d3'' nD4
              have eH : upd H4 D (.lst vacc) = H4 := by
                funext b
                by_cases hb : b = D
                · subst hb; rw [upd_same]; exact d1''.symm
                · rw [upd_ne hb]
              rw [eH] at T
              exact T
            | true =>
              simp only at ec
              refine iteT ⟨Hb4, ρ4, s4.st, ?_⟩
              cases eme : me ρ4 with
              | stuck => rw [eme] at ec; cases ec
              | er e ρ5 => rw [eme] at ec; cases ec
              | ok r ρ5 =>
                rw [eme] at ec
                intro v H5 Hb5 s5 r5
                simp only at ec
                cases ek : keepR ρ5 r with
                | none => rw [ek] at ec; cases ec
                | some q =>
                  obtain ⟨xd, ρ6⟩ := q
                  rw [ek] at ec
                  simp only at ec
                  by_cases hz : acc.length < 100000
                  · rw [if_pos hz] at ec
                    obtain ⟨Hb6, s6, i6⟩ := keepR_ok s4.st s5 r5 ek
                    have nD6 : ¬ Own σ2 ρ6 D := fun z => nD4 (s6.ow D z)
                    have e1 := s6.fr D _ d1'' nD4
                    have e3 := s6.gn D _ d1'' d3'' nD4
                    refine ⟨vacc, e1, by rw [d2.length]; exact size_lt hz, Hb6, wipeR ρ6 vs, acc ++ [xd], vacc ++ [v], comp_turn A gr s2 (s4.trans s6) hw hwR hD e3 nD6, upd_same, ?_, e3, ec⟩
                    exact (IsA.mono s6.gr _ _ (IsA.mono s4.gr _ _ (IsA.mono gr.gr _ _ d2))).append (IsA.cons i6 IsA.nil)
                  · rw [if_neg hz] at ec; cases ec
      · have e : i = ds.length := by omega
        subst e
        rw [List.drop_length] at ec
        cases ec
        refine .inl ⟨hJ.stop Hb2 H2 A.gr A.st.sub, P (.ref D) H2 Hb2 (s1.trans (comp_end S1 A)) ⟨D, vacc, rfl, s1.th D hD, d3, d1, d2⟩⟩
theorem dts_nil : PTs X [] (tT K W0 mTrue) := ⟨fun pins s σ H Q I h => by
  obtain ⟨Hb, ρ, S, P⟩ := h
  exact pts_nil.run pins s σ H Q I (P H Hb (Ste.refl S))⟩
theorem dts_one {c : Expr} {mt : M Bool} (h : PT X c (tT K W0 mt)) : PTs X [c] (tT K W0 mt) := pts_one h
theorem dm_lc {elt tgt iter : Expr} {ifs : List Expr} {scope : Scope} {own : List (Str × Nat)} {pos : Pos} {m : M (List DL.D)} {tg : TG} {g : DL.D → Rho → Option Rho} {mt : M Bool} {me : M Rs} (hc : X.calm = true) (hN : X.N.Nodup) (hi : PI X tgt iter (tI K W m)) (ok : BlkOk X.N X.env.scope scope own) (hgd : TGd K (own.map (·.2)) tg g)
    (hg : ∀ (s : Shared) (H : Hp) (C : Addr) (cl : List (Str × Addr)) (fp : List Addr), PG (X.blk s H scope (compEnvC scope cl C X.env) fp) tgt tg) (ht : ∀ (s : Shared) (H : Hp) (C : Addr) (cl : List (Str × Addr)) (fp : List Addr), PTs (X.blk s H scope (compEnvC scope cl C X.env) fp) ifs (tT K W0 mt))
    (he : ∀ (s : Shared) (H : Hp) (C : Addr) (cl : List (Str × Addr)) (fp : List Addr), PE (X.blk s H scope (compEnvC scope cl C X.env) fp) elt (tM K W0 me)) (hs : ∀ x, foldedSetIterable iter X.env x = pure x := by intro _; rfl) :
    PE X (.ListComp elt [⟨tgt, iter, ifs, 0⟩] scope pos) (tM K W (mComp m g (own.map (·.2)) mt me)) := PE.imp (pe_lc hc hN hi ok hg ht he hs) fun _ _ _ => tLc_ok hgd
theorem dn_setLc {i : Nat} {y : Str} {py : Pos} {elt tgt iter : Expr} {ifs : List Expr} {scope : Scope} {own : List (Str × Nat)} {pos spos : Pos} {m : M (List DL.D)} {tg : TG} {g : DL.D → Rho → Option Rho} {mt : M Bool} {me : M Rs} (hc : X.calm = true) (hN : X.N.Nodup) (hy : X.N[i]? = some y) (hyl : X.env.scope.names.lookup y = some .local)
    (hsw : swapsWith (.ListComp elt [⟨tgt, iter, ifs, 0⟩] scope pos) (some (.Name y py)) spos.line X.env = pure true) (hi : PI X tgt iter (tI K W m)) (ok : BlkOk X.N X.env.scope scope own) (hgd : TGd K (own.map (·.2)) tg g)
    (hg : ∀ (s : Shared) (H : Hp) (C : Addr) (cl : List (Str × Addr)) (fp : List Addr), PG (X.blk s H scope (compEnvC scope cl C X.env) fp) tgt tg) (ht : ∀ (s : Shared) (H : Hp) (C : Addr) (cl : List (Str × Addr)) (fp : List Addr), PTs (X.blk s H scope (compEnvC scope cl C X.env) fp) ifs (tT K W0 mt))
    (he : ∀ (s : Shared) (H : Hp) (C : Addr) (cl : List (Str × Addr)) (fp : List Addr), PE (X.blk s H scope (compEnvC scope cl C X.env) fp) elt (tM K W0 me)) (hs : ∀ x, foldedSetIterable iter X.env x = pure x := by intro _; rfl) :
    PS X (.Assign [.Name y py] (.ListComp elt [⟨tgt, iter, ifs, 0⟩] scope pos) spos) (tN K W (nSet i (mComp m g (own.map (·.2)) mt me))) := by
  refine PS.imp (ps_setLc hc hN hy hyl hsw hi ok hg ht he hs) fun D σ H h => ?_
  obtain ⟨Hb, ρ, S, P⟩ := h
  refine tLc_ok (W := W) hgd ⟨Hb, ρ, S, ?_⟩
  unfold nSet at P
  cases ea : mComp m g (own.map (·.2)) mt me ρ with
  | stuck => rw [ea] at P; exact P
  | er e ρ1 => rw [ea] at P; exact fun d H1 Hb1 s1 ex => P d σ H1 Hb1 (s1.toS S) ex
  | ok r ρ1 => rw [ea] at P; exact fun v H1 Hb1 s1 r1 => set_ok S s1 r1 P
end
end DL

namespace DL
open PySem L2 PyProof.Rows
/-! ### zip, enumerate over lists and tuples -/
def SqX (t : Bool) (K : PySem.W.Frag) (H : Hp) (a : Addr) (xs : List V) : Prop := match t with
  | true => SqT K H a xs
  | false => SqL K H a xs
def SrcIt (t : Bool) (h : Heap) (it a : Addr) (i : Nat) : Prop := match t with
  | true => h.IsTupleIter it a i
  | false => h.IsListIter it a i
def SrcOb (t : Bool) (h : Heap) (a : Addr) (items : Array Value) : Prop := match t with
  | true => h.IsTuple a items
  | false => h.IsList a items
def srcO (t : Bool) (a : Addr) : Obj := match t with
  | true => { cls := .type "tuple_iterator", data := .fields #[.ref a, .int 0 0] }
  | false => { cls := .type "list_iterator", data := .fields #[.ref a, .int 0 0] }
theorem SrcOb.lt {t : Bool} {h : Heap} {a : Addr} {items : Array Value} (s : SrcOb t h a items) : a < h.objs.size := by
  cases t with
  | true => exact IsTup.lt (show IsTup h a items from s)
  | false =>
    obtain ⟨o, e, _⟩ := (show h.IsList a items from s)
    exact Heap.lt_size e
theorem src_draws {prog : Program} {w : World} {A : Around} (hh : A.handled = none) (t : Bool) (it a : Addr) (hne : a ≠ it) (items : Array Value) : Draws prog w A it [it, a] items.size (fun i v => items[i]? = some v) (fun i h => SrcIt t h it a i ∧ SrcOb t h a items) := by
  cases t with
  | true => exact Draws.tuple hh it a hne items
  | false => exact Draws.list hh it a hne items
theorem src_begins (t : Bool) (a : Addr) (items : Array Value) : Begins (.ref a) (srcO t a) (fun h => SrcOb t h a items) := by
  cases t with
  | true => exact begins_tuple a items
  | false => exact begins_list a items
theorem src_it0 {t : Bool} {h : Heap} {it a : Addr} (e : h.get? it = some (srcO t a)) : SrcIt t h it a 0 := by
  cases t with
  | true => exact ⟨_, e, rfl, rfl⟩
  | false => exact ⟨_, e, rfl, rfl⟩
theorem srcIt_obj {t : Bool} {h : Heap} {it a : Addr} {i : Nat} (s : SrcIt t h it a i) : ∃ o, h.get? it = some o ∧ ∀ v, o.data ≠ .cell v := by
  cases t with
  | true =>
    obtain ⟨o, e, c, d⟩ := (show h.IsTupleIter it a i from s)
    exact ⟨o, e, fun v z => by rw [d] at z; cases z⟩
  | false =>
    obtain ⟨o, e, c, d⟩ := (show h.IsListIter it a i from s)
    exact ⟨o, e, fun v z => by rw [d] at z; cases z⟩
theorem srcIt_at {t : Bool} {h h' : Heap} {it a : Addr} {i : Nat} (s : SrcIt t h it a i) (k : ∀ o, h.get? it = some o → h'.get? it = some o) : SrcIt t h' it a i := by
  cases t with
  | true => exact (show h.IsTupleIter it a i from s).at k
  | false => exact (show h.IsListIter it a i from s).at k
section
variable {X : Cx} {pins : List (Addr × Obj)} {σ : L2.St} {H : Hp} {s : Shared}
theorem inv_src {t : Bool} {a : Addr} {xs : List V} (I : Inv X pins σ H s) (h : SqX t X.K H a xs) : ∃ its : List Value, Vals xs its ∧ SrcOb t s.heap a its.toArray := by
  cases t with
  | true =>
    obtain ⟨its, r, p, _⟩ := I.tuple h
    exact ⟨its, r, p⟩
  | false =>
    obtain ⟨its, r, p, _⟩ := I.list h
    exact ⟨its, r, p.isList⟩
end
def ItZ2 (K : PySem.W.Frag) (t1 t2 : Bool) (a b : Addr) (xs ys : List V) : It :=
  ⟨fun i H => (SqX t1 K H a xs ∧ SqX t2 K H b ys) ∧ i < min xs.length ys.length,
   fun i H x H' => ∃ T u v, x = .ref T ∧ H T = none ∧ H' = upd H T (.tup [u, v]) ∧ xs[i]? = some u ∧ ys[i]? = some v,
   fun i H => (SqX t1 K H a xs ∧ SqX t2 K H b ys) ∧ i = min xs.length ys.length⟩
def ItZ3 (K : PySem.W.Frag) (t1 t2 t3 : Bool) (a b c : Addr) (xs ys zs : List V) : It :=
  ⟨fun i H => (SqX t1 K H a xs ∧ SqX t2 K H b ys ∧ SqX t3 K H c zs) ∧ i < min (min xs.length ys.length) zs.length,
   fun i H x H' => ∃ T u v w, x = .ref T ∧ H T = none ∧ H' = upd H T (.tup [u, v, w]) ∧ xs[i]? = some u ∧ ys[i]? = some v ∧ zs[i]? = some w,
   fun i H => (SqX t1 K H a xs ∧ SqX t2 K H b ys ∧ SqX t3 K H c zs) ∧ i = min (min xs.length ys.length) zs.length⟩
def ItE (K : PySem.W.Frag) (t : Bool) (a : Addr) (xs : List V) : It :=
  ⟨fun i H => SqX t K H a xs ∧ i < xs.length,
   fun i H x H' => ∃ T u, x = .ref T ∧ H T = none ∧ H' = upd H T (.tup [.int (i : Int), u]) ∧ xs[i]? = some u,
   fun i H => SqX t K H a xs ∧ i = xs.length⟩
theorem vals_at {xs : List V} {its : List Value} {i : Nat} {u : Value} (r : Vals xs its) (e : its.toArray[i]? = some u) : ∃ x, xs[i]? = some x ∧ RelV x u := by
  have e' : its[i]? = some u := by simpa using e
  cases q : xs[i]? with
  | none =>
    have := r.none_of q
    rw [e'] at this; cases this
  | some x =>
    obtain ⟨w, h1, h2⟩ := r.get q
    rw [e'] at h1; cases h1
    exact ⟨x, rfl, h2⟩
theorem turn_z2 {P : Program} {w : World} {K : PySem.W.Frag} {elts : List Expr} {kk : Nat} {tpos : Pos} {t1 t2 : Bool} {a b z TI TO i1 i2 : Addr} {xs ys : List V} (S : ZipSep2 z TI TO i1 i2 [i1, a] [i2, b]) (hne : a ≠ i1 ∧ b ≠ i2) :
    Turn P w K (.Tuple elts kk tpos) (ItZ2 K t1 t2 a b xs ys) [z, TI, TO, i1, i2] z (fun i h => IsZip h z TI TO .none ∧ IsTupOf2 h TI (.ref i1) (.ref i2) ∧ (∃ a1 a2, IsTupOf2 h TO a1 a2) ∧ SrcIt t1 h i1 a i ∧ SrcIt t2 h i2 b i) where
  mem := by simp
  obj := fun i h st c hc => by
    obtain ⟨hz, hTI, ⟨x1, x2, hTO⟩, h1, h2⟩ := st
    have e' : c = z ∨ c = TI ∨ c = TO ∨ c = i1 ∨ c = i2 := by simpa using hc
    rcases e' with q | q | q | q | q
    · rw [q]; exact ⟨_, hz, fun v q => nomatch q⟩
    · rw [q]; exact ⟨_, hTI, fun v q => nomatch q⟩
    · rw [q]; exact ⟨_, hTO, fun v q => nomatch q⟩
    · rw [q]; exact srcIt_obj h1
    · rw [q]; exact srcIt_obj h2
  keep := fun i h h' st k => by
    obtain ⟨hz, hTI, ⟨x1, x2, hTO⟩, h1, h2⟩ := st
    exact ⟨k z (by simp) _ hz, k TI (by simp) _ hTI, ⟨x1, x2, k TO (by simp) _ hTO⟩, srcIt_at h1 fun o q => k i1 (by simp) o q, srcIt_at h2 fun o q => k i2 (by simp) o q⟩
  item := by
    intro X hP hw hK hc i pins s σ H E I hf st hg
    subst hP hw hK
    obtain ⟨⟨hq1, hq2⟩, hlt⟩ := hg
    obtain ⟨its1, rv1, p1⟩ := inv_src I hq1
    have l1 := rv1.length
    obtain ⟨its2, rv2, p2⟩ := inv_src I hq2
    have l2 := rv2.length
    have hh : X.A.in1.handled = none := by exact I.ok.hd hc
    have Wk := WalksT.zipD2 S (src_draws (prog := X.prog) (w := X.w) hh t1 i1 a hne.1 its1.toArray) (src_draws (prog := X.prog) (w := X.w) hh t2 i2 b hne.2 its2.toArray)
    obtain ⟨hz, hTI, hTO, h1, h2⟩ := st
    refine Wk.item i s _ E (by simp only [List.size_toArray]; omega) ⟨hz, hTI, hTO, ⟨h1, p1⟩, ⟨h2, p2⟩⟩ fun T vals h' tk hP hnew hT hm hk => ?_
    refine ⟨.ref T, rfl, Wk.go elts kk tpos i T { s with heap := h', toks := tk } _ E hm fun h'' st' hk' => ?_⟩
    obtain ⟨u1, u2, hu1, hu2, rfl⟩ := hP
    obtain ⟨y1, ey1, ry1⟩ := vals_at rv1 hu1
    obtain ⟨y2, ey2, ry2⟩ := vals_at rv2 hu2
    have hT2 : h''.IsTuple T #[u1, u2] := hT.at fun o e => hk' T o (Wk.apart i T h' hm) e
    have new : ObjOk X.prog X.w (upd H T (.tup [y1, y2])) h'' T (.tup [y1, y2]) := ⟨by show 2 ≤ sizeLine; decide, [u1, u2], .cons ry1 (.cons ry2 .nil), hT2⟩
    have I1 : Inv X pins σ (upd H T (.tup [y1, y2])) { s with heap := h'', toks := tk } :=
      I.turnedNew (t' := tk) (ch := [z, TI, TO, i1, i2]) (fun c o hb q => hk' c o (fun z' => hb (by simp at z' ⊢; rcases z' with z' | z' | z' | z' <;> simp [z'])) (hk c o (fun z' => hb (by simp at z' ⊢; rcases z' with z' | z' | z' | z' <;> simp [z'])) q)) hf hnew new
    refine ⟨.ref T, _, I1, rfl, ⟨T, y1, y2, rfl, I.hok.fresh hnew, rfl, ey1, ey2⟩, ⟨st'.1, st'.2.1, st'.2.2.1, st'.2.2.2.1.1, st'.2.2.2.2.1⟩, fun c hcm => ?_⟩
    have hlt : c < s.heap.objs.size := by
      have e' : c = z ∨ c = TI ∨ c = TO ∨ c = i1 ∨ c = i2 := by simpa using hcm
      obtain ⟨x1, x2, hTO⟩ := hTO
      rcases e' with q | q | q | q | q
      · rw [q]; exact Heap.lt_size hz
      · rw [q]; exact Heap.lt_size hTI
      · rw [q]; exact Heap.lt_size hTO
      · rw [q]; obtain ⟨_, e1, _⟩ := srcIt_obj h1; exact Heap.lt_size e1
      · rw [q]; obtain ⟨_, e1, _⟩ := srcIt_obj h2; exact Heap.lt_size e1
    rw [upd_ne (Nat.ne_of_lt (Nat.lt_of_lt_of_le hlt hnew))]
    exact (hf c hcm).1
  done := by
    intro X hP hw hK hc i pins s σ H E I hf st hg
    subst hP hw hK
    obtain ⟨⟨hq1, hq2⟩, hlt⟩ := hg
    obtain ⟨its1, rv1, p1⟩ := inv_src I hq1
    have l1 := rv1.length
    obtain ⟨its2, rv2, p2⟩ := inv_src I hq2
    have l2 := rv2.length
    have hh : X.A.in1.handled = none := by exact I.ok.hd hc
    have Wk := WalksT.zipD2 S (src_draws (prog := X.prog) (w := X.w) hh t1 i1 a hne.1 its1.toArray) (src_draws (prog := X.prog) (w := X.w) hh t2 i2 b hne.2 its2.toArray)
    obtain ⟨hz, hTI, hTO, h1, h2⟩ := st
    have en : i = min its1.toArray.size its2.toArray.size := by simp only [List.size_toArray]; omega
    rw [en] at h1 h2
    refine Wk.done s _ E ⟨hz, hTI, hTO, ⟨h1, p1⟩, ⟨h2, p2⟩⟩ fun h' tk hk => ⟨rfl, I.turnedL (t' := tk) (ch := [z, TI, TO, i1, i2]) (fun c o hb q => hk c o (fun z' => hb (by simp at z' ⊢; rcases z' with z' | z' | z' | z' <;> simp [z'])) q) hf⟩
  self := fun A i s Q E st h => wpAny_pyIter_zip st.1 h
def iZ2 (K : PySem.W.Frag) (ta : TA) : TI := fun σ H R => ta σ H fun vs H1 => ∃ t1 t2 a b xs ys, vs = [.ref a, .ref b] ∧ (SqX t1 K H1 a xs ∧ SqX t2 K H1 b ys) ∧ R (ItZ2 K t1 t2 a b xs ys) H1
theorem pi_z2 {X : Cx} {e e2 : Expr} {ta : TA} {p pos tpos : Pos} {elts : List Expr} {kk : Nat} (hg : Gl X "zip") (hm : X.mg "zip" = none) (ha : PA X [e, e2] ta)
    (hs : starEach [e, e2] X.env = (false, eval e X.env) :: starEach [e2] X.env := by rfl) (hpl : (backTo pos (starEach [e2] X.env)).any (·.1) = false := by rfl) :
    PI X (.Tuple elts kk tpos) (.Call (.Name "zip" p) [e, e2] [] pos) (iZ2 X.K ta) := by
  refine ⟨fun pins s σ H R I h => ?_⟩
  refine Call_ (ld_blt I hg hm PyProof.Rows.boot_zip (PyProof.Rows.callWith_type1 (thn (ha.run pos pins s σ H _ I h) fun us s1 ⟨vs, H1, I1, r1, q1⟩ => ?_) hs hpl))
  obtain ⟨t1, t2, a, b, xs, ys, ex, ⟨hq1, hq2⟩, q⟩ := q1
  subst ex
  have eus : us = [.ref a, .ref b] := by
    cases r1 with
    | cons q1 w1 =>
      cases w1 with
      | cons q2 w2 =>
        cases w2
        cases (show _ = Value.ref a from q1)
        cases (show _ = Value.ref b from q2)
        rfl
  subst eus
  obtain ⟨its1, rv1, p1⟩ := inv_src I1 hq1
  have la1 : a < s1.heap.objs.size := p1.lt
  obtain ⟨its2, rv2, p2⟩ := inv_src I1 hq2
  have la2 : b < s1.heap.objs.size := p2.lt
  refine zip_begins2 (src_begins t1 a its1.toArray) (src_begins t2 b its2.toArray) p1 p2 fun h' hz hTI hTO h1 h2 hsz hk => wpAny_pyIter_zip hz ?_
  have I2 : Inv X pins σ H1 { s1 with heap := h' } := I1.kept (t' := s1.toks) hk
  refine ⟨s1.heap.objs.size + 4, [s1.heap.objs.size + 4, s1.heap.objs.size + 2, s1.heap.objs.size + 3, s1.heap.objs.size, s1.heap.objs.size + 1], _, _, H1, rfl, I2, turn_z2 (zip_sep2 (fun b hb => by simp at hb; subst hb; exact la1) (fun b hb => by simp at hb; subst hb; exact la2)) ⟨Nat.ne_of_lt (show a < s1.heap.objs.size by exact la1), Nat.ne_of_lt (show b < s1.heap.objs.size + 1 by exact Nat.lt_of_lt_of_le la2 (Nat.le_add_right _ _))⟩, ⟨hz, hTI, ⟨_, _, hTO⟩, src_it0 h1, src_it0 h2⟩, fun c hcm => ?_, q⟩
  have e' : c = s1.heap.objs.size + 4 ∨ c = s1.heap.objs.size + 2 ∨ c = s1.heap.objs.size + 3 ∨ c = s1.heap.objs.size ∨ c = s1.heap.objs.size + 1 := by simpa using hcm
  have hle : s1.heap.objs.size ≤ c := by
    rcases e' with z | z | z | z | z
    · rw [z]; exact Nat.le_add_right _ _
    · rw [z]; exact Nat.le_add_right _ _
    · rw [z]; exact Nat.le_add_right _ _
    · rw [z]; exact Nat.le_refl _
    · rw [z]; exact Nat.le_add_right _ _
  exact I1.fpOk hle (I1.hok.fresh hle)
theorem turn_z3 {P : Program} {w : World} {K : PySem.W.Frag} {elts : List Expr} {kk : Nat} {tpos : Pos} {t1 t2 t3 : Bool} {a b c z TI TO i1 i2 i3 : Addr} {xs ys zs : List V} (S : ZipSep3 z TI TO i1 i2 i3 [i1, a] [i2, b] [i3, c]) (hne : a ≠ i1 ∧ b ≠ i2 ∧ c ≠ i3) :
    Turn P w K (.Tuple elts kk tpos) (ItZ3 K t1 t2 t3 a b c xs ys zs) [z, TI, TO, i1, i2, i3] z (fun i h => IsZip h z TI TO .none ∧ IsTupOf3 h TI (.ref i1) (.ref i2) (.ref i3) ∧ (∃ a1 a2 a3, IsTupOf3 h TO a1 a2 a3) ∧ SrcIt t1 h i1 a i ∧ SrcIt t2 h i2 b i ∧ SrcIt t3 h i3 c i) where
  mem := by simp
  obj := fun i h st c hc => by
    obtain ⟨hz, hTI, ⟨x1, x2, x3, hTO⟩, h1, h2, h3⟩ := st
    have e' : c = z ∨ c = TI ∨ c = TO ∨ c = i1 ∨ c = i2 ∨ c = i3 := by simpa using hc
    rcases e' with q | q | q | q | q | q
    · rw [q]; exact ⟨_, hz, fun v q => nomatch q⟩
    · rw [q]; exact ⟨_, hTI, fun v q => nomatch q⟩
    · rw [q]; exact ⟨_, hTO, fun v q => nomatch q⟩
    · rw [q]; exact srcIt_obj h1
    · rw [q]; exact srcIt_obj h2
    · rw [q]; exact srcIt_obj h3
  keep := fun i h h' st k => by
    obtain ⟨hz, hTI, ⟨x1, x2, x3, hTO⟩, h1, h2, h3⟩ := st
    exact ⟨k z (by simp) _ hz, k TI (by simp) _ hTI, ⟨x1, x2, x3, k TO (by simp) _ hTO⟩, srcIt_at h1 fun o q => k i1 (by simp) o q, srcIt_at h2 fun o q => k i2 (by simp) o q, srcIt_at h3 fun o q => k i3 (by simp) o q⟩
  item := by
    intro X hP hw hK hc i pins s σ H E I hf st hg
    subst hP hw hK
    obtain ⟨⟨hq1, hq2, hq3⟩, hlt⟩ := hg
    obtain ⟨its1, rv1, p1⟩ := inv_src I hq1
    have l1 := rv1.length
    obtain ⟨its2, rv2, p2⟩ := inv_src I hq2
    have l2 := rv2.length
    obtain ⟨its3, rv3, p3⟩ := inv_src I hq3
    have l3 := rv3.length
    have hh : X.A.in1.handled = none := by exact I.ok.hd hc
    have Wk := WalksT.zipD3 S (src_draws (prog := X.prog) (w := X.w) hh t1 i1 a hne.1 its1.toArray) (src_draws (prog := X.prog) (w := X.w) hh t2 i2 b hne.2.1 its2.toArray) (src_draws (prog := X.prog) (w := X.w) hh t3 i3 c hne.2.2 its3.toArray)
    obtain ⟨hz, hTI, hTO, h1, h2, h3⟩ := st
    refine Wk.item i s _ E (by simp only [List.size_toArray]; omega) ⟨hz, hTI, hTO, ⟨h1, p1⟩, ⟨h2, p2⟩, ⟨h3, p3⟩⟩ fun T vals h' tk hP hnew hT hm hk => ?_
    refine ⟨.ref T, rfl, Wk.go elts kk tpos i T { s with heap := h', toks := tk } _ E hm fun h'' st' hk' => ?_⟩
    obtain ⟨u1, u2, u3, hu1, hu2, hu3, rfl⟩ := hP
    obtain ⟨y1, ey1, ry1⟩ := vals_at rv1 hu1
    obtain ⟨y2, ey2, ry2⟩ := vals_at rv2 hu2
    obtain ⟨y3, ey3, ry3⟩ := vals_at rv3 hu3
    have hT2 : h''.IsTuple T #[u1, u2, u3] := hT.at fun o e => hk' T o (Wk.apart i T h' hm) e
    have new : ObjOk X.prog X.w (upd H T (.tup [y1, y2, y3])) h'' T (.tup [y1, y2, y3]) := ⟨by show 3 ≤ sizeLine; decide, [u1, u2, u3], .cons ry1 (.cons ry2 (.cons ry3 .nil)), hT2⟩
    have I1 : Inv X pins σ (upd H T (.tup [y1, y2, y3])) { s with heap := h'', toks := tk } :=
      I.turnedNew (t' := tk) (ch := [z, TI, TO, i1, i2, i3]) (fun c o hb q => hk' c o (fun z' => hb (by simp at z' ⊢; rcases z' with z' | z' | z' | z' | z' <;> simp [z'])) (hk c o (fun z' => hb (by simp at z' ⊢; rcases z' with z' | z' | z' | z' | z' <;> simp [z'])) q)) hf hnew new
    refine ⟨.ref T, _, I1, rfl, ⟨T, y1, y2, y3, rfl, I.hok.fresh hnew, rfl, ey1, ey2, ey3⟩, ⟨st'.1, st'.2.1, st'.2.2.1, st'.2.2.2.1.1, st'.2.2.2.2.1.1, st'.2.2.2.2.2.1⟩, fun c hcm => ?_⟩
    have hlt : c < s.heap.objs.size := by
      have e' : c = z ∨ c = TI ∨ c = TO ∨ c = i1 ∨ c = i2 ∨ c = i3 := by simpa using hcm
      obtain ⟨x1, x2, x3, hTO⟩ := hTO
      rcases e' with q | q | q | q | q | q
      · rw [q]; exact Heap.lt_size hz
      · rw [q]; exact Heap.lt_size hTI
      · rw [q]; exact Heap.lt_size hTO
      · rw [q]; obtain ⟨_, e1, _⟩ := srcIt_obj h1; exact Heap.lt_size e1
      · rw [q]; obtain ⟨_, e1, _⟩ := srcIt_obj h2; exact Heap.lt_size e1
      · rw [q]; obtain ⟨_, e1, _⟩ := srcIt_obj h3; exact Heap.lt_size e1
    rw [upd_ne (Nat.ne_of_lt (Nat.lt_of_lt_of_le hlt hnew))]
    exact (hf c hcm).1
  done := by
    intro X hP hw hK hc i pins s σ H E I hf st hg
    subst hP hw hK
    obtain ⟨⟨hq1, hq2, hq3⟩, hlt⟩ := hg
    obtain ⟨its1, rv1, p1⟩ := inv_src I hq1
    have l1 := rv1.length
    obtain ⟨its2, rv2, p2⟩ := inv_src I hq2
    have l2 := rv2.length
    obtain ⟨its3, rv3, p3⟩ := inv_src I hq3
    have l3 := rv3.length
    have hh : X.A.in1.handled = none := by exact I.ok.hd hc
    have Wk := WalksT.zipD3 S (src_draws (prog := X.prog) (w := X.w) hh t1 i1 a hne.1 its1.toArray) (src_draws (prog := X.prog) (w := X.w) hh t2 i2 b hne.2.1 its2.toArray) (src_draws (prog := X.prog) (w := X.w) hh t3 i3 c hne.2.2 its3.toArray)
    obtain ⟨hz, hTI, hTO, h1, h2, h3⟩ := st
    have en : i = min (min its1.toArray.size its2.toArray.size) its3.toArray.size := by simp only [List.size_toArray]; omega
    rw [en] at h1 h2 h3
    refine Wk.done s _ E ⟨hz, hTI, hTO, ⟨h1, p1⟩, ⟨h2, p2⟩, ⟨h3, p3⟩⟩ fun h' tk hk => ⟨rfl, I.turnedL (t' := tk) (ch := [z, TI, TO, i1, i2, i3]) (fun c o hb q => hk c o (fun z' => hb (by simp at z' ⊢; rcases z' with z' | z' | z' | z' | z' <;> simp [z'])) q) hf⟩
  self := fun A i s Q E st h => wpAny_pyIter_zip st.1 h
def iZ3 (K : PySem.W.Frag) (ta : TA) : TI := fun σ H R => ta σ H fun vs H1 => ∃ t1 t2 t3 a b c xs ys zs, vs = [.ref a, .ref b, .ref c] ∧ (SqX t1 K H1 a xs ∧ SqX t2 K H1 b ys ∧ SqX t3 K H1 c zs) ∧ R (ItZ3 K t1 t2 t3 a b c xs ys zs) H1
theorem pi_z3 {X : Cx} {e e2 e3 : Expr} {ta : TA} {p pos tpos : Pos} {elts : List Expr} {kk : Nat} (hg : Gl X "zip") (hm : X.mg "zip" = none) (ha : PA X [e, e2, e3] ta)
    (hs : starEach [e, e2, e3] X.env = (false, eval e X.env) :: starEach [e2, e3] X.env := by rfl) (hpl : (backTo pos (starEach [e2, e3] X.env)).any (·.1) = false := by rfl) :
    PI X (.Tuple elts kk tpos) (.Call (.Name "zip" p) [e, e2, e3] [] pos) (iZ3 X.K ta) := by
  refine ⟨fun pins s σ H R I h => ?_⟩
  refine Call_ (ld_blt I hg hm PyProof.Rows.boot_zip (PyProof.Rows.callWith_type1 (thn (ha.run pos pins s σ H _ I h) fun us s1 ⟨vs, H1, I1, r1, q1⟩ => ?_) hs hpl))
  obtain ⟨t1, t2, t3, a, b, c, xs, ys, zs, ex, ⟨hq1, hq2, hq3⟩, q⟩ := q1
  subst ex
  have eus : us = [.ref a, .ref b, .ref c] := by
    cases r1 with
    | cons q1 w1 =>
      cases w1 with
      | cons q2 w2 =>
        cases w2 with
        | cons q3 w3 =>
          cases w3
          cases (show _ = Value.ref a from q1)
          cases (show _ = Value.ref b from q2)
          cases (show _ = Value.ref c from q3)
          rfl
  subst eus
  obtain ⟨its1, rv1, p1⟩ := inv_src I1 hq1
  have la1 : a < s1.heap.objs.size := p1.lt
  obtain ⟨its2, rv2, p2⟩ := inv_src I1 hq2
  have la2 : b < s1.heap.objs.size := p2.lt
  obtain ⟨its3, rv3, p3⟩ := inv_src I1 hq3
  have la3 : c < s1.heap.objs.size := p3.lt
  refine zip_begins3 (src_begins t1 a its1.toArray) (src_begins t2 b its2.toArray) (src_begins t3 c its3.toArray) p1 p2 p3 fun h' hz hTI hTO h1 h2 h3 hsz hk => wpAny_pyIter_zip hz ?_
  have I2 : Inv X pins σ H1 { s1 with heap := h' } := I1.kept (t' := s1.toks) hk
  refine ⟨s1.heap.objs.size + 5, [s1.heap.objs.size + 5, s1.heap.objs.size + 3, s1.heap.objs.size + 4, s1.heap.objs.size, s1.heap.objs.size + 1, s1.heap.objs.size + 2], _, _, H1, rfl, I2, turn_z3 (zip_sep3 (fun b hb => by simp at hb; subst hb; exact la1) (fun b hb => by simp at hb; subst hb; exact la2) (fun b hb => by simp at hb; subst hb; exact la3)) ⟨Nat.ne_of_lt (show a < s1.heap.objs.size by exact la1), Nat.ne_of_lt (show b < s1.heap.objs.size + 1 by exact Nat.lt_of_lt_of_le la2 (Nat.le_add_right _ _)), Nat.ne_of_lt (show c < s1.heap.objs.size + 2 by exact Nat.lt_of_lt_of_le la3 (Nat.le_add_right _ _))⟩, ⟨hz, hTI, ⟨_, _, _, hTO⟩, src_it0 h1, src_it0 h2, src_it0 h3⟩, fun c hcm => ?_, q⟩
  have e' : c = s1.heap.objs.size + 5 ∨ c = s1.heap.objs.size + 3 ∨ c = s1.heap.objs.size + 4 ∨ c = s1.heap.objs.size ∨ c = s1.heap.objs.size + 1 ∨ c = s1.heap.objs.size + 2 := by simpa using hcm
  have hle : s1.heap.objs.size ≤ c := by
    rcases e' with z | z | z | z | z | z
    · rw [z]; exact Nat.le_add_right _ _
    · rw [z]; exact Nat.le_add_right _ _
    · rw [z]; exact Nat.le_add_right _ _
    · rw [z]; exact Nat.le_refl _
    · rw [z]; exact Nat.le_add_right _ _
    · rw [z]; exact Nat.le_add_right _ _
  exact I1.fpOk hle (I1.hok.fresh hle)
end DL

namespace DL
open PySem L2 PyProof.Rows
open PySem.Sem (wp)
theorem meets_enum1 {v : Value} {o : Obj} {H : Heap → Prop} (B : Begins v o H) :
    Meets (Builtin.«enumerate.__new__» ⟨[.type "enumerate", v], []⟩) (fun _ R s => H s.heap ∧
      R (.ok (.ret (.ref (s.heap.push o).objs.size))) { s with heap := (s.heap.push o).push { cls := .type "enumerate", data := .fields #[.none, .bool false, .ref s.heap.objs.size, rawInt 0, .none, .none] } }) :=
  .of_wp fun prog w A R s h => by
    obtain ⟨hp, g, d, tk, os⟩ := s; obtain ⟨h1, h⟩ := h
    have hsub := sub_enumerate
    have q1 : ∀ {A' : Around} {E : Value → Shared → Prop} {Q : Value → Shared → Prop}, Q (.ref hp.objs.size) ⟨hp.push o, g, d, tk, os⟩ → wpAny (model prog w) A' (pyIter v) Q E ⟨hp, g, d, tk, os⟩ :=
      fun q => B.iter prog w _ _ ⟨hp, g, d, tk, os⟩ _ h1 q
    wp_walk using q1
    refine wpAny_stack_any fun st => wpAny_pure ?_
    split
    · rename_i c _ _ _ _ _
      cases (c == Value.type "enumerate")
      · wp_walk using q1
        exact ⟨_, rfl, h⟩
      · wp_walk using q1
        exact ⟨_, rfl, h⟩
    · wp_walk using q1
      exact ⟨_, rfl, h⟩
theorem enum_begins1 {prog : Program} {w : World} {A : Around} {E : Value → Shared → Prop} {s : Shared} {v : Value} {o : Obj} {H : Heap → Prop} {Q : Value → Shared → Prop} (B : Begins v o H) (h1 : H s.heap)
    (h : ∀ h', IsEnum h' (s.heap.objs.size + 1) s.heap.objs.size 0 .none → h'.get? s.heap.objs.size = some o → h'.objs.size = s.heap.objs.size + 2 →
      (∀ b o, s.heap.get? b = some o → h'.get? b = some o) → Q (.ref (s.heap.objs.size + 1)) { s with heap := h' }) :
    wpAny (model prog w) A (call (.type "enumerate") [v]) Q E s := by
  refine callType_new F.called_enumerate (by decide) (F.typeCall_enumerate_1 _) (F.newCall_enumerate_1 _) (fun obj => F.args_object_init_2 obj _) F.entry_enumerate_new
    (meets_enum1 B) ⟨h1, ?_⟩
  have hz : (s.heap.push o).objs.size = s.heap.objs.size + 1 := Heap.size_push ..
  show _ ∧ _
  rw [hz]
  have he : IsEnum ((s.heap.push o).push { cls := .type "enumerate", data := .fields #[.none, .bool false, .ref s.heap.objs.size, rawInt 0, .none, .none] }) (s.heap.objs.size + 1) s.heap.objs.size 0 .none := by
    have := Heap.get?_push_size (s.heap.push o) (o := { cls := .type "enumerate", data := .fields #[.none, .bool false, .ref s.heap.objs.size, rawInt 0, .none, .none] }) rfl
    rw [hz] at this; exact this
  refine ⟨⟨_, he, rfl⟩, h _ he (Heap.get?_push_of_some _ (Heap.get?_push_size _ B.free)) (by rw [Heap.size_push, hz]) fun b o x => Heap.get?_push_of_some _ (Heap.get?_push_of_some _ x)⟩
theorem turn_e {P : Program} {w : World} {K : PySem.W.Frag} {elts : List Expr} {kk : Nat} {tpos : Pos} {t : Bool} {a e it : Addr} {xs : List V} (hei : e ≠ it) (hea : e ≠ a) (hai : a ≠ it) :
    Turn P w K (.Tuple elts kk tpos) (ItE K t a xs) [e, it] e (fun i h => (∃ old, IsEnum h e it (0 + (i : Int)) old) ∧ SrcIt t h it a i) where
  mem := by simp
  obj := fun i h st c hc => by
    obtain ⟨⟨old, he⟩, h1⟩ := st
    have e' : c = e ∨ c = it := by simpa using hc
    rcases e' with q | q
    · rw [q]; exact ⟨_, he, fun v q => nomatch q⟩
    · rw [q]; exact srcIt_obj h1
  keep := fun i h h' st k => by
    obtain ⟨⟨old, he⟩, h1⟩ := st
    exact ⟨⟨old, k e (by simp) _ he⟩, srcIt_at h1 fun o q => k it (by simp) o q⟩
  item := by
    intro X hP hw hK hc i pins s σ H E I hf st hg
    subst hP hw hK
    obtain ⟨hq, hlt⟩ := hg
    obtain ⟨its, rv, p⟩ := inv_src I hq
    have l1 := rv.length
    have hh : X.A.in1.handled = none := by exact I.ok.hd hc
    have Wk := WalksT.enumFrom 0 (src_draws (prog := X.prog) (w := X.w) hh t it a hai its.toArray) e hei (by simp [hei, hea]) (by simp)
    obtain ⟨⟨old, he⟩, h1⟩ := st
    refine Wk.item i s _ E (by simp only [List.size_toArray]; omega) ⟨⟨old, he⟩, h1, p⟩ fun T vals h' tk hP hnew hT hm hk => ?_
    refine ⟨.ref T, rfl, Wk.go elts kk tpos i T { s with heap := h', toks := tk } _ E hm fun h'' st' hk' => ?_⟩
    obtain ⟨t1, u, hu, rfl⟩ := hP
    obtain ⟨y, ey, ry⟩ := vals_at rv hu
    have hT2 : h''.IsTuple T #[.int (0 + (i : Int)) t1, u] := hT.at fun o e => hk' T o (Wk.apart i T h' hm) e
    have e0 : (0 : Int) + (i : Int) = (i : Int) := by omega
    have new : ObjOk X.prog X.w (upd H T (.tup [.int (i : Int), y])) h'' T (.tup [.int (i : Int), y]) := ⟨by show 2 ≤ sizeLine; decide, [.int (0 + (i : Int)) t1, u], .cons ⟨t1, by rw [e0]⟩ (.cons ry .nil), hT2⟩
    have I1 : Inv X pins σ (upd H T (.tup [.int (i : Int), y])) { s with heap := h'', toks := tk } :=
      I.turnedNew (t' := tk) (ch := [e, it]) (fun c o hb q => hk' c o hb (hk c o hb q)) hf hnew new
    refine ⟨.ref T, _, I1, rfl, ⟨T, y, rfl, I.hok.fresh hnew, rfl, ey⟩, ⟨st'.1, st'.2.1⟩, fun c hcm => ?_⟩
    have hlt : c < s.heap.objs.size := by
      have e' : c = e ∨ c = it := by simpa using hcm
      rcases e' with q | q
      · rw [q]; exact Heap.lt_size he
      · rw [q]; obtain ⟨_, e1, _⟩ := srcIt_obj h1; exact Heap.lt_size e1
    rw [upd_ne (Nat.ne_of_lt (Nat.lt_of_lt_of_le hlt hnew))]
    exact (hf c hcm).1
  done := by
    intro X hP hw hK hc i pins s σ H E I hf st hg
    subst hP hw hK
    obtain ⟨hq, hlt⟩ := hg
    obtain ⟨its, rv, p⟩ := inv_src I hq
    have l1 := rv.length
    have hh : X.A.in1.handled = none := by exact I.ok.hd hc
    have Wk := WalksT.enumFrom 0 (src_draws (prog := X.prog) (w := X.w) hh t it a hai its.toArray) e hei (by simp [hei, hea]) (by simp)
    obtain ⟨⟨old, he⟩, h1⟩ := st
    have en : i = its.toArray.size := by simp only [List.size_toArray]; omega
    rw [en] at he h1
    exact Wk.done s _ E ⟨⟨old, he⟩, h1, p⟩ fun h' tk hk => ⟨rfl, I.turnedL (t' := tk) (ch := [e, it]) (fun c o hb q => hk c o hb q) hf⟩
  self := fun A i s Q E st h => by
    obtain ⟨⟨old, he⟩, _⟩ := st
    exact wpAny_pyIter_enum he h
def iEn (K : PySem.W.Frag) (ta : TA) : TI := fun σ H R => ta σ H fun vs H1 => ∃ t a xs, vs = [.ref a] ∧ SqX t K H1 a xs ∧ R (ItE K t a xs) H1
theorem pi_en {X : Cx} {e : Expr} {ta : TA} {p pos tpos : Pos} {elts : List Expr} {kk : Nat} (hg : Gl X "enumerate") (hm : X.mg "enumerate" = none) (ha : PA X [e] ta) (hs : starEach [e] X.env = [(false, eval e X.env)] := by rfl) :
    PI X (.Tuple elts kk tpos) (.Call (.Name "enumerate" p) [e] [] pos) (iEn X.K ta) := by
  refine ⟨fun pins s σ H R I h => ?_⟩
  refine Call_ (ld_blt I hg hm boot_enumerate (PyProof.Rows.callWith_type1 (thn (ha.run pos pins s σ H _ I h) fun us s1 ⟨vs, H1, I1, r1, q1⟩ => ?_) hs rfl))
  obtain ⟨t, a, xs, ex, hq, q⟩ := q1
  subst ex
  have eus : us = [.ref a] := by
    cases r1 with
    | cons q1 w1 =>
      cases w1
      cases (show _ = Value.ref a from q1)
      rfl
  subst eus
  obtain ⟨its, rv, p1⟩ := inv_src I1 hq
  have la : a < s1.heap.objs.size := p1.lt
  refine enum_begins1 (src_begins t a its.toArray) p1 fun h' he hit hsz hk => wpAny_pyIter_enum he ?_
  have I2 : Inv X pins σ H1 { s1 with heap := h' } := I1.kept (t' := s1.toks) hk
  refine ⟨s1.heap.objs.size + 1, [s1.heap.objs.size + 1, s1.heap.objs.size], _, _, H1, rfl, I2, turn_e (Nat.ne_of_gt (Nat.lt_succ_self _)) (Nat.ne_of_gt (Nat.lt_succ_of_lt la)) (Nat.ne_of_lt la), ⟨⟨.none, by simpa using he⟩, src_it0 hit⟩, fun c hcm => ?_, q⟩
  have hle : s1.heap.objs.size ≤ c := by
    have e' : c = s1.heap.objs.size + 1 ∨ c = s1.heap.objs.size := by simpa using hcm
    rcases e' with z | z
    · rw [z]; exact Nat.le_add_right _ _
    · rw [z]; exact Nat.le_refl _
  exact I1.fpOk hle (I1.hok.fresh hle)

/-! ### by data -/
def seqOf : DL.D → Option (List DL.D)
  | .lst xs => some xs
  | .tup xs => some xs
  | _ => none
theorem seq_x {K : PySem.W.Frag} {Hb : Hp} {d : DL.D} {v : V} {xs : List DL.D} (h : Is K Hb d v) (e : seqOf d = some xs) : ∃ t a vs, v = .ref a ∧ SqX t K Hb a vs ∧ IsA K Hb xs vs := by
  cases d with
  | lst ys =>
    cases e
    simp only [Is] at h
    obtain ⟨a, vs, rfl, h1, i1⟩ := h
    exact ⟨false, a, vs, rfl, h1, i1⟩
  | tup ys =>
    cases e
    simp only [Is] at h
    obtain ⟨a, vs, rfl, h1, i1⟩ := h
    exact ⟨true, a, vs, rfl, h1, i1⟩
  | _ => cases e
theorem SqX.mono {K : PySem.W.Frag} {H H' : Hp} {t : Bool} {a : Addr} {xs : List V} (s : Same H H') (h : SqX t K H a xs) : SqX t K H' a xs := by
  cases t with
  | true => exact Same.tup s h
  | false => exact s.seq h
def zip2L : List DL.D → List DL.D → List DL.D
  | x :: xs, y :: ys => .tup [x, y] :: zip2L xs ys
  | _, _ => []
def zip3L : List DL.D → List DL.D → List DL.D → List DL.D
  | x :: xs, y :: ys, z :: zs => .tup [x, y, z] :: zip3L xs ys zs
  | _, _, _ => []
def enumL : Nat → List DL.D → List DL.D
  | _, [] => []
  | n, x :: xs => .tup [.int n, x] :: enumL (n + 1) xs
theorem zip2_len : ∀ {xs ys : List DL.D}, (zip2L xs ys).length = min xs.length ys.length
  | [], ys => by simp [zip2L]
  | x :: xs, [] => by simp [zip2L]
  | x :: xs, y :: ys => by simp only [zip2L, List.length_cons, zip2_len]; omega
theorem zip3_len : ∀ {xs ys zs : List DL.D}, (zip3L xs ys zs).length = min (min xs.length ys.length) zs.length
  | [], ys, zs => by simp [zip3L]
  | x :: xs, [], zs => by simp [zip3L]
  | x :: xs, y :: ys, [] => by simp [zip3L]
  | x :: xs, y :: ys, z :: zs => by simp only [zip3L, List.length_cons, zip3_len]; omega
theorem enum_len : ∀ {n : Nat} {xs : List DL.D}, (enumL n xs).length = xs.length
  | n, [] => rfl
  | n, x :: xs => by simp [enumL, enum_len]
theorem zip2_get : ∀ {xs ys : List DL.D} {i : Nat} {d : DL.D}, (zip2L xs ys)[i]? = some d → ∃ x y, xs[i]? = some x ∧ ys[i]? = some y ∧ d = .tup [x, y]
  | [], ys, i, d, h => by simp [zip2L] at h
  | x :: xs, [], i, d, h => by simp [zip2L] at h
  | x :: xs, y :: ys, 0, d, h => by simp [zip2L] at h; exact ⟨x, y, rfl, rfl, h.symm⟩
  | x :: xs, y :: ys, i + 1, d, h => by
    obtain ⟨u, v, h1, h2, h3⟩ := zip2_get (xs := xs) (ys := ys) (i := i) (d := d) (by simpa [zip2L] using h)
    exact ⟨u, v, by simpa using h1, by simpa using h2, h3⟩
theorem zip3_get : ∀ {xs ys zs : List DL.D} {i : Nat} {d : DL.D}, (zip3L xs ys zs)[i]? = some d → ∃ x y z, xs[i]? = some x ∧ ys[i]? = some y ∧ zs[i]? = some z ∧ d = .tup [x, y, z]
  | [], ys, zs, i, d, h => by simp [zip3L] at h
  | x :: xs, [], zs, i, d, h => by simp [zip3L] at h
  | x :: xs, y :: ys, [], i, d, h => by simp [zip3L] at h
  | x :: xs, y :: ys, z :: zs, 0, d, h => by simp [zip3L] at h; exact ⟨x, y, z, rfl, rfl, rfl, h.symm⟩
  | x :: xs, y :: ys, z :: zs, i + 1, d, h => by
    obtain ⟨u, v, w, h1, h2, h3, h4⟩ := zip3_get (xs := xs) (ys := ys) (zs := zs) (i := i) (d := d) (by simpa [zip3L] using h)
    exact ⟨u, v, w, by simpa using h1, by simpa using h2, by simpa using h3, h4⟩
theorem enum_get : ∀ {n : Nat} {xs : List DL.D} {i : Nat} {d : DL.D}, (enumL n xs)[i]? = some d → ∃ x, xs[i]? = some x ∧ d = .tup [.int ((n + i : Nat) : Int), x]
  | n, [], i, d, h => by simp [enumL] at h
  | n, x :: xs, 0, d, h => by simp [enumL] at h; exact ⟨x, rfl, by simp [h.symm]⟩
  | n, x :: xs, i + 1, d, h => by
    obtain ⟨u, h1, h2⟩ := enum_get (n := n + 1) (xs := xs) (i := i) (d := d) (by simpa [enumL] using h)
    refine ⟨u, by simpa using h1, ?_⟩
    rw [h2, show n + 1 + i = n + (i + 1) by omega]
theorem new_tup {K : PySem.W.Frag} {Hb H : Hp} {T : Addr} {ds : List DL.D} {vs : List V} (s : Same Hb H) (h : H T = none) (i : IsA K Hb ds vs) : ∃ Hb', Gro Hb H Hb' (upd H T (.tup vs)) ∧ Is K Hb' (.tup ds) (.ref T) :=
  ⟨upd Hb T (.tup vs), Gro.newT s h, Is.tupI (.inl (.inl upd_same)) (IsA.mono (Same.new (Same.none s h)) _ _ i)⟩
section
variable {K : PySem.W.Frag} {Hb0 : Hp}
theorem iz2_is {t1 t2 : Bool} {a b : Addr} {us ws : List V} {xs ys : List DL.D} (h1 : SqX t1 K Hb0 a us) (h2 : SqX t2 K Hb0 b ws) (i1 : IsA K Hb0 xs us) (i2 : IsA K Hb0 ys ws) : ItD K Hb0 (ItZ2 K t1 t2 a b us ws) (zip2L xs ys) := by
  have l1 := i1.length
  have l2 := i2.length
  refine ⟨fun Hb H i s1 s2 hi => ⟨⟨(h1.mono s1).mono s2, (h2.mono s1).mono s2⟩, by rw [zip2_len] at hi; omega⟩, fun Hb H i x H' d s1 s2 y e => ?_, fun Hb H s1 s2 => ⟨⟨(h1.mono s1).mono s2, (h2.mono s1).mono s2⟩, by rw [zip2_len]; omega⟩⟩
  obtain ⟨T, u, v, rfl, hT, rfl, eu, ev⟩ := y
  obtain ⟨dx, dy, ex, ey, rfl⟩ := zip2_get e
  obtain ⟨u', eu', iu⟩ := i1.get ex
  rw [eu] at eu'; cases eu'
  obtain ⟨v', ev', iv⟩ := i2.get ey
  rw [ev] at ev'; cases ev'
  exact new_tup s2 hT (IsA.cons (Is.mono s1 _ _ iu) (IsA.cons (Is.mono s1 _ _ iv) IsA.nil))
theorem iz3_is {t1 t2 t3 : Bool} {a b c : Addr} {us ws zs : List V} {xs ys qs : List DL.D} (h1 : SqX t1 K Hb0 a us) (h2 : SqX t2 K Hb0 b ws) (h3 : SqX t3 K Hb0 c zs) (i1 : IsA K Hb0 xs us) (i2 : IsA K Hb0 ys ws) (i3 : IsA K Hb0 qs zs) : ItD K Hb0 (ItZ3 K t1 t2 t3 a b c us ws zs) (zip3L xs ys qs) := by
  have l1 := i1.length
  have l2 := i2.length
  have l3 := i3.length
  refine ⟨fun Hb H i s1 s2 hi => ⟨⟨(h1.mono s1).mono s2, (h2.mono s1).mono s2, (h3.mono s1).mono s2⟩, by rw [zip3_len] at hi; omega⟩, fun Hb H i x H' d s1 s2 y e => ?_, fun Hb H s1 s2 => ⟨⟨(h1.mono s1).mono s2, (h2.mono s1).mono s2, (h3.mono s1).mono s2⟩, by rw [zip3_len]; omega⟩⟩
  obtain ⟨T, u, v, w, rfl, hT, rfl, eu, ev, ew⟩ := y
  obtain ⟨dx, dy, dz, ex, ey, ez, rfl⟩ := zip3_get e
  obtain ⟨u', eu', iu⟩ := i1.get ex
  rw [eu] at eu'; cases eu'
  obtain ⟨v', ev', iv⟩ := i2.get ey
  rw [ev] at ev'; cases ev'
  obtain ⟨w', ew', iw⟩ := i3.get ez
  rw [ew] at ew'; cases ew'
  exact new_tup s2 hT (IsA.cons (Is.mono s1 _ _ iu) (IsA.cons (Is.mono s1 _ _ iv) (IsA.cons (Is.mono s1 _ _ iw) IsA.nil)))
theorem ie_is {t : Bool} {a : Addr} {us : List V} {xs : List DL.D} (h1 : SqX t K Hb0 a us) (i1 : IsA K Hb0 xs us) : ItD K Hb0 (ItE K t a us) (enumL 0 xs) := by
  have l1 := i1.length
  refine ⟨fun Hb H i s1 s2 hi => ⟨(h1.mono s1).mono s2, by rw [enum_len] at hi; omega⟩, fun Hb H i x H' d s1 s2 y e => ?_, fun Hb H s1 s2 => ⟨(h1.mono s1).mono s2, by rw [enum_len]; omega⟩⟩
  obtain ⟨T, u, rfl, hT, rfl, eu⟩ := y
  obtain ⟨dx, ex, rfl⟩ := enum_get e
  obtain ⟨u', eu', iu⟩ := i1.get ex
  rw [eu] at eu'; cases eu'
  rw [Nat.zero_add]
  exact new_tup s2 hT (IsA.cons Is.intI (IsA.cons (Is.mono s1 _ _ iu) IsA.nil))
end
def seqsOf : List DL.D → Option (List (List DL.D))
  | [] => some []
  | d :: ds => match seqOf d, seqsOf ds with
    | some x, some xs => some (x :: xs)
    | _, _ => none
def zip2D : List (List DL.D) → Option (List DL.D)
  | [xs, ys] => some (zip2L xs ys)
  | _ => none
def zip3D : List (List DL.D) → Option (List DL.D)
  | [xs, ys, zs] => some (zip3L xs ys zs)
  | _ => none
def enD : List (List DL.D) → Option (List DL.D)
  | [xs] => some (enumL 0 xs)
  | _ => none
def mSeqs (f : List (List DL.D) → Option (List DL.D)) (as : M (List Rs)) : M (List DL.D) := fun ρ => bnd (as ρ) fun rs ρ1 => match keeps ρ1 rs with
  | some (ds, ρ2) => (match seqsOf ds with
    | some xss => (match f xss with
      | some xs => .ok xs ρ2
      | none => .stuck)
    | none => .stuck)
  | none => .stuck
section
variable {X : Cx} {K : PySem.W.Frag} {W : WX} {σ : L2.St} {H : Hp}
theorem tI_seqs {f : List (List DL.D) → Option (List DL.D)} {as : M (List Rs)} {R : It → Hp → Prop} {Rv : List V → Hp → Prop} (h : tI K W (mSeqs f as) σ H R)
    (k : ∀ Hb H1 ds vs xss xs, Same Hb H1 → IsA K Hb ds vs → seqsOf ds = some xss → f xss = some xs → (∀ J, ItD K Hb J xs → R J H1) → Rv vs H1) : tA K W as σ H Rv := by
  obtain ⟨Hb, ρ, S, P⟩ := h
  refine ⟨Hb, ρ, S, ?_⟩
  unfold mSeqs at P
  cases ea : as ρ with
  | stuck => rw [ea] at P; exact P
  | er e ρ1 => rw [ea] at P; exact P
  | ok rs ρ1 =>
    rw [ea] at P
    intro vs H1 Hb1 s1 r1
    simp only [bnd] at P
    cases ek : keeps ρ1 rs with
    | none => rw [ek] at P; exact P.elim
    | some q =>
      obtain ⟨ds, ρ2⟩ := q
      rw [ek] at P
      simp only at P
      obtain ⟨Hb2, s2, i2⟩ := keeps_ok (own_there' S s1) s1.st r1 ek
      cases es : seqsOf ds with
      | none => rw [es] at P; exact P.elim
      | some xss =>
        rw [es] at P
        simp only at P
        cases er : f xss with
        | none => rw [er] at P; exact P.elim
        | some xs =>
          rw [er] at P
          exact k Hb2 H1 ds vs xss xs s2.st.sub i2 es er fun J hJ => P J H1 Hb2 (s1.trans s2) hJ
theorem seqs_cons {ds : List DL.D} {xs : List DL.D} {xss : List (List DL.D)} (h : seqsOf ds = some (xs :: xss)) : ∃ d r, ds = d :: r ∧ seqOf d = some xs ∧ seqsOf r = some xss := by
  cases ds with
  | nil => cases h
  | cons d r =>
    unfold seqsOf at h
    cases e1 : seqOf d with
    | none => rw [e1] at h; cases h
    | some x =>
      cases e2 : seqsOf r with
      | none => rw [e1, e2] at h; cases h
      | some q => rw [e1, e2] at h; cases h; exact ⟨d, r, rfl, e1, e2⟩
theorem seqs_nil {ds : List DL.D} (h : seqsOf ds = some []) : ds = [] := by
  cases ds with
  | nil => rfl
  | cons d r =>
    unfold seqsOf at h
    cases e1 : seqOf d with
    | none => rw [e1] at h; cases h
    | some x =>
      cases e2 : seqsOf r with
      | none => rw [e1, e2] at h; cases h
      | some q => rw [e1, e2] at h; cases h
theorem isA_cons {Hb : Hp} {d : DL.D} {ds : List DL.D} {vs : List V} (h : IsA K Hb (d :: ds) vs) : ∃ v r, vs = v :: r ∧ Is K Hb d v ∧ IsA K Hb ds r := by simpa only [IsA] using h
theorem di_zip2 {e e2 : Expr} {as : M (List Rs)} {p pos tpos : Pos} {elts : List Expr} {kk : Nat} (hg : Gl X "zip") (hm : X.mg "zip" = none) (ha : PA X [e, e2] (tA X.K W as))
    (hs : starEach [e, e2] X.env = (false, eval e X.env) :: starEach [e2] X.env := by rfl) (hpl : (backTo pos (starEach [e2] X.env)).any (·.1) = false := by rfl) :
    PI X (.Tuple elts kk tpos) (.Call (.Name "zip" p) [e, e2] [] pos) (tI X.K W (mSeqs zip2D as)) := by
  refine PI.imp (pi_z2 hg hm ha hs hpl) fun σ H R h => tI_seqs h fun Hb H1 ds vs xss xs sb ia es er go => ?_
  unfold zip2D at er
  split at er
  · cases er
    obtain ⟨d1, r1, rfl, e1, es⟩ := seqs_cons es
    obtain ⟨d2, r2, rfl, e2, es⟩ := seqs_cons es
    cases seqs_nil es
    obtain ⟨v1, w1, rfl, i1, ia⟩ := isA_cons ia
    obtain ⟨v2, w2, rfl, i2, ia⟩ := isA_cons ia
    simp only [IsA] at ia
    subst ia
    obtain ⟨t1, a, us, rfl, q1, j1⟩ := seq_x i1 e1
    obtain ⟨t2, b, ws, rfl, q2, j2⟩ := seq_x i2 e2
    exact ⟨t1, t2, a, b, us, ws, rfl, ⟨q1.mono sb, q2.mono sb⟩, go _ (iz2_is q1 q2 j1 j2)⟩
  · cases er
theorem di_zip3 {e e2 e3 : Expr} {as : M (List Rs)} {p pos tpos : Pos} {elts : List Expr} {kk : Nat} (hg : Gl X "zip") (hm : X.mg "zip" = none) (ha : PA X [e, e2, e3] (tA X.K W as))
    (hs : starEach [e, e2, e3] X.env = (false, eval e X.env) :: starEach [e2, e3] X.env := by rfl) (hpl : (backTo pos (starEach [e2, e3] X.env)).any (·.1) = false := by rfl) :
    PI X (.Tuple elts kk tpos) (.Call (.Name "zip" p) [e, e2, e3] [] pos) (tI X.K W (mSeqs zip3D as)) := by
  refine PI.imp (pi_z3 hg hm ha hs hpl) fun σ H R h => tI_seqs h fun Hb H1 ds vs xss xs sb ia es er go => ?_
  unfold zip3D at er
  split at er
  · cases er
    obtain ⟨d1, r1, rfl, e1, es⟩ := seqs_cons es
    obtain ⟨d2, r2, rfl, e2, es⟩ := seqs_cons es
    obtain ⟨d3, r3, rfl, e3, es⟩ := seqs_cons es
    cases seqs_nil es
    obtain ⟨v1, w1, rfl, i1, ia⟩ := isA_cons ia
    obtain ⟨v2, w2, rfl, i2, ia⟩ := isA_cons ia
    obtain ⟨v3, w3, rfl, i3, ia⟩ := isA_cons ia
    simp only [IsA] at ia
    subst ia
    obtain ⟨t1, a, us, rfl, q1, j1⟩ := seq_x i1 e1
    obtain ⟨t2, b, ws, rfl, q2, j2⟩ := seq_x i2 e2
    obtain ⟨t3, c, zs, rfl, q3, j3⟩ := seq_x i3 e3
    exact ⟨t1, t2, t3, a, b, c, us, ws, zs, rfl, ⟨q1.mono sb, q2.mono sb, q3.mono sb⟩, go _ (iz3_is q1 q2 q3 j1 j2 j3)⟩
  · cases er
theorem di_enum {e : Expr} {as : M (List Rs)} {p pos tpos : Pos} {elts : List Expr} {kk : Nat} (hg : Gl X "enumerate") (hm : X.mg "enumerate" = none) (ha : PA X [e] (tA X.K W as))
    (hs : starEach [e] X.env = [(false, eval e X.env)] := by rfl) :
    PI X (.Tuple elts kk tpos) (.Call (.Name "enumerate" p) [e] [] pos) (tI X.K W (mSeqs enD as)) := by
  refine PI.imp (pi_en hg hm ha hs) fun σ H R h => tI_seqs h fun Hb H1 ds vs xss xs sb ia es er go => ?_
  unfold enD at er
  split at er
  · cases er
    obtain ⟨d1, r1, rfl, e1, es⟩ := seqs_cons es
    cases seqs_nil es
    obtain ⟨v1, w1, rfl, i1, ia⟩ := isA_cons ia
    simp only [IsA] at ia
    subst ia
    obtain ⟨t1, a, us, rfl, q1, j1⟩ := seq_x i1 e1
    exact ⟨t1, a, us, rfl, q1.mono sb, go _ (ie_is q1 j1)⟩
  · cases er
end
end DL

namespace DL
open PySem L2 PyProof.Rows
section
variable {X : Cx} {pins : List (Addr × Obj)} {σ : L2.St} {H : Hp} {s : Shared}
/-- an object of ours, not there at the entry, is tracked from now on -/
theorem inv_track {a : Addr} {o : HO} {oe : Obj} {vs : Array Value} (I : Inv X pins σ H s) (ha : s.heap.get? a = some oe) (hd : oe.data = .fields vs) (na : H a = none) (nL : a ≠ X.env.locals) (nF : a ∉ X.fs) (n0 : X.s_0.heap.get? a = none) (np : ∀ p ∈ X.pn ++ pins, p.1 ≠ a)
    (new : ObjOk X.prog X.w (upd H a o) s.heap a o) : Inv X pins σ (upd H a o) s := by
  have neC : ∀ x c, X.env.cells.lookup x = some c → c ≠ a := fun x c e z => by
    obtain ⟨v, ob, h1, h2⟩ := I.cell x c e
    rw [z, ha] at h1; cases h1
    rw [hd] at h2; cases h2
  refine ⟨I.ok, I.os, I.bare, ⟨I.base.keep, I.base.slot, fun b ob e n hx => ?_, I.base.there, fun b xs e => ?_, fun b ob u e => ?_, fun b ps e => ?_⟩, I.loc, I.cell, ?_, fun x c e => ?_, fun p hp => ?_, fun b u e => ?_, I.len⟩
  · rw [upd_ne (fun z => by rw [z, n0] at e; cases e)]; exact I.base.free b ob e n hx
  · have q := I.base.tups b xs e
    rw [upd_ne (ne_of_none q na)]; exact q
  · have q := I.base.frzs b ob u e
    rw [upd_ne (ne_of_none q na)]; exact q
  · obtain ⟨m, q⟩ := I.base.tbls b ps e
    exact ⟨m, by rw [upd_ne (ne_of_none q na)]; exact q⟩
  · rw [upd_ne (Ne.symm nL)]; exact I.free
  · rw [upd_ne (neC x c e)]; exact I.freeC x c e
  · obtain ⟨e, n, r⟩ := I.pin p hp
    exact ⟨e, by rw [upd_ne (np p hp)]; exact n, r⟩
  · by_cases hb : b = a
    · subst hb
      rw [upd_same] at e; cases e
      exact new
    · rw [upd_ne hb] at e
      exact (I.hok b u e).stay (fun _ _ _ q => q) (fun c q => by rw [upd_ne (ne_of_none q na)]; exact q) fun c xs q => by rw [upd_ne (ne_of_none q na)]; exact q
theorem inv_suite {a : Addr} (I : Inv X pins σ H s) : Inv (X.suite a (X.pn ++ pins)) [] σ H s :=
  ⟨I.ok.suite _ _, I.os, I.bare, I.base, I.loc, I.cell, I.free, I.freeC, fun p hp => I.pin p (by rw [List.append_nil] at hp; exact hp), I.hok, I.len⟩
theorem inv_unsuite {a : Addr} {pn' : List (Addr × Obj)} (I : Inv (X.suite a (X.pn ++ pins)) pn' σ H s) (ok : X.Ok) : Inv X pins σ H s :=
  ⟨ok, I.os, I.bare, I.base, I.loc, I.cell, I.free, I.freeC, fun p hp => I.pin p (List.mem_append_left _ hp), I.hok, I.len⟩
theorem exh_ok {P : Program} {w : World} {H : Hp} {h : Heap} {a c : Addr} {d : Option Addr} {oe : Obj} {vs : Array Value} (e : h.get? a = some oe) (z : Zc (.ref c) d oe) (hd : oe.data = .fields vs) : ObjOk P w H h a (ExH c d a) :=
  ⟨⟨oe, vs, e, z.1, z.2, hd⟩, ⟨oe, e⟩, fun _ _ ⟨o, v, q, r⟩ k => ⟨o, v, k o q, r⟩⟩
end
/-- what the clause wishes: the exception is kept in sight -/
def wTr (K : PySem.W.Frag) (c : Value) (i : Nat) (ts : TS) (Wout : WX) (D : Ends) : WX := fun cls d σ H =>
  ∃ b, PySem.W.exmOne K cls c = some b ∧ (b = true → ∀ a, H a = none → ∃ cc, cls = .ref cc ∧ ts { nx := fun σ' H' => D.nx (σ'.set i none) H', rt := D.rt, bk := fun σ' H' => D.bk (σ'.set i none) H', ct := fun σ' H' => D.ct (σ'.set i none) H' } (σ.set i (some (.ref a))) (upd H a (ExH cc d a))) ∧
    (b = false → Wout cls d σ H)
/-- an exception object a that has come up to this frame, the heap being h: below it the state sI, a state of ours -/
structure Seen (X : Cx) (pins : List (Addr × Obj)) (σ : L2.St) (H : Hp) (sI s : Shared) (a : Addr) (B : Heap) (cls : Value) (d : Option Addr) (h : Heap) : Prop where
  low : Inv X pins σ H sI
  nb : ∀ b o, sI.heap.get? b = some o → b ∉ frs X.stack → B.get? b = some o
  up : sI.heap.UpToSlots h
  fl : HandSPX.FlyingZ B X.stack a (Zc cls d) h
  na : H a = none
  os : s.os = sI.os
  ag : AllBare s.gens
section
variable {X : Cx} {pins : List (Addr × Obj)} {σ : L2.St} {H : Hp} {sI s : Shared} {a : Addr} {B : Heap} {cls : Value} {d : Option Addr} {h : Heap}
theorem Seen.next {h2 : Heap} (S : Seen X pins σ H sI s a B cls d h) (fl : HandSPX.FlyingZ B X.stack a (Zc cls d) h2) (up : h.UpToSlots h2) : Seen X pins σ H sI s a B cls d h2 := { S with up := S.up.trans up, fl := fl }
theorem Seen.inv (S : Seen X pins σ H sI s a B cls d h) : Inv X pins σ H { s with heap := h } := Inv.landed (s' := { s with heap := h }) S.low S.nb S.fl.1 S.up S.os S.ag
theorem Seen.obj (S : Seen X pins σ H sI s a B cls d h) : ∃ oe vs, h.get? a = some oe ∧ Zc cls d oe ∧ oe.data = .fields vs := by
  obtain ⟨_, _, _, oe, vs, _, _, _, q1, q2, q3, _⟩ := S.fl
  exact ⟨oe, vs, q1, q2, q3⟩
/-- it is none of the frames: a frame's object holds no fields -/
theorem Seen.noFrame (S : Seen X pins σ H sI s a B cls d h) : a ∉ frs X.stack := fun m => by
  obtain ⟨oe, vs, q, _, qd⟩ := S.obj
  obtain ⟨_, o, qo, no⟩ := S.fl.2.2.1.mem m
  rw [q] at qo
  exact no _ ((Option.some.inj qo) ▸ qd)
theorem Seen.fresh (S : Seen X pins σ H sI s a B cls d h) : sI.heap.get? a = none := by
  by_cases q : ∃ o, sI.heap.get? a = some o
  · obtain ⟨o, q⟩ := q
    have := S.nb a o q S.noFrame
    rw [S.fl.2.1] at this
    cases this
  · cases e : sI.heap.get? a with
    | none => rfl
    | some o => exact (q ⟨o, e⟩).elim
/-- from now on it is an object of ours -/
theorem Seen.track {cc : Addr} (S : Seen X pins σ H sI s a B (.ref cc) d h) (hs : X.stack = X.env :: X.outer) (hf : X.env.frame = some X.env.locals) (hex : X.ex = []) : Inv X pins σ (upd H a (ExH cc d a)) { s with heap := h } := by
  obtain ⟨oe, vs, q, z, qd⟩ := S.obj
  have nf := S.noFrame
  rw [hs] at nf
  refine inv_track S.inv q qd S.na (fun e => nf ?_) (fun m => nf ?_) ?_ (fun p hp e => ?_) (exh_ok q z qd)
  · exact List.mem_filterMap.mpr ⟨_, .head _, by rw [e]; exact hf⟩
  · obtain ⟨v, hv, e⟩ := List.mem_filterMap.mp m
    exact List.mem_filterMap.mpr ⟨v, .tail _ hv, e⟩
  · cases e : X.s_0.heap.get? a with
    | none => rfl
    | some o =>
      obtain ⟨_, z⟩ := S.low.base.there a o e (by rw [hex]; exact List.not_mem_nil)
      rw [S.fresh] at z; cases z
  · have := (S.low.pin p hp).1
    rw [e, S.fresh] at this
    cases this
/-- no clause is left: it goes up -/
theorem Seen.leave {Wout : WX} {Q : Flow → Shared → Prop} (S : Seen X pins σ H sI s a B cls d h) (hf : X.env.frame = some X.env.locals) (tk : Takes X Wout) (w : Wout cls d σ H) :
    wpAny (model X.prog X.w) X.A (handleBy (.ref a) X.env []) Q X.xe { s with heap := h } := by
  have up : ∀ Q' : Unit → Shared → Prop, (∀ s', XE X Wout (.ref a) s' → Q' () s') → wpAny (model X.prog X.w) X.A (setFlight (.ref a) X.env.frame) Q' X.xe { s with heap := h } := fun Q' k => by
    rw [hf]
    exact HandSPX.setFlight_upZ S.fl fun h2 q2 u2 => k _ ⟨a, B, sI, pins, σ, H, cls, d, rfl, S.low, S.nb, S.up.trans u2, .inr (.inr q2), S.na, S.os, S.ag, w⟩
  refine wpAny_handleBy_nil ?_
  obtain ⟨_, _, _, _, _, T, _, _, q, _, qd, q1, _⟩ := S.fl
  unfold PySem.passOn
  refine wpAny_bind (wpAny_field q qd q1 ?_)
  have nn : ¬ ((Value.ref T == Value.none) = true) := by simp
  rw [if_neg nn]
  first
    | exact wpAny_bind (wpAny_pure (wpAny_bind (up _ fun s' e => wpAny_throw (tk _ _ e))))
    | exact wpAny_bind (up _ fun s' e => wpAny_throw (tk _ _ e))
end
section
variable {X : Cx} {x n : Str} {c : Value} {i : Nat} {body suite : List Stmt} {b₀ : Stmt} {np pos pos' : Pos} {tb : WX → TS} {ts : TS} {Wout : WX}
/-- the name of the exception is taken back behind the suite, whichever way it ended -/
theorem behind {pins : List (Addr × Obj)} {D : Ends} {a : Addr} {pn : List (Addr × Obj)} {s : Shared} (ok : X.Ok) (hN : X.N.Nodup) (hi : X.N[i]? = some n) (hln : X.env.kindOf n = some .local) (e : pn = X.pn ++ pins) (f : Flow)
    (h : SP (X.suite a pn) [] { nx := fun σ' H' => D.nx (σ'.set i none) H', rt := D.rt, bk := fun σ' H' => D.bk (σ'.set i none) H', ct := fun σ' H' => D.ct (σ'.set i none) H' } f s)
    {G : Shared → Prop} (g : ∀ s', SP X pins D f s' → G s') : wpAny (model X.prog X.w) X.A (do bindName X.env n .none; unbindBehindTheSuite X.env n pos') (fun _ s' => G s') X.xe s := by
  subst e
  cases f with
  | ret u =>
    obtain ⟨v, σ, H, I, r, q⟩ := h
    exact gone_ok (inv_unsuite I ok) hN hi hln fun s' J => g s' ⟨v, _, _, J, r, q⟩
  | next =>
    obtain ⟨σ, H, I, q⟩ := h
    exact gone_ok (inv_unsuite I ok) hN hi hln fun s' J => g s' ⟨_, _, J, q⟩
  | brk =>
    obtain ⟨σ, H, I, q⟩ := h
    exact gone_ok (inv_unsuite I ok) hN hi hln fun s' J => g s' ⟨_, _, J, q⟩
  | cont =>
    obtain ⟨σ, H, I, q⟩ := h
    exact gone_ok (inv_unsuite I ok) hN hi hln fun s' J => g s' ⟨_, _, J, q⟩
/-- one clause asks the exception's class -/
theorem ask {pins : List (Addr × Obj)} {σ : L2.St} {H : Hp} {sI s : Shared} {a : Addr} {B : Heap} {cls : Value} {d : Option Addr} {h : Heap} {b : Bool} {E : Value → Shared → Prop} {Q : Bool → Shared → Prop}
    (S : Seen X pins σ H sI s a B cls d h) (hc : Names X x c) (hb : PySem.W.exmOne X.K cls c = some b) (q : wpAny (model X.prog X.w) (X.A.mark (some (.ref a))) (excMatches (.ref a) c) Q E { s with heap := h }) :
    wpAny (model X.prog X.w) (X.A.mark (some (.ref a))) (eval (.Name x np) X.env) (fun t s' => wpAny (model X.prog X.w) (X.A.mark (some (.ref a))) (excMatches (.ref a) t) Q E s') E { s with heap := h } := by
  have I := inv_suite (a := a) S.inv
  obtain ⟨hg, hd, q1 | ⟨q1, q2, q3⟩⟩ := hc
  · exact ld_glob (X := X.suite a (X.pn ++ pins)) I hg q1 q hd
  · exact ld_blt (X := X.suite a (X.pn ++ pins)) I hg q1 q2 q q3 hd
theorem ps_try_tr (hs : X.stack = X.env :: X.outer) (hf : X.env.frame = some X.env.locals) (hN : X.N.Nodup) (hi : X.N[i]? = some n) (hln : X.env.kindOf n = some .local) (hc : Names X x c) (tk : Takes X Wout)
    (hb : ∀ (W : WX) (pn : List (Addr × Obj)) (xe : Value → Shared → Prop), Takes (X.tr pn xe) W → PassesOwn (model X.prog X.w) X.A X.env xe → PSs (X.tr pn xe) body (tb W))
    (hsu : ∀ (a : Addr) (pn : List (Addr × Obj)), PSs (X.suite a pn) (b₀ :: suite) ts) (hex : X.ex = []) :
    PS X (.Try body [.ExceptHandler (some (.Name x np)) (some n) (b₀ :: suite) pos'] [] [] pos) (fun D σ H => tb (wTr X.K c i ts Wout D) D σ H) := by
  refine ⟨fun pins s σ H D I wish => ?_⟩
  have ok := I.ok
  -- what comes up from the body is caught or goes on
  have caught : ∀ u s', XE (X.tr (X.pn ++ pins) (fun e s₁ => wpAny (model X.prog X.w) X.A (noteFrame e X.env) (fun _ s₂ => wpAny (model X.prog X.w) X.A (setFlight e none) (fun _ s₃ =>
      wpAny (model X.prog X.w) X.A (handleBy e X.env [.ExceptHandler (some (.Name x np)) (some n) (b₀ :: suite) pos']) (SP X pins D) X.xe s₃) X.xe s₂) X.xe s₁)) (wTr X.K c i ts Wout D) u s' →
      wpAny (model X.prog X.w) X.A (noteFrame u X.env) (fun _ s₂ => wpAny (model X.prog X.w) X.A (setFlight u none) (fun _ s₃ =>
      wpAny (model X.prog X.w) X.A (handleBy u X.env [.ExceptHandler (some (.Name x np)) (some n) (b₀ :: suite) pos']) (SP X pins D) X.xe s₃) X.xe s₂) X.xe s' := by
    rintro u s' ⟨a, B, sI, pins', σ', H', cls, d, rfl, low, nb, up, sky, na, os, ag, b, eb, yes, no⟩
    have sky : Sky B (X.env :: X.outer) a (Zc cls d) X.env.locals s'.heap := hs ▸ sky
    refine sky.land Zc.steady (by rw [ok.frames, hs]) hf fun h1 q1 u1 => ?_
    have S : Seen X pins σ' H' sI s' a B cls d h1 := ⟨low.ofTry ok, nb, up.trans u1, hs.symm ▸ q1, na, os, ag⟩
    refine wpAny_handleBy_cons (codeAny_handlers_test ?_) (by intro q; cases q)
    obtain ⟨oe, vs, g1, z1, _⟩ := S.obj
    refine ask S hc eb ((PySem.W.exm_one S.inv.kIn (fun A Q E t k q => wpAny_typeOf_ref (k _ _ g1) (by rw [z1.1]; exact q)) eb).here ?_)
    cases b with
    | false => exact S.leave hf tk (no rfl)
    | true =>
      refine codeAny_handlers_suite_as (HandSPX.lands_againZ S.fl fun h2 q2 u2 => ?_)
      have S2 := S.next q2 u2
      obtain ⟨cc, rfl, w2⟩ := yes rfl a na
      refine store_ok (X := X.suite a (X.pn ++ pins)) (v := .ref a) (inv_suite (S2.track hs hf hex)) hN hi (.inl hln) rfl (fun s5 I5 => ?_) (.inr hln)
      exact wpAny_mono ((hsu a (X.pn ++ pins)).run [] s5 _ _ _ I5 w2) (fun f s6 q => behind ok hN hi hln rfl f q fun _ r => r) fun _ _ z => z.elim
  -- the body's other ends are the clause's own
  have ends : ∀ f s1, SP (X.tr (X.pn ++ pins) (fun e s₁ => wpAny (model X.prog X.w) X.A (noteFrame e X.env) (fun _ s₂ => wpAny (model X.prog X.w) X.A (setFlight e none) (fun _ s₃ =>
      wpAny (model X.prog X.w) X.A (handleBy e X.env [.ExceptHandler (some (.Name x np)) (some n) (b₀ :: suite) pos']) (SP X pins D) X.xe s₃) X.xe s₂) X.xe s₁)) [] D f s1 → SP X pins D f s1 := fun f s1 q => by
    cases f with
    | ret u => exact let ⟨v, σ', H', J, r, w⟩ := q; ⟨v, σ', H', J.ofTry ok, r, w⟩
    | next => exact let ⟨σ', H', J, w⟩ := q; ⟨σ', H', J.ofTry ok, w⟩
    | brk => exact let ⟨σ', H', J, w⟩ := q; ⟨σ', H', J.ofTry ok, w⟩
    | cont => exact let ⟨σ', H', J, w⟩ := q; ⟨σ', H', J.ofTry ok, w⟩
  refine wpAny_Try_except (wpAny_mono ((hb (wTr X.K c i ts Wout D) (X.pn ++ pins) _ caught PassesOwn.looking).run [] s σ H D (I.toTry _) wish) (fun f s1 q => ?_) fun _ _ q => q)
  have r := ends f s1 q
  cases f with
  | next => exact wpAny_execs_nil r
  | _ => exact r
end
/-- which class stands under which -/
def subK (j k : Nat) : Bool := j == k || k == 0
def unR (i : Nat) : Out → Out
  | .nx ρ => if isIo ρ[i]? = false then .nx (ρ.set i .un) else .stuck
  | .bk ρ => if isIo ρ[i]? = false then .bk (ρ.set i .un) else .stuck
  | .ct ρ => if isIo ρ[i]? = false then .ct (ρ.set i .un) else .stuck
  | .rt (.va d) ρ => .rt (.va d) ρ
  | .rt (.fr d) ρ => .rt (.fr d) ρ
  | _ => .stuck
/-- try: body, except class k as slot i: suite; cl: the classes that may come -/
def nTry (cl : List Nat) (nb : N) (k i : Nat) (ns : N) : N := fun ρ => match nb ρ with
  | .er e ρ1 => if cl.contains e.cls = true then (if subK e.cls k = true then (if i < ρ1.length ∧ isIo ρ1[i]? = false then unR i (ns (ρ1.set i (.va (.exc e.cls e.x)))) else .stuck) else .er e ρ1) else .stuck
  | o => o
section
variable {K : PySem.W.Frag} {σ : L2.St} {H Hb : Hp} {ρ : Rho}
theorem SteS.un {i : Nat} (S : StR K Hb σ ρ H) (nio : isIo ρ[i]? = false) : SteS K Hb σ ρ H Hb (σ.set i none) (ρ.set i .un) H := by
  have own : ∀ {j b}, OwnAt (σ.set i none) (ρ.set i .un) j b → OwnAt σ ρ j b := fun {j b} h => by
    obtain ⟨e, io, xs, q⟩ := h
    by_cases hij : i = j
    · subst hij
      by_cases hl : i < ρ.length
      · rw [List.getElem?_set_self hl] at q; cases q
      · rw [List.getElem?_eq_none (by rw [List.length_set]; omega)] at q; cases q
    · rw [List.getElem?_set_ne hij] at e q
      exact ⟨e, io, xs, q⟩
  refine ⟨fun _ _ e _ => e, fun _ e => e, Same.refl _, fun _ _ _ n _ => n, fun b ⟨j, h⟩ => .inl ⟨j, own h⟩, fun j xs h => ?_, by rw [List.length_set], ⟨S.sub, by rw [List.length_set, List.length_set]; exact S.len, fun j s e => ?_, fun j k b hj hk => S.dis j k b (own hj) (own hk)⟩⟩
  · have hij : i ≠ j := fun z => by subst z; rw [h] at nio; cases nio
    exact ⟨List.getElem?_set_ne hij, xs, by rw [List.getElem?_set_ne hij]; exact h⟩
  · by_cases hij : i = j
    · subst hij
      have hl : i < ρ.length := by have := (List.getElem?_eq_some_iff.mp e).1; rw [List.length_set] at this; exact this
      rw [List.getElem?_set_self hl] at e; cases e
      exact ⟨none, List.getElem?_set_self (by rw [S.len]; exact hl), trivial⟩
    · rw [List.getElem?_set_ne hij] at e
      obtain ⟨o, e1, e2⟩ := S.sl j s e
      exact ⟨o, by rw [List.getElem?_set_ne hij]; exact e1, e2⟩
end
section
variable {X : Cx} {W : WX}
/-- the classes at cl are told rightly by the clause's class c -/
def ExmOk (K : PySem.W.Frag) (cl : List Nat) (k : Nat) (c : Value) : Prop := ∀ j cc, cl.contains j = true → ClsAt K j cc → PySem.W.exmOne K (.ref cc) c = some (subK j k)
theorem dn_try {cl : List Nat} {k i : Nat} {x n : Str} {c : Value} {body suite : List Stmt} {b₀ : Stmt} {np pos pos' : Pos} {nb ns : N} (hs : X.stack = X.env :: X.outer) (hf : X.env.frame = some X.env.locals) (hex : X.ex = []) (hN : X.N.Nodup) (hi : X.N[i]? = some n) (hln : X.env.kindOf n = some .local) (hc : Names X x c) (tk : Takes X W) (hx : ExmOk X.K cl k c)
    (hb : ∀ (W' : WX) (pn : List (Addr × Obj)) (xe : Value → Shared → Prop), Takes (X.tr pn xe) W' → PassesOwn (model X.prog X.w) X.A X.env xe → PSs (X.tr pn xe) body (tN X.K W' nb))
    (hsu : ∀ (a : Addr) (pn : List (Addr × Obj)), PSs (X.suite a pn) (b₀ :: suite) (tN X.K W0 ns)) :
    PS X (.Try body [.ExceptHandler (some (.Name x np)) (some n) (b₀ :: suite) pos'] [] [] pos) (tN X.K W (nTry cl nb k i ns)) := by
  refine PS.imp (ps_try_tr (tb := fun W' => tN X.K W' nb) (ts := tN X.K W0 ns) (Wout := W) hs hf hN hi hln hc tk hb hsu hex) fun D σ H h => ?_
  obtain ⟨Hb, ρ, S, P⟩ := h
  refine ⟨Hb, ρ, S, ?_⟩
  unfold nTry at P
  cases eb : nb ρ with
  | stuck => rw [eb] at P; exact P
  | nx ρ1 => rw [eb] at P; exact P
  | bk ρ1 => rw [eb] at P; exact P
  | ct ρ1 => rw [eb] at P; exact P
  | rt r ρ1 => rw [eb] at P; exact P
  | er e ρ1 =>
    rw [eb] at P
    intro d σ1 H1 Hb1 s1 ex
    simp only at P
    obtain ⟨cc, hcc, hd1, hdat⟩ := ex
    by_cases hcl : cl.contains e.cls = true
    · rw [if_pos hcl] at P
      have em := hx e.cls cc hcl hcc
      refine ⟨subK e.cls k, by rw [hd1]; exact em, fun hb => ?_, fun hb => ?_⟩
      · rw [if_pos hb] at P
        by_cases hio : i < ρ1.length ∧ isIo ρ1[i]? = false
        · rw [if_pos hio] at P
          intro a ha
          refine ⟨cc, hd1, ?_⟩
          -- the state with the exception in sight
          have S1 := s1.st
          have g : Gro Hb1 H1 (upd Hb1 a (ExH cc d.2 a)) (upd H1 a (ExH cc d.2 a)) := Gro.newT S1.sub ha
          have iv : Is X.K (upd Hb1 a (ExH cc d.2 a)) (.exc e.cls e.x) (.ref a) := by
            simp only [Is]
            refine ⟨a, cc, hcc, rfl, ?_⟩
            rcases hdat with ⟨h0, h1, h2⟩ | ⟨h0, dd, f, y, h1, h2, h3⟩
            · exact .inl ⟨h0, h1, by rw [h2]; exact upd_same⟩
            · exact .inr ⟨h0, dd, f, y, by rw [h1]; exact upd_same, Same.new (Same.none S1.sub ha) _ _ h2, Is.mono (Same.new (Same.none S1.sub ha)) _ _ h3⟩
          have s2 := SteS.storeV S1 (g.ste S1) hio.1 (nio_of hio.2) iv
          refine ⟨_, _, s2.st, ?_⟩
          have P1 := PostS.back (s1.trans s2) P
          cases en : ns (ρ1.set i (.va (.exc e.cls e.x))) with
          | stuck => rw [en] at P1; exact P1
          | er e2 ρ2 => rw [en] at P1; exact P1.elim
          | nx ρ2 =>
            rw [en] at P1
            simp only [unR] at P1
            by_cases hq : isIo ρ2[i]? = false
            · rw [if_pos hq] at P1
              exact fun σ3 H3 Hb3 s3 => P1 _ H3 Hb3 (s3.trans (SteS.un s3.st hq))
            · rw [if_neg hq] at P1; exact P1.elim
          | bk ρ2 =>
            rw [en] at P1
            simp only [unR] at P1
            by_cases hq : isIo ρ2[i]? = false
            · rw [if_pos hq] at P1
              exact fun σ3 H3 Hb3 s3 => P1 _ H3 Hb3 (s3.trans (SteS.un s3.st hq))
            · rw [if_neg hq] at P1; exact P1.elim
          | ct ρ2 =>
            rw [en] at P1
            simp only [unR] at P1
            by_cases hq : isIo ρ2[i]? = false
            · rw [if_pos hq] at P1
              exact fun σ3 H3 Hb3 s3 => P1 _ H3 Hb3 (s3.trans (SteS.un s3.st hq))
            · rw [if_neg hq] at P1; exact P1.elim
          | rt r ρ2 =>
            rw [en] at P1
            cases r with
            | al j => exact P1.elim
            | va dv => exact P1
            | fr dv => exact P1
        · rw [if_neg hio] at P; exact P.elim
      · rw [if_neg (by rw [hb]; exact Bool.false_ne_true)] at P
        exact P d σ1 H1 Hb1 s1 ⟨cc, hcc, hd1, hdat⟩
    · rw [if_neg hcl] at P; exact P.elim
end
/-! ### isinstance of exceptions -/
def rIsX (K : PySem.W.Frag) : List V → Hp → VK → Prop := fun xs H Q => ∃ (a D : Addr) (c : V) (cv : Value) (b : Bool), xs = [.ref a, c] ∧ (∀ u, RelV c u → u = cv) ∧ H a = some (ExH D none a) ∧ ExcC K D ∧ PySem.W.kitOne K (.ref D) cv = some b ∧ Q (.bl b) H
theorem call_isX {X : Cx} : CallR X (.builtin "isinstance") (rIsX X.K) := by
  intro pins s σ H xs us Q I r h
  obtain ⟨a, D, c, cv, b, rfl, hcv, hH, C, e, q⟩ := h
  obtain ⟨u1, u2, rfl, r1, r2⟩ := vals2 r
  cases (show u1 = Value.ref a from r1)
  cases hcv _ r2
  obtain ⟨⟨oe, vs, hget, h1, h2, hv⟩, _⟩ := (show ObjOk X.prog X.w H s.heap a (ExH D none a) from I.hok a _ hH)
  have J : PySem.W.InstAt s.heap a oe D none := by
    obtain ⟨oc, od, oda, osl⟩ := oe
    dsimp only at h1 h2 hv
    subst h1 h2 hv
    exact ⟨hget, rfl, rfl, trivial⟩
  exact PySem.W.kia_one (PySem.W.handS_kitx_exc C.hg C.hk C.hs C.hd C.ha C.hn C.ht C.hm) I.kIn J e (fun z => nomatch z) fun tk => ⟨.bl b, H, I.kept (t' := tk) fun _ _ z => z, rfl, q⟩
structure IsiOk (K : PySem.W.Frag) (cl ks : List Nat) : Prop where
  ex : ∀ j c, cl.contains j = true → ClsAt K j c → ExcC K c
  kk : ∀ j c k c', cl.contains j = true → ks.contains k = true → ClsAt K j c → ClsAt K k c' → PySem.W.kitOne K (.ref c) (.ref c') = some (subK j k)
  kn : ∀ k c', ks.contains k = true → ClsAt K k c' → PySem.W.kitOne K (.type "NoneType") (.ref c') = some false
  kv : ∀ j c, cl.contains j = true → ClsAt K j c → PySem.W.kitOne K (.ref c) (.type "ValueError") = some true
def isiE (cl ks : List Nat) : List DL.D → Option Rs
  | [.exc j .non, .cls k] => if (decide (j < 11) && (cl.contains j && ks.contains k)) = true then some (.va (.bl (subK j k))) else none
  | [.non, .cls k] => if ks.contains k = true then some (.va (.bl false)) else none
  | [.exc j .non, .ty n] => if (decide (j < 11) && (cl.contains j && n == "ValueError")) = true then some (.va (.bl true)) else none
  | ds => isiD ds
section
variable {K : PySem.W.Frag}
theorem is_exc {Hb H : Hp} {j : Nat} {v : V} (hj : j < 11) (s : Same Hb H) (h : RdR K Hb H (.exc j .non) v) : ∃ a c, ClsAt K j c ∧ v = .ref a ∧ H a = some (ExH c none a) := by
  rcases h with h | ⟨_, _, _, e, _⟩
  · simp only [Is] at h
    obtain ⟨a, c, hc, rfl, h | ⟨hk, _⟩⟩ := h
    · exact ⟨a, c, hc, rfl, s _ _ h.2.2⟩
    · omega
  · cases e
theorem is_cls {Hb H : Hp} {k : Nat} {v : V} (h : RdR K Hb H (.cls k) v) : ∃ c, ClsAt K k c ∧ v = .ref c := by
  rcases h with h | ⟨_, _, _, e, _⟩
  · simpa only [Is] using h
  · cases e
theorem is_ty {Hb H : Hp} {n : String} {v : V} (h : RdR K Hb H (.ty n) v) : v = .ty n := by
  rcases h with h | ⟨_, _, _, e, _⟩
  · simpa only [Is] using h
  · cases e
theorem cd_isiE {cl ks : List Nat} (O : IsiOk K cl ks) : CallD K (fun xs H Q => rIsX K xs H Q ∨ rIsi K xs H Q) (isiE cl ks) := by
  intro Hb H xs ds res Q s r e q
  unfold isiE at e
  split at e
  · rename_i j k
    by_cases hc : (decide (j < 11) && (cl.contains j && ks.contains k)) = true
    · rw [if_pos hc] at e; cases e
      rw [Bool.and_eq_true] at hc
      obtain ⟨hj, hc⟩ := hc
      rw [Bool.and_eq_true] at hc
      obtain ⟨v, w, rfl, h, h2⟩ := pair2 r
      obtain ⟨a, c, h1, rfl, h3⟩ := is_exc (of_decide_eq_true hj) s h
      obtain ⟨c', h4, rfl⟩ := is_cls h2
      exact .inl ⟨a, c, .ref c', .ref c', _, rfl, fun u hu => hu, h3, O.ex j c hc.1 h1, O.kk j c k c' hc.1 hc.2 h1 h4, q _ Hb H (Gro.refl s) (Is.blI (K := K) (H := Hb))⟩
    · rw [if_neg hc] at e; cases e
  · rename_i k
    by_cases hc : ks.contains k = true
    · rw [if_pos hc] at e; cases e
      obtain ⟨v, w, rfl, h, h2⟩ := pair2 r
      obtain ⟨c', h4, rfl⟩ := is_cls h2
      exact .inr ⟨v, .ref c', .type "NoneType", .ref c', false, rfl, .own c', by rw [h.non]; exact .base .non, O.kn k c' hc h4, q _ Hb H (Gro.refl s) (Is.blI (K := K) (H := Hb))⟩
    · rw [if_neg hc] at e; cases e
  · rename_i j n
    by_cases hc : (decide (j < 11) && (cl.contains j && n == "ValueError")) = true
    · rw [if_pos hc] at e; cases e
      rw [Bool.and_eq_true] at hc
      obtain ⟨hj, hc⟩ := hc
      rw [Bool.and_eq_true] at hc
      have en : n = "ValueError" := by simpa using hc.2
      subst en
      obtain ⟨v, w, rfl, h, h2⟩ := pair2 r
      obtain ⟨a, c, h1, rfl, h3⟩ := is_exc (of_decide_eq_true hj) s h
      rw [is_ty h2]
      exact .inl ⟨a, c, .ty "ValueError", .type "ValueError", true, rfl, fun u hu => hu, h3, O.ex j c hc.1 h1, O.kv j c hc.1 h1, q _ Hb H (Gro.refl s) (Is.blI (K := K) (H := Hb))⟩
    · rw [if_neg hc] at e; cases e
  · exact .inr (cd_isi Hb H xs ds res Q s r e q)
end
end DL

namespace DL
open PySem L2 PyProof.Rows
/-- a block's names, by the names of the block around it -/
def relab (scope sc : Scope) : Scope :=
  { scope with names := scope.names.map fun p => (p.1, cond (p.2 == .free && sc.kind == .function && sc.names.lookup p.1 == some .cell) .cell p.2) }
theorem relab_eq {scope : Scope} {env : Env} : relabel scope env = relab scope env.scope := by
  unfold relabel relab
  congr 1
  refine List.map_congr_left fun p _ => ?_
  obtain ⟨n, k⟩ := p
  show (if (k == .free && env.scope.kind == .function && env.kindOf n == some .cell) = true then (n, NameKind.cell) else (n, k)) = (n, cond (k == .free && env.scope.kind == .function && env.kindOf n == some .cell) NameKind.cell k)
  cases (k == .free && env.scope.kind == .function && env.kindOf n == some .cell) <;> rfl
/-! ### max, min of one tuple of ints -/
def rMaxT (K : PySem.W.Frag) : List V → Hp → VK → Prop := fun vs H Q => ∃ (a : Addr) (ns : List Int), vs = [V.ref a] ∧ SqT K H a (ns.map V.int) ∧ 0 < ns.length ∧ ∀ m, m ∈ ns → (∀ y, y ∈ ns → y ≤ m) → Q (.int m) H
def rMinT (K : PySem.W.Frag) : List V → Hp → VK → Prop := fun vs H Q => ∃ (a : Addr) (ns : List Int), vs = [V.ref a] ∧ SqT K H a (ns.map V.int) ∧ 0 < ns.length ∧ ∀ m, m ∈ ns → (∀ y, y ∈ ns → m ≤ y) → Q (.int m) H
theorem int_at {ns : List Int} {its : List Value} (r : Vals (ns.map V.int) its) {i : Nat} {u : Value} (e : its.toArray[i]? = some u) : ∃ t, u = .int (ns.getD i 0) t := by
  obtain ⟨x, ex, rx⟩ := vals_at r e
  rw [List.getElem?_map] at ex
  cases en : ns[i]? with
  | none => rw [en] at ex; cases ex
  | some n =>
    rw [en] at ex
    cases ex
    obtain ⟨t, rfl⟩ := rx
    exact ⟨t, by rw [List.getD_eq_getElem?_getD, en]; rfl⟩
theorem getD_in {ns : List Int} {i : Nat} (h : i < ns.length) : ns.getD i 0 ∈ ns := by
  rw [List.getD_eq_getElem?_getD, List.getElem?_eq_getElem h]
  exact List.getElem_mem h
theorem in_getD {ns : List Int} {y : Int} (h : y ∈ ns) : ∃ i, i < ns.length ∧ ns.getD i 0 = y := by
  obtain ⟨i, hi, e⟩ := List.getElem_of_mem h
  exact ⟨i, hi, by rw [List.getD_eq_getElem?_getD, List.getElem?_eq_getElem hi]; exact e⟩
section
variable {X : Cx}
theorem after_it {s : Shared} {h' : Heap} {a : Addr} {o : Obj} (hk : ∀ b o', b ∉ [s.heap.objs.size] → (s.heap.push o).get? b = some o' → h'.get? b = some o') : ∀ b o', s.heap.get? b = some o' → h'.get? b = some o' := fun b o' e =>
  hk b o' (fun m => absurd (Heap.lt_size e) (by rw [List.mem_singleton.mp m]; exact Nat.lt_irrefl _)) (Heap.get?_push_of_some _ e)
theorem foot_it {s : Shared} {a : Addr} {o : Obj} (lt : a < s.heap.objs.size) : ∀ b ∈ [s.heap.objs.size, a], b < (s.heap.push o).objs.size := fun b hb => by
  rw [Heap.size_push]
  cases hb with
  | head => exact Nat.lt_succ_self _
  | tail _ hb =>
    rw [List.mem_singleton.mp hb]
    exact Nat.lt_succ_of_lt lt
theorem call_maxT (hc : X.calm = true) : CallR X (.builtin "max") (rMaxT X.K) := by
  intro pins s σ H vs us Q I r h
  obtain ⟨a, ns, rfl, hS, hne, q⟩ := h
  obtain ⟨its, rv, ob⟩ := inv_src (t := true) I hS
  have ob : s.heap.IsTuple a its.toArray := ob
  have lt := SrcOb.lt (t := true) ob
  have hl : its.toArray.size = ns.length := by rw [List.size_toArray, ← rv.length, List.length_map]
  rw [Vals.ref1 r]
  refine call_max_walk (wpAny_pyIter_tuple ob ⟨_, _, _, _, _, _, _, rfl, Walks.tuple (A := X.A.in1) (I.ok.hd hc) _ a (Nat.ne_of_lt lt) its.toArray, ⟨⟨_, Heap.get?_push_size _ rfl, rfl, rfl⟩, ob.at fun o e => Heap.get?_push_of_some _ e⟩, foot_it lt, by omega, CmpOf.ints_gt (fun i => ns.getD i 0) (fun _ _ e => int_at rv e), fun v h' tk e hk => ?_⟩)
  obtain ⟨t, rfl⟩ := int_at rv e
  obtain ⟨b1, b2⟩ := argBest_gt (fun i => ns.getD i 0) (its.toArray.size - 1)
  refine ⟨.int _, H, I.kept (after_it (a := a) hk), ⟨_, rfl⟩, q _ (getD_in (by omega)) fun y hy => ?_⟩
  obtain ⟨j, hj, rfl⟩ := in_getD hy
  exact b2 j (by omega)
theorem call_minT (hc : X.calm = true) : CallR X (.builtin "min") (rMinT X.K) := by
  intro pins s σ H vs us Q I r h
  obtain ⟨a, ns, rfl, hS, hne, q⟩ := h
  obtain ⟨its, rv, ob⟩ := inv_src (t := true) I hS
  have ob : s.heap.IsTuple a its.toArray := ob
  have lt := SrcOb.lt (t := true) ob
  have hl : its.toArray.size = ns.length := by rw [List.size_toArray, ← rv.length, List.length_map]
  rw [Vals.ref1 r]
  refine call_min_walk (wpAny_pyIter_tuple ob ⟨_, _, _, _, _, _, _, rfl, Walks.tuple (A := X.A.in1) (I.ok.hd hc) _ a (Nat.ne_of_lt lt) its.toArray, ⟨⟨_, Heap.get?_push_size _ rfl, rfl, rfl⟩, ob.at fun o e => Heap.get?_push_of_some _ e⟩, foot_it lt, by omega, CmpOf.ints_lt (fun i => ns.getD i 0) (fun _ _ e => int_at rv e), fun v h' tk e hk => ?_⟩)
  obtain ⟨t, rfl⟩ := int_at rv e
  obtain ⟨b1, b2⟩ := argBest_lt (fun i => ns.getD i 0) (its.toArray.size - 1)
  refine ⟨.int _, H, I.kept (after_it (a := a) hk), ⟨_, rfl⟩, q _ (getD_in (by omega)) fun y hy => ?_⟩
  obtain ⟨j, hj, rfl⟩ := in_getD hy
  exact b2 j (by omega)
end
def maxI : Int → List Int → Int
  | m, [] => m
  | m, n :: ns => maxI (if n > m then n else m) ns
def minI : Int → List Int → Int
  | m, [] => m
  | m, n :: ns => minI (if n < m then n else m) ns
theorem maxI_ok : ∀ (ns : List Int) (m : Int), maxI m ns ∈ m :: ns ∧ ∀ y ∈ m :: ns, y ≤ maxI m ns
  | [], m => ⟨.head _, fun y h => by rw [List.mem_singleton.mp h]; exact Int.le_refl _⟩
  | n :: ns, m => by
    obtain ⟨h1, h2⟩ := maxI_ok ns (if n > m then n else m)
    show maxI (if n > m then n else m) ns ∈ _ ∧ ∀ y ∈ m :: n :: ns, y ≤ maxI (if n > m then n else m) ns
    have h3 := h2 _ (.head _)
    constructor
    · rcases List.mem_cons.mp h1 with e | e
      · rw [e]; split
        · exact .tail _ (.head _)
        · exact .head _
      · exact .tail _ (.tail _ e)
    · intro y hy
      rcases List.mem_cons.mp hy with rfl | hy
      · split at h3 <;> split <;> omega
      · rcases List.mem_cons.mp hy with rfl | hy
        · split at h3 <;> split <;> omega
        · exact h2 y (.tail _ hy)
theorem minI_ok : ∀ (ns : List Int) (m : Int), minI m ns ∈ m :: ns ∧ ∀ y ∈ m :: ns, minI m ns ≤ y
  | [], m => ⟨.head _, fun y h => by rw [List.mem_singleton.mp h]; exact Int.le_refl _⟩
  | n :: ns, m => by
    obtain ⟨h1, h2⟩ := minI_ok ns (if n < m then n else m)
    show minI (if n < m then n else m) ns ∈ _ ∧ ∀ y ∈ m :: n :: ns, minI (if n < m then n else m) ns ≤ y
    have h3 := h2 _ (.head _)
    constructor
    · rcases List.mem_cons.mp h1 with e | e
      · rw [e]; split
        · exact .tail _ (.head _)
        · exact .head _
      · exact .tail _ (.tail _ e)
    · intro y hy
      rcases List.mem_cons.mp hy with rfl | hy
      · split at h3 <;> split <;> omega
      · rcases List.mem_cons.mp hy with rfl | hy
        · split at h3 <;> split <;> omega
        · exact h2 y (.tail _ hy)
def maxTD : List DL.D → Option Rs
  | [.tup xs] => (match intsOf xs with
    | some (n :: ns) => some (.va (.int (maxI n ns)))
    | _ => none)
  | ds => max2D ds
def minTD : List DL.D → Option Rs
  | [.tup xs] => (match intsOf xs with
    | some (n :: ns) => some (.va (.int (minI n ns)))
    | _ => none)
  | ds => min2D ds
theorem cd_maxT {K : PySem.W.Frag} : CallD K (fun xs H Q => rMaxT K xs H Q ∨ ∃ i j, xs = [.int i, .int j] ∧ Q (.int (if j > i then j else i)) H) maxTD := by
  intro Hb H xs ds res Q s r e q
  unfold maxTD at e
  split at e
  · rename_i ys
    split at e
    · rename_i n ns ei
      cases e
      obtain ⟨v, rfl, h⟩ := pair1 r
      obtain ⟨p, vs, rfl, h1, i1⟩ := h.tup s
      rw [intsOf_is i1 ei] at h1
      refine .inl ⟨p, n :: ns, rfl, h1, Nat.succ_pos _, fun m hm hall => ?_⟩
      obtain ⟨g1, g2⟩ := maxI_ok ns n
      rw [Int.le_antisymm (g2 m hm) (hall _ g1)]
      exact q _ Hb H (Gro.refl s) (Is.intI (K := K) (H := Hb))
    · cases e
  · exact .inr (cd_max2 Hb H xs ds res Q s r e q)
theorem cd_minT {K : PySem.W.Frag} : CallD K (fun xs H Q => rMinT K xs H Q ∨ ∃ i j, xs = [.int i, .int j] ∧ Q (.int (if j < i then j else i)) H) minTD := by
  intro Hb H xs ds res Q s r e q
  unfold minTD at e
  split at e
  · rename_i ys
    split at e
    · rename_i n ns ei
      cases e
      obtain ⟨v, rfl, h⟩ := pair1 r
      obtain ⟨p, vs, rfl, h1, i1⟩ := h.tup s
      rw [intsOf_is i1 ei] at h1
      refine .inl ⟨p, n :: ns, rfl, h1, Nat.succ_pos _, fun m hm hall => ?_⟩
      obtain ⟨g1, g2⟩ := minI_ok ns n
      rw [Int.le_antisymm (hall _ g1) (g2 m hm)]
      exact q _ Hb H (Gro.refl s) (Is.intI (K := K) (H := Hb))
    · cases e
  · exact .inr (cd_min2 Hb H xs ds res Q s r e q)
end DL

namespace DL
open PySem L2 PyProof.Rows
/-! ### what a meaning comes to -/
def RW {α : Type} (x : Res α) (Q : α → Rho → Prop) (E : Exn → Rho → Prop) : Prop := match x with
  | .ok a ρ => Q a ρ
  | .er e ρ => E e ρ
  | .stuck => False
def OW (o : Out) (N : Rho → Prop) (R : Rs → Rho → Prop) (B C : Rho → Prop) (E : Exn → Rho → Prop) : Prop := match o with
  | .nx ρ => N ρ
  | .rt r ρ => R r ρ
  | .bk ρ => B ρ
  | .ct ρ => C ρ
  | .er e ρ => E e ρ
  | .stuck => False
def no {α : Sort _} : α → Rho → Prop := fun _ _ => False
section
variable {ρ : Rho} {E : Exn → Rho → Prop} {α : Type}
theorem RW.mono {x : Res α} {Q Q' : α → Rho → Prop} {E' : Exn → Rho → Prop} (h : RW x Q E) (q : ∀ a ρ, Q a ρ → Q' a ρ) (e : ∀ x ρ, E x ρ → E' x ρ) : RW x Q' E' := by
  cases x with
  | ok a ρ => exact q _ _ h
  | er a ρ => exact e _ _ h
  | stuck => exact h
theorem RW.eq {x : Res α} {Q : α → Rho → Prop} (h : RW x Q no) : ∃ a ρ, x = .ok a ρ ∧ Q a ρ := by
  cases x with
  | ok a ρ => exact ⟨a, ρ, rfl, h⟩
  | er a ρ => exact h.elim
  | stuck => exact h.elim
theorem OW.mono {o : Out} {N N' B B' C C' : Rho → Prop} {R R' : Rs → Rho → Prop} {E' : Exn → Rho → Prop} (h : OW o N R B C E) (h1 : ∀ ρ, N ρ → N' ρ) (h2 : ∀ r ρ, R r ρ → R' r ρ) (h3 : ∀ ρ, B ρ → B' ρ) (h4 : ∀ ρ, C ρ → C' ρ) (h5 : ∀ e ρ, E e ρ → E' e ρ) : OW o N' R' B' C' E' := by
  cases o with
  | nx ρ => exact h1 _ h
  | rt r ρ => exact h2 _ _ h
  | bk ρ => exact h3 _ h
  | ct ρ => exact h4 _ h
  | er e ρ => exact h5 _ _ h
  | stuck => exact h
theorem RW_bnd {β : Type} {m : Res α} {f : α → Rho → Res β} {Q : β → Rho → Prop} (h : RW m (fun a ρ1 => RW (f a ρ1) Q E) E) : RW (bnd m f) Q E := by
  cases m with
  | ok a ρ => exact h
  | er a ρ => exact h
  | stuck => exact h
theorem OW_ebnd {m : Res α} {f : α → Rho → Out} {N B C : Rho → Prop} {R : Rs → Rho → Prop} (h : RW m (fun a ρ1 => OW (f a ρ1) N R B C E) E) : OW (ebnd m f) N R B C E := by
  cases m with
  | ok a ρ => exact h
  | er a ρ => exact h
  | stuck => exact h
variable {Q : Rs → Rho → Prop} {QB : Bool → Rho → Prop} {QL : List Rs → Rho → Prop} {N B C : Rho → Prop} {R : Rs → Rho → Prop}
theorem wC {d : DL.D} (h : Q (.va d) ρ) : RW (mC d ρ) Q E := h
theorem wV {i : Nat} {d : DL.D} (e : ρ[i]? = some (.va d)) (h : Q (.va d) ρ) : RW (mV i ρ) Q E := by
  unfold mV; rw [e]; exact h
theorem wVo {i : Nat} {io : Bool} {xs : List DL.D} (e : ρ[i]? = some (.ow io xs)) (h : Q (.al i) ρ) : RW (mV i ρ) Q E := by
  unfold mV; rw [e]; exact h
theorem wBin {f : DL.D → DL.D → Option Rs} {a b : M Rs} (h : RW (a ρ) (fun x ρ1 => RW (b ρ1) (fun y ρ2 => ∃ dx dy r, rd ρ2 x = some dx ∧ rd ρ2 y = some dy ∧ f dx dy = some r ∧ Q r ρ2) E) E) : RW (mBin f a b ρ) Q E := by
  refine RW_bnd (h.mono (fun x ρ1 h => RW_bnd (h.mono (fun y ρ2 h => ?_) fun _ _ z => z)) fun _ _ z => z)
  obtain ⟨dx, dy, r, e1, e2, e3, q⟩ := h
  rw [e1, e2]; simp only [e3]; exact q
theorem wUn {f : DL.D → Option Rs} {a : M Rs} (h : RW (a ρ) (fun x ρ1 => ∃ dx r, rd ρ1 x = some dx ∧ f dx = some r ∧ Q r ρ1) E) : RW (mUn f a ρ) Q E := by
  refine RW_bnd (h.mono (fun x ρ1 h => ?_) fun _ _ z => z)
  obtain ⟨dx, r, e1, e2, q⟩ := h
  rw [e1]; simp only [e2]; exact q
theorem wTv {a : M Rs} (h : RW (a ρ) (fun x ρ1 => ∃ b, rd ρ1 x = some (.bl b) ∧ QB b ρ1) E) : RW (mTv a ρ) QB E := by
  refine RW_bnd (h.mono (fun x ρ1 h => ?_) fun _ _ z => z)
  obtain ⟨b, e1, q⟩ := h
  rw [e1]; exact q
theorem wAnd {a b : M Bool} (h : RW (a ρ) (fun c ρ1 => (c = true → RW (b ρ1) QB E) ∧ (c = false → QB false ρ1)) E) : RW (mAnd a b ρ) QB E := by
  refine RW_bnd (h.mono (fun c ρ1 h => ?_) fun _ _ z => z)
  cases c with
  | true => exact h.1 rfl
  | false => exact h.2 rfl
theorem wOr {a b : M Bool} (h : RW (a ρ) (fun c ρ1 => (c = true → QB true ρ1) ∧ (c = false → RW (b ρ1) QB E)) E) : RW (mOr a b ρ) QB E := by
  refine RW_bnd (h.mono (fun c ρ1 h => ?_) fun _ _ z => z)
  cases c with
  | true => exact h.1 rfl
  | false => exact h.2 rfl
theorem wNot {a : M Bool} (h : RW (a ρ) (fun c ρ1 => QB (!c) ρ1) E) : RW (mNot a ρ) QB E := RW_bnd h
theorem wTrue (h : QB true ρ) : RW (mTrue ρ) QB E := h
theorem wIte {t : M Bool} {a b : M Rs} (h : RW (t ρ) (fun c ρ1 => (c = true → RW (a ρ1) Q E) ∧ (c = false → RW (b ρ1) Q E)) E) : RW (mIte t a b ρ) Q E := by
  refine RW_bnd (h.mono (fun c ρ1 h => ?_) fun _ _ z => z)
  cases c with
  | true => exact h.1 rfl
  | false => exact h.2 rfl
theorem wAndV {a b : M Rs} (h : RW (a ρ) (fun x ρ1 => ∃ c, rd ρ1 x = some (.bl c) ∧ (c = true → RW (b ρ1) Q E) ∧ (c = false → Q (.va (.bl false)) ρ1)) E) : RW (mAndV a b ρ) Q E := by
  refine RW_bnd (h.mono (fun x ρ1 h => ?_) fun _ _ z => z)
  obtain ⟨c, e, h1, h2⟩ := h
  rw [e]
  cases c with
  | true => exact h1 rfl
  | false => exact h2 rfl
theorem wOrV {a b : M Rs} (h : RW (a ρ) (fun x ρ1 => ∃ c, rd ρ1 x = some (.bl c) ∧ (c = true → Q (.va (.bl true)) ρ1) ∧ (c = false → RW (b ρ1) Q E)) E) : RW (mOrV a b ρ) Q E := by
  refine RW_bnd (h.mono (fun x ρ1 h => ?_) fun _ _ z => z)
  obtain ⟨c, e, h1, h2⟩ := h
  rw [e]
  cases c with
  | true => exact h1 rfl
  | false => exact h2 rfl
theorem wNotV {a : M Rs} (h : RW (a ρ) (fun x ρ1 => ∃ c, rd ρ1 x = some (.bl c) ∧ Q (.va (.bl (!c))) ρ1) E) : RW (mNotV a ρ) Q E := by
  refine RW_bnd (h.mono (fun x ρ1 h => ?_) fun _ _ z => z)
  obtain ⟨c, e, q⟩ := h
  rw [e]; exact q
theorem wChain {f g : DL.D → DL.D → Option Rs} {a b c : M Rs} (h : RW (a ρ) (fun x ρ1 => RW (b ρ1) (fun y ρ2 => ∃ dx dy t, rd ρ2 x = some dx ∧ rd ρ2 y = some dy ∧ f dx dy = some (.va (.bl t)) ∧
    (t = true → RW (c ρ2) (fun z ρ3 => ∃ dy dz t, rd ρ3 y = some dy ∧ rd ρ3 z = some dz ∧ g dy dz = some (.va (.bl t)) ∧ Q (.va (.bl t)) ρ3) E) ∧ (t = false → Q (.va (.bl false)) ρ2)) E) E) : RW (mChain f g a b c ρ) Q E := by
  refine RW_bnd (h.mono (fun x ρ1 h => RW_bnd (h.mono (fun y ρ2 h => ?_) fun _ _ z => z)) fun _ _ z => z)
  obtain ⟨dx, dy, t, e1, e2, e3, h1, h2⟩ := h
  rw [e1, e2]; simp only [e3]
  cases t with
  | false => exact h2 rfl
  | true =>
    refine RW_bnd ((h1 rfl).mono (fun z ρ3 h => ?_) fun _ _ z => z)
    obtain ⟨dy, dz, t, e1, e2, e3, q⟩ := h
    rw [e1, e2]; simp only [e3]; exact q
theorem wNil (h : QL [] ρ) : RW (mNil ρ) QL E := h
theorem wCons {a : M Rs} {as : M (List Rs)} (h : RW (a ρ) (fun x ρ1 => RW (as ρ1) (fun xs ρ2 => QL (soft x :: xs) ρ2) E) E) : RW (mCons a as ρ) QL E := RW_bnd (h.mono (fun _ _ h => RW_bnd h) fun _ _ z => z)
theorem wTup {as : M (List Rs)} (h : RW (as ρ) (fun rs ρ1 => ∃ ds ρ2, keeps ρ1 rs = some (ds, ρ2) ∧ ds.length ≤ 100000 ∧ Q (.va (.tup ds)) ρ2) E) : RW (mTup as ρ) Q E := by
  refine RW_bnd (h.mono (fun rs ρ1 h => ?_) fun _ _ z => z)
  obtain ⟨ds, ρ2, e, l, q⟩ := h
  rw [e]; simp only [if_pos l]; exact q
theorem wLst {as : M (List Rs)} (h : RW (as ρ) (fun rs ρ1 => ∃ ds ρ2, keeps ρ1 rs = some (ds, ρ2) ∧ ds.length ≤ 100000 ∧ Q (.fr ds) ρ2) E) : RW (mLst as ρ) Q E := by
  refine RW_bnd (h.mono (fun rs ρ1 h => ?_) fun _ _ z => z)
  obtain ⟨ds, ρ2, e, l, q⟩ := h
  rw [e]; simp only [if_pos l]; exact q
theorem wBi {f : List DL.D → Option Rs} {as : M (List Rs)} (h : RW (as ρ) (fun rs ρ1 => ∃ ds r, rds ρ1 rs = some ds ∧ f ds = some r ∧ Q r ρ1) E) : RW (mBi f as ρ) Q E := by
  refine RW_bnd (h.mono (fun rs ρ1 h => ?_) fun _ _ z => z)
  obtain ⟨ds, r, e, e2, q⟩ := h
  rw [e]; simp only [e2]; exact q
theorem wPN {Q : Option Int → Rho → Prop} (h : Q none ρ) : RW (mPN ρ) Q E := h
theorem wPS {Q : Option Int → Rho → Prop} {a : M Rs} (h : RW (a ρ) (fun x ρ1 => ∃ i, rd ρ1 x = some (.int i) ∧ Q (some i) ρ1) E) : RW (mPS a ρ) Q E := by
  refine RW_bnd (h.mono (fun x ρ1 h => ?_) fun _ _ z => z)
  obtain ⟨i, e, q⟩ := h
  rw [e]; exact q
theorem wSl {a : M Rs} {lo hi : M (Option Int)} (h : RW (a ρ) (fun x ρ1 => RW (lo ρ1) (fun l ρ2 => RW (hi ρ2) (fun u ρ3 => ∃ d r, rd ρ3 x = some d ∧ slD d l u = some r ∧ Q r ρ3) E) E) E) : RW (mSl a lo hi ρ) Q E := by
  refine RW_bnd (h.mono (fun x ρ1 h => RW_bnd (h.mono (fun l ρ2 h => RW_bnd (h.mono (fun u ρ3 h => ?_) fun _ _ z => z)) fun _ _ z => z)) fun _ _ z => z)
  obtain ⟨d, r, e, e2, q⟩ := h
  rw [e]; simp only [e2]; exact q
def flatR : Rs → Prop
  | .al _ => False
  | _ => True
theorem wCall {n : Nat} {sem : M Rs} {ms : M (List Rs)} (h : RW (ms ρ) (fun rs ρ1 => (decide (rs.length = n) && alNd rs && (rs.map (toArg ρ1)).all argOk) = true ∧ RW (sem (rs.map (toArg ρ1))) (fun r as' => flatR r ∧ Q r (backC rs as' 0 ρ1)) (fun e as' => E e (backC rs as' 0 ρ1))) E) : RW (mCall n sem ms ρ) Q E := by
  refine RW_bnd (h.mono (fun rs ρ1 h => ?_) fun _ _ z => z)
  obtain ⟨e, h⟩ := h
  rw [if_pos e]
  cases q : sem (rs.map (toArg ρ1)) with
  | stuck => rw [q] at h; exact h
  | er x as' => rw [q] at h; exact h
  | ok r as' =>
    rw [q] at h
    cases r with
    | va d => exact h.2
    | fr d => exact h.2
    | al i => exact h.1.elim
theorem wFun {k : Nat} {n : DL.N} {as : List Sl} (h : OW (n (as ++ List.replicate (k - as.length) Sl.un)) (fun ρ => Q (.va .non) (backF as ρ)) (fun r ρ => ∃ r', fin1 ρ r = some r' ∧ Q r' (backF as ρ)) (fun _ => False) (fun _ => False) (fun e ρ => E e (backF as ρ))) : RW (fsem k n as) Q E := by
  unfold fsem
  cases q : n (as ++ List.replicate (k - as.length) Sl.un) with
  | nx ρ => rw [q] at h; exact h
  | rt r ρ =>
    rw [q] at h
    obtain ⟨r', e, z⟩ := h
    simp only [e]; exact z
  | bk ρ => rw [q] at h; exact h
  | ct ρ => rw [q] at h; exact h
  | er e ρ => rw [q] at h; exact h
  | stuck => rw [q] at h; exact h
/-! statements -/
theorem wSeq {a b : DL.N} (h : OW (a ρ) (fun ρ1 => OW (b ρ1) N R B C E) R B C E) : OW (nSeq a b ρ) N R B C E := by
  unfold nSeq
  cases q : a ρ with
  | nx ρ => rw [q] at h; exact h
  | rt r ρ => rw [q] at h; exact h
  | bk ρ => rw [q] at h; exact h
  | ct ρ => rw [q] at h; exact h
  | er e ρ => rw [q] at h; exact h
  | stuck => rw [q] at h; exact h
theorem wNext (h : N ρ) : OW (nNext ρ) N R B C E := h
theorem wIf {t : M Bool} {a b : DL.N} (h : RW (t ρ) (fun c ρ1 => (c = true → OW (a ρ1) N R B C E) ∧ (c = false → OW (b ρ1) N R B C E)) E) : OW (nIf t a b ρ) N R B C E := by
  refine OW_ebnd (h.mono (fun c ρ1 h => ?_) fun _ _ z => z)
  cases c with
  | true => exact h.1 rfl
  | false => exact h.2 rfl
theorem wRet {m : M Rs} (h : RW (m ρ) R E) : OW (nRet m ρ) N R B C E := by
  unfold nRet
  cases q : m ρ with
  | ok a ρ => rw [q] at h; exact h
  | er a ρ => rw [q] at h; exact h
  | stuck => rw [q] at h; exact h
theorem wSet {i : Nat} {m : M Rs} (h : RW (m ρ) (fun r ρ1 => OW (setR i r ρ1) N R B C E) E) : OW (nSet i m ρ) N R B C E := OW_ebnd h
theorem wExpr {m : M Rs} (h : RW (m ρ) (fun r ρ1 => N ρ1) E) : OW (nExpr m ρ) N R B C E := OW_ebnd (h.mono (fun _ _ h => h) fun _ _ z => z)
theorem wRaise {k : Nat} (h : E ⟨k, .non⟩ ρ) : OW (nRaise k ρ) N R B C E := h
theorem wUnp {is : List Nat} {m : M Rs} (h : RW (m ρ) (fun r ρ1 => ∃ ds ρ2, r = .va (.tup ds) ∧ setVs is ds ρ1 = some ρ2 ∧ N ρ2) E) : OW (nUnp is m ρ) N R B C E := by
  refine OW_ebnd (h.mono (fun r ρ1 h => ?_) fun _ _ z => z)
  obtain ⟨ds, ρ2, rfl, e, q⟩ := h
  simp only [e]; exact q
theorem wApp {k : Nat} {m : M Rs} (h0 : isOw ρ[k]? = true) (h : RW (m ρ) (fun r ρ1 => ∃ d ρ2 io xs, keepR ρ1 r = some (d, ρ2) ∧ ρ2[k]? = some (.ow io xs) ∧ xs.length < 100000 ∧ N (ρ2.set k (.ow io (xs ++ [d])))) E) : OW (nApp k m ρ) N R B C E := by
  unfold nApp
  rw [if_pos h0]
  refine OW_ebnd (h.mono (fun r ρ1 h => ?_) fun _ _ z => z)
  obtain ⟨d, ρ2, io, xs, e1, e2, e3, q⟩ := h
  rw [e1]; simp only [e2, if_pos e3]; exact q
theorem wSetIx {k : Nat} {mi me : M Rs} (h0 : isOw ρ[k]? = true) (h : RW (me ρ) (fun r ρ1 => ∃ d ρ2, keepR ρ1 r = some (d, ρ2) ∧ RW (mi ρ2) (fun ri ρ3 => ∃ i io xs j, rd ρ3 ri = some (.int i) ∧ ρ3[k]? = some (.ow io xs) ∧ ixN xs.length i = some j ∧ N (ρ3.set k (.ow io (xs.set j d)))) E) E) : OW (nSetIx k mi me ρ) N R B C E := by
  unfold nSetIx
  rw [if_pos h0]
  refine OW_ebnd (h.mono (fun r ρ1 h => ?_) fun _ _ z => z)
  obtain ⟨d, ρ2, e1, h⟩ := h
  rw [e1]
  refine OW_ebnd (h.mono (fun ri ρ3 h => ?_) fun _ _ z => z)
  obtain ⟨i, io, xs, j, e1, e2, e3, q⟩ := h
  rw [e1]; simp only [e2, e3]; exact q
theorem wAug {f : DL.D → DL.D → Option Rs} {i : Nat} {m : M Rs} {dx : DL.D} (h0 : ρ[i]? = some (.va dx)) (h : RW (m ρ) (fun r ρ1 => ∃ dy d, rd ρ1 r = some dy ∧ f dx dy = some (.va d) ∧ (i < ρ1.length ∧ isIo ρ1[i]? = false) ∧ N (ρ1.set i (.va d))) E) : OW (nAug f i m ρ) N R B C E := by
  unfold nAug
  rw [h0]
  refine OW_ebnd (h.mono (fun r ρ1 h => ?_) fun _ _ z => z)
  obtain ⟨dy, d, e1, e2, e3, q⟩ := h
  rw [e1]; simp only [e2, if_pos e3]; exact q
/-- for, by what holds ahead of turn i -/
theorem forL_inv {g : DL.D → Rho → Option Rho} {nb : DL.N} (Iv : Nat → Rho → Prop) : ∀ (ds : List DL.D) (k : Nat) (ρ : Rho), Iv k ρ →
    (∀ i d ρ, ds[i]? = some d → Iv (k + i) ρ → ∃ ρ1, g d ρ = some ρ1 ∧ OW (nb ρ1) (Iv (k + i + 1)) R N (Iv (k + i + 1)) E) → (∀ ρ, Iv (k + ds.length) ρ → N ρ) → OW (forL g nb ds ρ) N R B C E
  | [], k, ρ, h, _, e => e ρ h
  | d :: ds, k, ρ, h, s, e => by
    obtain ⟨ρ1, e1, w⟩ := s 0 d ρ rfl h
    unfold forL
    rw [e1]
    have go : ∀ ρ2, Iv (k + 1) ρ2 → OW (forL g nb ds ρ2) N R B C E := fun ρ2 h2 => forL_inv Iv ds (k + 1) ρ2 h2 (fun i d ρ e2 hi => by
      have := s (i + 1) d ρ e2 (by rw [show k + (i + 1) = k + 1 + i by omega]; exact hi)
      rw [show k + (i + 1) = k + 1 + i by omega] at this
      exact this) fun ρ h => e ρ (by rw [List.length_cons, show k + (ds.length + 1) = k + 1 + ds.length by omega]; exact h)
    simp only
    cases q : nb ρ1 with
    | nx ρ => rw [q] at w; exact go _ w
    | ct ρ => rw [q] at w; exact go _ w
    | bk ρ => rw [q] at w; exact w
    | rt r ρ => rw [q] at w; exact w
    | er r ρ => rw [q] at w; exact w
    | stuck => rw [q] at w; exact w
theorem wFor {m : M (List DL.D)} {g : DL.D → Rho → Option Rho} {nb : DL.N} (h : RW (m ρ) (fun ds ρ1 => ∃ Iv : Nat → Rho → Prop, Iv 0 ρ1 ∧ (∀ i d ρ, ds[i]? = some d → Iv i ρ → ∃ ρ1, g d ρ = some ρ1 ∧ OW (nb ρ1) (Iv (i + 1)) R N (Iv (i + 1)) E) ∧ ∀ ρ, Iv ds.length ρ → N ρ) E) : OW (nFor m g nb ρ) N R B C E := by
  refine OW_ebnd (h.mono (fun ds ρ1 h => ?_) fun _ _ z => z)
  obtain ⟨Iv, h0, hs, he⟩ := h
  refine forL_inv Iv ds 0 ρ1 h0 (fun i d ρ e hi => ?_) fun ρ h => he ρ (by rw [Nat.zero_add] at h; exact h)
  rw [Nat.zero_add] at hi ⊢
  exact hs i d ρ e hi
theorem wWhile {t : M Bool} {b : DL.N} {n : Nat} (h : RW (t ρ) (fun c ρ1 => (c = true → OW (b ρ1) (fun ρ2 => OW (nWhile t b n ρ2) N R B C E) R N (fun ρ2 => OW (nWhile t b n ρ2) N R B C E) E) ∧ (c = false → N ρ1)) E) : OW (nWhile t b (n + 1) ρ) N R B C E := by
  unfold nWhile
  refine OW_ebnd (h.mono (fun c ρ1 h => ?_) fun _ _ z => z)
  cases c with
  | false => exact h.2 rfl
  | true =>
    have w := h.1 rfl
    show OW (match b ρ1 with | _ => _) N R B C E
    cases q : b ρ1 with
    | nx ρ => rw [q] at w; exact w
    | ct ρ => rw [q] at w; exact w
    | bk ρ => rw [q] at w; exact w
    | rt r ρ => rw [q] at w; exact w
    | er r ρ => rw [q] at w; exact w
    | stuck => rw [q] at w; exact w
/-! walks -/
theorem wIter {a : M Rs} {Q : List DL.D → Rho → Prop} (h : RW (a ρ) (fun r ρ1 => ∃ d ds ρ2, keepR ρ1 r = some (d, ρ2) ∧ seqOf d = some ds ∧ Q ds ρ2) E) : RW (mIter a ρ) Q E := by
  refine RW_bnd (h.mono (fun x ρ1 h => ?_) fun _ _ z => z)
  obtain ⟨d, ds, ρ2, e, e2, q⟩ := h
  rw [e]
  cases d with
  | lst ys => cases e2; exact q
  | tup ys => cases e2; exact q
  | _ => cases e2
theorem wRng {f : List DL.D → Option (List DL.D)} {as : M (List Rs)} {Q : List DL.D → Rho → Prop} (h : RW (as ρ) (fun rs ρ1 => ∃ ds es, rds ρ1 rs = some ds ∧ f ds = some es ∧ Q es ρ1) E) : RW (mRng f as ρ) Q E := by
  refine RW_bnd (h.mono (fun x ρ1 h => ?_) fun _ _ z => z)
  obtain ⟨d, ds, e, e2, q⟩ := h
  rw [e]; simp only [e2]; exact q
theorem wSeqs {f : List (List DL.D) → Option (List DL.D)} {as : M (List Rs)} {Q : List DL.D → Rho → Prop} (h : RW (as ρ) (fun rs ρ1 => ∃ ds ρ2 xss es, keeps ρ1 rs = some (ds, ρ2) ∧ seqsOf ds = some xss ∧ f xss = some es ∧ Q es ρ2) E) : RW (mSeqs f as ρ) Q E := by
  refine RW_bnd (h.mono (fun x ρ1 h => ?_) fun _ _ z => z)
  obtain ⟨ds, ρ2, xss, es, e, e2, e3, q⟩ := h
  rw [e]; simp only [e2, e3]; exact q
theorem compL_inv {g : DL.D → Rho → Option Rho} {vs : List Nat} {mt : M Bool} {me : M Rs} (Iv : Nat → List DL.D → Rho → Prop) : ∀ (ds : List DL.D) (k : Nat) (acc : List DL.D) (ρ : Rho), Iv k acc ρ →
    (∀ i d acc ρ, ds[i]? = some d → Iv (k + i) acc ρ → ∃ ρ1, g d ρ = some ρ1 ∧ RW (mt ρ1) (fun c ρ2 => (c = true → acc.length < 100000 ∧ RW (me ρ2) (fun r ρ3 => ∃ x ρ4, keepR ρ3 r = some (x, ρ4) ∧ Iv (k + i + 1) (acc ++ [x]) (wipeR ρ4 vs)) no) ∧ (c = false → Iv (k + i + 1) acc (wipeR ρ2 vs))) no) →
    ∃ acc' ρ', compL g vs mt me ds acc ρ = some (acc', ρ') ∧ Iv (k + ds.length) acc' ρ'
  | [], k, acc, ρ, h, _ => ⟨acc, ρ, rfl, h⟩
  | d :: ds, k, acc, ρ, h, s => by
    obtain ⟨ρ1, e1, w⟩ := s 0 d acc ρ rfl h
    have go : ∀ acc2 ρ2, Iv (k + 1) acc2 ρ2 → ∃ acc' ρ', compL g vs mt me ds acc2 ρ2 = some (acc', ρ') ∧ Iv (k + (ds.length + 1)) acc' ρ' := fun acc2 ρ2 h2 => by
      have := compL_inv Iv ds (k + 1) acc2 ρ2 h2 fun i d a ρ e2 hi => by
        have := s (i + 1) d a ρ e2 (by rw [show k + (i + 1) = k + 1 + i by omega]; exact hi)
        rw [show k + (i + 1) = k + 1 + i by omega] at this
        exact this
      rw [show k + (ds.length + 1) = k + 1 + ds.length by omega]
      exact this
    obtain ⟨c, ρ2, ec, w⟩ := w.eq
    unfold compL
    rw [e1]; simp only [ec]
    cases c with
    | false => exact go _ _ (w.2 rfl)
    | true =>
      obtain ⟨hl, w⟩ := w.1 rfl
      obtain ⟨r, ρ3, er, x, ρ4, ek, iv⟩ := w.eq
      simp only [er, ek, if_pos hl]
      exact go _ _ iv
theorem wComp {m : M (List DL.D)} {g : DL.D → Rho → Option Rho} {vs : List Nat} {mt : M Bool} {me : M Rs} (h : RW (m ρ) (fun ds ρ1 => ∃ Iv : Nat → List DL.D → Rho → Prop, Iv 0 [] (wipeR ρ1 vs) ∧
    (∀ i d acc ρ, ds[i]? = some d → Iv i acc ρ → ∃ ρ1, g d ρ = some ρ1 ∧ RW (mt ρ1) (fun c ρ2 => (c = true → acc.length < 100000 ∧ RW (me ρ2) (fun r ρ3 => ∃ x ρ4, keepR ρ3 r = some (x, ρ4) ∧ Iv (i + 1) (acc ++ [x]) (wipeR ρ4 vs)) no) ∧ (c = false → Iv (i + 1) acc (wipeR ρ2 vs))) no) ∧
    ∀ acc ρ2, Iv ds.length acc ρ2 → Q (.fr acc) (restoR ρ1 ρ2 vs)) E) : RW (mComp m g vs mt me ρ) Q E := by
  refine RW_bnd (h.mono (fun ds ρ1 h => ?_) fun _ _ z => z)
  obtain ⟨Iv, h0, hs, he⟩ := h
  obtain ⟨acc, ρ2, e, iv⟩ := compL_inv Iv ds 0 [] (wipeR ρ1 vs) h0 fun i d acc ρ e hi => by
    rw [Nat.zero_add] at hi ⊢
    exact hs i d acc ρ e hi
  rw [Nat.zero_add] at iv
  rw [e]; exact he _ _ iv
theorem wTry {cl : List Nat} {nb : DL.N} {k i : Nat} {ns : DL.N} (h : OW (nb ρ) N R B C (fun e ρ1 => cl.contains e.cls = true ∧ (subK e.cls k = true → (i < ρ1.length ∧ isIo ρ1[i]? = false) ∧ OW (unR i (ns (ρ1.set i (.va (.exc e.cls e.x))))) N R B C E) ∧ (subK e.cls k = false → E e ρ1))) : OW (nTry cl nb k i ns ρ) N R B C E := by
  unfold nTry
  cases q : nb ρ with
  | nx ρ => rw [q] at h; exact h
  | rt r ρ => rw [q] at h; exact h
  | bk ρ => rw [q] at h; exact h
  | ct ρ => rw [q] at h; exact h
  | stuck => rw [q] at h; exact h
  | er e ρ1 =>
    rw [q] at h
    obtain ⟨h1, h2, h3⟩ := h
    simp only [if_pos h1]
    by_cases c : subK e.cls k = true
    · obtain ⟨h4, h5⟩ := h2 c
      rw [if_pos c, if_pos h4]; exact h5
    · rw [if_neg c]; exact h3 (by simpa using c)
end
theorem mul_ok {i j : Int} (h : CMulW i j) : mulD (.int i) (.int j) = some (.va (.int (i * j))) := by
  show (match (if CMulW i j then some (DL.D.int (i * j)) else none) with | some d => some (Rs.va d) | none => none) = _
  rw [if_pos h]
theorem mod_ok {i j : Int} (h : 0 < j) : modD (.int i) (.int j) = some (.va (.int (i % j))) := by
  show (match (if 0 < j then some (DL.D.int (i % j)) else none) with | some d => some (Rs.va d) | none => none) = _
  rw [if_pos h]
theorem div_ok {i j : Int} (h : CDivW i j) : divD (.int i) (.int j) = some (.va (.int (i / j))) := by
  show (match (if CDivW i j then some (DL.D.int (i / j)) else none) with | some d => some (Rs.va d) | none => none) = _
  rw [if_pos h]
theorem pow_ok {i j : Int} (h : 0 ≤ j ∧ j ≤ 1000000 ∧ i.natAbs < 2 ^ 64) : powD (.int i) (.int j) = some (.va (.int (i ^ j.toNat))) := by
  show (match (if 0 ≤ j ∧ j ≤ 1000000 ∧ i.natAbs < 2 ^ 64 then some (DL.D.int (i ^ j.toNat)) else none) with | some d => some (Rs.va d) | none => none) = _
  rw [if_pos h]
/-- factors of less than 2^1000 -/
theorem cmul {i j : Int} (a b : Nat) (h1 : i.natAbs < 2 ^ a) (h2 : j.natAbs < 2 ^ b) (h : a + b < 1000000) : CMulW i j := by
  have f : ∀ {x n : Nat}, x < 2 ^ n → x.log2 ≤ n := fun {x n} h => by
    by_cases hx : x = 0
    · subst hx; exact Nat.zero_le _
    · exact Nat.le_of_lt ((Nat.log2_lt hx).mpr h)
  have := f h1
  have := f h2
  show i.natAbs.log2 + j.natAbs.log2 < 1000000
  omega
end DL

namespace DL
open PySem L2 PyProof.Rows
/-! ### gcd, lcm -/
def gcdD : List DL.D → Option Rs
  | [.int a, .int b] => some (.va (.int ((Nat.gcd a.natAbs b.natAbs : Nat) : Int)))
  | _ => none
theorem cd_gcd {K : PySem.W.Frag} : CallD K rGcd gcdD := by
  intro Hb H xs ds res Q s r e q
  unfold gcdD at e
  split at e
  · cases e
    obtain ⟨v, w, rfl, h, h2⟩ := pair2 r
    rw [h.int, h2.int]
    exact ⟨_, _, rfl, q _ Hb H (Gro.refl s) (Is.intI (K := K) (H := Hb))⟩
  · cases e
def bigL : Nat := 2 ^ 6000
def lcmD : List DL.D → Option Rs
  | [.int a, .int b] => if a.natAbs < bigL ∧ b.natAbs < bigL then some (.va (.int ((Nat.lcm a.natAbs b.natAbs : Nat) : Int))) else none
  | _ => none
def rLcm : List V → Hp → VK → Prop := fun vs H Q => ∃ a b : Int, vs = [.int a, .int b] ∧ a.natAbs < bigL ∧ b.natAbs < bigL ∧ Q (.int ((Nat.lcm a.natAbs b.natAbs : Nat) : Int)) H
theorem log_lt {n k : Nat} (h : n < 2 ^ (k + 1)) : n.log2 ≤ k := by
  by_cases hx : n = 0
  · subst hx; exact Nat.zero_le _
  · have := (Nat.log2_lt hx).mpr h; omega
theorem call_lcm {X : Cx} : CallR X (.builtin "math.lcm") rLcm := by
  intro pins s σ H vs us Q I r h
  obtain ⟨a, b, rfl, ha, hb, q⟩ := h
  obtain ⟨t, u, rfl⟩ := Vals.int2 r
  have ha' : a.natAbs < 2 ^ 6000 := ha
  have hb' : b.natAbs < 2 ^ 6000 := hb
  have h1 : (max 1 a.natAbs).log2 ≤ 5999 := log_lt (by
    show max 1 a.natAbs < 2 ^ 6000
    have : 1 < 2 ^ 6000 := Nat.one_lt_two_pow (by decide)
    generalize 2 ^ 6000 = z at *
    omega)
  have h2 : (max a.natAbs b.natAbs).log2 ≤ 5999 := log_lt (by
    show max a.natAbs b.natAbs < 2 ^ 6000
    generalize 2 ^ 6000 = z at *
    omega)
  have e1 : Nat.lcm 1 a.natAbs = a.natAbs := by simp [Nat.lcm]
  have hl : Nat.lcm a.natAbs b.natAbs ≤ a.natAbs * b.natAbs := Nat.div_le_self _ _
  have hm : a.natAbs * b.natAbs < 2 ^ 12000 := by
    have := Nat.mul_lt_mul'' ha' hb'
    rw [← Nat.pow_add] at this
    exact this
  have hsz : ((((Nat.lcm 1 a.natAbs).lcm b.natAbs : Nat) : Int)).natAbs.log2 < bitsLine := by
    rw [e1, Int.natAbs_natCast]
    have : (Nat.lcm a.natAbs b.natAbs).log2 ≤ 11999 := log_lt (Nat.lt_of_le_of_lt hl hm)
    exact Nat.lt_of_le_of_lt this (by decide)
  refine call_function_meets PySem.W.MGF.kind_lcm PySem.W.MGF.plain_lcm PySem.W.MGF.entry_lcm (PySem.W.MGF.args_lcm _ _) (PySem.W.mg_run_lcm a t b u (by omega) (by omega) hsz).meets ?_
  rw [e1]
  exact ⟨.int _, H, I.tok _, ⟨_, rfl⟩, q⟩
theorem cd_lcm {K : PySem.W.Frag} : CallD K rLcm lcmD := by
  intro Hb H xs ds res Q s r e q
  unfold lcmD at e
  split at e
  · rename_i a b
    by_cases hc : a.natAbs < bigL ∧ b.natAbs < bigL
    · rw [if_pos hc] at e; cases e
      obtain ⟨v, w, rfl, h, h2⟩ := pair2 r
      rw [h.int, h2.int]
      exact ⟨_, _, rfl, hc.1, hc.2, q _ Hb H (Gro.refl s) (Is.intI (K := K) (H := Hb))⟩
    · rw [if_neg hc] at e; cases e
  · cases e
section
variable {K : PySem.W.Frag} {W : WX} {X : Cx} {σ : L2.St} {H : Hp}
/-- a built-in function that the text has brought in by its name -/
theorem dm_callBf {id : String} {r : List V → Hp → VK → Prop} {f : List DL.D → Option Rs} {x : Str} {p pos : Pos} {e : Expr} {es : List Expr} {as : M (List Rs)} (hc : CallR X (.builtin id) r) (hr : CallD K r f) (hg : Gl X x) (hm : X.mg x = some (.builtin id)) (ha : PA X (e :: es) (tA K W as))
    (hdb : (x == ("__debug__" : Str)) = false := by decide) (he : starEach (e :: es) X.env = (false, eval e X.env) :: starEach es X.env := by rfl) (hpl : (backTo pos (starEach es X.env)).any (·.1) = false := by rfl) :
    PE X (.Call (.Name x p) (e :: es) [] pos) (tM K W (mBi f as)) := PE.imp (pe_callBfun hc hg hm ha hdb he hpl) fun _ _ _ => tM_bi hr
end
/-! ### nested targets -/
inductive Tg where
  | nm (i : Nat)
  | tp (ts : List Tg)
mutual
def gG : Tg → DL.D → Rho → Option Rho
  | .nm i, d, ρ => gN i d ρ
  | .tp ts, .tup ds, ρ => gGs ts ds ρ
  | .tp _, _, _ => none
def gGs : List Tg → List DL.D → Rho → Option Rho
  | [], [], ρ => some ρ
  | t :: ts, d :: ds, ρ => match gG t d ρ with
    | some ρ1 => gGs ts ds ρ1
    | none => none
  | _, _, _ => none
end
/-- what the machine's target does with a value -/
def tGs (K : PySem.W.Frag) (vs : List Nat) (ts : List Tg) (gs : TGs) : Prop := ∀ (us : List V) (σ : L2.St) (H : Hp) (Q : L2.St → Hp → Prop) (Hb : Hp) (ρ : Rho) (ds : List DL.D) (ρ' : Rho), StR K Hb σ ρ H → IsA K Hb ds us → gGs ts ds ρ = some ρ' →
  (∀ σ2, wipe σ2 vs = wipe σ vs → SteS K Hb σ ρ H Hb σ2 ρ' H → Q σ2 H) → gs us σ H Q
theorem gGs_len : ∀ {ts : List Tg} {ds : List DL.D} {ρ ρ2 : Rho}, gGs ts ds ρ = some ρ2 → ds.length = ts.length
  | [], [], ρ, ρ2, e => rfl
  | t :: ts, d :: ds, ρ, ρ2, e => by
    unfold gGs at e
    split at e
    · simp [gGs_len e]
    · cases e
  | [], d :: ds, ρ, ρ2, e => by simp [gGs] at e
  | t :: ts, [], ρ, ρ2, e => by simp [gGs] at e
theorem tgd_nm {K : PySem.W.Frag} {vs : List Nat} {i : Nat} (hi : i ∈ vs) : TGd K vs (gName i) (gG (.nm i)) := by
  intro v σ H Q Hb ρ d ρ' S hv e q
  unfold gG at e
  exact tgd_name hi v σ H Q Hb ρ d ρ' S hv e q
theorem tgs_nil {K : PySem.W.Frag} {vs : List Nat} : tGs K vs [] (gNs []) := by
  intro us σ H Q Hb ρ ds ρ' S hv e q
  cases ds with
  | nil =>
    simp [gGs] at e; subst e
    simp only [IsA] at hv; subst hv
    exact ⟨rfl, q σ rfl (SteS.refl S)⟩
  | cons d ds => simp [gGs] at e
def gCons (g : TG) (gs : TGs) : TGs := fun vs σ H Q => ∃ v r, vs = v :: r ∧ g v σ H fun σ1 H1 => gs r σ1 H1 Q
theorem tgs_cons {K : PySem.W.Frag} {vs : List Nat} {t : Tg} {ts : List Tg} {g : TG} {gs : TGs} (h : TGd K vs g (gG t)) (hs : tGs K vs ts gs) : tGs K vs (t :: ts) (gCons g gs) := by
  intro us σ H Q Hb ρ ds ρ' S hv e q
  cases ds with
  | nil => simp [gGs] at e
  | cons d ds =>
    simp only [IsA] at hv
    obtain ⟨v, r, rfl, h1, h2⟩ := hv
    unfold gGs at e
    cases e1 : gG t d ρ with
    | none => rw [e1] at e; cases e
    | some ρ1 =>
      rw [e1] at e
      exact ⟨v, r, rfl, h v σ H _ Hb ρ d ρ1 S h1 e1 fun σ1 w1 s1 => hs r σ1 H Q Hb ρ1 ds ρ' s1.st h2 e fun σ2 w2 s2 => q σ2 (w2.trans w1) (s1.trans s2)⟩
theorem tgd_tp {K : PySem.W.Frag} {vs : List Nat} {ts : List Tg} {gs : TGs} {n : Nat} (hn : n = ts.length) (hs : tGs K vs ts gs) : TGd K vs (gTup K n gs) (gG (.tp ts)) := by
  intro v σ H Q Hb ρ d ρ' S hv e q
  subst hn
  cases d with
  | tup ds =>
    unfold gG at e
    simp only [Is] at hv
    obtain ⟨a, us, rfl, h1, i1⟩ := hv
    exact ⟨a, us, rfl, Same.tup S.sub h1, by rw [i1.length, gGs_len e], hs us σ H Q Hb ρ ds ρ' S i1 e q⟩
  | _ => simp [gG] at e
theorem pgs_c {X : Cx} {e : Expr} {es : List Expr} {g : TG} {gs : TGs} (h : PG X e g) (hr : PGs X es gs) (hst : match e with | .Starred .. => False | _ => True)
    (hs : (assignEach (e :: es) X.env).map (·.2) = assign e X.env :: (assignEach es X.env).map (·.2) := by rfl) : PGs X (e :: es) (gCons g gs) := pgs_cons h hr hs
/-! ### a, b = x, y with local names -/
def nPar (i j : Nat) (as : M (List Rs)) : N := fun ρ => ebnd (as ρ) fun rs ρ1 => match keeps ρ1 rs with
  | some ([d1, d2], ρ2) => if (i < ρ2.length ∧ isIo ρ2[i]? = false) ∧ (j < ρ2.length ∧ isIo ρ2[j]? = false) ∧ i ≠ j then .nx ((ρ2.set i (.va d1)).set j (.va d2)) else .stuck
  | _ => .stuck
theorem tA_then {K : PySem.W.Frag} {W : WX} {σ : L2.St} {H Hb : Hp} {ρ : Rho} {D : Ends} {m : M (List Rs)} {f : List Rs → Rho → Out} {Q : List V → Hp → Prop} (S : StR K Hb σ ρ H) (P : PostS K W Hb σ ρ H D (ebnd (m ρ) f))
    (h : ∀ rs ρ1 vs H1 Hb1, Ste K σ Hb ρ H Hb1 ρ1 H1 → Paired (RsR K H Hb1 σ H1) rs vs → PostS K W Hb σ ρ H D (f rs ρ1) → Q vs H1) : tA K W m σ H Q := by
  refine ⟨Hb, ρ, S, ?_⟩
  cases em : m ρ with
  | stuck => rw [em] at P; exact P
  | er e ρ1 => rw [em] at P; exact fun d H1 Hb1 s1 ex => P d σ H1 Hb1 (s1.toS S) ex
  | ok rs ρ1 => rw [em] at P; exact fun vs H1 Hb1 s1 pr => h rs ρ1 vs H1 Hb1 s1 pr P
theorem dn_par {X : Cx} {W : WX} {i j : Nat} {x y : Str} {a b : Expr} {as : M (List Rs)} {px py pt pos : Pos} {kt k2 pt2} (hc : X.calm = true) (hN : X.N.Nodup) (hi : X.N[i]? = some x) (hj : X.N[j]? = some y) (hij : i ≠ j)
    (hx : X.env.scope.names.lookup x = some .local) (hy : X.env.scope.names.lookup y = some .local) (ha : PA X [a, b] (tA X.K W as))
    (hw : swappedStores [.Tuple [.Name x px, .Name y py] kt pt] (.Tuple [a, b] k2 pt2) X.env = pure (some [x, y]))
    (hs : swapsWithSole [.Tuple [.Name x px, .Name y py] kt pt] (.Tuple [a, b] k2 pt2) pos.line X.env = pure false := by rfl) :
    PS X (.Assign [.Tuple [.Name x px, .Name y py] kt pt] (.Tuple [a, b] k2 pt2) pos) (tN X.K W (nPar i j as)) := by
  refine PS.imp (ps_par hc hN hi hj hij hx hy ha hw hs) fun D σ H h => ?_
  obtain ⟨Hb, ρ, S, P⟩ := h
  refine tA_then S P fun rs ρ1 vs H1 Hb1 s1 pr P => ?_
  cases ek : keeps ρ1 rs with
  | none => rw [ek] at P; exact P.elim
  | some q =>
    obtain ⟨ds, ρ2⟩ := q
    rw [ek] at P
    obtain ⟨Hb2, s2, ia⟩ := keeps_ok (H0 := H) (own_there' S s1) s1.st pr ek
    match ds, P, ia with
    | [], P, _ => exact P.elim
    | [_], P, _ => exact P.elim
    | _ :: _ :: _ :: _, P, _ => exact P.elim
    | [d1, d2], P, ia =>
      simp only at P
      simp only [IsA] at ia
      obtain ⟨v, r, rfl, i1, w, r2, rfl, i2, rfl⟩ := ia
      by_cases hz : (i < ρ2.length ∧ isIo ρ2[i]? = false) ∧ (j < ρ2.length ∧ isIo ρ2[j]? = false) ∧ i ≠ j
      · rw [if_pos hz] at P
        obtain ⟨⟨z1, z2⟩, ⟨z3, z4⟩, z5⟩ := hz
        have t1 := SteS.storeV S (s1.trans s2) z1 (nio_of z2) i1
        have t2 := SteS.storeV (i := j) t1.st (Ste.refl t1.st) (by rw [List.length_set]; exact z3) (by rw [List.getElem?_set_ne hij]; exact nio_of z4) i2
        exact ⟨v, w, rfl, P _ H1 Hb2 (t1.trans t2)⟩
      · rw [if_neg hz] at P; exact P.elim
/-! ### try with several clauses without names -/
def firstK (cls : Nat) : List (Nat × N) → Option N
  | [] => none
  | (k, n) :: r => if subK cls k = true then some n else firstK cls r
def unN : Out → Out
  | .er _ _ => .stuck
  | o => o
def nTryM (cl : List Nat) (nb : N) (hs : List (Nat × N)) : N := fun ρ => match nb ρ with
  | .er e ρ1 => if cl.contains e.cls = true then (match firstK e.cls hs with
    | some n => unN (n ρ1)
    | none => .er e ρ1) else .stuck
  | o => o
def sufs (K : PySem.W.Frag) : List (Value × N) → List (Value × (Addr → Value → Option Addr → TS))
  | [] => []
  | (c, n) :: r => (c, fun _ _ _ => tN K W0 n) :: sufs K r
/-- the clauses by their classes' numbers -/
inductive HdD (X : Cx) (cl : List Nat) : List ExceptHandler → List (Nat × N) → List (Value × N) → Prop
  | nil : HdD X cl [] [] []
  | cons {x : Str} {c : Value} {k : Nat} {n : N} {b₀ : Stmt} {suite : List Stmt} {np pos' : Pos} {hds : List ExceptHandler} {l : List (Nat × N)} {l2 : List (Value × N)} (hc : Names X x c) (hx : ExmOk X.K cl k c)
      (hsu : ∀ (a : Addr) (pn : List (Addr × Obj)), PSs (X.suite a pn) (b₀ :: suite) (tN X.K W0 n)) (r : HdD X cl hds l l2) :
      HdD X cl (.ExceptHandler (some (.Name x np)) none (b₀ :: suite) pos' :: hds) ((k, n) :: l) ((c, n) :: l2)
theorem HdD.ok {X : Cx} {cl : List Nat} : ∀ {hds : List ExceptHandler} {l : List (Nat × N)} {l2 : List (Value × N)}, HdD X cl hds l l2 → HdsOk X hds (sufs X.K l2)
  | _, _, _, .nil => .nil
  | _, _, _, .cons hc hx hsu r => .cons hc (fun a oe cls d pn _ _ => hsu a _) r.ok
theorem many_ok {X : Cx} {cl : List Nat} {W : WX} {D : Ends} {σ σ1 : L2.St} {H H1 Hb Hb1 : Hp} {ρ ρ1 : Rho} {e : Exn} {d : Value × Option Addr} (hcl : cl.contains e.cls = true) (ex : ExR X.K Hb1 H1 e d) (s1 : SteS X.K Hb σ ρ H Hb1 σ1 ρ1 H1) :
    ∀ {hds : List ExceptHandler} {l : List (Nat × N)} {l2 : List (Value × N)}, HdD X cl hds l l2 → PostS X.K W Hb σ ρ H D (match firstK e.cls l with
    | some n => unN (n ρ1)
    | none => .er e ρ1) → wMany X.K W D (sufs X.K l2) d.1 d.2 σ1 H1
  | _, _, _, .nil, P => P d σ1 H1 Hb1 s1 ex
  | _, _, _, @HdD.cons _ _ x c k n b₀ suite np pos' hds l l2 hc hx hsu r, P => by
    obtain ⟨cc, hcc, hd1, hdat⟩ := id ex
    refine ⟨subK e.cls k, by rw [hd1]; exact hx e.cls cc hcl hcc, fun hb a ha => ?_, fun hb => ?_⟩
    · have P1 : PostS X.K W Hb σ ρ H D (unN (n ρ1)) := by
        unfold firstK at P
        rw [if_pos hb] at P
        exact P
      refine ⟨Hb1, ρ1, s1.st, ?_⟩
      have P2 := PostS.back s1 P1
      cases en : n ρ1 with
      | stuck => rw [en] at P2; exact P2
      | er e2 ρ2 => rw [en] at P2; exact P2.elim
      | nx ρ2 => rw [en] at P2; exact P2
      | bk ρ2 => rw [en] at P2; exact P2
      | ct ρ2 => rw [en] at P2; exact P2
      | rt r ρ2 => rw [en] at P2; exact P2
    · refine many_ok hcl ex s1 r ?_
      unfold firstK at P
      rw [if_neg (by rw [hb]; exact Bool.false_ne_true)] at P
      exact P
theorem dn_tryM {X : Cx} {W : WX} {cl : List Nat} {body : List Stmt} {h₀ : ExceptHandler} {hds : List ExceptHandler} {l : List (Nat × N)} {l2 : List (Value × N)} {pos : Pos} {nb : N} (hs : X.stack = X.env :: X.outer) (hf : X.env.frame = some X.env.locals) (tk : Takes X W)
    (hb : ∀ (W' : WX) (pn : List (Addr × Obj)) (xe : Value → Shared → Prop), Takes (X.tr pn xe) W' → PassesOwn (model X.prog X.w) X.A X.env xe → PSs (X.tr pn xe) body (tN X.K W' nb))
    (hh : HdD X cl (h₀ :: hds) l l2) : PS X (.Try body (h₀ :: hds) [] [] pos) (tN X.K W (nTryM cl nb l)) := by
  refine PS.imp (ps_try_many (tb := fun W' => tN X.K W' nb) hs hf tk hb hh.ok) fun D σ H h => ?_
  obtain ⟨Hb, ρ, S, P⟩ := h
  refine ⟨Hb, ρ, S, ?_⟩
  unfold nTryM at P
  cases eb : nb ρ with
  | stuck => rw [eb] at P; exact P
  | nx ρ1 => rw [eb] at P; exact P
  | bk ρ1 => rw [eb] at P; exact P
  | ct ρ1 => rw [eb] at P; exact P
  | rt r ρ1 => rw [eb] at P; exact P
  | er e ρ1 =>
    rw [eb] at P
    intro d σ1 H1 Hb1 s1 ex
    simp only at P
    by_cases hcl : cl.contains e.cls = true
    · rw [if_pos hcl] at P
      exact many_ok hcl ex s1 hh P
    · rw [if_neg hcl] at P; exact P.elim
end DL

namespace DL
open PySem L2 PyProof.Rows
/-- turns of a loop whose slot i falls to nought -/
def fuelAt (i : Nat) (ρ : Rho) : Nat := match ρ[i]? with
  | some (.va (.int n)) => n.toNat + 2
  | _ => 2
section
variable {ρ : Rho} {E : Exn → Rho → Prop} {N B C : Rho → Prop} {R : Rs → Rho → Prop}
theorem wPar {i j : Nat} {as : M (List Rs)} (h : RW (as ρ) (fun rs ρ1 => ∃ d1 d2 ρ2, keeps ρ1 rs = some ([d1, d2], ρ2) ∧ ((i < ρ2.length ∧ isIo ρ2[i]? = false) ∧ (j < ρ2.length ∧ isIo ρ2[j]? = false) ∧ i ≠ j) ∧ N ((ρ2.set i (.va d1)).set j (.va d2))) E) : OW (nPar i j as ρ) N R B C E := by
  refine OW_ebnd (h.mono (fun rs ρ1 h => ?_) fun _ _ z => z)
  obtain ⟨d1, d2, ρ2, e, c, q⟩ := h
  rw [e]
  simp only [if_pos c]
  exact q
theorem wTryM {cl : List Nat} {nb : DL.N} {hs : List (Nat × DL.N)} (h : OW (nb ρ) N R B C (fun e ρ1 => cl.contains e.cls = true ∧ (match firstK e.cls hs with
    | some n => OW (n ρ1) N R B C (fun _ _ => False)
    | none => E e ρ1))) : OW (nTryM cl nb hs ρ) N R B C E := by
  unfold nTryM
  cases q : nb ρ with
  | nx ρ => rw [q] at h; exact h
  | rt r ρ => rw [q] at h; exact h
  | bk ρ => rw [q] at h; exact h
  | ct ρ => rw [q] at h; exact h
  | stuck => rw [q] at h; exact h
  | er e ρ1 =>
    rw [q] at h
    obtain ⟨h1, h2⟩ := h
    simp only [if_pos h1]
    cases qf : firstK e.cls hs with
    | none => rw [qf] at h2; exact h2
    | some n =>
      rw [qf] at h2
      simp only at h2 ⊢
      cases qn : n ρ1 with
      | nx ρ => rw [qn] at h2; exact h2
      | rt r ρ => rw [qn] at h2; exact h2
      | bk ρ => rw [qn] at h2; exact h2
      | ct ρ => rw [qn] at h2; exact h2
      | stuck => rw [qn] at h2; exact h2
      | er e ρ => rw [qn] at h2; exact h2.elim
end
theorem big_of {n k : Nat} (h : n < 2 ^ k) (hk : k ≤ 6000) : n < bigL := Nat.lt_of_lt_of_le h (Nat.pow_le_pow_right (by decide) hk)
theorem lcm_ok {a b : Int} (ha : a.natAbs < bigL) (hb : b.natAbs < bigL) : lcmD [.int a, .int b] = some (.va (.int ((Nat.lcm a.natAbs b.natAbs : Nat) : Int))) := by
  show (if a.natAbs < bigL ∧ b.natAbs < bigL then _ else _) = _
  rw [if_pos ⟨ha, hb⟩]
end DL

namespace DL
open PySem L2 PyProof.Rows
/-! ### a list that is handed over and stays as it is from then on -/
def mFrz (a : M Rs) : M Rs := fun ρ => bnd (a ρ) fun r ρ1 => match keepR ρ1 r with
  | some (d, ρ2) => .ok (.va d) ρ2
  | none => .stuck
theorem dm_frz {X : Cx} {W : WX} {e : Expr} {a : M Rs} (h : PE X e (tM X.K W a)) : PE X e (tM X.K W (mFrz a)) := PE.imp h fun σ H Q h => by
  obtain ⟨Hb, ρ, S, P⟩ := h
  refine ⟨Hb, ρ, S, ?_⟩
  unfold mFrz at P
  cases ea : a ρ with
  | stuck => rw [ea] at P; exact P
  | er e ρ1 => rw [ea] at P; exact P
  | ok r ρ1 =>
    rw [ea] at P
    intro v H1 Hb1 s1 r1
    simp only [bnd] at P
    cases ek : keepR ρ1 r with
    | none => rw [ek] at P; exact P.elim
    | some q =>
      obtain ⟨d, ρ2⟩ := q
      rw [ek] at P
      obtain ⟨Hb2, s2, i2⟩ := keepR_ok S s1 r1 ek
      exact P v H1 Hb2 s2 i2
theorem wFrz {ρ : Rho} {a : M Rs} {Q : Rs → Rho → Prop} {E : Exn → Rho → Prop} (h : RW (a ρ) (fun r ρ1 => ∃ d ρ2, keepR ρ1 r = some (d, ρ2) ∧ Q (.va d) ρ2) E) : RW (mFrz a ρ) Q E := by
  refine RW_bnd (h.mono (fun r ρ1 h => ?_) fun _ _ z => z)
  obtain ⟨d, ρ2, e, q⟩ := h
  rw [e]; exact q
/-! ### tuple * int -/
theorem tuple_mul1 (l : Addr) (items : Array Value) (n : Nat) (sl : Array (Option Value)) (dd : Option Addr) (u : Tok) :
    Meets (Builtin.«tuple.__mul__» ⟨[.ref l, .int 1 u], []⟩) (fun _ R s => s.heap.get? l = some { cls := .type "tuple", dict := dd, data := .seq items n, slots := sl } ∧
      R (.ok (.ret (Value.ref l))) s) :=
  .of_wp fun prog w A R s h => by
    obtain ⟨hp, g, d, tk, os⟩ := s
    obtain ⟨hl, h⟩ := h
    have f1 := AutoSeq1.idx_int
    have c1 : (items.isEmpty || (1 : Int) == 1) = true := by simp
    have c0 : (decide ((1 : Int) < -(2 ^ 63)) || decide ((1 : Int) ≥ 2 ^ 63)) = false := by decide
    wp_walk using wpAny_loadPart' hl
    repeat (first
      | (refine wpAny_ite_false (decide_eq_false (by rw [c0]; exact Bool.false_ne_true)) ?_; wp_walk using wpAny_loadPart' hl)
      | (refine wpAny_ite_true (decide_eq_true (by rw [c1])) ?_; wp_walk using wpAny_loadPart' hl))
    exact ⟨_, rfl, h⟩
def rRep1 (K : PySem.W.Frag) : R2 := fun x y H Q => ∃ l xs, x = .ref l ∧ y = .int 1 ∧ SqT K H l xs ∧ Q (.ref l) H
theorem op_rep1 {X : Cx} : OpR X (binaryOp .Mult) (rRep1 X.K) := by
  intro pins s σ H x y v u Q I rx ry h
  obtain ⟨l, xs, rfl, rfl, hT, q⟩ := h
  cases rx
  obtain ⟨t, rfl⟩ := ry
  obtain ⟨its, r, ⟨⟨cls, dd, data, sl⟩, ho, hc, n, hd⟩, hs⟩ := I.tuple hT
  simp only at hc hd
  subst hc hd
  refine wpAny_binaryOp_repeat_ref (T := "tuple") (U := "int") (by decide) ⟨_, ho, rfl⟩ (fun s' => typeIs_int s' 1 t) noFill_tuple_mul F.fills_int_mul F.slot_int_rmul repeat_tuple F.slot_int_index.lookup
    (call_meets F.slot_int_rmul (typeIs_int s 1 t) F.entry_int_rmul (F.args_int_rmul_2 _ _) (int_rmul_tuple 1 t l its.toArray n dd sl)
      ⟨ho, rfl, ⟨_, ho, rfl⟩, call_meets F.slot_tuple_mul ⟨_, ho, rfl⟩ F.entry_tuple_mul (F.args_tuple_mul_2 _ _) (tuple_mul1 l its.toArray n sl dd t) ⟨ho, ?_⟩⟩)
  exact ⟨.ref l, H, I, rfl, q⟩
/-- xs * k, k at least 1 -/
def mulTD (x y : DL.D) : Option Rs := match x, y with
  | .tup xs, .int k => if k = 1 then some (.va (.tup xs)) else if 2 ≤ k ∧ k ≤ 1000 ∧ xs ≠ [] ∧ xs.length ≤ 1000 then some (.va (.tup (List.replicate k.toNat xs).flatten)) else none
  | _, _ => none
theorem rep_is {K : PySem.W.Frag} {H : Hp} {xs : List DL.D} {vs : List V} (h : IsA K H xs vs) : ∀ n : Nat, IsA K H (List.replicate n xs).flatten (List.replicate n vs).flatten
  | 0 => IsA.nil
  | n + 1 => by
    rw [List.replicate_succ, List.replicate_succ, List.flatten_cons, List.flatten_cons]
    exact h.append (rep_is h n)
instance {xs : List DL.D} : Decidable (xs ≠ []) := match xs with
  | [] => isFalse fun h => h rfl
  | _ :: _ => isTrue fun h => by cases h
theorem od_mulT {K : PySem.W.Frag} : OpD K (fun x y H Q => rRepT K x y H Q ∨ rRep1 K x y H Q) mulTD := by
  intro Hb H x y dx dy res Q s rx ry e q
  unfold mulTD at e
  split at e
  · rename_i xs k
    obtain ⟨a, vs, rfl, h1, i1⟩ := rx.tup s
    rw [ry.int]
    by_cases hk : k = 1
    · rw [if_pos hk] at e; cases e
      subst hk
      refine .inr ⟨a, vs, rfl, rfl, h1, q _ Hb H (Gro.refl s) ?_⟩
      exact rx.elim id (fun ⟨_, _, _, e, _⟩ => by cases e)
    · rw [if_neg hk] at e
      by_cases hc : 2 ≤ k ∧ k ≤ 1000 ∧ xs ≠ [] ∧ xs.length ≤ 1000
      · rw [if_pos hc] at e; cases e
        obtain ⟨c1, c2, c3, c4⟩ := hc
        refine .inl ⟨a, k, vs, rfl, rfl, h1, fun z => c3 ?_, c1, c2, by rw [i1.length]; exact c4, fun p np => ?_⟩
        · have := i1.length
          rw [z] at this
          exact List.eq_nil_of_length_eq_zero this.symm
        · obtain ⟨Hb', g, i2⟩ := new_tup s np (rep_is i1 k.toNat)
          exact q _ Hb' _ g i2
      · rw [if_neg hc] at e; cases e
  · cases e
theorem dm_mulT {X : Cx} {W : WX} {a b : Expr} {ma mb : M Rs} {pos : Pos} (ha : PE X a (tM X.K W ma)) (hb : PE X b (tM X.K W mb)) : PE X (.BinOp a .Mult b pos) (tM X.K W (mBin mulTD ma mb)) := dm_bin (op_repT.or op_rep1) od_mulT ha hb
/-! ### a dict of truths by keys that are tuples of ints, nested -/
mutual
def D.key : DL.D → Option NestedKey
  | .int i => some (.num i)
  | .tup xs => match D.keys xs with
    | some ks => some (.tup ks)
    | none => none
  | _ => none
def D.keys : List DL.D → Option (List NestedKey)
  | [] => some []
  | x :: xs => match D.key x with
    | some k => (match D.keys xs with
      | some ks => some (k :: ks)
      | none => none)
    | none => none
end
section
variable {X : Cx} {pins : List (Addr × Obj)} {σ : L2.St} {H : Hp} {s : Shared}
mutual
theorem is_nested (I : Inv X pins σ H s) : ∀ (d : DL.D) (v : V) (k : NestedKey) (u : Value), Is X.K H d v → D.key d = some k → RelV v u → NestedIs s.heap k u
  | .int i, v, k, u, h, e, r => by
    simp only [Is] at h; subst h
    simp only [D.key] at e; cases e
    obtain ⟨t, rfl⟩ := r
    exact .int i t
  | .tup ds, v, k, u, h, e, r => by
    simp only [Is] at h
    obtain ⟨a, xs, rfl, h1, h2⟩ := h
    unfold D.key at e
    cases ek : D.keys ds with
    | none => rw [ek] at e; cases e
    | some ks =>
      rw [ek] at e; cases e
      cases (show u = Value.ref a from r)
      obtain ⟨its, rv, ⟨o, ho, hc, n, hd⟩, _⟩ := I.tuple h1
      exact .tup ho hc hd (by rw [List.toList_toArray]; exact is_nesteds I ds xs ks its h2 ek rv)
  | .non, v, k, u, h, e, r => by simp [D.key] at e
  | .bl _, v, k, u, h, e, r => by simp [D.key] at e
  | .str _, v, k, u, h, e, r => by simp [D.key] at e
  | .lst _, v, k, u, h, e, r => by simp [D.key] at e
  | .exc _ _, v, k, u, h, e, r => by simp [D.key] at e
  | .ty _, v, k, u, h, e, r => by simp [D.key] at e
  | .cls _, v, k, u, h, e, r => by simp [D.key] at e
  | .obj _, v, k, u, h, e, r => by simp [D.key] at e
theorem is_nesteds (I : Inv X pins σ H s) : ∀ (ds : List DL.D) (vs : List V) (ks : List NestedKey) (us : List Value), IsA X.K H ds vs → D.keys ds = some ks → Vals vs us → NestedAll s.heap ks us
  | [], vs, ks, us, h, e, r => by
    simp only [IsA] at h; subst h
    simp only [D.keys] at e; cases e
    cases r
    exact .nil
  | d :: ds, vs, ks, us, h, e, r => by
    simp only [IsA] at h
    obtain ⟨v, rest, rfl, h1, h2⟩ := h
    unfold D.keys at e
    cases ek : D.key d with
    | none => rw [ek] at e; cases e
    | some k =>
      rw [ek] at e
      cases ek2 : D.keys ds with
      | none => rw [ek2] at e; cases e
      | some ks' =>
        rw [ek2] at e; cases e
        cases r with
        | cons r1 r2 => exact .cons (is_nested I d v k _ h1 ek r1) (is_nesteds I ds rest ks' _ h2 ek2 r2)
end
end
/-- the dict's own object -/
def RawD (P : Program) (w : World) (p : Addr) (xs : List (NestedKey × Addr × Value)) : HO := .ext fun h => ∃ o es ep, h.get? p = some o ∧ o.ExactDict ∧ o.data = .dict es ep ∧ es.toList = xs.map (entryOfKey (nestedKind P w)) ∧ (xs.map (·.1)).Nodup
theorem raw_ok {P : Program} {w : World} {H : Hp} {h : Heap} {p : Addr} {xs : List (NestedKey × Addr × Value)} (d : h.DictOfH (nestedKind P w) p xs) : ObjOk P w H h p (RawD P w p xs) := by
  obtain ⟨o, es, ep, h1, h2, h3, h4, _, h5⟩ := d
  exact ⟨⟨o, es, ep, h1, h2, h3, h4, h5⟩, ⟨o, h1⟩, fun _ _ ⟨o, es, ep, h1, r⟩ k => ⟨o, es, ep, k o h1, r⟩⟩
/-- what the dict holds: f of each key -/
structure DiOk (X : Cx) (f : DL.D → Bool) (H : Hp) (p : Addr) (xs : List (NestedKey × Addr × Value)) : Prop where
  at_ : H p = some (RawD X.prog X.w p xs)
  sys : (p == sysModules) = false
  sz : xs.length ≤ 100000
  ks : ∀ x ∈ xs, ∃ d, D.key d = some x.1 ∧ x.1.depth ≤ 8 ∧ Is X.K H d (.ref x.2.1) ∧ x.2.2 = .bool (f d)
theorem DiOk.of {X : Cx} {pins : List (Addr × Obj)} {σ : L2.St} {H : Hp} {s : Shared} {f : DL.D → Bool} {p : Addr} {xs : List (NestedKey × Addr × Value)} (D : DiOk X f H p xs) (I : Inv X pins σ H s) : s.heap.DictOfH (nestedKind X.prog X.w) p xs := by
  obtain ⟨⟨o, es, ep, h1, h2, h3, h4, h5⟩, _⟩ := (show ObjOk X.prog X.w H s.heap p (RawD X.prog X.w p xs) from I.hok p _ D.at_)
  refine ⟨o, es, ep, h1, h2, h3, h4, fun x hx => ?_, h5⟩
  obtain ⟨d, e1, e2, e3, _⟩ := D.ks x hx
  exact ⟨is_nested I d _ _ _ e3 e1 rfl, e2⟩
end DL

namespace DL
open PySem L2 PyProof.Rows
mutual
theorem D.key_inj : ∀ (d d' : DL.D) (k : NestedKey), D.key d = some k → D.key d' = some k → d = d'
  | .int i, d', k, e, e' => by
    simp only [D.key] at e; cases e
    cases d' with
    | int j => simp only [D.key] at e'; cases e'; rfl
    | tup ds =>
      unfold D.key at e'
      cases q : D.keys ds with
      | none => rw [q] at e'; cases e'
      | some ks => rw [q] at e'; cases e'
    | _ => simp [D.key] at e'
  | .tup ds, d', k, e, e' => by
    unfold D.key at e
    cases q : D.keys ds with
    | none => rw [q] at e; cases e
    | some ks =>
      rw [q] at e; cases e
      cases d' with
      | int j => simp [D.key] at e'
      | tup ds' =>
        unfold D.key at e'
        cases q' : D.keys ds' with
        | none => rw [q'] at e'; cases e'
        | some ks' =>
          rw [q'] at e'; cases e'
          rw [D.keys_inj ds ds' ks q q']
      | _ => simp [D.key] at e'
  | .non, d', k, e, e' => by simp [D.key] at e
  | .bl _, d', k, e, e' => by simp [D.key] at e
  | .str _, d', k, e, e' => by simp [D.key] at e
  | .lst _, d', k, e, e' => by simp [D.key] at e
  | .exc _ _, d', k, e, e' => by simp [D.key] at e
  | .ty _, d', k, e, e' => by simp [D.key] at e
  | .cls _, d', k, e, e' => by simp [D.key] at e
  | .obj _, d', k, e, e' => by simp [D.key] at e
theorem D.keys_inj : ∀ (ds ds' : List DL.D) (ks : List NestedKey), D.keys ds = some ks → D.keys ds' = some ks → ds = ds'
  | [], ds', ks, e, e' => by
    simp only [D.keys] at e; cases e
    cases ds' with
    | nil => rfl
    | cons d ds =>
      unfold D.keys at e'
      cases q : D.key d with
      | none => rw [q] at e'; cases e'
      | some k =>
        rw [q] at e'
        cases q2 : D.keys ds with
        | none => rw [q2] at e'; cases e'
        | some ks => rw [q2] at e'; cases e'
  | d :: ds, ds', ks, e, e' => by
    unfold D.keys at e
    cases q : D.key d with
    | none => rw [q] at e; cases e
    | some k =>
      rw [q] at e
      cases q2 : D.keys ds with
      | none => rw [q2] at e; cases e
      | some ks2 =>
        rw [q2] at e; cases e
        cases ds' with
        | nil => simp [D.keys] at e'
        | cons d' ds' =>
          unfold D.keys at e'
          cases r : D.key d' with
          | none => rw [r] at e'; cases e'
          | some k' =>
            rw [r] at e'
            cases r2 : D.keys ds' with
            | none => rw [r2] at e'; cases e'
            | some ks3 =>
              rw [r2] at e'; cases e'
              rw [D.key_inj d d' k q r, D.keys_inj ds ds' ks2 q2 r2]
end
theorem atKey_in {xs : List (NestedKey × Addr × Value)} {k : NestedKey} {q : Addr × Value} (h : atKey xs k = some q) : (k, q) ∈ xs := by
  unfold atKey at h
  obtain ⟨x, hx, rfl⟩ := Option.map_eq_some_iff.mp h
  have h1 := List.find?_some hx
  have h2 := List.mem_of_find?_eq_some hx
  have : x.1 = k := by simpa using h1
  subst this
  exact h2
section
variable {X : Cx} {pins : List (Addr × Obj)} {σ : L2.St} {H : Hp} {s : Shared} {f : DL.D → Bool} {p a : Addr} {xs : List (NestedKey × Addr × Value)} {d : DL.D} {k : NestedKey} {A : Around} {E : Value → Shared → Prop}
/-- a key that is asked for -/
structure KeyOk (X : Cx) (H : Hp) (d : DL.D) (k : NestedKey) (a : Addr) : Prop where
  ke : D.key d = some k
  dp : k.depth ≤ 8
  is : Is X.K H d (.ref a)
theorem KeyOk.nk (q : KeyOk X H d k a) (I : Inv X pins σ H s) : (nestedKind X.prog X.w).is s.heap k a := ⟨is_nested I d _ _ _ q.is q.ke rfl, q.dp⟩
theorem room_in1 (hu : A.units + 64 < cLine) : (nestedKind X.prog X.w).room A.in1 := by
  show A.units + 1 + 8 < cLine
  omega
/-! the rules -/
def tDNewD (P : Program) (w : World) : TE := fun _ H Q => ∀ p, H p = none → (p == sysModules) = false → Q (.ref p) (upd H p (RawD P w p []))
theorem pe_dnewD {pos : Pos} : PE X (.Dict [] [] pos) (tDNewD X.prog X.w) := ⟨fun pins s σ H Q I h =>
  wpAny_Dict_empty ⟨.ref s.heap.objs.size, _, I.laid (a := s.heap.objs.size) (o := RawD X.prog X.w s.heap.objs.size []) (t' := s.toks) (fun _ _ q => Heap.get?_push_of_some _ q) (Nat.le_refl _) (raw_ok (Heap.DictOfH.new s.heap)), rfl, h _ (I.hok.fresh (Nat.le_refl _)) (beq_eq_false_iff_ne.mpr (Ne.symm (Nat.ne_of_lt I.big)))⟩⟩
def tDNotD (X : Cx) (f : DL.D → Bool) (ty td : TE) : TE := fun σ H Q => ty σ H fun y H1 => td σ H1 fun x H2 => ∃ p xs a d k, y = .ref a ∧ x = .ref p ∧ DiOk X f H2 p xs ∧ KeyOk X H2 d k a ∧ Q (.bl (!(atKey xs k).isSome)) H2
theorem pc_dnotD {o i : Expr} {td ty : TE} (hu : X.A.units + 64 < cLine) (hi : PE X i ty) (ho : PE X o td) : PC X .NotIn i o (tDNotD X f ty td) := by
  refine ⟨fun pins s σ H Q I h => ?_⟩
  refine thn (hi.run pins s σ H _ I h) fun iv s1 ⟨y, H1, I1, ry, q1⟩ => thn (ho.run pins s1 σ H1 _ I1 q1) fun u s2 ⟨x, H2, I2, rx, p, xs, a, d, k, ey, ex, D, q, q2⟩ => ?_
  subst ex ey
  obtain rfl : u = Value.ref p := rx
  obtain rfl : iv = Value.ref a := ry
  show wpAny _ _ (do return Value.bool (!(← contains (Value.ref p) (Value.ref a)))) _ _ _
  exact wpAny_bind (wpAny_contains_heap (room_in1 hu) (q.nk I2) D.sys (D.of I2) (wpAny_pure ⟨.bl _, H2, I2.tok _, rfl, q2⟩))
def tDGetD (X : Cx) (f : DL.D → Bool) (td ty : TE) : TE := fun σ H Q => td σ H fun x H1 => ty σ H1 fun y H2 => ∃ p xs a d k, y = .ref a ∧ x = .ref p ∧ DiOk X f H2 p xs ∧ KeyOk X H2 d k a ∧ (atKey xs k).isSome = true ∧ Q (.bl (f d)) H2
theorem pe_dgetD {o i : Expr} {td ty : TE} {pos : Pos} (hu : X.A.units + 64 < cLine) (ho : PE X o td) (hi : PE X i ty) (hs : NoSl i) : PE X (.Subscript o i pos) (tDGetD X f td ty) := by
  refine ⟨fun pins s σ H Q I h => ?_⟩
  refine subD_of PySem.F.slot_dict_getitem.lookup hs (thn (ho.run pins s σ H _ I h) fun u s1 ⟨x, H1, I1, rx, q1⟩ => thn (hi.run pins s1 σ H1 _ I1 q1) fun iv s2 ⟨y, H2, I2, ry, p, xs, a, d, k, ey, ex, D, q, hk, q2⟩ => ?_)
  subst ex ey
  obtain rfl : u = Value.ref p := rx
  obtain rfl : iv = Value.ref a := ry
  cases e : atKey xs k with
  | none => rw [e] at hk; cases hk
  | some w =>
    obtain ⟨d', k1, _, _, k4⟩ := D.ks _ (atKey_in e)
    have ed : d' = d := DL.D.key_inj d' d k k1 q.ke
    subst ed
    have k4 : w.2 = Value.bool (f d') := k4
    refine ⟨(D.of I2).typeIs, wpAny_getItem_heap (room_in1 hu) (q.nk I2) (D.of I2) e ?_⟩
    rw [k4]
    exact ⟨.bl _, H2, I2.tok _, rfl, q2⟩
def tDPutD (X : Cx) (f : DL.D → Bool) (td ty tv : TE) : TS := fun D σ H => tv σ H fun v H1 => td σ H1 fun x H2 => ty σ H2 fun y H3 => ∃ p xs a d k, y = .ref a ∧ x = .ref p ∧ DiOk X f H3 p xs ∧ KeyOk X H3 d k a ∧ atKey xs k = none ∧ xs.length < 100000 ∧ v = .bl (f d) ∧ D.nx σ (upd H3 p (RawD X.prog X.w p (xs ++ [(k, a, Value.bool (f d))])))
theorem ps_dputD {o i value : Expr} {td ty tv : TE} {pos pos' : Pos} (hu : X.A.units + 64 < cLine) (ho : PE X o td) (hi : PE X i ty) (hv : PE X value tv) (hs : swapsWith value (some (.Subscript o i pos')) pos.line X.env = pure false) :
    PS X (.Assign [.Subscript o i pos'] value pos) (tDPutD X f td ty tv) := by
  refine ⟨fun pins s σ H D I h => ?_⟩
  refine wpAny_Assign_Subscript (thn (hv.run pins s σ H _ I h) fun r s1 ⟨v, H1, I1, rv, q1⟩ => thn (ho.run pins s1 σ H1 _ I1 q1) fun u s2 ⟨x, H2, I2, rx, q2⟩ => thn (hi.run pins s2 σ H2 _ I2 q2) fun iv s3 ⟨y, H3, I3, ry, p, xs, a, d, k, ey, ex, DI, q, hk, hz, ev, q3⟩ => ?_) hs
  subst ex ey ev
  obtain rfl : u = Value.ref p := rx
  obtain rfl : iv = Value.ref a := ry
  obtain rfl : r = Value.bool (f d) := rv
  refine wpAny_setItem_heap (hsz := Nat.le_trans DI.sz (by decide)) (room_in1 hu) (q.nk I3) (DI.of I3) fun h' dd' hs' => ?_
  rw [storedH_new hk] at dd'
  have he : ∃ q, h'.get? p = some q := let ⟨q, _, _, hq, _⟩ := dd'; ⟨q, hq⟩
  exact ⟨σ, _, d_write I3 (by rw [DI.at_]; exact True.intro) hs' he (raw_ok dd'), q3⟩
end
end DL

namespace DL
open PySem L2 PyProof.Rows
/-! ### states of data alone -/
def DatS (K : PySem.W.Frag) (Hb : Hp) : List (Option V) → List Sl → Prop
  | [], [] => True
  | o :: σ, s :: ρ => (match s with
    | .un => True
    | .va d => ∃ v, o = some v ∧ Is K Hb d v
    | .ow _ _ => False) ∧ DatS K Hb σ ρ
  | _, _ => False
section
variable {K : PySem.W.Frag} {Hb Hb' H H' : Hp}
theorem DatS.len : ∀ {σ : List (Option V)} {ρ : List Sl}, DatS K Hb σ ρ → σ.length = ρ.length
  | [], [], _ => rfl
  | o :: σ, s :: ρ, h => by rw [List.length_cons, List.length_cons, DatS.len h.2]
  | [], _ :: _, h => h.elim
  | _ :: _, [], h => h.elim
theorem DatS.get : ∀ {σ : List (Option V)} {ρ : List Sl} {i : Nat} {s : Sl}, DatS K Hb σ ρ → ρ[i]? = some s → ∃ o, σ[i]? = some o ∧ (match s with
    | .un => True
    | .va d => ∃ v, o = some v ∧ Is K Hb d v
    | .ow _ _ => False)
  | o :: σ, t :: ρ, 0, s, h, e => by cases e; exact ⟨o, rfl, h.1⟩
  | o :: σ, t :: ρ, i + 1, s, h, e => by
    obtain ⟨q, e1, e2⟩ := DatS.get (i := i) h.2 (by simpa using e)
    exact ⟨q, by simpa using e1, e2⟩
  | [], [], i, s, h, e => by simp at e
  | [], _ :: _, i, s, h, e => h.elim
  | _ :: _, [], i, s, h, e => h.elim
theorem DatS.no {σ : List (Option V)} {ρ : List Sl} (h : DatS K Hb σ ρ) : ∀ b, ¬ Own σ ρ b := fun b ⟨i, _, io, xs, q⟩ => by
  obtain ⟨_, _, z⟩ := h.get q
  exact z
theorem DatS.st {σ : List (Option V)} {ρ : List Sl} (h : DatS K Hb σ ρ) (sub : Same Hb H) : StR K Hb σ ρ H := by
  refine ⟨sub, h.len, fun i s e => ?_, fun i j b hi _ => (h.no b ⟨i, hi⟩).elim⟩
  obtain ⟨o, e1, e2⟩ := h.get e
  refine ⟨o, e1, ?_⟩
  cases s with
  | un => exact trivial
  | va d => exact e2
  | ow io xs => exact e2.elim
theorem ste_gro {σ : L2.St} {ρ ρ' : Rho} (no : ∀ b, ¬ Own σ ρ b) (s : Ste K σ Hb ρ H Hb' ρ' H') : Gro Hb H Hb' H' :=
  ⟨fun b o e => s.fr b o e (no b), s.gr, fun b o e n => s.gn b o e n (no b), s.st.sub⟩
end
/-! ### the dict of a def's own -/
structure Gh (X : Cx) (f : DL.D → Bool) (Hb0 H0 Hb H : Hp) (p : Addr) (xs : List (NestedKey × Addr × Value)) : Prop where
  g : Gro Hb0 H0 Hb H
  pn : H0 p = none
  pb : Hb p = none
  at_ : H p = some (RawD X.prog X.w p xs)
  sys : (p == sysModules) = false
  sz : xs.length ≤ 100000
  ks : ∀ x ∈ xs, ∃ d, D.key d = some x.1 ∧ x.1.depth ≤ 8 ∧ Is X.K Hb d (.ref x.2.1) ∧ x.2.2 = Value.bool (f d)
section
variable {X : Cx} {f : DL.D → Bool} {Hb0 H0 Hb H Hb' H' : Hp} {p : Addr} {xs : List (NestedKey × Addr × Value)}
theorem Gh.di (h : Gh X f Hb0 H0 Hb H p xs) : DiOk X f H p xs := ⟨h.at_, h.sys, h.sz, fun x hx => let ⟨d, k1, k2, k3, k4⟩ := h.ks x hx; ⟨d, k1, k2, Is.mono h.g.sub _ _ k3, k4⟩⟩
theorem Gh.step (h : Gh X f Hb0 H0 Hb H p xs) (g : Gro Hb H Hb' H') : Gh X f Hb0 H0 Hb' H' p xs :=
  ⟨h.g.trans g, h.pn, g.gn p _ h.at_ h.pb, g.fr p _ h.at_, h.sys, h.sz, fun x hx => let ⟨d, k1, k2, k3, k4⟩ := h.ks x hx; ⟨d, k1, k2, Is.mono g.gr _ _ k3, k4⟩⟩
theorem Gh.put {d : DL.D} {k : NestedKey} {a : Addr} (h : Gh X f Hb0 H0 Hb H p xs) (hk : D.key d = some k) (hd : k.depth ≤ 8) (hi : Is X.K Hb d (.ref a)) (hz : xs.length < 100000) :
    Gh X f Hb0 H0 Hb (upd H p (RawD X.prog X.w p (xs ++ [(k, a, Value.bool (f d))]))) p (xs ++ [(k, a, Value.bool (f d))]) := by
  refine ⟨⟨fun b o e => ?_, h.g.gr, h.g.gn, fun b o e => ?_⟩, h.pn, h.pb, upd_same, h.sys, by rw [List.length_append]; exact hz, fun x hx => ?_⟩
  · rw [upd_ne (fun z => by subst z; rw [h.pn] at e; cases e)]
    exact h.g.fr b o e
  · rw [upd_ne (fun z => by subst z; rw [h.pb] at e; cases e)]
    exact h.g.sub b o e
  · rcases List.mem_append.mp hx with hx | hx
    · exact h.ks x hx
    · rw [List.mem_singleton.mp hx]
      exact ⟨d, hk, hd, hi, rfl⟩
end
/-- a run's two parts -/
def runParts : DL.D → Option (List DL.D × Int)
  | .tup [.tup ls, .int t] => some (ls, t)
  | _ => none
theorem runParts_eq {d : DL.D} {q : List DL.D × Int} (h : runParts d = some q) : d = .tup [.tup q.1, .int q.2] := by
  unfold runParts at h
  split at h
  · cases h; rfl
  · cases h
/-- one run looked at: nothing, or what is said of it -/
def stepR (mrw mrep : M Rs) (dp dq run : DL.D) (n : Nat) : Option (Option DL.D) := match mrw [.va dp, .va dq, .va (.int (n : Int)), .va run] with
  | .ok (.va .non) _ => (match runParts run with
    | some q => if 1 < q.2 then (match D.key (.tup q.1) with
      | some k => if k.depth ≤ 8 then (match mrep [.va dp, .va (.tup q.1)] with
        | .ok (.va (.bl b)) _ => if b = true then some none else some (some (.tup [.str "steady", .int (n : Int)]))
        | _ => none) else none
      | none => none) else some none
    | none => none)
  | .ok (.va d) _ => some (some d)
  | _ => none
def fMemo (mrep : M Rs) (dp d : DL.D) : Bool := match mrep [.va dp, .va d] with
  | .ok (.va (.bl b)) _ => b
  | _ => false
def tBody (X : Cx) (mrw mrep : M Rs) (dp dq : DL.D) (Hb0 H0 : Hp) (p : Addr) (v0 v1 v2 : V) : TS := fun D σ H => ∃ Hb xs vr run o6 o7 o8, ∃ n : Nat, σ = [some v0, some v1, some v2, some (.ref p), some (.int (n : Int)), some vr, o6, o7, o8] ∧
  Gh X (fMemo mrep dp) Hb0 H0 Hb H p xs ∧ Is X.K Hb dp v0 ∧ Is X.K Hb dq v1 ∧ Is X.K Hb run vr ∧ xs.length < 100000 ∧
  (match stepR mrw mrep dp dq run n with
    | none => False
    | some (some d) => ∀ v Hb' H', Gro Hb0 H0 Hb' H' → Is X.K Hb' d v → D.rt v H'
    | some none => ∀ o4 o5 o6 o7 o8 Hb' H' xs', Gh X (fMemo mrep dp) Hb0 H0 Hb' H' p xs' → Same Hb Hb' → xs'.length ≤ xs.length + 1 → D.nx [some v0, some v1, some v2, some (.ref p), o4, o5, o6, o7, o8] H')
theorem body_ok {X : Cx} {W : WX} {mrw mrep : M Rs} {dp dq : DL.D} {Hb0 H0 : Hp} {p : Addr} {v0 v1 v2 : V} {b1 b2 b3 b4 : Stmt}
    (h1 : PS X b1 (tAsg (tM X.K W (mCall 4 mrw (mCons (mV 0) (mCons (mV 1) (mCons (mV 4) (mCons (mV 5) mNil)))))) (gName 6)))
    (h2 : PS X b2 (tIfS (tT X.K W (mTv (mUn (isN true) (mV 6)))) (tRet (tM X.K W (mV 6))) tNext))
    (h3 : PS X b3 (tAsg (tM X.K W (mV 5)) (gTup X.K 2 (gNs [7, 8]))))
    (h4 : PS X b4 (tIfS (tT X.K W (mTv (mBin gtD (mV 8) (mC (.int 1))))) (tSeq (tIfS (tB (tDNotD X (fMemo mrep dp) (tVar 7) (tVar 3))) (tDPutD X (fMemo mrep dp) (tVar 3) (tVar 7) (tM X.K W (mCall 2 mrep (mCons (mV 0) (mCons (mV 7) mNil))))) tNext)
      (tIfS (tNot (tB (tDGetD X (fMemo mrep dp) (tVar 3) (tVar 7)))) (tRet (tM X.K W (mTup (mCons (mC (.str "steady")) (mCons (mV 4) mNil))))) tNext)) tNext)) :
    PSs X [b1, b2, b3, b4] (tBody X mrw mrep dp dq Hb0 H0 p v0 v1 v2) := by
  refine PSs.imp (pss_cons h1 (pss_cons h2 (pss_cons h3 (pss_one h4)))) fun D σ H h => ?_
  obtain ⟨Hb, xs, vr, run, o6, o7, o8, n, rfl, G, i0, i1, ir, hz, P⟩ := h
  have S : DatS X.K Hb [some v0, some v1, some v2, some (.ref p), some (.int (n : Int)), some vr, o6, o7, o8] [.va dp, .va dq, .un, .un, .va (.int (n : Int)), .va run, .un, .un, .un] :=
    ⟨⟨v0, rfl, i0⟩, ⟨v1, rfl, i1⟩, trivial, trivial, ⟨_, rfl, Is.intI⟩, ⟨vr, rfl, ir⟩, trivial, trivial, trivial, trivial⟩
  refine ⟨Hb, _, S.st G.g.sub, ?_⟩
  show PostM X.K W Hb _ _ H _ (match mrw [.va dp, .va dq, .va (.int (n : Int)), .va run] with
    | .ok (.va d) as' => .ok (.va d) [.va dp, .va dq, .un, .un, .va (.int (n : Int)), .va run, .un, .un, .un]
    | .ok (.fr d) as' => .ok (.fr d) [.va dp, .va dq, .un, .un, .va (.int (n : Int)), .va run, .un, .un, .un]
    | .er e as' => .er e [.va dp, .va dq, .un, .un, .va (.int (n : Int)), .va run, .un, .un, .un]
    | _ => .stuck)
  unfold stepR at P
  cases ew : mrw [.va dp, .va dq, .va (.int (n : Int)), .va run] with
  | stuck => rw [ew] at P; exact P.elim
  | er e as' => rw [ew] at P; exact P.elim
  | ok r as' =>
    cases r with
    | al i => rw [ew] at P; exact P.elim
    | fr ys => rw [ew] at P; exact P.elim
    | va dw =>
      rw [ew] at P
      intro vw H1 Hb1 s1 rw1
      have g1 := ste_gro S.no s1
      have G1 := G.step g1
      have iw : Is X.K Hb1 dw vw := rw1
      show tSeq _ _ D [some v0, some v1, some v2, some (.ref p), some (.int (n : Int)), some vr, some vw, o7, o8] H1
      have S1 : DatS X.K Hb1 [some v0, some v1, some v2, some (.ref p), some (.int (n : Int)), some vr, some vw, o7, o8] [.va dp, .va dq, .un, .un, .va (.int (n : Int)), .va run, .va dw, .un, .un] :=
        ⟨⟨v0, rfl, Is.mono g1.gr _ _ i0⟩, ⟨v1, rfl, Is.mono g1.gr _ _ i1⟩, trivial, trivial, ⟨_, rfl, Is.intI⟩, ⟨vr, rfl, Is.mono g1.gr _ _ ir⟩, ⟨vw, rfl, iw⟩, trivial, trivial, trivial⟩
      refine ⟨Hb1, _, S1.st G1.g.sub, ?_⟩
      show PostT X.K W Hb1 _ _ H1 _ (.ok (!dw.isNon) _)
      intro H2 Hb2 s2
      have g2 := ste_gro S1.no s2
      have G2 := G1.step g2
      have retW : dw.isNon = false → (∀ v Hb' H', Gro Hb0 H0 Hb' H' → Is X.K Hb' dw v → D.rt v H') → tRet (tM X.K W (mV 6)) D [some v0, some v1, some v2, some (.ref p), some (.int (n : Int)), some vr, some vw, o7, o8] H2 := fun _ q => by
        have S2 : DatS X.K Hb2 [some v0, some v1, some v2, some (.ref p), some (.int (n : Int)), some vr, some vw, o7, o8] [.un, .un, .un, .un, .un, .un, .va dw, .un, .un] :=
          ⟨trivial, trivial, trivial, trivial, trivial, trivial, ⟨vw, rfl, Is.mono g2.gr _ _ iw⟩, trivial, trivial, trivial⟩
        refine ⟨Hb2, _, S2.st G2.g.sub, ?_⟩
        show PostM X.K W Hb2 _ _ H2 _ (.ok (.va dw) _)
        intro v H3 Hb3 s3 r3
        exact q v Hb3 H3 (G2.g.trans (ste_gro S2.no s3)) r3
      cases dw with
      | non =>
        show (if (!true) = true then _ else _)
        rw [if_neg (by decide)]
        simp only at P
        cases er : runParts run with
        | none => rw [er] at P; exact P.elim
        | some q =>
          obtain ⟨ls, t⟩ := q
          rw [er] at P
          have e := runParts_eq er
          subst e
          simp only at P
          have S2 : DatS X.K Hb2 [some v0, some v1, some v2, some (.ref p), some (.int (n : Int)), some vr, some vw, o7, o8] [.va dp, .va dq, .un, .un, .va (.int (n : Int)), .va (.tup [.tup ls, .int t]), .un, .un, .un] :=
            ⟨⟨v0, rfl, Is.mono g2.gr _ _ (Is.mono g1.gr _ _ i0)⟩, ⟨v1, rfl, Is.mono g2.gr _ _ (Is.mono g1.gr _ _ i1)⟩, trivial, trivial, ⟨_, rfl, Is.intI⟩, ⟨vr, rfl, Is.mono g2.gr _ _ (Is.mono g1.gr _ _ ir)⟩, trivial, trivial, trivial, trivial⟩
          refine ⟨Hb2, _, S2.st G2.g.sub, ?_⟩
          show PostM X.K W Hb2 _ _ H2 _ (.ok (.va (.tup [.tup ls, .int t])) _)
          intro v H3 Hb3 s3 r3
          have g3 := ste_gro S2.no s3
          have G3 := G2.step g3
          have r3 : Is X.K Hb3 (.tup [.tup ls, .int t]) v := r3
          simp only [Is] at r3
          obtain ⟨a, ys, rfl, q1, q2⟩ := r3
          simp only [IsA, Is] at q2
          obtain ⟨vl, r, rfl, ⟨al, zs, rfl, q3, q4⟩, v8, r2, rfl, rfl, rfl⟩ := q2
          have il : Is X.K Hb3 (.tup ls) (.ref al) := by simp only [Is]; exact ⟨al, zs, rfl, q3, q4⟩
          refine ⟨a, _, rfl, Same.tup G3.g.sub q1, rfl, _, _, rfl, _, _, rfl, rfl, ?_⟩
          have S3 : DatS X.K Hb3 [some v0, some v1, some v2, some (.ref p), some (.int (n : Int)), some vr, some vw, some (.ref al), some (.int t)] [.va dp, .va dq, .un, .un, .va (.int (n : Int)), .un, .un, .va (.tup ls), .va (.int t)] :=
            ⟨⟨v0, rfl, Is.mono g3.gr _ _ (Is.mono g2.gr _ _ (Is.mono g1.gr _ _ i0))⟩, ⟨v1, rfl, Is.mono g3.gr _ _ (Is.mono g2.gr _ _ (Is.mono g1.gr _ _ i1))⟩, trivial, trivial, ⟨_, rfl, Is.intI⟩, trivial, trivial, ⟨_, rfl, il⟩, ⟨_, rfl, Is.intI⟩, trivial⟩
          have toEnd : Same Hb Hb3 := (g1.gr.trans g2.gr).trans g3.gr
          refine ⟨Hb3, _, S3.st G3.g.sub, ?_⟩
          show PostT X.K W Hb3 _ _ H3 _ (.ok (decide (1 < t)) _)
          intro H4 Hb4 s4
          have g4 := ste_gro S3.no s4
          have G4 := G3.step g4
          by_cases ht : 1 < t
          · rw [decide_eq_true ht, if_pos rfl]
            rw [if_pos ht] at P
            cases ek : DL.D.key (.tup ls) with
            | none => rw [ek] at P; exact P.elim
            | some k =>
              rw [ek] at P
              simp only at P
              by_cases hd : k.depth ≤ 8
              · rw [if_pos hd] at P
                cases em : mrep [.va dp, .va (.tup ls)] with
                | stuck => rw [em] at P; exact P.elim
                | er e as2 => rw [em] at P; exact P.elim
                | ok rm as2 =>
                  cases rm with
                  | al i => rw [em] at P; exact P.elim
                  | fr ys => rw [em] at P; exact P.elim
                  | va dm =>
                    cases dm with
                    | bl b =>
                      rw [em] at P
                      simp only at P
                      have hf : fMemo mrep dp (.tup ls) = b := by unfold fMemo; rw [em]
                      have il4 : Is X.K Hb4 (.tup ls) (.ref al) := Is.mono g4.gr _ _ il
                      -- the second question
                      have second : ∀ (Hb5 H5 : Hp) xs5, Gh X (fMemo mrep dp) Hb0 H0 Hb5 H5 p xs5 → Same Hb4 Hb5 → xs5.length ≤ xs.length + 1 → (atKey xs5 k).isSome = true →
                          tIfS (tNot (tB (tDGetD X (fMemo mrep dp) (tVar 3) (tVar 7)))) (tRet (tM X.K W (mTup (mCons (mC (.str "steady")) (mCons (mV 4) mNil))))) tNext D [some v0, some v1, some v2, some (.ref p), some (.int (n : Int)), some vr, some vw, some (.ref al), some (.int t)] H5 := fun Hb5 H5 xs5 G5 sm hl hk => by
                        refine ⟨.ref p, rfl, .ref al, rfl, p, xs5, al, .tup ls, k, rfl, rfl, G5.di, ⟨ek, hd, Is.mono G5.g.sub _ _ (Is.mono sm _ _ il4)⟩, hk, _, rfl, ?_⟩
                        rw [hf]
                        cases b with
                        | true =>
                          rw [if_neg (by decide)]
                          exact P _ _ _ _ _ Hb5 H5 xs5 G5 ((toEnd.trans g4.gr).trans sm) hl
                        | false =>
                          rw [if_pos (by decide)]
                          have S5 : DatS X.K Hb5 [some v0, some v1, some v2, some (.ref p), some (.int (n : Int)), some vr, some vw, some (.ref al), some (.int t)] [.un, .un, .un, .un, .va (.int (n : Int)), .un, .un, .un, .un] :=
                            ⟨trivial, trivial, trivial, trivial, ⟨_, rfl, Is.intI⟩, trivial, trivial, trivial, trivial, trivial⟩
                          refine ⟨Hb5, _, S5.st G5.g.sub, ?_⟩
                          show PostM X.K W Hb5 _ _ H5 _ (.ok (.va (.tup [.str "steady", .int (n : Int)])) _)
                          intro v H6 Hb6 s6 r6
                          exact P v Hb6 H6 (G5.g.trans (ste_gro S5.no s6)) r6
                      refine ⟨.ref al, rfl, .ref p, rfl, p, xs, al, .tup ls, k, rfl, rfl, G4.di, ⟨ek, hd, Is.mono G4.g.sub _ _ il4⟩, _, rfl, ?_⟩
                      cases ea : atKey xs k with
                      | some w =>
                        rw [if_neg (by simp)]
                        exact second Hb4 H4 xs G4 (Same.refl _) (by omega) (by rw [ea]; rfl)
                      | none =>
                        rw [if_pos (by simp)]
                        have S4 : DatS X.K Hb4 [some v0, some v1, some v2, some (.ref p), some (.int (n : Int)), some vr, some vw, some (.ref al), some (.int t)] [.va dp, .un, .un, .un, .un, .un, .un, .va (.tup ls), .un] :=
                          ⟨⟨v0, rfl, Is.mono g4.gr _ _ (Is.mono g3.gr _ _ (Is.mono g2.gr _ _ (Is.mono g1.gr _ _ i0)))⟩, trivial, trivial, trivial, trivial, trivial, trivial, ⟨_, rfl, il4⟩, trivial, trivial⟩
                        refine ⟨Hb4, _, S4.st G4.g.sub, ?_⟩
                        show PostM X.K W Hb4 _ _ H4 _ (match mrep [.va dp, .va (.tup ls)] with
                          | .ok (.va d) as' => .ok (.va d) [.va dp, .un, .un, .un, .un, .un, .un, .va (.tup ls), .un]
                          | .ok (.fr d) as' => .ok (.fr d) [.va dp, .un, .un, .un, .un, .un, .un, .va (.tup ls), .un]
                          | .er e as' => .er e [.va dp, .un, .un, .un, .un, .un, .un, .va (.tup ls), .un]
                          | _ => .stuck)
                        rw [em]
                        intro v H5 Hb5 s5 r5
                        have g5 := ste_gro S4.no s5
                        have G5 := G4.step g5
                        have r5 : Is X.K Hb5 (.bl b) v := r5
                        simp only [Is] at r5
                        subst r5
                        refine ⟨.ref p, rfl, .ref al, rfl, p, xs, al, .tup ls, k, rfl, rfl, G5.di, ⟨ek, hd, Is.mono G5.g.sub _ _ (Is.mono g5.gr _ _ il4)⟩, ea, hz, by rw [hf], ?_⟩
                        exact second Hb5 _ _ (G5.put ek hd (Is.mono g5.gr _ _ il4) hz) g5.gr (by rw [List.length_append]; exact Nat.le_refl _) (by
                          have hn : (xs ++ [(k, al, Value.bool (fMemo mrep dp (.tup ls)))]).find? (fun x => decide (x.1 = k)) = some (k, al, Value.bool (fMemo mrep dp (.tup ls))) := by
                            have h0 : xs.find? (fun x => decide (x.1 = k)) = none := by
                              unfold atKey at ea
                              exact Option.map_eq_none_iff.mp ea
                            rw [List.find?_append, h0]
                            simp
                          unfold atKey
                          rw [hn]
                          rfl)
                    | _ => rw [em] at P; exact P.elim
              · rw [if_neg hd] at P; exact P.elim
          · rw [decide_eq_false ht, if_neg (by decide)]
            rw [if_neg ht] at P
            exact P _ _ _ _ _ Hb4 H4 xs G4 (toEnd.trans g4.gr) (by omega)
      | _ =>
        refine (if_pos (show (!(DL.D.isNon _)) = true from rfl)).mpr ?_
        exact retW rfl P
end DL

namespace DL
open PySem L2 PyProof.Rows
def runsR (mrw mrep : M Rs) (dp dq : DL.D) : Nat → List DL.D → Option (Option DL.D)
  | _, [] => some none
  | n, r :: rs => match stepR mrw mrep dp dq r n with
    | none => none
    | some (some d) => some (some d)
    | some none => runsR mrw mrep dp dq (n + 1) rs
def mRuns (F : List DL.D → Option Rs) (mrw mrep : M Rs) : M Rs := fun as => match as with
  | [.va dp, .va dq, .va dt] => (match F [dt, .ty "list"] with
    | some (.va (.bl true)) => (match dt with
      | .lst ds => if ds.length ≤ 100000 then (match runsR mrw mrep dp dq 0 ds with
        | some none => .ok (.va .non) as
        | some (some d) => .ok (.va d) as
        | none => .stuck) else .stuck
      | _ => .stuck)
    | some (.va (.bl false)) => .ok (.va (.tup [.str "row"])) as
    | _ => .stuck)
  | _ => .stuck
def tBodyE (X : Cx) (mrw mrep : M Rs) (dp dq : DL.D) (Hb0 H0 : Hp) (v0 v1 v2 : V) : TS := fun D σ H => ∃ p, tBody X mrw mrep dp dq Hb0 H0 p v0 v1 v2 D σ H
theorem bodyE_ok {X : Cx} {mrw mrep : M Rs} {dp dq : DL.D} {Hb0 H0 : Hp} {v0 v1 v2 : V} {sts : List Stmt} (h : ∀ p, PSs X sts (tBody X mrw mrep dp dq Hb0 H0 p v0 v1 v2)) : PSs X sts (tBodyE X mrw mrep dp dq Hb0 H0 v0 v1 v2) :=
  ⟨fun pins s σ H D I q => let ⟨p, q⟩ := q; (h p).run pins s σ H D I q⟩
/-- the loop -/
theorem loop_ok {X : Cx} {W : WX} {mrw mrep : M Rs} {dp dq : DL.D} {ds : List DL.D} {Hb0 H0 : Hp} {p : Addr} {v0 v1 v2 : V} {D : Ends} {H Hb : Hp} {xs : List (NestedKey × Addr × Value)} {o4 o5 o6 o7 o8 : Option V}
    (hz : ds.length ≤ 100000) (G : Gh X (fMemo mrep dp) Hb0 H0 Hb H p xs) (hx : xs.length = 0) (i0 : Is X.K Hb dp v0) (i1 : Is X.K Hb dq v1) (i2 : Is X.K Hb (.lst ds) v2)
    (P : match runsR mrw mrep dp dq 0 ds with
      | none => False
      | some (some d) => ∀ v Hb' H', Gro Hb0 H0 Hb' H' → Is X.K Hb' d v → D.rt v H'
      | some none => ∀ σ' Hb' H', Gro Hb0 H0 Hb' H' → D.nx σ' H') :
    tFor (tI X.K W (mSeqs enD (mCons (mV 2) mNil))) (gTup X.K 2 (gNs [4, 5])) (tBodyE X mrw mrep dp dq Hb0 H0 v0 v1 v2) D [some v0, some v1, some v2, some (.ref p), o4, o5, o6, o7, o8] H := by
  have S : DatS X.K Hb [some v0, some v1, some v2, some (.ref p), o4, o5, o6, o7, o8] [.un, .un, .va (.lst ds), .un, .un, .un, .un, .un, .un] :=
    ⟨trivial, trivial, ⟨v2, rfl, i2⟩, trivial, trivial, trivial, trivial, trivial, trivial, trivial⟩
  refine ⟨Hb, _, S.st G.g.sub, ?_⟩
  show PostI X.K W Hb _ _ H _ (.ok (enumL 0 ds) _)
  intro J H1 Hb1 s1 hJ
  have g1 := ste_gro S.no s1
  have G1 := G.step g1
  refine ⟨fun i m σ H => m = ds.length - i ∧ i ≤ ds.length ∧ ∃ Hb xs o4 o5 o6 o7 o8, σ = [some v0, some v1, some v2, some (.ref p), o4, o5, o6, o7, o8] ∧ Gh X (fMemo mrep dp) Hb0 H0 Hb H p xs ∧ Same Hb1 Hb ∧ xs.length ≤ i ∧
    (match runsR mrw mrep dp dq i (ds.drop i) with
      | none => False
      | some (some d) => ∀ v Hb' H', Gro Hb0 H0 Hb' H' → Is X.K Hb' d v → D.rt v H'
      | some none => ∀ σ' Hb' H', Gro Hb0 H0 Hb' H' → D.nx σ' H'), ⟨ds.length, by simp, Nat.zero_le _, Hb1, xs, o4, o5, o6, o7, o8, rfl, G1, Same.refl _, by omega, P⟩, ?_⟩
  rintro i m σ H2 ⟨rfl, hi, Hb2, xs2, o4, o5, o6, o7, o8, rfl, G2, sm, hl, P2⟩
  by_cases hlt : i < ds.length
  · have ed : ds.drop i = ds[i] :: ds.drop (i + 1) := List.drop_eq_getElem_cons hlt
    rw [ed] at P2
    unfold runsR at P2
    refine .inr ⟨hJ.go Hb2 H2 i sm G2.g.sub (by rw [enum_len]; exact hlt), fun σ' H' => ∃ Hb3 xs3 o4 o5 o6 o7 o8, σ' = [some v0, some v1, some v2, some (.ref p), o4, o5, o6, o7, o8] ∧ Gh X (fMemo mrep dp) Hb0 H0 Hb3 H' p xs3 ∧ Same Hb1 Hb3 ∧ xs3.length ≤ i + 1 ∧ (match runsR mrw mrep dp dq (i + 1) (ds.drop (i + 1)) with
      | none => False
      | some (some d) => ∀ v Hb' H', Gro Hb0 H0 Hb' H' → Is X.K Hb' d v → D.rt v H'
      | some none => ∀ σ' Hb' H', Gro Hb0 H0 Hb' H' → D.nx σ' H'), fun σ' H' h => ⟨ds.length - (i + 1), by omega, rfl, hlt, h⟩, fun x H' y => ?_⟩
    obtain ⟨Hb3, gr, hx3⟩ := hJ.yld Hb2 H2 i x H' (.tup [.int ((0 + i : Nat) : Int), ds[i]]) sm G2.g.sub y (by
      have : ∀ (n i : Nat) (ds : List DL.D) (h : i < ds.length), (enumL n ds)[i]? = some (.tup [.int ((n + i : Nat) : Int), ds[i]]) := by
        intro n i ds
        induction ds generalizing n i with
        | nil => intro h; simp at h
        | cons d ds ih =>
          intro h
          cases i with
          | zero => rfl
          | succ i =>
            have := ih (n + 1) i (by simpa using h)
            unfold enumL
            rw [List.getElem?_cons_succ, this, show n + 1 + i = n + (i + 1) by omega]
            rfl
      exact this 0 i ds hlt)
    have G3 := G2.step gr
    simp only [Is] at hx3
    obtain ⟨a, ys, rfl, q1, q2⟩ := hx3
    simp only [IsA, Is] at q2
    obtain ⟨v4, r, rfl, rfl, vr, r2, rfl, ir, rfl⟩ := q2
    refine ⟨a, _, rfl, Same.tup G3.g.sub q1, rfl, _, _, rfl, _, _, rfl, rfl, ?_⟩
    refine ⟨p, Hb3, xs2, vr, ds[i], o6, o7, o8, i, ?_, G3, Is.mono ((g1.gr.trans sm).trans gr.gr) _ _ i0, Is.mono ((g1.gr.trans sm).trans gr.gr) _ _ i1, ir, by omega, ?_⟩
    · rw [Nat.zero_add]; rfl
    · cases es : stepR mrw mrep dp dq ds[i] i with
      | none => rw [es] at P2; exact P2
      | some q =>
        rw [es] at P2
        cases q with
        | some d => exact P2
        | none => exact fun o4 o5 o6 o7 o8 Hb' H' xs' G' sm' hl' => ⟨Hb', xs', o4, o5, o6, o7, o8, rfl, G', (sm.trans gr.gr).trans sm', by omega, P2⟩
  · have e : i = ds.length := by omega
    subst e
    rw [List.drop_length] at P2
    refine .inl ⟨?_, P2 _ Hb2 H2 G2.g⟩
    have := hJ.stop Hb2 H2 sm G2.g.sub
    rw [enum_len] at this
    exact this
theorem DatS.un {K : PySem.W.Frag} {Hb : Hp} : ∀ σ : List (Option V), DatS K Hb σ (σ.map fun _ => Sl.un)
  | [] => trivial
  | _ :: σ => ⟨trivial, DatS.un σ⟩
theorem test_F {F : List DL.D → Option Rs} {ρ : Rho} {dt : DL.D} {b : Bool} (h2 : ρ[2]? = some (.va dt)) (e : F [dt, .ty "list"] = some (.va (.bl b))) : mNot (mTv (mBi F (mCons (mV 2) (mCons (mC (.ty "list")) mNil)))) ρ = .ok (!b) ρ := by
  simp [mNot, mTv, mBi, mCons, mV, mC, mNil, bnd, h2, rds, rd, soft, e]
abbrev tRuns (X : Cx) (W : WX) (F : List DL.D → Option Rs) (mrw mrep : M Rs) (dp dq : DL.D) (Hb0 H0 : Hp) (v0 v1 v2 : V) : TS :=
  tSeq (tIfS (tT X.K W (mNot (mTv (mBi F (mCons (mV 2) (mCons (mC (.ty "list")) mNil)))))) (tRet (tM X.K W (mTup (mCons (mC (.str "row")) mNil)))) tNext)
    (tSeq (tAsg (tDNewD X.prog X.w) (gName 3)) (tSeq (tFor (tI X.K W (mSeqs enD (mCons (mV 2) mNil))) (gTup X.K 2 (gNs [4, 5])) (tBodyE X mrw mrep dp dq Hb0 H0 v0 v1 v2)) (tRet (tM X.K W (mC .non)))))
theorem fun_pre {X : Cx} {W : WX} {F : List DL.D → Option Rs} {mrw mrep : M Rs} {dp dq dt : DL.D} {Hb H : Hp} {v0 v1 v2 : V} {Q : VK} (sub : Same Hb H) (i0 : Is X.K Hb dp v0) (i1 : Is X.K Hb dq v1) (i2 : Is X.K Hb dt v2)
    (P : match mRuns F mrw mrep [.va dp, .va dq, .va dt] with
      | .ok (.va d) _ => ∀ v Hb' H', Gro Hb H Hb' H' → Is X.K Hb' d v → Q v H'
      | _ => False) : tRuns X W F mrw mrep dp dq Hb H v0 v1 v2 { nx := fun _ H' => Q .non H', rt := Q } [some v0, some v1, some v2, none, none, none, none, none, none] H := by
  have S : DatS X.K Hb [some v0, some v1, some v2, none, none, none, none, none, none] [.un, .un, .va dt, .un, .un, .un, .un, .un, .un] :=
    ⟨trivial, trivial, ⟨v2, rfl, i2⟩, trivial, trivial, trivial, trivial, trivial, trivial, trivial⟩
  unfold mRuns at P
  simp only at P
  refine ⟨Hb, _, S.st sub, ?_⟩
  cases eF : F [dt, .ty "list"] with
  | none => rw [eF] at P; exact P.elim
  | some r =>
    rw [eF] at P
    cases r with
    | fr ys => exact P.elim
    | al i => exact P.elim
    | va db =>
      cases db with
      | bl b =>
        rw [test_F rfl eF]
        intro H1 Hb1 s1
        have g1 := ste_gro S.no s1
        cases b with
        | false =>
          simp only at P
          refine (if_pos rfl).mpr ?_
          have S1 : DatS X.K Hb1 [some v0, some v1, some v2, none, none, none, none, none, none] [.un, .un, .un, .un, .un, .un, .un, .un, .un] :=
            ⟨trivial, trivial, trivial, trivial, trivial, trivial, trivial, trivial, trivial, trivial⟩
          refine ⟨Hb1, _, S1.st g1.sub, ?_⟩
          show PostM X.K W Hb1 _ _ H1 _ (.ok (.va (.tup [.str "row"])) _)
          intro v H2 Hb2 s2 r2
          exact P v Hb2 H2 (g1.trans (ste_gro S1.no s2)) r2
        | true =>
          refine (if_neg (by decide)).mpr ?_
          cases dt with
          | lst ds =>
            simp only at P
            by_cases hz : ds.length ≤ 100000
            · rw [if_pos hz] at P
              intro p np sys
              have G : Gh X (fMemo mrep dp) Hb H Hb1 (upd H1 p (RawD X.prog X.w p [])) p [] := by
                have pn : H p = none := Same.free g1.fr np
                have pb : Hb1 p = none := Same.none g1.sub np
                refine ⟨⟨fun b o e => ?_, g1.gr, g1.gn, fun b o e => ?_⟩, pn, pb, upd_same, sys, Nat.zero_le _, fun x hx => by cases hx⟩
                · rw [upd_ne (fun z => by subst z; rw [pn] at e; cases e)]
                  exact g1.fr b o e
                · rw [upd_ne (fun z => by subst z; rw [pb] at e; cases e)]
                  exact g1.sub b o e
              refine loop_ok hz G rfl (Is.mono g1.gr _ _ i0) (Is.mono g1.gr _ _ i1) (Is.mono g1.gr _ _ i2) ?_
              cases er : runsR mrw mrep dp dq 0 ds with
              | none => rw [er] at P; exact P
              | some q =>
                rw [er] at P
                cases q with
                | some d => exact P
                | none =>
                  intro σ' Hb' H' g'
                  have S2 := DatS.un (K := X.K) (Hb := Hb') σ'
                  refine ⟨Hb', _, S2.st g'.sub, ?_⟩
                  show PostM X.K W Hb' _ _ H' _ (.ok (.va .non) _)
                  intro v H2 Hb2 s2 r2
                  exact P v Hb2 H2 (g'.trans (ste_gro S2.no s2)) r2
            · rw [if_neg hz] at P; exact P.elim
          | _ => exact P.elim
      | _ => exact P.elim
/-- THE RULE for the def that looks at a row -/
theorem runs_ok {P : Program} {w : World} {K : PySem.W.Frag} {mg : Str → Option Value} {base : Heap} {x qual : Str} {st : Stmt} {f : Addr} {fd : FuncData} {N ps : List Str} {k : Nat} {F : List DL.D → Option Rs} {mrw mrep : M Rs} (Fn : Fun K x qual st f fd) (S : FnScope N ps (defScope st)) (hN : N.length = 9) (hps : ps.length = 3)
    (hbody : ∀ (cdv : Value) (A : Around) (outer : List Env) (s : Shared) (H : Hp) (E : XK), Room k (A.deeper (envOfC qual (defScope st) s.heap.objs.size f cdv)) →
      Takes (cxOf (L2.CX P w) P w K mg base N qual (defScope st) f cdv A outer s H E) (WEx E) → PassesOwn (model P w) (cxOf (L2.CX P w) P w K mg base N qual (defScope st) f cdv A outer s H E).A (cxOf (L2.CX P w) P w K mg base N qual (defScope st) f cdv A outer s H E).env (cxOf (L2.CX P w) P w K mg base N qual (defScope st) f cdv A outer s H E).xe →
      ∀ (dp dq : DL.D) (Hb0 H0 : Hp) (v0 v1 v2 : V), PSs (cxOf (L2.CX P w) P w K mg base N qual (defScope st) f cdv A outer s H E) (defBody st) (tRuns (cxOf (L2.CX P w) P w K mg base N qual (defScope st) f cdv A outer s H E) (WEx E) F mrw mrep dp dq Hb0 H0 v0 v1 v2)) :
    FnOk P w K mg base (L2.CX P w) (k + 1) f fd ps (spD K ps.length (mRuns F mrw mrep)) := by
  refine Fn.okX S (fun vs H Q E h => h.1) fun cdv A outer s H vs Q E hr h => ?_
  obtain ⟨hl, Hb, as, S0, ao, Pf⟩ := h
  rw [hps] at hl
  match vs, hl with
  | [v0, v1, v2], _ =>
    have hlen : as.length = 3 := by have := S0.len; simpa using this.symm
    match as, hlen, Pf, S0 with
    | [.va dp, .va dq, .va dt], _, Pf, S0 =>
      obtain ⟨w0, e0, i0⟩ := S0.va (i := 0) rfl
      obtain ⟨w1, e1, i1⟩ := S0.va (i := 1) rfl
      obtain ⟨w2, e2, i2⟩ := S0.va (i := 2) rfl
      cases e0; cases e1; cases e2
      have es : L2.start N [v0, v1, v2] = [some v0, some v1, some v2, none, none, none, none, none, none] := by
        unfold L2.start
        rw [hN]
        rfl
      refine ⟨_, hbody cdv A outer s H E hr (takes_of rfl rfl rfl rfl) (passes_of rfl) dp dq Hb H v0 v1 v2, ?_⟩
      rw [es]
      refine fun_pre (F := F) S0.sub i0 i1 i2 ?_
      cases em : mRuns F mrw mrep [.va dp, .va dq, .va dt] with
      | stuck => rw [em] at Pf; exact Pf
      | er e as' =>
        exfalso
        unfold mRuns at em
        simp only at em
        split at em
        · split at em
          · split at em
            · split at em <;> cases em
            · cases em
          · cases em
        · cases em
        · cases em
      | ok r as' =>
        rw [em] at Pf
        have ea : as' = [.va dp, .va dq, .va dt] ∧ ∃ d, r = .va d := by
          unfold mRuns at em
          simp only at em
          split at em
          · split at em
            · split at em
              · split at em
                · cases em; exact ⟨rfl, _, rfl⟩
                · cases em; exact ⟨rfl, _, rfl⟩
                · cases em
              · cases em
            · cases em
          · cases em; exact ⟨rfl, _, rfl⟩
          · cases em
        obtain ⟨rfl, d, rfl⟩ := ea
        exact fun v Hb' H' g i => Pf v H' Hb' (g.ste S0) i
    | [.un, _, _], _, Pf, S0 => exact Pf.elim
    | [.ow _ _, _, _], _, Pf, S0 => exact Pf.elim
    | [.va _, .un, _], _, Pf, S0 => exact Pf.elim
    | [.va _, .ow _ _, _], _, Pf, S0 => exact Pf.elim
    | [.va _, .va _, .un], _, Pf, S0 => exact Pf.elim
    | [.va _, .va _, .ow _ _], _, Pf, S0 => exact Pf.elim
end DL

namespace DL
open PySem L2 PyProof.Rows
/-! ### xs[::-1] -/
theorem IsA.rev {K : PySem.W.Frag} {H : Hp} : ∀ {ds : List DL.D} {vs : List V}, IsA K H ds vs → IsA K H ds.reverse vs.reverse
  | [], vs, h => by simp only [IsA] at h; subst h; exact IsA.nil
  | d :: ds, vs, h => by
    simp only [IsA] at h
    obtain ⟨v, r, rfl, h1, h2⟩ := h
    rw [List.reverse_cons, List.reverse_cons]
    exact (IsA.rev h2).append (IsA.cons h1 IsA.nil)
def revD (x : DL.D) : Option Rs := match x with
  | .lst xs => some (.fr xs.reverse)
  | _ => none
theorem dm_rev {X : Cx} {W : WX} {a : Expr} {ma : M Rs} {k : Nat} {p1 p2 p3 pos : Pos} (ha : PE X a (tM X.K W ma)) : PE X (.Subscript a (.Slice none none (some (.UnaryOp .USub (.Constant (.int 1) k p1) p2)) p3) pos) (tM X.K W (mUn revD ma)) := by
  refine PE.imp (pe_revL ha) fun σ H Q h => ?_
  obtain ⟨Hb, ρ, S, P⟩ := h
  refine ⟨Hb, ρ, S, ?_⟩
  unfold mUn at P
  cases ea : ma ρ with
  | stuck => rw [ea] at P; exact P
  | er e ρ1 => rw [ea] at P; exact P
  | ok x ρ1 =>
    rw [ea] at P
    intro v H1 Hb1 s1 r1
    simp only [bnd] at P
    cases ex : rd ρ1 x with
    | none => simp only [ex] at P; exact P.elim
    | some dx =>
      simp only [ex] at P
      have q := rd_ok s1.st r1 ex
      cases dx with
      | lst xs =>
        simp only [revD] at P
        obtain ⟨p, vs, rfl, h1, i1⟩ := q.lst s1.st.sub
        refine ⟨p, vs, rfl, h1, fun t ht => ?_⟩
        have g : Gro Hb1 H1 Hb1 (upd H1 t (.lst vs.reverse)) := Gro.newL s1.st.sub ht
        exact P (.ref t) _ _ (s1.trans (g.ste s1.st)) ⟨t, _, rfl, s1.th t ht, Same.none s1.st.sub ht, upd_same, IsA.rev i1⟩
      | _ => simp only [revD] at P; exact P.elim
/-! ### [x, ..] * n, a new list -/
def mRepF (a b : M Rs) : M Rs := fun ρ => bnd (a ρ) fun x ρ1 => bnd (b ρ1) fun y ρ2 => match x, rd ρ2 y with
  | .fr xs, some (.int k) => if 0 ≤ k ∧ k ≤ 1000 ∧ xs.length ≤ 1000 then .ok (.fr (List.replicate k.toNat xs).flatten) ρ2 else .stuck
  | _, _ => .stuck
theorem dm_repF {X : Cx} {W : WX} {a b : Expr} {ma mb : M Rs} {pos : Pos} (ha : PE X a (tM X.K W ma)) (hb : PE X b (tM X.K W mb)) : PE X (.BinOp a .Mult b pos) (tM X.K W (mRepF ma mb)) := by
  refine PE.imp (pe_op op_rep ha hb) fun σ H Q h => ?_
  obtain ⟨Hb, ρ, S, P⟩ := h
  refine ⟨Hb, ρ, S, ?_⟩
  unfold mRepF at P
  cases ea : ma ρ with
  | stuck => rw [ea] at P; exact P
  | er e ρ1 => rw [ea] at P; exact P
  | ok x ρ1 =>
    rw [ea] at P
    intro v H1 Hb1 s1 r1
    refine ⟨Hb1, ρ1, s1.st, ?_⟩
    simp only [bnd] at P
    cases eb : mb ρ1 with
    | stuck => rw [eb] at P; exact P
    | er e ρ2 =>
      rw [eb] at P
      intro d H2 Hb2 s2 ex
      exact P d H2 Hb2 (s1.trans s2) ex
    | ok y ρ2 =>
      rw [eb] at P
      intro w H2 Hb2 s2 r2
      simp only at P
      have r1' : RsR X.K H Hb2 σ H2 x v := r1.step (own_there' S s1) s2
      have s12 := s1.trans s2
      cases x with
      | va d => exact P.elim
      | al i => exact P.elim
      | fr xs =>
        cases ey : rd ρ2 y with
        | none => simp only [ey] at P; exact P.elim
        | some dy =>
          have qy := rd_ok s2.st r2 ey
          cases dy with
          | int k =>
            simp only [ey] at P
            by_cases hc : 0 ≤ k ∧ k ≤ 1000 ∧ xs.length ≤ 1000
            · rw [if_pos hc] at P
              obtain ⟨p, vs, rfl, h1, h2, h3, h4⟩ := r1'
              have hm : xs.length * k.toNat ≤ 1000 * 1000 := Nat.mul_le_mul hc.2.2 (by omega)
              refine ⟨p, k, vs, rfl, qy.int, h3, by omega, by omega, Nat.le_trans (by rw [h4.length] at *; exact hm) (by decide), fun t ht => ?_⟩
              have g : Gro Hb2 H2 Hb2 (upd H2 t (.lst (List.replicate k.toNat vs).flatten)) := Gro.newL s2.st.sub ht
              exact P (.ref t) _ _ (s12.trans (g.ste s2.st)) ⟨t, _, rfl, s12.th t ht, Same.none s2.st.sub ht, upd_same, rep_is h4 k.toNat⟩
            · rw [if_neg hc] at P; exact P.elim
          | _ => simp only [ey] at P; exact P.elim
end DL

namespace K4
open PySem L2 PyProof.Rows DL
local macro_rules | `(tactic| mconstructor) => `(tactic| first | exact .inl rfl | exact .inr (.inl rfl) | exact .inr rfl | exact .inr (.inr rfl))
local macro_rules | `(tactic| mpure_intro) => `(tactic| (simp only [cxOf, envOfC, Cx.blk, compEnvC, relab_eq]; decide +kernel))
/-! ### the text -/
def topS (i : Nat) : Stmt := PySem.Challenge.pw_leapfolk_k04_steady_leaps.main.body.getD i (.Pass ⟨0, 0, 0, 0⟩)
abbrev s_is_whole : Stmt := topS 15
theorem sc_is_whole : FnScope ["thing"] ["thing"] (defScope s_is_whole) := ⟨rfl, rfl, rfl, by decide +kernel, rfl, by decide +kernel, by decide +kernel⟩
abbrev s_is_whole_in : Stmt := topS 16
theorem sc_is_whole_in : FnScope ["least", "most", "thing"] ["least", "most", "thing"] (defScope s_is_whole_in) := ⟨rfl, rfl, rfl, by decide +kernel, rfl, by decide +kernel, by decide +kernel⟩
abbrev s_is_tuple_of : Stmt := topS 17
theorem sc_is_tuple_of : FnScope ["least", "most", "thing"] ["least", "most", "thing"] (defScope s_is_tuple_of) := ⟨rfl, rfl, rfl, by decide +kernel, rfl, by decide +kernel, by decide +kernel⟩
abbrev s_onto_way : Stmt := topS 19
theorem sc_onto_way : FnScope ["way", "number"] ["way", "number"] (defScope s_onto_way) := ⟨rfl, rfl, rfl, by decide +kernel, rfl, by decide +kernel, by decide +kernel⟩
abbrev s_beyond : Stmt := topS 20
theorem sc_beyond : FnScope ["ways", "start", "over", "way", "number", "middle"] ["ways", "start", "over"] (defScope s_beyond) := ⟨rfl, rfl, rfl, by decide +kernel, rfl, by decide +kernel, by decide +kernel⟩
abbrev s_moved_on : Stmt := topS 21
theorem sc_moved_on : FnScope ["ways", "start", "end", "times", "way", "low", "high"] ["ways", "start", "end", "times"] (defScope s_moved_on) := ⟨rfl, rfl, rfl, by decide +kernel, rfl, by decide +kernel, by decide +kernel⟩
abbrev s_plain_point : Stmt := topS 22
theorem sc_plain_point : FnScope ["point", "number"] ["point"] (defScope s_plain_point) := ⟨rfl, rfl, rfl, by decide +kernel, rfl, by decide +kernel, by decide +kernel⟩
abbrev s_plain_points : Stmt := topS 23
theorem sc_plain_points : FnScope ["standing", "point"] ["standing"] (defScope s_plain_points) := ⟨rfl, rfl, rfl, by decide +kernel, rfl, by decide +kernel, by decide +kernel⟩
abbrev s_unit_points : Stmt := topS 24
theorem sc_unit_points : FnScope ["persons", "person", "way"] ["persons"] (defScope s_unit_points) := ⟨rfl, rfl, rfl, by decide +kernel, rfl, by decide +kernel, by decide +kernel⟩
abbrev s_vectors_between : Stmt := topS 25
theorem sc_vectors_between : FnScope ["starts", "ends", "start", "end", "low", "high"] ["starts", "ends"] (defScope s_vectors_between) := ⟨rfl, rfl, rfl, by decide +kernel, rfl, by decide +kernel, by decide +kernel⟩
abbrev s_points_after : Stmt := topS 26
theorem sc_points_after : FnScope ["ways", "points", "leaps", "moved", "i", "j"] ["ways", "points", "leaps"] (defScope s_points_after) := ⟨rfl, rfl, rfl, by decide +kernel, rfl, by decide +kernel, by decide +kernel⟩
abbrev s_points_after_run : Stmt := topS 27
theorem sc_points_after_run : FnScope ["ways", "points", "run", "once", "leaps", "times", "start", "end"] ["ways", "points", "run"] (defScope s_points_after_run) := ⟨rfl, rfl, rfl, by decide +kernel, rfl, by decide +kernel, by decide +kernel⟩
abbrev s_points_after_row : Stmt := topS 28
theorem sc_points_after_row : FnScope ["ways", "points", "row", "moved", "run"] ["ways", "points", "row"] (defScope s_points_after_row) := ⟨rfl, rfl, rfl, by decide +kernel, rfl, by decide +kernel, by decide +kernel⟩
abbrev s_repeats_alike : Stmt := topS 29
theorem sc_repeats_alike : FnScope ["persons", "leaps", "lines", "start", "once", "twice"] ["persons", "leaps"] (defScope s_repeats_alike) := ⟨rfl, rfl, rfl, by decide +kernel, rfl, by decide +kernel, by decide +kernel⟩
abbrev s_is_way : Stmt := topS 34
theorem sc_is_way : FnScope ["thing"] ["thing"] (defScope s_is_way) := ⟨rfl, rfl, rfl, by decide +kernel, rfl, by decide +kernel, by decide +kernel⟩
abbrev s_is_ways : Stmt := topS 35
theorem sc_is_ways : FnScope ["thing", "way"] ["thing"] (defScope s_is_ways) := ⟨rfl, rfl, rfl, by decide +kernel, rfl, by decide +kernel, by decide +kernel⟩
abbrev s_is_persons : Stmt := topS 36
theorem sc_is_persons : FnScope ["thing"] ["thing"] (defScope s_is_persons) := ⟨rfl, rfl, rfl, by decide +kernel, rfl, by decide +kernel, by decide +kernel⟩
abbrev s_is_posts : Stmt := topS 37
theorem sc_is_posts : FnScope ["persons", "thing", "lowest", "post"] ["persons", "thing"] (defScope s_is_posts) := ⟨rfl, rfl, rfl, by decide +kernel, rfl, by decide +kernel, by decide +kernel⟩
abbrev s_yard_wrong : Stmt := topS 38
theorem sc_yard_wrong : FnScope ["thing", "ways", "persons", "posts"] ["thing"] (defScope s_yard_wrong) := ⟨rfl, rfl, rfl, by decide +kernel, rfl, by decide +kernel, by decide +kernel⟩
abbrev s_need_yard : Stmt := topS 39
theorem sc_need_yard : FnScope ["yard"] ["yard"] (defScope s_need_yard) := ⟨rfl, rfl, rfl, by decide +kernel, rfl, by decide +kernel, by decide +kernel⟩
abbrev s_is_number_on : Stmt := topS 40
theorem sc_is_number_on : FnScope ["way", "thing"] ["way", "thing"] (defScope s_is_number_on) := ⟨rfl, rfl, rfl, by decide +kernel, rfl, by decide +kernel, by decide +kernel⟩
abbrev s_is_point : Stmt := topS 41
theorem sc_is_point : FnScope ["ways", "thing", "way", "number"] ["ways", "thing"] (defScope s_is_point) := ⟨rfl, rfl, rfl, by decide +kernel, rfl, by decide +kernel, by decide +kernel⟩
abbrev s_standing_wrong : Stmt := topS 42
theorem sc_standing_wrong : FnScope ["yard", "thing", "ways", "persons", "_", "k", "point"] ["yard", "thing"] (defScope s_standing_wrong) := ⟨rfl, rfl, rfl, by decide +kernel, rfl, by decide +kernel, by decide +kernel⟩
abbrev s_is_standing : Stmt := topS 43
theorem sc_is_standing : FnScope ["yard", "thing"] ["yard", "thing"] (defScope s_is_standing) := ⟨rfl, rfl, rfl, by decide +kernel, rfl, by decide +kernel, by decide +kernel⟩
abbrev s_need_standing : Stmt := topS 44
theorem sc_need_standing : FnScope ["yard", "standing"] ["yard", "standing"] (defScope s_need_standing) := ⟨rfl, rfl, rfl, by decide +kernel, rfl, by decide +kernel, by decide +kernel⟩
abbrev s_is_leap : Stmt := topS 45
theorem sc_is_leap : FnScope ["persons", "posts", "thing", "i", "j", "person"] ["persons", "posts", "thing"] (defScope s_is_leap) := ⟨rfl, rfl, rfl, by decide +kernel, rfl, by decide +kernel, by decide +kernel⟩
abbrev s_leap_at_fault : Stmt := topS 48
theorem sc_leap_at_fault : FnScope ["persons", "posts", "leaps", "k", "leap"] ["persons", "posts", "leaps"] (defScope s_leap_at_fault) := ⟨rfl, rfl, rfl, by decide +kernel, rfl, by decide +kernel, by decide +kernel⟩
abbrev s_is_steady : Stmt := topS 49
theorem sc_is_steady : FnScope ["persons", "leaps"] ["persons", "leaps"] (defScope s_is_steady) := ⟨rfl, rfl, rfl, by decide +kernel, rfl, by decide +kernel, by decide +kernel⟩
abbrev s_run_wrong : Stmt := topS 50
theorem sc_run_wrong : FnScope ["persons", "posts", "n", "run", "k", "leaps", "times"] ["persons", "posts", "n", "run"] (defScope s_run_wrong) := ⟨rfl, rfl, rfl, by decide +kernel, rfl, by decide +kernel, by decide +kernel⟩
abbrev s_runs_wrong : Stmt := topS 51
theorem sc_runs_wrong : FnScope ["persons", "posts", "thing", "steady", "n", "run", "wrong", "leaps", "times"] ["persons", "posts", "thing"] (defScope s_runs_wrong) := ⟨rfl, rfl, rfl, by decide +kernel, rfl, by decide +kernel, by decide +kernel⟩
abbrev s_need_runs : Stmt := topS 52
theorem sc_need_runs : FnScope ["persons", "posts", "row"] ["persons", "posts", "row"] (defScope s_need_runs) := ⟨rfl, rfl, rfl, by decide +kernel, rfl, by decide +kernel, by decide +kernel⟩
abbrev s_row_wrong : Stmt := topS 53
theorem sc_row_wrong : FnScope ["yard", "thing", "_", "persons", "posts"] ["yard", "thing"] (defScope s_row_wrong) := ⟨rfl, rfl, rfl, by decide +kernel, rfl, by decide +kernel, by decide +kernel⟩
abbrev s_done : Stmt := topS 54
theorem sc_done : FnScope ["yard", "standing", "row", "ways", "persons", "posts"] ["yard", "standing", "row"] (defScope s_done) := ⟨rfl, rfl, rfl, by decide +kernel, rfl, by decide +kernel, by decide +kernel⟩
abbrev s__law_mixed : Stmt := topS 56
theorem sc__law_mixed : FnScope ["cell", "k", "number"] ["cell", "k"] (defScope s__law_mixed) := ⟨rfl, rfl, rfl, by decide +kernel, rfl, by decide +kernel, by decide +kernel⟩
abbrev s__law_pile : Stmt := topS 57
theorem sc__law_pile : FnScope ["script", "k", "cell", "digits"] ["script", "k"] (defScope s__law_pile) := ⟨rfl, rfl, rfl, by decide +kernel, rfl, by decide +kernel, by decide +kernel⟩
abbrev s__law_take : Stmt := topS 58
theorem sc__law_take : FnScope ["pile", "many", "digit"] ["pile", "many"] (defScope s__law_take) := ⟨rfl, rfl, rfl, by decide +kernel, rfl, by decide +kernel, by decide +kernel⟩
abbrev s__law_great : Stmt := topS 59
theorem sc__law_great : FnScope ["pile"] ["pile"] (defScope s__law_great) := ⟨rfl, rfl, rfl, by decide +kernel, rfl, by decide +kernel, by decide +kernel⟩
abbrev s__law_number : Stmt := topS 60
theorem sc__law_number : FnScope ["pile"] ["pile"] (defScope s__law_number) := ⟨rfl, rfl, rfl, by decide +kernel, rfl, by decide +kernel, by decide +kernel⟩
abbrev s__law_ways : Stmt := topS 61
theorem sc__law_ways : FnScope ["pile", "upto", "found", "way", "kind", "size"] ["pile", "upto"] (defScope s__law_ways) := ⟨rfl, rfl, rfl, by decide +kernel, rfl, by decide +kernel, by decide +kernel⟩
abbrev s__law_vector : Stmt := topS 62
theorem sc__law_vector : FnScope ["pile", "ways", "size"] ["pile", "ways"] (defScope s__law_vector) := ⟨rfl, rfl, rfl, by decide +kernel, rfl, by decide +kernel, by decide +kernel⟩
abbrev s__law_put : Stmt := topS 63
theorem sc__law_put : FnScope ["one", "other", "times", "here", "more"] ["one", "other", "times"] (defScope s__law_put) := ⟨rfl, rfl, rfl, by decide +kernel, rfl, by decide +kernel, by decide +kernel⟩
abbrev s__law_round : Stmt := topS 64
theorem sc__law_round : FnScope ["ways", "vector", "size", "number"] ["ways", "vector"] (defScope s__law_round) := ⟨rfl, rfl, rfl, by decide +kernel, rfl, by decide +kernel, by decide +kernel⟩
abbrev s__law_standing : Stmt := topS 65
theorem sc__law_standing : FnScope ["pile", "ways", "persons", "start", "some", "odd", "found", "person", "place", "vector", "k"] ["pile", "ways", "persons"] (defScope s__law_standing) := ⟨rfl, rfl, rfl, by decide +kernel, rfl, by decide +kernel, by decide +kernel⟩
abbrev s__law_leap : Stmt := topS 66
theorem sc__law_leap : FnScope ["pile", "yard", "walkers", "person"] ["pile", "yard"] (defScope s__law_leap) := ⟨rfl, rfl, rfl, by decide +kernel, rfl, by decide +kernel, by decide +kernel⟩
abbrev s__law_places : Stmt := topS 67
theorem sc__law_places : FnScope ["points", "leaps", "found", "person", "over", "point", "here", "there"] ["points", "leaps"] (defScope s__law_places) := ⟨rfl, rfl, rfl, by decide +kernel, rfl, by decide +kernel, by decide +kernel⟩
abbrev s__law_done : Stmt := topS 68
theorem sc__law_done : FnScope ["ways", "standing", "row", "points", "leaps", "times", "behind", "point", "one", "other"] ["ways", "standing", "row"] (defScope s__law_done) := ⟨rfl, rfl, rfl, by decide +kernel, rfl, by decide +kernel, by decide +kernel⟩
abbrev s__law_steady : Stmt := topS 69
theorem sc__law_steady : FnScope ["persons", "leaps", "rows", "once", "twice", "ahead", "then", "behind", "at", "k"] ["persons", "leaps"] (defScope s__law_steady) := ⟨rfl, rfl, rfl, by decide +kernel, rfl, by decide +kernel, by decide +kernel⟩
abbrev s__law_kind : Stmt := topS 70
theorem sc__law_kind : FnScope ["e", "some", "words", "word", "truth"] ["e"] (defScope s__law_kind) := ⟨rfl, rfl, rfl, by decide +kernel, rfl, by decide +kernel, by decide +kernel⟩
abbrev s__law_some_leaps : Stmt := topS 71
theorem sc__law_some_leaps : FnScope ["pile", "yard", "kind", "other", "some", "found", "k", "person", "over"] ["pile", "yard"] (defScope s__law_some_leaps) := ⟨rfl, rfl, rfl, by decide +kernel, rfl, by decide +kernel, by decide +kernel⟩
abbrev s__law_caught : Stmt := topS 72
theorem sc__law_caught : FnScope ["persons", "leaps", "caught", "e"] ["persons", "leaps"] (defScope s__law_caught) := ⟨rfl, rfl, rfl, by decide +kernel, rfl, by decide +kernel, by decide +kernel⟩
abbrev s__law_refused : Stmt := topS 73
theorem sc__law_refused : FnScope ["pile", "persons", "leaps", "some", "odd", "things", "person", "over", "one", "thing"] ["pile", "persons", "leaps"] (defScope s__law_refused) := ⟨rfl, rfl, rfl, by decide +kernel, rfl, by decide +kernel, by decide +kernel⟩
abbrev s_law : Stmt := topS 74
theorem sc_law : FnScope ["script", "k", "pile", "yard", "turn", "leaps", "due", "told", "forty", "times", "points", "end"] ["script"] (defScope s_law) := ⟨rfl, rfl, rfl, by decide +kernel, rfl, by decide +kernel, by decide +kernel⟩
/-! ### the builtins by their names -/
theorem bb_ValueError : bootBuiltins "ValueError" = some (.type "ValueError") := by first | rfl | decide +kernel
theorem bb_abs : bootBuiltins "abs" = some (.builtin "abs") := by first | rfl | decide +kernel
theorem bb_all : bootBuiltins "all" = some (.builtin "all") := by first | rfl | decide +kernel
theorem bb_bool : bootBuiltins "bool" = some (.type "bool") := by first | rfl | decide +kernel
theorem bb_int : bootBuiltins "int" = some (.type "int") := by first | rfl | decide +kernel
theorem bb_isinstance : bootBuiltins "isinstance" = some (.builtin "isinstance") := by first | rfl | decide +kernel
theorem bb_len : bootBuiltins "len" = some (.builtin "len") := by first | rfl | decide +kernel
theorem bb_list : bootBuiltins "list" = some (.type "list") := by first | rfl | decide +kernel
theorem bb_max : bootBuiltins "max" = some (.builtin "max") := by first | rfl | decide +kernel
theorem bb_tuple : bootBuiltins "tuple" = some (.type "tuple") := by first | rfl | decide +kernel
/-! ### the meanings -/
abbrev CL : List Nat := [1, 2, 3, 4]
abbrev KS : List Nat := [0, 1, 2, 3, 4, 5, 6, 7, 8, 9, 10, 11, 12]
def n_is_whole : DL.N := (nRet (mAndV (mBi (isiE CL KS) (mCons (mV 0) (mCons (mC (.ty "int")) mNil))) (mNotV (mBi (isiE CL KS) (mCons (mV 0) (mCons (mC (.ty "bool")) mNil))))))
def m_is_whole : M Rs := fsem 1 n_is_whole
def n_is_whole_in : DL.N := (nRet (mAndV (mCall 1 m_is_whole (mCons (mV 2) mNil)) (mChain leD leD (mV 0) (mV 2) (mV 1))))
def m_is_whole_in : M Rs := fsem 3 n_is_whole_in
def n_is_tuple_of : DL.N := (nRet (mAndV (mBi (isiE CL KS) (mCons (mV 2) (mCons (mC (.ty "tuple")) mNil))) (mChain leD leD (mV 0) (mBi (lenD) (mCons (mV 2) mNil)) (mV 1))))
def m_is_tuple_of : M Rs := fsem 3 n_is_tuple_of
def n_onto_way : DL.N := (nSeq (nIf (mTv (mBin eqD (mV 0) (mC (.int 0)))) (nRet (mV 1)) nNext)
    (nRet (mBin modD (mV 1) (mV 0))))
def m_onto_way : M Rs := fsem 2 n_onto_way
def n_beyond : DL.N := (nRet (mBi (tupD) (mCons (mComp (mSeqs zip3D (mCons (mV 0) (mCons (mV 1) (mCons (mV 2) mNil)))) (gT [3, 4, 5]) [3, 4, 5] mTrue (mCall 2 m_onto_way (mCons (mV 3) (mCons (mBin subD (mBin mulD (mC (.int 2)) (mV 5)) (mV 4)) mNil)))) mNil)))
def m_beyond : M Rs := fsem 6 n_beyond
def n_moved_on : DL.N := (nRet (mBi (tupD) (mCons (mComp (mSeqs zip3D (mCons (mV 0) (mCons (mV 1) (mCons (mV 2) mNil)))) (gT [4, 5, 6]) [4, 5, 6] mTrue (mCall 2 m_onto_way (mCons (mV 4) (mCons (mBin addD (mV 5) (mBin mulD (mV 3) (mBin subD (mV 6) (mV 5)))) mNil)))) mNil)))
def m_moved_on : M Rs := fsem 7 n_moved_on
def n_plain_point : DL.N := (nRet (mBi (tupD) (mCons (mComp (mIter (mV 0)) (gN 1) [1] mTrue (mBi (intD) (mCons (mV 1) mNil))) mNil)))
def m_plain_point : M Rs := fsem 2 n_plain_point
def n_plain_points : DL.N := (nRet (mComp (mIter (mV 0)) (gN 1) [1] mTrue (mCall 1 m_plain_point (mCons (mV 1) mNil))))
def m_plain_points : M Rs := fsem 2 n_plain_points
def n_unit_points : DL.N := (nRet (mComp (mRng rngD1 (mCons (mV 0) mNil)) (gN 1) [1] mTrue (mBi (tupD) (mCons (mComp (mRng rngD1 (mCons (mV 0) mNil)) (gN 2) [2] mTrue (mIte (mTv (mBin eqD (mV 2) (mV 1))) (mC (.int 1)) (mC (.int 0)))) mNil))))
def m_unit_points : M Rs := fsem 3 n_unit_points
def n_vectors_between : DL.N := (nRet (mComp (mSeqs zip2D (mCons (mV 0) (mCons (mV 1) mNil))) (gT [2, 3]) [2, 3] mTrue (mComp (mSeqs zip2D (mCons (mV 2) (mCons (mV 3) mNil))) (gT [4, 5]) [4, 5] mTrue (mBin subD (mV 5) (mV 4)))))
def m_vectors_between : M Rs := fsem 6 n_vectors_between
def n_points_after : DL.N := (nSeq (nSet 3 (mBi (listD) (mCons (mV 1) mNil)))
    (nSeq (nFor (mIter (mV 2)) (gT [4, 5])
    (nSetIx 3 (mV 4) (mCall 3 m_beyond (mCons (mV 0) (mCons (mBin ixD (mV 3) (mV 4)) (mCons (mBin ixD (mV 3) (mV 5)) mNil))))))
    (nRet (mV 3))))
def m_points_after : M Rs := fsem 6 n_points_after
def n_points_after_run : DL.N := (nSeq (nUnp [4, 5] (mV 2))
    (nSeq (nSet 3 (mCall 3 m_points_after (mCons (mV 0) (mCons (mFrz (mV 1)) (mCons (mV 4) mNil)))))
    (nSeq (nIf (mTv (mBin eqD (mV 5) (mC (.int 1)))) (nRet (mV 3)) nNext)
    (nRet (mComp (mSeqs zip2D (mCons (mV 1) (mCons (mV 3) mNil))) (gT [6, 7]) [6, 7] mTrue (mCall 4 m_moved_on (mCons (mV 0) (mCons (mFrz (mV 6)) (mCons (mV 7) (mCons (mV 5) mNil))))))))))
def m_points_after_run : M Rs := fsem 8 n_points_after_run
def n_points_after_row : DL.N := (nSeq (nSet 3 (mBi (listD) (mCons (mV 1) mNil)))
    (nSeq (nFor (mIter (mV 2)) (gN 4)
    (nSet 3 (mCall 3 m_points_after_run (mCons (mV 0) (mCons (mFrz (mV 3)) (mCons (mV 4) mNil))))))
    (nRet (mV 3))))
def m_points_after_row : M Rs := fsem 5 n_points_after_row
def n_repeats_alike : DL.N := (nSeq (nSet 2 (mBin mulTD (mTup (mCons (mC (.int 0)) mNil)) (mV 0)))
    (nSeq (nSet 3 (mCall 1 m_unit_points (mCons (mV 0) mNil)))
    (nSeq (nSet 4 (mCall 3 m_points_after (mCons (mV 2) (mCons (mFrz (mV 3)) (mCons (mV 1) mNil)))))
    (nSeq (nSet 5 (mCall 3 m_points_after (mCons (mV 2) (mCons (mFrz (mV 4)) (mCons (mV 1) mNil)))))
    (nRet (mBin eqD (mCall 2 m_vectors_between (mCons (mFrz (mV 3)) (mCons (mFrz (mV 4)) mNil))) (mCall 2 m_vectors_between (mCons (mFrz (mV 4)) (mCons (mFrz (mV 5)) mNil)))))))))
def m_repeats_alike : M Rs := fsem 6 n_repeats_alike
def n_is_way : DL.N := (nRet (mAndV (mCall 1 m_is_whole (mCons (mV 0) mNil)) (mOrV (mBin eqD (mV 0) (mC (.int 0))) (mBin geD (mV 0) (mC (.int 2))))))
def m_is_way : M Rs := fsem 1 n_is_way
def n_is_ways : DL.N := (nRet (mAndV (mCall 3 m_is_tuple_of (mCons (mC (.int 1)) (mCons (mC (.int 3)) (mCons (mV 0) mNil)))) (mBi (allD) (mCons (mComp (mIter (mV 0)) (gN 1) [1] mTrue (mCall 1 m_is_way (mCons (mV 1) mNil))) mNil))))
def m_is_ways : M Rs := fsem 2 n_is_ways
def n_is_persons : DL.N := (nRet (mCall 3 m_is_whole_in (mCons (mC (.int 2)) (mCons (mC (.int 6)) (mCons (mV 0) mNil)))))
def m_is_persons : M Rs := fsem 1 n_is_persons
def n_is_posts : DL.N := (nSeq (nIf (mNot (mTv (mCall 3 m_is_tuple_of (mCons (mC (.int 0)) (mCons (mBin subD (mV 0) (mC (.int 1))) (mCons (mV 1) mNil)))))) (nRet (mC (.bl false))) nNext)
    (nSeq (nSet 2 (mC (.int 0)))
    (nSeq (nFor (mIter (mV 1)) (gN 3)
    (nSeq (nIf (mNot (mTv (mCall 3 m_is_whole_in (mCons (mV 2) (mCons (mBin subD (mV 0) (mC (.int 1))) (mCons (mV 3) mNil)))))) (nRet (mC (.bl false))) nNext)
    (nSet 2 (mBin addD (mV 3) (mC (.int 1))))))
    (nRet (mC (.bl true))))))
def m_is_posts : M Rs := fsem 4 n_is_posts
def n_yard_wrong : DL.N := (nSeq (nIf (mNot (mTv (mCall 3 m_is_tuple_of (mCons (mC (.int 3)) (mCons (mC (.int 3)) (mCons (mV 0) mNil)))))) (nRet (mTup (mCons (mC (.str "yard")) mNil))) nNext)
    (nSeq (nUnp [1, 2, 3] (mV 0))
    (nSeq (nIf (mNot (mTv (mCall 1 m_is_ways (mCons (mV 1) mNil)))) (nRet (mTup (mCons (mC (.str "ways")) mNil))) nNext)
    (nSeq (nIf (mNot (mTv (mCall 1 m_is_persons (mCons (mV 2) mNil)))) (nRet (mTup (mCons (mC (.str "persons")) mNil))) nNext)
    (nSeq (nIf (mNot (mTv (mCall 2 m_is_posts (mCons (mV 2) (mCons (mV 3) mNil))))) (nRet (mTup (mCons (mC (.str "posts")) mNil))) nNext)
    (nRet (mC .non)))))))
def m_yard_wrong : M Rs := fsem 4 n_yard_wrong
def n_need_yard : DL.N := (nIf (mTv (mUn (isN true) (mCall 1 m_yard_wrong (mCons (mV 0) mNil)))) (nRaise 1) nNext)
def m_need_yard : M Rs := fsem 1 n_need_yard
def n_is_number_on : DL.N := (nSeq (nIf (mTv (mBin eqD (mV 0) (mC (.int 0)))) (nRet (mCall 1 m_is_whole (mCons (mV 1) mNil))) nNext)
    (nRet (mCall 3 m_is_whole_in (mCons (mC (.int 0)) (mCons (mBin subD (mV 0) (mC (.int 1))) (mCons (mV 1) mNil))))))
def m_is_number_on : M Rs := fsem 2 n_is_number_on
def n_is_point : DL.N := (nSeq (nIf (mNot (mTv (mCall 3 m_is_tuple_of (mCons (mBi (lenD) (mCons (mV 0) mNil)) (mCons (mBi (lenD) (mCons (mV 0) mNil)) (mCons (mV 1) mNil)))))) (nRet (mC (.bl false))) nNext)
    (nRet (mBi (allD) (mCons (mComp (mSeqs zip2D (mCons (mV 0) (mCons (mV 1) mNil))) (gT [2, 3]) [2, 3] mTrue (mCall 2 m_is_number_on (mCons (mV 2) (mCons (mV 3) mNil)))) mNil))))
def m_is_point : M Rs := fsem 4 n_is_point
def n_standing_wrong : DL.N := (nSeq (nExpr (mCall 1 m_need_yard (mCons (mV 0) mNil)))
    (nSeq (nUnp [2, 3, 4] (mV 0))
    (nSeq (nIf (mNot (mTv (mCall 3 m_is_tuple_of (mCons (mV 3) (mCons (mV 3) (mCons (mV 1) mNil)))))) (nRet (mTup (mCons (mC (.str "standing")) mNil))) nNext)
    (nSeq (nFor (mSeqs enD (mCons (mV 1) mNil)) (gT [5, 6])
    (nIf (mNot (mTv (mCall 2 m_is_point (mCons (mV 2) (mCons (mV 6) mNil))))) (nRet (mTup (mCons (mC (.str "point")) (mCons (mV 5) mNil)))) nNext))
    (nRet (mC .non))))))
def m_standing_wrong : M Rs := fsem 7 n_standing_wrong
def n_is_standing : DL.N := (nRet (mUn (isN false) (mCall 2 m_standing_wrong (mCons (mV 0) (mCons (mV 1) mNil)))))
def m_is_standing : M Rs := fsem 2 n_is_standing
def n_need_standing : DL.N := (nIf (mNot (mTv (mCall 2 m_is_standing (mCons (mV 0) (mCons (mV 1) mNil))))) (nRaise 2) nNext)
def m_need_standing : M Rs := fsem 2 n_need_standing
def n_is_leap : DL.N := (nSeq (nIf (mNot (mTv (mCall 3 m_is_tuple_of (mCons (mC (.int 2)) (mCons (mC (.int 2)) (mCons (mV 2) mNil)))))) (nRet (mC (.bl false))) nNext)
    (nSeq (nIf (mNot (mTv (mBi (allD) (mCons (mComp (mIter (mV 2)) (gN 5) [5] mTrue (mCall 3 m_is_whole_in (mCons (mC (.int 0)) (mCons (mBin subD (mV 0) (mC (.int 1))) (mCons (mV 5) mNil))))) mNil)))) (nRet (mC (.bl false))) nNext)
    (nSeq (nUnp [3, 4] (mV 2))
    (nRet (mAndV (mBin neD (mV 3) (mV 4)) (mBin (inD true) (mV 3) (mV 1)))))))
def m_is_leap : M Rs := fsem 6 n_is_leap
def n_leap_at_fault : DL.N := (nSeq (nFor (mSeqs enD (mCons (mV 2) mNil)) (gT [3, 4])
    (nIf (mNot (mTv (mCall 3 m_is_leap (mCons (mV 0) (mCons (mV 1) (mCons (mV 4) mNil)))))) (nRet (mV 3)) nNext))
    (nRet (mC .non)))
def m_leap_at_fault : M Rs := fsem 5 n_leap_at_fault
def n_is_steady : DL.N := (nSeq (nIf (mNot (mTv (mCall 1 m_is_persons (mCons (mV 0) mNil)))) (nRaise 4) nNext)
    (nSeq (nIf (mOr (mNot (mTv (mCall 3 m_is_tuple_of (mCons (mC (.int 1)) (mCons (mC (.int 40)) (mCons (mV 1) mNil)))))) (mTv (mUn (isN true) (mCall 3 m_leap_at_fault (mCons (mV 0) (mCons (mTup mNil) (mCons (mV 1) mNil))))))) (nRaise 4) nNext)
    (nRet (mCall 2 m_repeats_alike (mCons (mV 0) (mCons (mV 1) mNil))))))
def m_is_steady : M Rs := fsem 2 n_is_steady
def n_run_wrong : DL.N := (nSeq (nIf (mOr (mNot (mTv (mCall 3 m_is_tuple_of (mCons (mC (.int 2)) (mCons (mC (.int 2)) (mCons (mV 3) mNil)))))) (mNot (mTv (mCall 3 m_is_tuple_of (mCons (mC (.int 1)) (mCons (mC (.int 40)) (mCons (mBin ixD (mV 3) (mC (.int 0))) mNil))))))) (nRet (mTup (mCons (mC (.str "run")) (mCons (mV 2) mNil)))) nNext)
    (nSeq (nUnp [5, 6] (mV 3))
    (nSeq (nSet 4 (mCall 3 m_leap_at_fault (mCons (mV 0) (mCons (mV 1) (mCons (mV 5) mNil)))))
    (nSeq (nIf (mTv (mUn (isN true) (mV 4))) (nRet (mTup (mCons (mC (.str "leap")) (mCons (mV 2) (mCons (mV 4) mNil))))) nNext)
    (nSeq (nIf (mOr (mNot (mTv (mCall 1 m_is_whole (mCons (mV 6) mNil)))) (mTv (mBin ltD (mV 6) (mC (.int 1))))) (nRet (mTup (mCons (mC (.str "times")) (mCons (mV 2) mNil)))) nNext)
    (nRet (mC .non)))))))
def m_run_wrong : M Rs := fsem 7 n_run_wrong
def m_runs_wrong : M Rs := mRuns (isiE CL KS) m_run_wrong m_repeats_alike
def n_need_runs : DL.N := (nIf (mTv (mUn (isN true) (mCall 3 m_runs_wrong (mCons (mV 0) (mCons (mV 1) (mCons (mFrz (mV 2)) mNil)))))) (nRaise 4) nNext)
def m_need_runs : M Rs := fsem 3 n_need_runs
def n_row_wrong : DL.N := (nSeq (nExpr (mCall 1 m_need_yard (mCons (mV 0) mNil)))
    (nSeq (nUnp [2, 3, 4] (mV 0))
    (nRet (mCall 3 m_runs_wrong (mCons (mV 3) (mCons (mV 4) (mCons (mV 1) mNil)))))))
def m_row_wrong : M Rs := fsem 5 n_row_wrong
def n_done : DL.N := (nSeq (nExpr (mCall 2 m_need_standing (mCons (mV 0) (mCons (mV 1) mNil))))
    (nSeq (nUnp [3, 4, 5] (mV 0))
    (nSeq (nExpr (mCall 3 m_need_runs (mCons (mV 4) (mCons (mV 5) (mCons (mFrz (mV 2)) mNil)))))
    (nRet (mBi (tupD) (mCons (mCall 3 m_points_after_row (mCons (mV 3) (mCons (mCall 1 m_plain_points (mCons (mV 1) mNil)) (mCons (mFrz (mV 2)) mNil)))) mNil))))))
def m_done : M Rs := fsem 6 n_done
def n__law_mixed : DL.N := (nSeq (nSet 2 (mBin modD (mBin addD (mBin addD (mBin mulD (mBin modD (mV 0) (mC (.int 2147483647))) (mC (.int 48271))) (mBin mulD (mV 1) (mC (.int 69621)))) (mC (.int 11))) (mC (.int 2147483647))))
    (nSeq (nSet 2 (mBin modD (mBin mulD (mV 2) (mV 2)) (mC (.int 2147483629))))
    (nRet (mBin divD (mBin modD (mBin mulD (mV 2) (mV 2)) (mC (.int 2147483587))) (mC (.int 64))))))
def m__law_mixed : M Rs := fsem 3 n__law_mixed
def n__law_pile : DL.N := (nSeq (nSet 2 (mC (.int 0)))
    (nSeq (nIf (mTv (mBin ltD (mV 1) (mBi (lenD) (mCons (mV 0) mNil)))) (nSet 2 (mBin ixD (mV 0) (mV 1))) nNext)
    (nSeq (nSet 3 (mBin ixD (mLst (mCons (mC (.int 0)) (mCons (mBin modD (mV 2) (mBin mulD (mBin mulD (mBin powD (mC (.int 10)) (mC (.int 50))) (mBin powD (mC (.int 10)) (mC (.int 50)))) (mBin powD (mC (.int 10)) (mC (.int 50))))) mNil))) (mBi (intD) (mCons (mBin geD (mBi (absD) (mCons (mV 2) mNil)) (mBin powD (mC (.int 10)) (mC (.int 18)))) mNil))))
    (nRet (mLst (mCons (mV 3) (mCons (mBin modD (mV 2) (mC (.int 2147483647))) (mCons (mBin mulD (mC (.int 97)) (mV 1)) (mCons (mBin ltD (mV 1) (mC (.int 2))) mNil)))))))))
def m__law_pile : M Rs := fsem 4 n__law_pile
def n__law_take : DL.N := (nSeq (nIf (mTv (mBin (inD false) (mBin ixD (mV 0) (mC (.int 0))) (mLst (mCons (mC (.int 0)) (mCons (mUn negD (mC (.int 1))) mNil))))) (nSeq (nSetIx 0 (mC (.int 2)) (mBin addD (mBin ixD (mV 0) (mC (.int 2))) (mC (.int 1))))
    (nRet (mBin modD (mCall 2 m__law_mixed (mCons (mBin ixD (mV 0) (mC (.int 1))) (mCons (mBin ixD (mV 0) (mC (.int 2))) mNil))) (mV 1)))) nNext)
    (nSeq (nSet 2 (mBin modD (mBin ixD (mV 0) (mC (.int 0))) (mV 1)))
    (nSeq (nSetIx 0 (mC (.int 0)) (mBin divD (mBin ixD (mV 0) (mC (.int 0))) (mV 1)))
    (nRet (mV 2)))))
def m__law_take : M Rs := fsem 3 n__law_take
def n__law_great : DL.N := (nRet (mBin addD (mBin mulD (mCall 2 m__law_take (mCons (mV 0) (mCons (mBin powD (mC (.int 10)) (mC (.int 5))) mNil))) (mBin powD (mC (.int 10)) (mC (.int 5)))) (mCall 2 m__law_take (mCons (mV 0) (mCons (mBin powD (mC (.int 10)) (mC (.int 5))) mNil)))))
def m__law_great : M Rs := fsem 1 n__law_great
def n__law_number : DL.N := (nSeq (nIf (mAnd (mTv (mBin ixD (mV 0) (mC (.int 3)))) (mTv (mBin eqD (mCall 2 m__law_take (mCons (mV 0) (mCons (mC (.int 16)) mNil))) (mC (.int 0))))) (nRet (mBin mulD (mCall 1 m__law_great (mCons (mV 0) mNil)) (mBin subD (mC (.int 1)) (mBin mulD (mC (.int 2)) (mCall 2 m__law_take (mCons (mV 0) (mCons (mC (.int 2)) mNil))))))) nNext)
    (nRet (mBin subD (mCall 2 m__law_take (mCons (mV 0) (mCons (mC (.int 13)) mNil))) (mC (.int 6)))))
def m__law_number : M Rs := fsem 1 n__law_number
def n__law_ways : DL.N := (nSeq (nSet 2 (mLst mNil))
    (nSeq (nFor (mRng rngD1 (mCons (mBin addD (mC (.int 1)) (mCall 2 m__law_take (mCons (mV 0) (mCons (mV 1) mNil)))) mNil)) (gN 3)
    (nSeq (nSet 4 (mCall 2 m__law_take (mCons (mV 0) (mCons (mC (.int 16)) mNil))))
    (nSeq (nSet 5 (mBin ixD (mLst (mCons (mC (.int 0)) (mCons (mBin addD (mC (.int 2)) (mCall 2 m__law_take (mCons (mV 0) (mCons (mC (.int 8)) mNil)))) (mCons (mBin addD (mC (.int 2)) (mCall 2 m__law_take (mCons (mV 0) (mCons (mC (.int 40)) mNil)))) mNil)))) (mBin ixD (mLst (mCons (mC (.int 0)) (mCons (mC (.int 1)) (mCons (mC (.int 2)) mNil)))) (mBin modD (mV 4) (mC (.int 3))))))
    (nApp 2 (mBin ixD (mLst (mCons (mV 5) (mCons (mBin addD (mC (.int 2)) (mCall 1 m__law_great (mCons (mV 0) mNil))) mNil))) (mBi (intD) (mCons (mAndV (mBin ixD (mV 0) (mC (.int 3))) (mBin eqD (mV 4) (mC (.int 15)))) mNil)))))))
    (nRet (mBi (tupD) (mCons (mV 2) mNil)))))
def m__law_ways : M Rs := fsem 6 n__law_ways
def n__law_vector : DL.N := (nRet (mBi (tupD) (mCons (mComp (mIter (mV 1)) (gN 2) [2] mTrue (mCall 1 m__law_number (mCons (mV 0) mNil))) mNil)))
def m__law_vector : M Rs := fsem 3 n__law_vector
def n__law_put : DL.N := (nRet (mBi (tupD) (mCons (mComp (mSeqs zip2D (mCons (mV 0) (mCons (mV 1) mNil))) (gT [3, 4]) [3, 4] mTrue (mBin addD (mV 3) (mBin mulD (mV 2) (mV 4)))) mNil)))
def m__law_put : M Rs := fsem 5 n__law_put
def n__law_round : DL.N := (nRet (mBi (tupD) (mCons (mComp (mSeqs zip2D (mCons (mV 0) (mCons (mV 1) mNil))) (gT [2, 3]) [2, 3] mTrue (mBin ixD (mLst (mCons (mV 3) (mCons (mBin modD (mV 3) (mBi (maxTD) (mCons (mV 2) (mCons (mC (.int 1)) mNil)))) mNil))) (mBi (intD) (mCons (mBin gtD (mV 2) (mC (.int 0))) mNil)))) mNil)))
def m__law_round : M Rs := fsem 4 n__law_round
def n__law_standing : DL.N := (nSeq (nSet 3 (mCall 2 m__law_vector (mCons (mV 0) (mCons (mV 1) mNil))))
    (nSeq (nSet 4 (mComp (mRng rngD1 (mCons (mBin addD (mC (.int 1)) (mCall 2 m__law_take (mCons (mV 0) (mCons (mBi (lenD) (mCons (mV 1) mNil)) mNil)))) mNil)) (gN 10) [10] mTrue (mCall 2 m__law_vector (mCons (mV 0) (mCons (mV 1) mNil)))))
    (nSeq (nSet 5 (mCall 2 m__law_take (mCons (mV 0) (mCons (mC (.int 3)) mNil))))
    (nSeq (nSet 6 (mLst mNil))
    (nSeq (nFor (mRng rngD1 (mCons (mV 2) mNil)) (gN 7)
    (nSeq (nSet 8 (mV 3))
    (nSeq (nFor (mIter (mV 4)) (gN 9)
    (nSet 8 (mCall 3 m__law_put (mCons (mV 8) (mCons (mV 9) (mCons (mBin mulD (mBin subD (mCall 2 m__law_take (mCons (mV 0) (mCons (mC (.int 7)) mNil))) (mC (.int 3))) (mBin ixD (mLst (mCons (mC (.int 1)) (mCons (mC (.int 1)) (mCons (mC (.int 2)) mNil)))) (mV 5))) mNil))))))
    (nSeq (nIf (mTv (mBin eqD (mV 5) (mC (.int 0)))) (nSet 8 (mCall 2 m__law_vector (mCons (mV 0) (mCons (mV 1) mNil)))) nNext)
    (nApp 6 (mCall 2 m__law_round (mCons (mV 1) (mCons (mV 8) mNil))))))))
    (nRet (mBi (tupD) (mCons (mV 6) mNil))))))))
def m__law_standing : M Rs := fsem 11 n__law_standing
def n__law_leap : DL.N := (nSeq (nSet 2 (mComp (mRng rngD1 (mCons (mBin ixD (mV 1) (mC (.int 1))) mNil)) (gN 3) [3] (mTv (mBin (inD true) (mV 3) (mBin ixD (mV 1) (mC (.int 2))))) (mV 3)))
    (nSeq (nSet 3 (mBin ixD (mV 2) (mCall 2 m__law_take (mCons (mV 0) (mCons (mBi (lenD) (mCons (mV 2) mNil)) mNil)))))
    (nRet (mTup (mCons (mV 3) (mCons (mBin modD (mBin addD (mBin addD (mV 3) (mC (.int 1))) (mCall 2 m__law_take (mCons (mV 0) (mCons (mBin subD (mBin ixD (mV 1) (mC (.int 1))) (mC (.int 1))) mNil)))) (mBin ixD (mV 1) (mC (.int 1)))) mNil))))))
def m__law_leap : M Rs := fsem 4 n__law_leap
def n__law_places : DL.N := (nSeq (nSet 2 (mComp (mIter (mV 0)) (gN 5) [5] mTrue (mBi (listD) (mCons (mV 5) mNil))))
    (nSeq (nFor (mIter (mV 1)) (gT [3, 4])
    (nSetIx 2 (mV 3) (mComp (mSeqs zip2D (mCons (mBin ixD (mV 2) (mV 3)) (mCons (mBin ixD (mV 2) (mV 4)) mNil))) (gT [6, 7]) [6, 7] mTrue (mBin subD (mBin mulD (mC (.int 2)) (mV 7)) (mV 6)))))
    (nRet (mV 2))))
def m__law_places : M Rs := fsem 8 n__law_places
def n__law_done : DL.N := (nSeq (nSet 3 (mComp (mIter (mV 1)) (gN 7) [7] mTrue (mBi (listD) (mCons (mV 7) mNil))))
    (nSeq (nFor (mIter (mV 2)) (gT [4, 5])
    (nSeq (nSet 6 (mCall 2 m__law_places (mCons (mFrz (mV 3)) (mCons (mV 4) mNil))))
    (nSeq (nSet 3 (mComp (mSeqs zip2D (mCons (mV 3) (mCons (mV 6) mNil))) (gT [8, 9]) [8, 9] mTrue (mCall 3 m__law_put (mCons (mV 8) (mCons (mCall 3 m__law_put (mCons (mV 9) (mCons (mV 8) (mCons (mUn negD (mC (.int 1))) mNil)))) (mCons (mV 5) mNil))))))
    (nSet 3 (mComp (mIter (mV 3)) (gN 7) [7] mTrue (mBi (listD) (mCons (mCall 2 m__law_round (mCons (mV 0) (mCons (mV 7) mNil))) mNil)))))))
    (nRet (mBi (tupD) (mCons (mComp (mIter (mV 3)) (gN 7) [7] mTrue (mBi (tupD) (mCons (mV 7) mNil))) mNil)))))
def m__law_done : M Rs := fsem 10 n__law_done
def n__law_steady : DL.N := (nSeq (nSet 2 (mComp (mRng rngD1 (mCons (mV 0) mNil)) (gN 8) [8] mTrue (mComp (mRng rngD1 (mCons (mV 0) mNil)) (gN 9) [9] mTrue (mBi (intD) (mCons (mBin eqD (mV 9) (mV 8)) mNil)))))
    (nSeq (nSet 3 (mCall 2 m__law_places (mCons (mFrz (mV 2)) (mCons (mV 1) mNil))))
    (nSeq (nSet 4 (mCall 2 m__law_places (mCons (mFrz (mV 3)) (mCons (mV 1) mNil))))
    (nSeq (nFor (mSeqs zip3D (mCons (mV 2) (mCons (mV 3) (mCons (mV 4) mNil)))) (gT [5, 6, 7])
    (nIf (mTv (mBin neD (mCall 3 m__law_put (mCons (mV 6) (mCons (mV 5) (mCons (mUn negD (mC (.int 1))) mNil)))) (mCall 3 m__law_put (mCons (mV 7) (mCons (mV 6) (mCons (mUn negD (mC (.int 1))) mNil)))))) (nRet (mC (.bl false))) nNext))
    (nRet (mC (.bl true)))))))
def m__law_steady : M Rs := fsem 10 n__law_steady
def n__law_kind : DL.N := (nSeq (nSet 1 (mLst (mCons (mBi (isiE CL KS) (mCons (mV 0) (mCons (mC (.cls 1)) mNil))) (mCons (mBi (isiE CL KS) (mCons (mV 0) (mCons (mC (.cls 2)) mNil))) (mCons (mBi (isiE CL KS) (mCons (mV 0) (mCons (mC (.cls 3)) mNil))) (mCons (mBi (isiE CL KS) (mCons (mV 0) (mCons (mC (.cls 4)) mNil))) mNil))))))
    (nSeq (nSet 1 (mBin addD (mV 1) (mLst (mCons (mBi (isiE CL KS) (mCons (mV 0) (mCons (mC (.cls 5)) mNil))) (mCons (mBi (isiE CL KS) (mCons (mV 0) (mCons (mC (.cls 6)) mNil))) (mCons (mBi (isiE CL KS) (mCons (mV 0) (mCons (mC (.cls 7)) mNil))) (mCons (mBi (isiE CL KS) (mCons (mV 0) (mCons (mC (.cls 8)) mNil))) mNil)))))))
    (nSeq (nSet 1 (mBin addD (mV 1) (mLst (mCons (mBi (isiE CL KS) (mCons (mV 0) (mCons (mC (.cls 9)) mNil))) (mCons (mBi (isiE CL KS) (mCons (mV 0) (mCons (mC (.cls 10)) mNil))) (mCons (mBi (isiE CL KS) (mCons (mV 0) (mCons (mC (.cls 11)) mNil))) (mCons (mBi (isiE CL KS) (mCons (mV 0) (mCons (mC (.cls 12)) mNil))) mNil)))))))
    (nSeq (nSet 2 (mLst (mCons (mC (.str "yard")) (mCons (mC (.str "standing")) (mCons (mC (.str "leap")) (mCons (mC (.str "row")) (mCons (mC (.str "vector")) (mCons (mC (.str "reading")) (mCons (mC (.str "wishes")) (mCons (mC (.str "cell")) (mCons (mC (.str "table")) (mCons (mC (.str "number")) (mCons (mC (.str "person")) mNil)))))))))))))
    (nSeq (nIf (mAnd (mTv (mUn (isN true) (mV 0))) (mOr (mNot (mTv (mBi (isiE CL KS) (mCons (mV 0) (mCons (mC (.cls 0)) mNil))))) (mNot (mTv (mBi (isiE CL KS) (mCons (mV 0) (mCons (mC (.ty "ValueError")) mNil))))))) (nRet (mLst (mCons (mC (.str "odd")) mNil))) nNext)
    (nRet (mComp (mSeqs zip2D (mCons (mBin addD (mV 2) (mLst (mCons (mC (.str "many")) mNil))) (mCons (mV 1) mNil))) (gT [3, 4]) [3, 4] (mTv (mV 4)) (mV 3))))))))
def m__law_kind : M Rs := fsem 5 n__law_kind
def n__law_some_leaps : DL.N := (nSeq (nSet 2 (mCall 2 m__law_take (mCons (mV 0) (mCons (mC (.int 8)) mNil))))
    (nSeq (nUnp [7, 8] (mCall 2 m__law_leap (mCons (mV 0) (mCons (mV 1) mNil))))
    (nSeq (nSet 3 (mBin modD (mBin addD (mBin addD (mV 7) (mC (.int 1))) (mCall 2 m__law_take (mCons (mV 0) (mCons (mBin subD (mBin ixD (mV 1) (mC (.int 1))) (mC (.int 1))) mNil)))) (mBin ixD (mV 1) (mC (.int 1)))))
    (nSeq (nSet 4 (mComp (mRng rngD1 (mCons (mBin addD (mC (.int 1)) (mCall 2 m__law_take (mCons (mV 0) (mCons (mC (.int 4)) mNil)))) mNil)) (gN 6) [6] mTrue (mCall 2 m__law_leap (mCons (mV 0) (mCons (mV 1) mNil)))))
    (nSeq (nIf (mTv (mBin eqD (mV 2) (mC (.int 0)))) (nRet (mBi (tupD) (mCons (mV 4) mNil))) nNext)
    (nSeq (nIf (mTv (mBin eqD (mV 2) (mC (.int 1)))) (nRet (mBi (tupD) (mCons (mBin addD (mV 4) (mUn revD (mV 4))) mNil))) nNext)
    (nSeq (nIf (mAnd (mTv (mBin eqD (mV 2) (mC (.int 2)))) (mTv (mBin (inD true) (mV 8) (mBin ixD (mV 1) (mC (.int 2)))))) (nRet (mTup (mCons (mTup (mCons (mV 7) (mCons (mV 8) mNil))) (mCons (mTup (mCons (mV 8) (mCons (mV 7) mNil))) mNil)))) nNext)
    (nSeq (nIf (mTv (mBin eqD (mV 2) (mC (.int 3)))) (nRet (mBin mulTD (mTup (mCons (mTup (mCons (mV 7) (mCons (mV 8) mNil))) (mCons (mTup (mCons (mV 7) (mCons (mV 3) mNil))) mNil))) (mBin addD (mC (.int 1)) (mCall 2 m__law_take (mCons (mV 0) (mCons (mC (.int 3)) mNil)))))) nNext)
    (nSeq (nIf (mTv (mBin eqD (mV 2) (mC (.int 4)))) (nRet (mBi (tupD) (mCons (mBin addD (mBin addD (mV 4) (mLst (mCons (mTup (mCons (mV 7) (mCons (mV 8) mNil))) (mCons (mTup (mCons (mV 7) (mCons (mV 3) mNil))) mNil)))) (mUn revD (mV 4))) mNil))) nNext)
    (nSeq (nIf (mTv (mBin eqD (mV 2) (mC (.int 5)))) (nRet (mBi (tupD) (mCons (mComp (mRng rngD1 (mCons (mBin addD (mC (.int 7)) (mCall 2 m__law_take (mCons (mV 0) (mCons (mC (.int 33)) mNil)))) mNil)) (gN 6) [6] mTrue (mTup (mCons (mV 7) (mCons (mBin ixD (mLst (mCons (mV 8) (mCons (mV 3) mNil))) (mBin modD (mV 6) (mC (.int 2)))) mNil)))) mNil))) nNext)
    (nSeq (nIf (mTv (mBin eqD (mV 2) (mC (.int 6)))) (nRet (mBi (tupD) (mCons (mComp (mRng rngD1 (mCons (mBin addD (mC (.int 20)) (mCall 2 m__law_take (mCons (mV 0) (mCons (mC (.int 21)) mNil)))) mNil)) (gN 6) [6] mTrue (mCall 2 m__law_leap (mCons (mV 0) (mCons (mV 1) mNil)))) mNil))) nNext)
    (nSeq (nSet 5 (mLst mNil))
    (nSeq (nFor (mRng rngD1 (mCons (mBin addD (mC (.int 2)) (mCall 2 m__law_take (mCons (mV 0) (mCons (mC (.int 5)) mNil)))) mNil)) (gN 6)
    (nApp 5 (mTup (mCons (mV 7) (mCons (mBin modD (mBin addD (mBin addD (mV 7) (mC (.int 1))) (mCall 2 m__law_take (mCons (mV 0) (mCons (mBin subD (mBin ixD (mV 1) (mC (.int 1))) (mC (.int 1))) mNil)))) (mBin ixD (mV 1) (mC (.int 1)))) mNil)))))
    (nRet (mBi (tupD) (mCons (mV 5) mNil))))))))))))))))
def m__law_some_leaps : M Rs := fsem 9 n__law_some_leaps
def n__law_caught : DL.N := (nSeq (nSet 2 (mC .non))
    (nSeq (nTry CL (nExpr (mCall 2 m_is_steady (mCons (mV 0) (mCons (mV 1) mNil)))) 0 3 (nSet 2 (mV 3)))
    (nRet (mCall 1 m__law_kind (mCons (mV 2) mNil)))))
def m__law_caught : M Rs := fsem 4 n__law_caught
def n__law_refused : DL.N := (nSeq (nFor (mIter (mLst (mCons (mC (.int 0)) (mCons (mC (.int 1)) (mCons (mC (.int 7)) (mCons (mC (.bl true)) (mCons (mC .non) (mCons (mC (.str "3")) (mCons (mBin subD (mC (.int 0)) (mV 1)) (mCons (mBin powD (mC (.int 10)) (mC (.int 11))) mNil)))))))))) (gN 3)
    (nIf (mTv (mBin neD (mCall 2 m__law_caught (mCons (mV 3) (mCons (mV 2) mNil))) (mLst (mCons (mC (.str "row")) mNil)))) (nRet (mC (.bl false))) nNext))
    (nSeq (nUnp [6, 7] (mBin ixD (mV 2) (mC (.int 0))))
    (nSeq (nSet 4 (mLst (mCons (mTup (mCons (mV 6) (mCons (mV 6) mNil))) (mCons (mTup (mCons (mV 6) (mCons (mV 1) mNil))) (mCons (mLst (mCons (mV 6) (mCons (mV 7) mNil))) (mCons (mTup (mCons (mBin subD (mC (.int 0)) (mC (.int 1))) (mCons (mV 7) mNil))) (mCons (mTup (mCons (mC (.bl true)) (mCons (mC (.int 0)) mNil))) (mCons (mC .non) (mCons (mV 2) mNil)))))))))
    (nSeq (nSet 4 (mBin addD (mV 4) (mLst (mCons (mTup (mCons (mV 1) (mCons (mV 7) mNil))) (mCons (mTup (mCons (mV 1) (mCons (mBin addD (mV 1) (mC (.int 1))) mNil))) (mCons (mTup (mCons (mV 6) (mCons (mBin subD (mC (.int 0)) (mC (.int 1))) mNil))) mNil))))))
    (nSeq (nSet 5 (mBin addD (mComp (mIter (mV 4)) (gN 8) [8] mTrue (mBin addD (mV 2) (mTup (mCons (mV 8) mNil)))) (mComp (mIter (mV 4)) (gN 8) [8] mTrue (mBin addD (mTup (mCons (mV 8) mNil)) (mV 2)))))
    (nSeq (nSet 5 (mBin addD (mV 5) (mLst (mCons (mTup mNil) (mCons (mBi (listD) (mCons (mV 2) mNil)) (mCons (mC .non) (mCons (mC (.int 0)) (mCons (mBin mulTD (mTup (mCons (mBin ixD (mV 2) (mC (.int 0))) mNil)) (mC (.int 41))) (mCons (mTup (mCons (mV 2) mNil)) (mCons (mTup (mCons (mV 6) (mCons (mV 7) mNil))) mNil))))))))))
    (nRet (mBin eqD (mComp (mIter (mV 5)) (gN 9) [9] (mTv (mBin neD (mCall 2 m__law_caught (mCons (mV 1) (mCons (mV 9) mNil))) (mLst (mCons (mC (.str "row")) mNil)))) (mV 9)) (mLst mNil)))))))))
def m__law_refused : M Rs := fsem 10 n__law_refused
def n_law : DL.N := (nSeq (nFor (mRng rngD1 (mCons (mC (.int 12)) mNil)) (gN 1)
    (nSeq (nSet 2 (mCall 2 m__law_pile (mCons (mV 0) (mCons (mV 1) mNil))))
    (nSeq (nSet 3 (mTup (mCons (mCall 2 m__law_ways (mCons (mV 2) (mCons (mC (.int 3)) mNil))) (mCons (mBin addD (mC (.int 2)) (mCall 2 m__law_take (mCons (mV 2) (mCons (mC (.int 5)) mNil)))) (mCons (mTup mNil) mNil)))))
    (nSeq (nFor (mRng rngD1 (mCons (mC (.int 3)) mNil)) (gN 4)
    (nSeq (nSet 5 (mCall 2 m__law_some_leaps (mCons (mV 2) (mCons (mV 3) mNil))))
    (nSeq (nSet 6 (mCall 2 m__law_steady (mCons (mBin ixD (mV 3) (mC (.int 1))) (mCons (mV 5) mNil))))
    (nSeq (nSet 7 (mCall 2 m_is_steady (mCons (mBin ixD (mV 3) (mC (.int 1))) (mCons (mV 5) mNil))))
    (nSeq (nIf (mOr (mNot (mTv (mBi (isiE CL KS) (mCons (mV 7) (mCons (mC (.ty "bool")) mNil))))) (mOr (mTv (mBin neD (mV 7) (mV 6))) (mTv (mBin neD (mCall 2 m_is_steady (mCons (mC (.int 6)) (mCons (mV 5) mNil))) (mV 6))))) (nRet (mC (.bl false))) nNext)
    (nSeq (nSet 8 (mSl (mBin mulTD (mV 5) (mC (.int 40))) mPN (mPS (mC (.int 40)))))
    (nSeq (nIf (mTv (mBin neD (mCall 2 m_is_steady (mCons (mBin ixD (mV 3) (mC (.int 1))) (mCons (mV 8) mNil))) (mCall 2 m__law_steady (mCons (mBin ixD (mV 3) (mC (.int 1))) (mCons (mV 8) mNil))))) (nRet (mC (.bl false))) nNext)
    (nSeq (nSet 9 (mBin addD (mC (.int 2)) (mCall 2 m__law_take (mCons (mV 2) (mCons (mC (.int 3)) mNil)))))
    (nSeq (nIf (mTv (mBin neD (mCall 2 m_row_wrong (mCons (mV 3) (mCons (mLst (mCons (mTup (mCons (mV 5) (mCons (mV 9) mNil))) mNil)) mNil))) (mBin ixD (mLst (mCons (mTup (mCons (mC (.str "steady")) (mCons (mC (.int 0)) mNil))) (mCons (mC .non) mNil))) (mBi (intD) (mCons (mV 6) mNil))))) (nRet (mC (.bl false))) nNext)
    (nSeq (nSet 10 (mCall 3 m__law_standing (mCons (mV 2) (mCons (mBin ixD (mV 3) (mC (.int 0))) (mCons (mBin ixD (mV 3) (mC (.int 1))) mNil)))))
    (nSeq (nSet 11 (mCall 3 m__law_done (mCons (mBin ixD (mV 3) (mC (.int 0))) (mCons (mFrz (mV 10)) (mCons (mRepF (mLst (mCons (mTup (mCons (mV 5) (mCons (mC (.int 1)) mNil))) mNil)) (mV 9)) mNil)))))
    (nIf (mAnd (mTv (mV 6)) (mTv (mBin neD (mCall 3 m_done (mCons (mV 3) (mCons (mFrz (mV 10)) (mCons (mLst (mCons (mTup (mCons (mV 5) (mCons (mV 9) mNil))) mNil)) mNil)))) (mV 11)))) (nRet (mC (.bl false))) nNext))))))))))))
    (nIf (mAnd (mTv (mBin ltD (mV 1) (mC (.int 4)))) (mNot (mTv (mCall 3 m__law_refused (mCons (mV 2) (mCons (mBin ixD (mV 3) (mC (.int 1))) (mCons (mV 5) mNil))))))) (nRet (mC (.bl false))) nNext)))))
    (nRet (mC (.bl true))))
def m_law : M Rs := fsem 12 n_law
/-! ### what the written part says -/
structure Txt (K : PySem.W.Frag) (mg : Str → Option Value) : Type where
  f_is_whole : Addr
  d_is_whole : FuncData
  F_is_whole : Fun K "is_whole" "is_whole" s_is_whole f_is_whole d_is_whole
  g_is_whole : mg "is_whole" = some (.ref f_is_whole)
  b_is_whole : Binds K d_is_whole ["thing"] []
  f_is_whole_in : Addr
  d_is_whole_in : FuncData
  F_is_whole_in : Fun K "is_whole_in" "is_whole_in" s_is_whole_in f_is_whole_in d_is_whole_in
  g_is_whole_in : mg "is_whole_in" = some (.ref f_is_whole_in)
  b_is_whole_in : Binds K d_is_whole_in ["least", "most", "thing"] []
  f_is_tuple_of : Addr
  d_is_tuple_of : FuncData
  F_is_tuple_of : Fun K "is_tuple_of" "is_tuple_of" s_is_tuple_of f_is_tuple_of d_is_tuple_of
  g_is_tuple_of : mg "is_tuple_of" = some (.ref f_is_tuple_of)
  b_is_tuple_of : Binds K d_is_tuple_of ["least", "most", "thing"] []
  f_onto_way : Addr
  d_onto_way : FuncData
  F_onto_way : Fun K "onto_way" "onto_way" s_onto_way f_onto_way d_onto_way
  g_onto_way : mg "onto_way" = some (.ref f_onto_way)
  b_onto_way : Binds K d_onto_way ["way", "number"] []
  f_beyond : Addr
  d_beyond : FuncData
  F_beyond : Fun K "beyond" "beyond" s_beyond f_beyond d_beyond
  g_beyond : mg "beyond" = some (.ref f_beyond)
  b_beyond : Binds K d_beyond ["ways", "start", "over"] []
  f_moved_on : Addr
  d_moved_on : FuncData
  F_moved_on : Fun K "moved_on" "moved_on" s_moved_on f_moved_on d_moved_on
  g_moved_on : mg "moved_on" = some (.ref f_moved_on)
  b_moved_on : Binds K d_moved_on ["ways", "start", "end", "times"] []
  f_plain_point : Addr
  d_plain_point : FuncData
  F_plain_point : Fun K "plain_point" "plain_point" s_plain_point f_plain_point d_plain_point
  g_plain_point : mg "plain_point" = some (.ref f_plain_point)
  b_plain_point : Binds K d_plain_point ["point"] []
  f_plain_points : Addr
  d_plain_points : FuncData
  F_plain_points : Fun K "plain_points" "plain_points" s_plain_points f_plain_points d_plain_points
  g_plain_points : mg "plain_points" = some (.ref f_plain_points)
  b_plain_points : Binds K d_plain_points ["standing"] []
  f_unit_points : Addr
  d_unit_points : FuncData
  F_unit_points : Fun K "unit_points" "unit_points" s_unit_points f_unit_points d_unit_points
  g_unit_points : mg "unit_points" = some (.ref f_unit_points)
  b_unit_points : Binds K d_unit_points ["persons"] []
  f_vectors_between : Addr
  d_vectors_between : FuncData
  F_vectors_between : Fun K "vectors_between" "vectors_between" s_vectors_between f_vectors_between d_vectors_between
  g_vectors_between : mg "vectors_between" = some (.ref f_vectors_between)
  b_vectors_between : Binds K d_vectors_between ["starts", "ends"] []
  f_points_after : Addr
  d_points_after : FuncData
  F_points_after : Fun K "points_after" "points_after" s_points_after f_points_after d_points_after
  g_points_after : mg "points_after" = some (.ref f_points_after)
  b_points_after : Binds K d_points_after ["ways", "points", "leaps"] []
  f_points_after_run : Addr
  d_points_after_run : FuncData
  F_points_after_run : Fun K "points_after_run" "points_after_run" s_points_after_run f_points_after_run d_points_after_run
  g_points_after_run : mg "points_after_run" = some (.ref f_points_after_run)
  b_points_after_run : Binds K d_points_after_run ["ways", "points", "run"] []
  f_points_after_row : Addr
  d_points_after_row : FuncData
  F_points_after_row : Fun K "points_after_row" "points_after_row" s_points_after_row f_points_after_row d_points_after_row
  g_points_after_row : mg "points_after_row" = some (.ref f_points_after_row)
  b_points_after_row : Binds K d_points_after_row ["ways", "points", "row"] []
  f_repeats_alike : Addr
  d_repeats_alike : FuncData
  F_repeats_alike : Fun K "repeats_alike" "repeats_alike" s_repeats_alike f_repeats_alike d_repeats_alike
  g_repeats_alike : mg "repeats_alike" = some (.ref f_repeats_alike)
  b_repeats_alike : Binds K d_repeats_alike ["persons", "leaps"] []
  f_is_way : Addr
  d_is_way : FuncData
  F_is_way : Fun K "is_way" "is_way" s_is_way f_is_way d_is_way
  g_is_way : mg "is_way" = some (.ref f_is_way)
  b_is_way : Binds K d_is_way ["thing"] []
  f_is_ways : Addr
  d_is_ways : FuncData
  F_is_ways : Fun K "is_ways" "is_ways" s_is_ways f_is_ways d_is_ways
  g_is_ways : mg "is_ways" = some (.ref f_is_ways)
  b_is_ways : Binds K d_is_ways ["thing"] []
  f_is_persons : Addr
  d_is_persons : FuncData
  F_is_persons : Fun K "is_persons" "is_persons" s_is_persons f_is_persons d_is_persons
  g_is_persons : mg "is_persons" = some (.ref f_is_persons)
  b_is_persons : Binds K d_is_persons ["thing"] []
  f_is_posts : Addr
  d_is_posts : FuncData
  F_is_posts : Fun K "is_posts" "is_posts" s_is_posts f_is_posts d_is_posts
  g_is_posts : mg "is_posts" = some (.ref f_is_posts)
  b_is_posts : Binds K d_is_posts ["persons", "thing"] []
  f_yard_wrong : Addr
  d_yard_wrong : FuncData
  F_yard_wrong : Fun K "yard_wrong" "yard_wrong" s_yard_wrong f_yard_wrong d_yard_wrong
  g_yard_wrong : mg "yard_wrong" = some (.ref f_yard_wrong)
  b_yard_wrong : Binds K d_yard_wrong ["thing"] []
  f_need_yard : Addr
  d_need_yard : FuncData
  F_need_yard : Fun K "need_yard" "need_yard" s_need_yard f_need_yard d_need_yard
  g_need_yard : mg "need_yard" = some (.ref f_need_yard)
  b_need_yard : Binds K d_need_yard ["yard"] []
  f_is_number_on : Addr
  d_is_number_on : FuncData
  F_is_number_on : Fun K "is_number_on" "is_number_on" s_is_number_on f_is_number_on d_is_number_on
  g_is_number_on : mg "is_number_on" = some (.ref f_is_number_on)
  b_is_number_on : Binds K d_is_number_on ["way", "thing"] []
  f_is_point : Addr
  d_is_point : FuncData
  F_is_point : Fun K "is_point" "is_point" s_is_point f_is_point d_is_point
  g_is_point : mg "is_point" = some (.ref f_is_point)
  b_is_point : Binds K d_is_point ["ways", "thing"] []
  f_standing_wrong : Addr
  d_standing_wrong : FuncData
  F_standing_wrong : Fun K "standing_wrong" "standing_wrong" s_standing_wrong f_standing_wrong d_standing_wrong
  g_standing_wrong : mg "standing_wrong" = some (.ref f_standing_wrong)
  b_standing_wrong : Binds K d_standing_wrong ["yard", "thing"] []
  f_is_standing : Addr
  d_is_standing : FuncData
  F_is_standing : Fun K "is_standing" "is_standing" s_is_standing f_is_standing d_is_standing
  g_is_standing : mg "is_standing" = some (.ref f_is_standing)
  b_is_standing : Binds K d_is_standing ["yard", "thing"] []
  f_need_standing : Addr
  d_need_standing : FuncData
  F_need_standing : Fun K "need_standing" "need_standing" s_need_standing f_need_standing d_need_standing
  g_need_standing : mg "need_standing" = some (.ref f_need_standing)
  b_need_standing : Binds K d_need_standing ["yard", "standing"] []
  f_is_leap : Addr
  d_is_leap : FuncData
  F_is_leap : Fun K "is_leap" "is_leap" s_is_leap f_is_leap d_is_leap
  g_is_leap : mg "is_leap" = some (.ref f_is_leap)
  b_is_leap : Binds K d_is_leap ["persons", "posts", "thing"] []
  f_leap_at_fault : Addr
  d_leap_at_fault : FuncData
  F_leap_at_fault : Fun K "leap_at_fault" "leap_at_fault" s_leap_at_fault f_leap_at_fault d_leap_at_fault
  g_leap_at_fault : mg "leap_at_fault" = some (.ref f_leap_at_fault)
  b_leap_at_fault : Binds K d_leap_at_fault ["persons", "posts", "leaps"] []
  f_is_steady : Addr
  d_is_steady : FuncData
  F_is_steady : Fun K "is_steady" "is_steady" s_is_steady f_is_steady d_is_steady
  g_is_steady : mg "is_steady" = some (.ref f_is_steady)
  b_is_steady : Binds K d_is_steady ["persons", "leaps"] []
  f_run_wrong : Addr
  d_run_wrong : FuncData
  F_run_wrong : Fun K "run_wrong" "run_wrong" s_run_wrong f_run_wrong d_run_wrong
  g_run_wrong : mg "run_wrong" = some (.ref f_run_wrong)
  b_run_wrong : Binds K d_run_wrong ["persons", "posts", "n", "run"] []
  f_runs_wrong : Addr
  d_runs_wrong : FuncData
  F_runs_wrong : Fun K "runs_wrong" "runs_wrong" s_runs_wrong f_runs_wrong d_runs_wrong
  g_runs_wrong : mg "runs_wrong" = some (.ref f_runs_wrong)
  b_runs_wrong : Binds K d_runs_wrong ["persons", "posts", "thing"] []
  f_need_runs : Addr
  d_need_runs : FuncData
  F_need_runs : Fun K "need_runs" "need_runs" s_need_runs f_need_runs d_need_runs
  g_need_runs : mg "need_runs" = some (.ref f_need_runs)
  b_need_runs : Binds K d_need_runs ["persons", "posts", "row"] []
  f_row_wrong : Addr
  d_row_wrong : FuncData
  F_row_wrong : Fun K "row_wrong" "row_wrong" s_row_wrong f_row_wrong d_row_wrong
  g_row_wrong : mg "row_wrong" = some (.ref f_row_wrong)
  b_row_wrong : Binds K d_row_wrong ["yard", "thing"] []
  f_done : Addr
  d_done : FuncData
  F_done : Fun K "done" "done" s_done f_done d_done
  g_done : mg "done" = some (.ref f_done)
  b_done : Binds K d_done ["yard", "standing", "row"] []
  f__law_mixed : Addr
  d__law_mixed : FuncData
  F__law_mixed : Fun K "_law_mixed" "_law_mixed" s__law_mixed f__law_mixed d__law_mixed
  g__law_mixed : mg "_law_mixed" = some (.ref f__law_mixed)
  b__law_mixed : Binds K d__law_mixed ["cell", "k"] []
  f__law_pile : Addr
  d__law_pile : FuncData
  F__law_pile : Fun K "_law_pile" "_law_pile" s__law_pile f__law_pile d__law_pile
  g__law_pile : mg "_law_pile" = some (.ref f__law_pile)
  b__law_pile : Binds K d__law_pile ["script", "k"] []
  f__law_take : Addr
  d__law_take : FuncData
  F__law_take : Fun K "_law_take" "_law_take" s__law_take f__law_take d__law_take
  g__law_take : mg "_law_take" = some (.ref f__law_take)
  b__law_take : Binds K d__law_take ["pile", "many"] []
  f__law_great : Addr
  d__law_great : FuncData
  F__law_great : Fun K "_law_great" "_law_great" s__law_great f__law_great d__law_great
  g__law_great : mg "_law_great" = some (.ref f__law_great)
  b__law_great : Binds K d__law_great ["pile"] []
  f__law_number : Addr
  d__law_number : FuncData
  F__law_number : Fun K "_law_number" "_law_number" s__law_number f__law_number d__law_number
  g__law_number : mg "_law_number" = some (.ref f__law_number)
  b__law_number : Binds K d__law_number ["pile"] []
  f__law_ways : Addr
  d__law_ways : FuncData
  F__law_ways : Fun K "_law_ways" "_law_ways" s__law_ways f__law_ways d__law_ways
  g__law_ways : mg "_law_ways" = some (.ref f__law_ways)
  b__law_ways : Binds K d__law_ways ["pile", "upto"] []
  f__law_vector : Addr
  d__law_vector : FuncData
  F__law_vector : Fun K "_law_vector" "_law_vector" s__law_vector f__law_vector d__law_vector
  g__law_vector : mg "_law_vector" = some (.ref f__law_vector)
  b__law_vector : Binds K d__law_vector ["pile", "ways"] []
  f__law_put : Addr
  d__law_put : FuncData
  F__law_put : Fun K "_law_put" "_law_put" s__law_put f__law_put d__law_put
  g__law_put : mg "_law_put" = some (.ref f__law_put)
  b__law_put : Binds K d__law_put ["one", "other", "times"] []
  f__law_round : Addr
  d__law_round : FuncData
  F__law_round : Fun K "_law_round" "_law_round" s__law_round f__law_round d__law_round
  g__law_round : mg "_law_round" = some (.ref f__law_round)
  b__law_round : Binds K d__law_round ["ways", "vector"] []
  f__law_standing : Addr
  d__law_standing : FuncData
  F__law_standing : Fun K "_law_standing" "_law_standing" s__law_standing f__law_standing d__law_standing
  g__law_standing : mg "_law_standing" = some (.ref f__law_standing)
  b__law_standing : Binds K d__law_standing ["pile", "ways", "persons"] []
  f__law_leap : Addr
  d__law_leap : FuncData
  F__law_leap : Fun K "_law_leap" "_law_leap" s__law_leap f__law_leap d__law_leap
  g__law_leap : mg "_law_leap" = some (.ref f__law_leap)
  b__law_leap : Binds K d__law_leap ["pile", "yard"] []
  f__law_places : Addr
  d__law_places : FuncData
  F__law_places : Fun K "_law_places" "_law_places" s__law_places f__law_places d__law_places
  g__law_places : mg "_law_places" = some (.ref f__law_places)
  b__law_places : Binds K d__law_places ["points", "leaps"] []
  f__law_done : Addr
  d__law_done : FuncData
  F__law_done : Fun K "_law_done" "_law_done" s__law_done f__law_done d__law_done
  g__law_done : mg "_law_done" = some (.ref f__law_done)
  b__law_done : Binds K d__law_done ["ways", "standing", "row"] []
  f__law_steady : Addr
  d__law_steady : FuncData
  F__law_steady : Fun K "_law_steady" "_law_steady" s__law_steady f__law_steady d__law_steady
  g__law_steady : mg "_law_steady" = some (.ref f__law_steady)
  b__law_steady : Binds K d__law_steady ["persons", "leaps"] []
  f__law_kind : Addr
  d__law_kind : FuncData
  F__law_kind : Fun K "_law_kind" "_law_kind" s__law_kind f__law_kind d__law_kind
  g__law_kind : mg "_law_kind" = some (.ref f__law_kind)
  b__law_kind : Binds K d__law_kind ["e"] []
  f__law_some_leaps : Addr
  d__law_some_leaps : FuncData
  F__law_some_leaps : Fun K "_law_some_leaps" "_law_some_leaps" s__law_some_leaps f__law_some_leaps d__law_some_leaps
  g__law_some_leaps : mg "_law_some_leaps" = some (.ref f__law_some_leaps)
  b__law_some_leaps : Binds K d__law_some_leaps ["pile", "yard"] []
  f__law_caught : Addr
  d__law_caught : FuncData
  F__law_caught : Fun K "_law_caught" "_law_caught" s__law_caught f__law_caught d__law_caught
  g__law_caught : mg "_law_caught" = some (.ref f__law_caught)
  b__law_caught : Binds K d__law_caught ["persons", "leaps"] []
  f__law_refused : Addr
  d__law_refused : FuncData
  F__law_refused : Fun K "_law_refused" "_law_refused" s__law_refused f__law_refused d__law_refused
  g__law_refused : mg "_law_refused" = some (.ref f__law_refused)
  b__law_refused : Binds K d__law_refused ["pile", "persons", "leaps"] []
  f_law : Addr
  d_law : FuncData
  F_law : Fun K "law" "law" s_law f_law d_law
  g_law : mg "law" = some (.ref f_law)
  b_law : Binds K d_law ["script"] []
  c_FolkError : Addr
  k_FolkError : ClsAt K 0 c_FolkError
  g_FolkError : mg "FolkError" = some (.ref c_FolkError)
  c_NoYard : Addr
  k_NoYard : ClsAt K 1 c_NoYard
  g_NoYard : mg "NoYard" = some (.ref c_NoYard)
  c_NoStanding : Addr
  k_NoStanding : ClsAt K 2 c_NoStanding
  g_NoStanding : mg "NoStanding" = some (.ref c_NoStanding)
  c_NoLeap : Addr
  k_NoLeap : ClsAt K 3 c_NoLeap
  g_NoLeap : mg "NoLeap" = some (.ref c_NoLeap)
  c_NoRow : Addr
  k_NoRow : ClsAt K 4 c_NoRow
  g_NoRow : mg "NoRow" = some (.ref c_NoRow)
  c_NoVector : Addr
  k_NoVector : ClsAt K 5 c_NoVector
  g_NoVector : mg "NoVector" = some (.ref c_NoVector)
  c_NoReading : Addr
  k_NoReading : ClsAt K 6 c_NoReading
  g_NoReading : mg "NoReading" = some (.ref c_NoReading)
  c_NoWishes : Addr
  k_NoWishes : ClsAt K 7 c_NoWishes
  g_NoWishes : mg "NoWishes" = some (.ref c_NoWishes)
  c_NoCell : Addr
  k_NoCell : ClsAt K 8 c_NoCell
  g_NoCell : mg "NoCell" = some (.ref c_NoCell)
  c_NoTable : Addr
  k_NoTable : ClsAt K 9 c_NoTable
  g_NoTable : mg "NoTable" = some (.ref c_NoTable)
  c_NoNumber : Addr
  k_NoNumber : ClsAt K 10 c_NoNumber
  g_NoNumber : mg "NoNumber" = some (.ref c_NoNumber)
  c_NoPerson : Addr
  k_NoPerson : ClsAt K 11 c_NoPerson
  g_NoPerson : mg "NoPerson" = some (.ref c_NoPerson)
  c_TooMany : Addr
  k_TooMany : ClsAt K 12 c_TooMany
  g_TooMany : mg "TooMany" = some (.ref c_TooMany)
  mk_NoYard : ∀ {X : Cx} {m : Str} {j : Nat} {p p2 pos : Pos} (hK : X.K = K ∧ X.mg = mg) (hg : Gl X "NoYard"), PMk X (.Call (.Name "NoYard" p) [.Constant (.str m) j p2] [] pos) (fun _ H Q => Q (.ref c_NoYard) none H)
  mk_NoStanding : ∀ {X : Cx} {m : Str} {j : Nat} {p p2 pos : Pos} (hK : X.K = K ∧ X.mg = mg) (hg : Gl X "NoStanding"), PMk X (.Call (.Name "NoStanding" p) [.Constant (.str m) j p2] [] pos) (fun _ H Q => Q (.ref c_NoStanding) none H)
  mk_NoLeap : ∀ {X : Cx} {m : Str} {j : Nat} {p p2 pos : Pos} (hK : X.K = K ∧ X.mg = mg) (hg : Gl X "NoLeap"), PMk X (.Call (.Name "NoLeap" p) [.Constant (.str m) j p2] [] pos) (fun _ H Q => Q (.ref c_NoLeap) none H)
  mk_NoRow : ∀ {X : Cx} {m : Str} {j : Nat} {p p2 pos : Pos} (hK : X.K = K ∧ X.mg = mg) (hg : Gl X "NoRow"), PMk X (.Call (.Name "NoRow" p) [.Constant (.str m) j p2] [] pos) (fun _ H Q => Q (.ref c_NoRow) none H)
  z_ValueError : mg "ValueError" = none
  z_abs : mg "abs" = none
  z_all : mg "all" = none
  z_bool : mg "bool" = none
  z_enumerate : mg "enumerate" = none
  z_int : mg "int" = none
  z_isinstance : mg "isinstance" = none
  z_len : mg "len" = none
  z_list : mg "list" = none
  z_max : mg "max" = none
  z_range : mg "range" = none
  z_tuple : mg "tuple" = none
  z_zip : mg "zip" = none
  g_LEAST_PERSONS : ∃ t, mg "LEAST_PERSONS" = some (.int 2 t)
  g_MOST_LEAPS : ∃ t, mg "MOST_LEAPS" = some (.int 40 t)
  g_MOST_PERSONS : ∃ t, mg "MOST_PERSONS" = some (.int 6 t)
  g_MOST_WAYS : ∃ t, mg "MOST_WAYS" = some (.int 3 t)
  isi : IsiOk K CL KS
  exm_FolkError : ExmOk K CL 0 (.ref c_FolkError)
theorem hu64 {k : Nat} {A : Around} (h : Room k A) : A.units + 64 < cLine := by have := h.un; omega
theorem rm {k j : Nat} {A : Around} (h : Room k A) (hj : j ≤ k := by decide) : Room j A := h.mono hj
theorem is_clsI {K : PySem.W.Frag} {H : Hp} {k : Nat} {c : Addr} (h : ClsAt K k c) : Is K H (.cls k) (.ref c) := by simp only [Is]; exact ⟨c, h, rfl⟩
section
variable {P : Program} {w : World} {K : PySem.W.Frag} {mg : Str → Option Value} {base : Heap}
theorem ok_is_whole (T : Txt K mg) : FnOk P w K mg base (L2.CX P w) 1 T.f_is_whole T.d_is_whole ["thing"] (spD K 1 m_is_whole) :=
  fun_ok T.F_is_whole sc_is_whole (by decide) fun cdv A outer s H E hr tk hp =>
    (ds_one (dn_ret (dm_and (dm_callB (call_isX.or call_isi) (cd_isiE T.isi) (by rfl) T.z_isinstance bb_isinstance (da_cons (dv 0) (da_cons (dm_tyName (by rfl) T.z_int bb_int) da_nil))) (dm_one (dm_not (dm_callB (call_isX.or call_isi) (cd_isiE T.isi) (by rfl) T.z_isinstance bb_isinstance (da_cons (dv 0) (da_cons (dm_tyName (by rfl) T.z_bool bb_bool) da_nil))))))))
theorem ok_is_whole_in (T : Txt K mg) : FnOk P w K mg base (L2.CX P w) 2 T.f_is_whole_in T.d_is_whole_in ["least", "most", "thing"] (spD K 3 m_is_whole_in) :=
  fun_ok T.F_is_whole_in sc_is_whole_in (by decide) fun cdv A outer s H E hr tk hp =>
    (ds_one (dn_ret (dm_and (dm_call (ok_is_whole T) (rm hr) (passW_of tk) (by rfl) T.g_is_whole T.F_is_whole.kp T.b_is_whole (da_cons (dv 2) da_nil)) (dm_one (dm_chain op_le op_le ob_int ob_int (dv 0) (dv 2) (dv 1))))))
theorem ok_is_tuple_of (T : Txt K mg) : FnOk P w K mg base (L2.CX P w) 1 T.f_is_tuple_of T.d_is_tuple_of ["least", "most", "thing"] (spD K 3 m_is_tuple_of) :=
  fun_ok T.F_is_tuple_of sc_is_tuple_of (by decide) fun cdv A outer s H E hr tk hp =>
    (ds_one (dn_ret (dm_and (dm_callB (call_isX.or call_isi) (cd_isiE T.isi) (by rfl) T.z_isinstance bb_isinstance (da_cons (dv 2) (da_cons (dm_tyName (by rfl) T.z_tuple bb_tuple) da_nil))) (dm_one (dm_chain op_le op_le ob_int ob_int (dv 0) (dm_callB (call_len_seq.or call_len_str) (cd_len) (by rfl) T.z_len bb_len (da_cons (dv 2) da_nil)) (dv 1))))))
theorem ok_onto_way (T : Txt K mg) : FnOk P w K mg base (L2.CX P w) 1 T.f_onto_way T.d_onto_way ["way", "number"] (spD K 2 m_onto_way) :=
  fun_ok T.F_onto_way sc_onto_way (by decide) fun cdv A outer s H E hr tk hp =>
    (ds_cons (dn_if (dt_eq (hu64 hr) (dv 0) dm_int) (ds_one (dn_ret (dv 1))) ds_nil)
    (ds_one (dn_ret (dm_mod (dv 1) (dv 0)))))
theorem ok_beyond (T : Txt K mg) : FnOk P w K mg base (L2.CX P w) 2 T.f_beyond T.d_beyond ["ways", "start", "over"] (spD K 3 m_beyond) :=
  fun_ok T.F_beyond sc_beyond (by decide) fun cdv A outer s H E hr tk hp =>
    (ds_one (dn_ret (dm_callTy (call_tuple_of) (cd_tup) (by rfl) T.z_tuple bb_tuple (da_cons (dm_lc (by rfl) sc_beyond.nd (di_zip3 (by rfl) T.z_zip (da_cons (dv 0) (da_cons (dv 1) (da_cons (dv 2) da_nil)))) (blkOk_by (own := [("way", 3), ("number", 4), ("middle", 5)]) (by mpure_intro)) (tgd_tup (is := [3, 4, 5]) (by decide)) (fun _ _ _ _ _ => (pg_tup (by rfl) (dg_cons (i := 3) sc_beyond.nd (by rfl) (by mconstructor) (dg_cons (i := 4) sc_beyond.nd (by rfl) (by mconstructor) (dg_cons (i := 5) sc_beyond.nd (by rfl) (by mconstructor) dg_nil))))) (fun _ _ _ _ _ => dts_nil) (fun _ _ _ _ _ => (dm_call (ok_onto_way T) (rm hr) passW_none (by rfl) T.g_onto_way T.F_onto_way.kp T.b_onto_way (da_cons (dv 3) (da_cons (dm_sub (dm_mul dm_int (dv 5)) (dv 4)) da_nil))))) da_nil))))
theorem ok_moved_on (T : Txt K mg) : FnOk P w K mg base (L2.CX P w) 2 T.f_moved_on T.d_moved_on ["ways", "start", "end", "times"] (spD K 4 m_moved_on) :=
  fun_ok T.F_moved_on sc_moved_on (by decide) fun cdv A outer s H E hr tk hp =>
    (ds_one (dn_ret (dm_callTy (call_tuple_of) (cd_tup) (by rfl) T.z_tuple bb_tuple (da_cons (dm_lc (by rfl) sc_moved_on.nd (di_zip3 (by rfl) T.z_zip (da_cons (dv 0) (da_cons (dv 1) (da_cons (dv 2) da_nil)))) (blkOk_by (own := [("way", 4), ("low", 5), ("high", 6)]) (by mpure_intro)) (tgd_tup (is := [4, 5, 6]) (by decide)) (fun _ _ _ _ _ => (pg_tup (by rfl) (dg_cons (i := 4) sc_moved_on.nd (by rfl) (by mconstructor) (dg_cons (i := 5) sc_moved_on.nd (by rfl) (by mconstructor) (dg_cons (i := 6) sc_moved_on.nd (by rfl) (by mconstructor) dg_nil))))) (fun _ _ _ _ _ => dts_nil) (fun _ _ _ _ _ => (dm_call (ok_onto_way T) (rm hr) passW_none (by rfl) T.g_onto_way T.F_onto_way.kp T.b_onto_way (da_cons (dv 4) (da_cons (dm_add (dv 5) (dm_mul (dv 3) (dm_sub (dv 6) (dv 5)))) da_nil))))) da_nil))))
theorem ok_plain_point (T : Txt K mg) : FnOk P w K mg base (L2.CX P w) 1 T.f_plain_point T.d_plain_point ["point"] (spD K 1 m_plain_point) :=
  fun_ok T.F_plain_point sc_plain_point (by decide) fun cdv A outer s H E hr tk hp =>
    (ds_one (dn_ret (dm_callTy (call_tuple_of) (cd_tup) (by rfl) T.z_tuple bb_tuple (da_cons (dm_lc (by rfl) sc_plain_point.nd (di_seq (dv 0)) (blkOk_by (own := [("number", 1)]) (by mpure_intro)) (tgd_name (i := 1) (by decide)) (fun _ _ _ _ _ => (pg_name (i := 1) sc_plain_point.nd (by rfl) (by mconstructor))) (fun _ _ _ _ _ => dts_nil) (fun _ _ _ _ _ => (dm_callTy (call_int1) (cd_int) (by rfl) T.z_int bb_int (da_cons (dv 1) da_nil)))) da_nil))))
theorem ok_plain_points (T : Txt K mg) : FnOk P w K mg base (L2.CX P w) 2 T.f_plain_points T.d_plain_points ["standing"] (spD K 1 m_plain_points) :=
  fun_ok T.F_plain_points sc_plain_points (by decide) fun cdv A outer s H E hr tk hp =>
    (ds_one (dn_ret (dm_lc (by rfl) sc_plain_points.nd (di_seq (dv 0)) (blkOk_by (own := [("point", 1)]) (by mpure_intro)) (tgd_name (i := 1) (by decide)) (fun _ _ _ _ _ => (pg_name (i := 1) sc_plain_points.nd (by rfl) (by mconstructor))) (fun _ _ _ _ _ => dts_nil) (fun _ _ _ _ _ => (dm_call (ok_plain_point T) (rm hr) passW_none (by rfl) T.g_plain_point T.F_plain_point.kp T.b_plain_point (da_cons (dv 1) da_nil))))))
theorem ok_unit_points (T : Txt K mg) : FnOk P w K mg base (L2.CX P w) 1 T.f_unit_points T.d_unit_points ["persons"] (spD K 1 m_unit_points) :=
  fun_ok T.F_unit_points sc_unit_points (by decide) fun cdv A outer s H E hr tk hp =>
    (ds_one (dn_ret (dm_lc (by rfl) sc_unit_points.nd (di_rng1 (by rfl) T.z_range (da_cons (dv 0) da_nil)) (blkOk_by (own := [("person", 1)]) (by mpure_intro)) (tgd_name (i := 1) (by decide)) (fun _ _ _ _ _ => (pg_name (i := 1) sc_unit_points.nd (by rfl) (by mconstructor))) (fun _ _ _ _ _ => dts_nil) (fun _ _ _ _ _ => (dm_callTy (call_tuple_of) (cd_tup) (by rfl) T.z_tuple bb_tuple (da_cons (dm_lc (by rfl) sc_unit_points.nd (di_rng1 (by rfl) T.z_range (da_cons (dv 0) da_nil)) (blkOk_by (own := [("way", 2)]) (by mpure_intro)) (tgd_name (i := 2) (by decide)) (fun _ _ _ _ _ => (pg_name (i := 2) sc_unit_points.nd (by rfl) (by mconstructor))) (fun _ _ _ _ _ => dts_nil) (fun _ _ _ _ _ => (dm_ite (dt_eq (hu64 hr) (dv 2) (dv 1)) dm_int dm_int))) da_nil))))))
theorem ok_vectors_between (T : Txt K mg) : FnOk P w K mg base (L2.CX P w) 1 T.f_vectors_between T.d_vectors_between ["starts", "ends"] (spD K 2 m_vectors_between) :=
  fun_ok T.F_vectors_between sc_vectors_between (by decide) fun cdv A outer s H E hr tk hp =>
    (ds_one (dn_ret (dm_lc (by rfl) sc_vectors_between.nd (di_zip2 (by rfl) T.z_zip (da_cons (dv 0) (da_cons (dv 1) da_nil))) (blkOk_by (own := [("start", 2), ("end", 3)]) (by mpure_intro)) (tgd_tup (is := [2, 3]) (by decide)) (fun _ _ _ _ _ => (pg_tup (by rfl) (dg_cons (i := 2) sc_vectors_between.nd (by rfl) (by mconstructor) (dg_cons (i := 3) sc_vectors_between.nd (by rfl) (by mconstructor) dg_nil)))) (fun _ _ _ _ _ => dts_nil) (fun _ _ _ _ _ => (dm_lc (by rfl) sc_vectors_between.nd (di_zip2 (by rfl) T.z_zip (da_cons (dv 2) (da_cons (dv 3) da_nil))) (blkOk_by (own := [("low", 4), ("high", 5)]) (by mpure_intro)) (tgd_tup (is := [4, 5]) (by decide)) (fun _ _ _ _ _ => (pg_tup (by rfl) (dg_cons (i := 4) sc_vectors_between.nd (by rfl) (by mconstructor) (dg_cons (i := 5) sc_vectors_between.nd (by rfl) (by mconstructor) dg_nil)))) (fun _ _ _ _ _ => dts_nil) (fun _ _ _ _ _ => (dm_sub (dv 5) (dv 4))))))))
theorem ok_points_after (T : Txt K mg) : FnOk P w K mg base (L2.CX P w) 3 T.f_points_after T.d_points_after ["ways", "points", "leaps"] (spD K 3 m_points_after) :=
  fun_ok T.F_points_after sc_points_after (by decide) fun cdv A outer s H E hr tk hp =>
    (ds_cons (dn_set (i := 3) sc_points_after.nd rfl (by mconstructor) (dm_callTy (call_list_of) (cd_list) (by rfl) T.z_list bb_list (da_cons (dv 1) da_nil)))
    (ds_cons (dn_for hp (by rfl) (di_seq (dv 2)) (dg_tup (is := [4, 5]) (by rfl) (dg_cons (i := 4) sc_points_after.nd rfl (by mconstructor) (dg_cons (i := 5) sc_points_after.nd rfl (by mconstructor) dg_nil))) (ds_one (dn_setIx (k := 3) (pv 3) (dv 4) (dm_call (ok_beyond T) (rm hr) (passW_of tk) (by rfl) T.g_beyond T.F_beyond.kp T.b_beyond (da_cons (dv 0) (da_cons (dm_ix (dv 3) (dv 4)) (da_cons (dm_ix (dv 3) (dv 5)) da_nil)))))))
    (ds_one (dn_ret (dv 3)))))
theorem ok_points_after_run (T : Txt K mg) : FnOk P w K mg base (L2.CX P w) 4 T.f_points_after_run T.d_points_after_run ["ways", "points", "run"] (spD K 3 m_points_after_run) :=
  fun_ok T.F_points_after_run sc_points_after_run (by decide) fun cdv A outer s H E hr tk hp =>
    (ds_cons (dn_unp (is := [4, 5]) (by rfl) (dg_cons (i := 4) sc_points_after_run.nd rfl (by mconstructor) (dg_cons (i := 5) sc_points_after_run.nd rfl (by mconstructor) dg_nil)) (dv 2))
    (ds_cons (dn_set (i := 3) sc_points_after_run.nd rfl (by mconstructor) (dm_call (ok_points_after T) (rm hr) (passW_of tk) (by rfl) T.g_points_after T.F_points_after.kp T.b_points_after (da_cons (dv 0) (da_cons (dm_frz (dv 1)) (da_cons (dv 4) da_nil)))))
    (ds_cons (dn_if (dt_eq (hu64 hr) (dv 5) dm_int) (ds_one (dn_ret (dv 3))) ds_nil)
    (ds_one (dn_ret (dm_lc (by rfl) sc_points_after_run.nd (di_zip2 (by rfl) T.z_zip (da_cons (dv 1) (da_cons (dv 3) da_nil))) (blkOk_by (own := [("start", 6), ("end", 7)]) (by mpure_intro)) (tgd_tup (is := [6, 7]) (by decide)) (fun _ _ _ _ _ => (pg_tup (by rfl) (dg_cons (i := 6) sc_points_after_run.nd (by rfl) (by mconstructor) (dg_cons (i := 7) sc_points_after_run.nd (by rfl) (by mconstructor) dg_nil)))) (fun _ _ _ _ _ => dts_nil) (fun _ _ _ _ _ => (dm_call (ok_moved_on T) (rm hr) passW_none (by rfl) T.g_moved_on T.F_moved_on.kp T.b_moved_on (da_cons (dv 0) (da_cons (dm_frz (dv 6)) (da_cons (dv 7) (da_cons (dv 5) da_nil))))))))))))
theorem ok_points_after_row (T : Txt K mg) : FnOk P w K mg base (L2.CX P w) 5 T.f_points_after_row T.d_points_after_row ["ways", "points", "row"] (spD K 3 m_points_after_row) :=
  fun_ok T.F_points_after_row sc_points_after_row (by decide) fun cdv A outer s H E hr tk hp =>
    (ds_cons (dn_set (i := 3) sc_points_after_row.nd rfl (by mconstructor) (dm_callTy (call_list_of) (cd_list) (by rfl) T.z_list bb_list (da_cons (dv 1) da_nil)))
    (ds_cons (dn_for hp (by rfl) (di_seq (dv 2)) (dg_name (i := 4) sc_points_after_row.nd rfl (by mconstructor)) (ds_one (dn_set (i := 3) sc_points_after_row.nd rfl (by mconstructor) (dm_call (ok_points_after_run T) (rm hr) (passW_of tk) (by rfl) T.g_points_after_run T.F_points_after_run.kp T.b_points_after_run (da_cons (dv 0) (da_cons (dm_frz (dv 3)) (da_cons (dv 4) da_nil)))))))
    (ds_one (dn_ret (dv 3)))))
theorem ok_repeats_alike (T : Txt K mg) : FnOk P w K mg base (L2.CX P w) 4 T.f_repeats_alike T.d_repeats_alike ["persons", "leaps"] (spD K 2 m_repeats_alike) :=
  fun_ok T.F_repeats_alike sc_repeats_alike (by decide) fun cdv A outer s H E hr tk hp =>
    (ds_cons (dn_set (i := 2) sc_repeats_alike.nd rfl (by mconstructor) (dm_mulT (dm_tup (da_cons dm_int da_nil)) (dv 0)))
    (ds_cons (dn_set (i := 3) sc_repeats_alike.nd rfl (by mconstructor) (dm_call (ok_unit_points T) (rm hr) (passW_of tk) (by rfl) T.g_unit_points T.F_unit_points.kp T.b_unit_points (da_cons (dv 0) da_nil)))
    (ds_cons (dn_set (i := 4) sc_repeats_alike.nd rfl (by mconstructor) (dm_call (ok_points_after T) (rm hr) (passW_of tk) (by rfl) T.g_points_after T.F_points_after.kp T.b_points_after (da_cons (dv 2) (da_cons (dm_frz (dv 3)) (da_cons (dv 1) da_nil)))))
    (ds_cons (dn_set (i := 5) sc_repeats_alike.nd rfl (by mconstructor) (dm_call (ok_points_after T) (rm hr) (passW_of tk) (by rfl) T.g_points_after T.F_points_after.kp T.b_points_after (da_cons (dv 2) (da_cons (dm_frz (dv 4)) (da_cons (dv 1) da_nil)))))
    (ds_one (dn_ret (dm_eq (hu64 hr) (dm_call (ok_vectors_between T) (rm hr) (passW_of tk) (by rfl) T.g_vectors_between T.F_vectors_between.kp T.b_vectors_between (da_cons (dm_frz (dv 3)) (da_cons (dm_frz (dv 4)) da_nil))) (dm_call (ok_vectors_between T) (rm hr) (passW_of tk) (by rfl) T.g_vectors_between T.F_vectors_between.kp T.b_vectors_between (da_cons (dm_frz (dv 4)) (da_cons (dm_frz (dv 5)) da_nil))))))))))
theorem ok_is_way (T : Txt K mg) : FnOk P w K mg base (L2.CX P w) 2 T.f_is_way T.d_is_way ["thing"] (spD K 1 m_is_way) :=
  fun_ok T.F_is_way sc_is_way (by decide) fun cdv A outer s H E hr tk hp =>
    (ds_one (dn_ret (dm_and (dm_call (ok_is_whole T) (rm hr) (passW_of tk) (by rfl) T.g_is_whole T.F_is_whole.kp T.b_is_whole (da_cons (dv 0) da_nil)) (dm_one (dm_or (dm_eq (hu64 hr) (dv 0) dm_int) (dm_one (dm_ge (dv 0) dm_int)))))))
theorem ok_is_ways (T : Txt K mg) : FnOk P w K mg base (L2.CX P w) 3 T.f_is_ways T.d_is_ways ["thing"] (spD K 1 m_is_ways) :=
  fun_ok T.F_is_ways sc_is_ways (by decide) fun cdv A outer s H E hr tk hp =>
    (ds_one (dn_ret (dm_and (dm_call (ok_is_tuple_of T) (rm hr) (passW_of tk) (by rfl) T.g_is_tuple_of T.F_is_tuple_of.kp T.b_is_tuple_of (da_cons dm_int (da_cons (dm_glob (d := .int 3) (v := .int 3) (u := .int 3 T.g_MOST_WAYS.choose) (fun _ => Is.intI) (by rfl) T.g_MOST_WAYS.choose_spec ⟨_, rfl⟩) (da_cons (dv 0) da_nil)))) (dm_one (dm_callB (cr_all rfl) (cd_all) (by rfl) T.z_all bb_all (da_cons (dm_lc (by rfl) sc_is_ways.nd (di_seq (dv 0)) (blkOk_by (own := [("way", 1)]) (by mpure_intro)) (tgd_name (i := 1) (by decide)) (fun _ _ _ _ _ => (pg_name (i := 1) sc_is_ways.nd (by rfl) (by mconstructor))) (fun _ _ _ _ _ => dts_nil) (fun _ _ _ _ _ => (dm_call (ok_is_way T) (rm hr) passW_none (by rfl) T.g_is_way T.F_is_way.kp T.b_is_way (da_cons (dv 1) da_nil)))) da_nil))))))
theorem ok_is_persons (T : Txt K mg) : FnOk P w K mg base (L2.CX P w) 3 T.f_is_persons T.d_is_persons ["thing"] (spD K 1 m_is_persons) :=
  fun_ok T.F_is_persons sc_is_persons (by decide) fun cdv A outer s H E hr tk hp =>
    (ds_one (dn_ret (dm_call (ok_is_whole_in T) (rm hr) (passW_of tk) (by rfl) T.g_is_whole_in T.F_is_whole_in.kp T.b_is_whole_in (da_cons (dm_glob (d := .int 2) (v := .int 2) (u := .int 2 T.g_LEAST_PERSONS.choose) (fun _ => Is.intI) (by rfl) T.g_LEAST_PERSONS.choose_spec ⟨_, rfl⟩) (da_cons (dm_glob (d := .int 6) (v := .int 6) (u := .int 6 T.g_MOST_PERSONS.choose) (fun _ => Is.intI) (by rfl) T.g_MOST_PERSONS.choose_spec ⟨_, rfl⟩) (da_cons (dv 0) da_nil))))))
theorem ok_is_posts (T : Txt K mg) : FnOk P w K mg base (L2.CX P w) 3 T.f_is_posts T.d_is_posts ["persons", "thing"] (spD K 2 m_is_posts) :=
  fun_ok T.F_is_posts sc_is_posts (by decide) fun cdv A outer s H E hr tk hp =>
    (ds_cons (dn_if (dt_not (dt_val (dm_call (ok_is_tuple_of T) (rm hr) (passW_of tk) (by rfl) T.g_is_tuple_of T.F_is_tuple_of.kp T.b_is_tuple_of (da_cons dm_int (da_cons (dm_sub (dv 0) dm_int) (da_cons (dv 1) da_nil)))))) (ds_one (dn_ret dm_bl)) ds_nil)
    (ds_cons (dn_set (i := 2) sc_is_posts.nd rfl (by mconstructor) dm_int)
    (ds_cons (dn_for hp (by rfl) (di_seq (dv 1)) (dg_name (i := 3) sc_is_posts.nd rfl (by mconstructor)) (ds_cons (dn_if (dt_not (dt_val (dm_call (ok_is_whole_in T) (rm hr) (passW_of tk) (by rfl) T.g_is_whole_in T.F_is_whole_in.kp T.b_is_whole_in (da_cons (dv 2) (da_cons (dm_sub (dv 0) dm_int) (da_cons (dv 3) da_nil)))))) (ds_one (dn_ret dm_bl)) ds_nil)
    (ds_one (dn_set (i := 2) sc_is_posts.nd rfl (by mconstructor) (dm_add (dv 3) dm_int)))))
    (ds_one (dn_ret dm_bl)))))
theorem ok_yard_wrong (T : Txt K mg) : FnOk P w K mg base (L2.CX P w) 4 T.f_yard_wrong T.d_yard_wrong ["thing"] (spD K 1 m_yard_wrong) :=
  fun_ok T.F_yard_wrong sc_yard_wrong (by decide) fun cdv A outer s H E hr tk hp =>
    (ds_cons (dn_if (dt_not (dt_val (dm_call (ok_is_tuple_of T) (rm hr) (passW_of tk) (by rfl) T.g_is_tuple_of T.F_is_tuple_of.kp T.b_is_tuple_of (da_cons dm_int (da_cons dm_int (da_cons (dv 0) da_nil)))))) (ds_one (dn_ret (dm_tup (da_cons dm_str da_nil)))) ds_nil)
    (ds_cons (dn_unp (is := [1, 2, 3]) (by rfl) (dg_cons (i := 1) sc_yard_wrong.nd rfl (by mconstructor) (dg_cons (i := 2) sc_yard_wrong.nd rfl (by mconstructor) (dg_cons (i := 3) sc_yard_wrong.nd rfl (by mconstructor) dg_nil))) (dv 0))
    (ds_cons (dn_if (dt_not (dt_val (dm_call (ok_is_ways T) (rm hr) (passW_of tk) (by rfl) T.g_is_ways T.F_is_ways.kp T.b_is_ways (da_cons (dv 1) da_nil)))) (ds_one (dn_ret (dm_tup (da_cons dm_str da_nil)))) ds_nil)
    (ds_cons (dn_if (dt_not (dt_val (dm_call (ok_is_persons T) (rm hr) (passW_of tk) (by rfl) T.g_is_persons T.F_is_persons.kp T.b_is_persons (da_cons (dv 2) da_nil)))) (ds_one (dn_ret (dm_tup (da_cons dm_str da_nil)))) ds_nil)
    (ds_cons (dn_if (dt_not (dt_val (dm_call (ok_is_posts T) (rm hr) (passW_of tk) (by rfl) T.g_is_posts T.F_is_posts.kp T.b_is_posts (da_cons (dv 2) (da_cons (dv 3) da_nil))))) (ds_one (dn_ret (dm_tup (da_cons dm_str da_nil)))) ds_nil)
    (ds_one (dn_ret dm_non)))))))
theorem ok_need_yard (T : Txt K mg) : FnOk P w K mg base (L2.CX P w) 5 T.f_need_yard T.d_need_yard ["yard"] (spD K 1 m_need_yard) :=
  fun_ok T.F_need_yard sc_need_yard (by decide) fun cdv A outer s H E hr tk hp =>
    (ds_one (dn_if (dt_notN (dm_call (ok_yard_wrong T) (rm hr) (passW_of tk) (by rfl) T.g_yard_wrong T.F_yard_wrong.kp T.b_yard_wrong (da_cons (dv 0) da_nil))) (ds_one (dn_raise (by rfl) tk T.k_NoYard (by decide) (T.mk_NoYard ⟨rfl, rfl⟩ (by rfl)))) ds_nil))
theorem ok_is_number_on (T : Txt K mg) : FnOk P w K mg base (L2.CX P w) 3 T.f_is_number_on T.d_is_number_on ["way", "thing"] (spD K 2 m_is_number_on) :=
  fun_ok T.F_is_number_on sc_is_number_on (by decide) fun cdv A outer s H E hr tk hp =>
    (ds_cons (dn_if (dt_eq (hu64 hr) (dv 0) dm_int) (ds_one (dn_ret (dm_call (ok_is_whole T) (rm hr) (passW_of tk) (by rfl) T.g_is_whole T.F_is_whole.kp T.b_is_whole (da_cons (dv 1) da_nil)))) ds_nil)
    (ds_one (dn_ret (dm_call (ok_is_whole_in T) (rm hr) (passW_of tk) (by rfl) T.g_is_whole_in T.F_is_whole_in.kp T.b_is_whole_in (da_cons dm_int (da_cons (dm_sub (dv 0) dm_int) (da_cons (dv 1) da_nil)))))))
theorem ok_is_point (T : Txt K mg) : FnOk P w K mg base (L2.CX P w) 4 T.f_is_point T.d_is_point ["ways", "thing"] (spD K 2 m_is_point) :=
  fun_ok T.F_is_point sc_is_point (by decide) fun cdv A outer s H E hr tk hp =>
    (ds_cons (dn_if (dt_not (dt_val (dm_call (ok_is_tuple_of T) (rm hr) (passW_of tk) (by rfl) T.g_is_tuple_of T.F_is_tuple_of.kp T.b_is_tuple_of (da_cons (dm_callB (call_len_seq.or call_len_str) (cd_len) (by rfl) T.z_len bb_len (da_cons (dv 0) da_nil)) (da_cons (dm_callB (call_len_seq.or call_len_str) (cd_len) (by rfl) T.z_len bb_len (da_cons (dv 0) da_nil)) (da_cons (dv 1) da_nil)))))) (ds_one (dn_ret dm_bl)) ds_nil)
    (ds_one (dn_ret (dm_callB (cr_all rfl) (cd_all) (by rfl) T.z_all bb_all (da_cons (dm_lc (by rfl) sc_is_point.nd (di_zip2 (by rfl) T.z_zip (da_cons (dv 0) (da_cons (dv 1) da_nil))) (blkOk_by (own := [("way", 2), ("number", 3)]) (by mpure_intro)) (tgd_tup (is := [2, 3]) (by decide)) (fun _ _ _ _ _ => (pg_tup (by rfl) (dg_cons (i := 2) sc_is_point.nd (by rfl) (by mconstructor) (dg_cons (i := 3) sc_is_point.nd (by rfl) (by mconstructor) dg_nil)))) (fun _ _ _ _ _ => dts_nil) (fun _ _ _ _ _ => (dm_call (ok_is_number_on T) (rm hr) passW_none (by rfl) T.g_is_number_on T.F_is_number_on.kp T.b_is_number_on (da_cons (dv 2) (da_cons (dv 3) da_nil))))) da_nil)))))
theorem ok_standing_wrong (T : Txt K mg) : FnOk P w K mg base (L2.CX P w) 6 T.f_standing_wrong T.d_standing_wrong ["yard", "thing"] (spD K 2 m_standing_wrong) :=
  fun_ok T.F_standing_wrong sc_standing_wrong (by decide) fun cdv A outer s H E hr tk hp =>
    (ds_cons (dn_expr (dm_call (ok_need_yard T) (rm hr) (passW_of tk) (by rfl) T.g_need_yard T.F_need_yard.kp T.b_need_yard (da_cons (dv 0) da_nil)))
    (ds_cons (dn_unp (is := [2, 3, 4]) (by rfl) (dg_cons (i := 2) sc_standing_wrong.nd rfl (by mconstructor) (dg_cons (i := 3) sc_standing_wrong.nd rfl (by mconstructor) (dg_cons (i := 4) sc_standing_wrong.nd rfl (by mconstructor) dg_nil))) (dv 0))
    (ds_cons (dn_if (dt_not (dt_val (dm_call (ok_is_tuple_of T) (rm hr) (passW_of tk) (by rfl) T.g_is_tuple_of T.F_is_tuple_of.kp T.b_is_tuple_of (da_cons (dv 3) (da_cons (dv 3) (da_cons (dv 1) da_nil)))))) (ds_one (dn_ret (dm_tup (da_cons dm_str da_nil)))) ds_nil)
    (ds_cons (dn_for hp (by rfl) (di_enum (by rfl) T.z_enumerate (da_cons (dv 1) da_nil)) (dg_tup (is := [5, 6]) (by rfl) (dg_cons (i := 5) sc_standing_wrong.nd rfl (by mconstructor) (dg_cons (i := 6) sc_standing_wrong.nd rfl (by mconstructor) dg_nil))) (ds_one (dn_if (dt_not (dt_val (dm_call (ok_is_point T) (rm hr) (passW_of tk) (by rfl) T.g_is_point T.F_is_point.kp T.b_is_point (da_cons (dv 2) (da_cons (dv 6) da_nil))))) (ds_one (dn_ret (dm_tup (da_cons dm_str (da_cons (dv 5) da_nil))))) ds_nil)))
    (ds_one (dn_ret dm_non))))))
theorem ok_is_standing (T : Txt K mg) : FnOk P w K mg base (L2.CX P w) 7 T.f_is_standing T.d_is_standing ["yard", "thing"] (spD K 2 m_is_standing) :=
  fun_ok T.F_is_standing sc_is_standing (by decide) fun cdv A outer s H E hr tk hp =>
    (ds_one (dn_ret (dm_isN (dm_call (ok_standing_wrong T) (rm hr) (passW_of tk) (by rfl) T.g_standing_wrong T.F_standing_wrong.kp T.b_standing_wrong (da_cons (dv 0) (da_cons (dv 1) da_nil))))))
theorem ok_need_standing (T : Txt K mg) : FnOk P w K mg base (L2.CX P w) 8 T.f_need_standing T.d_need_standing ["yard", "standing"] (spD K 2 m_need_standing) :=
  fun_ok T.F_need_standing sc_need_standing (by decide) fun cdv A outer s H E hr tk hp =>
    (ds_one (dn_if (dt_not (dt_val (dm_call (ok_is_standing T) (rm hr) (passW_of tk) (by rfl) T.g_is_standing T.F_is_standing.kp T.b_is_standing (da_cons (dv 0) (da_cons (dv 1) da_nil))))) (ds_one (dn_raise (by rfl) tk T.k_NoStanding (by decide) (T.mk_NoStanding ⟨rfl, rfl⟩ (by rfl)))) ds_nil))
theorem ok_is_leap (T : Txt K mg) : FnOk P w K mg base (L2.CX P w) 3 T.f_is_leap T.d_is_leap ["persons", "posts", "thing"] (spD K 3 m_is_leap) :=
  fun_ok T.F_is_leap sc_is_leap (by decide) fun cdv A outer s H E hr tk hp =>
    (ds_cons (dn_if (dt_not (dt_val (dm_call (ok_is_tuple_of T) (rm hr) (passW_of tk) (by rfl) T.g_is_tuple_of T.F_is_tuple_of.kp T.b_is_tuple_of (da_cons dm_int (da_cons dm_int (da_cons (dv 2) da_nil)))))) (ds_one (dn_ret dm_bl)) ds_nil)
    (ds_cons (dn_if (dt_not (dt_val (dm_callB (cr_all rfl) (cd_all) (by rfl) T.z_all bb_all (da_cons (dm_lc (by rfl) sc_is_leap.nd (di_seq (dv 2)) (blkOk_by (own := [("person", 5)]) (by mpure_intro)) (tgd_name (i := 5) (by decide)) (fun _ _ _ _ _ => (pg_name (i := 5) sc_is_leap.nd (by rfl) (by mconstructor))) (fun _ _ _ _ _ => dts_nil) (fun _ _ _ _ _ => (dm_call (ok_is_whole_in T) (rm hr) passW_none (by rfl) T.g_is_whole_in T.F_is_whole_in.kp T.b_is_whole_in (da_cons dm_int (da_cons (dm_sub (dv 0) dm_int) (da_cons (dv 5) da_nil)))))) da_nil)))) (ds_one (dn_ret dm_bl)) ds_nil)
    (ds_cons (dn_unp (is := [3, 4]) (by rfl) (dg_cons (i := 3) sc_is_leap.nd rfl (by mconstructor) (dg_cons (i := 4) sc_is_leap.nd rfl (by mconstructor) dg_nil)) (dv 2))
    (ds_one (dn_ret (dm_and (dm_ne (hu64 hr) (dv 3) (dv 4)) (dm_one (dm_notIn (dv 3) (dv 1)))))))))
theorem ok_leap_at_fault (T : Txt K mg) : FnOk P w K mg base (L2.CX P w) 4 T.f_leap_at_fault T.d_leap_at_fault ["persons", "posts", "leaps"] (spD K 3 m_leap_at_fault) :=
  fun_ok T.F_leap_at_fault sc_leap_at_fault (by decide) fun cdv A outer s H E hr tk hp =>
    (ds_cons (dn_for hp (by rfl) (di_enum (by rfl) T.z_enumerate (da_cons (dv 2) da_nil)) (dg_tup (is := [3, 4]) (by rfl) (dg_cons (i := 3) sc_leap_at_fault.nd rfl (by mconstructor) (dg_cons (i := 4) sc_leap_at_fault.nd rfl (by mconstructor) dg_nil))) (ds_one (dn_if (dt_not (dt_val (dm_call (ok_is_leap T) (rm hr) (passW_of tk) (by rfl) T.g_is_leap T.F_is_leap.kp T.b_is_leap (da_cons (dv 0) (da_cons (dv 1) (da_cons (dv 4) da_nil)))))) (ds_one (dn_ret (dv 3))) ds_nil)))
    (ds_one (dn_ret dm_non)))
theorem ok_is_steady (T : Txt K mg) : FnOk P w K mg base (L2.CX P w) 5 T.f_is_steady T.d_is_steady ["persons", "leaps"] (spD K 2 m_is_steady) :=
  fun_ok T.F_is_steady sc_is_steady (by decide) fun cdv A outer s H E hr tk hp =>
    (ds_cons (dn_if (dt_not (dt_val (dm_call (ok_is_persons T) (rm hr) (passW_of tk) (by rfl) T.g_is_persons T.F_is_persons.kp T.b_is_persons (da_cons (dv 0) da_nil)))) (ds_one (dn_raise (by rfl) tk T.k_NoRow (by decide) (T.mk_NoRow ⟨rfl, rfl⟩ (by rfl)))) ds_nil)
    (ds_cons (dn_if ((dw_or (dt_not (dt_val (dm_call (ok_is_tuple_of T) (rm hr) (passW_of tk) (by rfl) T.g_is_tuple_of T.F_is_tuple_of.kp T.b_is_tuple_of (da_cons dm_int (da_cons (dm_glob (d := .int 40) (v := .int 40) (u := .int 40 T.g_MOST_LEAPS.choose) (fun _ => Is.intI) (by rfl) T.g_MOST_LEAPS.choose_spec ⟨_, rfl⟩) (da_cons (dv 1) da_nil)))))) (dw_or1 (dt_notN (dm_call (ok_leap_at_fault T) (rm hr) (passW_of tk) (by rfl) T.g_leap_at_fault T.F_leap_at_fault.kp T.b_leap_at_fault (da_cons (dv 0) (da_cons (dm_tup da_nil) (da_cons (dv 1) da_nil)))))))).pt (ds_one (dn_raise (by rfl) tk T.k_NoRow (by decide) (T.mk_NoRow ⟨rfl, rfl⟩ (by rfl)))) ds_nil)
    (ds_one (dn_ret (dm_call (ok_repeats_alike T) (rm hr) (passW_of tk) (by rfl) T.g_repeats_alike T.F_repeats_alike.kp T.b_repeats_alike (da_cons (dv 0) (da_cons (dv 1) da_nil)))))))
theorem ok_run_wrong (T : Txt K mg) : FnOk P w K mg base (L2.CX P w) 5 T.f_run_wrong T.d_run_wrong ["persons", "posts", "n", "run"] (spD K 4 m_run_wrong) :=
  fun_ok T.F_run_wrong sc_run_wrong (by decide) fun cdv A outer s H E hr tk hp =>
    (ds_cons (dn_if ((dw_or (dt_not (dt_val (dm_call (ok_is_tuple_of T) (rm hr) (passW_of tk) (by rfl) T.g_is_tuple_of T.F_is_tuple_of.kp T.b_is_tuple_of (da_cons dm_int (da_cons dm_int (da_cons (dv 3) da_nil)))))) (dw_or1 (dt_not (dt_val (dm_call (ok_is_tuple_of T) (rm hr) (passW_of tk) (by rfl) T.g_is_tuple_of T.F_is_tuple_of.kp T.b_is_tuple_of (da_cons dm_int (da_cons (dm_glob (d := .int 40) (v := .int 40) (u := .int 40 T.g_MOST_LEAPS.choose) (fun _ => Is.intI) (by rfl) T.g_MOST_LEAPS.choose_spec ⟨_, rfl⟩) (da_cons (dm_ix (dv 3) dm_int) da_nil))))))))).pt (ds_one (dn_ret (dm_tup (da_cons dm_str (da_cons (dv 2) da_nil))))) ds_nil)
    (ds_cons (dn_unp (is := [5, 6]) (by rfl) (dg_cons (i := 5) sc_run_wrong.nd rfl (by mconstructor) (dg_cons (i := 6) sc_run_wrong.nd rfl (by mconstructor) dg_nil)) (dv 3))
    (ds_cons (dn_set (i := 4) sc_run_wrong.nd rfl (by mconstructor) (dm_call (ok_leap_at_fault T) (rm hr) (passW_of tk) (by rfl) T.g_leap_at_fault T.F_leap_at_fault.kp T.b_leap_at_fault (da_cons (dv 0) (da_cons (dv 1) (da_cons (dv 5) da_nil)))))
    (ds_cons (dn_if (dt_notN (dv 4)) (ds_one (dn_ret (dm_tup (da_cons dm_str (da_cons (dv 2) (da_cons (dv 4) da_nil)))))) ds_nil)
    (ds_cons (dn_if ((dw_or (dt_not (dt_val (dm_call (ok_is_whole T) (rm hr) (passW_of tk) (by rfl) T.g_is_whole T.F_is_whole.kp T.b_is_whole (da_cons (dv 6) da_nil)))) (dw_or1 (dt_lt (dv 6) dm_int)))).pt (ds_one (dn_ret (dm_tup (da_cons dm_str (da_cons (dv 2) da_nil))))) ds_nil)
    (ds_one (dn_ret dm_non)))))))
theorem ok_runs_wrong (T : Txt K mg) : FnOk P w K mg base (L2.CX P w) 6 T.f_runs_wrong T.d_runs_wrong ["persons", "posts", "thing"] (spD K 3 m_runs_wrong) :=
  runs_ok T.F_runs_wrong sc_runs_wrong rfl rfl fun cdv A outer s H E hr tk hp dp dq Hb0 H0 v0 v1 v2 =>
    (pss_cons (ps_if (dt_not (dt_val (dm_callB (call_isX.or call_isi) (cd_isiE T.isi) (by rfl) T.z_isinstance bb_isinstance (da_cons (dv 2) (da_cons (dm_tyName (by rfl) T.z_list bb_list) da_nil))))) (pss_one (ps_ret (dm_tup (da_cons dm_str da_nil)))) pss_nil)
    (pss_cons (ps_set (i := 3) sc_runs_wrong.nd rfl (by mconstructor) pe_dnewD)
    (pss_cons (ps_for hp (by rfl) (di_enum (by rfl) T.z_enumerate (da_cons (dv 2) da_nil)) (pg_tup (by rfl) (dg_cons (i := 4) sc_runs_wrong.nd rfl (by mconstructor) (dg_cons (i := 5) sc_runs_wrong.nd rfl (by mconstructor) dg_nil))) (bodyE_ok fun p => body_ok (ps_set (i := 6) sc_runs_wrong.nd rfl (by mconstructor) (dm_call (ok_run_wrong T) (rm hr) (passW_of tk) (by rfl) T.g_run_wrong T.F_run_wrong.kp T.b_run_wrong (da_cons (dv 0) (da_cons (dv 1) (da_cons (dv 4) (da_cons (dv 5) da_nil)))))) (ps_if (dt_notN (dv 6)) (pss_one (ps_ret (dv 6))) pss_nil) (ps_asg (dv 5) (pg_tup (by rfl) (dg_cons (i := 7) sc_runs_wrong.nd rfl (by mconstructor) (dg_cons (i := 8) sc_runs_wrong.nd rfl (by mconstructor) dg_nil)))) (ps_if (dt_gt (dv 8) dm_int) (pss_cons (ps_if (pt_cmp (pc_dnotD (hu64 hr) (pv 7) (pv 3))) (pss_one (ps_dputD (hu64 hr) (pv 3) (pv 7) (dm_call (ok_repeats_alike T) (rm hr) (passW_of tk) (by rfl) T.g_repeats_alike T.F_repeats_alike.kp T.b_repeats_alike (da_cons (dv 0) (da_cons (dv 7) da_nil))) (by rfl))) pss_nil) (pss_one (ps_if (pt_not (pt_val (pe_dgetD (hu64 hr) (pv 3) (pv 7) (by exact fun _ _ => rfl)))) (pss_one (ps_ret (dm_tup (da_cons dm_str (da_cons (dv 4) da_nil))))) pss_nil))) pss_nil)))
    (pss_one (ps_ret dm_non)))))
theorem ok_need_runs (T : Txt K mg) : FnOk P w K mg base (L2.CX P w) 7 T.f_need_runs T.d_need_runs ["persons", "posts", "row"] (spD K 3 m_need_runs) :=
  fun_ok T.F_need_runs sc_need_runs (by decide) fun cdv A outer s H E hr tk hp =>
    (ds_one (dn_if (dt_notN (dm_call (ok_runs_wrong T) (rm hr) (passW_of tk) (by rfl) T.g_runs_wrong T.F_runs_wrong.kp T.b_runs_wrong (da_cons (dv 0) (da_cons (dv 1) (da_cons (dm_frz (dv 2)) da_nil))))) (ds_one (dn_raise (by rfl) tk T.k_NoRow (by decide) (T.mk_NoRow ⟨rfl, rfl⟩ (by rfl)))) ds_nil))
theorem ok_row_wrong (T : Txt K mg) : FnOk P w K mg base (L2.CX P w) 7 T.f_row_wrong T.d_row_wrong ["yard", "thing"] (spD K 2 m_row_wrong) :=
  fun_ok T.F_row_wrong sc_row_wrong (by decide) fun cdv A outer s H E hr tk hp =>
    (ds_cons (dn_expr (dm_call (ok_need_yard T) (rm hr) (passW_of tk) (by rfl) T.g_need_yard T.F_need_yard.kp T.b_need_yard (da_cons (dv 0) da_nil)))
    (ds_cons (dn_unp (is := [2, 3, 4]) (by rfl) (dg_cons (i := 2) sc_row_wrong.nd rfl (by mconstructor) (dg_cons (i := 3) sc_row_wrong.nd rfl (by mconstructor) (dg_cons (i := 4) sc_row_wrong.nd rfl (by mconstructor) dg_nil))) (dv 0))
    (ds_one (dn_ret (dm_call (ok_runs_wrong T) (rm hr) (passW_of tk) (by rfl) T.g_runs_wrong T.F_runs_wrong.kp T.b_runs_wrong (da_cons (dv 3) (da_cons (dv 4) (da_cons (dv 1) da_nil))))))))
theorem ok_done (T : Txt K mg) : FnOk P w K mg base (L2.CX P w) 9 T.f_done T.d_done ["yard", "standing", "row"] (spD K 3 m_done) :=
  fun_ok T.F_done sc_done (by decide) fun cdv A outer s H E hr tk hp =>
    (ds_cons (dn_expr (dm_call (ok_need_standing T) (rm hr) (passW_of tk) (by rfl) T.g_need_standing T.F_need_standing.kp T.b_need_standing (da_cons (dv 0) (da_cons (dv 1) da_nil))))
    (ds_cons (dn_unp (is := [3, 4, 5]) (by rfl) (dg_cons (i := 3) sc_done.nd rfl (by mconstructor) (dg_cons (i := 4) sc_done.nd rfl (by mconstructor) (dg_cons (i := 5) sc_done.nd rfl (by mconstructor) dg_nil))) (dv 0))
    (ds_cons (dn_expr (dm_call (ok_need_runs T) (rm hr) (passW_of tk) (by rfl) T.g_need_runs T.F_need_runs.kp T.b_need_runs (da_cons (dv 4) (da_cons (dv 5) (da_cons (dm_frz (dv 2)) da_nil)))))
    (ds_one (dn_ret (dm_callTy (call_tuple_of) (cd_tup) (by rfl) T.z_tuple bb_tuple (da_cons (dm_call (ok_points_after_row T) (rm hr) (passW_of tk) (by rfl) T.g_points_after_row T.F_points_after_row.kp T.b_points_after_row (da_cons (dv 3) (da_cons (dm_call (ok_plain_points T) (rm hr) (passW_of tk) (by rfl) T.g_plain_points T.F_plain_points.kp T.b_plain_points (da_cons (dv 1) da_nil)) (da_cons (dm_frz (dv 2)) da_nil)))) da_nil)))))))
theorem ok__law_mixed (T : Txt K mg) : FnOk P w K mg base (L2.CX P w) 1 T.f__law_mixed T.d__law_mixed ["cell", "k"] (spD K 2 m__law_mixed) :=
  fun_ok T.F__law_mixed sc__law_mixed (by decide) fun cdv A outer s H E hr tk hp =>
    (ds_cons (dn_set (i := 2) sc__law_mixed.nd rfl (by mconstructor) (dm_mod (dm_add (dm_add (dm_mul (dm_mod (dv 0) dm_int) dm_int) (dm_mul (dv 1) dm_int)) dm_int) dm_int))
    (ds_cons (dn_set (i := 2) sc__law_mixed.nd rfl (by mconstructor) (dm_mod (dm_mul (dv 2) (dv 2)) dm_int))
    (ds_one (dn_ret (dm_div (dm_mod (dm_mul (dv 2) (dv 2)) dm_int) dm_int)))))
theorem ok__law_pile (T : Txt K mg) : FnOk P w K mg base (L2.CX P w) 1 T.f__law_pile T.d__law_pile ["script", "k"] (spD K 2 m__law_pile) :=
  fun_ok T.F__law_pile sc__law_pile (by decide) fun cdv A outer s H E hr tk hp =>
    (ds_cons (dn_set (i := 2) sc__law_pile.nd rfl (by mconstructor) dm_int)
    (ds_cons (dn_if (dt_lt (dv 1) (dm_callB (call_len_seq.or call_len_str) (cd_len) (by rfl) T.z_len bb_len (da_cons (dv 0) da_nil))) (ds_one (dn_set (i := 2) sc__law_pile.nd rfl (by mconstructor) (dm_ix (dv 0) (dv 1)))) ds_nil)
    (ds_cons (dn_set (i := 3) sc__law_pile.nd rfl (by mconstructor) (dm_ix (dm_lst (da_cons dm_int (da_cons (dm_mod (dv 2) (dm_mul (dm_mul (dm_pow dm_int dm_int) (dm_pow dm_int dm_int)) (dm_pow dm_int dm_int))) da_nil))) (dm_callTy (call_int1) (cd_int) (by rfl) T.z_int bb_int (da_cons (dm_ge (dm_callB (call_abs) (cd_abs) (by rfl) T.z_abs bb_abs (da_cons (dv 2) da_nil)) (dm_pow dm_int dm_int)) da_nil))))
    (ds_one (dn_ret (dm_lst (da_cons (dv 3) (da_cons (dm_mod (dv 2) dm_int) (da_cons (dm_mul dm_int (dv 1)) (da_cons (dm_lt (dv 1) dm_int) da_nil))))))))))
theorem ok__law_take (T : Txt K mg) : FnOk P w K mg base (L2.CX P w) 2 T.f__law_take T.d__law_take ["pile", "many"] (spD K 2 m__law_take) :=
  fun_ok T.F__law_take sc__law_take (by decide) fun cdv A outer s H E hr tk hp =>
    (ds_cons (dn_if (dt_in (dm_ix (dv 0) dm_int) (dm_lst (da_cons dm_int (da_cons (dm_neg dm_int) da_nil)))) (ds_cons (dn_setIx (k := 0) (pv 0) dm_int (dm_add (dm_ix (dv 0) dm_int) dm_int))
    (ds_one (dn_ret (dm_mod (dm_call (ok__law_mixed T) (rm hr) (passW_of tk) (by rfl) T.g__law_mixed T.F__law_mixed.kp T.b__law_mixed (da_cons (dm_ix (dv 0) dm_int) (da_cons (dm_ix (dv 0) dm_int) da_nil))) (dv 1))))) ds_nil)
    (ds_cons (dn_set (i := 2) sc__law_take.nd rfl (by mconstructor) (dm_mod (dm_ix (dv 0) dm_int) (dv 1)))
    (ds_cons (dn_setIx (k := 0) (pv 0) dm_int (dm_div (dm_ix (dv 0) dm_int) (dv 1)))
    (ds_one (dn_ret (dv 2))))))
theorem ok__law_great (T : Txt K mg) : FnOk P w K mg base (L2.CX P w) 3 T.f__law_great T.d__law_great ["pile"] (spD K 1 m__law_great) :=
  fun_ok T.F__law_great sc__law_great (by decide) fun cdv A outer s H E hr tk hp =>
    (ds_one (dn_ret (dm_add (dm_mul (dm_call (ok__law_take T) (rm hr) (passW_of tk) (by rfl) T.g__law_take T.F__law_take.kp T.b__law_take (da_cons (dv 0) (da_cons (dm_pow dm_int dm_int) da_nil))) (dm_pow dm_int dm_int)) (dm_call (ok__law_take T) (rm hr) (passW_of tk) (by rfl) T.g__law_take T.F__law_take.kp T.b__law_take (da_cons (dv 0) (da_cons (dm_pow dm_int dm_int) da_nil))))))
theorem ok__law_number (T : Txt K mg) : FnOk P w K mg base (L2.CX P w) 4 T.f__law_number T.d__law_number ["pile"] (spD K 1 m__law_number) :=
  fun_ok T.F__law_number sc__law_number (by decide) fun cdv A outer s H E hr tk hp =>
    (ds_cons (dn_if ((dw_and (dt_val (dm_ix (dv 0) dm_int)) (dw_and1 (dt_eq (hu64 hr) (dm_call (ok__law_take T) (rm hr) (passW_of tk) (by rfl) T.g__law_take T.F__law_take.kp T.b__law_take (da_cons (dv 0) (da_cons dm_int da_nil))) dm_int)))).pt (ds_one (dn_ret (dm_mul (dm_call (ok__law_great T) (rm hr) (passW_of tk) (by rfl) T.g__law_great T.F__law_great.kp T.b__law_great (da_cons (dv 0) da_nil)) (dm_sub dm_int (dm_mul dm_int (dm_call (ok__law_take T) (rm hr) (passW_of tk) (by rfl) T.g__law_take T.F__law_take.kp T.b__law_take (da_cons (dv 0) (da_cons dm_int da_nil)))))))) ds_nil)
    (ds_one (dn_ret (dm_sub (dm_call (ok__law_take T) (rm hr) (passW_of tk) (by rfl) T.g__law_take T.F__law_take.kp T.b__law_take (da_cons (dv 0) (da_cons dm_int da_nil))) dm_int))))
theorem ok__law_ways (T : Txt K mg) : FnOk P w K mg base (L2.CX P w) 4 T.f__law_ways T.d__law_ways ["pile", "upto"] (spD K 2 m__law_ways) :=
  fun_ok T.F__law_ways sc__law_ways (by decide) fun cdv A outer s H E hr tk hp =>
    (ds_cons (dn_set (i := 2) sc__law_ways.nd rfl (by mconstructor) (dm_lst da_nil))
    (ds_cons (dn_for hp (by rfl) (di_rng1 (by rfl) T.z_range (da_cons (dm_add dm_int (dm_call (ok__law_take T) (rm hr) (passW_of tk) (by rfl) T.g__law_take T.F__law_take.kp T.b__law_take (da_cons (dv 0) (da_cons (dv 1) da_nil)))) da_nil)) (dg_name (i := 3) sc__law_ways.nd rfl (by mconstructor)) (ds_cons (dn_set (i := 4) sc__law_ways.nd rfl (by mconstructor) (dm_call (ok__law_take T) (rm hr) (passW_of tk) (by rfl) T.g__law_take T.F__law_take.kp T.b__law_take (da_cons (dv 0) (da_cons dm_int da_nil))))
    (ds_cons (dn_set (i := 5) sc__law_ways.nd rfl (by mconstructor) (dm_ix (dm_lst (da_cons dm_int (da_cons (dm_add dm_int (dm_call (ok__law_take T) (rm hr) (passW_of tk) (by rfl) T.g__law_take T.F__law_take.kp T.b__law_take (da_cons (dv 0) (da_cons dm_int da_nil)))) (da_cons (dm_add dm_int (dm_call (ok__law_take T) (rm hr) (passW_of tk) (by rfl) T.g__law_take T.F__law_take.kp T.b__law_take (da_cons (dv 0) (da_cons dm_int da_nil)))) da_nil)))) (dm_ix (dm_lst (da_cons dm_int (da_cons dm_int (da_cons dm_int da_nil)))) (dm_mod (dv 4) dm_int))))
    (ds_one (dn_app (pe_bm PySem.F.plainAttrs_list PySem.F.slot_list_append PySem.F.type_list_append mt_append (pv 2) (pa_cons (dm_ix (dm_lst (da_cons (dv 5) (da_cons (dm_add dm_int (dm_call (ok__law_great T) (rm hr) (passW_of tk) (by rfl) T.g__law_great T.F__law_great.kp T.b__law_great (da_cons (dv 0) da_nil))) da_nil))) (dm_callTy (call_int1) (cd_int) (by rfl) T.z_int bb_int (da_cons (dm_and (dm_ix (dv 0) dm_int) (dm_one (dm_eq (hu64 hr) (dv 4) dm_int))) da_nil))) pa_nil)))))))
    (ds_one (dn_ret (dm_callTy (call_tuple_of) (cd_tup) (by rfl) T.z_tuple bb_tuple (da_cons (dv 2) da_nil))))))
theorem ok__law_vector (T : Txt K mg) : FnOk P w K mg base (L2.CX P w) 5 T.f__law_vector T.d__law_vector ["pile", "ways"] (spD K 2 m__law_vector) :=
  fun_ok T.F__law_vector sc__law_vector (by decide) fun cdv A outer s H E hr tk hp =>
    (ds_one (dn_ret (dm_callTy (call_tuple_of) (cd_tup) (by rfl) T.z_tuple bb_tuple (da_cons (dm_lc (by rfl) sc__law_vector.nd (di_seq (dv 1)) (blkOk_by (own := [("size", 2)]) (by mpure_intro)) (tgd_name (i := 2) (by decide)) (fun _ _ _ _ _ => (pg_name (i := 2) sc__law_vector.nd (by rfl) (by mconstructor))) (fun _ _ _ _ _ => dts_nil) (fun _ _ _ _ _ => (dm_call (ok__law_number T) (rm hr) passW_none (by rfl) T.g__law_number T.F__law_number.kp T.b__law_number (da_cons (dv 0) da_nil)))) da_nil))))
theorem ok__law_put (T : Txt K mg) : FnOk P w K mg base (L2.CX P w) 1 T.f__law_put T.d__law_put ["one", "other", "times"] (spD K 3 m__law_put) :=
  fun_ok T.F__law_put sc__law_put (by decide) fun cdv A outer s H E hr tk hp =>
    (ds_one (dn_ret (dm_callTy (call_tuple_of) (cd_tup) (by rfl) T.z_tuple bb_tuple (da_cons (dm_lc (by rfl) sc__law_put.nd (di_zip2 (by rfl) T.z_zip (da_cons (dv 0) (da_cons (dv 1) da_nil))) (blkOk_by (own := [("here", 3), ("more", 4)]) (by mpure_intro)) (tgd_tup (is := [3, 4]) (by decide)) (fun _ _ _ _ _ => (pg_tup (by rfl) (dg_cons (i := 3) sc__law_put.nd (by rfl) (by mconstructor) (dg_cons (i := 4) sc__law_put.nd (by rfl) (by mconstructor) dg_nil)))) (fun _ _ _ _ _ => dts_nil) (fun _ _ _ _ _ => (dm_add (dv 3) (dm_mul (dv 2) (dv 4))))) da_nil))))
theorem ok__law_round (T : Txt K mg) : FnOk P w K mg base (L2.CX P w) 1 T.f__law_round T.d__law_round ["ways", "vector"] (spD K 2 m__law_round) :=
  fun_ok T.F__law_round sc__law_round (by decide) fun cdv A outer s H E hr tk hp =>
    (ds_one (dn_ret (dm_callTy (call_tuple_of) (cd_tup) (by rfl) T.z_tuple bb_tuple (da_cons (dm_lc (by rfl) sc__law_round.nd (di_zip2 (by rfl) T.z_zip (da_cons (dv 0) (da_cons (dv 1) da_nil))) (blkOk_by (own := [("size", 2), ("number", 3)]) (by mpure_intro)) (tgd_tup (is := [2, 3]) (by decide)) (fun _ _ _ _ _ => (pg_tup (by rfl) (dg_cons (i := 2) sc__law_round.nd (by rfl) (by mconstructor) (dg_cons (i := 3) sc__law_round.nd (by rfl) (by mconstructor) dg_nil)))) (fun _ _ _ _ _ => dts_nil) (fun _ _ _ _ _ => (dm_ix (dm_lst (da_cons (dv 3) (da_cons (dm_mod (dv 3) (dm_callB ((call_maxT rfl).or (call_max2 rfl)) (cd_maxT) (by rfl) T.z_max bb_max (da_cons (dv 2) (da_cons dm_int da_nil)))) da_nil))) (dm_callTy (call_int1) (cd_int) (by rfl) T.z_int bb_int (da_cons (dm_gt (dv 2) dm_int) da_nil))))) da_nil))))
theorem ok__law_standing (T : Txt K mg) : FnOk P w K mg base (L2.CX P w) 6 T.f__law_standing T.d__law_standing ["pile", "ways", "persons"] (spD K 3 m__law_standing) :=
  fun_ok T.F__law_standing sc__law_standing (by decide) fun cdv A outer s H E hr tk hp =>
    (ds_cons (dn_set (i := 3) sc__law_standing.nd rfl (by mconstructor) (dm_call (ok__law_vector T) (rm hr) (passW_of tk) (by rfl) T.g__law_vector T.F__law_vector.kp T.b__law_vector (da_cons (dv 0) (da_cons (dv 1) da_nil))))
    (ds_cons (dn_setLc (i := 4) (by rfl) sc__law_standing.nd rfl rfl (sw_true rfl rfl rfl (by decide +kernel)) (di_rng1 (by rfl) T.z_range (da_cons (dm_add dm_int (dm_call (ok__law_take T) (rm hr) (passW_of tk) (by rfl) T.g__law_take T.F__law_take.kp T.b__law_take (da_cons (dv 0) (da_cons (dm_callB (call_len_seq.or call_len_str) (cd_len) (by rfl) T.z_len bb_len (da_cons (dv 1) da_nil)) da_nil)))) da_nil)) (blkOk_by (own := [("k", 10)]) (by mpure_intro)) (tgd_name (i := 10) (by decide)) (fun _ _ _ _ _ => (pg_name (i := 10) sc__law_standing.nd (by rfl) (by mconstructor))) (fun _ _ _ _ _ => dts_nil) (fun _ _ _ _ _ => (dm_call (ok__law_vector T) (rm hr) passW_none (by rfl) T.g__law_vector T.F__law_vector.kp T.b__law_vector (da_cons (dv 0) (da_cons (dv 1) da_nil)))))
    (ds_cons (dn_set (i := 5) sc__law_standing.nd rfl (by mconstructor) (dm_call (ok__law_take T) (rm hr) (passW_of tk) (by rfl) T.g__law_take T.F__law_take.kp T.b__law_take (da_cons (dv 0) (da_cons dm_int da_nil))))
    (ds_cons (dn_set (i := 6) sc__law_standing.nd rfl (by mconstructor) (dm_lst da_nil))
    (ds_cons (dn_for hp (by rfl) (di_rng1 (by rfl) T.z_range (da_cons (dv 2) da_nil)) (dg_name (i := 7) sc__law_standing.nd rfl (by mconstructor)) (ds_cons (dn_set (i := 8) sc__law_standing.nd rfl (by mconstructor) (dv 3))
    (ds_cons (dn_for hp (by rfl) (di_seq (dv 4)) (dg_name (i := 9) sc__law_standing.nd rfl (by mconstructor)) (ds_one (dn_set (i := 8) sc__law_standing.nd rfl (by mconstructor) (dm_call (ok__law_put T) (rm hr) (passW_of tk) (by rfl) T.g__law_put T.F__law_put.kp T.b__law_put (da_cons (dv 8) (da_cons (dv 9) (da_cons (dm_mul (dm_sub (dm_call (ok__law_take T) (rm hr) (passW_of tk) (by rfl) T.g__law_take T.F__law_take.kp T.b__law_take (da_cons (dv 0) (da_cons dm_int da_nil))) dm_int) (dm_ix (dm_lst (da_cons dm_int (da_cons dm_int (da_cons dm_int da_nil)))) (dv 5))) da_nil)))))))
    (ds_cons (dn_if (dt_eq (hu64 hr) (dv 5) dm_int) (ds_one (dn_set (i := 8) sc__law_standing.nd rfl (by mconstructor) (dm_call (ok__law_vector T) (rm hr) (passW_of tk) (by rfl) T.g__law_vector T.F__law_vector.kp T.b__law_vector (da_cons (dv 0) (da_cons (dv 1) da_nil))))) ds_nil)
    (ds_one (dn_app (pe_bm PySem.F.plainAttrs_list PySem.F.slot_list_append PySem.F.type_list_append mt_append (pv 6) (pa_cons (dm_call (ok__law_round T) (rm hr) (passW_of tk) (by rfl) T.g__law_round T.F__law_round.kp T.b__law_round (da_cons (dv 1) (da_cons (dv 8) da_nil))) pa_nil))))))))
    (ds_one (dn_ret (dm_callTy (call_tuple_of) (cd_tup) (by rfl) T.z_tuple bb_tuple (da_cons (dv 6) da_nil)))))))))
theorem ok__law_leap (T : Txt K mg) : FnOk P w K mg base (L2.CX P w) 3 T.f__law_leap T.d__law_leap ["pile", "yard"] (spD K 2 m__law_leap) :=
  fun_ok T.F__law_leap sc__law_leap (by decide) fun cdv A outer s H E hr tk hp =>
    (ds_cons (dn_setLc (i := 2) (by rfl) sc__law_leap.nd rfl rfl (sw_true rfl rfl rfl (by decide +kernel)) (di_rng1 (by rfl) T.z_range (da_cons (dm_ix (dv 1) dm_int) da_nil)) (blkOk_by (own := [("person", 3)]) (by mpure_intro)) (tgd_name (i := 3) (by decide)) (fun _ _ _ _ _ => (pg_name (i := 3) sc__law_leap.nd (by rfl) (by mconstructor))) (fun _ _ _ _ _ => (dts_one (dt_notIn (dv 3) (dm_ix (dv 1) dm_int)))) (fun _ _ _ _ _ => (dv 3)))
    (ds_cons (dn_set (i := 3) sc__law_leap.nd rfl (by mconstructor) (dm_ix (dv 2) (dm_call (ok__law_take T) (rm hr) (passW_of tk) (by rfl) T.g__law_take T.F__law_take.kp T.b__law_take (da_cons (dv 0) (da_cons (dm_callB (call_len_seq.or call_len_str) (cd_len) (by rfl) T.z_len bb_len (da_cons (dv 2) da_nil)) da_nil)))))
    (ds_one (dn_ret (dm_tup (da_cons (dv 3) (da_cons (dm_mod (dm_add (dm_add (dv 3) dm_int) (dm_call (ok__law_take T) (rm hr) (passW_of tk) (by rfl) T.g__law_take T.F__law_take.kp T.b__law_take (da_cons (dv 0) (da_cons (dm_sub (dm_ix (dv 1) dm_int) dm_int) da_nil)))) (dm_ix (dv 1) dm_int)) da_nil)))))))
theorem ok__law_places (T : Txt K mg) : FnOk P w K mg base (L2.CX P w) 1 T.f__law_places T.d__law_places ["points", "leaps"] (spD K 2 m__law_places) :=
  fun_ok T.F__law_places sc__law_places (by decide) fun cdv A outer s H E hr tk hp =>
    (ds_cons (dn_setLc (i := 2) (by rfl) sc__law_places.nd rfl rfl (sw_true rfl rfl rfl (by decide +kernel)) (di_seq (dv 0)) (blkOk_by (own := [("point", 5)]) (by mpure_intro)) (tgd_name (i := 5) (by decide)) (fun _ _ _ _ _ => (pg_name (i := 5) sc__law_places.nd (by rfl) (by mconstructor))) (fun _ _ _ _ _ => dts_nil) (fun _ _ _ _ _ => (dm_callTy (call_list_of) (cd_list) (by rfl) T.z_list bb_list (da_cons (dv 5) da_nil))))
    (ds_cons (dn_for hp (by rfl) (di_seq (dv 1)) (dg_tup (is := [3, 4]) (by rfl) (dg_cons (i := 3) sc__law_places.nd rfl (by mconstructor) (dg_cons (i := 4) sc__law_places.nd rfl (by mconstructor) dg_nil))) (ds_one (dn_setIx (k := 2) (pv 2) (dv 3) (dm_lc (by rfl) sc__law_places.nd (di_zip2 (by rfl) T.z_zip (da_cons (dm_ix (dv 2) (dv 3)) (da_cons (dm_ix (dv 2) (dv 4)) da_nil))) (blkOk_by (own := [("here", 6), ("there", 7)]) (by mpure_intro)) (tgd_tup (is := [6, 7]) (by decide)) (fun _ _ _ _ _ => (pg_tup (by rfl) (dg_cons (i := 6) sc__law_places.nd (by rfl) (by mconstructor) (dg_cons (i := 7) sc__law_places.nd (by rfl) (by mconstructor) dg_nil)))) (fun _ _ _ _ _ => dts_nil) (fun _ _ _ _ _ => (dm_sub (dm_mul dm_int (dv 7)) (dv 6)))))))
    (ds_one (dn_ret (dv 2)))))
theorem ok__law_done (T : Txt K mg) : FnOk P w K mg base (L2.CX P w) 2 T.f__law_done T.d__law_done ["ways", "standing", "row"] (spD K 3 m__law_done) :=
  fun_ok T.F__law_done sc__law_done (by decide) fun cdv A outer s H E hr tk hp =>
    (ds_cons (dn_setLc (i := 3) (by rfl) sc__law_done.nd rfl rfl (sw_true rfl rfl rfl (by decide +kernel)) (di_seq (dv 1)) (blkOk_by (own := [("point", 7)]) (by mpure_intro)) (tgd_name (i := 7) (by decide)) (fun _ _ _ _ _ => (pg_name (i := 7) sc__law_done.nd (by rfl) (by mconstructor))) (fun _ _ _ _ _ => dts_nil) (fun _ _ _ _ _ => (dm_callTy (call_list_of) (cd_list) (by rfl) T.z_list bb_list (da_cons (dv 7) da_nil))))
    (ds_cons (dn_for hp (by rfl) (di_seq (dv 2)) (dg_tup (is := [4, 5]) (by rfl) (dg_cons (i := 4) sc__law_done.nd rfl (by mconstructor) (dg_cons (i := 5) sc__law_done.nd rfl (by mconstructor) dg_nil))) (ds_cons (dn_set (i := 6) sc__law_done.nd rfl (by mconstructor) (dm_call (ok__law_places T) (rm hr) (passW_of tk) (by rfl) T.g__law_places T.F__law_places.kp T.b__law_places (da_cons (dm_frz (dv 3)) (da_cons (dv 4) da_nil))))
    (ds_cons (dn_setLc (i := 3) (by rfl) sc__law_done.nd rfl rfl (sw_true rfl rfl rfl (by decide +kernel)) (di_zip2 (by rfl) T.z_zip (da_cons (dv 3) (da_cons (dv 6) da_nil))) (blkOk_by (own := [("one", 8), ("other", 9)]) (by mpure_intro)) (tgd_tup (is := [8, 9]) (by decide)) (fun _ _ _ _ _ => (pg_tup (by rfl) (dg_cons (i := 8) sc__law_done.nd (by rfl) (by mconstructor) (dg_cons (i := 9) sc__law_done.nd (by rfl) (by mconstructor) dg_nil)))) (fun _ _ _ _ _ => dts_nil) (fun _ _ _ _ _ => (dm_call (ok__law_put T) (rm hr) passW_none (by rfl) T.g__law_put T.F__law_put.kp T.b__law_put (da_cons (dv 8) (da_cons (dm_call (ok__law_put T) (rm hr) passW_none (by rfl) T.g__law_put T.F__law_put.kp T.b__law_put (da_cons (dv 9) (da_cons (dv 8) (da_cons (dm_neg dm_int) da_nil)))) (da_cons (dv 5) da_nil))))))
    (ds_one (dn_setLc (i := 3) (by rfl) sc__law_done.nd rfl rfl (sw_true rfl rfl rfl (by decide +kernel)) (di_seq (dv 3)) (blkOk_by (own := [("point", 7)]) (by mpure_intro)) (tgd_name (i := 7) (by decide)) (fun _ _ _ _ _ => (pg_name (i := 7) sc__law_done.nd (by rfl) (by mconstructor))) (fun _ _ _ _ _ => dts_nil) (fun _ _ _ _ _ => (dm_callTy (call_list_of) (cd_list) (by rfl) T.z_list bb_list (da_cons (dm_call (ok__law_round T) (rm hr) passW_none (by rfl) T.g__law_round T.F__law_round.kp T.b__law_round (da_cons (dv 0) (da_cons (dv 7) da_nil))) da_nil))))))))
    (ds_one (dn_ret (dm_callTy (call_tuple_of) (cd_tup) (by rfl) T.z_tuple bb_tuple (da_cons (dm_lc (by rfl) sc__law_done.nd (di_seq (dv 3)) (blkOk_by (own := [("point", 7)]) (by mpure_intro)) (tgd_name (i := 7) (by decide)) (fun _ _ _ _ _ => (pg_name (i := 7) sc__law_done.nd (by rfl) (by mconstructor))) (fun _ _ _ _ _ => dts_nil) (fun _ _ _ _ _ => (dm_callTy (call_tuple_of) (cd_tup) (by rfl) T.z_tuple bb_tuple (da_cons (dv 7) da_nil)))) da_nil))))))
theorem ok__law_steady (T : Txt K mg) : FnOk P w K mg base (L2.CX P w) 2 T.f__law_steady T.d__law_steady ["persons", "leaps"] (spD K 2 m__law_steady) :=
  fun_ok T.F__law_steady sc__law_steady (by decide) fun cdv A outer s H E hr tk hp =>
    (ds_cons (dn_setLc (i := 2) (by rfl) sc__law_steady.nd rfl rfl (sw_true rfl rfl rfl (by decide +kernel)) (di_rng1 (by rfl) T.z_range (da_cons (dv 0) da_nil)) (blkOk_by (own := [("at", 8)]) (by mpure_intro)) (tgd_name (i := 8) (by decide)) (fun _ _ _ _ _ => (pg_name (i := 8) sc__law_steady.nd (by rfl) (by mconstructor))) (fun _ _ _ _ _ => dts_nil) (fun _ _ _ _ _ => (dm_lc (by rfl) sc__law_steady.nd (di_rng1 (by rfl) T.z_range (da_cons (dv 0) da_nil)) (blkOk_by (own := [("k", 9)]) (by mpure_intro)) (tgd_name (i := 9) (by decide)) (fun _ _ _ _ _ => (pg_name (i := 9) sc__law_steady.nd (by rfl) (by mconstructor))) (fun _ _ _ _ _ => dts_nil) (fun _ _ _ _ _ => (dm_callTy (call_int1) (cd_int) (by rfl) T.z_int bb_int (da_cons (dm_eq (hu64 hr) (dv 9) (dv 8)) da_nil))))))
    (ds_cons (dn_set (i := 3) sc__law_steady.nd rfl (by mconstructor) (dm_call (ok__law_places T) (rm hr) (passW_of tk) (by rfl) T.g__law_places T.F__law_places.kp T.b__law_places (da_cons (dm_frz (dv 2)) (da_cons (dv 1) da_nil))))
    (ds_cons (dn_set (i := 4) sc__law_steady.nd rfl (by mconstructor) (dm_call (ok__law_places T) (rm hr) (passW_of tk) (by rfl) T.g__law_places T.F__law_places.kp T.b__law_places (da_cons (dm_frz (dv 3)) (da_cons (dv 1) da_nil))))
    (ds_cons (dn_for hp (by rfl) (di_zip3 (by rfl) T.z_zip (da_cons (dv 2) (da_cons (dv 3) (da_cons (dv 4) da_nil)))) (dg_tup (is := [5, 6, 7]) (by rfl) (dg_cons (i := 5) sc__law_steady.nd rfl (by mconstructor) (dg_cons (i := 6) sc__law_steady.nd rfl (by mconstructor) (dg_cons (i := 7) sc__law_steady.nd rfl (by mconstructor) dg_nil)))) (ds_one (dn_if (dt_ne (hu64 hr) (dm_call (ok__law_put T) (rm hr) (passW_of tk) (by rfl) T.g__law_put T.F__law_put.kp T.b__law_put (da_cons (dv 6) (da_cons (dv 5) (da_cons (dm_neg dm_int) da_nil)))) (dm_call (ok__law_put T) (rm hr) (passW_of tk) (by rfl) T.g__law_put T.F__law_put.kp T.b__law_put (da_cons (dv 7) (da_cons (dv 6) (da_cons (dm_neg dm_int) da_nil))))) (ds_one (dn_ret dm_bl)) ds_nil)))
    (ds_one (dn_ret dm_bl))))))
theorem ok__law_kind (T : Txt K mg) : FnOk P w K mg base (L2.CX P w) 1 T.f__law_kind T.d__law_kind ["e"] (spD K 1 m__law_kind) :=
  fun_ok T.F__law_kind sc__law_kind (by decide) fun cdv A outer s H E hr tk hp =>
    (ds_cons (dn_set (i := 1) sc__law_kind.nd rfl (by mconstructor) (dm_lst (da_cons (dm_callB (call_isX.or call_isi) (cd_isiE T.isi) (by rfl) T.z_isinstance bb_isinstance (da_cons (dv 0) (da_cons (dm_glob (d := .cls 1) (v := .ref T.c_NoYard) (u := .ref T.c_NoYard) (fun _ => is_clsI T.k_NoYard) (by rfl) T.g_NoYard rfl) da_nil))) (da_cons (dm_callB (call_isX.or call_isi) (cd_isiE T.isi) (by rfl) T.z_isinstance bb_isinstance (da_cons (dv 0) (da_cons (dm_glob (d := .cls 2) (v := .ref T.c_NoStanding) (u := .ref T.c_NoStanding) (fun _ => is_clsI T.k_NoStanding) (by rfl) T.g_NoStanding rfl) da_nil))) (da_cons (dm_callB (call_isX.or call_isi) (cd_isiE T.isi) (by rfl) T.z_isinstance bb_isinstance (da_cons (dv 0) (da_cons (dm_glob (d := .cls 3) (v := .ref T.c_NoLeap) (u := .ref T.c_NoLeap) (fun _ => is_clsI T.k_NoLeap) (by rfl) T.g_NoLeap rfl) da_nil))) (da_cons (dm_callB (call_isX.or call_isi) (cd_isiE T.isi) (by rfl) T.z_isinstance bb_isinstance (da_cons (dv 0) (da_cons (dm_glob (d := .cls 4) (v := .ref T.c_NoRow) (u := .ref T.c_NoRow) (fun _ => is_clsI T.k_NoRow) (by rfl) T.g_NoRow rfl) da_nil))) da_nil))))))
    (ds_cons (dn_set (i := 1) sc__law_kind.nd rfl (by mconstructor) (dm_add (dv 1) (dm_lst (da_cons (dm_callB (call_isX.or call_isi) (cd_isiE T.isi) (by rfl) T.z_isinstance bb_isinstance (da_cons (dv 0) (da_cons (dm_glob (d := .cls 5) (v := .ref T.c_NoVector) (u := .ref T.c_NoVector) (fun _ => is_clsI T.k_NoVector) (by rfl) T.g_NoVector rfl) da_nil))) (da_cons (dm_callB (call_isX.or call_isi) (cd_isiE T.isi) (by rfl) T.z_isinstance bb_isinstance (da_cons (dv 0) (da_cons (dm_glob (d := .cls 6) (v := .ref T.c_NoReading) (u := .ref T.c_NoReading) (fun _ => is_clsI T.k_NoReading) (by rfl) T.g_NoReading rfl) da_nil))) (da_cons (dm_callB (call_isX.or call_isi) (cd_isiE T.isi) (by rfl) T.z_isinstance bb_isinstance (da_cons (dv 0) (da_cons (dm_glob (d := .cls 7) (v := .ref T.c_NoWishes) (u := .ref T.c_NoWishes) (fun _ => is_clsI T.k_NoWishes) (by rfl) T.g_NoWishes rfl) da_nil))) (da_cons (dm_callB (call_isX.or call_isi) (cd_isiE T.isi) (by rfl) T.z_isinstance bb_isinstance (da_cons (dv 0) (da_cons (dm_glob (d := .cls 8) (v := .ref T.c_NoCell) (u := .ref T.c_NoCell) (fun _ => is_clsI T.k_NoCell) (by rfl) T.g_NoCell rfl) da_nil))) da_nil)))))))
    (ds_cons (dn_set (i := 1) sc__law_kind.nd rfl (by mconstructor) (dm_add (dv 1) (dm_lst (da_cons (dm_callB (call_isX.or call_isi) (cd_isiE T.isi) (by rfl) T.z_isinstance bb_isinstance (da_cons (dv 0) (da_cons (dm_glob (d := .cls 9) (v := .ref T.c_NoTable) (u := .ref T.c_NoTable) (fun _ => is_clsI T.k_NoTable) (by rfl) T.g_NoTable rfl) da_nil))) (da_cons (dm_callB (call_isX.or call_isi) (cd_isiE T.isi) (by rfl) T.z_isinstance bb_isinstance (da_cons (dv 0) (da_cons (dm_glob (d := .cls 10) (v := .ref T.c_NoNumber) (u := .ref T.c_NoNumber) (fun _ => is_clsI T.k_NoNumber) (by rfl) T.g_NoNumber rfl) da_nil))) (da_cons (dm_callB (call_isX.or call_isi) (cd_isiE T.isi) (by rfl) T.z_isinstance bb_isinstance (da_cons (dv 0) (da_cons (dm_glob (d := .cls 11) (v := .ref T.c_NoPerson) (u := .ref T.c_NoPerson) (fun _ => is_clsI T.k_NoPerson) (by rfl) T.g_NoPerson rfl) da_nil))) (da_cons (dm_callB (call_isX.or call_isi) (cd_isiE T.isi) (by rfl) T.z_isinstance bb_isinstance (da_cons (dv 0) (da_cons (dm_glob (d := .cls 12) (v := .ref T.c_TooMany) (u := .ref T.c_TooMany) (fun _ => is_clsI T.k_TooMany) (by rfl) T.g_TooMany rfl) da_nil))) da_nil)))))))
    (ds_cons (dn_set (i := 2) sc__law_kind.nd rfl (by mconstructor) (dm_lst (da_cons dm_str (da_cons dm_str (da_cons dm_str (da_cons dm_str (da_cons dm_str (da_cons dm_str (da_cons dm_str (da_cons dm_str (da_cons dm_str (da_cons dm_str (da_cons dm_str da_nil)))))))))))))
    (ds_cons (dn_if ((dw_and (dt_notN (dv 0)) (dw_and1 ((dw_or (dt_not (dt_val (dm_callB (call_isX.or call_isi) (cd_isiE T.isi) (by rfl) T.z_isinstance bb_isinstance (da_cons (dv 0) (da_cons (dm_glob (d := .cls 0) (v := .ref T.c_FolkError) (u := .ref T.c_FolkError) (fun _ => is_clsI T.k_FolkError) (by rfl) T.g_FolkError rfl) da_nil))))) (dw_or1 (dt_not (dt_val (dm_callB (call_isX.or call_isi) (cd_isiE T.isi) (by rfl) T.z_isinstance bb_isinstance (da_cons (dv 0) (da_cons (dm_tyName (by rfl) T.z_ValueError bb_ValueError) da_nil)))))))).pt))).pt (ds_one (dn_ret (dm_lst (da_cons dm_str da_nil)))) ds_nil)
    (ds_one (dn_ret (dm_lc (by rfl) sc__law_kind.nd (di_zip2 (by rfl) T.z_zip (da_cons (dm_add (dv 2) (dm_lst (da_cons dm_str da_nil))) (da_cons (dv 1) da_nil))) (blkOk_by (own := [("word", 3), ("truth", 4)]) (by mpure_intro)) (tgd_tup (is := [3, 4]) (by decide)) (fun _ _ _ _ _ => (pg_tup (by rfl) (dg_cons (i := 3) sc__law_kind.nd (by rfl) (by mconstructor) (dg_cons (i := 4) sc__law_kind.nd (by rfl) (by mconstructor) dg_nil)))) (fun _ _ _ _ _ => (dts_one (dt_val (dv 4)))) (fun _ _ _ _ _ => (dv 3))))))))))
theorem ok__law_some_leaps (T : Txt K mg) : FnOk P w K mg base (L2.CX P w) 4 T.f__law_some_leaps T.d__law_some_leaps ["pile", "yard"] (spD K 2 m__law_some_leaps) :=
  fun_ok T.F__law_some_leaps sc__law_some_leaps (by decide) fun cdv A outer s H E hr tk hp =>
    (ds_cons (dn_set (i := 2) sc__law_some_leaps.nd rfl (by mconstructor) (dm_call (ok__law_take T) (rm hr) (passW_of tk) (by rfl) T.g__law_take T.F__law_take.kp T.b__law_take (da_cons (dv 0) (da_cons dm_int da_nil))))
    (ds_cons (dn_unp (is := [7, 8]) (by rfl) (dg_cons (i := 7) sc__law_some_leaps.nd rfl (by mconstructor) (dg_cons (i := 8) sc__law_some_leaps.nd rfl (by mconstructor) dg_nil)) (dm_call (ok__law_leap T) (rm hr) (passW_of tk) (by rfl) T.g__law_leap T.F__law_leap.kp T.b__law_leap (da_cons (dv 0) (da_cons (dv 1) da_nil))))
    (ds_cons (dn_set (i := 3) sc__law_some_leaps.nd rfl (by mconstructor) (dm_mod (dm_add (dm_add (dv 7) dm_int) (dm_call (ok__law_take T) (rm hr) (passW_of tk) (by rfl) T.g__law_take T.F__law_take.kp T.b__law_take (da_cons (dv 0) (da_cons (dm_sub (dm_ix (dv 1) dm_int) dm_int) da_nil)))) (dm_ix (dv 1) dm_int)))
    (ds_cons (dn_setLc (i := 4) (by rfl) sc__law_some_leaps.nd rfl rfl (sw_true rfl rfl rfl (by decide +kernel)) (di_rng1 (by rfl) T.z_range (da_cons (dm_add dm_int (dm_call (ok__law_take T) (rm hr) (passW_of tk) (by rfl) T.g__law_take T.F__law_take.kp T.b__law_take (da_cons (dv 0) (da_cons dm_int da_nil)))) da_nil)) (blkOk_by (own := [("k", 6)]) (by mpure_intro)) (tgd_name (i := 6) (by decide)) (fun _ _ _ _ _ => (pg_name (i := 6) sc__law_some_leaps.nd (by rfl) (by mconstructor))) (fun _ _ _ _ _ => dts_nil) (fun _ _ _ _ _ => (dm_call (ok__law_leap T) (rm hr) passW_none (by rfl) T.g__law_leap T.F__law_leap.kp T.b__law_leap (da_cons (dv 0) (da_cons (dv 1) da_nil)))))
    (ds_cons (dn_if (dt_eq (hu64 hr) (dv 2) dm_int) (ds_one (dn_ret (dm_callTy (call_tuple_of) (cd_tup) (by rfl) T.z_tuple bb_tuple (da_cons (dv 4) da_nil)))) ds_nil)
    (ds_cons (dn_if (dt_eq (hu64 hr) (dv 2) dm_int) (ds_one (dn_ret (dm_callTy (call_tuple_of) (cd_tup) (by rfl) T.z_tuple bb_tuple (da_cons (dm_add (dv 4) (dm_rev (dv 4))) da_nil)))) ds_nil)
    (ds_cons (dn_if ((dw_and (dt_eq (hu64 hr) (dv 2) dm_int) (dw_and1 (dt_notIn (dv 8) (dm_ix (dv 1) dm_int))))).pt (ds_one (dn_ret (dm_tup (da_cons (dm_tup (da_cons (dv 7) (da_cons (dv 8) da_nil))) (da_cons (dm_tup (da_cons (dv 8) (da_cons (dv 7) da_nil))) da_nil))))) ds_nil)
    (ds_cons (dn_if (dt_eq (hu64 hr) (dv 2) dm_int) (ds_one (dn_ret (dm_mulT (dm_tup (da_cons (dm_tup (da_cons (dv 7) (da_cons (dv 8) da_nil))) (da_cons (dm_tup (da_cons (dv 7) (da_cons (dv 3) da_nil))) da_nil))) (dm_add dm_int (dm_call (ok__law_take T) (rm hr) (passW_of tk) (by rfl) T.g__law_take T.F__law_take.kp T.b__law_take (da_cons (dv 0) (da_cons dm_int da_nil))))))) ds_nil)
    (ds_cons (dn_if (dt_eq (hu64 hr) (dv 2) dm_int) (ds_one (dn_ret (dm_callTy (call_tuple_of) (cd_tup) (by rfl) T.z_tuple bb_tuple (da_cons (dm_add (dm_add (dv 4) (dm_lst (da_cons (dm_tup (da_cons (dv 7) (da_cons (dv 8) da_nil))) (da_cons (dm_tup (da_cons (dv 7) (da_cons (dv 3) da_nil))) da_nil)))) (dm_rev (dv 4))) da_nil)))) ds_nil)
    (ds_cons (dn_if (dt_eq (hu64 hr) (dv 2) dm_int) (ds_one (dn_ret (dm_callTy (call_tuple_of) (cd_tup) (by rfl) T.z_tuple bb_tuple (da_cons (dm_lc (by rfl) sc__law_some_leaps.nd (di_rng1 (by rfl) T.z_range (da_cons (dm_add dm_int (dm_call (ok__law_take T) (rm hr) (passW_of tk) (by rfl) T.g__law_take T.F__law_take.kp T.b__law_take (da_cons (dv 0) (da_cons dm_int da_nil)))) da_nil)) (blkOk_by (own := [("k", 6)]) (by mpure_intro)) (tgd_name (i := 6) (by decide)) (fun _ _ _ _ _ => (pg_name (i := 6) sc__law_some_leaps.nd (by rfl) (by mconstructor))) (fun _ _ _ _ _ => dts_nil) (fun _ _ _ _ _ => (dm_tup (da_cons (dv 7) (da_cons (dm_ix (dm_lst (da_cons (dv 8) (da_cons (dv 3) da_nil))) (dm_mod (dv 6) dm_int)) da_nil))))) da_nil)))) ds_nil)
    (ds_cons (dn_if (dt_eq (hu64 hr) (dv 2) dm_int) (ds_one (dn_ret (dm_callTy (call_tuple_of) (cd_tup) (by rfl) T.z_tuple bb_tuple (da_cons (dm_lc (by rfl) sc__law_some_leaps.nd (di_rng1 (by rfl) T.z_range (da_cons (dm_add dm_int (dm_call (ok__law_take T) (rm hr) (passW_of tk) (by rfl) T.g__law_take T.F__law_take.kp T.b__law_take (da_cons (dv 0) (da_cons dm_int da_nil)))) da_nil)) (blkOk_by (own := [("k", 6)]) (by mpure_intro)) (tgd_name (i := 6) (by decide)) (fun _ _ _ _ _ => (pg_name (i := 6) sc__law_some_leaps.nd (by rfl) (by mconstructor))) (fun _ _ _ _ _ => dts_nil) (fun _ _ _ _ _ => (dm_call (ok__law_leap T) (rm hr) passW_none (by rfl) T.g__law_leap T.F__law_leap.kp T.b__law_leap (da_cons (dv 0) (da_cons (dv 1) da_nil))))) da_nil)))) ds_nil)
    (ds_cons (dn_set (i := 5) sc__law_some_leaps.nd rfl (by mconstructor) (dm_lst da_nil))
    (ds_cons (dn_for hp (by rfl) (di_rng1 (by rfl) T.z_range (da_cons (dm_add dm_int (dm_call (ok__law_take T) (rm hr) (passW_of tk) (by rfl) T.g__law_take T.F__law_take.kp T.b__law_take (da_cons (dv 0) (da_cons dm_int da_nil)))) da_nil)) (dg_name (i := 6) sc__law_some_leaps.nd rfl (by mconstructor)) (ds_one (dn_app (pe_bm PySem.F.plainAttrs_list PySem.F.slot_list_append PySem.F.type_list_append mt_append (pv 5) (pa_cons (dm_tup (da_cons (dv 7) (da_cons (dm_mod (dm_add (dm_add (dv 7) dm_int) (dm_call (ok__law_take T) (rm hr) (passW_of tk) (by rfl) T.g__law_take T.F__law_take.kp T.b__law_take (da_cons (dv 0) (da_cons (dm_sub (dm_ix (dv 1) dm_int) dm_int) da_nil)))) (dm_ix (dv 1) dm_int)) da_nil))) pa_nil)))))
    (ds_one (dn_ret (dm_callTy (call_tuple_of) (cd_tup) (by rfl) T.z_tuple bb_tuple (da_cons (dv 5) da_nil)))))))))))))))))
theorem ok__law_caught (T : Txt K mg) : FnOk P w K mg base (L2.CX P w) 6 T.f__law_caught T.d__law_caught ["persons", "leaps"] (spD K 2 m__law_caught) :=
  fun_ok T.F__law_caught sc__law_caught (by decide) fun cdv A outer s H E hr tk hp =>
    (ds_cons (dn_set (i := 2) sc__law_caught.nd rfl (by mconstructor) dm_non)
    (ds_cons (dn_try (cl := CL) (k := 0) (i := 3) rfl rfl rfl sc__law_caught.nd rfl rfl ⟨rfl, by decide, .inl T.g_FolkError⟩ tk T.exm_FolkError (fun W2 pn xe tk2 hp2 => (ds_one (dn_expr (dm_call (ok_is_steady T) (rm hr) (passW_of tk2) (by rfl) T.g_is_steady T.F_is_steady.kp T.b_is_steady (da_cons (dv 0) (da_cons (dv 1) da_nil)))))) (fun a pn => (ds_one (dn_set (i := 2) sc__law_caught.nd rfl (by mconstructor) (dv 3)))))
    (ds_one (dn_ret (dm_call (ok__law_kind T) (rm hr) (passW_of tk) (by rfl) T.g__law_kind T.F__law_kind.kp T.b__law_kind (da_cons (dv 2) da_nil))))))
theorem ok__law_refused (T : Txt K mg) : FnOk P w K mg base (L2.CX P w) 7 T.f__law_refused T.d__law_refused ["pile", "persons", "leaps"] (spD K 3 m__law_refused) :=
  fun_ok T.F__law_refused sc__law_refused (by decide) fun cdv A outer s H E hr tk hp =>
    (ds_cons (dn_for hp (by rfl) (di_seq (dm_lst (da_cons dm_int (da_cons dm_int (da_cons dm_int (da_cons dm_bl (da_cons dm_non (da_cons dm_str (da_cons (dm_sub dm_int (dv 1)) (da_cons (dm_pow dm_int dm_int) da_nil)))))))))) (dg_name (i := 3) sc__law_refused.nd rfl (by mconstructor)) (ds_one (dn_if (dt_ne (hu64 hr) (dm_call (ok__law_caught T) (rm hr) (passW_of tk) (by rfl) T.g__law_caught T.F__law_caught.kp T.b__law_caught (da_cons (dv 3) (da_cons (dv 2) da_nil))) (dm_lst (da_cons dm_str da_nil))) (ds_one (dn_ret dm_bl)) ds_nil)))
    (ds_cons (dn_unp (is := [6, 7]) (by rfl) (dg_cons (i := 6) sc__law_refused.nd rfl (by mconstructor) (dg_cons (i := 7) sc__law_refused.nd rfl (by mconstructor) dg_nil)) (dm_ix (dv 2) dm_int))
    (ds_cons (dn_set (i := 4) sc__law_refused.nd rfl (by mconstructor) (dm_lst (da_cons (dm_tup (da_cons (dv 6) (da_cons (dv 6) da_nil))) (da_cons (dm_tup (da_cons (dv 6) (da_cons (dv 1) da_nil))) (da_cons (dm_lst (da_cons (dv 6) (da_cons (dv 7) da_nil))) (da_cons (dm_tup (da_cons (dm_sub dm_int dm_int) (da_cons (dv 7) da_nil))) (da_cons (dm_tup (da_cons dm_bl (da_cons dm_int da_nil))) (da_cons dm_non (da_cons (dv 2) da_nil)))))))))
    (ds_cons (dn_set (i := 4) sc__law_refused.nd rfl (by mconstructor) (dm_add (dv 4) (dm_lst (da_cons (dm_tup (da_cons (dv 1) (da_cons (dv 7) da_nil))) (da_cons (dm_tup (da_cons (dv 1) (da_cons (dm_add (dv 1) dm_int) da_nil))) (da_cons (dm_tup (da_cons (dv 6) (da_cons (dm_sub dm_int dm_int) da_nil))) da_nil))))))
    (ds_cons (dn_set (i := 5) sc__law_refused.nd rfl (by mconstructor) (dm_add (dm_lc (by rfl) sc__law_refused.nd (di_seq (dv 4)) (blkOk_by (own := [("one", 8)]) (by mpure_intro)) (tgd_name (i := 8) (by decide)) (fun _ _ _ _ _ => (pg_name (i := 8) sc__law_refused.nd (by rfl) (by mconstructor))) (fun _ _ _ _ _ => dts_nil) (fun _ _ _ _ _ => (dm_add (dv 2) (dm_tup (da_cons (dv 8) da_nil))))) (dm_lc (by rfl) sc__law_refused.nd (di_seq (dv 4)) (blkOk_by (own := [("one", 8)]) (by mpure_intro)) (tgd_name (i := 8) (by decide)) (fun _ _ _ _ _ => (pg_name (i := 8) sc__law_refused.nd (by rfl) (by mconstructor))) (fun _ _ _ _ _ => dts_nil) (fun _ _ _ _ _ => (dm_add (dm_tup (da_cons (dv 8) da_nil)) (dv 2))))))
    (ds_cons (dn_set (i := 5) sc__law_refused.nd rfl (by mconstructor) (dm_add (dv 5) (dm_lst (da_cons (dm_tup da_nil) (da_cons (dm_callTy (call_list_of) (cd_list) (by rfl) T.z_list bb_list (da_cons (dv 2) da_nil)) (da_cons dm_non (da_cons dm_int (da_cons (dm_mulT (dm_tup (da_cons (dm_ix (dv 2) dm_int) da_nil)) dm_int) (da_cons (dm_tup (da_cons (dv 2) da_nil)) (da_cons (dm_tup (da_cons (dv 6) (da_cons (dv 7) da_nil))) da_nil))))))))))
    (ds_one (dn_ret (dm_eq (hu64 hr) (dm_lc (by rfl) sc__law_refused.nd (di_seq (dv 5)) (blkOk_by (own := [("thing", 9)]) (by mpure_intro)) (tgd_name (i := 9) (by decide)) (fun _ _ _ _ _ => (pg_name (i := 9) sc__law_refused.nd (by rfl) (by mconstructor))) (fun _ _ _ _ _ => (dts_one (dt_ne (hu64 hr) (dm_call (ok__law_caught T) (rm hr) passW_none (by rfl) T.g__law_caught T.F__law_caught.kp T.b__law_caught (da_cons (dv 1) (da_cons (dv 9) da_nil))) (dm_lst (da_cons dm_str da_nil))))) (fun _ _ _ _ _ => (dv 9))) (dm_lst da_nil))))))))))
theorem ok_law (T : Txt K mg) : FnOk P w K mg base (L2.CX P w) 10 T.f_law T.d_law ["script"] (spD K 1 m_law) :=
  fun_ok T.F_law sc_law (by decide) fun cdv A outer s H E hr tk hp =>
    (ds_cons (dn_for hp (by rfl) (di_rng1 (by rfl) T.z_range (da_cons dm_int da_nil)) (dg_name (i := 1) sc_law.nd rfl (by mconstructor)) (ds_cons (dn_set (i := 2) sc_law.nd rfl (by mconstructor) (dm_call (ok__law_pile T) (rm hr) (passW_of tk) (by rfl) T.g__law_pile T.F__law_pile.kp T.b__law_pile (da_cons (dv 0) (da_cons (dv 1) da_nil))))
    (ds_cons (dn_set (i := 3) sc_law.nd rfl (by mconstructor) (dm_tup (da_cons (dm_call (ok__law_ways T) (rm hr) (passW_of tk) (by rfl) T.g__law_ways T.F__law_ways.kp T.b__law_ways (da_cons (dv 2) (da_cons dm_int da_nil))) (da_cons (dm_add dm_int (dm_call (ok__law_take T) (rm hr) (passW_of tk) (by rfl) T.g__law_take T.F__law_take.kp T.b__law_take (da_cons (dv 2) (da_cons dm_int da_nil)))) (da_cons (dm_tup da_nil) da_nil)))))
    (ds_cons (dn_for hp (by rfl) (di_rng1 (by rfl) T.z_range (da_cons dm_int da_nil)) (dg_name (i := 4) sc_law.nd rfl (by mconstructor)) (ds_cons (dn_set (i := 5) sc_law.nd rfl (by mconstructor) (dm_call (ok__law_some_leaps T) (rm hr) (passW_of tk) (by rfl) T.g__law_some_leaps T.F__law_some_leaps.kp T.b__law_some_leaps (da_cons (dv 2) (da_cons (dv 3) da_nil))))
    (ds_cons (dn_set (i := 6) sc_law.nd rfl (by mconstructor) (dm_call (ok__law_steady T) (rm hr) (passW_of tk) (by rfl) T.g__law_steady T.F__law_steady.kp T.b__law_steady (da_cons (dm_ix (dv 3) dm_int) (da_cons (dv 5) da_nil))))
    (ds_cons (dn_set (i := 7) sc_law.nd rfl (by mconstructor) (dm_call (ok_is_steady T) (rm hr) (passW_of tk) (by rfl) T.g_is_steady T.F_is_steady.kp T.b_is_steady (da_cons (dm_ix (dv 3) dm_int) (da_cons (dv 5) da_nil))))
    (ds_cons (dn_if ((dw_or (dt_not (dt_val (dm_callB (call_isX.or call_isi) (cd_isiE T.isi) (by rfl) T.z_isinstance bb_isinstance (da_cons (dv 7) (da_cons (dm_tyName (by rfl) T.z_bool bb_bool) da_nil))))) (dw_or (dt_ne (hu64 hr) (dv 7) (dv 6)) (dw_or1 (dt_ne (hu64 hr) (dm_call (ok_is_steady T) (rm hr) (passW_of tk) (by rfl) T.g_is_steady T.F_is_steady.kp T.b_is_steady (da_cons dm_int (da_cons (dv 5) da_nil))) (dv 6)))))).pt (ds_one (dn_ret dm_bl)) ds_nil)
    (ds_cons (dn_set (i := 8) sc_law.nd rfl (by mconstructor) (dm_sl (dm_mulT (dv 5) dm_int) do_none (do_some dm_int)))
    (ds_cons (dn_if (dt_ne (hu64 hr) (dm_call (ok_is_steady T) (rm hr) (passW_of tk) (by rfl) T.g_is_steady T.F_is_steady.kp T.b_is_steady (da_cons (dm_ix (dv 3) dm_int) (da_cons (dv 8) da_nil))) (dm_call (ok__law_steady T) (rm hr) (passW_of tk) (by rfl) T.g__law_steady T.F__law_steady.kp T.b__law_steady (da_cons (dm_ix (dv 3) dm_int) (da_cons (dv 8) da_nil)))) (ds_one (dn_ret dm_bl)) ds_nil)
    (ds_cons (dn_set (i := 9) sc_law.nd rfl (by mconstructor) (dm_add dm_int (dm_call (ok__law_take T) (rm hr) (passW_of tk) (by rfl) T.g__law_take T.F__law_take.kp T.b__law_take (da_cons (dv 2) (da_cons dm_int da_nil)))))
    (ds_cons (dn_if (dt_ne (hu64 hr) (dm_call (ok_row_wrong T) (rm hr) (passW_of tk) (by rfl) T.g_row_wrong T.F_row_wrong.kp T.b_row_wrong (da_cons (dv 3) (da_cons (dm_lst (da_cons (dm_tup (da_cons (dv 5) (da_cons (dv 9) da_nil))) da_nil)) da_nil))) (dm_ix (dm_lst (da_cons (dm_tup (da_cons dm_str (da_cons dm_int da_nil))) (da_cons dm_non da_nil))) (dm_callTy (call_int1) (cd_int) (by rfl) T.z_int bb_int (da_cons (dv 6) da_nil)))) (ds_one (dn_ret dm_bl)) ds_nil)
    (ds_cons (dn_set (i := 10) sc_law.nd rfl (by mconstructor) (dm_call (ok__law_standing T) (rm hr) (passW_of tk) (by rfl) T.g__law_standing T.F__law_standing.kp T.b__law_standing (da_cons (dv 2) (da_cons (dm_ix (dv 3) dm_int) (da_cons (dm_ix (dv 3) dm_int) da_nil)))))
    (ds_cons (dn_set (i := 11) sc_law.nd rfl (by mconstructor) (dm_call (ok__law_done T) (rm hr) (passW_of tk) (by rfl) T.g__law_done T.F__law_done.kp T.b__law_done (da_cons (dm_ix (dv 3) dm_int) (da_cons (dm_frz (dv 10)) (da_cons (dm_repF (dm_lst (da_cons (dm_tup (da_cons (dv 5) (da_cons dm_int da_nil))) da_nil)) (dv 9)) da_nil)))))
    (ds_one (dn_if ((dw_and (dt_val (dv 6)) (dw_and1 (dt_ne (hu64 hr) (dm_call (ok_done T) (rm hr) (passW_of tk) (by rfl) T.g_done T.F_done.kp T.b_done (da_cons (dv 3) (da_cons (dm_frz (dv 10)) (da_cons (dm_lst (da_cons (dm_tup (da_cons (dv 5) (da_cons (dv 9) da_nil))) da_nil)) da_nil)))) (dv 11))))).pt (ds_one (dn_ret dm_bl)) ds_nil)))))))))))))
    (ds_one (dn_if ((dw_and (dt_lt (dv 1) dm_int) (dw_and1 (dt_not (dt_val (dm_call (ok__law_refused T) (rm hr) (passW_of tk) (by rfl) T.g__law_refused T.F__law_refused.kp T.b__law_refused (da_cons (dv 2) (da_cons (dm_ix (dv 3) dm_int) (da_cons (dv 5) da_nil))))))))).pt (ds_one (dn_ret dm_bl)) ds_nil))))))
    (ds_one (dn_ret dm_bl)))
end
end K4

namespace DL
open PySem L2 PyProof.Rows
section
variable {ρ : Rho} {N B C : Rho → Prop} {R : Rs → Rho → Prop} {E : Exn → Rho → Prop}
theorem wsv {i : Nat} {d : DL.D} (h1 : i < ρ.length) (h2 : isIo ρ[i]? = false) (h : N (ρ.set i (.va d))) : OW (setR i (.va d) ρ) N R B C E := by
  unfold setR; rw [if_pos ⟨h1, h2⟩]; exact h
theorem wsf {i : Nat} {xs : List DL.D} (h1 : i < ρ.length) (h2 : isIo ρ[i]? = false) (h : N (ρ.set i (.ow false xs))) : OW (setR i (.fr xs) ρ) N R B C E := by
  unfold setR; rw [if_pos ⟨h1, h2⟩]; exact h
end
end DL
namespace K4
open PySem L2 PyProof.Rows DL
local macro_rules | `(tactic| mconstructor) => `(tactic| first | exact .inl rfl | exact .inr (.inl rfl) | exact .inr rfl | exact .inr (.inr rfl))
local macro_rules | `(tactic| mpure_intro) => `(tactic| (simp only [cxOf, envOfC, Cx.blk, compEnvC, relab_eq]; decide +kernel))
theorem rng_ok {n : Int} (h0 : 0 ≤ n) (h : n ≤ 1000000) : rngD1 [.int n] = some (rngL 0 n.toNat) := by
  unfold rngD1
  simp only
  rw [if_pos (by unfold big62; omega)]
theorem rng_at {n i : Nat} {d : DL.D} (h : (rngL 0 n)[i]? = some d) : i < n ∧ d = .int i := by
  unfold rngL at h
  rw [List.getElem?_map] at h
  by_cases hi : i < n
  · rw [List.getElem?_range hi] at h
    cases h
    exact ⟨hi, by simp⟩
  · rw [List.getElem?_eq_none (by simp; omega)] at h
    cases h
theorem rng_len {n : Nat} : (rngL 0 n).length = n := by simp [rngL]
theorem ix_ok {xs : List DL.D} {i : Int} {d : DL.D} (h : atI xs i = some d) : ixD (.lst xs) (.int i) = some (.va d) := by
  show (atI xs i).map Rs.va = _
  rw [h]; rfl
theorem ixt_ok {xs : List DL.D} {i : Int} {d : DL.D} (h : atI xs i = some d) : ixD (.tup xs) (.int i) = some (.va d) := by
  show (atI xs i).map Rs.va = _
  rw [h]; rfl
theorem at3 {x y z : DL.D} {i : Int} (h : i = 0 ∨ i = 1 ∨ i = 2) : ∃ d, atI [x, y, z] i = some d ∧ (i = 0 → d = x) ∧ (i = 1 → d = y) ∧ (i = 2 → d = z) := by
  rcases h with rfl | rfl | rfl
  · exact ⟨x, rfl, fun _ => rfl, fun e => by omega, fun e => by omega⟩
  · exact ⟨y, rfl, fun e => by omega, fun _ => rfl, fun e => by omega⟩
  · exact ⟨z, rfl, fun e => by omega, fun e => by omega, fun _ => rfl⟩
theorem at2 {x y : DL.D} (c : Bool) : ∃ d, atI [x, y] (if c = true then 1 else 0) = some d ∧ (c = true → d = y) ∧ (c = false → d = x) := by
  cases c with
  | true => exact ⟨y, rfl, fun _ => rfl, fun e => by cases e⟩
  | false => exact ⟨x, rfl, fun e => (by cases e), fun _ => rfl⟩
theorem upd1_va {rs : List Rs} {as' : List Sl} {i : Nat} {d : DL.D} : upd1 rs as' i (.va d) = .va d := rfl
theorem upd1_un {rs : List Rs} {as' : List Sl} {i : Nat} : upd1 rs as' i .un = .un := rfl
theorem upd1_ow {rs : List Rs} {as' : List Sl} {i : Nat} {io : Bool} {xs : List DL.D} : upd1 rs as' i (.ow io xs) = match pos? rs i with
    | some k => (match as'[k]? with
      | some (.ow true ys) => .ow io ys
      | _ => .ow io xs)
    | none => .ow io xs := rfl
theorem upd1_none {rs : List Rs} {as' : List Sl} {i : Nat} {s : Sl} (h : pos? rs i = none) : upd1 rs as' i s = s := by
  cases s with
  | un => rfl
  | va d => rfl
  | ow io xs => rw [upd1_ow, h]
theorem upd1_v1 {x : DL.D} {as' : List Sl} {i : Nat} {s : Sl} : upd1 [.va x] as' i s = s := upd1_none rfl
theorem upd1_v2 {x y : DL.D} {as' : List Sl} {i : Nat} {s : Sl} : upd1 [.va x, .va y] as' i s = s := upd1_none rfl
theorem upd1_v3 {x y z : DL.D} {as' : List Sl} {i : Nat} {s : Sl} : upd1 [.va x, .va y, .va z] as' i s = s := upd1_none rfl
theorem upd1_v4 {x y z u : DL.D} {as' : List Sl} {i : Nat} {s : Sl} : upd1 [.va x, .va y, .va z, .va u] as' i s = s := upd1_none rfl
local macro_rules | `(tactic| mleft) => `(tactic| first | with_reducible refine wSeq ?_ | with_reducible refine wRet ?_ | with_reducible refine wSet ?_ | with_reducible refine wNext ?_ | with_reducible refine wBin ?_ | with_reducible refine wC ?_ | with_reducible refine wCons ?_ | with_reducible refine wNil ?_ | with_reducible refine wTv ?_ | with_reducible refine wUn ?_ | with_reducible refine wBi ?_ | with_reducible refine wLst ?_ | with_reducible refine wTup ?_ | with_reducible refine wNot ?_ | with_reducible refine wNotV ?_ | with_reducible refine wTrue ?_ | with_reducible refine wAnd ?_ | with_reducible refine wOr ?_ | with_reducible refine wIf ?_ | with_reducible refine wIte ?_ | with_reducible refine wAndV ?_ | with_reducible refine wOrV ?_ | with_reducible refine wChain ?_ | with_reducible refine wSl ?_ | with_reducible refine wPN ?_ | with_reducible refine wPS ?_ | with_reducible refine wExpr ?_ | with_reducible refine wRaise ?_ | with_reducible refine wIter ?_ | with_reducible refine wRng ?_ | with_reducible refine wSeqs ?_ | with_reducible refine wCall ?_ | with_reducible refine wSetIx rfl ?_ | with_reducible refine wApp rfl ?_ | with_reducible refine wUnp ?_ | with_reducible refine wFor ?_ | with_reducible refine wComp ?_ | with_reducible refine wFrz ?_ | with_reducible refine wV rfl ?_ | with_reducible refine wVo rfl ?_)
local macro_rules | `(tactic| massumption) => `(tactic| first | decide | omega | assumption | exact cmul 100 100 (by omega) (by omega) (by decide))
local macro_rules | `(tactic| mright) => `(tactic| first | ((with_reducible refine And.intro (a := (_ && _) = true) ?_ ?_); (focus ((try dsimp only [soft, List.map_cons, List.map_nil, toArg, List.getElem?_cons_zero, List.getElem?_cons_succ]); first | rfl | (simp [alNd, pos?, argOk]; done))); (try dsimp only [soft, List.map_cons, List.map_nil, toArg, List.getElem?_cons_zero, List.getElem?_cons_succ])) | ((with_reducible refine And.intro (a := _ < _) ?_ ?_); focus (first | omega | (simp; omega))) | ((with_reducible show And _ _); first | refine ⟨fun z => absurd z (by decide), fun _ => ?_⟩ | refine ⟨fun _ => ?_, fun z => absurd z (by decide)⟩) | ((with_reducible show Exists _); first | refine ⟨_, _, _, rfl, rfl, mod_ok (by massumption), ?_⟩ | refine ⟨_, _, _, rfl, rfl, mul_ok (by massumption), ?_⟩ | refine ⟨_, _, _, rfl, rfl, div_ok (by massumption), ?_⟩ | (refine ⟨_, _, _, rfl, rfl, pow_ok (by decide), ?_⟩; simp only [Int.reduceToNat, Int.reducePow]) | refine ⟨_, _, _, rfl, rfl, rfl, ?_⟩ | refine ⟨_, _, _, rfl, rfl, ix_ok (by assumption), ?_⟩ | refine ⟨_, _, _, rfl, rfl, ixt_ok (by assumption), ?_⟩ | (refine ⟨_, _, _, _, rfl, rfl, rfl, ?_⟩; (try dsimp only [Int.reduceToNat, List.set_cons_zero, List.set_cons_succ])) | refine ⟨_, _, _, _, rfl, rfl, (by first | massumption | (simp; omega)), ?_⟩ | refine ⟨_, _, _, rfl, rfl, ?_⟩ | refine ⟨_, _, rfl, rng_ok (by omega) (by omega), ?_⟩ | refine ⟨_, rfl, ?_⟩ | refine ⟨_, _, rfl, rfl, ?_⟩ | refine ⟨_, _, rfl, (by first | decide | (simp; done)), ?_⟩ | refine ⟨_, _, rfl, ?_⟩))
local macro_rules | `(tactic| mstop) => `(tactic| first | ((with_reducible refine wsv ?_ ?_ ?_); (focus (simp; done)); (focus (first | rfl | assumption | (rw [upd1_none (by rfl)]; assumption))); dsimp only [List.set_cons_zero, List.set_cons_succ]) | ((with_reducible refine wsf ?_ ?_ ?_); (focus (simp; done)); (focus (first | rfl | assumption | (rw [upd1_none (by rfl)]; assumption))); dsimp only [List.set_cons_zero, List.set_cons_succ]))
local macro_rules | `(tactic| mexfalso) => `(tactic| (refine ⟨trivial, ?_⟩; simp only [backC, upd1_va, upd1_un, upd1_v1, upd1_v2, upd1_v3, upd1_v4, upd1_ow, upd1_none, pos?, if_true, if_false, reduceIte, Option.map_some, Option.map_none, Nat.reduceAdd, Nat.reduceEqDiff, List.getElem?_cons_zero, List.getElem?_cons_succ, List.set_cons_zero, List.set_cons_succ]))
local macro_rules | `(tactic| mstart) => `(tactic| repeat (first | mleft | mright | mstop))
theorem mixed_w {c k : Int} {Q : Rs → Rho → Prop} {E : Exn → Rho → Prop} (hk : 0 ≤ k) (hk2 : k < 1000000) (h : ∀ r : Int, Q (.va (.int r)) [.va (.int c), .va (.int k)]) : RW (m__law_mixed [.va (.int c), .va (.int k)]) Q E := by
  (refine wFun ?_; unfold n__law_mixed; simp only [List.length_cons, List.length_nil, Nat.reduceAdd, Nat.reduceSub, List.replicate, List.cons_append, List.nil_append, Nat.zero_add])
  mstart
  exact h _
end K4

namespace K4
open PySem L2 PyProof.Rows DL
local macro_rules | `(tactic| mconstructor) => `(tactic| first | exact .inl rfl | exact .inr (.inl rfl) | exact .inr rfl | exact .inr (.inr rfl))
local macro_rules | `(tactic| mpure_intro) => `(tactic| (simp only [cxOf, envOfC, Cx.blk, compEnvC, relab_eq]; decide +kernel))
local macro_rules | `(tactic| mleft) => `(tactic| first | with_reducible refine wSeq ?_ | with_reducible refine wRet ?_ | with_reducible refine wSet ?_ | with_reducible refine wNext ?_ | with_reducible refine wBin ?_ | with_reducible refine wC ?_ | with_reducible refine wCons ?_ | with_reducible refine wNil ?_ | with_reducible refine wTv ?_ | with_reducible refine wUn ?_ | with_reducible refine wBi ?_ | with_reducible refine wLst ?_ | with_reducible refine wTup ?_ | with_reducible refine wNot ?_ | with_reducible refine wNotV ?_ | with_reducible refine wTrue ?_ | with_reducible refine wAnd ?_ | with_reducible refine wOr ?_ | with_reducible refine wIf ?_ | with_reducible refine wIte ?_ | with_reducible refine wAndV ?_ | with_reducible refine wOrV ?_ | with_reducible refine wChain ?_ | with_reducible refine wSl ?_ | with_reducible refine wPN ?_ | with_reducible refine wPS ?_ | with_reducible refine wExpr ?_ | with_reducible refine wRaise ?_ | with_reducible refine wIter ?_ | with_reducible refine wRng ?_ | with_reducible refine wSeqs ?_ | with_reducible refine wCall ?_ | with_reducible refine wSetIx rfl ?_ | with_reducible refine wApp rfl ?_ | with_reducible refine wUnp ?_ | with_reducible refine wFor ?_ | with_reducible refine wComp ?_ | with_reducible refine wFrz ?_ | with_reducible refine wV rfl ?_ | with_reducible refine wVo rfl ?_)
local macro_rules | `(tactic| massumption) => `(tactic| first | decide | omega | assumption | exact cmul 100 100 (by omega) (by omega) (by decide))
local macro_rules | `(tactic| mright) => `(tactic| first | ((with_reducible refine And.intro (a := (_ && _) = true) ?_ ?_); (focus ((try dsimp only [soft, List.map_cons, List.map_nil, toArg, List.getElem?_cons_zero, List.getElem?_cons_succ]); first | rfl | (simp [alNd, pos?, argOk]; done))); (try dsimp only [soft, List.map_cons, List.map_nil, toArg, List.getElem?_cons_zero, List.getElem?_cons_succ])) | ((with_reducible refine And.intro (a := _ < _) ?_ ?_); focus (first | omega | (simp; omega))) | ((with_reducible show And _ _); first | refine ⟨fun z => absurd z (by decide), fun _ => ?_⟩ | refine ⟨fun _ => ?_, fun z => absurd z (by decide)⟩) | ((with_reducible show Exists _); first | refine ⟨_, _, _, rfl, rfl, mod_ok (by massumption), ?_⟩ | refine ⟨_, _, _, rfl, rfl, mul_ok (by massumption), ?_⟩ | refine ⟨_, _, _, rfl, rfl, div_ok (by massumption), ?_⟩ | (refine ⟨_, _, _, rfl, rfl, pow_ok (by decide), ?_⟩; simp only [Int.reduceToNat, Int.reducePow]) | refine ⟨_, _, _, rfl, rfl, rfl, ?_⟩ | refine ⟨_, _, _, rfl, rfl, ix_ok (by assumption), ?_⟩ | refine ⟨_, _, _, rfl, rfl, ixt_ok (by assumption), ?_⟩ | (refine ⟨_, _, _, _, rfl, rfl, rfl, ?_⟩; (try dsimp only [Int.reduceToNat, List.set_cons_zero, List.set_cons_succ])) | refine ⟨_, _, _, _, rfl, rfl, (by first | massumption | (simp; omega)), ?_⟩ | refine ⟨_, _, _, rfl, rfl, ?_⟩ | refine ⟨_, _, rfl, rng_ok (by omega) (by omega), ?_⟩ | refine ⟨_, rfl, ?_⟩ | refine ⟨_, _, rfl, rfl, ?_⟩ | refine ⟨_, _, rfl, (by first | decide | (simp; done)), ?_⟩ | refine ⟨_, _, rfl, ?_⟩))
local macro_rules | `(tactic| mstop) => `(tactic| first | ((with_reducible refine wsv ?_ ?_ ?_); (focus (simp; done)); (focus (first | rfl | assumption | (rw [upd1_none (by rfl)]; assumption))); dsimp only [List.set_cons_zero, List.set_cons_succ]) | ((with_reducible refine wsf ?_ ?_ ?_); (focus (simp; done)); (focus (first | rfl | assumption | (rw [upd1_none (by rfl)]; assumption))); dsimp only [List.set_cons_zero, List.set_cons_succ]))
local macro_rules | `(tactic| mexfalso) => `(tactic| (refine ⟨trivial, ?_⟩; simp only [backC, upd1_va, upd1_un, upd1_v1, upd1_v2, upd1_v3, upd1_v4, upd1_ow, upd1_none, pos?, if_true, if_false, reduceIte, Option.map_some, Option.map_none, Nat.reduceAdd, Nat.reduceEqDiff, List.getElem?_cons_zero, List.getElem?_cons_succ, List.set_cons_zero, List.set_cons_succ]))
local macro_rules | `(tactic| mstart) => `(tactic| repeat (first | mleft | mright | mstop))
abbrev pl (d c k : Int) (b : Bool) : Sl := .ow true [.int d, .int c, .int k, .bl b]
theorem take_w {d c k m : Int} {b : Bool} {Q : Rs → Rho → Prop} {E : Exn → Rho → Prop} (hm : 0 < m) (hm2 : m < 1000000000000) (hk : 0 ≤ k) (hk2 : k < 900000)
    (h : ∀ r d' k' : Int, 0 ≤ r → r < m → 0 ≤ k' → k' ≤ k + 1 → Q (.va (.int r)) [pl d' c k' b, .va (.int m)]) : RW (m__law_take [pl d c k b, .va (.int m)]) Q E := by
  (refine wFun ?_; unfold n__law_take; simp only [List.length_cons, List.length_nil, Nat.reduceAdd, Nat.reduceSub, List.replicate, List.cons_append, List.nil_append, Nat.zero_add])
  have hdv : CDivW d m := ⟨hm, by have := Nat.log2_le_self m.natAbs; have : m.natAbs.log2 ≤ 40 := Nat.le_of_lt_succ ((Nat.log2_lt (by omega)).mpr (by omega)); omega⟩
  mstart
  refine ⟨fun hc => ?_, fun hc => ?_⟩
  · mstart
    refine mixed_w (by omega) (by omega) fun r => ?_
    mexfalso
    mstart
    exact h _ _ _ (Int.emod_nonneg _ (by omega)) (Int.emod_lt_of_pos _ hm) (by omega) (by omega)
  · mstart
    exact h _ _ _ (Int.emod_nonneg _ (by omega)) (Int.emod_lt_of_pos _ hm) (by omega) (by omega)
theorem great_w {d c k : Int} {b : Bool} {Q : Rs → Rho → Prop} {E : Exn → Rho → Prop} (hk : 0 ≤ k) (hk2 : k < 800000)
    (h : ∀ r d' k' : Int, 0 ≤ r → r < 10000100000 → 0 ≤ k' → k' ≤ k + 2 → Q (.va (.int r)) [pl d' c k' b]) : RW (m__law_great [pl d c k b]) Q E := by
  (refine wFun ?_; unfold n__law_great; simp only [List.length_cons, List.length_nil, Nat.reduceAdd, Nat.reduceSub, List.replicate, List.cons_append, List.nil_append, Nat.zero_add])
  mstart
  refine take_w (by omega) (by omega) hk (by omega) fun r d1 k1 a1 a2 a3 a4 => ?_
  mexfalso
  mstart
  refine take_w (by omega) (by omega) a3 (by omega) fun r2 d2 k2 b1 b2 b3 b4 => ?_
  mexfalso
  mstart
  exact h _ _ _ (by omega) (by omega) (by omega) (by omega)
theorem number_w {d c k : Int} {b : Bool} {Q : Rs → Rho → Prop} {E : Exn → Rho → Prop} (hk : 0 ≤ k) (hk2 : k < 700000)
    (h : ∀ r d' k' : Int, -20000000000 < r → r < 20000000000 → 0 ≤ k' → k' ≤ k + 5 → Q (.va (.int r)) [pl d' c k' b]) : RW (m__law_number [pl d c k b]) Q E := by
  (refine wFun ?_; unfold n__law_number; simp only [List.length_cons, List.length_nil, Nat.reduceAdd, Nat.reduceSub, List.replicate, List.cons_append, List.nil_append, Nat.zero_add])
  mstart
  refine ⟨fun hb => ?_, fun hb => ?_⟩
  · mstart
    refine take_w (by omega) (by omega) hk (by omega) fun r d1 k1 a1 a2 a3 a4 => ?_
    mexfalso
    mstart
    refine ⟨fun hc => ?_, fun hc => ?_⟩
    · mstart
      refine great_w a3 (by omega) fun r1 d2 k2 b1 b2 b3 b4 => ?_
      mexfalso
      mstart
      refine take_w (by omega) (by omega) b3 (by omega) fun r2 d3 k3 c1 c2 c3 c4 => ?_
      mexfalso
      mstart
      have hr : r2 = 0 ∨ r2 = 1 := by omega
      rcases hr with rfl | rfl
      · exact h _ _ _ (by omega) (by omega) (by omega) (by omega)
      · exact h _ _ _ (by omega) (by omega) (by omega) (by omega)
    · mstart
      refine take_w (by omega) (by omega) a3 (by omega) fun r9 d9 k9 b1 b2 b3 b4 => ?_
      mexfalso
      mstart
      exact h _ _ _ (by omega) (by omega) (by omega) (by omega)
  · mstart
    refine take_w (by omega) (by omega) hk (by omega) fun r9 d9 k9 b1 b2 b3 b4 => ?_
    mexfalso
    mstart
    exact h _ _ _ (by omega) (by omega) (by omega) (by omega)
/-- the ways of a yard -/
def WaysOk (ws : List Int) : Prop := ∀ w ∈ ws, w = 0 ∨ (2 ≤ w ∧ w < 20000000000)
abbrev pt (xs : List Int) : DL.D := .tup (xs.map .int)
theorem ways_w {d c k u : Int} {b : Bool} {Q : Rs → Rho → Prop} {E : Exn → Rho → Prop} (hu : 0 < u) (hu2 : u ≤ 3) (hk : 0 ≤ k) (hk2 : k < 600000)
    (h : ∀ (ws : List Int) (d' k' : Int), 0 < ws.length → (ws.length : Int) ≤ u → WaysOk ws → 0 ≤ k' → k' ≤ k + 16 → Q (.va (pt ws)) [pl d' c k' b, .va (.int u)]) : RW (m__law_ways [pl d c k b, .va (.int u)]) Q E := by
  (refine wFun ?_; unfold n__law_ways; simp only [List.length_cons, List.length_nil, Nat.reduceAdd, Nat.reduceSub, List.replicate, List.cons_append, List.nil_append, Nat.zero_add])
  mstart
  refine take_w hu (by omega) hk (by omega) fun n d1 k1 a1 a2 a3 a4 => ?_
  mexfalso
  mstart
  refine ⟨fun i ρ => ∃ (ws : List Int) (d2 k2 : Int) (s3 s4 s5 : Sl), ρ = [pl d2 c k2 b, .va (.int u), .ow false (ws.map .int), s3, s4, s5] ∧ ws.length = i ∧ WaysOk ws ∧ 0 ≤ k2 ∧ k2 ≤ k + 1 + 5 * i ∧ isIo (some s3) = false ∧ isIo (some s4) = false ∧ isIo (some s5) = false, ?_, ?_, ?_⟩
  · exact ⟨[], d1, k1, .un, .un, .un, rfl, rfl, fun w h => (by cases h), a3, by omega, rfl, rfl, rfl⟩
  · rintro i x ρ hx ⟨ws₀, d2, k2, s3, s4, s5, rfl, hl, hw, b1, b2, i3, i4, i5⟩
    obtain ⟨hi, rfl⟩ := rng_at hx
    refine ⟨_, if_pos ⟨by simp, i3⟩, ?_⟩
    dsimp only [List.set_cons_zero, List.set_cons_succ]
    have fin : ∀ (w d5 k5 : Int) (s3 s4 s5 : Sl), (w = 0 ∨ (2 ≤ w ∧ w < 20000000000)) → 0 ≤ k5 → k5 ≤ k2 + 5 → isIo (some s3) = false → isIo (some s4) = false → isIo (some s5) = false →
        ∃ (ws : List Int) (d2 k2 : Int) (t3 t4 t5 : Sl), [pl d5 c k5 b, .va (.int u), .ow false (ws₀.map DL.D.int ++ [.int w]), s3, s4, s5] = [pl d2 c k2 b, .va (.int u), .ow false (ws.map .int), t3, t4, t5] ∧ ws.length = i + 1 ∧ WaysOk ws ∧ 0 ≤ k2 ∧ k2 ≤ k + 1 + 5 * (i + 1 : Nat) ∧ isIo (some t3) = false ∧ isIo (some t4) = false ∧ isIo (some t5) = false := fun w d5 k5 s3 s4 s5 hw1 c1 c2 j3 j4 j5 =>
      ⟨ws₀ ++ [w], d5, k5, s3, s4, s5, by simp, by simp [hl], fun x hx => (List.mem_append.mp hx).elim (hw x) (fun hx => by rw [List.mem_singleton.mp hx]; exact hw1), c1, by omega, j3, j4, j5⟩
    mstart
    refine take_w (by omega) (by omega) b1 (by omega) fun r16 d3 k3 c1 c2 c3 c4 => ?_
    mexfalso
    mstart
    refine take_w (by omega) (by omega) c3 (by omega) fun r8 d4 k4 e1 e2 e3 e4 => ?_
    mexfalso
    mstart
    refine take_w (by omega) (by omega) e3 (by omega) fun r40 d5 k5 f1 f2 f3 f4 => ?_
    mexfalso
    obtain ⟨j, hj, hx1⟩ : ∃ j : Int, (j = 0 ∨ j = 1 ∨ j = 2) ∧ atI [DL.D.int 0, DL.D.int 1, DL.D.int 2] (r16 % 3) = some (.int j) := by
      obtain ⟨x, g1, g2, g3, g4⟩ := at3 (x := .int 0) (y := .int 1) (z := .int 2) (i := r16 % 3) (by omega)
      have : r16 % 3 = 0 ∨ r16 % 3 = 1 ∨ r16 % 3 = 2 := by omega
      rcases this with e | e | e
      · exact ⟨0, .inl rfl, by rw [g1, g2 e]⟩
      · exact ⟨1, .inr (.inl rfl), by rw [g1, g3 e]⟩
      · exact ⟨2, .inr (.inr rfl), by rw [g1, g4 e]⟩
    obtain ⟨sz, hs, hx2⟩ : ∃ sz : Int, (sz = 0 ∨ (2 ≤ sz ∧ sz < 20000000000)) ∧ atI [DL.D.int 0, DL.D.int (2 + r8), DL.D.int (2 + r40)] j = some (.int sz) := by
      obtain ⟨x, g1, g2, g3, g4⟩ := at3 (x := .int 0) (y := .int (2 + r8)) (z := .int (2 + r40)) hj
      rcases hj with e | e | e
      · exact ⟨0, .inl rfl, by rw [g1, g2 e]⟩
      · exact ⟨2 + r8, .inr ⟨by omega, by omega⟩, by rw [g1, g3 e]⟩
      · exact ⟨2 + r40, .inr ⟨by omega, by omega⟩, by rw [g1, g4 e]⟩
    mstart
    refine great_w f3 (by omega) fun g d6 k6 p1 p2 p3 p4 => ?_
    mexfalso
    cases b with
    | false =>
      mstart
      exact fin _ _ _ _ _ _ hs (by omega) (by omega) rfl rfl rfl
    | true =>
      obtain ⟨w, hx3, hx4, hx5⟩ := at2 (x := .int sz) (y := .int (2 + g)) (DL.D.eqv (.int r16) (.int 15))
      mstart
      cases q : DL.D.eqv (.int r16) (.int 15) with
      | true =>
        have e := hx4 q
        subst e
        mstart
        exact fin _ _ _ _ _ _ (.inr ⟨by omega, by omega⟩) (by omega) (by omega) rfl rfl rfl
      | false =>
        have e := hx5 q
        subst e
        mstart
        exact fin _ _ _ _ _ _ hs (by omega) (by omega) rfl rfl rfl
  · rintro ρ ⟨ws, d2, k2, s3, s4, s5, rfl, hl, hw, b1, b2, i3, i4, i5⟩
    rw [rng_len] at hl b2
    mstart
    exact h ws _ _ (by omega) (by omega) hw b1 (by omega)
end K4

namespace K4
open PySem L2 PyProof.Rows DL
local macro_rules | `(tactic| mconstructor) => `(tactic| first | exact .inl rfl | exact .inr (.inl rfl) | exact .inr rfl | exact .inr (.inr rfl))
local macro_rules | `(tactic| mpure_intro) => `(tactic| (simp only [cxOf, envOfC, Cx.blk, compEnvC, relab_eq]; decide +kernel))
local macro_rules | `(tactic| mleft) => `(tactic| first | with_reducible refine wSeq ?_ | with_reducible refine wRet ?_ | with_reducible refine wSet ?_ | with_reducible refine wNext ?_ | with_reducible refine wBin ?_ | with_reducible refine wC ?_ | with_reducible refine wCons ?_ | with_reducible refine wNil ?_ | with_reducible refine wTv ?_ | with_reducible refine wUn ?_ | with_reducible refine wBi ?_ | with_reducible refine wLst ?_ | with_reducible refine wTup ?_ | with_reducible refine wNot ?_ | with_reducible refine wNotV ?_ | with_reducible refine wTrue ?_ | with_reducible refine wAnd ?_ | with_reducible refine wOr ?_ | with_reducible refine wIf ?_ | with_reducible refine wIte ?_ | with_reducible refine wAndV ?_ | with_reducible refine wOrV ?_ | with_reducible refine wChain ?_ | with_reducible refine wSl ?_ | with_reducible refine wPN ?_ | with_reducible refine wPS ?_ | with_reducible refine wExpr ?_ | with_reducible refine wRaise ?_ | with_reducible refine wIter ?_ | with_reducible refine wRng ?_ | with_reducible refine wSeqs ?_ | with_reducible refine wCall ?_ | with_reducible refine wSetIx rfl ?_ | with_reducible refine wApp rfl ?_ | with_reducible refine wUnp ?_ | with_reducible refine wFor ?_ | with_reducible refine wComp ?_ | with_reducible refine wFrz ?_ | with_reducible refine wV rfl ?_ | with_reducible refine wVo rfl ?_)
local macro_rules | `(tactic| massumption) => `(tactic| first | decide | omega | assumption | exact cmul 100 100 (by omega) (by omega) (by decide))
local macro_rules | `(tactic| mright) => `(tactic| first | ((with_reducible refine And.intro (a := (_ && _) = true) ?_ ?_); (focus ((try dsimp only [soft, List.map_cons, List.map_nil, toArg, List.getElem?_cons_zero, List.getElem?_cons_succ]); first | rfl | (simp [alNd, pos?, argOk]; done))); (try dsimp only [soft, List.map_cons, List.map_nil, toArg, List.getElem?_cons_zero, List.getElem?_cons_succ])) | ((with_reducible refine And.intro (a := _ < _) ?_ ?_); focus (first | omega | (simp; omega))) | ((with_reducible show And _ _); first | refine ⟨fun z => absurd z (by decide), fun _ => ?_⟩ | refine ⟨fun _ => ?_, fun z => absurd z (by decide)⟩) | ((with_reducible show Exists _); first | refine ⟨_, _, _, rfl, rfl, mod_ok (by massumption), ?_⟩ | refine ⟨_, _, _, rfl, rfl, mul_ok (by massumption), ?_⟩ | refine ⟨_, _, _, rfl, rfl, div_ok (by massumption), ?_⟩ | (refine ⟨_, _, _, rfl, rfl, pow_ok (by decide), ?_⟩; simp only [Int.reduceToNat, Int.reducePow]) | refine ⟨_, _, _, rfl, rfl, rfl, ?_⟩ | refine ⟨_, _, _, rfl, rfl, ix_ok (by assumption), ?_⟩ | refine ⟨_, _, _, rfl, rfl, ixt_ok (by assumption), ?_⟩ | (refine ⟨_, _, _, _, rfl, rfl, rfl, ?_⟩; (try dsimp only [Int.reduceToNat, List.set_cons_zero, List.set_cons_succ])) | refine ⟨_, _, _, _, rfl, rfl, (by first | massumption | (simp; omega)), ?_⟩ | refine ⟨_, _, _, rfl, rfl, ?_⟩ | refine ⟨_, _, rfl, rng_ok (by omega) (by omega), ?_⟩ | refine ⟨_, rfl, ?_⟩ | refine ⟨_, _, rfl, rfl, ?_⟩ | refine ⟨_, _, rfl, (by first | decide | (simp; done)), ?_⟩ | refine ⟨_, _, rfl, ?_⟩))
local macro_rules | `(tactic| mstop) => `(tactic| first | ((with_reducible refine wsv ?_ ?_ ?_); (focus (simp; done)); (focus (first | rfl | assumption | (rw [upd1_none (by rfl)]; assumption))); dsimp only [List.set_cons_zero, List.set_cons_succ]) | ((with_reducible refine wsf ?_ ?_ ?_); (focus (simp; done)); (focus (first | rfl | assumption | (rw [upd1_none (by rfl)]; assumption))); dsimp only [List.set_cons_zero, List.set_cons_succ]))
local macro_rules | `(tactic| mexfalso) => `(tactic| (refine ⟨trivial, ?_⟩; simp only [backC, upd1_va, upd1_un, upd1_v1, upd1_v2, upd1_v3, upd1_v4, upd1_ow, upd1_none, pos?, if_true, if_false, reduceIte, Option.map_some, Option.map_none, Nat.reduceAdd, Nat.reduceEqDiff, List.getElem?_cons_zero, List.getElem?_cons_succ, List.set_cons_zero, List.set_cons_succ]))
local macro_rules | `(tactic| mstart) => `(tactic| repeat (first | mleft | mright | mstop))
def Bd (C : Int) (v : List Int) : Prop := ∀ x ∈ v, -C < x ∧ x < C
abbrev Small (v : List Int) : Prop := Bd 20000000000 v
theorem int_get {xs : List Int} {i : Nat} {d : DL.D} (h : (xs.map DL.D.int)[i]? = some d) : ∃ x, xs[i]? = some x ∧ d = .int x := by
  rw [List.getElem?_map] at h
  cases e : xs[i]? with
  | none => rw [e] at h; cases h
  | some x => rw [e] at h; cases h; exact ⟨x, rfl, rfl⟩
theorem get_lt {α : Type} {xs : List α} {i : Nat} {x : α} (h : xs[i]? = some x) : i < xs.length := (List.getElem?_eq_some_iff.mp h).1
theorem vector_w {d c k : Int} {b : Bool} {ws : List Int} {Q : Rs → Rho → Prop} {E : Exn → Rho → Prop} (hw : ws.length ≤ 3) (hk : 0 ≤ k) (hk2 : k < 500000)
    (h : ∀ (v : List Int) (d' k' : Int), v.length = ws.length → Small v → 0 ≤ k' → k' ≤ k + 15 → Q (.va (pt v)) [pl d' c k' b, .va (pt ws)]) : RW (m__law_vector [pl d c k b, .va (pt ws)]) Q E := by
  (refine wFun ?_; unfold n__law_vector; simp only [List.length_cons, List.length_nil, Nat.reduceAdd, Nat.reduceSub, List.replicate, List.cons_append, List.nil_append, Nat.zero_add])
  mstart
  refine ⟨fun i acc ρ => ∃ (v : List Int) (d2 k2 : Int), ρ = [pl d2 c k2 b, .va (pt ws), .un] ∧ acc = v.map .int ∧ v.length = i ∧ Small v ∧ 0 ≤ k2 ∧ k2 ≤ k + 5 * i, ?_, ?_, ?_⟩
  · exact ⟨[], d, k, rfl, rfl, rfl, fun x h => (by cases h), hk, by omega⟩
  · rintro i x acc ρ hx ⟨v, d2, k2, rfl, rfl, hl, hs, b1, b2⟩
    obtain ⟨w, hw2, rfl⟩ := int_get hx
    have hi := get_lt hw2
    refine ⟨_, if_pos ⟨by simp, rfl⟩, ?_⟩
    dsimp only [List.set_cons_zero, List.set_cons_succ]
    mstart
    try refine ⟨by simp; omega, ?_⟩
    mstart
    refine number_w b1 (by omega) fun r d3 k3 c1 c2 c3 c4 => ?_
    mexfalso
    refine ⟨_, _, rfl, v ++ [r], d3, k3, rfl, by simp, by simp [hl], fun x hx => ?_, c3, by omega⟩
    rcases List.mem_append.mp hx with hx | hx
    · exact hs x hx
    · rw [List.mem_singleton.mp hx]; exact ⟨c1, c2⟩
  · rintro acc ρ ⟨v, d2, k2, rfl, rfl, hl, hs, b1, b2⟩
    rw [List.length_map] at hl b2
    dsimp only [restoR, wipeR, List.set_cons_zero, List.set_cons_succ, List.getElem?_cons_zero, List.getElem?_cons_succ]
    mstart
    exact h v _ _ hl hs b1 (by omega)
theorem put_w {a v : List Int} {t C : Int} {Q : Rs → Rho → Prop} {E : Exn → Rho → Prop} (ha : a.length ≤ 3) (hb : Bd C a) (hv : Small v) (ht : -10 < t ∧ t < 10)
    (h : ∀ r : List Int, r.length = min a.length v.length → Bd (C + 200000000000) r → Q (.va (pt r)) [.va (pt a), .va (pt v), .va (.int t)]) : RW (m__law_put [.va (pt a), .va (pt v), .va (.int t)]) Q E := by
  (refine wFun ?_; unfold n__law_put; simp only [List.length_cons, List.length_nil, Nat.reduceAdd, Nat.reduceSub, List.replicate, List.cons_append, List.nil_append, Nat.zero_add])
  mstart
  refine ⟨fun i acc ρ => ∃ r : List Int, r.length = i ∧ Bd (C + 200000000000) r ∧ acc = r.map .int ∧ ρ = [.va (pt a), .va (pt v), .va (.int t), .un, .un], ?_, ?_, ?_⟩
  · exact ⟨[], rfl, fun x h => (by cases h), rfl, rfl⟩
  · rintro i x acc ρ hx ⟨r, hl, hB, rfl, rfl⟩
    have hi := get_lt hx
    rw [zip2_len, List.length_map, List.length_map] at hi
    obtain ⟨x1, x2, e1, e2, rfl⟩ := zip2_get hx
    obtain ⟨y1, e3, rfl⟩ := int_get e1
    obtain ⟨y2, e4, rfl⟩ := int_get e2
    obtain ⟨q1, q2⟩ := hv y2 (List.mem_of_getElem? e4)
    refine ⟨_, rfl, ?_⟩
    obtain ⟨q3, q4⟩ := hb y1 (List.mem_of_getElem? e3)
    have hs : -C - 200000000000 < y1 + t * y2 ∧ y1 + t * y2 < C + 200000000000 := by
      have ht2 : t = -9 ∨ t = -8 ∨ t = -7 ∨ t = -6 ∨ t = -5 ∨ t = -4 ∨ t = -3 ∨ t = -2 ∨ t = -1 ∨ t = 0 ∨ t = 1 ∨ t = 2 ∨ t = 3 ∨ t = 4 ∨ t = 5 ∨ t = 6 ∨ t = 7 ∨ t = 8 ∨ t = 9 := by omega
      rcases ht2 with rfl | rfl | rfl | rfl | rfl | rfl | rfl | rfl | rfl | rfl | rfl | rfl | rfl | rfl | rfl | rfl | rfl | rfl | rfl <;> omega
    mstart
    refine ⟨r ++ [y1 + t * y2], by simp [hl], fun u hu => ?_, by simp, rfl⟩
    rcases List.mem_append.mp hu with hu | hu
    · exact hB u hu
    · rw [List.mem_singleton.mp hu]; omega
  · rintro acc ρ ⟨r, hl, hB, rfl, rfl⟩
    rw [zip2_len, List.length_map, List.length_map] at hl
    dsimp only [restoR, wipeR, List.set_cons_zero, List.set_cons_succ, List.getElem?_cons_zero, List.getElem?_cons_succ]
    mstart
    exact h r hl hB
/-- a place on a way -/
def PlOk (B w x : Int) : Prop := (w = 0 ∧ -B < x ∧ x < B) ∨ (0 ≤ x ∧ x < w)
/-- a point of the ground -/
def PtOk (B : Int) : List Int → List Int → Prop
  | [], [] => True
  | w :: ws, x :: xs => PlOk B w x ∧ PtOk B ws xs
  | _, _ => False
theorem PtOk.len : ∀ {B : Int} {ws xs : List Int}, PtOk B ws xs → xs.length = ws.length
  | _, [], [], _ => rfl
  | _, w :: ws, x :: xs, h => congrArg (· + 1) (PtOk.len h.2)
  | _, [], _ :: _, h => h.elim
  | _, _ :: _, [], h => h.elim
theorem PtOk.snoc : ∀ {B : Int} {ws xs : List Int} {i : Nat} {w x : Int}, PtOk B (ws.take i) xs → ws[i]? = some w → PlOk B w x → PtOk B (ws.take (i + 1)) (xs ++ [x])
  | _, [], xs, i, w, x, h, e, q => by simp at e
  | _, v :: ws, xs, 0, w, x, h, e, q => by
    cases xs with
    | nil => simp at e; subst e; simp [PtOk]; exact q
    | cons y ys => simp [PtOk] at h
  | _, v :: ws, xs, i + 1, w, x, h, e, q => by
    cases xs with
    | nil => simp [PtOk] at h
    | cons y ys =>
      simp only [List.take_succ_cons, PtOk] at h
      simp only [List.take_succ_cons, List.cons_append, PtOk]
      exact ⟨h.1, PtOk.snoc h.2 (by simpa using e) q⟩
theorem round_w {ws v : List Int} {B : Int} {Q : Rs → Rho → Prop} {E : Exn → Rho → Prop} (hw : WaysOk ws) (hl : v.length = ws.length) (h3 : ws.length ≤ 3) (hB : Bd B v)
    (h : ∀ r : List Int, PtOk B ws r → Q (.va (pt r)) [.va (pt ws), .va (pt v)]) : RW (m__law_round [.va (pt ws), .va (pt v)]) Q E := by
  (refine wFun ?_; unfold n__law_round; simp only [List.length_cons, List.length_nil, Nat.reduceAdd, Nat.reduceSub, List.replicate, List.cons_append, List.nil_append, Nat.zero_add])
  mstart
  refine ⟨fun i acc ρ => ∃ r : List Int, PtOk B (ws.take i) r ∧ r.length = i ∧ acc = r.map .int ∧ ρ = [.va (pt ws), .va (pt v), .un, .un], ?_, ?_, ?_⟩
  · exact ⟨[], trivial, rfl, rfl, rfl⟩
  · rintro i x acc ρ hx ⟨r, hp, hr, rfl, rfl⟩
    have hi := get_lt hx
    rw [zip2_len, List.length_map, List.length_map] at hi
    obtain ⟨x1, x2, e1, e2, rfl⟩ := zip2_get hx
    obtain ⟨w, e3, rfl⟩ := int_get e1
    obtain ⟨y, e4, rfl⟩ := int_get e2
    have hw1 := hw w (List.mem_of_getElem? e3)
    refine ⟨_, rfl, ?_⟩
    obtain ⟨z, hx3, g1, g2⟩ := at2 (x := .int y) (y := .int (y % if 1 > w then 1 else w)) (decide (0 < w))
    by_cases hd : 0 < w
    · have e := g1 (decide_eq_true hd)
      subst e
      mstart
      refine ⟨r ++ [y % if 1 > w then 1 else w], hp.snoc e3 (.inr ⟨?_, ?_⟩), by simp [hr], by simp, rfl⟩
      · exact Int.emod_nonneg _ (by split <;> omega)
      · have := Int.emod_lt_of_pos y (b := if 1 > w then 1 else w) (by split <;> omega)
        split at this <;> split <;> omega
    · have e := g2 (decide_eq_false hd)
      subst e
      mstart
      exact ⟨r ++ [y], hp.snoc e3 (.inl ⟨by omega, hB y (List.mem_of_getElem? e4)⟩), by simp [hr], by simp, rfl⟩
  · rintro acc ρ ⟨r, hp, hr, rfl, rfl⟩
    rw [zip2_len, List.length_map, List.length_map, hl, Nat.min_self] at hp
    rw [List.take_length] at hp
    dsimp only [restoR, wipeR, List.set_cons_zero, List.set_cons_succ, List.getElem?_cons_zero, List.getElem?_cons_succ]
    mstart
    exact h r hp
/-- a standing -/
def StOk (B : Int) (ws : List Int) (pts : List (List Int)) : Prop := ∀ p ∈ pts, PtOk B ws p
abbrev ptsD (pts : List (List Int)) : List DL.D := pts.map pt
theorem standing_w {d c k n : Int} {b : Bool} {ws : List Int} {Q : Rs → Rho → Prop} {E : Exn → Rho → Prop} (hw : WaysOk ws) (h0 : 0 < ws.length) (h3 : ws.length ≤ 3) (hn : 0 ≤ n) (hn2 : n ≤ 6) (hk : 0 ≤ k) (hk2 : k < 100000)
    (h : ∀ (pts : List (List Int)) (d' k' : Int), (pts.length : Int) = n → StOk 1000000000000 ws pts → 0 ≤ k' → k' ≤ k + 1000 → Q (.va (.tup (ptsD pts))) [pl d' c k' b, .va (pt ws), .va (.int n)]) : RW (m__law_standing [pl d c k b, .va (pt ws), .va (.int n)]) Q E := by
  (refine wFun ?_; unfold n__law_standing; simp only [List.length_cons, List.length_nil, Nat.reduceAdd, Nat.reduceSub, List.replicate, List.cons_append, List.nil_append, Nat.zero_add])
  mstart
  refine vector_w h3 hk (by omega) fun start d1 k1 a1 a2 a3 a4 => ?_
  mexfalso
  mstart
  refine take_w (by simp; omega) (by simp; omega) a3 (by omega) fun m d2 k2 b1 b2 b3 b4 => ?_
  mexfalso
  rw [List.length_map] at b2
  mstart
  refine ⟨fun i acc ρ => ∃ (vs : List (List Int)) (d2 k2 : Int), vs.length = i ∧ (∀ v ∈ vs, v.length = ws.length ∧ Small v) ∧ 0 ≤ k2 ∧ k2 ≤ k + 16 + 15 * i ∧ acc = ptsD vs ∧ ρ = [pl d2 c k2 b, .va (pt ws), .va (.int n), .va (pt start), .un, .un, .un, .un, .un, .un, .un], ?_, ?_, ?_⟩
  · exact ⟨[], d2, k2, rfl, fun v h => (by cases h), b3, by omega, rfl, rfl⟩
  · rintro i x acc ρ hx ⟨vs, d3, k3, c1, c2, c3, c4, rfl, rfl⟩
    obtain ⟨hi, rfl⟩ := rng_at hx
    refine ⟨_, if_pos ⟨by simp, rfl⟩, ?_⟩
    dsimp only [List.set_cons_zero, List.set_cons_succ]
    mstart
    try refine ⟨by simp; omega, ?_⟩
    mstart
    refine vector_w h3 c3 (by omega) fun v d4 k4 e1 e2 e3 e4 => ?_
    mexfalso
    refine ⟨_, _, rfl, vs ++ [v], d4, k4, by simp [c1], fun u hu => ?_, e3, by omega, by simp, rfl⟩
    rcases List.mem_append.mp hu with hu | hu
    · exact c2 u hu
    · rw [List.mem_singleton.mp hu]; exact ⟨e1, e2⟩
  · rintro acc ρ ⟨vs, d3, k3, c1, c2, c3, c4, rfl, rfl⟩
    rw [rng_len] at c1 c4
    dsimp only [restoR, wipeR, List.set_cons_zero, List.set_cons_succ, List.getElem?_cons_zero, List.getElem?_cons_succ]
    mstart
    refine take_w (by omega) (by omega) c3 (by omega) fun odd d4 k4 e1 e2 e3 e4 => ?_
    mexfalso
    obtain ⟨q, hq, hx1⟩ : ∃ q : Int, (q = 1 ∨ q = 2) ∧ atI [DL.D.int 1, DL.D.int 1, DL.D.int 2] odd = some (.int q) := by
      obtain ⟨x, g1, g2, g3, g4⟩ := at3 (x := .int 1) (y := .int 1) (z := .int 2) (i := odd) (by omega)
      have : odd = 0 ∨ odd = 1 ∨ odd = 2 := by omega
      rcases this with e | e | e
      · exact ⟨1, .inl rfl, by rw [g1, g2 e]⟩
      · exact ⟨1, .inl rfl, by rw [g1, g3 e]⟩
      · exact ⟨2, .inr rfl, by rw [g1, g4 e]⟩
    mstart
    refine ⟨fun i ρ => ∃ (pts : List (List Int)) (d2 k2 : Int) (s4 s7 s8 s9 : Sl), pts.length = i ∧ StOk 1000000000000 ws pts ∧ 0 ≤ k2 ∧ k2 ≤ k4 + 18 * i ∧ (s4 = .ow false (ptsD vs) ∨ s4 = .va (.lst (ptsD vs))) ∧ isIo (some s7) = false ∧ isIo (some s8) = false ∧ isIo (some s9) = false ∧
      ρ = [pl d2 c k2 b, .va (pt ws), .va (.int n), .va (pt start), s4, .va (.int odd), .ow false (ptsD pts), s7, s8, s9, .un], ?_, ?_, ?_⟩
    · exact ⟨[], d4, k4, _, .un, .un, .un, rfl, fun v h => (by cases h), e3, by omega, .inl rfl, rfl, rfl, rfl, rfl⟩
    · rintro i x ρ hx ⟨pts, d5, k5, s4, s7, s8, s9, f1, f2, f3, f4, h4, i7, i8, i9, rfl⟩
      obtain ⟨hi, rfl⟩ := rng_at hx
      refine ⟨_, if_pos ⟨by simp, i7⟩, ?_⟩
      dsimp only [List.set_cons_zero, List.set_cons_succ]
      rcases h4 with rfl | rfl <;> mstart
      all_goals
        refine ⟨fun j ρ => ∃ (place : List Int) (d6 k6 : Int) (t9 : Sl), place.length = ws.length ∧ Bd (20000000000 + 200000000000 * j) place ∧ 0 ≤ k6 ∧ k6 ≤ k5 + j ∧ isIo (some t9) = false ∧
          ρ = [pl d6 c k6 b, .va (pt ws), .va (.int n), .va (pt start), .va (.lst (ptsD vs)), .va (.int odd), .ow false (ptsD pts), .va (.int i), .va (pt place), t9, .un], ?_, ?_, ?_⟩
        · exact ⟨start, d5, k5, s9, a1, a2, f3, by omega, i9, rfl⟩
        · rintro j y ρ hy ⟨place, d6, k6, t9, p1, pB, p2, p3, p4, rfl⟩
          rw [List.getElem?_map] at hy
          have hj : j < vs.length := by
            cases e : vs[j]? with
            | none => rw [e] at hy; cases hy
            | some v => exact get_lt e
          have ev : vs[j]? = some vs[j] := List.getElem?_eq_getElem hj
          rw [ev] at hy
          cases hy
          obtain ⟨v1, v2⟩ := c2 _ (List.mem_of_getElem? ev)
          refine ⟨_, if_pos ⟨by simp, p4⟩, ?_⟩
          dsimp only [List.set_cons_zero, List.set_cons_succ]
          mstart
          refine take_w (by omega) (by omega) p2 (by omega) fun r7 d7 k7 q1 q2 q3 q4 => ?_
          mexfalso
          mstart
          refine put_w (by omega) pB v2 (by rcases hq with rfl | rfl <;> omega) fun r hr hrB => ?_
          mexfalso
          mstart
          exact ⟨r, d7, k7, _, by omega, fun u hu => (by have := hrB u hu; omega), q3, by omega, rfl, rfl⟩
        · rintro ρ ⟨place, d6, k6, t9, p1, pB, p2, p3, p4, rfl⟩
          rw [List.length_map] at p3 pB
          have hv3 : vs.length ≤ 3 := by omega
          have fin : ∀ (d8 k8 : Int) (r : List Int), PtOk 1000000000000 ws r → 0 ≤ k8 → k8 ≤ k6 + 15 → ∀ (s8 s9 : Sl), isIo (some s8) = false → isIo (some s9) = false → ∃ (pts' : List (List Int)) (d2 k2 : Int) (s4 t7 t8 t9 : Sl), pts'.length = i + 1 ∧ StOk 1000000000000 ws pts' ∧ 0 ≤ k2 ∧ k2 ≤ k4 + 18 * (i + 1 : Nat) ∧ (s4 = .ow false (ptsD vs) ∨ s4 = .va (.lst (ptsD vs))) ∧ isIo (some t7) = false ∧ isIo (some t8) = false ∧ isIo (some t9) = false ∧
              [pl d8 c k8 b, .va (pt ws), .va (.int n), .va (pt start), .va (.lst (ptsD vs)), .va (.int odd), .ow false (ptsD pts ++ [pt r]), .va (.int i), s8, s9, .un] = [pl d2 c k2 b, .va (pt ws), .va (.int n), .va (pt start), s4, .va (.int odd), .ow false (ptsD pts'), t7, t8, t9, .un] := fun d8 k8 r hr z1 z2 s8 s9 j8 j9 =>
            ⟨pts ++ [r], d8, k8, .va (.lst (ptsD vs)), .va (.int i), s8, s9, by simp [f1], fun u hu => (List.mem_append.mp hu).elim (f2 u) (fun hu => by rw [List.mem_singleton.mp hu]; exact hr), z1, by omega, .inr rfl, rfl, j8, j9, by simp⟩
          mstart
          refine ⟨fun _ => ?_, fun _ => ?_⟩
          · mstart
            refine vector_w h3 p2 (by omega) fun v d8 k8 r1 r2 r3 r4 => ?_
            mexfalso
            mstart
            refine round_w (B := 1000000000000) hw r1 h3 (fun u hu => by have := r2 u hu; omega) fun r hr => ?_
            mexfalso
            mstart
            exact fin _ _ r hr r3 r4 _ _ rfl (by first | exact p4 | (rw [upd1_none (by rfl)]; exact p4))
          · mstart
            refine round_w (B := 1000000000000) hw p1 h3 (fun u hu => by have := pB u hu; omega) fun r hr => ?_
            mexfalso
            mstart
            exact fin _ _ r hr p2 (by omega) _ _ rfl (by first | exact p4 | (rw [upd1_none (by rfl)]; exact p4))
    · rintro ρ ⟨pts, d5, k5, s4, s7, s8, s9, f1, f2, f3, f4, h4, i7, i8, i9, rfl⟩
      rw [rng_len] at f1 f4
      mstart
      exact h pts _ _ (by omega) f2 f3 (by omega)
/-- numbers that ascend, from lo on, below n -/
def Asc : Int → Int → List Int → Prop
  | _, _, [] => True
  | lo, n, p :: ps => lo ≤ p ∧ p < n ∧ Asc (p + 1) n ps
theorem Asc.up : ∀ {ps : List Int} {lo n m : Int}, Asc lo n ps → n ≤ m → Asc lo m ps
  | [], _, _, _, _, _ => trivial
  | p :: ps, lo, n, m, h, q => ⟨h.1, by have := h.2.1; omega, h.2.2.up q⟩
theorem Asc.snoc : ∀ {ps : List Int} {lo i : Int}, Asc lo i ps → lo ≤ i → Asc lo (i + 1) (ps ++ [i])
  | [], lo, i, _, q => ⟨q, by omega, trivial⟩
  | p :: ps, lo, i, h, q => ⟨h.1, by have := h.2.1; omega, Asc.snoc h.2.2 (by have := h.2.1; omega)⟩
theorem Asc.take : ∀ {ps : List Int} {lo n : Int} (m : Nat), Asc lo n ps → Asc lo n (ps.take m)
  | _, _, _, 0, _ => by rw [List.take_zero]; trivial
  | [], _, _, _ + 1, _ => trivial
  | p :: ps, lo, n, m + 1, h => ⟨h.1, h.2.1, Asc.take m h.2.2⟩
theorem cut_to {xs : List DL.D} {k : Int} (h : 0 ≤ k) : DL.cutD xs none (some k) = xs.take k.toNat := by
  have e : k = ((k.toNat : Nat) : Int) := (Int.toNat_of_nonneg h).symm
  generalize k.toNat = m at e
  subst e
  unfold DL.cutD
  rw [HT.sIx_none, HT.sIx_nat, List.drop_zero, Nat.sub_zero]
  try simp only [Int.toNat_natCast]
  by_cases q : m ≤ xs.length
  · rw [Nat.min_eq_left q]
  · rw [Nat.min_eq_right (by omega), List.take_length, List.take_of_length_le (by omega)]
theorem cut_from {xs : List DL.D} {k : Int} (h : 0 ≤ k) : DL.cutD xs (some k) none = xs.drop k.toNat := by
  have e : k = ((k.toNat : Nat) : Int) := (Int.toNat_of_nonneg h).symm
  generalize k.toNat = m at e
  subst e
  unfold DL.cutD
  rw [HT.sIx_nat, HT.sIx_none]
  try simp only [Int.toNat_natCast]
  by_cases q : m ≤ xs.length
  · rw [Nat.min_eq_left q, List.take_of_length_le (by rw [List.length_drop]; omega)]
  · rw [Nat.min_eq_right (by omega), List.drop_length, List.drop_of_length_le (by omega)]; simp
end K4

namespace K4
open PySem L2 PyProof.Rows DL
local macro_rules | `(tactic| mconstructor) => `(tactic| first | exact .inl rfl | exact .inr (.inl rfl) | exact .inr rfl | exact .inr (.inr rfl))
local macro_rules | `(tactic| mpure_intro) => `(tactic| (simp only [cxOf, envOfC, Cx.blk, compEnvC, relab_eq]; decide +kernel))
local macro_rules | `(tactic| mleft) => `(tactic| first | with_reducible refine wSeq ?_ | with_reducible refine wRet ?_ | with_reducible refine wSet ?_ | with_reducible refine wNext ?_ | with_reducible refine wBin ?_ | with_reducible refine wC ?_ | with_reducible refine wCons ?_ | with_reducible refine wNil ?_ | with_reducible refine wTv ?_ | with_reducible refine wUn ?_ | with_reducible refine wBi ?_ | with_reducible refine wLst ?_ | with_reducible refine wTup ?_ | with_reducible refine wNot ?_ | with_reducible refine wNotV ?_ | with_reducible refine wTrue ?_ | with_reducible refine wAnd ?_ | with_reducible refine wOr ?_ | with_reducible refine wIf ?_ | with_reducible refine wIte ?_ | with_reducible refine wAndV ?_ | with_reducible refine wOrV ?_ | with_reducible refine wChain ?_ | with_reducible refine wSl ?_ | with_reducible refine wPN ?_ | with_reducible refine wPS ?_ | with_reducible refine wExpr ?_ | with_reducible refine wRaise ?_ | with_reducible refine wIter ?_ | with_reducible refine wRng ?_ | with_reducible refine wSeqs ?_ | with_reducible refine wCall ?_ | with_reducible refine wSetIx rfl ?_ | with_reducible refine wApp rfl ?_ | with_reducible refine wUnp ?_ | with_reducible refine wFor ?_ | with_reducible refine wComp ?_ | with_reducible refine wFrz ?_ | with_reducible refine wV rfl ?_ | with_reducible refine wVo rfl ?_)
local macro_rules | `(tactic| massumption) => `(tactic| first | decide | omega | assumption | exact cmul 100 100 (by omega) (by omega) (by decide))
local macro_rules | `(tactic| mright) => `(tactic| first | ((with_reducible refine And.intro (a := (_ && _) = true) ?_ ?_); (focus ((try dsimp only [soft, List.map_cons, List.map_nil, toArg, List.getElem?_cons_zero, List.getElem?_cons_succ]); first | rfl | (simp [alNd, pos?, argOk]; done))); (try dsimp only [soft, List.map_cons, List.map_nil, toArg, List.getElem?_cons_zero, List.getElem?_cons_succ])) | ((with_reducible refine And.intro (a := _ < _) ?_ ?_); focus (first | omega | (simp; omega))) | ((with_reducible show And _ _); first | refine ⟨fun z => absurd z (by decide), fun _ => ?_⟩ | refine ⟨fun _ => ?_, fun z => absurd z (by decide)⟩) | ((with_reducible show Exists _); first | refine ⟨_, _, _, rfl, rfl, mod_ok (by massumption), ?_⟩ | refine ⟨_, _, _, rfl, rfl, mul_ok (by massumption), ?_⟩ | refine ⟨_, _, _, rfl, rfl, div_ok (by massumption), ?_⟩ | (refine ⟨_, _, _, rfl, rfl, pow_ok (by decide), ?_⟩; simp only [Int.reduceToNat, Int.reducePow]) | refine ⟨_, _, _, rfl, rfl, rfl, ?_⟩ | refine ⟨_, _, _, rfl, rfl, ix_ok (by assumption), ?_⟩ | refine ⟨_, _, _, rfl, rfl, ixt_ok (by assumption), ?_⟩ | (refine ⟨_, _, _, _, rfl, rfl, rfl, ?_⟩; (try dsimp only [Int.reduceToNat, List.set_cons_zero, List.set_cons_succ])) | refine ⟨_, _, _, _, rfl, rfl, (by first | massumption | (simp; omega)), ?_⟩ | refine ⟨_, _, _, rfl, rfl, ?_⟩ | refine ⟨_, _, rfl, rng_ok (by omega) (by omega), ?_⟩ | refine ⟨_, rfl, ?_⟩ | refine ⟨_, _, rfl, rfl, ?_⟩ | refine ⟨_, _, rfl, (by first | decide | (simp; done)), ?_⟩ | refine ⟨_, _, rfl, ?_⟩))
local macro_rules | `(tactic| mstop) => `(tactic| first | ((with_reducible refine wsv ?_ ?_ ?_); (focus (simp; done)); (focus (first | rfl | assumption | (rw [upd1_none (by rfl)]; assumption))); dsimp only [List.set_cons_zero, List.set_cons_succ]) | ((with_reducible refine wsf ?_ ?_ ?_); (focus (simp; done)); (focus (first | rfl | assumption | (rw [upd1_none (by rfl)]; assumption))); dsimp only [List.set_cons_zero, List.set_cons_succ]))
local macro_rules | `(tactic| mexfalso) => `(tactic| (refine ⟨trivial, ?_⟩; simp only [backC, upd1_va, upd1_un, upd1_v1, upd1_v2, upd1_v3, upd1_v4, upd1_ow, upd1_none, pos?, if_true, if_false, reduceIte, Option.map_some, Option.map_none, Nat.reduceAdd, Nat.reduceEqDiff, List.getElem?_cons_zero, List.getElem?_cons_succ, List.set_cons_zero, List.set_cons_succ]))
local macro_rules | `(tactic| mstart) => `(tactic| repeat (first | mleft | mright | mstop))
theorem any_eqv {ps : List Int} {x : Int} : ((ps.map DL.D.int).any fun y => DL.D.eqv y (.int x)) = ps.contains x := by
  induction ps with
  | nil => rfl
  | cons p ps ih =>
    rw [List.map_cons, List.any_cons, ih, List.contains_cons]
    have q : DL.D.eqv (.int p) (.int x) = decide (p = x) := by unfold DL.D.eqv; rfl
    rw [q]
    congr 1
    by_cases h : p = x
    · subst h; simp
    · have h2 : ¬ x = p := fun e => h e.symm
      simp [h, h2]
theorem all_fl {ps : List Int} : ((ps.map DL.D.int).all DL.D.flat) = true := by
  rw [List.all_eq_true]
  intro x hx
  obtain ⟨p, _, rfl⟩ := List.mem_map.mp hx
  rfl
theorem in_t {ps : List Int} {x : Int} : inD true (.int x) (.tup (ps.map .int)) = some (.va (.bl (!(ps.contains x)))) := by
  have e : (DL.D.flat (.int x) && (ps.map DL.D.int).all DL.D.flat) = true := by rw [all_fl]; rfl
  unfold inD
  simp only [e, if_true, any_eqv]
abbrev yd (ws : List Int) (n : Int) (ps : List Int) : DL.D := .tup [pt ws, .int n, pt ps]
structure YardOk (ws : List Int) (n : Int) (ps : List Int) : Prop where
  w : WaysOk ws
  w0 : 0 < ws.length
  w3 : ws.length ≤ 3
  n2 : 2 ≤ n
  n6 : n ≤ 6
  asc : Asc 0 n ps
  len : (ps.length : Int) ≤ n - 1
theorem at_get {xs : List Int} {i : Int} (h0 : 0 ≤ i) (h1 : i < xs.length) : ∃ x, atI (xs.map DL.D.int) i = some (.int x) ∧ x ∈ xs ∧ xs[i.toNat]? = some x := by
  have hi : i.toNat < xs.length := by omega
  refine ⟨xs[i.toNat], ?_, List.getElem_mem hi, List.getElem?_eq_getElem hi⟩
  have e : ((i.toNat : Nat) : Int) = i := Int.toNat_of_nonneg h0
  have g : atI (xs.map DL.D.int) ((i.toNat : Nat) : Int) = some (.int xs[i.toNat]) := ?_
  · rw [e] at g; exact g
  refine atI_nat (j := i.toNat) ?_
  rw [List.getElem?_map, List.getElem?_eq_getElem hi]; rfl
/-- someone walks -/
theorem walks : ∀ (ps : List Int) (lo n : Int), Asc lo n ps → (ps.length : Int) < n - lo → ∃ w, lo ≤ w ∧ w < n ∧ w ∉ ps
  | [], lo, n, _, h => ⟨lo, by omega, by simp at h; omega, by simp⟩
  | p :: ps, lo, n, h, hl => by
    have low : ∀ (ps : List Int) (lo : Int), Asc lo n ps → ∀ x ∈ ps, lo ≤ x := fun ps => by
      induction ps with
      | nil => intro lo _ x hx; cases hx
      | cons q qs ih =>
        intro lo h x hx
        rcases List.mem_cons.mp hx with e | hx
        · rw [e]; exact h.1
        · have := ih _ h.2.2 x hx
          have := h.1
          omega
    by_cases e : lo < p
    · refine ⟨lo, Int.le_refl _, by have := h.2.1; omega, fun hm => ?_⟩
      rcases List.mem_cons.mp hm with q | hm
      · omega
      · have := low ps _ h.2.2 lo hm
        omega
    · have := h.1
      obtain ⟨w, w1, w2, w3⟩ := walks ps (p + 1) n h.2.2 (by simp at hl; omega)
      refine ⟨w, by omega, w2, fun hm => ?_⟩
      rcases List.mem_cons.mp hm with q | hm
      · omega
      · exact w3 hm
theorem leap_w {d c k n : Int} {b : Bool} {ws ps : List Int} {Q : Rs → Rho → Prop} {E : Exn → Rho → Prop} (Y : YardOk ws n ps) (hk : 0 ≤ k) (hk2 : k < 50000)
    (h : ∀ (i j : Int) (d' k' : Int), 0 ≤ i → i < n → i ∉ ps → 0 ≤ j → j < n → j ≠ i → 0 ≤ k' → k' ≤ k + 2 → Q (.va (pt [i, j])) [pl d' c k' b, .va (yd ws n ps)]) : RW (m__law_leap [pl d c k b, .va (yd ws n ps)]) Q E := by
  have n2 := Y.n2
  have n6 := Y.n6
  (refine wFun ?_; unfold n__law_leap; simp only [List.length_cons, List.length_nil, Nat.reduceAdd, Nat.reduceSub, List.replicate, List.cons_append, List.nil_append, Nat.zero_add])
  mstart
  refine ⟨fun i acc ρ => ∃ (wk : List Int), (∀ w ∈ wk, 0 ≤ w ∧ w < n ∧ w ∉ ps) ∧ (∀ j : Nat, j < i → (j : Int) ∉ ps → (j : Int) ∈ wk) ∧ wk.length ≤ i ∧ acc = wk.map .int ∧ ρ = [pl d c k b, .va (yd ws n ps), .un, .un], ?_, ?_, ?_⟩
  · exact ⟨[], fun w h => (by cases h), fun j h => by omega, by simp, rfl, rfl⟩
  · rintro i x acc ρ hx ⟨wk, a1, a2, a3, rfl, rfl⟩
    obtain ⟨hi, rfl⟩ := rng_at hx
    refine ⟨_, if_pos ⟨by simp, rfl⟩, ?_⟩
    dsimp only [List.set_cons_zero, List.set_cons_succ]
    mstart
    refine ⟨_, _, _, rfl, rfl, in_t, ?_⟩
    mstart
    refine ⟨fun hc => ⟨by simp; omega, ?_⟩, fun hc => ?_⟩
    · mstart
      have hn : (i : Int) ∉ ps := by simpa using hc
      refine ⟨wk ++ [(i : Int)], fun w hw => ?_, fun j hj hjn => ?_, by simp; omega, by simp, rfl⟩
      · rcases List.mem_append.mp hw with hw | hw
        · exact a1 w hw
        · rw [List.mem_singleton.mp hw]; exact ⟨by omega, by omega, hn⟩
      · by_cases e : j = i
        · subst e; simp
        · exact List.mem_append_left _ (a2 j (by omega) hjn)
    · have hn : (i : Int) ∈ ps := by simpa using hc
      refine ⟨wk, a1, fun j hj hjn => ?_, by omega, rfl, rfl⟩
      by_cases e : j = i
      · subst e; exact (hjn hn).elim
      · exact a2 j (by omega) hjn
  · rintro acc ρ ⟨wk, a1, a2, a3, rfl, rfl⟩
    rw [rng_len] at a2 a3
    dsimp only [restoR, wipeR, List.set_cons_zero, List.set_cons_succ, List.getElem?_cons_zero, List.getElem?_cons_succ]
    have ne : 0 < wk.length := by
      obtain ⟨w, w1, w2, w3⟩ := walks ps 0 n Y.asc (by have := Y.len; omega)
      have := a2 w.toNat (by omega) (by rw [Int.toNat_of_nonneg w1]; exact w3)
      exact List.length_pos_of_mem this
    mstart
    refine take_w (by simp; omega) (by simp; omega) hk (by omega) fun r d1 k1 b1 b2 b3 b4 => ?_
    mexfalso
    rw [List.length_map] at b2
    obtain ⟨i, hx1, hi1, _⟩ := at_get (xs := wk) b1 b2
    obtain ⟨i1, i2, i3⟩ := a1 i hi1
    mstart
    refine take_w (by omega) (by omega) b3 (by omega) fun t d2 k2 c1 c2 c3 c4 => ?_
    mexfalso
    mstart
    have hm : 0 ≤ (i + 1 + t) % n ∧ (i + 1 + t) % n < n ∧ (i + 1 + t) % n ≠ i := by
      refine ⟨Int.emod_nonneg _ (by omega), Int.emod_lt_of_pos _ (by omega), ?_⟩
      have hn : n = 2 ∨ n = 3 ∨ n = 4 ∨ n = 5 ∨ n = 6 := by omega
      rcases hn with rfl | rfl | rfl | rfl | rfl <;> omega
    exact h i _ d2 k2 i1 i2 i3 hm.1 hm.2.1 hm.2.2 c3 (by omega)
end K4

namespace K4
open PySem L2 PyProof.Rows DL
local macro_rules | `(tactic| mconstructor) => `(tactic| first | exact .inl rfl | exact .inr (.inl rfl) | exact .inr rfl | exact .inr (.inr rfl))
local macro_rules | `(tactic| mpure_intro) => `(tactic| (simp only [cxOf, envOfC, Cx.blk, compEnvC, relab_eq]; decide +kernel))
local macro_rules | `(tactic| mleft) => `(tactic| first | with_reducible refine wSeq ?_ | with_reducible refine wRet ?_ | with_reducible refine wSet ?_ | with_reducible refine wNext ?_ | with_reducible refine wBin ?_ | with_reducible refine wC ?_ | with_reducible refine wCons ?_ | with_reducible refine wNil ?_ | with_reducible refine wTv ?_ | with_reducible refine wUn ?_ | with_reducible refine wBi ?_ | with_reducible refine wLst ?_ | with_reducible refine wTup ?_ | with_reducible refine wNot ?_ | with_reducible refine wNotV ?_ | with_reducible refine wTrue ?_ | with_reducible refine wAnd ?_ | with_reducible refine wOr ?_ | with_reducible refine wIf ?_ | with_reducible refine wIte ?_ | with_reducible refine wAndV ?_ | with_reducible refine wOrV ?_ | with_reducible refine wChain ?_ | with_reducible refine wSl ?_ | with_reducible refine wPN ?_ | with_reducible refine wPS ?_ | with_reducible refine wExpr ?_ | with_reducible refine wRaise ?_ | with_reducible refine wIter ?_ | with_reducible refine wRng ?_ | with_reducible refine wSeqs ?_ | with_reducible refine wCall ?_ | with_reducible refine wSetIx rfl ?_ | with_reducible refine wApp rfl ?_ | with_reducible refine wUnp ?_ | with_reducible refine wFor ?_ | with_reducible refine wComp ?_ | with_reducible refine wFrz ?_ | with_reducible refine wV rfl ?_ | with_reducible refine wVo rfl ?_)
local macro_rules | `(tactic| massumption) => `(tactic| first | decide | omega | assumption | exact cmul 100 100 (by omega) (by omega) (by decide))
local macro_rules | `(tactic| mright) => `(tactic| first | ((with_reducible refine And.intro (a := (_ && _) = true) ?_ ?_); (focus ((try dsimp only [soft, List.map_cons, List.map_nil, toArg, List.getElem?_cons_zero, List.getElem?_cons_succ]); first | rfl | (simp [alNd, pos?, argOk]; done))); (try dsimp only [soft, List.map_cons, List.map_nil, toArg, List.getElem?_cons_zero, List.getElem?_cons_succ])) | ((with_reducible refine And.intro (a := _ < _) ?_ ?_); focus (first | omega | (simp; omega))) | ((with_reducible show And _ _); first | refine ⟨fun z => absurd z (by decide), fun _ => ?_⟩ | refine ⟨fun _ => ?_, fun z => absurd z (by decide)⟩) | ((with_reducible show Exists _); first | refine ⟨_, _, _, rfl, rfl, mod_ok (by massumption), ?_⟩ | refine ⟨_, _, _, rfl, rfl, mul_ok (by massumption), ?_⟩ | refine ⟨_, _, _, rfl, rfl, div_ok (by massumption), ?_⟩ | (refine ⟨_, _, _, rfl, rfl, pow_ok (by decide), ?_⟩; simp only [Int.reduceToNat, Int.reducePow]) | refine ⟨_, _, _, rfl, rfl, rfl, ?_⟩ | refine ⟨_, _, _, rfl, rfl, ix_ok (by assumption), ?_⟩ | refine ⟨_, _, _, rfl, rfl, ixt_ok (by assumption), ?_⟩ | (refine ⟨_, _, _, _, rfl, rfl, rfl, ?_⟩; (try dsimp only [Int.reduceToNat, List.set_cons_zero, List.set_cons_succ])) | refine ⟨_, _, _, _, rfl, rfl, (by first | massumption | (simp; omega)), ?_⟩ | refine ⟨_, _, _, rfl, rfl, ?_⟩ | refine ⟨_, _, rfl, rng_ok (by omega) (by omega), ?_⟩ | refine ⟨_, rfl, ?_⟩ | refine ⟨_, _, rfl, rfl, ?_⟩ | refine ⟨_, _, rfl, (by first | decide | (simp; done)), ?_⟩ | refine ⟨_, _, rfl, ?_⟩))
local macro_rules | `(tactic| mstop) => `(tactic| first | ((with_reducible refine wsv ?_ ?_ ?_); (focus (simp; done)); (focus (first | rfl | assumption | (rw [upd1_none (by rfl)]; assumption))); dsimp only [List.set_cons_zero, List.set_cons_succ]) | ((with_reducible refine wsf ?_ ?_ ?_); (focus (simp; done)); (focus (first | rfl | assumption | (rw [upd1_none (by rfl)]; assumption))); dsimp only [List.set_cons_zero, List.set_cons_succ]))
local macro_rules | `(tactic| mexfalso) => `(tactic| (refine ⟨trivial, ?_⟩; simp only [backC, upd1_va, upd1_un, upd1_v1, upd1_v2, upd1_v3, upd1_v4, upd1_ow, upd1_none, pos?, if_true, if_false, reduceIte, Option.map_some, Option.map_none, Nat.reduceAdd, Nat.reduceEqDiff, List.getElem?_cons_zero, List.getElem?_cons_succ, List.set_cons_zero, List.set_cons_succ]))
local macro_rules | `(tactic| mstart) => `(tactic| repeat (first | mleft | mright | mstop))
def isI : DL.D → Bool
  | .int _ => true
  | .bl _ => true
  | _ => false
def isB : DL.D → Bool
  | .bl _ => true
  | _ => false
def isT : DL.D → Bool
  | .tup _ => true
  | _ => false
def isW : DL.D → Bool
  | .int _ => true
  | _ => false
def Pl (d : DL.D) : Prop := d.tyName.isSome = true
theorem isi_ty {d : DL.D} {n t : String} {b : Bool} (h : d.tyName = some t) (e : kitB t n = some b) : isiE CL KS [d, .ty n] = some (.va (.bl b)) := by
  have g : isiD [d, .ty n] = some (.va (.bl b)) := by
    unfold isiD
    simp only [h, e]
  cases d with
  | exc k x => cases h
  | _ => exact g
theorem isi_int {d : DL.D} (h : Pl d) : isiE CL KS [d, .ty "int"] = some (.va (.bl (isI d))) := by
  obtain ⟨k1, k2, k3, k4, k5, k6⟩ := kit1
  cases d with
  | non => exact isi_ty rfl k6
  | bl b => exact isi_ty rfl k1
  | int b => exact isi_ty rfl k2
  | str b => exact isi_ty rfl k3
  | tup b => exact isi_ty rfl k4
  | lst b => exact isi_ty rfl k5
  | _ => cases h
theorem isi_bool {d : DL.D} (h : Pl d) : isiE CL KS [d, .ty "bool"] = some (.va (.bl (isB d))) := by
  obtain ⟨k1, k2, k3, k4, k5, k6⟩ := kit2
  cases d with
  | non => exact isi_ty rfl k6
  | bl b => exact isi_ty rfl k1
  | int b => exact isi_ty rfl k2
  | str b => exact isi_ty rfl k3
  | tup b => exact isi_ty rfl k4
  | lst b => exact isi_ty rfl k5
  | _ => cases h
theorem isi_tup {d : DL.D} (h : Pl d) : isiE CL KS [d, .ty "tuple"] = some (.va (.bl (isT d))) := by
  obtain ⟨k1, k2, k3, k4, k5, k6⟩ := kit3
  cases d with
  | non => exact isi_ty rfl k6
  | bl b => exact isi_ty rfl k1
  | int b => exact isi_ty rfl k2
  | str b => exact isi_ty rfl k3
  | tup b => exact isi_ty rfl k4
  | lst b => exact isi_ty rfl k5
  | _ => cases h
variable {Q : Rs → Rho → Prop} {E : Exn → Rho → Prop}
theorem whole_w {d : DL.D} (hd : Pl d) (h : Q (.va (.bl (isW d))) [.va d]) : RW (m_is_whole [.va d]) Q E := by
  (refine wFun ?_; unfold n_is_whole; simp only [List.length_cons, List.length_nil, Nat.reduceAdd, Nat.reduceSub, List.replicate, List.cons_append, List.nil_append, Nat.zero_add])
  mstart
  refine ⟨_, _, rfl, isi_int hd, ?_⟩
  refine ⟨_, rfl, fun q => ?_, fun q => ?_⟩
  · mstart
    refine ⟨_, _, rfl, isi_bool hd, ?_⟩
    mstart
    have e : (!(isB d)) = isW d := by cases d <;> first | rfl | cases q
    rw [e]
    exact h
  · mstart
    have e : isW d = false := by cases d <;> first | rfl | cases q
    rw [e] at h
    exact h
/-- an int from l to m -/
def inR (l m : Int) : DL.D → Bool
  | .int i => decide (l ≤ i) && decide (i ≤ m)
  | _ => false
theorem wholeIn_w {l m : Int} {d : DL.D} (hd : Pl d) (h : Q (.va (.bl (inR l m d))) [.va (.int l), .va (.int m), .va d]) : RW (m_is_whole_in [.va (.int l), .va (.int m), .va d]) Q E := by
  (refine wFun ?_; unfold n_is_whole_in; simp only [List.length_cons, List.length_nil, Nat.reduceAdd, Nat.reduceSub, List.replicate, List.cons_append, List.nil_append, Nat.zero_add])
  mstart
  refine whole_w hd ?_
  mexfalso
  refine ⟨_, rfl, fun q => ?_, fun q => ?_⟩
  · cases d with
    | int i =>
      mstart
      refine ⟨fun q1 => ?_, fun q1 => ?_⟩
      · mstart
        replace h : Q (.va (.bl (decide (l ≤ i) && decide (i ≤ m)))) [.va (.int l), .va (.int m), .va (.int i)] := h
        rw [q1] at h
        exact h
      · mstart
        replace h : Q (.va (.bl (decide (l ≤ i) && decide (i ≤ m)))) [.va (.int l), .va (.int m), .va (.int i)] := h
        rw [q1] at h
        exact h
    | _ => cases q
  · mstart
    have e : inR l m d = false := by cases d <;> first | rfl | cases q
    rw [e] at h
    exact h
/-- a tuple of l to m items -/
def tupR (l m : Int) : DL.D → Bool
  | .tup xs => decide (l ≤ xs.length) && decide ((xs.length : Int) ≤ m)
  | _ => false
theorem tupleOf_w {l m : Int} {d : DL.D} (hd : Pl d) (h : Q (.va (.bl (tupR l m d))) [.va (.int l), .va (.int m), .va d]) : RW (m_is_tuple_of [.va (.int l), .va (.int m), .va d]) Q E := by
  (refine wFun ?_; unfold n_is_tuple_of; simp only [List.length_cons, List.length_nil, Nat.reduceAdd, Nat.reduceSub, List.replicate, List.cons_append, List.nil_append, Nat.zero_add])
  mstart
  refine ⟨_, _, rfl, isi_tup hd, ?_⟩
  refine ⟨_, rfl, fun q => ?_, fun q => ?_⟩
  · cases d with
    | tup xs =>
      mstart
      refine ⟨fun q1 => ?_, fun q1 => ?_⟩
      · mstart
        replace h : Q (.va (.bl (decide (l ≤ xs.length) && decide ((xs.length : Int) ≤ m)))) [.va (.int l), .va (.int m), .va (.tup xs)] := h
        rw [q1] at h
        exact h
      · mstart
        replace h : Q (.va (.bl (decide (l ≤ xs.length) && decide ((xs.length : Int) ≤ m)))) [.va (.int l), .va (.int m), .va (.tup xs)] := h
        rw [q1] at h
        exact h
    | _ => cases q
  · mstart
    have e : tupR l m d = false := by cases d <;> first | rfl | cases q
    rw [e] at h
    exact h
theorem onto_w {w x : Int} (hw : w = 0 ∨ 2 ≤ w) (h : Q (.va (.int (if w = 0 then x else x % w))) [.va (.int w), .va (.int x)]) : RW (m_onto_way [.va (.int w), .va (.int x)]) Q E := by
  (refine wFun ?_; unfold n_onto_way; simp only [List.length_cons, List.length_nil, Nat.reduceAdd, Nat.reduceSub, List.replicate, List.cons_append, List.nil_append, Nat.zero_add])
  mstart
  refine ⟨fun q => ?_, fun q => ?_⟩
  · have e : w = 0 := by unfold DL.D.eqv at q; simpa using q
    rw [if_pos e] at h
    mstart
    exact h
  · have e : ¬ w = 0 := by unfold DL.D.eqv at q; simpa using q
    rw [if_neg e] at h
    mstart
    exact h
theorem way_w {w : Int} (hw : w = 0 ∨ 2 ≤ w) (h : Q (.va (.bl true)) [.va (.int w)]) : RW (m_is_way [.va (.int w)]) Q E := by
  (refine wFun ?_; unfold n_is_way; simp only [List.length_cons, List.length_nil, Nat.reduceAdd, Nat.reduceSub, List.replicate, List.cons_append, List.nil_append, Nat.zero_add])
  mstart
  refine whole_w rfl ?_
  mexfalso
  rw [show isW (DL.D.int w) = true from rfl]
  mstart
  refine ⟨fun q => ?_, fun q => ?_⟩
  · mstart
    exact h
  · have e : ¬ w = 0 := by unfold DL.D.eqv at q; simpa using q
    mstart
    have e2 : decide (2 ≤ w) = true := decide_eq_true (by omega)
    rw [e2]
    exact h
theorem all_true {n : Nat} : allD [.lst (List.replicate n (.bl true))] = some (.va (.bl true)) := by
  have e : ∀ n : Nat, blsOf (List.replicate n (.bl true)) = some (List.replicate n true) := fun n => by
    induction n with
    | zero => rfl
    | succ n ih =>
      rw [List.replicate_succ, List.replicate_succ]
      unfold blsOf
      rw [ih]
  unfold allD
  simp only [e]
  congr 3
  induction n with
  | zero => rfl
  | succ n ih => rw [List.replicate_succ, List.all_cons, ih]; rfl
theorem ways_ok {ws : List Int} (hw : WaysOk ws) (h0 : 0 < ws.length) (h3 : ws.length ≤ 3) (h : Q (.va (.bl true)) [.va (pt ws)]) : RW (m_is_ways [.va (pt ws)]) Q E := by
  (refine wFun ?_; unfold n_is_ways; simp only [List.length_cons, List.length_nil, Nat.reduceAdd, Nat.reduceSub, List.replicate, List.cons_append, List.nil_append, Nat.zero_add])
  mstart
  refine tupleOf_w rfl ?_
  mexfalso
  have e : tupR 1 3 (pt ws) = true := by
    show (decide ((1 : Int) ≤ (List.map DL.D.int ws).length) && decide (((List.map DL.D.int ws).length : Int) ≤ 3)) = true
    rw [List.length_map, decide_eq_true (by omega), decide_eq_true (by omega)]; rfl
  rw [e]
  mstart
  refine ⟨fun i acc ρ => acc = List.replicate i (.bl true) ∧ ρ = [.va (pt ws), .un], ⟨rfl, rfl⟩, ?_, ?_⟩
  · rintro i x acc ρ hx ⟨rfl, rfl⟩
    obtain ⟨w, e2, rfl⟩ := int_get hx
    have hi := get_lt e2
    have hw1 := hw w (List.mem_of_getElem? e2)
    refine ⟨_, if_pos ⟨by simp, rfl⟩, ?_⟩
    dsimp only [List.set_cons_zero, List.set_cons_succ]
    mstart
    try refine ⟨by simp; omega, ?_⟩
    mstart
    refine way_w (by omega) ?_
    mexfalso
    exact ⟨_, _, rfl, by rw [List.replicate_succ'], rfl⟩
  · rintro acc ρ ⟨rfl, rfl⟩
    dsimp only [restoR, wipeR, List.set_cons_zero, List.set_cons_succ, List.getElem?_cons_zero, List.getElem?_cons_succ]
    mstart
    refine ⟨_, _, rfl, all_true, ?_⟩
    mstart
    exact h
theorem inR_of {l m i : Int} (h1 : l ≤ i) (h2 : i ≤ m) : inR l m (.int i) = true := by
  show (decide (l ≤ i) && decide (i ≤ m)) = true
  rw [decide_eq_true h1, decide_eq_true h2]; rfl
theorem tupR_of {l m : Int} {xs : List DL.D} (h1 : l ≤ xs.length) (h2 : (xs.length : Int) ≤ m) : tupR l m (.tup xs) = true := by
  show (decide (l ≤ xs.length) && decide ((xs.length : Int) ≤ m)) = true
  rw [decide_eq_true h1, decide_eq_true h2]; rfl
theorem persons_w {n : Int} (h2 : 2 ≤ n) (h6 : n ≤ 6) (h : Q (.va (.bl true)) [.va (.int n)]) : RW (m_is_persons [.va (.int n)]) Q E := by
  (refine wFun ?_; unfold n_is_persons; simp only [List.length_cons, List.length_nil, Nat.reduceAdd, Nat.reduceSub, List.replicate, List.cons_append, List.nil_append, Nat.zero_add])
  mstart
  refine wholeIn_w rfl ?_
  mexfalso
  rw [inR_of h2 h6]
  mstart
  exact h
theorem asc_at : ∀ {ps : List Int} {lo n : Int} {i : Nat} {p : Int}, Asc lo n ps → ps[i]? = some p → (match i with | 0 => lo | j + 1 => (ps.getD j 0) + 1) ≤ p ∧ p < n
  | [], _, _, _, _, _, e => by simp at e
  | q :: ps, lo, n, 0, p, h, e => by simp at e; subst e; exact ⟨h.1, h.2.1⟩
  | q :: ps, lo, n, i + 1, p, h, e => by
    have := asc_at (i := i) h.2.2 (by simpa using e)
    cases i with
    | zero => simpa using this
    | succ j => simpa using this
theorem posts_ok {n : Int} {ps : List Int} (ha : Asc 0 n ps) (hl : (ps.length : Int) ≤ n - 1) (h : Q (.va (.bl true)) [.va (.int n), .va (pt ps)]) : RW (m_is_posts [.va (.int n), .va (pt ps)]) Q E := by
  (refine wFun ?_; unfold n_is_posts; simp only [List.length_cons, List.length_nil, Nat.reduceAdd, Nat.reduceSub, List.replicate, List.cons_append, List.nil_append, Nat.zero_add])
  mstart
  refine tupleOf_w rfl ?_
  mexfalso
  rw [tupR_of (by simp) (by simp; omega)]
  mstart
  refine ⟨fun i ρ => ∃ s3, isIo (some s3) = false ∧ ρ = [.va (.int n), .va (pt ps), .va (.int (match i with | 0 => 0 | j + 1 => (ps.getD j 0) + 1)), s3], ⟨.un, rfl, rfl⟩, ?_, ?_⟩
  · rintro i x ρ hx ⟨s3, i3, rfl⟩
    obtain ⟨p, e2, rfl⟩ := int_get hx
    obtain ⟨q1, q2⟩ := asc_at ha e2
    refine ⟨_, if_pos ⟨by simp, i3⟩, ?_⟩
    dsimp only [List.set_cons_zero, List.set_cons_succ]
    mstart
    refine wholeIn_w rfl ?_
    mexfalso
    rw [inR_of q1 (by omega)]
    mstart
    exact ⟨_, rfl, by rw [List.getD_eq_getElem?_getD, e2]; rfl⟩
  · rintro ρ ⟨s3, i3, rfl⟩
    mstart
    exact h
theorem yardWrong_w {ws ps : List Int} {n : Int} (Y : YardOk ws n ps) (h : Q (.va .non) [.va (yd ws n ps)]) : RW (m_yard_wrong [.va (yd ws n ps)]) Q E := by
  (refine wFun ?_; unfold n_yard_wrong; simp only [List.length_cons, List.length_nil, Nat.reduceAdd, Nat.reduceSub, List.replicate, List.cons_append, List.nil_append, Nat.zero_add])
  mstart
  refine tupleOf_w rfl ?_
  mexfalso
  rw [tupR_of (by simp) (by simp)]
  mstart
  refine ways_ok Y.w Y.w0 Y.w3 ?_
  mexfalso
  mstart
  refine persons_w Y.n2 Y.n6 ?_
  mexfalso
  mstart
  refine posts_ok Y.asc Y.len ?_
  mexfalso
  mstart
  exact h
theorem needYard_w {ws ps : List Int} {n : Int} (Y : YardOk ws n ps) (h : Q (.va .non) [.va (yd ws n ps)]) : RW (m_need_yard [.va (yd ws n ps)]) Q E := by
  (refine wFun ?_; unfold n_need_yard; simp only [List.length_cons, List.length_nil, Nat.reduceAdd, Nat.reduceSub, List.replicate, List.cons_append, List.nil_append, Nat.zero_add])
  mstart
  refine yardWrong_w Y ?_
  mexfalso
  mstart
  exact h
end K4

namespace K4
open PySem L2 PyProof.Rows DL
local macro_rules | `(tactic| mconstructor) => `(tactic| first | exact .inl rfl | exact .inr (.inl rfl) | exact .inr rfl | exact .inr (.inr rfl))
local macro_rules | `(tactic| mpure_intro) => `(tactic| (simp only [cxOf, envOfC, Cx.blk, compEnvC, relab_eq]; decide +kernel))
local macro_rules | `(tactic| mleft) => `(tactic| first | with_reducible refine wSeq ?_ | with_reducible refine wRet ?_ | with_reducible refine wSet ?_ | with_reducible refine wNext ?_ | with_reducible refine wBin ?_ | with_reducible refine wC ?_ | with_reducible refine wCons ?_ | with_reducible refine wNil ?_ | with_reducible refine wTv ?_ | with_reducible refine wUn ?_ | with_reducible refine wBi ?_ | with_reducible refine wLst ?_ | with_reducible refine wTup ?_ | with_reducible refine wNot ?_ | with_reducible refine wNotV ?_ | with_reducible refine wTrue ?_ | with_reducible refine wAnd ?_ | with_reducible refine wOr ?_ | with_reducible refine wIf ?_ | with_reducible refine wIte ?_ | with_reducible refine wAndV ?_ | with_reducible refine wOrV ?_ | with_reducible refine wChain ?_ | with_reducible refine wSl ?_ | with_reducible refine wPN ?_ | with_reducible refine wPS ?_ | with_reducible refine wExpr ?_ | with_reducible refine wRaise ?_ | with_reducible refine wIter ?_ | with_reducible refine wRng ?_ | with_reducible refine wSeqs ?_ | with_reducible refine wCall ?_ | with_reducible refine wSetIx rfl ?_ | with_reducible refine wApp rfl ?_ | with_reducible refine wUnp ?_ | with_reducible refine wFor ?_ | with_reducible refine wComp ?_ | with_reducible refine wFrz ?_ | with_reducible refine wV rfl ?_ | with_reducible refine wVo rfl ?_)
local macro_rules | `(tactic| massumption) => `(tactic| first | decide | omega | assumption | exact cmul 100 100 (by omega) (by omega) (by decide))
local macro_rules | `(tactic| mright) => `(tactic| first | ((with_reducible refine And.intro (a := (_ && _) = true) ?_ ?_); (focus ((try dsimp only [soft, List.map_cons, List.map_nil, toArg, List.getElem?_cons_zero, List.getElem?_cons_succ]); first | rfl | (simp [alNd, pos?, argOk]; done))); (try dsimp only [soft, List.map_cons, List.map_nil, toArg, List.getElem?_cons_zero, List.getElem?_cons_succ])) | ((with_reducible refine And.intro (a := _ < _) ?_ ?_); focus (first | omega | (simp; omega))) | ((with_reducible show And _ _); first | refine ⟨fun z => absurd z (by decide), fun _ => ?_⟩ | refine ⟨fun _ => ?_, fun z => absurd z (by decide)⟩) | ((with_reducible show Exists _); first | refine ⟨_, _, _, rfl, rfl, mod_ok (by massumption), ?_⟩ | refine ⟨_, _, _, rfl, rfl, mul_ok (by massumption), ?_⟩ | refine ⟨_, _, _, rfl, rfl, div_ok (by massumption), ?_⟩ | (refine ⟨_, _, _, rfl, rfl, pow_ok (by decide), ?_⟩; simp only [Int.reduceToNat, Int.reducePow]) | refine ⟨_, _, _, rfl, rfl, rfl, ?_⟩ | refine ⟨_, _, _, rfl, rfl, ix_ok (by assumption), ?_⟩ | refine ⟨_, _, _, rfl, rfl, ixt_ok (by assumption), ?_⟩ | (refine ⟨_, _, _, _, rfl, rfl, rfl, ?_⟩; (try dsimp only [Int.reduceToNat, List.set_cons_zero, List.set_cons_succ])) | refine ⟨_, _, _, _, rfl, rfl, (by first | massumption | (simp; omega)), ?_⟩ | refine ⟨_, _, _, rfl, rfl, ?_⟩ | refine ⟨_, _, rfl, rng_ok (by omega) (by omega), ?_⟩ | refine ⟨_, rfl, ?_⟩ | refine ⟨_, _, rfl, rfl, ?_⟩ | refine ⟨_, _, rfl, (by first | decide | (simp; done)), ?_⟩ | refine ⟨_, _, rfl, ?_⟩))
local macro_rules | `(tactic| mstop) => `(tactic| first | ((with_reducible refine wsv ?_ ?_ ?_); (focus (simp; done)); (focus (first | rfl | assumption | (rw [upd1_none (by rfl)]; assumption))); dsimp only [List.set_cons_zero, List.set_cons_succ]) | ((with_reducible refine wsf ?_ ?_ ?_); (focus (simp; done)); (focus (first | rfl | assumption | (rw [upd1_none (by rfl)]; assumption))); dsimp only [List.set_cons_zero, List.set_cons_succ]))
local macro_rules | `(tactic| mexfalso) => `(tactic| (refine ⟨trivial, ?_⟩; simp only [backC, upd1_va, upd1_un, upd1_v1, upd1_v2, upd1_v3, upd1_v4, upd1_ow, upd1_none, pos?, if_true, if_false, reduceIte, Option.map_some, Option.map_none, Nat.reduceAdd, Nat.reduceEqDiff, List.getElem?_cons_zero, List.getElem?_cons_succ, List.set_cons_zero, List.set_cons_succ]))
local macro_rules | `(tactic| mstart) => `(tactic| repeat (first | mleft | mright | mstop))
variable {Q : Rs → Rho → Prop} {E : Exn → Rho → Prop}
theorem PtOk.at : ∀ {B : Int} {ws xs : List Int} {i : Nat} {w x : Int}, PtOk B ws xs → ws[i]? = some w → xs[i]? = some x → PlOk B w x
  | _, [], _, i, w, x, _, e, _ => by simp at e
  | _, _ :: _, [], i, w, x, _, _, e => by simp at e
  | _, v :: ws, y :: xs, 0, w, x, h, e, e2 => by simp at e e2; subst e e2; exact h.1
  | _, v :: ws, y :: xs, i + 1, w, x, h, e, e2 => PtOk.at h.2 (by simpa using e) (by simpa using e2)
theorem numberOn_w {w x B : Int} (hw : w = 0 ∨ 2 ≤ w) (hx : PlOk B w x) (h : Q (.va (.bl true)) [.va (.int w), .va (.int x)]) : RW (m_is_number_on [.va (.int w), .va (.int x)]) Q E := by
  (refine wFun ?_; unfold n_is_number_on; simp only [List.length_cons, List.length_nil, Nat.reduceAdd, Nat.reduceSub, List.replicate, List.cons_append, List.nil_append, Nat.zero_add])
  mstart
  refine ⟨fun q => ?_, fun q => ?_⟩
  · mstart
    refine whole_w rfl ?_
    mexfalso
    rw [show isW (DL.D.int x) = true from rfl]
    mstart
    exact h
  · have e : ¬ w = 0 := by unfold DL.D.eqv at q; simpa using q
    mstart
    refine wholeIn_w rfl ?_
    mexfalso
    have h2 : 0 ≤ x ∧ x < w := by rcases hx with z | z <;> omega
    rw [inR_of (by omega) (by omega)]
    mstart
    exact h
theorem allD_map {bs : List Bool} : allD [.lst (bs.map .bl)] = some (.va (.bl (bs.all id))) := by
  have e : ∀ bs : List Bool, blsOf (bs.map .bl) = some bs := fun bs => by
    induction bs with
    | nil => rfl
    | cons b bs ih =>
      rw [List.map_cons]
      unfold blsOf
      rw [ih]
  unfold allD
  simp only [e]
theorem point_w {B : Int} {ws p : List Int} (hw : WaysOk ws) (h3 : ws.length ≤ 3) (hp : PtOk B ws p) (h : Q (.va (.bl true)) [.va (pt ws), .va (pt p)]) : RW (m_is_point [.va (pt ws), .va (pt p)]) Q E := by
  have hl := hp.len
  (refine wFun ?_; unfold n_is_point; simp only [List.length_cons, List.length_nil, Nat.reduceAdd, Nat.reduceSub, List.replicate, List.cons_append, List.nil_append, Nat.zero_add])
  mstart
  refine tupleOf_w rfl ?_
  mexfalso
  rw [tupR_of (by simp; omega) (by simp; omega)]
  mstart
  refine ⟨fun i acc ρ => acc = List.replicate i (.bl true) ∧ ρ = [.va (pt ws), .va (pt p), .un, .un], ⟨rfl, rfl⟩, ?_, ?_⟩
  · rintro i x acc ρ hx ⟨rfl, rfl⟩
    have hi := get_lt hx
    rw [zip2_len, List.length_map, List.length_map] at hi
    obtain ⟨x1, x2, e1, e2, rfl⟩ := zip2_get hx
    obtain ⟨w, e3, rfl⟩ := int_get e1
    obtain ⟨y, e4, rfl⟩ := int_get e2
    have hw1 := hw w (List.mem_of_getElem? e3)
    refine ⟨_, rfl, ?_⟩
    mstart
    refine numberOn_w (by omega) (hp.at e3 e4) ?_
    mexfalso
    exact ⟨_, _, rfl, by rw [List.replicate_succ'], rfl⟩
  · rintro acc ρ ⟨rfl, rfl⟩
    dsimp only [restoR, wipeR, List.set_cons_zero, List.set_cons_succ, List.getElem?_cons_zero, List.getElem?_cons_succ]
    mstart
    refine ⟨_, _, rfl, all_true, ?_⟩
    mstart
    exact h
theorem pts_get {pts : List (List Int)} {i : Nat} {d : DL.D} (h : (ptsD pts)[i]? = some d) : ∃ p, pts[i]? = some p ∧ d = pt p := by
  rw [List.getElem?_map] at h
  cases e : pts[i]? with
  | none => rw [e] at h; cases h
  | some x => rw [e] at h; cases h; exact ⟨x, rfl, rfl⟩
theorem standingWrong_w {B n : Int} {ws ps : List Int} {pts : List (List Int)} (Y : YardOk ws n ps) (hl : (pts.length : Int) = n) (hp : StOk B ws pts) (h : Q (.va .non) [.va (yd ws n ps), .va (.tup (ptsD pts))]) : RW (m_standing_wrong [.va (yd ws n ps), .va (.tup (ptsD pts))]) Q E := by
  (refine wFun ?_; unfold n_standing_wrong; simp only [List.length_cons, List.length_nil, Nat.reduceAdd, Nat.reduceSub, List.replicate, List.cons_append, List.nil_append, Nat.zero_add])
  mstart
  refine needYard_w Y ?_
  mexfalso
  mstart
  refine tupleOf_w rfl ?_
  mexfalso
  rw [tupR_of (by simp; omega) (by simp; omega)]
  mstart
  refine ⟨fun i ρ => ∃ s5 s6, isIo (some s5) = false ∧ isIo (some s6) = false ∧ ρ = [.va (yd ws n ps), .va (.tup (ptsD pts)), .va (pt ws), .va (.int n), .va (pt ps), s5, s6], ⟨.un, .un, rfl, rfl, rfl⟩, ?_, ?_⟩
  · rintro i x ρ hx ⟨s5, s6, i5, i6, rfl⟩
    obtain ⟨d, e1, rfl⟩ := enum_get hx
    obtain ⟨p, e2, rfl⟩ := pts_get e1
    refine ⟨[.va (yd ws n ps), .va (.tup (ptsD pts)), .va (pt ws), .va (.int n), .va (pt ps), .va (.int ((0 + i : Nat) : Int)), .va (pt p)], ?_, ?_⟩
    · show setVs [5, 6] [_, _] _ = _
      unfold setVs
      rw [if_pos ⟨by simp, i5⟩]
      unfold setVs
      rw [if_pos ⟨by simp, i6⟩]
      rfl
    mstart
    refine point_w Y.w Y.w3 (hp p (List.mem_of_getElem? e2)) ?_
    mexfalso
    mstart
    exact ⟨_, _, rfl, rfl, rfl⟩
  · rintro ρ ⟨s5, s6, i5, i6, rfl⟩
    mstart
    exact h
theorem isStanding_w {B n : Int} {ws ps : List Int} {pts : List (List Int)} (Y : YardOk ws n ps) (hl : (pts.length : Int) = n) (hp : StOk B ws pts) (h : Q (.va (.bl true)) [.va (yd ws n ps), .va (.tup (ptsD pts))]) : RW (m_is_standing [.va (yd ws n ps), .va (.tup (ptsD pts))]) Q E := by
  (refine wFun ?_; unfold n_is_standing; simp only [List.length_cons, List.length_nil, Nat.reduceAdd, Nat.reduceSub, List.replicate, List.cons_append, List.nil_append, Nat.zero_add])
  mstart
  refine standingWrong_w Y hl hp ?_
  mexfalso
  mstart
  exact h
theorem needStanding_w {B n : Int} {ws ps : List Int} {pts : List (List Int)} (Y : YardOk ws n ps) (hl : (pts.length : Int) = n) (hp : StOk B ws pts) (h : Q (.va .non) [.va (yd ws n ps), .va (.tup (ptsD pts))]) : RW (m_need_standing [.va (yd ws n ps), .va (.tup (ptsD pts))]) Q E := by
  (refine wFun ?_; unfold n_need_standing; simp only [List.length_cons, List.length_nil, Nat.reduceAdd, Nat.reduceSub, List.replicate, List.cons_append, List.nil_append, Nat.zero_add])
  mstart
  refine isStanding_w Y hl hp ?_
  mexfalso
  mstart
  exact h
end K4

namespace K4
open PySem L2 PyProof.Rows DL
local macro_rules | `(tactic| mconstructor) => `(tactic| first | exact .inl rfl | exact .inr (.inl rfl) | exact .inr rfl | exact .inr (.inr rfl))
local macro_rules | `(tactic| mpure_intro) => `(tactic| (simp only [cxOf, envOfC, Cx.blk, compEnvC, relab_eq]; decide +kernel))
local macro_rules | `(tactic| mleft) => `(tactic| first | with_reducible refine wSeq ?_ | with_reducible refine wRet ?_ | with_reducible refine wSet ?_ | with_reducible refine wNext ?_ | with_reducible refine wBin ?_ | with_reducible refine wC ?_ | with_reducible refine wCons ?_ | with_reducible refine wNil ?_ | with_reducible refine wTv ?_ | with_reducible refine wUn ?_ | with_reducible refine wBi ?_ | with_reducible refine wLst ?_ | with_reducible refine wTup ?_ | with_reducible refine wNot ?_ | with_reducible refine wNotV ?_ | with_reducible refine wTrue ?_ | with_reducible refine wAnd ?_ | with_reducible refine wOr ?_ | with_reducible refine wIf ?_ | with_reducible refine wIte ?_ | with_reducible refine wAndV ?_ | with_reducible refine wOrV ?_ | with_reducible refine wChain ?_ | with_reducible refine wSl ?_ | with_reducible refine wPN ?_ | with_reducible refine wPS ?_ | with_reducible refine wExpr ?_ | with_reducible refine wRaise ?_ | with_reducible refine wIter ?_ | with_reducible refine wRng ?_ | with_reducible refine wSeqs ?_ | with_reducible refine wCall ?_ | with_reducible refine wSetIx rfl ?_ | with_reducible refine wApp rfl ?_ | with_reducible refine wUnp ?_ | with_reducible refine wFor ?_ | with_reducible refine wComp ?_ | with_reducible refine wFrz ?_ | with_reducible refine wV rfl ?_ | with_reducible refine wVo rfl ?_)
local macro_rules | `(tactic| massumption) => `(tactic| first | decide | omega | assumption | exact cmul 100 100 (by omega) (by omega) (by decide))
local macro_rules | `(tactic| mright) => `(tactic| first | ((with_reducible refine And.intro (a := (_ && _) = true) ?_ ?_); (focus ((try dsimp only [soft, List.map_cons, List.map_nil, toArg, List.getElem?_cons_zero, List.getElem?_cons_succ]); first | rfl | (simp [alNd, pos?, argOk]; done))); (try dsimp only [soft, List.map_cons, List.map_nil, toArg, List.getElem?_cons_zero, List.getElem?_cons_succ])) | ((with_reducible refine And.intro (a := _ < _) ?_ ?_); focus (first | omega | (simp; omega))) | ((with_reducible show And _ _); first | refine ⟨fun z => absurd z (by decide), fun _ => ?_⟩ | refine ⟨fun _ => ?_, fun z => absurd z (by decide)⟩) | ((with_reducible show Exists _); first | refine ⟨_, _, _, rfl, rfl, mod_ok (by massumption), ?_⟩ | refine ⟨_, _, _, rfl, rfl, mul_ok (by massumption), ?_⟩ | refine ⟨_, _, _, rfl, rfl, div_ok (by massumption), ?_⟩ | (refine ⟨_, _, _, rfl, rfl, pow_ok (by decide), ?_⟩; simp only [Int.reduceToNat, Int.reducePow]) | refine ⟨_, _, _, rfl, rfl, rfl, ?_⟩ | refine ⟨_, _, _, rfl, rfl, ix_ok (by assumption), ?_⟩ | refine ⟨_, _, _, rfl, rfl, ixt_ok (by assumption), ?_⟩ | (refine ⟨_, _, _, _, rfl, rfl, rfl, ?_⟩; (try dsimp only [Int.reduceToNat, List.set_cons_zero, List.set_cons_succ])) | refine ⟨_, _, _, _, rfl, rfl, (by first | massumption | (simp; omega)), ?_⟩ | refine ⟨_, _, _, rfl, rfl, ?_⟩ | refine ⟨_, _, rfl, rng_ok (by omega) (by omega), ?_⟩ | refine ⟨_, rfl, ?_⟩ | refine ⟨_, _, rfl, rfl, ?_⟩ | refine ⟨_, _, rfl, (by first | decide | (simp; done)), ?_⟩ | refine ⟨_, _, rfl, ?_⟩))
local macro_rules | `(tactic| mstop) => `(tactic| first | ((with_reducible refine wsv ?_ ?_ ?_); (focus (simp; done)); (focus (first | rfl | assumption | (rw [upd1_none (by rfl)]; assumption))); dsimp only [List.set_cons_zero, List.set_cons_succ]) | ((with_reducible refine wsf ?_ ?_ ?_); (focus (simp; done)); (focus (first | rfl | assumption | (rw [upd1_none (by rfl)]; assumption))); dsimp only [List.set_cons_zero, List.set_cons_succ]))
local macro_rules | `(tactic| mexfalso) => `(tactic| (refine ⟨trivial, ?_⟩; simp only [backC, upd1_va, upd1_un, upd1_v1, upd1_v2, upd1_v3, upd1_v4, upd1_ow, upd1_none, pos?, if_true, if_false, reduceIte, Option.map_some, Option.map_none, Nat.reduceAdd, Nat.reduceEqDiff, List.getElem?_cons_zero, List.getElem?_cons_succ, List.set_cons_zero, List.set_cons_succ]))
local macro_rules | `(tactic| mstart) => `(tactic| repeat (first | mleft | mright | mstop))
variable {Q : Rs → Rho → Prop} {E : Exn → Rho → Prop}
/-- a place as far beyond m as x is ahead of it -/
def by1 (w x m : Int) : Int := if w = 0 then 2 * m - x else (2 * m - x) % w
def byP : List Int → List Int → List Int → List Int
  | w :: ws, x :: xs, m :: ms => by1 w x m :: byP ws xs ms
  | _, _, _ => []
theorem byP_at : ∀ {ws xs ms : List Int} {i : Nat} {w x m : Int}, ws[i]? = some w → xs[i]? = some x → ms[i]? = some m → (byP ws xs ms).take (i + 1) = (byP ws xs ms).take i ++ [by1 w x m]
  | [], _, _, i, w, x, m, e, _, _ => by simp at e
  | _ :: _, [], _, i, w, x, m, _, e, _ => by simp at e
  | _ :: _, _ :: _, [], i, w, x, m, _, _, e => by simp at e
  | w0 :: ws, x0 :: xs, m0 :: ms, 0, w, x, m, e, e2, e3 => by simp at e e2 e3; subst e e2 e3; simp [byP]
  | w0 :: ws, x0 :: xs, m0 :: ms, i + 1, w, x, m, e, e2, e3 => by
    have := byP_at (i := i) (ws := ws) (xs := xs) (ms := ms) (by simpa using e) (by simpa using e2) (by simpa using e3)
    simp only [byP, List.take_succ_cons, List.cons_append]
    rw [this]
theorem byP_len : ∀ {ws xs ms : List Int}, xs.length = ws.length → ms.length = ws.length → (byP ws xs ms).length = ws.length
  | [], [], [], _, _ => rfl
  | w :: ws, x :: xs, m :: ms, h1, h2 => by simp only [byP, List.length_cons]; rw [byP_len (by simpa using h1) (by simpa using h2)]
  | _ :: _, [], _, h, _ => by simp at h
  | _ :: _, _ :: _, [], _, h => by simp at h
  | [], _ :: _, _, h, _ => by simp at h
  | [], [], _ :: _, _, h => by simp at h
theorem beyond_w {B : Int} {ws a m : List Int} (hB0 : 0 ≤ B) (hB : B ≤ 10000000000000000) (hw : WaysOk ws) (h3 : ws.length ≤ 3) (ha : PtOk B ws a) (hm : PtOk B ws m) (h : Q (.va (pt (byP ws a m))) [.va (pt ws), .va (pt a), .va (pt m)]) : RW (m_beyond [.va (pt ws), .va (pt a), .va (pt m)]) Q E := by
  have la := ha.len
  have lm := hm.len
  (refine wFun ?_; unfold n_beyond; simp only [List.length_cons, List.length_nil, Nat.reduceAdd, Nat.reduceSub, List.replicate, List.cons_append, List.nil_append, Nat.zero_add])
  mstart
  refine ⟨fun i acc ρ => acc = ((byP ws a m).take i).map .int ∧ ρ = [.va (pt ws), .va (pt a), .va (pt m), .un, .un, .un], ⟨by simp, rfl⟩, ?_, ?_⟩
  · rintro i x acc ρ hx ⟨rfl, rfl⟩
    have hi := get_lt hx
    rw [zip3_len, List.length_map, List.length_map, List.length_map] at hi
    obtain ⟨x1, x2, x3, e1, e2, e3, rfl⟩ := zip3_get hx
    obtain ⟨w, f1, rfl⟩ := int_get e1
    obtain ⟨y, f2, rfl⟩ := int_get e2
    obtain ⟨z, f3, rfl⟩ := int_get e3
    have hw1 := hw w (List.mem_of_getElem? f1)
    have hz := hm.at f1 f3
    have hz2 : -B - 20000000000 < z ∧ z < B + 20000000000 := by rcases hz with q | q <;> rcases ha.at f1 f2 with q2 | q2 <;> omega
    refine ⟨_, rfl, ?_⟩
    mstart
    refine onto_w (by omega) ?_
    mexfalso
    exact ⟨_, _, rfl, by rw [byP_at f1 f2 f3, List.map_append]; rfl, rfl⟩
  · rintro acc ρ ⟨rfl, rfl⟩
    rw [zip3_len, List.length_map, List.length_map, List.length_map, la, lm, Nat.min_self, Nat.min_self, List.take_of_length_le (by rw [byP_len la lm]; exact Nat.le_refl _)]
    dsimp only [restoR, wipeR, List.set_cons_zero, List.set_cons_succ, List.getElem?_cons_zero, List.getElem?_cons_succ]
    mstart
    exact h
theorem plainPoint_w {p : List Int} (h3 : p.length ≤ 3) (h : Q (.va (pt p)) [.va (pt p)]) : RW (m_plain_point [.va (pt p)]) Q E := by
  (refine wFun ?_; unfold n_plain_point; simp only [List.length_cons, List.length_nil, Nat.reduceAdd, Nat.reduceSub, List.replicate, List.cons_append, List.nil_append, Nat.zero_add])
  mstart
  refine ⟨fun j acc ρ => ρ = [.va (pt p), .un] ∧ acc = (p.take j).map .int, ⟨rfl, by simp⟩, ?_, ?_⟩
  · rintro j x acc ρ hx ⟨rfl, rfl⟩
    obtain ⟨y, e3, rfl⟩ := int_get hx
    have hj := get_lt e3
    refine ⟨_, if_pos ⟨by simp, rfl⟩, ?_⟩
    dsimp only [List.set_cons_zero, List.set_cons_succ]
    mstart
    try refine ⟨by simp; omega, ?_⟩
    mstart
    rw [List.take_add_one, e3, List.map_append]; rfl
  · rintro acc ρ ⟨rfl, rfl⟩
    rw [List.length_map, List.take_length]
    dsimp only [restoR, wipeR, List.set_cons_zero, List.set_cons_succ, List.getElem?_cons_zero, List.getElem?_cons_succ]
    mstart
    exact h
theorem plain_w {pts : List (List Int)} (h6 : pts.length ≤ 6) (h3 : ∀ p ∈ pts, p.length ≤ 3) (h : Q (.fr (ptsD pts)) [.va (.tup (ptsD pts))]) : RW (m_plain_points [.va (.tup (ptsD pts))]) Q E := by
  (refine wFun ?_; unfold n_plain_points; simp only [List.length_cons, List.length_nil, Nat.reduceAdd, Nat.reduceSub, List.replicate, List.cons_append, List.nil_append, Nat.zero_add])
  mstart
  refine ⟨fun i acc ρ => ρ = [.va (.tup (ptsD pts)), .un] ∧ acc = ptsD (pts.take i), ⟨rfl, by simp⟩, ?_, ?_⟩
  · rintro i x acc ρ hx ⟨rfl, rfl⟩
    obtain ⟨p, e2, rfl⟩ := pts_get hx
    have hi := get_lt e2
    have hp := h3 p (List.mem_of_getElem? e2)
    refine ⟨_, if_pos ⟨by simp, rfl⟩, ?_⟩
    dsimp only [List.set_cons_zero, List.set_cons_succ]
    mstart
    try refine ⟨by simp; omega, ?_⟩
    mstart
    refine plainPoint_w hp ?_
    mexfalso
    mstart
    rw [List.take_add_one, e2, ptsD, ptsD, List.map_append]; rfl
  · rintro acc ρ ⟨rfl, rfl⟩
    rw [List.length_map, List.take_length]
    dsimp only [restoR, wipeR, List.set_cons_zero, List.set_cons_succ, List.getElem?_cons_zero, List.getElem?_cons_succ]
    mstart
    exact h
/-- the points behind a leap -/
def leapt (ws : List Int) (pts : List (List Int)) (i j : Int) : List (List Int) := pts.set i.toNat (byP ws (pts.getD i.toNat []) (pts.getD j.toNat []))
theorem at_pts {pts : List (List Int)} {i : Int} (h0 : 0 ≤ i) (h1 : i < pts.length) : atI (ptsD pts) i = some (pt (pts.getD i.toNat [])) ∧ pts[i.toNat]? = some (pts.getD i.toNat []) := by
  have hi : i.toNat < pts.length := by omega
  have e : ((i.toNat : Nat) : Int) = i := Int.toNat_of_nonneg h0
  have g2 : pts[i.toNat]? = some (pts.getD i.toNat []) := by rw [List.getD_eq_getElem?_getD, List.getElem?_eq_getElem hi]; rfl
  refine ⟨?_, g2⟩
  have g : atI (ptsD pts) ((i.toNat : Nat) : Int) = some (pt (pts.getD i.toNat [])) := by
    refine atI_nat (j := i.toNat) ?_
    rw [List.getElem?_map, g2]; rfl
  rw [e] at g
  exact g
theorem ixN_at {n : Nat} {i : Int} (h0 : 0 ≤ i) (h1 : i < n) : ixN n i = some i.toNat := by
  unfold ixN
  rw [if_pos h0, if_pos h1]
theorem pointsAfter_w {B : Int} {ws : List Int} {pts : List (List Int)} {i j : Int} (hB0 : 0 ≤ B) (hB : B ≤ 10000000000000000) (hw : WaysOk ws) (h3 : ws.length ≤ 3) (hp : StOk B ws pts) (i0 : 0 ≤ i) (i1 : i < pts.length) (j0 : 0 ≤ j) (j1 : j < pts.length) (h6 : pts.length ≤ 6)
    (h : Q (.fr (ptsD (leapt ws pts i j))) [.va (pt ws), .va (.lst (ptsD pts)), .va (.lst [pt [i, j]])]) : RW (m_points_after [.va (pt ws), .va (.lst (ptsD pts)), .va (.lst [pt [i, j]])]) Q E := by
  obtain ⟨hx1, hi1⟩ := at_pts i0 i1
  obtain ⟨hx2, hj1⟩ := at_pts j0 j1
  (refine wFun ?_; unfold n_points_after; simp only [List.length_cons, List.length_nil, Nat.reduceAdd, Nat.reduceSub, List.replicate, List.cons_append, List.nil_append, Nat.zero_add])
  mstart
  refine ⟨fun k ρ => ∃ s4 s5, isIo (some s4) = false ∧ isIo (some s5) = false ∧ (k = 0 → ρ = [.va (pt ws), .va (.lst (ptsD pts)), .va (.lst [pt [i, j]]), .ow false (ptsD pts), s4, s5]) ∧ (k = 1 → ρ = [.va (pt ws), .va (.lst (ptsD pts)), .va (.lst [pt [i, j]]), .ow false (ptsD (leapt ws pts i j)), s4, s5]), ⟨.un, .un, rfl, rfl, fun _ => rfl, fun z => by cases z⟩, ?_, ?_⟩
  · rintro k x ρ hx ⟨s4, s5, i4, i5, r0, _⟩
    have hk : k = 0 := by have := get_lt hx; simp at this; exact this
    subst hk
    cases hx
    rw [r0 rfl]
    refine ⟨[.va (pt ws), .va (.lst (ptsD pts)), .va (.lst [pt [i, j]]), .ow false (ptsD pts), .va (.int i), .va (.int j)], ?_, ?_⟩
    · show setVs [4, 5] [_, _] _ = _
      unfold setVs
      rw [if_pos ⟨by simp, i4⟩]
      unfold setVs
      rw [if_pos ⟨by simp, i5⟩]
      rfl
    mstart
    refine beyond_w hB0 hB hw h3 (hp _ (List.mem_of_getElem? hi1)) (hp _ (List.mem_of_getElem? hj1)) ?_
    mexfalso
    mstart
    refine ⟨_, _, _, _, rfl, rfl, ixN_at i0 (by simp; omega), .va (.int i), .va (.int j), rfl, rfl, (fun z => nomatch z), fun _ => ?_⟩
    rw [leapt, ptsD, ptsD, List.map_set]; rfl
  · rintro ρ ⟨s4, s5, i4, i5, _, r1⟩
    rw [r1 rfl]
    mstart
    exact h
end K4

namespace K4
open PySem L2 PyProof.Rows DL
local macro_rules | `(tactic| mconstructor) => `(tactic| first | exact .inl rfl | exact .inr (.inl rfl) | exact .inr rfl | exact .inr (.inr rfl))
local macro_rules | `(tactic| mpure_intro) => `(tactic| (simp only [cxOf, envOfC, Cx.blk, compEnvC, relab_eq]; decide +kernel))
local macro_rules | `(tactic| mleft) => `(tactic| first | with_reducible refine wSeq ?_ | with_reducible refine wRet ?_ | with_reducible refine wSet ?_ | with_reducible refine wNext ?_ | with_reducible refine wBin ?_ | with_reducible refine wC ?_ | with_reducible refine wCons ?_ | with_reducible refine wNil ?_ | with_reducible refine wTv ?_ | with_reducible refine wUn ?_ | with_reducible refine wBi ?_ | with_reducible refine wLst ?_ | with_reducible refine wTup ?_ | with_reducible refine wNot ?_ | with_reducible refine wNotV ?_ | with_reducible refine wTrue ?_ | with_reducible refine wAnd ?_ | with_reducible refine wOr ?_ | with_reducible refine wIf ?_ | with_reducible refine wIte ?_ | with_reducible refine wAndV ?_ | with_reducible refine wOrV ?_ | with_reducible refine wChain ?_ | with_reducible refine wSl ?_ | with_reducible refine wPN ?_ | with_reducible refine wPS ?_ | with_reducible refine wExpr ?_ | with_reducible refine wRaise ?_ | with_reducible refine wIter ?_ | with_reducible refine wRng ?_ | with_reducible refine wSeqs ?_ | with_reducible refine wCall ?_ | with_reducible refine wSetIx rfl ?_ | with_reducible refine wApp rfl ?_ | with_reducible refine wUnp ?_ | with_reducible refine wFor ?_ | with_reducible refine wComp ?_ | with_reducible refine wFrz ?_ | with_reducible refine wV rfl ?_ | with_reducible refine wVo rfl ?_)
local macro_rules | `(tactic| massumption) => `(tactic| first | decide | omega | assumption | exact cmul 100 100 (by omega) (by omega) (by decide))
local macro_rules | `(tactic| mright) => `(tactic| first | ((with_reducible refine And.intro (a := (_ && _) = true) ?_ ?_); (focus ((try dsimp only [soft, List.map_cons, List.map_nil, toArg, List.getElem?_cons_zero, List.getElem?_cons_succ]); first | rfl | (simp [alNd, pos?, argOk]; done))); (try dsimp only [soft, List.map_cons, List.map_nil, toArg, List.getElem?_cons_zero, List.getElem?_cons_succ])) | ((with_reducible refine And.intro (a := _ < _) ?_ ?_); focus (first | omega | (simp; omega))) | ((with_reducible show And _ _); first | refine ⟨fun z => absurd z (by decide), fun _ => ?_⟩ | refine ⟨fun _ => ?_, fun z => absurd z (by decide)⟩) | ((with_reducible show Exists _); first | refine ⟨_, _, _, rfl, rfl, mod_ok (by massumption), ?_⟩ | refine ⟨_, _, _, rfl, rfl, mul_ok (by massumption), ?_⟩ | refine ⟨_, _, _, rfl, rfl, div_ok (by massumption), ?_⟩ | (refine ⟨_, _, _, rfl, rfl, pow_ok (by decide), ?_⟩; simp only [Int.reduceToNat, Int.reducePow]) | refine ⟨_, _, _, rfl, rfl, rfl, ?_⟩ | refine ⟨_, _, _, rfl, rfl, ix_ok (by assumption), ?_⟩ | refine ⟨_, _, _, rfl, rfl, ixt_ok (by assumption), ?_⟩ | (refine ⟨_, _, _, _, rfl, rfl, rfl, ?_⟩; (try dsimp only [Int.reduceToNat, List.set_cons_zero, List.set_cons_succ])) | refine ⟨_, _, _, _, rfl, rfl, (by first | massumption | (simp; omega)), ?_⟩ | refine ⟨_, _, _, rfl, rfl, ?_⟩ | refine ⟨_, _, rfl, rng_ok (by omega) (by omega), ?_⟩ | refine ⟨_, rfl, ?_⟩ | refine ⟨_, _, rfl, rfl, ?_⟩ | refine ⟨_, _, rfl, (by first | decide | (simp; done)), ?_⟩ | refine ⟨_, _, rfl, ?_⟩))
local macro_rules | `(tactic| mstop) => `(tactic| first | ((with_reducible refine wsv ?_ ?_ ?_); (focus (simp; done)); (focus (first | rfl | assumption | (rw [upd1_none (by rfl)]; assumption))); dsimp only [List.set_cons_zero, List.set_cons_succ]) | ((with_reducible refine wsf ?_ ?_ ?_); (focus (simp; done)); (focus (first | rfl | assumption | (rw [upd1_none (by rfl)]; assumption))); dsimp only [List.set_cons_zero, List.set_cons_succ]))
local macro_rules | `(tactic| mexfalso) => `(tactic| (refine ⟨trivial, ?_⟩; simp only [backC, upd1_va, upd1_un, upd1_v1, upd1_v2, upd1_v3, upd1_v4, upd1_ow, upd1_none, pos?, if_true, if_false, reduceIte, Option.map_some, Option.map_none, Nat.reduceAdd, Nat.reduceEqDiff, List.getElem?_cons_zero, List.getElem?_cons_succ, List.set_cons_zero, List.set_cons_succ]))
local macro_rules | `(tactic| mstart) => `(tactic| repeat (first | mleft | mright | mstop))
variable {Q : Rs → Rho → Prop} {E : Exn → Rho → Prop}
/-- a leap of a yard, by a look -/
def isLp (n : Int) (ps : List Int) : DL.D → Bool
  | .tup [.int i, .int j] => decide (0 ≤ i ∧ i < n ∧ 0 ≤ j ∧ j < n ∧ i ≠ j ∧ i ∉ ps)
  | _ => false
/-- a thing that may be asked of -/
def Plt (d : DL.D) : Prop := Pl d ∧ ∀ xs, d = .tup xs → ∀ x ∈ xs, Pl x
theorem isLp_no2 {n : Int} {ps : List Int} {d : DL.D} (h : ∀ a b, d ≠ .tup [a, b]) : isLp n ps d = false ∧ tupR 2 2 d = false := by
  cases d with
  | tup xs =>
    match xs with
    | [] => exact ⟨rfl, rfl⟩
    | [a] => exact ⟨by cases a <;> rfl, rfl⟩
    | [a, b] => exact (h a b rfl).elim
    | a :: b :: c :: r =>
      refine ⟨by cases a <;> cases b <;> rfl, ?_⟩
      show (decide ((2 : Int) ≤ ((a :: b :: c :: r).length : Int)) && decide (((a :: b :: c :: r).length : Int) ≤ 2)) = false
      rw [decide_eq_false (p := (((a :: b :: c :: r).length : Int) ≤ 2)) (by simp only [List.length_cons]; omega), Bool.and_false]
  | _ => exact ⟨rfl, rfl⟩
theorem isLp_non {n : Int} {ps : List Int} {a b : DL.D} (h : ¬ (isW a = true ∧ isW b = true)) : isLp n ps (.tup [a, b]) = false := by
  cases a with
  | int i =>
    cases b with
    | int j => exact (h ⟨rfl, rfl⟩).elim
    | _ => rfl
  | _ => cases b <;> rfl
def inN (n : Int) (x : DL.D) : Bool := inR 0 (n - 1) x
theorem isLeap_w {n : Int} {ps : List Int} {d : DL.D} (hd : Plt d) (h : Q (.va (.bl (isLp n ps d))) [.va (.int n), .va (pt ps), .va d]) : RW (m_is_leap [.va (.int n), .va (pt ps), .va d]) Q E := by
  (refine wFun ?_; unfold n_is_leap; simp only [List.length_cons, List.length_nil, Nat.reduceAdd, Nat.reduceSub, List.replicate, List.cons_append, List.nil_append, Nat.zero_add])
  mstart
  refine tupleOf_w hd.1 ?_
  mexfalso
  by_cases h2 : ∃ a b, d = .tup [a, b]
  · obtain ⟨a, b, rfl⟩ := h2
    have pa := hd.2 _ rfl a (.head _)
    have pb := hd.2 _ rfl b (.tail _ (.head _))
    rw [show tupR 2 2 (.tup [a, b]) = true from rfl]
    mstart
    refine ⟨fun i acc ρ => ρ = [.va (.int n), .va (pt ps), .va (.tup [a, b]), .un, .un, .un] ∧ acc = (([a, b].take i).map (inN n)).map .bl, ⟨rfl, rfl⟩, ?_, ?_⟩
    · rintro i x acc ρ hx ⟨rfl, rfl⟩
      have hi := get_lt hx
      have px : Pl x := by
        have := List.mem_of_getElem? hx
        simp at this
        rcases this with rfl | rfl
        · exact pa
        · exact pb
      refine ⟨_, if_pos ⟨by simp, rfl⟩, ?_⟩
      dsimp only [List.set_cons_zero, List.set_cons_succ]
      mstart
      try refine ⟨by simp; omega, ?_⟩
      mstart
      refine wholeIn_w px ?_
      mexfalso
      exact ⟨_, _, rfl, rfl, by rw [List.take_add_one, hx, List.map_append, List.map_append]; rfl⟩
    · rintro acc ρ ⟨rfl, rfl⟩
      dsimp only [restoR, wipeR, List.set_cons_zero, List.set_cons_succ, List.getElem?_cons_zero, List.getElem?_cons_succ]
      mstart
      have ea : ([inN n a, inN n b].all id) = (inR 0 (n - 1) a && inR 0 (n - 1) b) := by simp [inN]
      rw [ea]
      cases ca : inR 0 (n - 1) a with
      | false =>
        rw [Bool.false_and]
        mstart
        have e : isLp n ps (.tup [a, b]) = false := by
          cases a with
          | int i =>
            cases b with
            | int j =>
              have ca : (decide (0 ≤ i) && decide (i ≤ n - 1)) = false := ca
              show decide _ = false
              refine decide_eq_false fun z => ?_
              rw [decide_eq_true z.1, decide_eq_true (show i ≤ n - 1 by omega)] at ca
              cases ca
            | _ => rfl
          | _ => cases b <;> rfl
        rw [e] at h
        exact h
      | true =>
        cases cb : inR 0 (n - 1) b with
        | false =>
          mstart
          have e : isLp n ps (.tup [a, b]) = false := by
            cases a with
            | int i =>
              cases b with
              | int j =>
                have cb : (decide (0 ≤ j) && decide (j ≤ n - 1)) = false := cb
                show decide _ = false
                refine decide_eq_false fun z => ?_
                rw [decide_eq_true z.2.2.1, decide_eq_true (show j ≤ n - 1 by omega)] at cb
                cases cb
              | _ => rfl
            | _ => cases b <;> rfl
          rw [e] at h
          exact h
        | true =>
          cases a with
          | int i =>
            cases b with
            | int j =>
              have ca : (decide (0 ≤ i) && decide (i ≤ n - 1)) = true := ca
              have cb : (decide (0 ≤ j) && decide (j ≤ n - 1)) = true := cb
              rw [Bool.and_eq_true, decide_eq_true_eq, decide_eq_true_eq] at ca cb
              mstart
              have h : Q (.va (.bl (decide (0 ≤ i ∧ i < n ∧ 0 ≤ j ∧ j < n ∧ i ≠ j ∧ i ∉ ps)))) [.va (.int n), .va (pt ps), .va (.tup [.int i, .int j])] := h
              refine ⟨fun q => ?_, fun q => ?_⟩
              · have hij : i ≠ j := by
                  intro z
                  subst z
                  unfold DL.D.eqv at q
                  simp at q
                mstart
                refine ⟨_, _, _, rfl, rfl, in_t, ?_⟩
                mstart
                have e : (!(ps.contains i)) = decide (0 ≤ i ∧ i < n ∧ 0 ≤ j ∧ j < n ∧ i ≠ j ∧ i ∉ ps) := by
                  by_cases hp : i ∈ ps
                  · rw [decide_eq_false (fun z => z.2.2.2.2.2 hp)]; simp [hp]
                  · rw [decide_eq_true ⟨ca.1, by omega, cb.1, by omega, hij, hp⟩]; simp [hp]
                rw [e]
                exact h
              · have hij : i = j := by
                  unfold DL.D.eqv at q
                  simpa using q
                mstart
                rw [decide_eq_false (fun z => z.2.2.2.2.1 hij)] at h
                exact h
            | _ => cases cb
          | _ => cases ca
  · obtain ⟨e1, e2⟩ := isLp_no2 (n := n) (ps := ps) (fun a b e => h2 ⟨a, b, e⟩)
    rw [e2]
    rw [e1] at h
    mstart
    exact h
/-- what leapt is asked of: the yard and the standing are right -/
structure Here (B : Int) (ws : List Int) (n : Int) (ps : List Int) (pts : List (List Int)) : Prop where
  y : YardOk ws n ps
  l : (pts.length : Int) = n
  p : StOk B ws pts
end K4

namespace K4
open PySem L2 PyProof.Rows DL
local macro_rules | `(tactic| mconstructor) => `(tactic| first | exact .inl rfl | exact .inr (.inl rfl) | exact .inr rfl | exact .inr (.inr rfl))
local macro_rules | `(tactic| mpure_intro) => `(tactic| (simp only [cxOf, envOfC, Cx.blk, compEnvC, relab_eq]; decide +kernel))
local macro_rules | `(tactic| mleft) => `(tactic| first | with_reducible refine wSeq ?_ | with_reducible refine wRet ?_ | with_reducible refine wSet ?_ | with_reducible refine wNext ?_ | with_reducible refine wBin ?_ | with_reducible refine wC ?_ | with_reducible refine wCons ?_ | with_reducible refine wNil ?_ | with_reducible refine wTv ?_ | with_reducible refine wUn ?_ | with_reducible refine wBi ?_ | with_reducible refine wLst ?_ | with_reducible refine wTup ?_ | with_reducible refine wNot ?_ | with_reducible refine wNotV ?_ | with_reducible refine wTrue ?_ | with_reducible refine wAnd ?_ | with_reducible refine wOr ?_ | with_reducible refine wIf ?_ | with_reducible refine wIte ?_ | with_reducible refine wAndV ?_ | with_reducible refine wOrV ?_ | with_reducible refine wChain ?_ | with_reducible refine wSl ?_ | with_reducible refine wPN ?_ | with_reducible refine wPS ?_ | with_reducible refine wExpr ?_ | with_reducible refine wRaise ?_ | with_reducible refine wIter ?_ | with_reducible refine wRng ?_ | with_reducible refine wSeqs ?_ | with_reducible refine wCall ?_ | with_reducible refine wSetIx rfl ?_ | with_reducible refine wApp rfl ?_ | with_reducible refine wUnp ?_ | with_reducible refine wFor ?_ | with_reducible refine wComp ?_ | with_reducible refine wFrz ?_ | with_reducible refine wV rfl ?_ | with_reducible refine wVo rfl ?_)
local macro_rules | `(tactic| massumption) => `(tactic| first | decide | omega | assumption | exact cmul 100 100 (by omega) (by omega) (by decide))
local macro_rules | `(tactic| mright) => `(tactic| first | ((with_reducible refine And.intro (a := (_ && _) = true) ?_ ?_); (focus ((try dsimp only [soft, List.map_cons, List.map_nil, toArg, List.getElem?_cons_zero, List.getElem?_cons_succ]); first | rfl | (simp [alNd, pos?, argOk]; done))); (try dsimp only [soft, List.map_cons, List.map_nil, toArg, List.getElem?_cons_zero, List.getElem?_cons_succ])) | ((with_reducible refine And.intro (a := _ < _) ?_ ?_); focus (first | omega | (simp; omega))) | ((with_reducible show And _ _); first | refine ⟨fun z => absurd z (by decide), fun _ => ?_⟩ | refine ⟨fun _ => ?_, fun z => absurd z (by decide)⟩) | ((with_reducible show Exists _); first | refine ⟨_, _, _, rfl, rfl, mod_ok (by massumption), ?_⟩ | refine ⟨_, _, _, rfl, rfl, mul_ok (by massumption), ?_⟩ | refine ⟨_, _, _, rfl, rfl, div_ok (by massumption), ?_⟩ | (refine ⟨_, _, _, rfl, rfl, pow_ok (by decide), ?_⟩; simp only [Int.reduceToNat, Int.reducePow]) | refine ⟨_, _, _, rfl, rfl, rfl, ?_⟩ | refine ⟨_, _, _, rfl, rfl, ix_ok (by assumption), ?_⟩ | refine ⟨_, _, _, rfl, rfl, ixt_ok (by assumption), ?_⟩ | (refine ⟨_, _, _, _, rfl, rfl, rfl, ?_⟩; (try dsimp only [Int.reduceToNat, List.set_cons_zero, List.set_cons_succ])) | refine ⟨_, _, _, _, rfl, rfl, (by first | massumption | (simp; omega)), ?_⟩ | refine ⟨_, _, _, rfl, rfl, ?_⟩ | refine ⟨_, _, rfl, rng_ok (by omega) (by omega), ?_⟩ | refine ⟨_, rfl, ?_⟩ | refine ⟨_, _, rfl, rfl, ?_⟩ | refine ⟨_, _, rfl, (by first | decide | (simp; done)), ?_⟩ | refine ⟨_, _, rfl, ?_⟩))
local macro_rules | `(tactic| mstop) => `(tactic| first | ((with_reducible refine wsv ?_ ?_ ?_); (focus (simp; done)); (focus (first | rfl | assumption | (rw [upd1_none (by rfl)]; assumption))); dsimp only [List.set_cons_zero, List.set_cons_succ]) | ((with_reducible refine wsf ?_ ?_ ?_); (focus (simp; done)); (focus (first | rfl | assumption | (rw [upd1_none (by rfl)]; assumption))); dsimp only [List.set_cons_zero, List.set_cons_succ]))
local macro_rules | `(tactic| mexfalso) => `(tactic| (refine ⟨trivial, ?_⟩; simp only [backC, upd1_va, upd1_un, upd1_v1, upd1_v2, upd1_v3, upd1_v4, upd1_ow, upd1_none, pos?, if_true, if_false, reduceIte, Option.map_some, Option.map_none, Nat.reduceAdd, Nat.reduceEqDiff, List.getElem?_cons_zero, List.getElem?_cons_succ, List.set_cons_zero, List.set_cons_succ]))
local macro_rules | `(tactic| mstart) => `(tactic| repeat (first | mleft | mright | mstop))
/-- a place brought onto its way -/
def rd (w y : Int) : Int := if w = 0 then y else y % w
def z3 (f : Int → Int → Int → Int) : List Int → List Int → List Int → List Int
  | w :: ws, x :: xs, m :: ms => f w x m :: z3 f ws xs ms
  | _, _, _ => []
theorem z3_at {f : Int → Int → Int → Int} : ∀ {ws xs ms : List Int} {i : Nat} {w x m : Int}, ws[i]? = some w → xs[i]? = some x → ms[i]? = some m → (z3 f ws xs ms).take (i + 1) = (z3 f ws xs ms).take i ++ [f w x m]
  | [], _, _, i, w, x, m, e, _, _ => by simp at e
  | _ :: _, [], _, i, w, x, m, _, e, _ => by simp at e
  | _ :: _, _ :: _, [], i, w, x, m, _, _, e => by simp at e
  | w0 :: ws, x0 :: xs, m0 :: ms, 0, w, x, m, e, e2, e3 => by simp at e e2 e3; subst e e2 e3; simp [z3]
  | w0 :: ws, x0 :: xs, m0 :: ms, i + 1, w, x, m, e, e2, e3 => by
    have := z3_at (f := f) (i := i) (ws := ws) (xs := xs) (ms := ms) (by simpa using e) (by simpa using e2) (by simpa using e3)
    simp only [z3, List.take_succ_cons, List.cons_append]
    rw [this]
theorem z3_len {f : Int → Int → Int → Int} : ∀ {ws xs ms : List Int}, xs.length = ws.length → ms.length = ws.length → (z3 f ws xs ms).length = ws.length
  | [], [], [], _, _ => rfl
  | w :: ws, x :: xs, m :: ms, h1, h2 => by simp only [z3, List.length_cons]; rw [z3_len (by simpa using h1) (by simpa using h2)]
  | _ :: _, [], _, h, _ => by simp at h
  | _ :: _, _ :: _, [], _, h => by simp at h
  | [], _ :: _, _, h, _ => by simp at h
  | [], [], _ :: _, _, h => by simp at h
theorem z3_mem {f : Int → Int → Int → Int} {y : Int} : ∀ {ws xs ms : List Int}, y ∈ z3 f ws xs ms → ∃ w x m, w ∈ ws ∧ x ∈ xs ∧ m ∈ ms ∧ y = f w x m
  | w :: ws, x :: xs, m :: ms, h => by
    simp only [z3, List.mem_cons] at h
    rcases h with h | h
    · exact ⟨w, x, m, .head _, .head _, .head _, h⟩
    · obtain ⟨w', x', m', a, b, c, e⟩ := z3_mem h
      exact ⟨w', x', m', .tail _ a, .tail _ b, .tail _ c, e⟩
  | [], _, _, h => by simp [z3] at h
  | _ :: _, [], _, h => by simp [z3] at h
  | _ :: _, _ :: _, [], h => by simp [z3] at h
theorem byP_z3 : ∀ {ws xs ms : List Int}, byP ws xs ms = z3 (fun w x m => rd w (2 * m - x)) ws xs ms
  | [], _, _ => by simp [byP, z3]
  | _ :: _, [], _ => by simp [byP, z3]
  | _ :: _, _ :: _, [] => by simp [byP, z3]
  | w :: ws, x :: xs, m :: ms => by simp only [byP, z3, by1, rd]; rw [byP_z3]; rfl
/-- leaps, one after the other -/
def aft (ws : List Int) (pts : List (List Int)) (L : List (Int × Int)) : List (List Int) := L.foldl (fun p l => leapt ws p l.1 l.2) pts
theorem aft_snoc {ws : List Int} {pts : List (List Int)} {L : List (Int × Int)} {l : Int × Int} : aft ws pts (L ++ [l]) = leapt ws (aft ws pts L) l.1 l.2 := by simp [aft]
/-- all numbers have at most M bits -/
def Bg (M : Nat) (pts : List (List Int)) : Prop := ∀ p ∈ pts, ∀ x ∈ p, x.natAbs < 2 ^ M
def Ln (m : Nat) (pts : List (List Int)) : Prop := ∀ p ∈ pts, p.length = m
def GoodL (n : Nat) (L : List (Int × Int)) : Prop := ∀ l ∈ L, 0 ≤ l.1 ∧ l.1 < n ∧ 0 ≤ l.2 ∧ l.2 < n
theorem Bg.mono {M N : Nat} {pts : List (List Int)} (h : Bg M pts) (q : M ≤ N) : Bg N pts := fun p hp x hx => Nat.lt_of_lt_of_le (h p hp x hx) (Nat.pow_le_pow_right (by decide) q)
theorem rd_bd {w y : Int} {M : Nat} (hw : w = 0 ∨ (2 ≤ w ∧ w < 20000000000)) (hM : 35 ≤ M) (hy : y.natAbs < 2 ^ M) : (rd w y).natAbs < 2 ^ M := by
  unfold rd
  split
  · exact hy
  · have h1 := Int.emod_nonneg y (show w ≠ 0 by omega)
    have h2 := Int.emod_lt_of_pos y (show 0 < w by omega)
    have h3 : 2 ^ 35 ≤ 2 ^ M := Nat.pow_le_pow_right (by decide) hM
    have h4 : (2 : Nat) ^ 35 = 34359738368 := by decide
    omega
theorem pw2 {M : Nat} : 2 ^ (M + 2) = 4 * 2 ^ M := by rw [Nat.pow_add]; omega
theorem getD_mem {pts : List (List Int)} {i : Nat} (h : i < pts.length) : pts.getD i [] ∈ pts := by
  rw [List.getD_eq_getElem?_getD, List.getElem?_eq_getElem h]; exact List.getElem_mem h
theorem leapt_len {ws : List Int} {pts : List (List Int)} {i j : Int} : (leapt ws pts i j).length = pts.length := by simp [leapt]
theorem leapt_ln {ws : List Int} {pts : List (List Int)} {i j : Int} (h : Ln ws.length pts) (i0 : 0 ≤ i) (i1 : i < pts.length) (j0 : 0 ≤ j) (j1 : j < pts.length) : Ln ws.length (leapt ws pts i j) := by
  intro p hp
  rcases List.mem_or_eq_of_mem_set hp with hp | rfl
  · exact h p hp
  · rw [byP_z3]; exact z3_len (h _ (getD_mem (by omega))) (h _ (getD_mem (by omega)))
theorem leapt_bg {M : Nat} {ws : List Int} {pts : List (List Int)} {i j : Int} (hw : WaysOk ws) (hM : 35 ≤ M) (h : Bg M pts) (i0 : 0 ≤ i) (i1 : i < pts.length) (j0 : 0 ≤ j) (j1 : j < pts.length) : Bg (M + 2) (leapt ws pts i j) := by
  intro p hp x hx
  rcases List.mem_or_eq_of_mem_set hp with hp | rfl
  · exact h.mono (Nat.le_add_right _ _) p hp x hx
  · rw [byP_z3] at hx
    obtain ⟨w, y, m, a, b, c, rfl⟩ := z3_mem hx
    refine rd_bd (hw w a) (by omega) ?_
    have h1 := h _ (getD_mem (show i.toNat < pts.length by omega)) y b
    have h2 := h _ (getD_mem (show j.toNat < pts.length by omega)) m c
    rw [pw2]
    omega
theorem aft_all {M : Nat} {ws : List Int} (hw : WaysOk ws) (hM : 35 ≤ M) : ∀ {L : List (Int × Int)} {pts : List (List Int)}, Bg M pts → Ln ws.length pts → GoodL pts.length L → Bg (M + 2 * L.length) (aft ws pts L) ∧ Ln ws.length (aft ws pts L) ∧ (aft ws pts L).length = pts.length := by
  intro L
  induction L generalizing M with
  | nil => intro pts h1 h2 _; exact ⟨h1, h2, rfl⟩
  | cons l L ih =>
    intro pts h1 h2 h3
    obtain ⟨a, b, c, d⟩ := h3 l (.head _)
    have := ih (M := M + 2) (by omega) (pts := leapt ws pts l.1 l.2) (leapt_bg hw hM h1 a b c d) (leapt_ln h2 a b c d) (by rw [leapt_len]; exact fun x hx => h3 x (.tail _ hx))
    rw [leapt_len, show M + 2 + 2 * L.length = M + 2 * (l :: L).length by simp; omega] at this
    exact this
end K4

namespace K4
open PySem L2 PyProof.Rows DL
local macro_rules | `(tactic| mconstructor) => `(tactic| first | exact .inl rfl | exact .inr (.inl rfl) | exact .inr rfl | exact .inr (.inr rfl))
local macro_rules | `(tactic| mpure_intro) => `(tactic| (simp only [cxOf, envOfC, Cx.blk, compEnvC, relab_eq]; decide +kernel))
local macro_rules | `(tactic| mleft) => `(tactic| first | with_reducible refine wSeq ?_ | with_reducible refine wRet ?_ | with_reducible refine wSet ?_ | with_reducible refine wNext ?_ | with_reducible refine wBin ?_ | with_reducible refine wC ?_ | with_reducible refine wCons ?_ | with_reducible refine wNil ?_ | with_reducible refine wTv ?_ | with_reducible refine wUn ?_ | with_reducible refine wBi ?_ | with_reducible refine wLst ?_ | with_reducible refine wTup ?_ | with_reducible refine wNot ?_ | with_reducible refine wNotV ?_ | with_reducible refine wTrue ?_ | with_reducible refine wAnd ?_ | with_reducible refine wOr ?_ | with_reducible refine wIf ?_ | with_reducible refine wIte ?_ | with_reducible refine wAndV ?_ | with_reducible refine wOrV ?_ | with_reducible refine wChain ?_ | with_reducible refine wSl ?_ | with_reducible refine wPN ?_ | with_reducible refine wPS ?_ | with_reducible refine wExpr ?_ | with_reducible refine wRaise ?_ | with_reducible refine wIter ?_ | with_reducible refine wRng ?_ | with_reducible refine wSeqs ?_ | with_reducible refine wCall ?_ | with_reducible refine wSetIx rfl ?_ | with_reducible refine wApp rfl ?_ | with_reducible refine wUnp ?_ | with_reducible refine wFor ?_ | with_reducible refine wComp ?_ | with_reducible refine wFrz ?_ | with_reducible refine wV rfl ?_ | with_reducible refine wVo rfl ?_)
local macro_rules | `(tactic| massumption) => `(tactic| first | decide | omega | assumption | exact cmul 100 100 (by omega) (by omega) (by decide))
local macro_rules | `(tactic| mright) => `(tactic| first | ((with_reducible refine And.intro (a := (_ && _) = true) ?_ ?_); (focus ((try dsimp only [soft, List.map_cons, List.map_nil, toArg, List.getElem?_cons_zero, List.getElem?_cons_succ]); first | rfl | (simp [alNd, pos?, argOk]; done))); (try dsimp only [soft, List.map_cons, List.map_nil, toArg, List.getElem?_cons_zero, List.getElem?_cons_succ])) | ((with_reducible refine And.intro (a := _ < _) ?_ ?_); focus (first | omega | (simp; omega))) | ((with_reducible show And _ _); first | refine ⟨fun z => absurd z (by decide), fun _ => ?_⟩ | refine ⟨fun _ => ?_, fun z => absurd z (by decide)⟩) | ((with_reducible show Exists _); first | refine ⟨_, _, _, rfl, rfl, mod_ok (by massumption), ?_⟩ | refine ⟨_, _, _, rfl, rfl, mul_ok (by massumption), ?_⟩ | refine ⟨_, _, _, rfl, rfl, div_ok (by massumption), ?_⟩ | (refine ⟨_, _, _, rfl, rfl, pow_ok (by decide), ?_⟩; simp only [Int.reduceToNat, Int.reducePow]) | refine ⟨_, _, _, rfl, rfl, rfl, ?_⟩ | refine ⟨_, _, _, rfl, rfl, ix_ok (by assumption), ?_⟩ | refine ⟨_, _, _, rfl, rfl, ixt_ok (by assumption), ?_⟩ | (refine ⟨_, _, _, _, rfl, rfl, rfl, ?_⟩; (try dsimp only [Int.reduceToNat, List.set_cons_zero, List.set_cons_succ])) | refine ⟨_, _, _, _, rfl, rfl, (by first | massumption | (simp; omega)), ?_⟩ | refine ⟨_, _, _, rfl, rfl, ?_⟩ | refine ⟨_, _, rfl, rng_ok (by omega) (by omega), ?_⟩ | refine ⟨_, rfl, ?_⟩ | refine ⟨_, _, rfl, rfl, ?_⟩ | refine ⟨_, _, rfl, (by first | decide | (simp; done)), ?_⟩ | refine ⟨_, _, rfl, ?_⟩))
local macro_rules | `(tactic| mstop) => `(tactic| first | ((with_reducible refine wsv ?_ ?_ ?_); (focus (simp; done)); (focus (first | rfl | assumption | (rw [upd1_none (by rfl)]; assumption))); dsimp only [List.set_cons_zero, List.set_cons_succ]) | ((with_reducible refine wsf ?_ ?_ ?_); (focus (simp; done)); (focus (first | rfl | assumption | (rw [upd1_none (by rfl)]; assumption))); dsimp only [List.set_cons_zero, List.set_cons_succ]))
local macro_rules | `(tactic| mexfalso) => `(tactic| (refine ⟨trivial, ?_⟩; simp only [backC, upd1_va, upd1_un, upd1_v1, upd1_v2, upd1_v3, upd1_v4, upd1_ow, upd1_none, pos?, if_true, if_false, reduceIte, Option.map_some, Option.map_none, Nat.reduceAdd, Nat.reduceEqDiff, List.getElem?_cons_zero, List.getElem?_cons_succ, List.set_cons_zero, List.set_cons_succ]))
local macro_rules | `(tactic| mstart) => `(tactic| repeat (first | mleft | mright | mstop))
variable {Q : Rs → Rho → Prop} {E : Exn → Rho → Prop}
abbrev lpD (l : Int × Int) : DL.D := pt [l.1, l.2]
theorem bey_w {M : Nat} {ws a m : List Int} (hM : M ≤ 900000) (hw : WaysOk ws) (h3 : ws.length ≤ 6) (la : a.length = ws.length) (lm : m.length = ws.length) (hm : ∀ x ∈ m, x.natAbs < 2 ^ M) (h : Q (.va (pt (byP ws a m))) [.va (pt ws), .va (pt a), .va (pt m)]) : RW (m_beyond [.va (pt ws), .va (pt a), .va (pt m)]) Q E := by
  (refine wFun ?_; unfold n_beyond; simp only [List.length_cons, List.length_nil, Nat.reduceAdd, Nat.reduceSub, List.replicate, List.cons_append, List.nil_append, Nat.zero_add])
  mstart
  refine ⟨fun i acc ρ => acc = ((byP ws a m).take i).map .int ∧ ρ = [.va (pt ws), .va (pt a), .va (pt m), .un, .un, .un], ⟨by simp, rfl⟩, ?_, ?_⟩
  · rintro i x acc ρ hx ⟨rfl, rfl⟩
    have hi := get_lt hx
    rw [zip3_len, List.length_map, List.length_map, List.length_map] at hi
    obtain ⟨x1, x2, x3, e1, e2, e3, rfl⟩ := zip3_get hx
    obtain ⟨w, f1, rfl⟩ := int_get e1
    obtain ⟨y, f2, rfl⟩ := int_get e2
    obtain ⟨z, f3, rfl⟩ := int_get e3
    have hw1 := hw w (List.mem_of_getElem? f1)
    have hz : CMulW 2 z := cmul 2 M (by decide) (hm z (List.mem_of_getElem? f3)) (by omega)
    refine ⟨_, rfl, ?_⟩
    mstart
    refine onto_w (by omega) ?_
    mexfalso
    exact ⟨_, _, rfl, by rw [byP_at f1 f2 f3, List.map_append]; rfl, rfl⟩
  · rintro acc ρ ⟨rfl, rfl⟩
    rw [zip3_len, List.length_map, List.length_map, List.length_map, la, lm, Nat.min_self, Nat.min_self, List.take_of_length_le (by rw [byP_len la lm]; exact Nat.le_refl _)]
    dsimp only [restoR, wipeR, List.set_cons_zero, List.set_cons_succ, List.getElem?_cons_zero, List.getElem?_cons_succ]
    mstart
    exact h
def mv1 (t w x y : Int) : Int := rd w (x + t * (y - x))
theorem mov_w {M : Nat} {t : Int} {ws a m : List Int} (hM : M ≤ 900000) (ht : t.natAbs < 2 ^ 64) (hw : WaysOk ws) (h3 : ws.length ≤ 6) (la : a.length = ws.length) (lm : m.length = ws.length) (ha : ∀ x ∈ a, x.natAbs < 2 ^ M) (hm : ∀ x ∈ m, x.natAbs < 2 ^ M) (h : Q (.va (pt (z3 (mv1 t) ws a m))) [.va (pt ws), .va (pt a), .va (pt m), .va (.int t)]) : RW (m_moved_on [.va (pt ws), .va (pt a), .va (pt m), .va (.int t)]) Q E := by
  (refine wFun ?_; unfold n_moved_on; simp only [List.length_cons, List.length_nil, Nat.reduceAdd, Nat.reduceSub, List.replicate, List.cons_append, List.nil_append, Nat.zero_add])
  mstart
  refine ⟨fun i acc ρ => acc = ((z3 (mv1 t) ws a m).take i).map .int ∧ ρ = [.va (pt ws), .va (pt a), .va (pt m), .va (.int t), .un, .un, .un], ⟨by simp, rfl⟩, ?_, ?_⟩
  · rintro i x acc ρ hx ⟨rfl, rfl⟩
    have hi := get_lt hx
    rw [zip3_len, List.length_map, List.length_map, List.length_map] at hi
    obtain ⟨x1, x2, x3, e1, e2, e3, rfl⟩ := zip3_get hx
    obtain ⟨w, f1, rfl⟩ := int_get e1
    obtain ⟨y, f2, rfl⟩ := int_get e2
    obtain ⟨z, f3, rfl⟩ := int_get e3
    have hw1 := hw w (List.mem_of_getElem? f1)
    have hz1 := hm z (List.mem_of_getElem? f3)
    have hz2 := ha y (List.mem_of_getElem? f2)
    have hz : CMulW t (z - y) := cmul 64 (M + 2) ht (by rw [pw2]; omega) (by omega)
    refine ⟨_, rfl, ?_⟩
    mstart
    refine onto_w (by omega) ?_
    mexfalso
    exact ⟨_, _, rfl, by rw [z3_at f1 f2 f3, List.map_append]; rfl, rfl⟩
  · rintro acc ρ ⟨rfl, rfl⟩
    rw [zip3_len, List.length_map, List.length_map, List.length_map, la, lm, Nat.min_self, Nat.min_self, List.take_of_length_le (by rw [z3_len la lm]; exact Nat.le_refl _)]
    dsimp only [restoR, wipeR, List.set_cons_zero, List.set_cons_succ, List.getElem?_cons_zero, List.getElem?_cons_succ]
    mstart
    exact h
theorem lp_get {L : List (Int × Int)} {i : Nat} {d : DL.D} (h : (L.map lpD)[i]? = some d) : ∃ l, L[i]? = some l ∧ d = lpD l := by
  rw [List.getElem?_map] at h
  cases e : L[i]? with
  | none => rw [e] at h; cases h
  | some x => rw [e] at h; cases h; exact ⟨x, rfl, rfl⟩
theorem paft_w {M : Nat} {ws : List Int} {pts : List (List Int)} {L : List (Int × Int)} (hM0 : 35 ≤ M) (hM : M + 2 * L.length ≤ 900000) (hw : WaysOk ws) (h3 : ws.length ≤ 6) (hl : Ln ws.length pts) (hb : Bg M pts) (hg : GoodL pts.length L) (h6 : pts.length ≤ 6) (hL : L.length ≤ 1000)
    (h : Q (.fr (ptsD (aft ws pts L))) [.va (pt ws), .va (.lst (ptsD pts)), .va (.tup (L.map lpD))]) : RW (m_points_after [.va (pt ws), .va (.lst (ptsD pts)), .va (.tup (L.map lpD))]) Q E := by
  (refine wFun ?_; unfold n_points_after; simp only [List.length_cons, List.length_nil, Nat.reduceAdd, Nat.reduceSub, List.replicate, List.cons_append, List.nil_append, Nat.zero_add])
  mstart
  refine ⟨fun k ρ => ∃ s4 s5, isIo (some s4) = false ∧ isIo (some s5) = false ∧ ρ = [.va (pt ws), .va (.lst (ptsD pts)), .va (.tup (L.map lpD)), .ow false (ptsD (aft ws pts (L.take k))), s4, s5], ⟨.un, .un, rfl, rfl, rfl⟩, ?_, ?_⟩
  · rintro k x ρ hx ⟨s4, s5, i4, i5, rfl⟩
    obtain ⟨l, hl1, rfl⟩ := lp_get hx
    have hk := get_lt hl1
    obtain ⟨i0, i1, j0, j1⟩ := hg l (List.mem_of_getElem? hl1)
    have A := aft_all hw hM0 (L := L.take k) hb hl (fun x hx => hg x (List.mem_of_mem_take hx))
    obtain ⟨b1, l1, n1⟩ := A
    have hlen : (L.take k).length ≤ L.length := by rw [List.length_take]; omega
    have b2 := b1.mono (show M + 2 * (L.take k).length ≤ M + 2 * L.length by omega)
    obtain ⟨hx1, hi1⟩ := at_pts (pts := aft ws pts (L.take k)) i0 (by omega)
    obtain ⟨hx2, hj1⟩ := at_pts (pts := aft ws pts (L.take k)) j0 (by omega)
    refine ⟨[.va (pt ws), .va (.lst (ptsD pts)), .va (.tup (L.map lpD)), .ow false (ptsD (aft ws pts (L.take k))), .va (.int l.1), .va (.int l.2)], ?_, ?_⟩
    · show setVs [4, 5] [_, _] _ = _
      unfold setVs
      rw [if_pos ⟨by simp, i4⟩]
      unfold setVs
      rw [if_pos ⟨by simp, i5⟩]
      rfl
    mstart
    refine bey_w (M := M + 2 * L.length) (by omega) hw h3 (l1 _ (List.mem_of_getElem? hi1)) (l1 _ (List.mem_of_getElem? hj1)) (b2 _ (List.mem_of_getElem? hj1)) ?_
    mexfalso
    mstart
    refine ⟨_, _, _, _, rfl, rfl, ixN_at i0 (by simp; omega), (.va (.int l.1)), (.va (.int l.2)), rfl, rfl, ?_⟩
    rw [List.take_add_one, hl1, Option.toList_some, aft_snoc, leapt]
    show _ = [_, _, _, Sl.ow false (List.map pt (List.set _ _ _)), _, _]
    rw [List.map_set]; rfl
  · rintro ρ ⟨s4, s5, i4, i5, rfl⟩
    mstart
    rw [List.length_map, List.take_length]
    exact h
theorem runD_get {α : Type} {f : α → DL.D} {L : List α} {i : Nat} {d : DL.D} (h : (L.map f)[i]? = some d) : ∃ l, L[i]? = some l ∧ d = f l := by
  rw [List.getElem?_map] at h
  cases e : L[i]? with
  | none => rw [e] at h; cases h
  | some x => rw [e] at h; cases h; exact ⟨x, rfl, rfl⟩
/-- a run -/
abbrev runD (r : List (Int × Int) × Int) : DL.D := .tup [.tup (r.1.map lpD), .int r.2]
def runP (ws : List Int) (pts : List (List Int)) (r : List (Int × Int) × Int) : List (List Int) :=
  if r.2 = 1 then aft ws pts r.1 else List.zipWith (fun a b => z3 (mv1 r.2) ws a b) pts (aft ws pts r.1)
theorem zw_at {α β γ : Type} {f : α → β → γ} : ∀ {xs : List α} {ys : List β} {i : Nat} {x : α} {y : β}, xs[i]? = some x → ys[i]? = some y → (List.zipWith f xs ys).take (i + 1) = (List.zipWith f xs ys).take i ++ [f x y]
  | [], _, _, _, _, e, _ => by simp at e
  | _ :: _, [], _, _, _, _, e => by simp at e
  | a :: xs, b :: ys, 0, x, y, e, e2 => by simp at e e2; subst e e2; simp
  | a :: xs, b :: ys, i + 1, x, y, e, e2 => by
    have := zw_at (f := f) (xs := xs) (ys := ys) (i := i) (by simpa using e) (by simpa using e2)
    simp only [List.zipWith_cons_cons, List.take_succ_cons, List.cons_append]
    rw [this]
theorem prun_w {M : Nat} {ws : List Int} {pts : List (List Int)} {r : List (Int × Int) × Int} (hM0 : 35 ≤ M) (hM : M ≤ 800000) (hw : WaysOk ws) (h3 : ws.length ≤ 6) (hl : Ln ws.length pts) (hb : Bg M pts) (hg : GoodL pts.length r.1) (h6 : pts.length ≤ 6) (hL : r.1.length ≤ 1000) (ht : r.2.natAbs < 2 ^ 64)
    (h : Q (.fr (ptsD (runP ws pts r))) [.va (pt ws), .va (.lst (ptsD pts)), .va (runD r)]) : RW (m_points_after_run [.va (pt ws), .va (.lst (ptsD pts)), .va (runD r)]) Q E := by
  obtain ⟨b1, l1, n1⟩ := aft_all hw hM0 hb hl hg
  (refine wFun ?_; unfold n_points_after_run; simp only [List.length_cons, List.length_nil, Nat.reduceAdd, Nat.reduceSub, List.replicate, List.cons_append, List.nil_append, Nat.zero_add])
  mstart
  refine paft_w hM0 (by omega) hw h3 hl hb hg h6 hL ?_
  mexfalso
  mstart
  refine ⟨fun z => ?_, fun z => ?_⟩
  · have h1 : r.2 = 1 := of_decide_eq_true (show decide (r.2 = 1) = true from z)
    mstart
    rw [runP, if_pos h1] at h
    exact h
  · have h1 : ¬ r.2 = 1 := of_decide_eq_false (show decide (r.2 = 1) = false from z)
    rw [runP, if_neg h1] at h
    mstart
    refine ⟨fun k acc ρ => ρ = [.va (pt ws), .va (.lst (ptsD pts)), .va (runD r), .va (.lst (ptsD (aft ws pts r.1))), .va (.tup (r.1.map lpD)), .va (.int r.2), .un, .un] ∧ acc = ptsD ((List.zipWith (fun a b => z3 (mv1 r.2) ws a b) pts (aft ws pts r.1)).take k), ⟨rfl, by simp⟩, ?_, ?_⟩
    · rintro k x acc ρ hx ⟨rfl, rfl⟩
      have hi := get_lt hx
      obtain ⟨x1, x2, e1, e2, rfl⟩ := zip2_get hx
      obtain ⟨p, f1, rfl⟩ := pts_get e1
      obtain ⟨q, f2, rfl⟩ := pts_get e2
      refine ⟨_, rfl, ?_⟩
      mstart
      refine mov_w (M := M + 2 * r.1.length) (by omega) ht hw h3 (hl _ (List.mem_of_getElem? f1)) (l1 _ (List.mem_of_getElem? f2)) ((hb.mono (by omega)) _ (List.mem_of_getElem? f1)) (b1 _ (List.mem_of_getElem? f2)) ?_
      mexfalso
      exact ⟨_, _, rfl, rfl, by rw [zw_at f1 f2, ptsD, ptsD, List.map_append]; rfl⟩
    · rintro acc ρ ⟨rfl, rfl⟩
      rw [zip2_len, List.length_map, List.length_map, n1, Nat.min_self, List.take_of_length_le (by rw [List.length_zipWith, n1]; omega)]
      dsimp only [restoR, wipeR, List.set_cons_zero, List.set_cons_succ, List.getElem?_cons_zero, List.getElem?_cons_succ]
      mstart
      exact h
abbrev rowD (row : List (List (Int × Int) × Int)) : List DL.D := row.map runD
def rowP (ws : List Int) (pts : List (List Int)) (row : List (List (Int × Int) × Int)) : List (List Int) := row.foldl (runP ws) pts
/-- a run whose parts can be read -/
def RunOk (n : Nat) (r : List (Int × Int) × Int) : Prop := GoodL n r.1 ∧ r.1.length ≤ 40 ∧ 1 ≤ r.2 ∧ r.2 < 2 ^ 40
theorem zw_mem {α β γ : Type} {f : α → β → γ} {z : γ} : ∀ {xs : List α} {ys : List β}, z ∈ List.zipWith f xs ys → ∃ x y, x ∈ xs ∧ y ∈ ys ∧ z = f x y
  | [], _, h => by simp at h
  | _ :: _, [], h => by simp at h
  | a :: xs, b :: ys, h => by
    simp only [List.zipWith_cons_cons, List.mem_cons] at h
    rcases h with h | h
    · exact ⟨a, b, .head _, .head _, h⟩
    · obtain ⟨x, y, p, q, e⟩ := zw_mem h
      exact ⟨x, y, .tail _ p, .tail _ q, e⟩
theorem mv_bd {w x y t : Int} {M : Nat} (hw : w = 0 ∨ (2 ≤ w ∧ w < 20000000000)) (hM : 35 ≤ M) (hx : x.natAbs < 2 ^ M) (hy : y.natAbs < 2 ^ M) (h1 : 1 ≤ t) (h2 : t < 2 ^ 40) : (mv1 t w x y).natAbs < 2 ^ (M + 42) := by
  refine rd_bd hw (by omega) ?_
  have e : (2 : Nat) ^ (M + 42) = 4 * (2 ^ 40 * 2 ^ M) := by rw [show M + 42 = 40 + M + 2 by omega, pw2, Nat.pow_add]
  have a1 : (t * (y - x)).natAbs = t.natAbs * (y - x).natAbs := Int.natAbs_mul _ _
  have a2 : (y - x).natAbs ≤ 2 * 2 ^ M := by omega
  have a3 : t.natAbs ≤ 2 ^ 40 - 1 := by omega
  have a4 : t.natAbs * (y - x).natAbs ≤ (2 ^ 40 - 1) * (2 * 2 ^ M) := Nat.mul_le_mul a3 a2
  generalize 2 ^ M = z at *
  omega
theorem run_all {M n : Nat} {ws : List Int} {pts : List (List Int)} {r : List (Int × Int) × Int} (hw : WaysOk ws) (hM : 35 ≤ M) (hb : Bg M pts) (hl : Ln ws.length pts) (hn : pts.length = n) (hr : RunOk n r) : Bg (M + 122) (runP ws pts r) ∧ Ln ws.length (runP ws pts r) ∧ (runP ws pts r).length = n := by
  obtain ⟨h1, h2, h3, h4⟩ := hr
  obtain ⟨b1, l1, n1⟩ := aft_all hw hM hb hl (by rw [hn]; exact h1)
  unfold runP
  by_cases e : r.2 = 1
  · rw [if_pos e]
    exact ⟨b1.mono (by omega), l1, n1.trans hn⟩
  · rw [if_neg e]
    refine ⟨fun p hp x hx => ?_, fun p hp => ?_, ?_⟩
    · obtain ⟨a, b, ha, hb1, rfl⟩ := zw_mem hp
      obtain ⟨w, y, m, c1, c2, c3, rfl⟩ := z3_mem hx
      refine Nat.lt_of_lt_of_le (mv_bd (M := M + 80) (hw w c1) (by omega) ((hb.mono (by omega)) a ha y c2) ((b1.mono (by omega)) b hb1 m c3) h3 h4) (Nat.pow_le_pow_right (by decide) (by omega))
    · obtain ⟨a, b, ha, hb1, rfl⟩ := zw_mem hp
      exact z3_len (hl a ha) (l1 b hb1)
    · rw [List.length_zipWith, n1, hn, Nat.min_self]
theorem row_all {n : Nat} {ws : List Int} (hw : WaysOk ws) : ∀ {row : List (List (Int × Int) × Int)} {M : Nat} {pts : List (List Int)}, 35 ≤ M → Bg M pts → Ln ws.length pts → pts.length = n → (∀ r ∈ row, RunOk n r) → Bg (M + 122 * row.length) (rowP ws pts row) ∧ Ln ws.length (rowP ws pts row) ∧ (rowP ws pts row).length = n := by
  intro row
  induction row with
  | nil => intro M pts hM hb hl hn _; exact ⟨hb, hl, hn⟩
  | cons r row ih =>
    intro M pts hM hb hl hn hr
    obtain ⟨b1, l1, n1⟩ := run_all hw hM hb hl hn (hr r (.head _))
    have := ih (M := M + 122) (by omega) b1 l1 n1 fun x hx => hr x (.tail _ hx)
    rw [show M + 122 + 122 * row.length = M + 122 * (r :: row).length by simp; omega] at this
    exact this
theorem prow_w {M : Nat} {ws : List Int} {pts : List (List Int)} {row : List (List (Int × Int) × Int)} (hM0 : 35 ≤ M) (hM : M ≤ 10000) (hw : WaysOk ws) (h3 : ws.length ≤ 6) (hl : Ln ws.length pts) (hb : Bg M pts) (h6 : pts.length ≤ 6) (hR : row.length ≤ 6) (hr : ∀ r ∈ row, RunOk pts.length r)
    (h : Q (.fr (ptsD (rowP ws pts row))) [.va (pt ws), .va (.lst (ptsD pts)), .va (.lst (rowD row))]) : RW (m_points_after_row [.va (pt ws), .va (.lst (ptsD pts)), .va (.lst (rowD row))]) Q E := by
  (refine wFun ?_; unfold n_points_after_row; simp only [List.length_cons, List.length_nil, Nat.reduceAdd, Nat.reduceSub, List.replicate, List.cons_append, List.nil_append, Nat.zero_add])
  mstart
  refine ⟨fun k ρ => ∃ s4, isIo (some s4) = false ∧ ρ = [.va (pt ws), .va (.lst (ptsD pts)), .va (.lst (rowD row)), .ow false (ptsD (rowP ws pts (row.take k))), s4], ⟨.un, rfl, rfl⟩, ?_, ?_⟩
  · rintro k x ρ hx ⟨s4, i4, rfl⟩
    obtain ⟨r, hr1, rfl⟩ := runD_get hx
    have hk := get_lt hr1
    obtain ⟨b1, l1, n1⟩ := row_all hw hM0 hb hl rfl (row := row.take k) fun x hx => hr x (List.mem_of_mem_take hx)
    have hlen : (row.take k).length ≤ 6 := by rw [List.length_take]; omega
    obtain ⟨g1, g2, g3, g4⟩ := hr r (List.mem_of_getElem? hr1)
    refine ⟨[.va (pt ws), .va (.lst (ptsD pts)), .va (.lst (rowD row)), .ow false (ptsD (rowP ws pts (row.take k))), .va (runD r)], ?_, ?_⟩
    · unfold gN
      exact if_pos ⟨by simp, i4⟩
    mstart
    refine prun_w (M := M + 122 * (row.take k).length) (by omega) (by omega) hw h3 l1 b1 (by rw [n1]; exact g1) (by omega) (by omega) (by omega) ?_
    mexfalso
    mstart
    refine ⟨.va (runD r), rfl, ?_⟩
    rw [List.take_add_one, hr1, Option.toList_some]
    simp only [rowP, List.foldl_append, List.foldl_cons, List.foldl_nil]
  · rintro ρ ⟨s4, i4, rfl⟩
    mstart
    rw [List.length_map, List.take_length]
    exact h
end K4

namespace K4
open PySem L2 PyProof.Rows DL
local macro_rules | `(tactic| mconstructor) => `(tactic| first | exact .inl rfl | exact .inr (.inl rfl) | exact .inr rfl | exact .inr (.inr rfl))
local macro_rules | `(tactic| mpure_intro) => `(tactic| (simp only [cxOf, envOfC, Cx.blk, compEnvC, relab_eq]; decide +kernel))
local macro_rules | `(tactic| mleft) => `(tactic| first | with_reducible refine wSeq ?_ | with_reducible refine wRet ?_ | with_reducible refine wSet ?_ | with_reducible refine wNext ?_ | with_reducible refine wBin ?_ | with_reducible refine wC ?_ | with_reducible refine wCons ?_ | with_reducible refine wNil ?_ | with_reducible refine wTv ?_ | with_reducible refine wUn ?_ | with_reducible refine wBi ?_ | with_reducible refine wLst ?_ | with_reducible refine wTup ?_ | with_reducible refine wNot ?_ | with_reducible refine wNotV ?_ | with_reducible refine wTrue ?_ | with_reducible refine wAnd ?_ | with_reducible refine wOr ?_ | with_reducible refine wIf ?_ | with_reducible refine wIte ?_ | with_reducible refine wAndV ?_ | with_reducible refine wOrV ?_ | with_reducible refine wChain ?_ | with_reducible refine wSl ?_ | with_reducible refine wPN ?_ | with_reducible refine wPS ?_ | with_reducible refine wExpr ?_ | with_reducible refine wRaise ?_ | with_reducible refine wIter ?_ | with_reducible refine wRng ?_ | with_reducible refine wSeqs ?_ | with_reducible refine wCall ?_ | with_reducible refine wSetIx rfl ?_ | with_reducible refine wApp rfl ?_ | with_reducible refine wUnp ?_ | with_reducible refine wFor ?_ | with_reducible refine wComp ?_ | with_reducible refine wFrz ?_ | with_reducible refine wV rfl ?_ | with_reducible refine wVo rfl ?_)
local macro_rules | `(tactic| massumption) => `(tactic| first | decide | omega | assumption | exact cmul 100 100 (by omega) (by omega) (by decide))
local macro_rules | `(tactic| mright) => `(tactic| first | ((with_reducible refine And.intro (a := (_ && _) = true) ?_ ?_); (focus ((try dsimp only [soft, List.map_cons, List.map_nil, toArg, List.getElem?_cons_zero, List.getElem?_cons_succ]); first | rfl | (simp [alNd, pos?, argOk]; done))); (try dsimp only [soft, List.map_cons, List.map_nil, toArg, List.getElem?_cons_zero, List.getElem?_cons_succ])) | ((with_reducible refine And.intro (a := _ < _) ?_ ?_); focus (first | omega | (simp; omega))) | ((with_reducible show And _ _); first | refine ⟨fun z => absurd z (by decide), fun _ => ?_⟩ | refine ⟨fun _ => ?_, fun z => absurd z (by decide)⟩) | ((with_reducible show Exists _); first | refine ⟨_, _, _, rfl, rfl, mod_ok (by massumption), ?_⟩ | refine ⟨_, _, _, rfl, rfl, mul_ok (by massumption), ?_⟩ | refine ⟨_, _, _, rfl, rfl, div_ok (by massumption), ?_⟩ | (refine ⟨_, _, _, rfl, rfl, pow_ok (by decide), ?_⟩; simp only [Int.reduceToNat, Int.reducePow]) | refine ⟨_, _, _, rfl, rfl, rfl, ?_⟩ | refine ⟨_, _, _, rfl, rfl, ix_ok (by assumption), ?_⟩ | refine ⟨_, _, _, rfl, rfl, ixt_ok (by assumption), ?_⟩ | (refine ⟨_, _, _, _, rfl, rfl, rfl, ?_⟩; (try dsimp only [Int.reduceToNat, List.set_cons_zero, List.set_cons_succ])) | refine ⟨_, _, _, _, rfl, rfl, (by first | massumption | (simp; omega)), ?_⟩ | refine ⟨_, _, _, rfl, rfl, ?_⟩ | refine ⟨_, _, rfl, rng_ok (by omega) (by omega), ?_⟩ | refine ⟨_, rfl, ?_⟩ | refine ⟨_, _, rfl, rfl, ?_⟩ | refine ⟨_, _, rfl, (by first | decide | (simp; done)), ?_⟩ | refine ⟨_, _, rfl, ?_⟩))
local macro_rules | `(tactic| mstop) => `(tactic| first | ((with_reducible refine wsv ?_ ?_ ?_); (focus (simp; done)); (focus (first | rfl | assumption | (rw [upd1_none (by rfl)]; assumption))); dsimp only [List.set_cons_zero, List.set_cons_succ]) | ((with_reducible refine wsf ?_ ?_ ?_); (focus (simp; done)); (focus (first | rfl | assumption | (rw [upd1_none (by rfl)]; assumption))); dsimp only [List.set_cons_zero, List.set_cons_succ]))
local macro_rules | `(tactic| mexfalso) => `(tactic| (refine ⟨trivial, ?_⟩; simp only [backC, upd1_va, upd1_un, upd1_v1, upd1_v2, upd1_v3, upd1_v4, upd1_ow, upd1_none, pos?, if_true, if_false, reduceIte, Option.map_some, Option.map_none, Nat.reduceAdd, Nat.reduceEqDiff, List.getElem?_cons_zero, List.getElem?_cons_succ, List.set_cons_zero, List.set_cons_succ]))
local macro_rules | `(tactic| mstart) => `(tactic| repeat (first | mleft | mright | mstop))
variable {Q : Rs → Rho → Prop} {E : Exn → Rho → Prop}
abbrev ls (p : List Int) : DL.D := .lst (p.map .int)
abbrev lsD (ps : List (List Int)) : List DL.D := ps.map ls
def dif (a b : List Int) : List Int := List.zipWith (fun x y => y - x) a b
def vecB (s e : List (List Int)) : List (List Int) := List.zipWith dif s e
theorem vecB_w {s e : List (List Int)} (hl : e.length = s.length) (h6 : s.length ≤ 6) (m : Nat) (m6 : m ≤ 6) (ls1 : Ln m s) (le1 : Ln m e) (h : Q (.fr (lsD (vecB s e))) [.va (.lst (ptsD s)), .va (.lst (ptsD e))]) : RW (m_vectors_between [.va (.lst (ptsD s)), .va (.lst (ptsD e))]) Q E := by
  (refine wFun ?_; unfold n_vectors_between; simp only [List.length_cons, List.length_nil, Nat.reduceAdd, Nat.reduceSub, List.replicate, List.cons_append, List.nil_append, Nat.zero_add])
  mstart
  refine ⟨fun k acc ρ => ρ = [.va (.lst (ptsD s)), .va (.lst (ptsD e)), .un, .un, .un, .un] ∧ acc = lsD ((vecB s e).take k), ⟨rfl, by simp⟩, ?_, ?_⟩
  · rintro k x acc ρ hx ⟨rfl, rfl⟩
    have hi := get_lt hx
    obtain ⟨x1, x2, e1, e2, rfl⟩ := zip2_get hx
    obtain ⟨p, f1, rfl⟩ := pts_get e1
    obtain ⟨q, f2, rfl⟩ := pts_get e2
    have lp := ls1 p (List.mem_of_getElem? f1)
    have lq := le1 q (List.mem_of_getElem? f2)
    refine ⟨_, rfl, ?_⟩
    mstart
    refine ⟨by rw [List.length_map, List.length_take]; have := get_lt f1; omega, ?_⟩
    mstart
    refine ⟨fun j acc ρ => ρ = [.va (.lst (ptsD s)), .va (.lst (ptsD e)), .va (pt p), .va (pt q), .un, .un] ∧ acc = ((dif p q).take j).map .int, ⟨rfl, by simp⟩, ?_, ?_⟩
    · rintro j x acc ρ hx ⟨rfl, rfl⟩
      have hi := get_lt hx
      obtain ⟨x1, x2, e1, e2, rfl⟩ := zip2_get hx
      obtain ⟨y, g1, rfl⟩ := int_get e1
      obtain ⟨z, g2, rfl⟩ := int_get e2
      refine ⟨_, rfl, ?_⟩
      mstart
      refine ⟨by rw [List.length_map, List.length_take]; have := get_lt g1; omega, ?_⟩
      mstart
      rw [dif, zw_at g1 g2, List.map_append]; rfl
    · rintro acc ρ ⟨rfl, rfl⟩
      rw [zip2_len, List.length_map, List.length_map, lp, lq, Nat.min_self, List.take_of_length_le (by rw [dif, List.length_zipWith, lp, lq]; omega)]
      dsimp only [restoR, wipeR, List.set_cons_zero, List.set_cons_succ, List.getElem?_cons_zero, List.getElem?_cons_succ]
      exact ⟨_, _, rfl, rfl, by rw [vecB, zw_at f1 f2, lsD, lsD, List.map_append]; rfl⟩
  · rintro acc ρ ⟨rfl, rfl⟩
    rw [zip2_len, List.length_map, List.length_map, hl, Nat.min_self, List.take_of_length_le (by rw [vecB, List.length_zipWith, hl]; omega)]
    dsimp only [restoR, wipeR, List.set_cons_zero, List.set_cons_succ, List.getElem?_cons_zero, List.getElem?_cons_succ]
    mstart
    exact h
def unitR (n k : Nat) : List Int := (List.range n).map fun c => if c = k then 1 else 0
def unit (n : Nat) : List (List Int) := (List.range n).map fun k => unitR n k
theorem rg_at {α : Type} {f : Nat → α} {n i : Nat} (h : i < n) : ((List.range n).map f).take (i + 1) = ((List.range n).map f).take i ++ [f i] := by
  rw [List.take_add_one, List.getElem?_map, List.getElem?_range h]; rfl
theorem unit_w {n : Nat} {N : Int} (hN : N = n) (h6 : n ≤ 6) (h : Q (.fr (ptsD (unit n))) [.va (.int N)]) : RW (m_unit_points [.va (.int N)]) Q E := by
  (refine wFun ?_; unfold n_unit_points; simp only [List.length_cons, List.length_nil, Nat.reduceAdd, Nat.reduceSub, List.replicate, List.cons_append, List.nil_append, Nat.zero_add])
  mstart
  refine ⟨fun k acc ρ => ρ = [.va (.int N), .un, .un] ∧ acc = ptsD ((unit n).take k), ⟨rfl, by simp⟩, ?_, ?_⟩
  · rintro k x acc ρ hx ⟨rfl, rfl⟩
    obtain ⟨hk, rfl⟩ := rng_at hx
    refine ⟨_, if_pos ⟨by simp, rfl⟩, ?_⟩
    dsimp only [List.set_cons_zero, List.set_cons_succ]
    mstart
    refine ⟨fun j acc ρ => ρ = [.va (.int N), .va (.int k), .un] ∧ acc = ((unitR n k).take j).map .int, ⟨rfl, by simp⟩, ?_, ?_⟩
    · rintro j x acc ρ hx ⟨rfl, rfl⟩
      obtain ⟨hj, rfl⟩ := rng_at hx
      refine ⟨_, if_pos ⟨by simp, rfl⟩, ?_⟩
      dsimp only [List.set_cons_zero, List.set_cons_succ]
      mstart
      refine ⟨fun z => ?_, fun z => ?_⟩
      · have z1 : (j : Int) = k := of_decide_eq_true (show decide ((j : Int) = k) = true from z)
        mstart
        rw [unitR, rg_at (by omega), if_pos (by omega), List.map_append]; rfl
      · have z1 : ¬ (j : Int) = k := of_decide_eq_false (show decide ((j : Int) = k) = false from z)
        mstart
        rw [unitR, rg_at (by omega), if_neg (by omega), List.map_append]; rfl
    · rintro acc ρ ⟨rfl, rfl⟩
      rw [rng_len, show N.toNat = n by omega, List.take_of_length_le (by simp [unitR])]
      dsimp only [restoR, wipeR, List.set_cons_zero, List.set_cons_succ, List.getElem?_cons_zero, List.getElem?_cons_succ]
      mstart
      rw [unit, rg_at (by omega), ptsD, ptsD, List.map_append]; rfl
  · rintro acc ρ ⟨rfl, rfl⟩
    rw [rng_len, show N.toNat = n by omega, List.take_of_length_le (by simp [unit])]
    dsimp only [restoR, wipeR, List.set_cons_zero, List.set_cons_succ, List.getElem?_cons_zero, List.getElem?_cons_succ]
    mstart
    exact h
theorem eqv_ints : ∀ {xs : List Int}, DL.D.eqvs (xs.map .int) (xs.map .int) = true
  | [] => rfl
  | x :: xs => by simp only [List.map_cons, DL.D.eqvs, DL.D.eqv, eqv_ints]; simp
theorem eqv_lls : ∀ {ps : List (List Int)}, DL.D.eqvs (lsD ps) (lsD ps) = true
  | [] => rfl
  | p :: ps => by simp only [lsD, List.map_cons, DL.D.eqvs, DL.D.eqv, eqv_ints]; simpa using eqv_lls (ps := ps)
theorem fine_ints {n : Nat} : ∀ {xs : List Int}, DL.D.fines n (xs.map .int) = true
  | [] => rfl
  | x :: xs => by simp only [List.map_cons, DL.D.fines, DL.D.fine, fine_ints]; simp
theorem fine_lls {n : Nat} : ∀ {ps : List (List Int)}, DL.D.fines (n + 1) (lsD ps) = true
  | [] => rfl
  | p :: ps => by simp only [lsD, List.map_cons, DL.D.fines, DL.D.fine, fine_ints]; simpa using fine_lls (ps := ps)
theorem eqD_lls {ps : List (List Int)} : eqD (.lst (lsD ps)) (.lst (lsD ps)) = some (.va (.bl true)) := by
  unfold eqD
  rw [if_pos (by rw [Bool.and_eq_true]; exact ⟨fine_lls, fine_lls⟩)]
  show some (Rs.va (.bl (DL.D.eqvs (lsD ps) (lsD ps)))) = _
  rw [eqv_lls]
theorem unit_ok {n : Nat} : Bg 35 (unit n) ∧ Ln n (unit n) ∧ (unit n).length = n := by
  refine ⟨fun p hp x hx => ?_, fun p hp => ?_, by simp [unit]⟩
  · simp only [unit, List.mem_map] at hp
    obtain ⟨k, _, rfl⟩ := hp
    simp only [unitR, List.mem_map] at hx
    obtain ⟨c, _, rfl⟩ := hx
    split <;> decide
  · simp only [unit, List.mem_map] at hp
    obtain ⟨k, _, rfl⟩ := hp
    simp [unitR]
/-- steady at the unit points -/
def Steady (n : Nat) (L : List (Int × Int)) : Prop := vecB (unit n) (aft (List.replicate n 0) (unit n) L) = vecB (aft (List.replicate n 0) (unit n) L) (aft (List.replicate n 0) (aft (List.replicate n 0) (unit n) L) L)
theorem mul0 {n : Nat} {N : Int} (hN : N = n) (h1 : 2 ≤ n) (h6 : n ≤ 6) : mulTD (.tup [.int 0]) (.int N) = some (.va (pt (List.replicate n 0))) := by
  subst hN
  have : n = 2 ∨ n = 3 ∨ n = 4 ∨ n = 5 ∨ n = 6 := by omega
  rcases this with rfl | rfl | rfl | rfl | rfl <;> rfl
theorem repeats_w {n : Nat} {N : Int} {L : List (Int × Int)} (hN : N = n) (h2 : 2 ≤ n) (h6 : n ≤ 6) (hL : L.length ≤ 40) (hg : GoodL n L) (hs : Steady n L) (h : Q (.va (.bl true)) [.va (.int N), .va (.tup (L.map lpD))]) : RW (m_repeats_alike [.va (.int N), .va (.tup (L.map lpD))]) Q E := by
  obtain ⟨u1, u2, u3⟩ := unit_ok (n := n)
  have hw : WaysOk (List.replicate n 0) := fun w hw => .inl (List.eq_of_mem_replicate hw)
  have lr : (List.replicate n (0 : Int)).length = n := List.length_replicate
  obtain ⟨a1, a2, a3⟩ := aft_all hw (by decide) u1 (by rw [lr]; exact u2) (by rw [u3]; exact hg)
  obtain ⟨b1, b2, b3⟩ := aft_all hw (by omega) a1 a2 (by rw [a3, u3]; exact hg)
  rw [lr] at a2 b2
  rw [u3] at a3
  rw [a3] at b3
  (refine wFun ?_; unfold n_repeats_alike; simp only [List.length_cons, List.length_nil, Nat.reduceAdd, Nat.reduceSub, List.replicate, List.cons_append, List.nil_append, Nat.zero_add])
  repeat mleft
  refine ⟨_, _, rfl, by decide, ?_⟩
  repeat mleft
  refine ⟨_, _, _, rfl, rfl, mul0 hN h2 h6, ?_⟩
  mstart
  refine unit_w hN h6 ?_
  mexfalso
  mstart
  refine paft_w (M := 35) (by omega) (by omega) hw (by omega) (by rw [lr]; exact u2) u1 (by rw [u3]; exact hg) (by omega) (by omega) ?_
  mexfalso
  mstart
  refine paft_w (M := 35 + 2 * L.length) (by omega) (by omega) hw (by omega) (by rw [lr]; exact a2) a1 (by rw [a3]; exact hg) (by omega) (by omega) ?_
  mexfalso
  mstart
  refine vecB_w (by omega) (by omega) n h6 u2 a2 ?_
  mexfalso
  mstart
  refine vecB_w (by omega) (by omega) n h6 a2 b2 ?_
  mexfalso
  refine ⟨_, _, .va (.bl true), rfl, rfl, ?_, ?_⟩
  · unfold Steady at hs
    rw [hs]; exact eqD_lls
  mstart
  exact h
end K4

namespace K4
open PySem L2 PyProof.Rows DL
local macro_rules | `(tactic| mconstructor) => `(tactic| first | exact .inl rfl | exact .inr (.inl rfl) | exact .inr rfl | exact .inr (.inr rfl))
local macro_rules | `(tactic| mpure_intro) => `(tactic| (simp only [cxOf, envOfC, Cx.blk, compEnvC, relab_eq]; decide +kernel))
local macro_rules | `(tactic| mleft) => `(tactic| first | with_reducible refine wSeq ?_ | with_reducible refine wRet ?_ | with_reducible refine wSet ?_ | with_reducible refine wNext ?_ | with_reducible refine wBin ?_ | with_reducible refine wC ?_ | with_reducible refine wCons ?_ | with_reducible refine wNil ?_ | with_reducible refine wTv ?_ | with_reducible refine wUn ?_ | with_reducible refine wBi ?_ | with_reducible refine wLst ?_ | with_reducible refine wTup ?_ | with_reducible refine wNot ?_ | with_reducible refine wNotV ?_ | with_reducible refine wTrue ?_ | with_reducible refine wAnd ?_ | with_reducible refine wOr ?_ | with_reducible refine wIf ?_ | with_reducible refine wIte ?_ | with_reducible refine wAndV ?_ | with_reducible refine wOrV ?_ | with_reducible refine wChain ?_ | with_reducible refine wSl ?_ | with_reducible refine wPN ?_ | with_reducible refine wPS ?_ | with_reducible refine wExpr ?_ | with_reducible refine wRaise ?_ | with_reducible refine wIter ?_ | with_reducible refine wRng ?_ | with_reducible refine wSeqs ?_ | with_reducible refine wCall ?_ | with_reducible refine wSetIx rfl ?_ | with_reducible refine wApp rfl ?_ | with_reducible refine wUnp ?_ | with_reducible refine wFor ?_ | with_reducible refine wComp ?_ | with_reducible refine wFrz ?_ | with_reducible refine wV rfl ?_ | with_reducible refine wVo rfl ?_)
local macro_rules | `(tactic| massumption) => `(tactic| first | decide | omega | assumption | exact cmul 100 100 (by omega) (by omega) (by decide))
local macro_rules | `(tactic| mright) => `(tactic| first | ((with_reducible refine And.intro (a := (_ && _) = true) ?_ ?_); (focus ((try dsimp only [soft, List.map_cons, List.map_nil, toArg, List.getElem?_cons_zero, List.getElem?_cons_succ]); first | rfl | (simp [alNd, pos?, argOk]; done))); (try dsimp only [soft, List.map_cons, List.map_nil, toArg, List.getElem?_cons_zero, List.getElem?_cons_succ])) | ((with_reducible refine And.intro (a := _ < _) ?_ ?_); focus (first | omega | (simp; omega))) | ((with_reducible show And _ _); first | refine ⟨fun z => absurd z (by decide), fun _ => ?_⟩ | refine ⟨fun _ => ?_, fun z => absurd z (by decide)⟩) | ((with_reducible show Exists _); first | refine ⟨_, _, _, rfl, rfl, mod_ok (by massumption), ?_⟩ | refine ⟨_, _, _, rfl, rfl, mul_ok (by massumption), ?_⟩ | refine ⟨_, _, _, rfl, rfl, div_ok (by massumption), ?_⟩ | (refine ⟨_, _, _, rfl, rfl, pow_ok (by decide), ?_⟩; simp only [Int.reduceToNat, Int.reducePow]) | refine ⟨_, _, _, rfl, rfl, rfl, ?_⟩ | refine ⟨_, _, _, rfl, rfl, ix_ok (by assumption), ?_⟩ | refine ⟨_, _, _, rfl, rfl, ixt_ok (by assumption), ?_⟩ | (refine ⟨_, _, _, _, rfl, rfl, rfl, ?_⟩; (try dsimp only [Int.reduceToNat, List.set_cons_zero, List.set_cons_succ])) | refine ⟨_, _, _, _, rfl, rfl, (by first | massumption | (simp; omega)), ?_⟩ | refine ⟨_, _, _, rfl, rfl, ?_⟩ | refine ⟨_, _, rfl, rng_ok (by omega) (by omega), ?_⟩ | refine ⟨_, rfl, ?_⟩ | refine ⟨_, _, rfl, rfl, ?_⟩ | refine ⟨_, _, rfl, (by first | decide | (simp; done)), ?_⟩ | refine ⟨_, _, rfl, ?_⟩))
local macro_rules | `(tactic| mstop) => `(tactic| first | ((with_reducible refine wsv ?_ ?_ ?_); (focus (simp; done)); (focus (first | rfl | assumption | (rw [upd1_none (by rfl)]; assumption))); dsimp only [List.set_cons_zero, List.set_cons_succ]) | ((with_reducible refine wsf ?_ ?_ ?_); (focus (simp; done)); (focus (first | rfl | assumption | (rw [upd1_none (by rfl)]; assumption))); dsimp only [List.set_cons_zero, List.set_cons_succ]))
local macro_rules | `(tactic| mexfalso) => `(tactic| (refine ⟨trivial, ?_⟩; simp only [backC, upd1_va, upd1_un, upd1_v1, upd1_v2, upd1_v3, upd1_v4, upd1_ow, upd1_none, pos?, if_true, if_false, reduceIte, Option.map_some, Option.map_none, Nat.reduceAdd, Nat.reduceEqDiff, List.getElem?_cons_zero, List.getElem?_cons_succ, List.set_cons_zero, List.set_cons_succ]))
local macro_rules | `(tactic| mstart) => `(tactic| repeat (first | mleft | mright | mstop))
variable {Q : Rs → Rho → Prop} {E : Exn → Rho → Prop}
/-- leaps of a yard -/
def GoodY (n : Int) (ps : List Int) (L : List (Int × Int)) : Prop := ∀ l ∈ L, 0 ≤ l.1 ∧ l.1 < n ∧ 0 ≤ l.2 ∧ l.2 < n ∧ l.1 ≠ l.2 ∧ l.1 ∉ ps
theorem GoodY.g {n : Int} {m : Nat} {ps : List Int} {L : List (Int × Int)} (h : GoodY n ps L) (e : n = m) : GoodL m L := fun l hl => by
  obtain ⟨a, b, c, d, _⟩ := h l hl
  exact ⟨a, by omega, c, by omega⟩
theorem plt_lp {l : Int × Int} : Plt (lpD l) := ⟨rfl, fun xs e x hx => by
  cases e
  obtain ⟨y, _, rfl⟩ := List.mem_map.mp hx
  rfl⟩
theorem fault_w {n : Int} {ps : List Int} {L : List (Int × Int)} (h40 : L.length ≤ 40) (hg : GoodY n ps L) (h : Q (.va .non) [.va (.int n), .va (pt ps), .va (.tup (L.map lpD))]) : RW (m_leap_at_fault [.va (.int n), .va (pt ps), .va (.tup (L.map lpD))]) Q E := by
  (refine wFun ?_; unfold n_leap_at_fault; simp only [List.length_cons, List.length_nil, Nat.reduceAdd, Nat.reduceSub, List.replicate, List.cons_append, List.nil_append, Nat.zero_add])
  mstart
  refine ⟨fun i ρ => ∃ s3 s4, isIo (some s3) = false ∧ isIo (some s4) = false ∧ ρ = [.va (.int n), .va (pt ps), .va (.tup (L.map lpD)), s3, s4], ⟨.un, .un, rfl, rfl, rfl⟩, ?_, ?_⟩
  · rintro i x ρ hx ⟨s3, s4, i3, i4, rfl⟩
    obtain ⟨d, e1, rfl⟩ := enum_get hx
    obtain ⟨l, e2, rfl⟩ := lp_get e1
    refine ⟨[.va (.int n), .va (pt ps), .va (.tup (L.map lpD)), .va (.int ((0 + i : Nat) : Int)), .va (lpD l)], ?_, ?_⟩
    · show setVs [3, 4] [_, _] _ = _
      unfold setVs
      rw [if_pos ⟨by simp, i3⟩]
      unfold setVs
      rw [if_pos ⟨by simp, i4⟩]
      rfl
    mstart
    refine isLeap_w plt_lp ?_
    mexfalso
    rw [show isLp n ps (lpD l) = true from decide_eq_true (hg l (List.mem_of_getElem? e2))]
    mstart
    exact ⟨_, _, rfl, rfl, rfl⟩
  · rintro ρ ⟨s3, s4, i3, i4, rfl⟩
    mstart
    exact h
theorem runWrong_w {n k : Int} {ps : List Int} {r : List (Int × Int) × Int} (h1 : 1 ≤ r.1.length) (h40 : r.1.length ≤ 40) (ht : 1 ≤ r.2) (hg : GoodY n ps r.1) (h : Q (.va .non) [.va (.int n), .va (pt ps), .va (.int k), .va (runD r)]) : RW (m_run_wrong [.va (.int n), .va (pt ps), .va (.int k), .va (runD r)]) Q E := by
  (refine wFun ?_; unfold n_run_wrong; simp only [List.length_cons, List.length_nil, Nat.reduceAdd, Nat.reduceSub, List.replicate, List.cons_append, List.nil_append, Nat.zero_add])
  mstart
  refine tupleOf_w rfl ?_
  mexfalso
  rw [tupR_of (by simp) (by simp)]
  mstart
  refine tupleOf_w rfl ?_
  mexfalso
  rw [tupR_of (by rw [List.length_map]; omega) (by rw [List.length_map]; omega)]
  mstart
  refine fault_w h40 hg ?_
  mexfalso
  mstart
  refine whole_w rfl ?_
  mexfalso
  rw [show isW (.int r.2) = true from rfl]
  mstart
  refine ⟨fun z => ?_, fun z => ?_⟩
  · have := of_decide_eq_true (show decide (r.2 < 1) = true from z)
    omega
  mstart
  exact h
theorem RW_get {x : Res Rs} {r : Rs} (h : RW x (fun a _ => a = r) (fun _ _ => False)) : ∃ ρ, x = .ok r ρ := by
  cases x with
  | ok a ρ => cases h; exact ⟨ρ, rfl⟩
  | er e ρ => exact h.elim
  | stuck => exact h.elim
def lpK (l : Int × Int) : NestedKey := .tup [.num l.1, .num l.2]
theorem keys_lp : ∀ {L : List (Int × Int)}, DL.D.keys (L.map lpD) = some (L.map lpK)
  | [] => rfl
  | l :: L => by
    rw [List.map_cons, DL.D.keys, keys_lp]
    rfl
theorem key_lp {L : List (Int × Int)} : DL.D.key (.tup (L.map lpD)) = some (.tup (L.map lpK)) := by
  rw [DL.D.key, keys_lp]
theorem depth_lp : ∀ {L : List (Int × Int)}, NestedKey.depthAll (L.map lpK) ≤ 5
  | [] => by decide
  | l :: L => by
    have := depth_lp (L := L)
    rw [List.map_cons, NestedKey.depthAll]
    have e : (lpK l).depth ≤ 5 := by simp [lpK, NestedKey.depth, NestedKey.depthAll]
    omega
/-- a run that the program takes -/
structure RunY (n : Nat) (ps : List Int) (r : List (Int × Int) × Int) : Prop where
  l1 : 1 ≤ r.1.length
  l40 : r.1.length ≤ 40
  t1 : 1 ≤ r.2
  t2 : r.2 < 2 ^ 40
  g : GoodY n ps r.1
  s : 1 < r.2 → Steady n r.1
theorem RunY.ok {n : Nat} {ps : List Int} {r : List (Int × Int) × Int} (h : RunY n ps r) : RunOk n r := ⟨h.g.g rfl, h.l40, h.t1, h.t2⟩
theorem step_ok {n k : Nat} {N : Int} {ps : List Int} {r : List (Int × Int) × Int} (hN : N = n) (h2 : 2 ≤ n) (h6 : n ≤ 6) (R : RunY n ps r) : stepR m_run_wrong m_repeats_alike (.int N) (pt ps) (runD r) k = some none := by
  obtain ⟨ρ, e⟩ := RW_get (runWrong_w (n := N) (k := (k : Int)) (ps := ps) R.l1 R.l40 R.t1 (by rw [hN]; exact R.g) rfl)
  unfold stepR
  rw [e]
  simp only [runParts]
  by_cases ht : 1 < r.2
  · obtain ⟨ρ2, e2⟩ := RW_get (repeats_w (L := r.1) hN h2 h6 R.l40 (R.g.g rfl) (R.s ht) rfl)
    rw [if_pos ht, key_lp]
    simp only
    rw [if_pos (by have := depth_lp (L := r.1); simp only [NestedKey.depth]; omega), e2]
    simp
  · rw [if_neg ht]
theorem runs_none {n : Nat} {N : Int} {ps : List Int} (hN : N = n) (h2 : 2 ≤ n) (h6 : n ≤ 6) : ∀ {row : List (List (Int × Int) × Int)} (k : Nat), (∀ r ∈ row, RunY n ps r) → runsR m_run_wrong m_repeats_alike (.int N) (pt ps) k (rowD row) = some none
  | [], k, _ => rfl
  | r :: row, k, h => by
    rw [rowD, List.map_cons, runsR, step_ok hN h2 h6 (h r (.head _))]
    exact runs_none hN h2 h6 (k + 1) fun x hx => h x (.tail _ hx)
theorem isi_lst {xs : List DL.D} : isiE CL KS [.lst xs, .ty "list"] = some (.va (.bl true)) := isi_ty (t := "list") rfl (by decide +kernel)
theorem runs_w {n : Nat} {N : Int} {ps : List Int} {row : List (List (Int × Int) × Int)} (hN : N = n) (h2 : 2 ≤ n) (h6 : n ≤ 6) (hR : row.length ≤ 6) (hr : ∀ r ∈ row, RunY n ps r) (h : Q (.va .non) [.va (.int N), .va (pt ps), .va (.lst (rowD row))]) : RW (m_runs_wrong [.va (.int N), .va (pt ps), .va (.lst (rowD row))]) Q E := by
  have e : m_runs_wrong [.va (.int N), .va (pt ps), .va (.lst (rowD row))] = .ok (.va .non) [.va (.int N), .va (pt ps), .va (.lst (rowD row))] := by
    unfold m_runs_wrong mRuns
    simp only [isi_lst]
    rw [if_pos (by rw [List.length_map]; omega), runs_none hN h2 h6 0 hr]
  rw [e]
  exact h
theorem needRuns_w {n : Nat} {N : Int} {ps : List Int} {row : List (List (Int × Int) × Int)} (hN : N = n) (h2 : 2 ≤ n) (h6 : n ≤ 6) (hR : row.length ≤ 6) (hr : ∀ r ∈ row, RunY n ps r) (h : Q (.va .non) [.va (.int N), .va (pt ps), .va (.lst (rowD row))]) : RW (m_need_runs [.va (.int N), .va (pt ps), .va (.lst (rowD row))]) Q E := by
  (refine wFun ?_; unfold n_need_runs; simp only [List.length_cons, List.length_nil, Nat.reduceAdd, Nat.reduceSub, List.replicate, List.cons_append, List.nil_append, Nat.zero_add])
  mstart
  refine runs_w hN h2 h6 hR hr ?_
  mexfalso
  mstart
  exact h
end K4

namespace K4
open PySem L2 PyProof.Rows DL
local macro_rules | `(tactic| mconstructor) => `(tactic| first | exact .inl rfl | exact .inr (.inl rfl) | exact .inr rfl | exact .inr (.inr rfl))
local macro_rules | `(tactic| mpure_intro) => `(tactic| (simp only [cxOf, envOfC, Cx.blk, compEnvC, relab_eq]; decide +kernel))
local macro_rules | `(tactic| mleft) => `(tactic| first | with_reducible refine wSeq ?_ | with_reducible refine wRet ?_ | with_reducible refine wSet ?_ | with_reducible refine wNext ?_ | with_reducible refine wBin ?_ | with_reducible refine wC ?_ | with_reducible refine wCons ?_ | with_reducible refine wNil ?_ | with_reducible refine wTv ?_ | with_reducible refine wUn ?_ | with_reducible refine wBi ?_ | with_reducible refine wLst ?_ | with_reducible refine wTup ?_ | with_reducible refine wNot ?_ | with_reducible refine wNotV ?_ | with_reducible refine wTrue ?_ | with_reducible refine wAnd ?_ | with_reducible refine wOr ?_ | with_reducible refine wIf ?_ | with_reducible refine wIte ?_ | with_reducible refine wAndV ?_ | with_reducible refine wOrV ?_ | with_reducible refine wChain ?_ | with_reducible refine wSl ?_ | with_reducible refine wPN ?_ | with_reducible refine wPS ?_ | with_reducible refine wExpr ?_ | with_reducible refine wRaise ?_ | with_reducible refine wIter ?_ | with_reducible refine wRng ?_ | with_reducible refine wSeqs ?_ | with_reducible refine wCall ?_ | with_reducible refine wSetIx rfl ?_ | with_reducible refine wApp rfl ?_ | with_reducible refine wUnp ?_ | with_reducible refine wFor ?_ | with_reducible refine wComp ?_ | with_reducible refine wFrz ?_ | with_reducible refine wV rfl ?_ | with_reducible refine wVo rfl ?_)
local macro_rules | `(tactic| massumption) => `(tactic| first | decide | omega | assumption | exact cmul 100 100 (by omega) (by omega) (by decide))
local macro_rules | `(tactic| mright) => `(tactic| first | ((with_reducible refine And.intro (a := (_ && _) = true) ?_ ?_); (focus ((try dsimp only [soft, List.map_cons, List.map_nil, toArg, List.getElem?_cons_zero, List.getElem?_cons_succ]); first | rfl | (simp [alNd, pos?, argOk]; done))); (try dsimp only [soft, List.map_cons, List.map_nil, toArg, List.getElem?_cons_zero, List.getElem?_cons_succ])) | ((with_reducible refine And.intro (a := _ < _) ?_ ?_); focus (first | omega | (simp; omega))) | ((with_reducible show And _ _); first | refine ⟨fun z => absurd z (by decide), fun _ => ?_⟩ | refine ⟨fun _ => ?_, fun z => absurd z (by decide)⟩) | ((with_reducible show Exists _); first | refine ⟨_, _, _, rfl, rfl, mod_ok (by massumption), ?_⟩ | refine ⟨_, _, _, rfl, rfl, mul_ok (by massumption), ?_⟩ | refine ⟨_, _, _, rfl, rfl, div_ok (by massumption), ?_⟩ | (refine ⟨_, _, _, rfl, rfl, pow_ok (by decide), ?_⟩; simp only [Int.reduceToNat, Int.reducePow]) | refine ⟨_, _, _, rfl, rfl, rfl, ?_⟩ | refine ⟨_, _, _, rfl, rfl, ix_ok (by assumption), ?_⟩ | refine ⟨_, _, _, rfl, rfl, ixt_ok (by assumption), ?_⟩ | (refine ⟨_, _, _, _, rfl, rfl, rfl, ?_⟩; (try dsimp only [Int.reduceToNat, List.set_cons_zero, List.set_cons_succ])) | refine ⟨_, _, _, _, rfl, rfl, (by first | massumption | (simp; omega)), ?_⟩ | refine ⟨_, _, _, rfl, rfl, ?_⟩ | refine ⟨_, _, rfl, rng_ok (by omega) (by omega), ?_⟩ | refine ⟨_, rfl, ?_⟩ | refine ⟨_, _, rfl, rfl, ?_⟩ | refine ⟨_, _, rfl, (by first | decide | (simp; done)), ?_⟩ | refine ⟨_, _, rfl, ?_⟩))
local macro_rules | `(tactic| mstop) => `(tactic| first | ((with_reducible refine wsv ?_ ?_ ?_); (focus (simp; done)); (focus (first | rfl | assumption | (rw [upd1_none (by rfl)]; assumption))); dsimp only [List.set_cons_zero, List.set_cons_succ]) | ((with_reducible refine wsf ?_ ?_ ?_); (focus (simp; done)); (focus (first | rfl | assumption | (rw [upd1_none (by rfl)]; assumption))); dsimp only [List.set_cons_zero, List.set_cons_succ]))
local macro_rules | `(tactic| mexfalso) => `(tactic| (refine ⟨trivial, ?_⟩; simp only [backC, upd1_va, upd1_un, upd1_v1, upd1_v2, upd1_v3, upd1_v4, upd1_ow, upd1_none, pos?, if_true, if_false, reduceIte, Option.map_some, Option.map_none, Nat.reduceAdd, Nat.reduceEqDiff, List.getElem?_cons_zero, List.getElem?_cons_succ, List.set_cons_zero, List.set_cons_succ]))
local macro_rules | `(tactic| mstart) => `(tactic| repeat (first | mleft | mright | mstop))
/-! ### one way: a function from persons to numbers -/
def lf (f : Nat → Int) (l : Int × Int) : Nat → Int := fun k => if k = l.1.toNat then 2 * f l.2.toNat - f l.1.toNat else f k
def af (f : Nat → Int) (L : List (Int × Int)) : Nat → Int := L.foldl lf f
theorem af_cons {f : Nat → Int} {l : Int × Int} {L : List (Int × Int)} : af f (l :: L) = af (lf f l) L := rfl
theorem af_app {f : Nat → Int} {L K : List (Int × Int)} : af f (L ++ K) = af (af f L) K := by simp [af]
def SteadyF (L : List (Int × Int)) : Prop := ∀ f k, af (af f L) L k = 2 * af f L k - f k
def afN : Nat → (Nat → Int) → List (Int × Int) → Nat → Int
  | 0, f, _ => f
  | t + 1, f, L => afN t (af f L) L
theorem afN_ok {L : List (Int × Int)} (h : SteadyF L) : ∀ (t : Nat) (f : Nat → Int) (k : Nat), afN t f L k = f k + t * (af f L k - f k)
  | 0, f, k => by simp [afN]
  | t + 1, f, k => by
    rw [afN, afN_ok h t (af f L) k, h f k]
    have e : ((t + 1 : Nat) : Int) = t + 1 := by omega
    rw [e, show 2 * af f L k - f k - af f L k = af f L k - f k by omega, Int.add_mul, Int.one_mul]
    omega
theorem afN_one {f : Nat → Int} {L : List (Int × Int)} : afN 1 f L = af f L := rfl
theorem steady_swap {p o : Int} (h0 : 0 ≤ p) (h1 : 0 ≤ o) (h : p ≠ o) : SteadyF [(p, o), (o, p)] := by
  have hn : p.toNat ≠ o.toNat := by omega
  have hn2 : o.toNat ≠ p.toNat := by omega
  intro f k
  simp only [af, List.foldl_cons, List.foldl_nil, lf, hn, hn2, if_true, if_false, reduceIte]
  by_cases e1 : k = o.toNat
  · subst e1; simp only [if_true, reduceIte]; omega
  · simp only [e1, if_false, reduceIte]
    by_cases e2 : k = p.toNat
    · subst e2; simp only [if_true, reduceIte]; omega
    · simp only [e2, if_false, reduceIte]; omega
theorem af_rep {p o x : Int} (h0 : 0 ≤ p) (h1 : 0 ≤ o) (h2 : 0 ≤ x) (ho : p ≠ o) (hx : p ≠ x) : ∀ (m : Nat) (f : Nat → Int) (k : Nat), af f (List.replicate m [(p, o), (p, x)]).flatten k = if k = p.toNat then f p.toNat + 2 * m * (f x.toNat - f o.toNat) else f k
  | 0, f, k => by
    simp only [List.replicate_zero, List.flatten_nil, af, List.foldl_nil]
    split
    · rename_i e; subst e; simp
    · rfl
  | m + 1, f, k => by
    have n1 : o.toNat ≠ p.toNat := by omega
    have n2 : x.toNat ≠ p.toNat := by omega
    rw [List.replicate_succ, List.flatten_cons, af_app, af_rep h0 h1 h2 ho hx m]
    simp only [af, List.foldl_cons, List.foldl_nil, lf, n1, n2, if_true, if_false, reduceIte]
    split
    · have e : ((m + 1 : Nat) : Int) = m + 1 := by omega
      rw [e, show 2 * ((m : Int) + 1) * (f x.toNat - f o.toNat) = 2 * m * (f x.toNat - f o.toNat) + 2 * (f x.toNat - f o.toNat) by rw [Int.mul_add, Int.add_mul, Int.mul_one]]
      omega
    · rfl
theorem steady_rep {p o x : Int} {m : Nat} (h0 : 0 ≤ p) (h1 : 0 ≤ o) (h2 : 0 ≤ x) (ho : p ≠ o) (hx : p ≠ x) : SteadyF (List.replicate m [(p, o), (p, x)]).flatten := by
  have n1 : o.toNat ≠ p.toNat := by omega
  have n2 : x.toNat ≠ p.toNat := by omega
  intro f k
  rw [af_rep h0 h1 h2 ho hx, af_rep h0 h1 h2 ho hx, af_rep h0 h1 h2 ho hx, af_rep h0 h1 h2 ho hx, af_rep h0 h1 h2 ho hx]
  simp only [n1, n2, if_true, if_false, reduceIte]
  split
  · rename_i e; subst e; omega
  · omega
/-! ### tables of points -/
def atP (pts : List (List Int)) (k c : Nat) : Int := (pts.getD k []).getD c 0
theorem atP_get {pts : List (List Int)} {k c : Nat} {p : List Int} {x : Int} (h : pts[k]? = some p) (h2 : p[c]? = some x) : atP pts k c = x := by
  unfold atP
  rw [show pts.getD k [] = p by rw [List.getD_eq_getElem?_getD, h]; rfl, List.getD_eq_getElem?_getD, h2]; rfl
theorem get_of {α : Type} {xs : List α} {i : Nat} (h : i < xs.length) : ∃ x, xs[i]? = some x ∧ x ∈ xs := ⟨xs[i], List.getElem?_eq_getElem h, List.getElem_mem h⟩
theorem ext_P {a b : List (List Int)} {m : Nat} (hl : a.length = b.length) (la : Ln m a) (lb : Ln m b) (h : ∀ k c, k < a.length → c < m → atP a k c = atP b k c) : a = b := by
  refine List.ext_getElem? fun k => ?_
  by_cases hk : k < a.length
  · obtain ⟨p, e1, m1⟩ := get_of hk
    obtain ⟨q, e2, m2⟩ := get_of (show k < b.length by omega)
    rw [e1, e2]
    congr 1
    have lp := la p m1
    have lq := lb q m2
    refine List.ext_getElem? fun c => ?_
    by_cases hc : c < m
    · obtain ⟨x, f1, _⟩ := get_of (show c < p.length by omega)
      obtain ⟨y, f2, _⟩ := get_of (show c < q.length by omega)
      rw [f1, f2, ← atP_get e1 f1, ← atP_get e2 f2, h k c hk hc]
    · rw [List.getElem?_eq_none (by omega), List.getElem?_eq_none (by omega)]
  · rw [List.getElem?_eq_none (by omega), List.getElem?_eq_none (by omega)]
theorem z3_get {f : Int → Int → Int → Int} : ∀ {ws xs ms : List Int} {i : Nat} {w x m : Int}, ws[i]? = some w → xs[i]? = some x → ms[i]? = some m → (z3 f ws xs ms)[i]? = some (f w x m)
  | [], _, _, i, w, x, m, e, _, _ => by simp at e
  | _ :: _, [], _, i, w, x, m, _, e, _ => by simp at e
  | _ :: _, _ :: _, [], i, w, x, m, _, _, e => by simp at e
  | w0 :: ws, x0 :: xs, m0 :: ms, 0, w, x, m, e, e2, e3 => by simp at e e2 e3; subst e e2 e3; simp [z3]
  | w0 :: ws, x0 :: xs, m0 :: ms, i + 1, w, x, m, e, e2, e3 => by
    simp only [z3, List.getElem?_cons_succ]
    exact z3_get (by simpa using e) (by simpa using e2) (by simpa using e3)
/-- a leap, by a look at each number -/
theorem leapt_at {ws : List Int} {pts : List (List Int)} {i j : Int} {k c : Nat} {w : Int} (hl : Ln ws.length pts) (i0 : 0 ≤ i) (i1 : i < pts.length) (j0 : 0 ≤ j) (j1 : j < pts.length) (hw : ws[c]? = some w) : atP (leapt ws pts i j) k c = if k = i.toNat then rd w (2 * atP pts j.toNat c - atP pts i.toNat c) else atP pts k c := by
  have hc := get_lt hw
  by_cases e : k = i.toNat
  · subst e
    rw [if_pos rfl]
    obtain ⟨p, e1, m1⟩ := get_of (show i.toNat < pts.length by omega)
    obtain ⟨q, e2, m2⟩ := get_of (show j.toNat < pts.length by omega)
    obtain ⟨x, f1, _⟩ := get_of (show c < p.length by rw [hl p m1]; exact hc)
    obtain ⟨y, f2, _⟩ := get_of (show c < q.length by rw [hl q m2]; exact hc)
    rw [atP_get e1 f1, atP_get e2 f2]
    refine atP_get (p := byP ws p q) ?_ ?_
    · unfold leapt
      rw [List.getElem?_set_self (by omega), List.getD_eq_getElem?_getD, List.getD_eq_getElem?_getD, e1, e2]; rfl
    · rw [byP_z3]; exact z3_get hw f1 f2
  · rw [if_neg e]
    have e2 : (leapt ws pts i j).getD k [] = pts.getD k [] := by
      unfold leapt
      rw [List.getD_eq_getElem?_getD, List.getElem?_set_ne (fun z => e z.symm), ← List.getD_eq_getElem?_getD]
    unfold atP
    rw [e2]
theorem rd_rd {w y : Int} : rd w (rd w y) = rd w y := by
  unfold rd
  split
  · rfl
  · exact Int.emod_emod_of_dvd _ (Int.dvd_refl _)
theorem rd_lin {w a b : Int} : rd w (2 * rd w a - rd w b) = rd w (2 * a - b) := by
  unfold rd
  split
  · rfl
  · rw [Int.sub_emod, Int.mul_emod, Int.emod_emod_of_dvd _ (Int.dvd_refl _), Int.emod_emod_of_dvd _ (Int.dvd_refl _), ← Int.mul_emod, ← Int.sub_emod]
theorem rd_mv {w x t y : Int} : rd w (x + t * (rd w y - x)) = rd w (x + t * (y - x)) := by
  unfold rd
  split
  · rfl
  · rw [Int.add_emod, Int.mul_emod, Int.sub_emod, Int.emod_emod_of_dvd _ (Int.dvd_refl _), ← Int.sub_emod, ← Int.mul_emod, ← Int.add_emod]
/-- on rings: leaps in the column, then brought onto the way -/
theorem aft_at {ws : List Int} {c : Nat} {w : Int} (hw : ws[c]? = some w) : ∀ {L : List (Int × Int)} {pts : List (List Int)} {f : Nat → Int} (k : Nat), Ln ws.length pts → GoodL pts.length L → (∀ k, k < pts.length → atP pts k c = rd w (f k)) → k < pts.length → atP (aft ws pts L) k c = rd w (af f L k) := by
  intro L
  induction L with
  | nil => intro pts f k _ _ h hk; exact h k hk
  | cons l L ih =>
    intro pts f k hl hg h hk
    obtain ⟨i0, i1, j0, j1⟩ := hg l (.head _)
    rw [af_cons]
    refine ih (pts := leapt ws pts l.1 l.2) k (leapt_ln hl i0 i1 j0 j1) (by rw [leapt_len]; exact fun x hx => hg x (.tail _ hx)) (fun k hk => ?_) (by rw [leapt_len]; exact hk)
    rw [leapt_len] at hk
    rw [leapt_at hl i0 i1 j0 j1 hw]
    unfold lf
    split
    · rw [h _ (by omega), h _ (by omega), rd_lin]
    · exact h k hk
end K4

namespace K4
open PySem L2 PyProof.Rows DL
local macro_rules | `(tactic| mconstructor) => `(tactic| first | exact .inl rfl | exact .inr (.inl rfl) | exact .inr rfl | exact .inr (.inr rfl))
local macro_rules | `(tactic| mpure_intro) => `(tactic| (simp only [cxOf, envOfC, Cx.blk, compEnvC, relab_eq]; decide +kernel))
local macro_rules | `(tactic| mleft) => `(tactic| first | with_reducible refine wSeq ?_ | with_reducible refine wRet ?_ | with_reducible refine wSet ?_ | with_reducible refine wNext ?_ | with_reducible refine wBin ?_ | with_reducible refine wC ?_ | with_reducible refine wCons ?_ | with_reducible refine wNil ?_ | with_reducible refine wTv ?_ | with_reducible refine wUn ?_ | with_reducible refine wBi ?_ | with_reducible refine wLst ?_ | with_reducible refine wTup ?_ | with_reducible refine wNot ?_ | with_reducible refine wNotV ?_ | with_reducible refine wTrue ?_ | with_reducible refine wAnd ?_ | with_reducible refine wOr ?_ | with_reducible refine wIf ?_ | with_reducible refine wIte ?_ | with_reducible refine wAndV ?_ | with_reducible refine wOrV ?_ | with_reducible refine wChain ?_ | with_reducible refine wSl ?_ | with_reducible refine wPN ?_ | with_reducible refine wPS ?_ | with_reducible refine wExpr ?_ | with_reducible refine wRaise ?_ | with_reducible refine wIter ?_ | with_reducible refine wRng ?_ | with_reducible refine wSeqs ?_ | with_reducible refine wCall ?_ | with_reducible refine wSetIx rfl ?_ | with_reducible refine wApp rfl ?_ | with_reducible refine wUnp ?_ | with_reducible refine wFor ?_ | with_reducible refine wComp ?_ | with_reducible refine wFrz ?_ | with_reducible refine wV rfl ?_ | with_reducible refine wVo rfl ?_)
local macro_rules | `(tactic| massumption) => `(tactic| first | decide | omega | assumption | exact cmul 100 100 (by omega) (by omega) (by decide))
local macro_rules | `(tactic| mright) => `(tactic| first | ((with_reducible refine And.intro (a := (_ && _) = true) ?_ ?_); (focus ((try dsimp only [soft, List.map_cons, List.map_nil, toArg, List.getElem?_cons_zero, List.getElem?_cons_succ]); first | rfl | (simp [alNd, pos?, argOk]; done))); (try dsimp only [soft, List.map_cons, List.map_nil, toArg, List.getElem?_cons_zero, List.getElem?_cons_succ])) | ((with_reducible refine And.intro (a := _ < _) ?_ ?_); focus (first | omega | (simp; omega))) | ((with_reducible show And _ _); first | refine ⟨fun z => absurd z (by decide), fun _ => ?_⟩ | refine ⟨fun _ => ?_, fun z => absurd z (by decide)⟩) | ((with_reducible show Exists _); first | refine ⟨_, _, _, rfl, rfl, mod_ok (by massumption), ?_⟩ | refine ⟨_, _, _, rfl, rfl, mul_ok (by massumption), ?_⟩ | refine ⟨_, _, _, rfl, rfl, div_ok (by massumption), ?_⟩ | (refine ⟨_, _, _, rfl, rfl, pow_ok (by decide), ?_⟩; simp only [Int.reduceToNat, Int.reducePow]) | refine ⟨_, _, _, rfl, rfl, rfl, ?_⟩ | refine ⟨_, _, _, rfl, rfl, ix_ok (by assumption), ?_⟩ | refine ⟨_, _, _, rfl, rfl, ixt_ok (by assumption), ?_⟩ | (refine ⟨_, _, _, _, rfl, rfl, rfl, ?_⟩; (try dsimp only [Int.reduceToNat, List.set_cons_zero, List.set_cons_succ])) | refine ⟨_, _, _, _, rfl, rfl, (by first | massumption | (simp; omega)), ?_⟩ | refine ⟨_, _, _, rfl, rfl, ?_⟩ | refine ⟨_, _, rfl, rng_ok (by omega) (by omega), ?_⟩ | refine ⟨_, rfl, ?_⟩ | refine ⟨_, _, rfl, rfl, ?_⟩ | refine ⟨_, _, rfl, (by first | decide | (simp; done)), ?_⟩ | refine ⟨_, _, rfl, ?_⟩))
local macro_rules | `(tactic| mstop) => `(tactic| first | ((with_reducible refine wsv ?_ ?_ ?_); (focus (simp; done)); (focus (first | rfl | assumption | (rw [upd1_none (by rfl)]; assumption))); dsimp only [List.set_cons_zero, List.set_cons_succ]) | ((with_reducible refine wsf ?_ ?_ ?_); (focus (simp; done)); (focus (first | rfl | assumption | (rw [upd1_none (by rfl)]; assumption))); dsimp only [List.set_cons_zero, List.set_cons_succ]))
local macro_rules | `(tactic| mexfalso) => `(tactic| (refine ⟨trivial, ?_⟩; simp only [backC, upd1_va, upd1_un, upd1_v1, upd1_v2, upd1_v3, upd1_v4, upd1_ow, upd1_none, pos?, if_true, if_false, reduceIte, Option.map_some, Option.map_none, Nat.reduceAdd, Nat.reduceEqDiff, List.getElem?_cons_zero, List.getElem?_cons_succ, List.set_cons_zero, List.set_cons_succ]))
local macro_rules | `(tactic| mstart) => `(tactic| repeat (first | mleft | mright | mstop))
variable {Q : Rs → Rho → Prop} {E : Exn → Rho → Prop}
theorem paft2_w {M : Nat} {ws : List Int} {pts : List (List Int)} {L : List (Int × Int)} (hM0 : 35 ≤ M) (hM : M + 2 * L.length ≤ 900000) (hw : WaysOk ws) (h3 : ws.length ≤ 6) (hl : Ln ws.length pts) (hb : Bg M pts) (hg : GoodL pts.length L) (h6 : pts.length ≤ 6) (hL : L.length ≤ 1000)
    (h : Q (.fr (ptsD (aft ws pts L))) [.va (pt ws), .va (.lst (ptsD pts)), .va (.lst (L.map lpD))]) : RW (m_points_after [.va (pt ws), .va (.lst (ptsD pts)), .va (.lst (L.map lpD))]) Q E := by
  (refine wFun ?_; unfold n_points_after; simp only [List.length_cons, List.length_nil, Nat.reduceAdd, Nat.reduceSub, List.replicate, List.cons_append, List.nil_append, Nat.zero_add])
  mstart
  refine ⟨fun k ρ => ∃ s4 s5, isIo (some s4) = false ∧ isIo (some s5) = false ∧ ρ = [.va (pt ws), .va (.lst (ptsD pts)), .va (.lst (L.map lpD)), .ow false (ptsD (aft ws pts (L.take k))), s4, s5], ⟨.un, .un, rfl, rfl, rfl⟩, ?_, ?_⟩
  · rintro k x ρ hx ⟨s4, s5, i4, i5, rfl⟩
    obtain ⟨l, hl1, rfl⟩ := lp_get hx
    have hk := get_lt hl1
    obtain ⟨i0, i1, j0, j1⟩ := hg l (List.mem_of_getElem? hl1)
    have A := aft_all hw hM0 (L := L.take k) hb hl (fun x hx => hg x (List.mem_of_mem_take hx))
    obtain ⟨b1, l1, n1⟩ := A
    have hlen : (L.take k).length ≤ L.length := by rw [List.length_take]; omega
    have b2 := b1.mono (show M + 2 * (L.take k).length ≤ M + 2 * L.length by omega)
    obtain ⟨hx1, hi1⟩ := at_pts (pts := aft ws pts (L.take k)) i0 (by omega)
    obtain ⟨hx2, hj1⟩ := at_pts (pts := aft ws pts (L.take k)) j0 (by omega)
    refine ⟨[.va (pt ws), .va (.lst (ptsD pts)), .va (.lst (L.map lpD)), .ow false (ptsD (aft ws pts (L.take k))), .va (.int l.1), .va (.int l.2)], ?_, ?_⟩
    · show setVs [4, 5] [_, _] _ = _
      unfold setVs
      rw [if_pos ⟨by simp, i4⟩]
      unfold setVs
      rw [if_pos ⟨by simp, i5⟩]
      rfl
    mstart
    refine bey_w (M := M + 2 * L.length) (by omega) hw h3 (l1 _ (List.mem_of_getElem? hi1)) (l1 _ (List.mem_of_getElem? hj1)) (b2 _ (List.mem_of_getElem? hj1)) ?_
    mexfalso
    mstart
    refine ⟨_, _, _, _, rfl, rfl, ixN_at i0 (by simp; omega), (.va (.int l.1)), (.va (.int l.2)), rfl, rfl, ?_⟩
    rw [List.take_add_one, hl1, Option.toList_some, aft_snoc, leapt]
    show _ = [_, _, _, Sl.ow false (List.map pt (List.set _ _ _)), _, _]
    rw [List.map_set]; rfl
  · rintro ρ ⟨s4, s5, i4, i5, rfl⟩
    mstart
    rw [List.length_map, List.take_length]
    exact h

/-- a standing with numbers of at most M bits -/
structure Here2 (M : Nat) (ws : List Int) (n : Nat) (ps : List Int) (pts : List (List Int)) : Prop where
  y : YardOk ws n ps
  l : pts.length = n
  p : StOk (2 ^ M) ws pts
  b : Bg M pts
  s : Ln ws.length pts
theorem done_w {M n : Nat} {N : Int} {ws ps : List Int} {pts : List (List Int)} {row : List (List (Int × Int) × Int)} (hN : N = n) (hM0 : 35 ≤ M) (hM : M ≤ 10000) (H : Here2 M ws n ps pts) (hR : row.length ≤ 6) (hr : ∀ r ∈ row, RunY n ps r)
    (h : Q (.va (.tup (ptsD (rowP ws pts row)))) [.va (yd ws N ps), .va (.tup (ptsD pts)), .va (.lst (rowD row))]) : RW (m_done [.va (yd ws N ps), .va (.tup (ptsD pts)), .va (.lst (rowD row))]) Q E := by
  have Y := H.y
  rw [← hN] at Y
  have n6 := Y.n6
  have n2 := Y.n2
  have w3 := Y.w3
  have hl := H.l
  (refine wFun ?_; unfold n_done; simp only [List.length_cons, List.length_nil, Nat.reduceAdd, Nat.reduceSub, List.replicate, List.cons_append, List.nil_append, Nat.zero_add])
  mstart
  refine needStanding_w Y (by rw [hl, hN]) H.p ?_
  mexfalso
  mstart
  refine needRuns_w hN (by omega) (by omega) hR hr ?_
  mexfalso
  mstart
  refine plain_w (by omega) (fun p hp => by have := H.s p hp; omega) ?_
  mexfalso
  mstart
  refine prow_w hM0 hM Y.w (by omega) H.s H.b (by omega) hR (by rw [hl]; exact fun r h => (hr r h).ok) ?_
  mexfalso
  mstart
  exact h
end K4

namespace K4
open PySem L2 PyProof.Rows DL
local macro_rules | `(tactic| mconstructor) => `(tactic| first | exact .inl rfl | exact .inr (.inl rfl) | exact .inr rfl | exact .inr (.inr rfl))
local macro_rules | `(tactic| mpure_intro) => `(tactic| (simp only [cxOf, envOfC, Cx.blk, compEnvC, relab_eq]; decide +kernel))
local macro_rules | `(tactic| mleft) => `(tactic| first | with_reducible refine wSeq ?_ | with_reducible refine wRet ?_ | with_reducible refine wSet ?_ | with_reducible refine wNext ?_ | with_reducible refine wBin ?_ | with_reducible refine wC ?_ | with_reducible refine wCons ?_ | with_reducible refine wNil ?_ | with_reducible refine wTv ?_ | with_reducible refine wUn ?_ | with_reducible refine wBi ?_ | with_reducible refine wLst ?_ | with_reducible refine wTup ?_ | with_reducible refine wNot ?_ | with_reducible refine wNotV ?_ | with_reducible refine wTrue ?_ | with_reducible refine wAnd ?_ | with_reducible refine wOr ?_ | with_reducible refine wIf ?_ | with_reducible refine wIte ?_ | with_reducible refine wAndV ?_ | with_reducible refine wOrV ?_ | with_reducible refine wChain ?_ | with_reducible refine wSl ?_ | with_reducible refine wPN ?_ | with_reducible refine wPS ?_ | with_reducible refine wExpr ?_ | with_reducible refine wRaise ?_ | with_reducible refine wIter ?_ | with_reducible refine wRng ?_ | with_reducible refine wSeqs ?_ | with_reducible refine wCall ?_ | with_reducible refine wSetIx rfl ?_ | with_reducible refine wApp rfl ?_ | with_reducible refine wUnp ?_ | with_reducible refine wFor ?_ | with_reducible refine wComp ?_ | with_reducible refine wFrz ?_ | with_reducible refine wV rfl ?_ | with_reducible refine wVo rfl ?_)
local macro_rules | `(tactic| massumption) => `(tactic| first | decide | omega | assumption | exact cmul 100 100 (by omega) (by omega) (by decide))
local macro_rules | `(tactic| mright) => `(tactic| first | ((with_reducible refine And.intro (a := (_ && _) = true) ?_ ?_); (focus ((try dsimp only [soft, List.map_cons, List.map_nil, toArg, List.getElem?_cons_zero, List.getElem?_cons_succ]); first | rfl | (simp [alNd, pos?, argOk]; done))); (try dsimp only [soft, List.map_cons, List.map_nil, toArg, List.getElem?_cons_zero, List.getElem?_cons_succ])) | ((with_reducible refine And.intro (a := _ < _) ?_ ?_); focus (first | omega | (simp; omega))) | ((with_reducible show And _ _); first | refine ⟨fun z => absurd z (by decide), fun _ => ?_⟩ | refine ⟨fun _ => ?_, fun z => absurd z (by decide)⟩) | ((with_reducible show Exists _); first | refine ⟨_, _, _, rfl, rfl, mod_ok (by massumption), ?_⟩ | refine ⟨_, _, _, rfl, rfl, mul_ok (by massumption), ?_⟩ | refine ⟨_, _, _, rfl, rfl, div_ok (by massumption), ?_⟩ | (refine ⟨_, _, _, rfl, rfl, pow_ok (by decide), ?_⟩; simp only [Int.reduceToNat, Int.reducePow]) | refine ⟨_, _, _, rfl, rfl, rfl, ?_⟩ | refine ⟨_, _, _, rfl, rfl, ix_ok (by assumption), ?_⟩ | refine ⟨_, _, _, rfl, rfl, ixt_ok (by assumption), ?_⟩ | (refine ⟨_, _, _, _, rfl, rfl, rfl, ?_⟩; (try dsimp only [Int.reduceToNat, List.set_cons_zero, List.set_cons_succ])) | refine ⟨_, _, _, _, rfl, rfl, (by first | massumption | (simp; omega)), ?_⟩ | refine ⟨_, _, _, rfl, rfl, ?_⟩ | refine ⟨_, _, rfl, rng_ok (by omega) (by omega), ?_⟩ | refine ⟨_, rfl, ?_⟩ | refine ⟨_, _, rfl, rfl, ?_⟩ | refine ⟨_, _, rfl, (by first | decide | (simp; done)), ?_⟩ | refine ⟨_, _, rfl, ?_⟩))
local macro_rules | `(tactic| mstop) => `(tactic| first | ((with_reducible refine wsv ?_ ?_ ?_); (focus (simp; done)); (focus (first | rfl | assumption | (rw [upd1_none (by rfl)]; assumption))); dsimp only [List.set_cons_zero, List.set_cons_succ]) | ((with_reducible refine wsf ?_ ?_ ?_); (focus (simp; done)); (focus (first | rfl | assumption | (rw [upd1_none (by rfl)]; assumption))); dsimp only [List.set_cons_zero, List.set_cons_succ]))
local macro_rules | `(tactic| mexfalso) => `(tactic| (refine ⟨trivial, ?_⟩; simp only [backC, upd1_va, upd1_un, upd1_v1, upd1_v2, upd1_v3, upd1_v4, upd1_ow, upd1_none, pos?, if_true, if_false, reduceIte, Option.map_some, Option.map_none, Nat.reduceAdd, Nat.reduceEqDiff, List.getElem?_cons_zero, List.getElem?_cons_succ, List.set_cons_zero, List.set_cons_succ]))
local macro_rules | `(tactic| mstart) => `(tactic| repeat (first | mleft | mright | mstop))
theorem PtOk_of {B : Int} : ∀ {ws p : List Int}, p.length = ws.length → (∀ (c : Nat) (w x : Int), ws[c]? = some w → p[c]? = some x → PlOk B w x) → PtOk B ws p
  | [], [], _, _ => trivial
  | w :: ws, x :: xs, h, q => ⟨q 0 w x rfl rfl, PtOk_of (by simpa using h) fun c w' x' e e2 => q (c + 1) w' x' (by simpa using e) (by simpa using e2)⟩
  | [], _ :: _, h, _ => by simp at h
  | _ :: _, [], h, _ => by simp at h
theorem rd_pl {w y : Int} {M : Nat} (hw : w = 0 ∨ (2 ≤ w ∧ w < 20000000000)) (hx : (rd w y).natAbs < 2 ^ M) : PlOk (2 ^ M) w (rd w y) := by
  by_cases e : w = 0
  · refine .inl ⟨e, ?_⟩
    have h2 : ((2 : Int) ^ M) = ((2 ^ M : Nat) : Int) := by norm_cast
    rw [h2]
    generalize rd w y = z at *
    generalize 2 ^ M = u at *
    omega
  · refine .inr ?_
    unfold rd
    rw [if_neg e]
    exact ⟨Int.emod_nonneg y e, Int.emod_lt_of_pos y (by omega)⟩
theorem pl_rd {w x B : Int} (h : PlOk B w x) : rd w x = x := by
  unfold rd
  rcases h with ⟨e, _⟩ | h
  · rw [if_pos e]
  · split
    · rfl
    · exact Int.emod_eq_of_lt h.1 h.2
/-- all numbers lie on their ways -/
def Red (ws : List Int) (pts : List (List Int)) : Prop := ∀ (k c : Nat) (w : Int), k < pts.length → ws[c]? = some w → rd w (atP pts k c) = atP pts k c
theorem red_of {B : Int} {ws : List Int} {pts : List (List Int)} (h : StOk B ws pts) : Red ws pts := by
  intro k c w hk hw
  obtain ⟨p, e1, m1⟩ := get_of hk
  have hp := h p m1
  obtain ⟨x, f1, _⟩ := get_of (show c < p.length by rw [hp.len]; exact get_lt hw)
  rw [atP_get e1 f1]
  exact pl_rd (hp.at hw f1)
theorem st_of {M : Nat} {ws : List Int} {pts : List (List Int)} (hw : WaysOk ws) (hl : Ln ws.length pts) (hb : Bg M pts) (h : Red ws pts) : StOk (2 ^ M) ws pts := by
  intro p hp
  obtain ⟨k, hk⟩ := List.mem_iff_getElem?.mp hp
  refine PtOk_of (hl p hp) fun c w x e1 e2 => ?_
  have e := h k c w (get_lt hk) e1
  rw [atP_get hk e2] at e
  have hx := hb p hp x (List.mem_of_getElem? e2)
  rw [← e] at hx ⊢
  exact rd_pl (hw w (List.mem_of_getElem? e1)) hx
theorem leapt_red {ws : List Int} {pts : List (List Int)} {i j : Int} (hl : Ln ws.length pts) (i0 : 0 ≤ i) (i1 : i < pts.length) (j0 : 0 ≤ j) (j1 : j < pts.length) (h : Red ws pts) : Red ws (leapt ws pts i j) := by
  intro k c w hk hw
  rw [leapt_len] at hk
  rw [leapt_at hl i0 i1 j0 j1 hw]
  split
  · exact rd_rd
  · exact h k c w hk hw
theorem here_leapt {M n : Nat} {ws ps : List Int} {pts : List (List Int)} {l : Int × Int} (hM : 35 ≤ M) (H : Here2 M ws n ps pts) (g : GoodL n [l]) : Here2 (M + 2) ws n ps (leapt ws pts l.1 l.2) := by
  obtain ⟨i0, i1, j0, j1⟩ := g l (.head _)
  have hl := H.l
  rw [← hl] at i1 j1
  have b := leapt_bg H.y.w hM H.b i0 i1 j0 j1
  have s := leapt_ln H.s i0 i1 j0 j1
  exact ⟨H.y, by rw [leapt_len, hl], st_of H.y.w s b (leapt_red H.s i0 i1 j0 j1 (red_of H.p)), b, s⟩
theorem here_aft {n : Nat} {ws ps : List Int} : ∀ {L : List (Int × Int)} {M : Nat} {pts : List (List Int)}, 35 ≤ M → Here2 M ws n ps pts → GoodL n L → Here2 (M + 2 * L.length) ws n ps (aft ws pts L)
  | [], M, pts, _, H, _ => H
  | l :: L, M, pts, hM, H, g => by
    have := here_aft (L := L) (by omega) (here_leapt hM H (l := l) fun x hx => g x (by simp at hx; subst hx; exact .head _)) fun x hx => g x (.tail _ hx)
    rw [show M + 2 + 2 * L.length = M + 2 * (l :: L).length by simp; omega] at this
    exact this
abbrev col (pts : List (List Int)) (c : Nat) : Nat → Int := fun k => atP pts k c
theorem runP_at {ws : List Int} {pts : List (List Int)} {r : List (Int × Int) × Int} {k c : Nat} {w : Int} (hw : ws[c]? = some w) (hl : Ln ws.length pts) (hg : GoodL pts.length r.1) (hr : Red ws pts) (hwo : WaysOk ws) (hk : k < pts.length) : atP (runP ws pts r) k c = rd w (atP pts k c + r.2 * (af (col pts c) r.1 k - atP pts k c)) := by
  have e1 := aft_at hw (f := col pts c) k hl hg (fun k hk => (hr k c w hk hw).symm) hk
  unfold runP
  by_cases e : r.2 = 1
  · rw [if_pos e, e1, e, Int.one_mul]
    congr 1
    omega
  · rw [if_neg e]
    have hn : (aft ws pts r.1).length = pts.length ∧ Ln ws.length (aft ws pts r.1) := by
      clear e1 hr hk e
      generalize r.1 = L at hg ⊢
      induction L generalizing pts with
      | nil => exact ⟨rfl, hl⟩
      | cons l L ih =>
        obtain ⟨a, b, c, d⟩ := hg l (.head _)
        have := ih (pts := leapt ws pts l.1 l.2) (leapt_ln hl a b c d) (by rw [leapt_len]; exact fun x hx => hg x (.tail _ hx))
        rw [leapt_len] at this
        exact this
    obtain ⟨p, g1, m1⟩ := get_of hk
    obtain ⟨q, g2, m2⟩ := get_of (show k < (aft ws pts r.1).length by rw [hn.1]; exact hk)
    have hc := get_lt hw
    obtain ⟨x, f1, _⟩ := get_of (show c < p.length by rw [hl p m1]; exact hc)
    obtain ⟨y, f2, _⟩ := get_of (show c < q.length by rw [hn.2 q m2]; exact hc)
    rw [atP_get g2 f2] at e1
    have e2 : (List.zipWith (fun a b => z3 (mv1 r.2) ws a b) pts (aft ws pts r.1))[k]? = some (z3 (mv1 r.2) ws p q) := by
      rw [List.getElem?_zipWith, g1, g2]
    rw [atP_get e2 (z3_get hw f1 f2), atP_get g1 f1]
    unfold mv1
    rw [e1, rd_mv]
theorem runP_red {ws : List Int} {pts : List (List Int)} {r : List (Int × Int) × Int} {n : Nat} (hl : Ln ws.length pts) (hg : GoodL pts.length r.1) (hr : Red ws pts) (hwo : WaysOk ws) (hn : (runP ws pts r).length = pts.length) : Red ws (runP ws pts r) := by
  intro k c w hk hw
  rw [runP_at hw hl hg hr hwo (by omega), rd_rd]
theorem here_run {M n : Nat} {ws ps : List Int} {pts : List (List Int)} {r : List (Int × Int) × Int} (hM : 35 ≤ M) (H : Here2 M ws n ps pts) (R : RunY n ps r) : Here2 (M + 122) ws n ps (runP ws pts r) := by
  obtain ⟨b, s, l⟩ := run_all H.y.w hM H.b H.s H.l R.ok
  exact ⟨H.y, l, st_of H.y.w s b (runP_red (n := n) H.s (by rw [H.l]; exact R.g.g rfl) (red_of H.p) H.y.w (by rw [l, H.l])), b, s⟩
theorem here_row {n : Nat} {ws ps : List Int} : ∀ {row : List (List (Int × Int) × Int)} {M : Nat} {pts : List (List Int)}, 35 ≤ M → Here2 M ws n ps pts → (∀ r ∈ row, RunY n ps r) → Here2 (M + 122 * row.length) ws n ps (rowP ws pts row)
  | [], M, pts, _, H, _ => H
  | r :: row, M, pts, hM, H, g => by
    have := here_row (row := row) (by omega) (here_run hM H (g r (.head _))) fun x hx => g x (.tail _ hx)
    rw [show M + 122 + 122 * row.length = M + 122 * (r :: row).length by simp; omega] at this
    exact this
/-! ### posts stay -/
theorem af_post {L : List (Int × Int)} {k : Nat} : ∀ {f : Nat → Int}, (∀ l ∈ L, l.1.toNat ≠ k) → af f L k = f k := by
  induction L with
  | nil => intro f _; rfl
  | cons l L ih =>
    intro f h
    rw [af_cons, ih fun x hx => h x (.tail _ hx)]
    unfold lf
    rw [if_neg fun e => h l (.head _) e.symm]
theorem run_post {M n k : Nat} {ws ps : List Int} {pts : List (List Int)} {r : List (Int × Int) × Int} (hM : 35 ≤ M) (H : Here2 M ws n ps pts) (R : RunY n ps r) (hk : k < n) (hp : (k : Int) ∈ ps) : (runP ws pts r)[k]? = pts[k]? := by
  have H2 := here_run hM H R
  obtain ⟨p, e1, m1⟩ := get_of (show k < pts.length by rw [H.l]; exact hk)
  obtain ⟨q, e2, m2⟩ := get_of (show k < (runP ws pts r).length by rw [H2.l]; exact hk)
  rw [e1, e2]
  congr 1
  have lp := H.s p m1
  have lq := H2.s q m2
  refine List.ext_getElem? fun c => ?_
  by_cases hc : c < ws.length
  · obtain ⟨w, hw, _⟩ := get_of hc
    obtain ⟨x, f1, _⟩ := get_of (show c < p.length by omega)
    obtain ⟨y, f2, _⟩ := get_of (show c < q.length by omega)
    have e := runP_at (r := r) hw H.s (by rw [H.l]; exact R.g.g rfl) (red_of H.p) H.y.w (by rw [H.l]; exact hk)
    rw [af_post (f := col pts c) (k := k) fun l hl z => by
      obtain ⟨a, _, _, _, _, b⟩ := R.g l hl
      exact b (by rw [show l.1 = (k : Int) by omega]; exact hp)] at e
    rw [atP_get e2 f2, show atP pts k c + r.2 * (col pts c k - atP pts k c) = atP pts k c by simp [col], red_of H.p k c w (by rw [H.l]; exact hk) hw, atP_get e1 f1] at e
    rw [f1, f2, e]
  · rw [List.getElem?_eq_none (by omega), List.getElem?_eq_none (by omega)]
theorem row_post {n k : Nat} {ws ps : List Int} (hk : k < n) (hp : (k : Int) ∈ ps) : ∀ {row : List (List (Int × Int) × Int)} {M : Nat} {pts : List (List Int)}, 35 ≤ M → Here2 M ws n ps pts → (∀ r ∈ row, RunY n ps r) → (rowP ws pts row)[k]? = pts[k]?
  | [], M, pts, _, H, _ => rfl
  | r :: row, M, pts, hM, H, g => by
    have := row_post hk hp (row := row) (by omega) (here_run hM H (g r (.head _))) fun x hx => g x (.tail _ hx)
    rw [show rowP ws pts (r :: row) = rowP ws (runP ws pts r) row from rfl, this, run_post hM H (g r (.head _)) hk hp]
/-! ### leap by leap -/
def aftN (ws : List Int) : Nat → List (List Int) → List (Int × Int) → List (List Int)
  | 0, pts, _ => pts
  | t + 1, pts, L => aftN ws t (aft ws pts L) L
theorem aftN_snoc {ws : List Int} {L : List (Int × Int)} : ∀ {t : Nat} {pts : List (List Int)}, aftN ws (t + 1) pts L = aft ws (aftN ws t pts L) L
  | 0, _ => rfl
  | t + 1, pts => by rw [aftN, aftN_snoc (t := t)]; rfl
theorem here_aftN {n : Nat} {ws ps : List Int} {L : List (Int × Int)} (g : GoodL n L) : ∀ {t M : Nat} {pts : List (List Int)}, 35 ≤ M → Here2 M ws n ps pts → Here2 (M + t * (2 * L.length)) ws n ps (aftN ws t pts L)
  | 0, M, pts, _, H => by rw [Nat.zero_mul]; exact H
  | t + 1, M, pts, hM, H => by
    have := here_aftN g (t := t) (by omega) (here_aft hM H g)
    rw [show M + 2 * L.length + t * (2 * L.length) = M + (t + 1) * (2 * L.length) by rw [Nat.add_mul, Nat.one_mul]; omega] at this
    exact this
theorem aftN_at {M n : Nat} {ws ps : List Int} {L : List (Int × Int)} {c : Nat} {w : Int} (hw : ws[c]? = some w) (g : GoodL n L) : ∀ {t M : Nat} {pts : List (List Int)} {f : Nat → Int} (k : Nat), 35 ≤ M → Here2 M ws n ps pts → (∀ k, k < n → atP pts k c = rd w (f k)) → k < n → atP (aftN ws t pts L) k c = rd w (afN t f L k)
  | 0, M, pts, f, k, _, H, h, hk => h k hk
  | t + 1, M, pts, f, k, hM, H, h, hk => by
    rw [aftN, afN]
    have hl := H.l
    exact aftN_at (M := M) hw g (t := t) k (by omega) (here_aft hM H g) (fun k hk => aft_at hw k H.s (by rw [hl]; exact g) (by rw [hl]; exact h) (by omega)) hk
theorem aftN_run {M n t : Nat} {ws ps : List Int} {pts : List (List Int)} {r : List (Int × Int) × Int} (hM : 35 ≤ M) (H : Here2 M ws n ps pts) (R : RunY n ps r) (ht : (t : Int) = r.2) (hs : r.2 = 1 ∨ SteadyF r.1) : aftN ws t pts r.1 = runP ws pts r := by
  have H1 := here_aftN (R.g.g rfl) (t := t) hM H
  have H2 := here_run hM H R
  refine ext_P (m := ws.length) (by rw [H1.l, H2.l]) H1.s H2.s fun k c hk hc => ?_
  rw [H1.l] at hk
  obtain ⟨w, hw, _⟩ := get_of hc
  rw [aftN_at (M := M) (f := col pts c) hw (R.g.g rfl) k hM H (fun k hk => (red_of H.p k c w (by rw [H.l]; exact hk) hw).symm) hk, runP_at hw H.s (by rw [H.l]; exact R.g.g rfl) (red_of H.p) H.y.w (by rw [H.l]; exact hk)]
  rcases hs with hs | hs
  · rw [show t = 1 by omega, afN_one, hs]
    congr 1
    omega
  · rw [afN_ok hs, ht]
end K4

namespace K4
open PySem L2 PyProof.Rows DL
local macro_rules | `(tactic| mconstructor) => `(tactic| first | exact .inl rfl | exact .inr (.inl rfl) | exact .inr rfl | exact .inr (.inr rfl))
local macro_rules | `(tactic| mpure_intro) => `(tactic| (simp only [cxOf, envOfC, Cx.blk, compEnvC, relab_eq]; decide +kernel))
local macro_rules | `(tactic| mleft) => `(tactic| first | with_reducible refine wSeq ?_ | with_reducible refine wRet ?_ | with_reducible refine wSet ?_ | with_reducible refine wNext ?_ | with_reducible refine wBin ?_ | with_reducible refine wC ?_ | with_reducible refine wCons ?_ | with_reducible refine wNil ?_ | with_reducible refine wTv ?_ | with_reducible refine wUn ?_ | with_reducible refine wBi ?_ | with_reducible refine wLst ?_ | with_reducible refine wTup ?_ | with_reducible refine wNot ?_ | with_reducible refine wNotV ?_ | with_reducible refine wTrue ?_ | with_reducible refine wAnd ?_ | with_reducible refine wOr ?_ | with_reducible refine wIf ?_ | with_reducible refine wIte ?_ | with_reducible refine wAndV ?_ | with_reducible refine wOrV ?_ | with_reducible refine wChain ?_ | with_reducible refine wSl ?_ | with_reducible refine wPN ?_ | with_reducible refine wPS ?_ | with_reducible refine wExpr ?_ | with_reducible refine wRaise ?_ | with_reducible refine wIter ?_ | with_reducible refine wRng ?_ | with_reducible refine wSeqs ?_ | with_reducible refine wCall ?_ | with_reducible refine wSetIx rfl ?_ | with_reducible refine wApp rfl ?_ | with_reducible refine wUnp ?_ | with_reducible refine wFor ?_ | with_reducible refine wComp ?_ | with_reducible refine wFrz ?_ | with_reducible refine wV rfl ?_ | with_reducible refine wVo rfl ?_)
local macro_rules | `(tactic| massumption) => `(tactic| first | decide | omega | assumption | exact cmul 100 100 (by omega) (by omega) (by decide))
local macro_rules | `(tactic| mright) => `(tactic| first | ((with_reducible refine And.intro (a := (_ && _) = true) ?_ ?_); (focus ((try dsimp only [soft, List.map_cons, List.map_nil, toArg, List.getElem?_cons_zero, List.getElem?_cons_succ]); first | rfl | (simp [alNd, pos?, argOk]; done))); (try dsimp only [soft, List.map_cons, List.map_nil, toArg, List.getElem?_cons_zero, List.getElem?_cons_succ])) | ((with_reducible refine And.intro (a := _ < _) ?_ ?_); focus (first | omega | (simp; omega))) | ((with_reducible show And _ _); first | refine ⟨fun z => absurd z (by decide), fun _ => ?_⟩ | refine ⟨fun _ => ?_, fun z => absurd z (by decide)⟩) | ((with_reducible show Exists _); first | refine ⟨_, _, _, rfl, rfl, mod_ok (by massumption), ?_⟩ | refine ⟨_, _, _, rfl, rfl, mul_ok (by massumption), ?_⟩ | refine ⟨_, _, _, rfl, rfl, div_ok (by massumption), ?_⟩ | (refine ⟨_, _, _, rfl, rfl, pow_ok (by decide), ?_⟩; simp only [Int.reduceToNat, Int.reducePow]) | refine ⟨_, _, _, rfl, rfl, rfl, ?_⟩ | refine ⟨_, _, _, rfl, rfl, ix_ok (by assumption), ?_⟩ | refine ⟨_, _, _, rfl, rfl, ixt_ok (by assumption), ?_⟩ | (refine ⟨_, _, _, _, rfl, rfl, rfl, ?_⟩; (try dsimp only [Int.reduceToNat, List.set_cons_zero, List.set_cons_succ])) | refine ⟨_, _, _, _, rfl, rfl, (by first | massumption | (simp; omega)), ?_⟩ | refine ⟨_, _, _, rfl, rfl, ?_⟩ | refine ⟨_, _, rfl, rng_ok (by omega) (by omega), ?_⟩ | refine ⟨_, rfl, ?_⟩ | refine ⟨_, _, rfl, rfl, ?_⟩ | refine ⟨_, _, rfl, (by first | decide | (simp; done)), ?_⟩ | refine ⟨_, _, rfl, ?_⟩))
local macro_rules | `(tactic| mstop) => `(tactic| first | ((with_reducible refine wsv ?_ ?_ ?_); (focus (simp; done)); (focus (first | rfl | assumption | (rw [upd1_none (by rfl)]; assumption))); dsimp only [List.set_cons_zero, List.set_cons_succ]) | ((with_reducible refine wsf ?_ ?_ ?_); (focus (simp; done)); (focus (first | rfl | assumption | (rw [upd1_none (by rfl)]; assumption))); dsimp only [List.set_cons_zero, List.set_cons_succ]))
local macro_rules | `(tactic| mexfalso) => `(tactic| (refine ⟨trivial, ?_⟩; simp only [backC, upd1_va, upd1_un, upd1_v1, upd1_v2, upd1_v3, upd1_v4, upd1_ow, upd1_none, pos?, if_true, if_false, reduceIte, Option.map_some, Option.map_none, Nat.reduceAdd, Nat.reduceEqDiff, List.getElem?_cons_zero, List.getElem?_cons_succ, List.set_cons_zero, List.set_cons_succ]))
local macro_rules | `(tactic| mstart) => `(tactic| repeat (first | mleft | mright | mstop))
theorem rd0 {y : Int} : rd 0 y = y := rfl
theorem zs_get {m c : Nat} (h : c < m) : (List.replicate m (0 : Int))[c]? = some 0 := by rw [List.getElem?_replicate, if_pos h]
theorem zs_ways {m : Nat} : WaysOk (List.replicate m 0) := fun w hw => .inl (List.eq_of_mem_replicate hw)
theorem aft_shape {m : Nat} {pts : List (List Int)} {L : List (Int × Int)} (hl : Ln m pts) (hg : GoodL pts.length L) : Ln m (aft (List.replicate m 0) pts L) ∧ (aft (List.replicate m 0) pts L).length = pts.length := by
  induction L generalizing pts with
  | nil => exact ⟨hl, rfl⟩
  | cons l L ih =>
    obtain ⟨a, b, c, d⟩ := hg l (.head _)
    have lr : (List.replicate m (0 : Int)).length = m := List.length_replicate
    have := ih (pts := leapt (List.replicate m 0) pts l.1 l.2) (by have := leapt_ln (ws := List.replicate m 0) (by rw [lr]; exact hl) a b c d; rw [lr] at this; exact this) (by rw [leapt_len]; exact fun x hx => hg x (.tail _ hx))
    rw [leapt_len] at this
    exact this
theorem zw_get {α β γ : Type} {f : α → β → γ} {xs : List α} {ys : List β} {i : Nat} {x : α} {y : β} (h : xs[i]? = some x) (h2 : ys[i]? = some y) : (List.zipWith f xs ys)[i]? = some (f x y) := by rw [List.getElem?_zipWith, h, h2]
theorem vecB_at {m : Nat} {s e : List (List Int)} {k c : Nat} (ls : Ln m s) (le : Ln m e) (hl : e.length = s.length) (hk : k < s.length) (hc : c < m) : atP (vecB s e) k c = atP e k c - atP s k c := by
  obtain ⟨p, e1, m1⟩ := get_of hk
  obtain ⟨q, e2, m2⟩ := get_of (show k < e.length by omega)
  obtain ⟨x, f1, _⟩ := get_of (show c < p.length by rw [ls p m1]; exact hc)
  obtain ⟨y, f2, _⟩ := get_of (show c < q.length by rw [le q m2]; exact hc)
  rw [atP_get e1 f1, atP_get e2 f2]
  exact atP_get (zw_get e1 e2) (zw_get f1 f2)
theorem vecB_ln {m : Nat} {s e : List (List Int)} (ls : Ln m s) (le : Ln m e) : Ln m (vecB s e) := by
  intro p hp
  obtain ⟨a, b, ha, hb, rfl⟩ := zw_mem hp
  rw [dif, List.length_zipWith, ls a ha, le b hb, Nat.min_self]
theorem steady_of {n : Nat} {L : List (Int × Int)} (hg : GoodL n L) (h : SteadyF L) : Steady n L := by
  obtain ⟨_, u2, u3⟩ := unit_ok (n := n)
  obtain ⟨a2, a3⟩ := aft_shape (m := n) u2 (L := L) (by rw [u3]; exact hg)
  obtain ⟨b2, b3⟩ := aft_shape (m := n) a2 (L := L) (by rw [a3, u3]; exact hg)
  unfold Steady
  have lr : (List.replicate n (0 : Int)).length = n := List.length_replicate
  refine ext_P (m := n) (by rw [vecB, vecB, List.length_zipWith, List.length_zipWith, b3, a3]) (vecB_ln u2 a2) (vecB_ln a2 b2) fun k c hk hc => ?_
  rw [vecB, List.length_zipWith, a3, u3, Nat.min_self] at hk
  rw [vecB_at u2 a2 a3 (by omega) hc, vecB_at a2 b2 b3 (by omega) hc]
  have ea : ∀ k, k < n → atP (aft (List.replicate n 0) (unit n) L) k c = af (col (unit n) c) L k := fun k hk =>
    aft_at (zs_get hc) (f := col (unit n) c) k (by rw [lr]; exact u2) (by rw [u3]; exact hg) (fun k _ => rfl) (by omega)
  have eb := aft_at (zs_get hc) (pts := aft (List.replicate n 0) (unit n) L) (L := L) (f := af (col (unit n) c) L) k (by rw [lr]; exact a2) (by rw [a3, u3]; exact hg) (fun k hk => by rw [ea k (by omega)]; rfl) (by omega)
  rw [rd0] at eb
  rw [eb, ea k hk, h]
  show _ - atP (unit n) k c = _ - atP (unit n) k c - _
  omega
/-! ### the law's own row -/
def putL (a v : List Int) (t : Int) : List Int := List.zipWith (fun x y => x + t * y) a v
def roundL (ws v : List Int) : List Int := List.zipWith rd ws v
def lawRun (ws : List Int) (pts : List (List Int)) (r : List (Int × Int) × Int) : List (List Int) :=
  List.zipWith (fun one other => roundL ws (putL one (putL other one (-1)) r.2)) pts (aft (List.replicate ws.length 0) pts r.1)
theorem lawRun_eq {M n : Nat} {ws ps : List Int} {pts : List (List Int)} {r : List (Int × Int) × Int} (hM : 35 ≤ M) (H : Here2 M ws n ps pts) (R : RunY n ps r) : lawRun ws pts r = runP ws pts r := by
  have H2 := here_run hM H R
  obtain ⟨a2, a3⟩ := aft_shape (L := r.1) H.s (by rw [H.l]; exact R.g.g rfl)
  have el : (lawRun ws pts r).length = n := by rw [lawRun, List.length_zipWith, a3, H.l, Nat.min_self]
  refine ext_P (m := ws.length) (by rw [el, H2.l]) (fun p hp => ?_) H2.s fun k c hk hc => ?_
  · obtain ⟨a, b, ha, hb, rfl⟩ := zw_mem hp
    rw [roundL, putL, putL, List.length_zipWith, List.length_zipWith, List.length_zipWith, H.s a ha, a2 b hb]
    omega
  · rw [el] at hk
    obtain ⟨w, hw, _⟩ := get_of hc
    rw [runP_at hw H.s (by rw [H.l]; exact R.g.g rfl) (red_of H.p) H.y.w (by rw [H.l]; exact hk)]
    have lr : (List.replicate ws.length (0 : Int)).length = ws.length := List.length_replicate
    have ea := aft_at (zs_get hc) (pts := pts) (L := r.1) (f := col pts c) k (by rw [lr]; exact H.s) (by rw [H.l]; exact R.g.g rfl) (fun k _ => rfl) (by rw [H.l]; exact hk)
    obtain ⟨p, e1, m1⟩ := get_of (show k < pts.length by rw [H.l]; exact hk)
    obtain ⟨q, e2, m2⟩ := get_of (show k < (aft (List.replicate ws.length 0) pts r.1).length by rw [a3, H.l]; exact hk)
    obtain ⟨x, f1, _⟩ := get_of (show c < p.length by rw [H.s p m1]; exact hc)
    obtain ⟨y, f2, _⟩ := get_of (show c < q.length by rw [a2 q m2]; exact hc)
    rw [atP_get e2 f2, rd0] at ea
    rw [← ea, atP_get e1 f1]
    have e3 : (lawRun ws pts r)[k]? = some (roundL ws (putL p (putL q p (-1)) r.2)) := zw_get e1 e2
    have e4 : (roundL ws (putL p (putL q p (-1)) r.2))[c]? = some (rd w (x + r.2 * (y + (-1) * x))) := zw_get hw (zw_get f1 (zw_get f2 f1))
    rw [atP_get e3 e4, show y + (-1) * x = y - x by omega]
end K4

namespace K4
open PySem L2 PyProof.Rows DL
local macro_rules | `(tactic| mconstructor) => `(tactic| first | exact .inl rfl | exact .inr (.inl rfl) | exact .inr rfl | exact .inr (.inr rfl))
local macro_rules | `(tactic| mpure_intro) => `(tactic| (simp only [cxOf, envOfC, Cx.blk, compEnvC, relab_eq]; decide +kernel))
local macro_rules | `(tactic| mleft) => `(tactic| first | with_reducible refine wSeq ?_ | with_reducible refine wRet ?_ | with_reducible refine wSet ?_ | with_reducible refine wNext ?_ | with_reducible refine wBin ?_ | with_reducible refine wC ?_ | with_reducible refine wCons ?_ | with_reducible refine wNil ?_ | with_reducible refine wTv ?_ | with_reducible refine wUn ?_ | with_reducible refine wBi ?_ | with_reducible refine wLst ?_ | with_reducible refine wTup ?_ | with_reducible refine wNot ?_ | with_reducible refine wNotV ?_ | with_reducible refine wTrue ?_ | with_reducible refine wAnd ?_ | with_reducible refine wOr ?_ | with_reducible refine wIf ?_ | with_reducible refine wIte ?_ | with_reducible refine wAndV ?_ | with_reducible refine wOrV ?_ | with_reducible refine wChain ?_ | with_reducible refine wSl ?_ | with_reducible refine wPN ?_ | with_reducible refine wPS ?_ | with_reducible refine wExpr ?_ | with_reducible refine wRaise ?_ | with_reducible refine wIter ?_ | with_reducible refine wRng ?_ | with_reducible refine wSeqs ?_ | with_reducible refine wCall ?_ | with_reducible refine wSetIx rfl ?_ | with_reducible refine wApp rfl ?_ | with_reducible refine wUnp ?_ | with_reducible refine wFor ?_ | with_reducible refine wComp ?_ | with_reducible refine wFrz ?_ | with_reducible refine wV rfl ?_ | with_reducible refine wVo rfl ?_)
local macro_rules | `(tactic| massumption) => `(tactic| first | decide | omega | assumption | exact cmul 100 100 (by omega) (by omega) (by decide))
local macro_rules | `(tactic| mright) => `(tactic| first | ((with_reducible refine And.intro (a := (_ && _) = true) ?_ ?_); (focus ((try dsimp only [soft, List.map_cons, List.map_nil, toArg, List.getElem?_cons_zero, List.getElem?_cons_succ]); first | rfl | (simp [alNd, pos?, argOk]; done))); (try dsimp only [soft, List.map_cons, List.map_nil, toArg, List.getElem?_cons_zero, List.getElem?_cons_succ])) | ((with_reducible refine And.intro (a := _ < _) ?_ ?_); focus (first | omega | (simp; omega))) | ((with_reducible show And _ _); first | refine ⟨fun z => absurd z (by decide), fun _ => ?_⟩ | refine ⟨fun _ => ?_, fun z => absurd z (by decide)⟩) | ((with_reducible show Exists _); first | refine ⟨_, _, _, rfl, rfl, mod_ok (by massumption), ?_⟩ | refine ⟨_, _, _, rfl, rfl, mul_ok (by massumption), ?_⟩ | refine ⟨_, _, _, rfl, rfl, div_ok (by massumption), ?_⟩ | (refine ⟨_, _, _, rfl, rfl, pow_ok (by decide), ?_⟩; simp only [Int.reduceToNat, Int.reducePow]) | refine ⟨_, _, _, rfl, rfl, rfl, ?_⟩ | refine ⟨_, _, _, rfl, rfl, ix_ok (by assumption), ?_⟩ | refine ⟨_, _, _, rfl, rfl, ixt_ok (by assumption), ?_⟩ | (refine ⟨_, _, _, _, rfl, rfl, rfl, ?_⟩; (try dsimp only [Int.reduceToNat, List.set_cons_zero, List.set_cons_succ])) | refine ⟨_, _, _, _, rfl, rfl, (by first | massumption | (simp; omega)), ?_⟩ | refine ⟨_, _, _, rfl, rfl, ?_⟩ | refine ⟨_, _, rfl, rng_ok (by omega) (by omega), ?_⟩ | refine ⟨_, rfl, ?_⟩ | refine ⟨_, _, rfl, rfl, ?_⟩ | refine ⟨_, _, rfl, (by first | decide | (simp; done)), ?_⟩ | refine ⟨_, _, rfl, ?_⟩))
local macro_rules | `(tactic| mstop) => `(tactic| first | ((with_reducible refine wsv ?_ ?_ ?_); (focus (simp; done)); (focus (first | rfl | assumption | (rw [upd1_none (by rfl)]; assumption))); dsimp only [List.set_cons_zero, List.set_cons_succ]) | ((with_reducible refine wsf ?_ ?_ ?_); (focus (simp; done)); (focus (first | rfl | assumption | (rw [upd1_none (by rfl)]; assumption))); dsimp only [List.set_cons_zero, List.set_cons_succ]))
local macro_rules | `(tactic| mexfalso) => `(tactic| (refine ⟨trivial, ?_⟩; simp only [backC, upd1_va, upd1_un, upd1_v1, upd1_v2, upd1_v3, upd1_v4, upd1_ow, upd1_none, pos?, if_true, if_false, reduceIte, Option.map_some, Option.map_none, Nat.reduceAdd, Nat.reduceEqDiff, List.getElem?_cons_zero, List.getElem?_cons_succ, List.set_cons_zero, List.set_cons_succ]))
local macro_rules | `(tactic| mstart) => `(tactic| repeat (first | mleft | mright | mstop))
variable {Q : Rs → Rho → Prop} {E : Exn → Rho → Prop}
theorem ls_get {pts : List (List Int)} {i : Nat} {d : DL.D} (h : (lsD pts)[i]? = some d) : ∃ p, pts[i]? = some p ∧ d = ls p := runD_get h
theorem at_ls {pts : List (List Int)} {i : Int} (h0 : 0 ≤ i) (h1 : i < pts.length) : atI (lsD pts) i = some (ls (pts.getD i.toNat [])) ∧ pts[i.toNat]? = some (pts.getD i.toNat []) := by
  obtain ⟨_, g2⟩ := at_pts h0 h1
  refine ⟨?_, g2⟩
  have e : ((i.toNat : Nat) : Int) = i := Int.toNat_of_nonneg h0
  have g : atI (lsD pts) ((i.toNat : Nat) : Int) = some (ls (pts.getD i.toNat [])) := by
    refine atI_nat (j := i.toNat) ?_
    rw [List.getElem?_map, g2]; rfl
  rw [e] at g
  exact g
theorem places_w {M m : Nat} {pts : List (List Int)} {L : List (Int × Int)} (hM0 : 35 ≤ M) (hM : M ≤ 100000) (m6 : m ≤ 6) (hl : Ln m pts) (hb : Bg M pts) (hg : GoodL pts.length L) (h6 : pts.length ≤ 6) (hL : L.length ≤ 40)
    (h : Q (.fr (lsD (aft (List.replicate m 0) pts L))) [.va (.lst (lsD pts)), .va (.tup (L.map lpD))]) : RW (m__law_places [.va (.lst (lsD pts)), .va (.tup (L.map lpD))]) Q E := by
  have lr : (List.replicate m (0 : Int)).length = m := List.length_replicate
  (refine wFun ?_; unfold n__law_places; simp only [List.length_cons, List.length_nil, Nat.reduceAdd, Nat.reduceSub, List.replicate, List.cons_append, List.nil_append, Nat.zero_add])
  mstart
  refine ⟨fun i acc ρ => ρ = [.va (.lst (lsD pts)), .va (.tup (L.map lpD)), .un, .un, .un, .un, .un, .un] ∧ acc = lsD (pts.take i), ⟨rfl, by simp⟩, ?_, ?_⟩
  · rintro i x acc ρ hx ⟨rfl, rfl⟩
    obtain ⟨p, e2, rfl⟩ := ls_get hx
    have hi := get_lt e2
    refine ⟨_, if_pos ⟨by simp, rfl⟩, ?_⟩
    dsimp only [List.set_cons_zero, List.set_cons_succ]
    mstart
    all_goals (try (refine ⟨by rw [List.length_map, List.length_take]; omega, ?_⟩; mstart))
    exact (by rw [List.take_add_one, e2, lsD, lsD, List.map_append]; rfl)
  rintro acc ρ ⟨rfl, rfl⟩
  rw [List.length_map, List.take_length]
  dsimp only [restoR, wipeR, List.set_cons_zero, List.set_cons_succ, List.getElem?_cons_zero, List.getElem?_cons_succ]
  mstart
  refine ⟨fun k ρ => ∃ s4 s5, isIo (some s4) = false ∧ isIo (some s5) = false ∧ ρ = [.va (.lst (lsD pts)), .va (.tup (L.map lpD)), .ow false (lsD (aft (List.replicate m 0) pts (L.take k))), s4, s5, .un, .un, .un], ⟨.un, .un, rfl, rfl, rfl⟩, ?_, ?_⟩
  · rintro k x ρ hx ⟨s4, s5, i4, i5, rfl⟩
    obtain ⟨l, hl1, rfl⟩ := lp_get hx
    have hk := get_lt hl1
    obtain ⟨i0, i1, j0, j1⟩ := hg l (List.mem_of_getElem? hl1)
    obtain ⟨b1, l1, n1⟩ := aft_all (ws := List.replicate m 0) zs_ways hM0 (L := L.take k) hb (by rw [lr]; exact hl) (fun x hx => hg x (List.mem_of_mem_take hx))
    rw [lr] at l1
    have hlen : (L.take k).length ≤ L.length := by rw [List.length_take]; omega
    have b2 := b1.mono (show M + 2 * (L.take k).length ≤ M + 2 * L.length by omega)
    generalize hcur : aft (List.replicate m 0) pts (L.take k) = cur at *
    obtain ⟨hx1, hi1⟩ := at_ls (pts := cur) i0 (by omega)
    obtain ⟨hx2, hj1⟩ := at_ls (pts := cur) j0 (by omega)
    have la := l1 _ (List.mem_of_getElem? hi1)
    have lb := l1 _ (List.mem_of_getElem? hj1)
    have bb := b2 _ (List.mem_of_getElem? hj1)
    refine ⟨[.va (.lst (lsD pts)), .va (.tup (L.map lpD)), .ow false (lsD cur), .va (.int l.1), .va (.int l.2), .un, .un, .un], ?_, ?_⟩
    · show setVs [3, 4] [_, _] _ = _
      unfold setVs
      rw [if_pos ⟨by simp, i4⟩]
      unfold setVs
      rw [if_pos ⟨by simp, i5⟩]
      rfl
    mstart
    refine ⟨fun j acc ρ => ρ = [.va (.lst (lsD pts)), .va (.tup (L.map lpD)), .ow false (lsD cur), .va (.int l.1), .va (.int l.2), .un, .un, .un] ∧ acc = ((byP (List.replicate m 0) (cur.getD l.1.toNat []) (cur.getD l.2.toNat [])).take j).map .int, ⟨rfl, by simp⟩, ?_, ?_⟩
    · rintro j x acc ρ hx ⟨rfl, rfl⟩
      have hi := get_lt hx
      obtain ⟨x1, x2, e1, e2, rfl⟩ := zip2_get hx
      obtain ⟨y, g1, rfl⟩ := int_get e1
      obtain ⟨z, g2, rfl⟩ := int_get e2
      have hj := get_lt g1
      have hz : CMulW 2 z := cmul 2 (M + 2 * L.length) (by decide) (bb z (List.mem_of_getElem? g2)) (by omega)
      refine ⟨_, rfl, ?_⟩
      mstart
      all_goals (try (refine ⟨by rw [List.length_map, List.length_take]; omega, ?_⟩; mstart))
      rw [byP_at (zs_get (show j < m by omega)) g1 g2, List.map_append]; rfl
    · rintro acc ρ ⟨rfl, rfl⟩
      rw [zip2_len, List.length_map, List.length_map, la, lb, Nat.min_self, List.take_of_length_le (by rw [byP_len (by rw [la, lr]) (by rw [lb, lr]), lr]; exact Nat.le_refl _)]
      dsimp only [restoR, wipeR, List.set_cons_zero, List.set_cons_succ, List.getElem?_cons_zero, List.getElem?_cons_succ]
      mstart
      refine ⟨_, _, _, _, rfl, rfl, ixN_at i0 (by simp; omega), (.va (.int l.1)), (.va (.int l.2)), rfl, rfl, ?_⟩
      rw [List.take_add_one, hl1, Option.toList_some, aft_snoc, hcur, leapt]
      show _ = [_, _, Sl.ow false (List.map ls (List.set _ _ _)), _, _, _, _, _]
      rw [List.map_set]; rfl
  · rintro ρ ⟨s4, s5, i4, i5, rfl⟩
    mstart
    rw [List.length_map, List.take_length]
    exact h
theorem putll_w {M : Nat} {a v : List Int} {t : Int} (hM : M ≤ 100000) (ht : t.natAbs < 2 ^ 64) (h6 : a.length ≤ 6) (hl : v.length = a.length) (hv : ∀ x ∈ v, x.natAbs < 2 ^ M)
    (h : Q (.va (pt (putL a v t))) [.va (ls a), .va (ls v), .va (.int t)]) : RW (m__law_put [.va (ls a), .va (ls v), .va (.int t)]) Q E := by
  (refine wFun ?_; unfold n__law_put; simp only [List.length_cons, List.length_nil, Nat.reduceAdd, Nat.reduceSub, List.replicate, List.cons_append, List.nil_append, Nat.zero_add])
  mstart
  refine ⟨fun j acc ρ => ρ = [.va (ls a), .va (ls v), .va (.int t), .un, .un] ∧ acc = ((putL a v t).take j).map .int, ⟨rfl, by simp⟩, ?_, ?_⟩
  · rintro j x acc ρ hx ⟨rfl, rfl⟩
    obtain ⟨x1, x2, e1, e2, rfl⟩ := zip2_get hx
    obtain ⟨y, g1, rfl⟩ := int_get e1
    obtain ⟨z, g2, rfl⟩ := int_get e2
    have hj := get_lt g1
    have hz : CMulW t z := cmul 64 M ht (hv z (List.mem_of_getElem? g2)) (by omega)
    refine ⟨_, rfl, ?_⟩
    mstart
    all_goals (try (refine ⟨by rw [List.length_map, List.length_take]; omega, ?_⟩; mstart))
    rw [putL, zw_at g1 g2, List.map_append]; rfl
  · rintro acc ρ ⟨rfl, rfl⟩
    rw [zip2_len, List.length_map, List.length_map, hl, Nat.min_self, List.take_of_length_le (by rw [putL, List.length_zipWith, hl]; omega)]
    dsimp only [restoR, wipeR, List.set_cons_zero, List.set_cons_succ, List.getElem?_cons_zero, List.getElem?_cons_succ]
    mstart
    exact h
theorem putlp_w {M : Nat} {a v : List Int} {t : Int} (hM : M ≤ 100000) (ht : t.natAbs < 2 ^ 64) (h6 : a.length ≤ 6) (hl : v.length = a.length) (hv : ∀ x ∈ v, x.natAbs < 2 ^ M)
    (h : Q (.va (pt (putL a v t))) [.va (ls a), .va (pt v), .va (.int t)]) : RW (m__law_put [.va (ls a), .va (pt v), .va (.int t)]) Q E := by
  (refine wFun ?_; unfold n__law_put; simp only [List.length_cons, List.length_nil, Nat.reduceAdd, Nat.reduceSub, List.replicate, List.cons_append, List.nil_append, Nat.zero_add])
  mstart
  refine ⟨fun j acc ρ => ρ = [.va (ls a), .va (pt v), .va (.int t), .un, .un] ∧ acc = ((putL a v t).take j).map .int, ⟨rfl, by simp⟩, ?_, ?_⟩
  · rintro j x acc ρ hx ⟨rfl, rfl⟩
    obtain ⟨x1, x2, e1, e2, rfl⟩ := zip2_get hx
    obtain ⟨y, g1, rfl⟩ := int_get e1
    obtain ⟨z, g2, rfl⟩ := int_get e2
    have hj := get_lt g1
    have hz : CMulW t z := cmul 64 M ht (hv z (List.mem_of_getElem? g2)) (by omega)
    refine ⟨_, rfl, ?_⟩
    mstart
    all_goals (try (refine ⟨by rw [List.length_map, List.length_take]; omega, ?_⟩; mstart))
    rw [putL, zw_at g1 g2, List.map_append]; rfl
  · rintro acc ρ ⟨rfl, rfl⟩
    rw [zip2_len, List.length_map, List.length_map, hl, Nat.min_self, List.take_of_length_le (by rw [putL, List.length_zipWith, hl]; omega)]
    dsimp only [restoR, wipeR, List.set_cons_zero, List.set_cons_succ, List.getElem?_cons_zero, List.getElem?_cons_succ]
    mstart
    exact h
theorem roundx_w {ws v : List Int} (hw : WaysOk ws) (h6 : ws.length ≤ 6) (hl : v.length = ws.length)
    (h : Q (.va (pt (roundL ws v))) [.va (pt ws), .va (pt v)]) : RW (m__law_round [.va (pt ws), .va (pt v)]) Q E := by
  (refine wFun ?_; unfold n__law_round; simp only [List.length_cons, List.length_nil, Nat.reduceAdd, Nat.reduceSub, List.replicate, List.cons_append, List.nil_append, Nat.zero_add])
  mstart
  refine ⟨fun j acc ρ => ρ = [.va (pt ws), .va (pt v), .un, .un] ∧ acc = ((roundL ws v).take j).map .int, ⟨rfl, by simp⟩, ?_, ?_⟩
  · rintro j x acc ρ hx ⟨rfl, rfl⟩
    obtain ⟨x1, x2, e1, e2, rfl⟩ := zip2_get hx
    obtain ⟨w, g1, rfl⟩ := int_get e1
    obtain ⟨y, g2, rfl⟩ := int_get e2
    have hj := get_lt g1
    have hw1 := hw w (List.mem_of_getElem? g1)
    refine ⟨_, rfl, ?_⟩
    obtain ⟨z, hx3, q1, q2⟩ := at2 (x := .int y) (y := .int (y % if 1 > w then 1 else w)) (decide (0 < w))
    have ez : z = .int (rd w y) := by
      unfold rd
      by_cases hd : 0 < w
      · rw [q1 (decide_eq_true hd), if_neg (by omega), if_neg (by omega)]
      · rw [q2 (decide_eq_false hd), if_pos (by omega)]
    subst ez
    mstart
    all_goals (try (refine ⟨by rw [List.length_map, List.length_take]; omega, ?_⟩; mstart))
    rw [roundL, zw_at g1 g2, List.map_append]; rfl
  · rintro acc ρ ⟨rfl, rfl⟩
    rw [zip2_len, List.length_map, List.length_map, hl, Nat.min_self, List.take_of_length_le (by rw [roundL, List.length_zipWith, hl]; omega)]
    dsimp only [restoR, wipeR, List.set_cons_zero, List.set_cons_succ, List.getElem?_cons_zero, List.getElem?_cons_succ]
    mstart
    exact h
end K4

namespace K4
open PySem L2 PyProof.Rows DL
local macro_rules | `(tactic| mconstructor) => `(tactic| first | exact .inl rfl | exact .inr (.inl rfl) | exact .inr rfl | exact .inr (.inr rfl))
local macro_rules | `(tactic| mpure_intro) => `(tactic| (simp only [cxOf, envOfC, Cx.blk, compEnvC, relab_eq]; decide +kernel))
local macro_rules | `(tactic| mleft) => `(tactic| first | with_reducible refine wSeq ?_ | with_reducible refine wRet ?_ | with_reducible refine wSet ?_ | with_reducible refine wNext ?_ | with_reducible refine wBin ?_ | with_reducible refine wC ?_ | with_reducible refine wCons ?_ | with_reducible refine wNil ?_ | with_reducible refine wTv ?_ | with_reducible refine wUn ?_ | with_reducible refine wBi ?_ | with_reducible refine wLst ?_ | with_reducible refine wTup ?_ | with_reducible refine wNot ?_ | with_reducible refine wNotV ?_ | with_reducible refine wTrue ?_ | with_reducible refine wAnd ?_ | with_reducible refine wOr ?_ | with_reducible refine wIf ?_ | with_reducible refine wIte ?_ | with_reducible refine wAndV ?_ | with_reducible refine wOrV ?_ | with_reducible refine wChain ?_ | with_reducible refine wSl ?_ | with_reducible refine wPN ?_ | with_reducible refine wPS ?_ | with_reducible refine wExpr ?_ | with_reducible refine wRaise ?_ | with_reducible refine wIter ?_ | with_reducible refine wRng ?_ | with_reducible refine wSeqs ?_ | with_reducible refine wCall ?_ | with_reducible refine wSetIx rfl ?_ | with_reducible refine wApp rfl ?_ | with_reducible refine wUnp ?_ | with_reducible refine wFor ?_ | with_reducible refine wComp ?_ | with_reducible refine wFrz ?_ | with_reducible refine wV rfl ?_ | with_reducible refine wVo rfl ?_)
local macro_rules | `(tactic| massumption) => `(tactic| first | decide | omega | assumption | exact cmul 100 100 (by omega) (by omega) (by decide))
local macro_rules | `(tactic| mright) => `(tactic| first | ((with_reducible refine And.intro (a := (_ && _) = true) ?_ ?_); (focus ((try dsimp only [soft, List.map_cons, List.map_nil, toArg, List.getElem?_cons_zero, List.getElem?_cons_succ]); first | rfl | (simp [alNd, pos?, argOk]; done))); (try dsimp only [soft, List.map_cons, List.map_nil, toArg, List.getElem?_cons_zero, List.getElem?_cons_succ])) | ((with_reducible refine And.intro (a := _ < _) ?_ ?_); focus (first | omega | (simp; omega))) | ((with_reducible show And _ _); first | refine ⟨fun z => absurd z (by decide), fun _ => ?_⟩ | refine ⟨fun _ => ?_, fun z => absurd z (by decide)⟩) | ((with_reducible show Exists _); first | refine ⟨_, _, _, rfl, rfl, mod_ok (by massumption), ?_⟩ | refine ⟨_, _, _, rfl, rfl, mul_ok (by massumption), ?_⟩ | refine ⟨_, _, _, rfl, rfl, div_ok (by massumption), ?_⟩ | (refine ⟨_, _, _, rfl, rfl, pow_ok (by decide), ?_⟩; simp only [Int.reduceToNat, Int.reducePow]) | refine ⟨_, _, _, rfl, rfl, rfl, ?_⟩ | refine ⟨_, _, _, rfl, rfl, ix_ok (by assumption), ?_⟩ | refine ⟨_, _, _, rfl, rfl, ixt_ok (by assumption), ?_⟩ | (refine ⟨_, _, _, _, rfl, rfl, rfl, ?_⟩; (try dsimp only [Int.reduceToNat, List.set_cons_zero, List.set_cons_succ])) | refine ⟨_, _, _, _, rfl, rfl, (by first | massumption | (simp; omega)), ?_⟩ | refine ⟨_, _, _, rfl, rfl, ?_⟩ | refine ⟨_, _, rfl, rng_ok (by omega) (by omega), ?_⟩ | refine ⟨_, rfl, ?_⟩ | refine ⟨_, _, rfl, rfl, ?_⟩ | refine ⟨_, _, rfl, (by first | decide | (simp; done)), ?_⟩ | refine ⟨_, _, rfl, ?_⟩))
local macro_rules | `(tactic| mstop) => `(tactic| first | ((with_reducible refine wsv ?_ ?_ ?_); (focus (simp; done)); (focus (first | rfl | assumption | (rw [upd1_none (by rfl)]; assumption))); dsimp only [List.set_cons_zero, List.set_cons_succ]) | ((with_reducible refine wsf ?_ ?_ ?_); (focus (simp; done)); (focus (first | rfl | assumption | (rw [upd1_none (by rfl)]; assumption))); dsimp only [List.set_cons_zero, List.set_cons_succ]))
local macro_rules | `(tactic| mexfalso) => `(tactic| (refine ⟨trivial, ?_⟩; simp only [backC, upd1_va, upd1_un, upd1_v1, upd1_v2, upd1_v3, upd1_v4, upd1_ow, upd1_none, pos?, if_true, if_false, reduceIte, Option.map_some, Option.map_none, Nat.reduceAdd, Nat.reduceEqDiff, List.getElem?_cons_zero, List.getElem?_cons_succ, List.set_cons_zero, List.set_cons_succ]))
local macro_rules | `(tactic| mstart) => `(tactic| repeat (first | mleft | mright | mstop))
def ec (c : Nat) : Nat → Int := fun k => if c = k then 1 else 0
theorem unit_at {n k c : Nat} (hk : k < n) (hc : c < n) : atP (unit n) k c = ec c k := by
  have e1 : (unit n)[k]? = some (unitR n k) := by
    rw [unit, List.getElem?_map, List.getElem?_range hk]; rfl
  have e2 : (unitR n k)[c]? = some (if c = k then 1 else 0) := by
    rw [unitR, List.getElem?_map, List.getElem?_range hc]; rfl
  exact atP_get e1 e2
def St (n : Nat) (L : List (Int × Int)) : Prop := ∀ k c, k < n → c < n → af (af (ec c) L) L k = 2 * af (ec c) L k - ec c k
theorem steady_iff {n : Nat} {L : List (Int × Int)} (hg : GoodL n L) : Steady n L ↔ St n L := by
  obtain ⟨_, u2, u3⟩ := unit_ok (n := n)
  obtain ⟨a2, a3⟩ := aft_shape (m := n) u2 (L := L) (by rw [u3]; exact hg)
  obtain ⟨b2, b3⟩ := aft_shape (m := n) a2 (L := L) (by rw [a3, u3]; exact hg)
  have lr : (List.replicate n (0 : Int)).length = n := List.length_replicate
  have ea : ∀ k c, c < n → k < n → atP (aft (List.replicate n 0) (unit n) L) k c = af (ec c) L k := fun k c hc hk =>
    aft_at (zs_get hc) (f := ec c) k (by rw [lr]; exact u2) (by rw [u3]; exact hg) (fun k hk => unit_at (by rw [u3] at hk; exact hk) hc) (by omega)
  have eb : ∀ k c, c < n → k < n → atP (aft (List.replicate n 0) (aft (List.replicate n 0) (unit n) L) L) k c = af (af (ec c) L) L k := fun k c hc hk =>
    aft_at (zs_get hc) (f := af (ec c) L) k (by rw [lr]; exact a2) (by rw [a3, u3]; exact hg) (fun k hk => ea k c hc (by omega)) (by omega)
  constructor
  · intro h k c hk hc
    unfold Steady at h
    have h1 := vecB_at u2 a2 a3 (k := k) (c := c) (by omega) hc
    have h2 := vecB_at a2 b2 b3 (k := k) (c := c) (by omega) hc
    rw [h, h2, ea k c hc hk, eb k c hc hk, unit_at hk hc] at h1
    omega
  · intro h
    unfold Steady
    refine ext_P (m := n) (by rw [vecB, vecB, List.length_zipWith, List.length_zipWith, b3, a3]) (vecB_ln u2 a2) (vecB_ln a2 b2) fun k c hk hc => ?_
    rw [vecB, List.length_zipWith, a3, u3, Nat.min_self] at hk
    rw [vecB_at u2 a2 a3 (by omega) hc, vecB_at a2 b2 b3 (by omega) hc, eb k c hc hk, ea k c hc hk, h k c hk hc, unit_at hk hc]
    omega
theorem af_out {n : Nat} {L : List (Int × Int)} {f : Nat → Int} {k : Nat} (hg : GoodL n L) (hk : n ≤ k) : af f L k = f k := by
  refine af_post fun l hl z => ?_
  obtain ⟨a, b, _, _⟩ := hg l hl
  omega
theorem af_congr {n : Nat} {L : List (Int × Int)} : ∀ {f g : Nat → Int}, GoodL n L → (∀ k, k < n → f k = g k) → ∀ k, k < n → af f L k = af g L k := by
  induction L with
  | nil => intro f g _ h k hk; exact h k hk
  | cons l L ih =>
    intro f g hg h k hk
    obtain ⟨a, b, c, d⟩ := hg l (.head _)
    rw [af_cons, af_cons]
    refine ih (fun x hx => hg x (.tail _ hx)) (fun k hk => ?_) k hk
    unfold lf
    rw [h _ (by omega), h _ (by omega), h k hk]
theorem lf_lin {a b : Int} {f g : Nat → Int} {l : Int × Int} : lf (fun k => a * f k + b * g k) l = fun k => a * lf f l k + b * lf g l k := by
  funext k
  unfold lf
  split
  · simp only [Int.mul_sub, Int.mul_add, Int.mul_left_comm a 2, Int.mul_left_comm b 2]; omega
  · rfl
theorem af_lin {a b : Int} {L : List (Int × Int)} : ∀ {f g : Nat → Int}, af (fun k => a * f k + b * g k) L = fun k => a * af f L k + b * af g L k := by
  induction L with
  | nil => intro f g; rfl
  | cons l L ih => intro f g; rw [af_cons, lf_lin, ih]; rfl
def PS (n : Nat) (L : List (Int × Int)) (g : Nat → Int) : Prop := ∀ k, k < n → af (af g L) L k = 2 * af g L k - g k
theorem PS.lin {n : Nat} {L : List (Int × Int)} {f g : Nat → Int} {a b : Int} (hf : PS n L f) (hg : PS n L g) : PS n L fun k => a * f k + b * g k := by
  intro k hk
  rw [af_lin, af_lin]
  show a * af (af f L) L k + b * af (af g L) L k = 2 * (a * af f L k + b * af g L k) - (a * f k + b * g k)
  rw [hf k hk, hg k hk]
  simp only [Int.mul_sub, Int.mul_add, Int.mul_left_comm a 2, Int.mul_left_comm b 2]; omega
theorem PS.zero {n : Nat} {L : List (Int × Int)} {f : Nat → Int} (hg : GoodL n L) (h : ∀ k, k < n → f k = 0) : ∀ k, k < n → af f L k = 0 := by
  intro k hk
  have e := af_congr hg (f := f) (g := fun k => 0 * f k + 0 * f k) (fun k hk => by rw [h k hk]; rfl) k hk
  rw [af_lin] at e
  simpa using e
def sm (f : Nat → Int) : Nat → Nat → Int
  | 0 => fun _ => 0 * f 0 + 0 * f 0
  | m + 1 => fun k => 1 * sm f m k + f m * ec m k
theorem sm_at {f : Nat → Int} : ∀ {m k : Nat}, sm f m k = if k < m then f k else 0
  | 0, k => by simp [sm]
  | m + 1, k => by
    show 1 * sm f m k + f m * ec m k = _
    rw [sm_at (m := m), ec]
    by_cases h : k < m
    · rw [if_pos h, if_neg (show ¬ m = k by omega), if_pos (show k < m + 1 by omega)]; omega
    · by_cases e : m = k
      · subst e; rw [if_neg h, if_pos rfl, if_pos (show m < m + 1 by omega)]; omega
      · rw [if_neg h, if_neg e, if_neg (show ¬ k < m + 1 by omega)]; omega
theorem steady_all {n : Nat} {L : List (Int × Int)} (hg : GoodL n L) (h : St n L) (f : Nat → Int) : PS n L f := by
  have hs : ∀ m, m ≤ n → PS n L (sm f m) := by
    intro m
    induction m with
    | zero =>
      intro _ k hk
      have z : ∀ k, k < n → sm f 0 k = 0 := fun k _ => by simp [sm]
      have z1 := PS.zero hg z
      rw [PS.zero hg z1 k hk, z1 k hk, z k hk]; rfl
    | succ m ih => intro hm; exact PS.lin (ih (by omega)) fun k hk => h k m hk (by omega)
  intro k hk
  have e : ∀ k, k < n → f k = sm f n k := fun k hk => by rw [sm_at, if_pos hk]
  have e1 := af_congr hg e
  rw [af_congr hg e1 k hk, e1 k hk, e k hk]
  exact hs n (Nat.le_refl _) k hk
theorem steady_more {n m : Nat} {L : List (Int × Int)} (hg : GoodL n L) (hm : n ≤ m) : St n L ↔ St m L := by
  constructor
  · intro h k c hk hc
    by_cases q : k < n
    · exact steady_all hg h (ec c) k q
    · rw [af_out hg (by omega), af_out hg (by omega)]; omega
  · intro h k c hk hc
    exact h k c (by omega) (by omega)
end K4

namespace K4
open PySem L2 PyProof.Rows DL
local macro_rules | `(tactic| mconstructor) => `(tactic| first | exact .inl rfl | exact .inr (.inl rfl) | exact .inr rfl | exact .inr (.inr rfl))
local macro_rules | `(tactic| mpure_intro) => `(tactic| (simp only [cxOf, envOfC, Cx.blk, compEnvC, relab_eq]; decide +kernel))
local macro_rules | `(tactic| mleft) => `(tactic| first | with_reducible refine wSeq ?_ | with_reducible refine wRet ?_ | with_reducible refine wSet ?_ | with_reducible refine wNext ?_ | with_reducible refine wBin ?_ | with_reducible refine wC ?_ | with_reducible refine wCons ?_ | with_reducible refine wNil ?_ | with_reducible refine wTv ?_ | with_reducible refine wUn ?_ | with_reducible refine wBi ?_ | with_reducible refine wLst ?_ | with_reducible refine wTup ?_ | with_reducible refine wNot ?_ | with_reducible refine wNotV ?_ | with_reducible refine wTrue ?_ | with_reducible refine wAnd ?_ | with_reducible refine wOr ?_ | with_reducible refine wIf ?_ | with_reducible refine wIte ?_ | with_reducible refine wAndV ?_ | with_reducible refine wOrV ?_ | with_reducible refine wChain ?_ | with_reducible refine wSl ?_ | with_reducible refine wPN ?_ | with_reducible refine wPS ?_ | with_reducible refine wExpr ?_ | with_reducible refine wRaise ?_ | with_reducible refine wIter ?_ | with_reducible refine wRng ?_ | with_reducible refine wSeqs ?_ | with_reducible refine wCall ?_ | with_reducible refine wSetIx rfl ?_ | with_reducible refine wApp rfl ?_ | with_reducible refine wUnp ?_ | with_reducible refine wFor ?_ | with_reducible refine wComp ?_ | with_reducible refine wFrz ?_ | with_reducible refine wV rfl ?_ | with_reducible refine wVo rfl ?_)
local macro_rules | `(tactic| massumption) => `(tactic| first | decide | omega | assumption | exact cmul 100 100 (by omega) (by omega) (by decide))
local macro_rules | `(tactic| mright) => `(tactic| first | ((with_reducible refine And.intro (a := (_ && _) = true) ?_ ?_); (focus ((try dsimp only [soft, List.map_cons, List.map_nil, toArg, List.getElem?_cons_zero, List.getElem?_cons_succ]); first | rfl | (simp [alNd, pos?, argOk]; done))); (try dsimp only [soft, List.map_cons, List.map_nil, toArg, List.getElem?_cons_zero, List.getElem?_cons_succ])) | ((with_reducible refine And.intro (a := _ < _) ?_ ?_); focus (first | omega | (simp; omega))) | ((with_reducible show And _ _); first | refine ⟨fun z => absurd z (by decide), fun _ => ?_⟩ | refine ⟨fun _ => ?_, fun z => absurd z (by decide)⟩) | ((with_reducible show Exists _); first | refine ⟨_, _, _, rfl, rfl, mod_ok (by massumption), ?_⟩ | refine ⟨_, _, _, rfl, rfl, mul_ok (by massumption), ?_⟩ | refine ⟨_, _, _, rfl, rfl, div_ok (by massumption), ?_⟩ | (refine ⟨_, _, _, rfl, rfl, pow_ok (by decide), ?_⟩; simp only [Int.reduceToNat, Int.reducePow]) | refine ⟨_, _, _, rfl, rfl, rfl, ?_⟩ | refine ⟨_, _, _, rfl, rfl, ix_ok (by assumption), ?_⟩ | refine ⟨_, _, _, rfl, rfl, ixt_ok (by assumption), ?_⟩ | (refine ⟨_, _, _, _, rfl, rfl, rfl, ?_⟩; (try dsimp only [Int.reduceToNat, List.set_cons_zero, List.set_cons_succ])) | refine ⟨_, _, _, _, rfl, rfl, (by first | massumption | (simp; omega)), ?_⟩ | refine ⟨_, _, _, rfl, rfl, ?_⟩ | refine ⟨_, _, rfl, rng_ok (by omega) (by omega), ?_⟩ | refine ⟨_, rfl, ?_⟩ | refine ⟨_, _, rfl, rfl, ?_⟩ | refine ⟨_, _, rfl, (by first | decide | (simp; done)), ?_⟩ | refine ⟨_, _, rfl, ?_⟩))
local macro_rules | `(tactic| mstop) => `(tactic| first | ((with_reducible refine wsv ?_ ?_ ?_); (focus (simp; done)); (focus (first | rfl | assumption | (rw [upd1_none (by rfl)]; assumption))); dsimp only [List.set_cons_zero, List.set_cons_succ]) | ((with_reducible refine wsf ?_ ?_ ?_); (focus (simp; done)); (focus (first | rfl | assumption | (rw [upd1_none (by rfl)]; assumption))); dsimp only [List.set_cons_zero, List.set_cons_succ]))
local macro_rules | `(tactic| mexfalso) => `(tactic| (refine ⟨trivial, ?_⟩; simp only [backC, upd1_va, upd1_un, upd1_v1, upd1_v2, upd1_v3, upd1_v4, upd1_ow, upd1_none, pos?, if_true, if_false, reduceIte, Option.map_some, Option.map_none, Nat.reduceAdd, Nat.reduceEqDiff, List.getElem?_cons_zero, List.getElem?_cons_succ, List.set_cons_zero, List.set_cons_succ]))
local macro_rules | `(tactic| mstart) => `(tactic| repeat (first | mleft | mright | mstop))
variable {Q : Rs → Rho → Prop} {E : Exn → Rho → Prop}
theorem eqv_intsD : ∀ {xs ys : List Int}, DL.D.eqvs (xs.map .int) (ys.map .int) = decide (xs = ys)
  | [], [] => rfl
  | x :: xs, [] => rfl
  | [], y :: ys => rfl
  | x :: xs, y :: ys => by
    simp only [List.map_cons, DL.D.eqvs, DL.D.eqv, eqv_intsD (xs := xs) (ys := ys)]
    by_cases h : x = y
    · subst h; by_cases h2 : xs = ys <;> simp [h2]
    · simp [h]
theorem eqv_llsD : ∀ {a b : List (List Int)}, DL.D.eqvs (lsD a) (lsD b) = decide (a = b)
  | [], [] => rfl
  | x :: xs, [] => rfl
  | [], y :: ys => rfl
  | x :: xs, y :: ys => by
    have e := eqv_llsD (a := xs) (b := ys)
    unfold lsD at e
    simp only [lsD, List.map_cons, DL.D.eqvs, DL.D.eqv, eqv_intsD, e]
    by_cases h : x = y
    · subst h; by_cases h2 : xs = ys <;> simp [h2]
    · simp [h]
def stB (n : Nat) (L : List (Int × Int)) : Bool := decide (vecB (unit n) (aft (List.replicate n 0) (unit n) L) = vecB (aft (List.replicate n 0) (unit n) L) (aft (List.replicate n 0) (aft (List.replicate n 0) (unit n) L) L))
theorem stB_iff {n : Nat} {L : List (Int × Int)} : stB n L = true ↔ Steady n L := by
  unfold stB Steady
  exact decide_eq_true_iff
theorem stB_more {n m : Nat} {L : List (Int × Int)} (hg : GoodL n L) (hm : n ≤ m) : stB n L = stB m L := by
  have hgm : GoodL m L := fun l hl => by obtain ⟨a, b, c, d⟩ := hg l hl; exact ⟨a, by omega, c, by omega⟩
  have h : stB n L = true ↔ stB m L = true := by rw [stB_iff, stB_iff, steady_iff hg, steady_iff hgm]; exact steady_more hg hm
  cases a : stB n L <;> cases b : stB m L <;> simp_all
theorem eqD_llsD {a b : List (List Int)} : eqD (.lst (lsD a)) (.lst (lsD b)) = some (.va (.bl (decide (a = b)))) := by
  unfold eqD
  rw [if_pos (by rw [Bool.and_eq_true]; exact ⟨fine_lls, fine_lls⟩)]
  show some (Rs.va (.bl (DL.D.eqvs (lsD a) (lsD b)))) = _
  rw [eqv_llsD]
theorem repeatsX_w {n : Nat} {N : Int} {L : List (Int × Int)} (hN : N = n) (h2 : 2 ≤ n) (h6 : n ≤ 6) (hL : L.length ≤ 40) (hg : GoodL n L) (h : Q (.va (.bl (stB n L))) [.va (.int N), .va (.tup (L.map lpD))]) : RW (m_repeats_alike [.va (.int N), .va (.tup (L.map lpD))]) Q E := by
  obtain ⟨u1, u2, u3⟩ := unit_ok (n := n)
  have hw : WaysOk (List.replicate n 0) := fun w hw => .inl (List.eq_of_mem_replicate hw)
  have lr : (List.replicate n (0 : Int)).length = n := List.length_replicate
  obtain ⟨a1, a2, a3⟩ := aft_all hw (by decide) u1 (by rw [lr]; exact u2) (by rw [u3]; exact hg)
  obtain ⟨b1, b2, b3⟩ := aft_all hw (by omega) a1 a2 (by rw [a3, u3]; exact hg)
  rw [lr] at a2 b2
  rw [u3] at a3
  rw [a3] at b3
  (refine wFun ?_; unfold n_repeats_alike; simp only [List.length_cons, List.length_nil, Nat.reduceAdd, Nat.reduceSub, List.replicate, List.cons_append, List.nil_append, Nat.zero_add])
  repeat mleft
  refine ⟨_, _, rfl, by decide, ?_⟩
  repeat mleft
  refine ⟨_, _, _, rfl, rfl, mul0 hN h2 h6, ?_⟩
  mstart
  refine unit_w hN h6 ?_
  mexfalso
  mstart
  refine paft_w (M := 35) (by omega) (by omega) hw (by omega) (by rw [lr]; exact u2) u1 (by rw [u3]; exact hg) (by omega) (by omega) ?_
  mexfalso
  mstart
  refine paft_w (M := 35 + 2 * L.length) (by omega) (by omega) hw (by omega) (by rw [lr]; exact a2) a1 (by rw [a3]; exact hg) (by omega) (by omega) ?_
  mexfalso
  mstart
  refine vecB_w (by omega) (by omega) n h6 u2 a2 ?_
  mexfalso
  mstart
  refine vecB_w (by omega) (by omega) n h6 a2 b2 ?_
  mexfalso
  refine ⟨_, _, .va (.bl (stB n L)), rfl, rfl, eqD_llsD, ?_⟩
  mstart
  exact h
/-- is_steady at leaps -/
theorem steady_w {n : Nat} {N : Int} {L : List (Int × Int)} (hN : N = n) (h2 : 2 ≤ n) (h6 : n ≤ 6) (h1 : 1 ≤ L.length) (hL : L.length ≤ 40) (hg : GoodY N [] L) (h : Q (.va (.bl (stB n L))) [.va (.int N), .va (.tup (L.map lpD))]) : RW (m_is_steady [.va (.int N), .va (.tup (L.map lpD))]) Q E := by
  (refine wFun ?_; unfold n_is_steady; simp only [List.length_cons, List.length_nil, Nat.reduceAdd, Nat.reduceSub, List.replicate, List.cons_append, List.nil_append, Nat.zero_add])
  mstart
  refine persons_w (by omega) (by omega) ?_
  mexfalso
  mstart
  refine tupleOf_w rfl ?_
  mexfalso
  rw [tupR_of (by rw [List.length_map]; omega) (by rw [List.length_map]; omega)]
  mstart
  refine fault_w (ps := []) hL hg ?_
  mexfalso
  mstart
  refine repeatsX_w hN h2 h6 hL (hg.g hN) ?_
  mexfalso
  mstart
  exact h
/-- the row of one run, looked at -/
theorem stepX {n k : Nat} {N : Int} {ps : List Int} {L : List (Int × Int)} {t : Int} (hN : N = n) (h2 : 2 ≤ n) (h6 : n ≤ 6) (h1 : 1 ≤ L.length) (hL : L.length ≤ 40) (ht : 1 < t) (hg : GoodY N ps L) : stepR m_run_wrong m_repeats_alike (.int N) (pt ps) (runD (L, t)) k = some (if stB n L = true then none else some (.tup [.str "steady", .int (k : Int)])) := by
  obtain ⟨ρ, e⟩ := RW_get (runWrong_w (n := N) (k := (k : Int)) (ps := ps) (r := (L, t)) h1 hL (by show 1 ≤ t; omega) hg rfl)
  obtain ⟨ρ2, e2⟩ := RW_get (repeatsX_w (L := L) hN h2 h6 hL (hg.g hN) rfl)
  unfold stepR
  rw [e]
  simp only [runParts]
  rw [if_pos ht, key_lp]
  simp only
  rw [if_pos (by have := depth_lp (L := L); simp only [NestedKey.depth]; omega), e2]
  cases stB n L <;> simp
end K4

namespace K4
open PySem L2 PyProof.Rows DL
local macro_rules | `(tactic| mconstructor) => `(tactic| first | exact .inl rfl | exact .inr (.inl rfl) | exact .inr rfl | exact .inr (.inr rfl))
local macro_rules | `(tactic| mpure_intro) => `(tactic| (simp only [cxOf, envOfC, Cx.blk, compEnvC, relab_eq]; decide +kernel))
local macro_rules | `(tactic| mleft) => `(tactic| first | with_reducible refine wSeq ?_ | with_reducible refine wRet ?_ | with_reducible refine wSet ?_ | with_reducible refine wNext ?_ | with_reducible refine wBin ?_ | with_reducible refine wC ?_ | with_reducible refine wCons ?_ | with_reducible refine wNil ?_ | with_reducible refine wTv ?_ | with_reducible refine wUn ?_ | with_reducible refine wBi ?_ | with_reducible refine wLst ?_ | with_reducible refine wTup ?_ | with_reducible refine wNot ?_ | with_reducible refine wNotV ?_ | with_reducible refine wTrue ?_ | with_reducible refine wAnd ?_ | with_reducible refine wOr ?_ | with_reducible refine wIf ?_ | with_reducible refine wIte ?_ | with_reducible refine wAndV ?_ | with_reducible refine wOrV ?_ | with_reducible refine wChain ?_ | with_reducible refine wSl ?_ | with_reducible refine wPN ?_ | with_reducible refine wPS ?_ | with_reducible refine wExpr ?_ | with_reducible refine wRaise ?_ | with_reducible refine wIter ?_ | with_reducible refine wRng ?_ | with_reducible refine wSeqs ?_ | with_reducible refine wCall ?_ | with_reducible refine wSetIx rfl ?_ | with_reducible refine wApp rfl ?_ | with_reducible refine wUnp ?_ | with_reducible refine wFor ?_ | with_reducible refine wComp ?_ | with_reducible refine wFrz ?_ | with_reducible refine wV rfl ?_ | with_reducible refine wVo rfl ?_)
local macro_rules | `(tactic| massumption) => `(tactic| first | decide | omega | assumption | exact cmul 100 100 (by omega) (by omega) (by decide))
local macro_rules | `(tactic| mright) => `(tactic| first | ((with_reducible refine And.intro (a := (_ && _) = true) ?_ ?_); (focus ((try dsimp only [soft, List.map_cons, List.map_nil, toArg, List.getElem?_cons_zero, List.getElem?_cons_succ]); first | rfl | (simp [alNd, pos?, argOk]; done))); (try dsimp only [soft, List.map_cons, List.map_nil, toArg, List.getElem?_cons_zero, List.getElem?_cons_succ])) | ((with_reducible refine And.intro (a := _ < _) ?_ ?_); focus (first | omega | (simp; omega))) | ((with_reducible show And _ _); first | refine ⟨fun z => absurd z (by decide), fun _ => ?_⟩ | refine ⟨fun _ => ?_, fun z => absurd z (by decide)⟩) | ((with_reducible show Exists _); first | refine ⟨_, _, _, rfl, rfl, mod_ok (by massumption), ?_⟩ | refine ⟨_, _, _, rfl, rfl, mul_ok (by massumption), ?_⟩ | refine ⟨_, _, _, rfl, rfl, div_ok (by massumption), ?_⟩ | (refine ⟨_, _, _, rfl, rfl, pow_ok (by decide), ?_⟩; simp only [Int.reduceToNat, Int.reducePow]) | refine ⟨_, _, _, rfl, rfl, rfl, ?_⟩ | refine ⟨_, _, _, rfl, rfl, ix_ok (by assumption), ?_⟩ | refine ⟨_, _, _, rfl, rfl, ixt_ok (by assumption), ?_⟩ | (refine ⟨_, _, _, _, rfl, rfl, rfl, ?_⟩; (try dsimp only [Int.reduceToNat, List.set_cons_zero, List.set_cons_succ])) | refine ⟨_, _, _, _, rfl, rfl, (by first | massumption | (simp; omega)), ?_⟩ | refine ⟨_, _, _, rfl, rfl, ?_⟩ | refine ⟨_, _, rfl, rng_ok (by omega) (by omega), ?_⟩ | refine ⟨_, rfl, ?_⟩ | refine ⟨_, _, rfl, rfl, ?_⟩ | refine ⟨_, _, rfl, (by first | decide | (simp; done)), ?_⟩ | refine ⟨_, _, rfl, ?_⟩))
local macro_rules | `(tactic| mstop) => `(tactic| first | ((with_reducible refine wsv ?_ ?_ ?_); (focus (simp; done)); (focus (first | rfl | assumption | (rw [upd1_none (by rfl)]; assumption))); dsimp only [List.set_cons_zero, List.set_cons_succ]) | ((with_reducible refine wsf ?_ ?_ ?_); (focus (simp; done)); (focus (first | rfl | assumption | (rw [upd1_none (by rfl)]; assumption))); dsimp only [List.set_cons_zero, List.set_cons_succ]))
local macro_rules | `(tactic| mexfalso) => `(tactic| (refine ⟨trivial, ?_⟩; simp only [backC, upd1_va, upd1_un, upd1_v1, upd1_v2, upd1_v3, upd1_v4, upd1_ow, upd1_none, pos?, if_true, if_false, reduceIte, Option.map_some, Option.map_none, Nat.reduceAdd, Nat.reduceEqDiff, List.getElem?_cons_zero, List.getElem?_cons_succ, List.set_cons_zero, List.set_cons_succ]))
local macro_rules | `(tactic| mstart) => `(tactic| repeat (first | mleft | mright | mstop))
variable {Q : Rs → Rho → Prop} {E : Exn → Rho → Prop}
theorem put_dif : ∀ {u a : List Int}, putL a u (-1) = dif u a
  | [], [] => rfl
  | [], _ :: _ => rfl
  | _ :: _, [] => rfl
  | x :: u, y :: a => by
    have e := put_dif (u := u) (a := a)
    unfold putL dif at e ⊢
    rw [List.zipWith_cons_cons, List.zipWith_cons_cons, e, show y + (-1) * x = y - x by omega]
theorem ne_ptD {p q : List Int} : neD (pt p) (pt q) = some (.va (.bl (!decide (p = q)))) := by
  unfold neD
  rw [if_pos (by rw [Bool.and_eq_true]; exact ⟨fine_ints, fine_ints⟩)]
  show some (Rs.va (.bl (!DL.D.eqvs (p.map .int) (q.map .int)))) = _
  rw [eqv_intsD]
theorem lawSteady_w {n : Nat} {N : Int} {L : List (Int × Int)} (hN : N = n) (h2 : 2 ≤ n) (h6 : n ≤ 6) (hL : L.length ≤ 40) (hg : GoodL n L) (h : Q (.va (.bl (stB n L))) [.va (.int N), .va (.tup (L.map lpD))]) : RW (m__law_steady [.va (.int N), .va (.tup (L.map lpD))]) Q E := by
  obtain ⟨u1, u2, u3⟩ := unit_ok (n := n)
  have hw : WaysOk (List.replicate n 0) := fun w hw => .inl (List.eq_of_mem_replicate hw)
  have lr : (List.replicate n (0 : Int)).length = n := List.length_replicate
  obtain ⟨a1, a2, a3⟩ := aft_all hw (by decide) u1 (by rw [lr]; exact u2) (by rw [u3]; exact hg)
  obtain ⟨b1, b2, b3⟩ := aft_all hw (by omega) a1 a2 (by rw [a3, u3]; exact hg)
  rw [lr] at a2 b2
  rw [u3] at a3
  rw [a3] at b3
  (refine wFun ?_; unfold n__law_steady; simp only [List.length_cons, List.length_nil, Nat.reduceAdd, Nat.reduceSub, List.replicate, List.cons_append, List.nil_append, Nat.zero_add])
  mstart
  refine ⟨fun k acc ρ => ρ = [.va (.int N), .va (.tup (L.map lpD)), .un, .un, .un, .un, .un, .un, .un, .un] ∧ acc = lsD ((unit n).take k), ⟨rfl, by simp⟩, ?_, ?_⟩
  · rintro k x acc ρ hx ⟨rfl, rfl⟩
    obtain ⟨hk, rfl⟩ := rng_at hx
    refine ⟨_, if_pos ⟨by simp, rfl⟩, ?_⟩
    dsimp only [List.set_cons_zero, List.set_cons_succ]
    mstart
    all_goals (try (refine ⟨by rw [List.length_map, List.length_take]; omega, ?_⟩; mstart))
    refine ⟨fun j acc ρ => ρ = [.va (.int N), .va (.tup (L.map lpD)), .un, .un, .un, .un, .un, .un, .va (.int k), .un] ∧ acc = ((unitR n k).take j).map .int, ⟨rfl, by simp⟩, ?_, ?_⟩
    · rintro j x acc ρ hx ⟨rfl, rfl⟩
      obtain ⟨hj, rfl⟩ := rng_at hx
      refine ⟨_, if_pos ⟨by simp, rfl⟩, ?_⟩
      dsimp only [List.set_cons_zero, List.set_cons_succ]
      mstart
      all_goals (try (refine ⟨by rw [List.length_map, List.length_take]; omega, ?_⟩; mstart))
      rw [unitR, rg_at (show j < n by omega), List.map_append]
      congr 1
      by_cases z1 : j = k
      · subst z1; simp [DL.D.eqv]
      · have z2 : ¬ (j : Int) = k := by omega
        simp [DL.D.eqv, z1, z2]
    · rintro acc ρ ⟨rfl, rfl⟩
      rw [rng_len, show N.toNat = n by omega, List.take_of_length_le (by simp [unitR])]
      dsimp only [restoR, wipeR, List.set_cons_zero, List.set_cons_succ, List.getElem?_cons_zero, List.getElem?_cons_succ]
      refine ⟨_, _, rfl, rfl, ?_⟩
      rw [unit, rg_at (show k < n by omega), lsD, lsD, List.map_append]; rfl
  rintro acc ρ ⟨rfl, rfl⟩
  rw [rng_len, show N.toNat = n by omega, List.take_of_length_le (by simp [unit])]
  dsimp only [restoR, wipeR, List.set_cons_zero, List.set_cons_succ, List.getElem?_cons_zero, List.getElem?_cons_succ]
  mstart
  refine places_w (M := 35) (m := n) (by omega) (by omega) h6 u2 u1 (by rw [u3]; exact hg) (by omega) hL ?_
  mexfalso
  mstart
  refine places_w (M := 35 + 2 * L.length) (m := n) (by omega) (by omega) h6 a2 a1 (by rw [a3]; exact hg) (by omega) hL ?_
  mexfalso
  mstart
  have estB : stB n L = decide (vecB (unit n) (aft (List.replicate n 0) (unit n) L) = vecB (aft (List.replicate n 0) (unit n) L) (aft (List.replicate n 0) (aft (List.replicate n 0) (unit n) L) L)) := rfl
  generalize aft (List.replicate n 0) (aft (List.replicate n 0) (unit n) L) L = b at *
  generalize aft (List.replicate n 0) (unit n) L = a at *
  refine ⟨fun k ρ => (∀ j, j < k → (vecB (unit n) a)[j]? = (vecB a b)[j]?) ∧ ∃ s5 s6 s7, isIo (some s5) = false ∧ isIo (some s6) = false ∧ isIo (some s7) = false ∧ ρ = [.va (.int N), .va (.tup (L.map lpD)), .va (.lst (lsD (unit n))), .va (.lst (lsD a)), .va (.lst (lsD b)), s5, s6, s7, .un, .un], ⟨fun j hj => by omega, .un, .un, .un, rfl, rfl, rfl, rfl⟩, ?_, ?_⟩
  · rintro k x ρ hx ⟨hm, s5, s6, s7, i5, i6, i7, rfl⟩
    obtain ⟨x1, x2, x3, e1, e2, e3, rfl⟩ := zip3_get hx
    obtain ⟨p, f1, rfl⟩ := ls_get e1
    obtain ⟨q, f2, rfl⟩ := ls_get e2
    obtain ⟨r, f3, rfl⟩ := ls_get e3
    have lp := u2 p (List.mem_of_getElem? f1)
    have lq := a2 q (List.mem_of_getElem? f2)
    have l3 := b2 r (List.mem_of_getElem? f3)
    have v1 : (vecB (unit n) a)[k]? = some (dif p q) := zw_get f1 f2
    have v2 : (vecB a b)[k]? = some (dif q r) := zw_get f2 f3
    refine ⟨[.va (.int N), .va (.tup (L.map lpD)), .va (.lst (lsD (unit n))), .va (.lst (lsD a)), .va (.lst (lsD b)), .va (ls p), .va (ls q), .va (ls r), .un, .un], ?_, ?_⟩
    · show setVs [5, 6, 7] [_, _, _] _ = _
      unfold setVs
      rw [if_pos ⟨by simp, i5⟩]
      unfold setVs
      rw [if_pos ⟨by simp, i6⟩]
      unfold setVs
      rw [if_pos ⟨by simp, i7⟩]
      rfl
    mstart
    refine putll_w (M := 35) (by omega) (by decide) (by omega) (by omega) (u1 p (List.mem_of_getElem? f1)) ?_
    mexfalso
    mstart
    refine putll_w (M := 35 + 2 * L.length) (by omega) (by decide) (by omega) (by omega) (a1 q (List.mem_of_getElem? f2)) ?_
    mexfalso
    rw [put_dif, put_dif]
    refine ⟨_, _, _, rfl, rfl, ne_ptD, ?_⟩
    refine ⟨_, rfl, fun z => ?_, fun z => ?_⟩
    · have z1 : ¬ dif p q = dif q r := by simpa using z
      have eF : stB n L = false := by
        rw [estB]
        refine decide_eq_false fun y => z1 ?_
        rw [y, v2] at v1
        exact (Option.some.inj v1).symm
      rw [eF] at h
      mstart
      exact h
    · have z1 : dif p q = dif q r := by simpa using z
      mstart
      refine ⟨fun j hj => ?_, _, _, _, rfl, rfl, rfl, rfl⟩
      by_cases e : j = k
      · subst e; rw [v1, v2, z1]
      · exact hm j (by omega)
  · rintro ρ ⟨hm, s5, s6, s7, i5, i6, i7, rfl⟩
    have eT : stB n L = true := by
      rw [estB]
      refine decide_eq_true (List.ext_getElem? fun j => ?_)
      have lv1 : (vecB (unit n) a).length = n := by rw [vecB, List.length_zipWith, u3, a3, Nat.min_self]
      have lv2 : (vecB a b).length = n := by rw [vecB, List.length_zipWith, a3, b3, Nat.min_self]
      by_cases hj : j < n
      · refine hm j ?_
        rw [zip3_len, List.length_map, List.length_map, List.length_map, u3, a3, b3]; omega
      · rw [List.getElem?_eq_none (by omega), List.getElem?_eq_none (by omega)]
    rw [eT] at h
    mstart
    exact h
theorem runs1_w {n : Nat} {N : Int} {ps : List Int} {L : List (Int × Int)} {t : Int} (hN : N = n) (h2 : 2 ≤ n) (h6 : n ≤ 6) (h1 : 1 ≤ L.length) (hL : L.length ≤ 40) (ht : 1 < t) (hg : GoodY N ps L) (h : Q (.va (if stB n L = true then .non else .tup [.str "steady", .int 0])) [.va (.int N), .va (pt ps), .va (.lst [runD (L, t)])]) : RW (m_runs_wrong [.va (.int N), .va (pt ps), .va (.lst [runD (L, t)])]) Q E := by
  have e : m_runs_wrong [.va (.int N), .va (pt ps), .va (.lst [runD (L, t)])] = .ok (.va (if stB n L = true then .non else .tup [.str "steady", .int 0])) [.va (.int N), .va (pt ps), .va (.lst [runD (L, t)])] := by
    unfold m_runs_wrong mRuns
    simp only [isi_lst]
    rw [if_pos (by simp), runsR, stepX hN h2 h6 h1 hL ht hg]
    cases stB n L <;> rfl
  rw [e]
  exact h
/-- row_wrong at one run -/
theorem rowWrong_w {n : Nat} {N : Int} {ws ps : List Int} {L : List (Int × Int)} {t : Int} (Y : YardOk ws N ps) (hN : N = n) (h1 : 1 ≤ L.length) (hL : L.length ≤ 40) (ht : 1 < t) (hg : GoodY N ps L) (h : Q (.va (if stB n L = true then .non else .tup [.str "steady", .int 0])) [.va (yd ws N ps), .va (.lst [runD (L, t)])]) : RW (m_row_wrong [.va (yd ws N ps), .va (.lst [runD (L, t)])]) Q E := by
  have n2 := Y.n2
  have n6 := Y.n6
  (refine wFun ?_; unfold n_row_wrong; simp only [List.length_cons, List.length_nil, Nat.reduceAdd, Nat.reduceSub, List.replicate, List.cons_append, List.nil_append, Nat.zero_add])
  mstart
  refine needYard_w Y ?_
  mexfalso
  mstart
  refine runs1_w hN (by omega) (by omega) h1 hL ht hg ?_
  mexfalso
  mstart
  exact h
end K4

namespace K4
open PySem L2 PyProof.Rows DL
local macro_rules | `(tactic| mconstructor) => `(tactic| first | exact .inl rfl | exact .inr (.inl rfl) | exact .inr rfl | exact .inr (.inr rfl))
local macro_rules | `(tactic| mpure_intro) => `(tactic| (simp only [cxOf, envOfC, Cx.blk, compEnvC, relab_eq]; decide +kernel))
local macro_rules | `(tactic| mleft) => `(tactic| first | with_reducible refine wSeq ?_ | with_reducible refine wRet ?_ | with_reducible refine wSet ?_ | with_reducible refine wNext ?_ | with_reducible refine wBin ?_ | with_reducible refine wC ?_ | with_reducible refine wCons ?_ | with_reducible refine wNil ?_ | with_reducible refine wTv ?_ | with_reducible refine wUn ?_ | with_reducible refine wBi ?_ | with_reducible refine wLst ?_ | with_reducible refine wTup ?_ | with_reducible refine wNot ?_ | with_reducible refine wNotV ?_ | with_reducible refine wTrue ?_ | with_reducible refine wAnd ?_ | with_reducible refine wOr ?_ | with_reducible refine wIf ?_ | with_reducible refine wIte ?_ | with_reducible refine wAndV ?_ | with_reducible refine wOrV ?_ | with_reducible refine wChain ?_ | with_reducible refine wSl ?_ | with_reducible refine wPN ?_ | with_reducible refine wPS ?_ | with_reducible refine wExpr ?_ | with_reducible refine wRaise ?_ | with_reducible refine wIter ?_ | with_reducible refine wRng ?_ | with_reducible refine wSeqs ?_ | with_reducible refine wCall ?_ | with_reducible refine wSetIx rfl ?_ | with_reducible refine wApp rfl ?_ | with_reducible refine wUnp ?_ | with_reducible refine wFor ?_ | with_reducible refine wComp ?_ | with_reducible refine wFrz ?_ | with_reducible refine wV rfl ?_ | with_reducible refine wVo rfl ?_)
local macro_rules | `(tactic| massumption) => `(tactic| first | decide | omega | assumption | exact cmul 100 100 (by omega) (by omega) (by decide))
local macro_rules | `(tactic| mright) => `(tactic| first | ((with_reducible refine And.intro (a := (_ && _) = true) ?_ ?_); (focus ((try dsimp only [soft, List.map_cons, List.map_nil, toArg, List.getElem?_cons_zero, List.getElem?_cons_succ]); first | rfl | (simp [alNd, pos?, argOk]; done))); (try dsimp only [soft, List.map_cons, List.map_nil, toArg, List.getElem?_cons_zero, List.getElem?_cons_succ])) | ((with_reducible refine And.intro (a := _ < _) ?_ ?_); focus (first | omega | (simp; omega))) | ((with_reducible show And _ _); first | refine ⟨fun z => absurd z (by decide), fun _ => ?_⟩ | refine ⟨fun _ => ?_, fun z => absurd z (by decide)⟩) | ((with_reducible show Exists _); first | refine ⟨_, _, _, rfl, rfl, mod_ok (by massumption), ?_⟩ | refine ⟨_, _, _, rfl, rfl, mul_ok (by massumption), ?_⟩ | refine ⟨_, _, _, rfl, rfl, div_ok (by massumption), ?_⟩ | (refine ⟨_, _, _, rfl, rfl, pow_ok (by decide), ?_⟩; simp only [Int.reduceToNat, Int.reducePow]) | refine ⟨_, _, _, rfl, rfl, rfl, ?_⟩ | refine ⟨_, _, _, rfl, rfl, ix_ok (by assumption), ?_⟩ | refine ⟨_, _, _, rfl, rfl, ixt_ok (by assumption), ?_⟩ | (refine ⟨_, _, _, _, rfl, rfl, rfl, ?_⟩; (try dsimp only [Int.reduceToNat, List.set_cons_zero, List.set_cons_succ])) | refine ⟨_, _, _, _, rfl, rfl, (by first | massumption | (simp; omega)), ?_⟩ | refine ⟨_, _, _, rfl, rfl, ?_⟩ | refine ⟨_, _, rfl, rng_ok (by omega) (by omega), ?_⟩ | refine ⟨_, rfl, ?_⟩ | refine ⟨_, _, rfl, rfl, ?_⟩ | refine ⟨_, _, rfl, (by first | decide | (simp; done)), ?_⟩ | refine ⟨_, _, rfl, ?_⟩))
local macro_rules | `(tactic| mstop) => `(tactic| first | ((with_reducible refine wsv ?_ ?_ ?_); (focus (simp; done)); (focus (first | rfl | assumption | (rw [upd1_none (by rfl)]; assumption))); dsimp only [List.set_cons_zero, List.set_cons_succ]) | ((with_reducible refine wsf ?_ ?_ ?_); (focus (simp; done)); (focus (first | rfl | assumption | (rw [upd1_none (by rfl)]; assumption))); dsimp only [List.set_cons_zero, List.set_cons_succ]))
local macro_rules | `(tactic| mexfalso) => `(tactic| (refine ⟨trivial, ?_⟩; simp only [backC, upd1_va, upd1_un, upd1_v1, upd1_v2, upd1_v3, upd1_v4, upd1_ow, upd1_none, pos?, if_true, if_false, reduceIte, Option.map_some, Option.map_none, Nat.reduceAdd, Nat.reduceEqDiff, List.getElem?_cons_zero, List.getElem?_cons_succ, List.set_cons_zero, List.set_cons_succ]))
local macro_rules | `(tactic| mstart) => `(tactic| repeat (first | mleft | mright | mstop))
variable {Q : Rs → Rho → Prop} {E : Exn → Rho → Prop}
theorem faultNo_w {n : Int} {ps : List Int} {xs : List DL.D} (h40 : xs.length ≤ 100) (hp : ∀ x ∈ xs, Plt x) (hno : ∃ x ∈ xs, isLp n ps x = false) (h : ∀ k : Int, Q (.va (.int k)) [.va (.int n), .va (pt ps), .va (.tup xs)]) : RW (m_leap_at_fault [.va (.int n), .va (pt ps), .va (.tup xs)]) Q E := by
  (refine wFun ?_; unfold n_leap_at_fault; simp only [List.length_cons, List.length_nil, Nat.reduceAdd, Nat.reduceSub, List.replicate, List.cons_append, List.nil_append, Nat.zero_add])
  mstart
  refine ⟨fun i ρ => (∀ j x, j < i → xs[j]? = some x → isLp n ps x = true) ∧ ∃ s3 s4, isIo (some s3) = false ∧ isIo (some s4) = false ∧ ρ = [.va (.int n), .va (pt ps), .va (.tup xs), s3, s4], ⟨fun j x hj => by omega, .un, .un, rfl, rfl, rfl⟩, ?_, ?_⟩
  · rintro i x ρ hx ⟨hm, s3, s4, i3, i4, rfl⟩
    obtain ⟨d, e1, rfl⟩ := enum_get hx
    refine ⟨[.va (.int n), .va (pt ps), .va (.tup xs), .va (.int ((0 + i : Nat) : Int)), .va d], ?_, ?_⟩
    · show setVs [3, 4] [_, _] _ = _
      unfold setVs
      rw [if_pos ⟨by simp, i3⟩]
      unfold setVs
      rw [if_pos ⟨by simp, i4⟩]
      rfl
    mstart
    refine isLeap_w (hp d (List.mem_of_getElem? e1)) ?_
    mexfalso
    cases e : isLp n ps d with
    | true =>
      mstart
      refine ⟨fun j x hj hx2 => ?_, _, _, rfl, rfl, rfl⟩
      by_cases ej : j = i
      · subst ej; rw [e1] at hx2; cases hx2; exact e
      · exact hm j x (by omega) hx2
    | false =>
      mstart
      exact h _
  · rintro ρ ⟨hm, s3, s4, i3, i4, rfl⟩
    obtain ⟨x, hx, e⟩ := hno
    obtain ⟨j, hj⟩ := List.mem_iff_getElem?.mp hx
    rw [hm j x (by rw [enum_len]; exact get_lt hj) hj] at e
    cases e
/-- what is_steady refuses -/
def Bad (p d : DL.D) : Prop := Pl p ∧ Pl d ∧ (inR 2 6 p = false ∨ (∃ n : Int, p = .int n) ∧ (tupR 1 40 d = false ∨ ∃ xs, d = .tup xs ∧ xs.length ≤ 100 ∧ (∀ x ∈ xs, Plt x) ∧ ∃ n : Int, p = .int n ∧ ∃ x ∈ xs, isLp n [] x = false))
theorem personsX_w {p : DL.D} (hp : Pl p) (h : Q (.va (.bl (inR 2 6 p))) [.va p]) : RW (m_is_persons [.va p]) Q E := by
  (refine wFun ?_; unfold n_is_persons; simp only [List.length_cons, List.length_nil, Nat.reduceAdd, Nat.reduceSub, List.replicate, List.cons_append, List.nil_append, Nat.zero_add])
  mstart
  refine wholeIn_w hp ?_
  mexfalso
  mstart
  exact h
theorem steadyNo_w {p d : DL.D} (hb : Bad p d) (h : E ⟨4, .non⟩ [.va p, .va d]) : RW (m_is_steady [.va p, .va d]) Q E := by
  obtain ⟨pp, pd, hb⟩ := hb
  (refine wFun ?_; unfold n_is_steady; simp only [List.length_cons, List.length_nil, Nat.reduceAdd, Nat.reduceSub, List.replicate, List.cons_append, List.nil_append, Nat.zero_add])
  mstart
  refine personsX_w pp ?_
  mexfalso
  cases e : inR 2 6 p with
  | false =>
    mstart
    exact h
  | true =>
    mstart
    refine tupleOf_w pd ?_
    mexfalso
    rcases hb with hb | ⟨_, hb⟩
    · rw [e] at hb; cases hb
    cases e2 : tupR 1 40 d with
    | false =>
      mstart
      exact h
    | true =>
      rcases hb with hb | ⟨xs, rfl, hx, hpl, n, rfl, hno⟩
      · rw [e2] at hb; cases hb
      mstart
      refine faultNo_w (ps := []) hx hpl hno fun k => ?_
      mexfalso
      mstart
      refine ⟨fun _ => ?_, fun z => by cases z⟩
      mstart
      exact h
theorem wNx {ρ : Rho} {N B C : Rho → Prop} {R : Rs → Rho → Prop} (h : N ρ) : OW (.nx ρ) N R B C E := h
theorem kind4 : m__law_kind [.va (.exc 4 .non)] = .ok (.fr [.str "row"]) [.va (.exc 4 .non)] := by rfl
theorem caughtNo_w {p d : DL.D} (hb : Bad p d) (h : Q (.fr [.str "row"]) [.va p, .va d]) : RW (m__law_caught [.va p, .va d]) Q E := by
  (refine wFun ?_; unfold n__law_caught; simp only [List.length_cons, List.length_nil, Nat.reduceAdd, Nat.reduceSub, List.replicate, List.cons_append, List.nil_append, Nat.zero_add])
  with_reducible refine wSeq ?_
  with_reducible refine wSet ?_
  with_reducible refine wC ?_
  mstop
  with_reducible refine wSeq ?_
  with_reducible refine wTry ?_
  with_reducible refine wExpr ?_
  repeat mleft
  dsimp only [soft, List.map_cons, List.map_nil, toArg, List.getElem?_cons_zero, List.getElem?_cons_succ]
  refine ⟨by rfl, ?_⟩
  refine steadyNo_w hb ?_
  simp only [backC, upd1_va, upd1_un, upd1_none]
  refine And.intro (by decide) (And.intro (fun _ => ?_) (fun z => absurd z (by decide)))
  refine And.intro (And.intro (show 3 < 4 by decide) (by rfl)) ?_
  have e : unR 3 (nSet 2 (mV 3) [.va p, .va d, .va .non, .va (.exc 4 .non)]) = .nx [.va p, .va d, .va (.exc 4 .non), .un] := rfl
  dsimp only [List.set_cons_succ, List.set_cons_zero]
  rw [e]
  refine wNx ?_
  with_reducible refine wRet ?_
  with_reducible refine wCall ?_
  repeat mleft
  dsimp only [soft, List.map_cons, List.map_nil, toArg, List.getElem?_cons_zero, List.getElem?_cons_succ]
  refine ⟨by rfl, ?_⟩
  show RW (m__law_kind [.va (.exc 4 .non)]) _ _
  rw [kind4]
  exact ⟨trivial, _, rfl, h⟩
end K4

namespace K4
open PySem L2 PyProof.Rows DL
local macro_rules | `(tactic| mconstructor) => `(tactic| first | exact .inl rfl | exact .inr (.inl rfl) | exact .inr rfl | exact .inr (.inr rfl))
local macro_rules | `(tactic| mpure_intro) => `(tactic| (simp only [cxOf, envOfC, Cx.blk, compEnvC, relab_eq]; decide +kernel))
local macro_rules | `(tactic| mleft) => `(tactic| first | with_reducible refine wSeq ?_ | with_reducible refine wRet ?_ | with_reducible refine wSet ?_ | with_reducible refine wNext ?_ | with_reducible refine wBin ?_ | with_reducible refine wC ?_ | with_reducible refine wCons ?_ | with_reducible refine wNil ?_ | with_reducible refine wTv ?_ | with_reducible refine wUn ?_ | with_reducible refine wBi ?_ | with_reducible refine wLst ?_ | with_reducible refine wTup ?_ | with_reducible refine wNot ?_ | with_reducible refine wNotV ?_ | with_reducible refine wTrue ?_ | with_reducible refine wAnd ?_ | with_reducible refine wOr ?_ | with_reducible refine wIf ?_ | with_reducible refine wIte ?_ | with_reducible refine wAndV ?_ | with_reducible refine wOrV ?_ | with_reducible refine wChain ?_ | with_reducible refine wSl ?_ | with_reducible refine wPN ?_ | with_reducible refine wPS ?_ | with_reducible refine wExpr ?_ | with_reducible refine wRaise ?_ | with_reducible refine wIter ?_ | with_reducible refine wRng ?_ | with_reducible refine wSeqs ?_ | with_reducible refine wCall ?_ | with_reducible refine wSetIx rfl ?_ | with_reducible refine wApp rfl ?_ | with_reducible refine wUnp ?_ | with_reducible refine wFor ?_ | with_reducible refine wComp ?_ | with_reducible refine wFrz ?_ | with_reducible refine wV rfl ?_ | with_reducible refine wVo rfl ?_)
local macro_rules | `(tactic| massumption) => `(tactic| first | decide | omega | assumption | exact cmul 100 100 (by omega) (by omega) (by decide))
local macro_rules | `(tactic| mright) => `(tactic| first | ((with_reducible refine And.intro (a := (_ && _) = true) ?_ ?_); (focus ((try dsimp only [soft, List.map_cons, List.map_nil, toArg, List.getElem?_cons_zero, List.getElem?_cons_succ]); first | rfl | (simp [alNd, pos?, argOk]; done))); (try dsimp only [soft, List.map_cons, List.map_nil, toArg, List.getElem?_cons_zero, List.getElem?_cons_succ])) | ((with_reducible refine And.intro (a := _ < _) ?_ ?_); focus (first | omega | (simp; omega))) | ((with_reducible show And _ _); first | refine ⟨fun z => absurd z (by decide), fun _ => ?_⟩ | refine ⟨fun _ => ?_, fun z => absurd z (by decide)⟩) | ((with_reducible show Exists _); first | refine ⟨_, _, _, rfl, rfl, mod_ok (by massumption), ?_⟩ | refine ⟨_, _, _, rfl, rfl, mul_ok (by massumption), ?_⟩ | refine ⟨_, _, _, rfl, rfl, div_ok (by massumption), ?_⟩ | (refine ⟨_, _, _, rfl, rfl, pow_ok (by decide), ?_⟩; simp only [Int.reduceToNat, Int.reducePow]) | refine ⟨_, _, _, rfl, rfl, rfl, ?_⟩ | refine ⟨_, _, _, rfl, rfl, ix_ok (by assumption), ?_⟩ | refine ⟨_, _, _, rfl, rfl, ixt_ok (by assumption), ?_⟩ | (refine ⟨_, _, _, _, rfl, rfl, rfl, ?_⟩; (try dsimp only [Int.reduceToNat, List.set_cons_zero, List.set_cons_succ])) | refine ⟨_, _, _, _, rfl, rfl, (by first | massumption | (simp; omega)), ?_⟩ | refine ⟨_, _, _, rfl, rfl, ?_⟩ | refine ⟨_, _, rfl, rng_ok (by omega) (by omega), ?_⟩ | refine ⟨_, rfl, ?_⟩ | refine ⟨_, _, rfl, rfl, ?_⟩ | refine ⟨_, _, rfl, (by first | decide | (simp; done)), ?_⟩ | refine ⟨_, _, rfl, ?_⟩))
local macro_rules | `(tactic| mstop) => `(tactic| first | ((with_reducible refine wsv ?_ ?_ ?_); (focus (simp; done)); (focus (first | rfl | assumption | (rw [upd1_none (by rfl)]; assumption))); dsimp only [List.set_cons_zero, List.set_cons_succ]) | ((with_reducible refine wsf ?_ ?_ ?_); (focus (simp; done)); (focus (first | rfl | assumption | (rw [upd1_none (by rfl)]; assumption))); dsimp only [List.set_cons_zero, List.set_cons_succ]))
local macro_rules | `(tactic| mexfalso) => `(tactic| (refine ⟨trivial, ?_⟩; simp only [backC, upd1_va, upd1_un, upd1_v1, upd1_v2, upd1_v3, upd1_v4, upd1_ow, upd1_none, pos?, if_true, if_false, reduceIte, Option.map_some, Option.map_none, Nat.reduceAdd, Nat.reduceEqDiff, List.getElem?_cons_zero, List.getElem?_cons_succ, List.set_cons_zero, List.set_cons_succ]))
local macro_rules | `(tactic| mstart) => `(tactic| repeat (first | mleft | mright | mstop))
variable {Q : Rs → Rho → Prop} {E : Exn → Rho → Prop}
theorem rep_map {n : Nat} {L : List (Int × Int)} : (List.replicate n (L.map lpD)).flatten = ((List.replicate n L).flatten).map lpD := by
  induction n with
  | zero => rfl
  | succ n ih => rw [List.replicate_succ, List.replicate_succ, List.flatten_cons, List.flatten_cons, List.map_append, ih]
theorem mulT_ok {m : Int} {L : List (Int × Int)} (h1 : 1 ≤ m) (h2 : m ≤ 1000) (hl : 1 ≤ L.length) (hl2 : L.length ≤ 1000) : mulTD (.tup (L.map lpD)) (.int m) = some (.va (.tup (((List.replicate m.toNat L).flatten).map lpD))) := by
  unfold mulTD
  simp only
  by_cases e : m = 1
  · subst e
    rw [if_pos rfl]
    simp
  · rw [if_neg e, if_pos ⟨by omega, h2, (fun z => by cases L with | nil => simp at hl | cons a b => cases z), by rw [List.length_map]; omega⟩, rep_map]
theorem add_lst {xs ys : List DL.D} (h : xs.length + ys.length ≤ 100000) : addD (.lst xs) (.lst ys) = some (.fr (xs ++ ys)) := by
  simp [addD, or2, iop, catL, catT, h]
def GL (N : Int) (L : List (Int × Int)) : Prop := 1 ≤ L.length ∧ L.length ≤ 40 ∧ GoodY N [] L
theorem someLeaps_w {d c k N : Int} {n : Nat} {b : Bool} {ws : List Int} (Y : YardOk ws N []) (hN : N = n) (hk : 0 ≤ k) (hk2 : k < 40000)
    (h : ∀ (L : List (Int × Int)) (d' k' : Int), GL N L → 0 ≤ k' → k' ≤ k + 200 → Q (.va (.tup (L.map lpD))) [pl d' c k' b, .va (yd ws N [])]) : RW (m__law_some_leaps [pl d c k b, .va (yd ws N [])]) Q E := by
  have n2 := Y.n2
  have n6 := Y.n6
  (refine wFun ?_; unfold n__law_some_leaps; simp only [List.length_cons, List.length_nil, Nat.reduceAdd, Nat.reduceSub, List.replicate, List.cons_append, List.nil_append, Nat.zero_add])
  mstart
  refine take_w (by omega) (by omega) hk (by omega) fun kind d1 k1 a1 a2 a3 a4 => ?_
  mexfalso
  mstart
  refine leap_w Y a3 (by omega) fun p o d2 k2 p0 p1 pp o0 o1 op b3 b4 => ?_
  mexfalso
  mstart
  refine take_w (by omega) (by omega) b3 (by omega) fun u d3 k3 e1 e2 e3 e4 => ?_
  mexfalso
  mstart
  have hm : 0 ≤ (p + 1 + u) % N ∧ (p + 1 + u) % N < N ∧ (p + 1 + u) % N ≠ p := by
    refine ⟨Int.emod_nonneg _ (by omega), Int.emod_lt_of_pos _ (by omega), ?_⟩
    have hn : N = 2 ∨ N = 3 ∨ N = 4 ∨ N = 5 ∨ N = 6 := by omega
    rcases hn with h | h | h | h | h <;> subst h <;> omega
  obtain ⟨x0, x1, xp⟩ := hm
  generalize (p + 1 + u) % N = x at *
  refine take_w (by omega) (by omega) e3 (by omega) fun m d4 k4 f1 f2 f3 f4 => ?_
  mexfalso
  mstart
  have one : ∀ y : Int, 0 ≤ y → y < N → y ≠ p → 0 ≤ p ∧ p < N ∧ 0 ≤ y ∧ y < N ∧ p ≠ y ∧ p ∉ ([] : List Int) := fun y a b c => ⟨p0, p1, a, b, fun z => c z.symm, pp⟩
  refine ⟨fun i acc ρ => ∃ (L : List (Int × Int)) (d5 k5 : Int), L.length = i ∧ GoodY N [] L ∧ acc = L.map lpD ∧ 0 ≤ k5 ∧ k5 ≤ k4 + 2 * i ∧ ρ = [pl d5 c k5 b, .va (yd ws N []), .va (.int kind), .va (.int x), .un, .un, .un, .va (.int p), .va (.int o)], ⟨[], d4, k4, rfl, (fun l hl => by cases hl), rfl, f3, by omega, rfl⟩, ?_, ?_⟩
  · rintro i y acc ρ hx ⟨L, d5, k5, hL, g, rfl, g1, g2, rfl⟩
    obtain ⟨hi, rfl⟩ := rng_at hx
    refine ⟨_, if_pos ⟨by simp, rfl⟩, ?_⟩
    dsimp only [List.set_cons_zero, List.set_cons_succ]
    mstart
    refine leap_w Y g1 (by omega) fun i2 j2 d6 k6 q1 q2 q3 q4 q5 q6 q7 q8 => ?_
    mexfalso
    refine ⟨_, _, rfl, L ++ [(i2, j2)], d6, k6, by simp [hL], fun l hl => ?_, by simp, q7, by omega, rfl⟩
    rcases List.mem_append.mp hl with hl | hl
    · exact g l hl
    · rw [List.mem_singleton.mp hl]; exact ⟨q1, q2, q4, q5, fun z => q6 z.symm, q3⟩
  rintro acc ρ ⟨S, d5, k5, hS, g, rfl, g1, g2, rfl⟩
  rw [rng_len] at hS g2
  dsimp only [restoR, wipeR, List.set_cons_zero, List.set_cons_succ, List.getElem?_cons_zero, List.getElem?_cons_succ]
  have hkind : kind = 0 ∨ kind = 1 ∨ kind = 2 ∨ kind = 3 ∨ kind = 4 ∨ kind = 5 ∨ kind = 6 ∨ kind = 7 := by omega
  rcases hkind with rfl | rfl | rfl | rfl | rfl | rfl | rfl | rfl
  · mstart
    exact h S _ _ ⟨by omega, by omega, g⟩ g1 (by omega)
  · mstart
    refine ⟨_, _, _, rfl, rfl, add_lst (by rw [List.length_reverse, List.length_map]; omega), ?_⟩
    mstart
    rw [← List.map_reverse, ← List.map_append]
    refine h (S ++ S.reverse) _ _ ⟨by simp; omega, by simp; omega, fun l hl => ?_⟩ g1 (by omega)
    rcases List.mem_append.mp hl with hl | hl
    · exact g l hl
    · exact g l (List.mem_reverse.mp hl)
  · mstart
    refine ⟨fun z => ?_, fun z => by simp at z⟩
    mstart
    refine h [(p, o), (o, p)] _ _ ⟨by simp, by simp, fun l hl => ?_⟩ g1 (by omega)
    simp at hl
    rcases hl with rfl | rfl
    · exact one o o0 o1 op
    · exact ⟨o0, o1, p0, p1, op, by simp⟩
  · mstart
    refine take_w (by omega) (by omega) g1 (by omega) fun v d6 k6 q1 q2 q3 q4 => ?_
    mexfalso
    mstart
    refine ⟨_, _, _, rfl, rfl, mulT_ok (L := [(p, o), (p, x)]) (by omega) (by omega) (by simp) (by simp), ?_⟩
    mstart
    refine h _ _ _ ⟨by simp; omega, by simp; omega, fun l hl => ?_⟩ q3 (by omega)
    simp only [List.mem_flatten, List.mem_replicate] at hl
    obtain ⟨y, ⟨_, rfl⟩, hy⟩ := hl
    simp at hy
    rcases hy with rfl | rfl
    · exact one o o0 o1 op
    · exact one x x0 x1 xp
  · mstart
    refine ⟨_, _, _, rfl, rfl, add_lst (by simp; omega), ?_⟩
    mstart
    refine ⟨_, _, _, rfl, rfl, add_lst (by simp; omega), ?_⟩
    mstart
    show Q (.va (.tup (S.map lpD ++ [(p, o), (p, x)].map lpD ++ (S.map lpD).reverse))) _
    rw [← List.map_reverse, ← List.map_append, ← List.map_append]
    refine h _ _ _ ⟨by simp; omega, by simp; omega, fun l hl => ?_⟩ g1 (by omega)
    rcases List.mem_append.mp hl with hl | hl
    · rcases List.mem_append.mp hl with hl | hl
      · exact g l hl
      · simp at hl
        rcases hl with rfl | rfl
        · exact one o o0 o1 op
        · exact one x x0 x1 xp
    · exact g l (List.mem_reverse.mp hl)
  · mstart
    refine take_w (by omega) (by omega) g1 (by omega) fun v d6 k6 q1 q2 q3 q4 => ?_
    mexfalso
    mstart
    refine ⟨fun i acc ρ => ∃ (L : List (Int × Int)), L.length = i ∧ GoodY N [] L ∧ acc = L.map lpD ∧ ρ = [pl d6 c k6 b, .va (yd ws N []), .va (.int 5), .va (.int x), .ow false (S.map lpD), .un, .un, .va (.int p), .va (.int o)], ⟨[], rfl, (fun l hl => by cases hl), rfl, rfl⟩, ?_, ?_⟩
    · rintro i y acc ρ hx ⟨L, hL, g5, rfl, rfl⟩
      obtain ⟨hi, rfl⟩ := rng_at hx
      refine ⟨_, if_pos ⟨by simp, rfl⟩, ?_⟩
      dsimp only [List.set_cons_zero, List.set_cons_succ]
      obtain ⟨t, ht, hx1⟩ : ∃ t : Int, (0 ≤ t ∧ t < N ∧ t ≠ p) ∧ atI [DL.D.int o, DL.D.int x] ((i : Int) % 2) = some (.int t) := by
        have : (i : Int) % 2 = 0 ∨ (i : Int) % 2 = 1 := by omega
        rcases this with e | e
        · exact ⟨o, ⟨o0, o1, op⟩, by rw [e]; rfl⟩
        · exact ⟨x, ⟨x0, x1, xp⟩, by rw [e]; rfl⟩
      mstart
      refine ⟨L ++ [(p, t)], by simp [hL], fun l hl => ?_, by simp, rfl⟩
      rcases List.mem_append.mp hl with hl | hl
      · exact g5 l hl
      · rw [List.mem_singleton.mp hl]; exact one t ht.1 ht.2.1 ht.2.2
    · rintro acc ρ ⟨L, hL, g5, rfl, rfl⟩
      rw [rng_len] at hL
      dsimp only [restoR, wipeR, List.set_cons_zero, List.set_cons_succ, List.getElem?_cons_zero, List.getElem?_cons_succ]
      mstart
      exact h L _ _ ⟨by omega, by omega, g5⟩ q3 (by omega)
  · mstart
    refine take_w (by omega) (by omega) g1 (by omega) fun v d6 k6 q1 q2 q3 q4 => ?_
    mexfalso
    mstart
    refine ⟨fun i acc ρ => ∃ (L : List (Int × Int)) (d7 k7 : Int), L.length = i ∧ GoodY N [] L ∧ acc = L.map lpD ∧ 0 ≤ k7 ∧ k7 ≤ k6 + 2 * i ∧ ρ = [pl d7 c k7 b, .va (yd ws N []), .va (.int 6), .va (.int x), .ow false (S.map lpD), .un, .un, .va (.int p), .va (.int o)], ⟨[], d6, k6, rfl, (fun l hl => by cases hl), rfl, q3, by omega, rfl⟩, ?_, ?_⟩
    · rintro i y acc ρ hx ⟨L, d7, k7, hL, g5, rfl, r1, r2, rfl⟩
      obtain ⟨hi, rfl⟩ := rng_at hx
      refine ⟨_, if_pos ⟨by simp, rfl⟩, ?_⟩
      dsimp only [List.set_cons_zero, List.set_cons_succ]
      mstart
      refine leap_w Y r1 (by omega) fun i2 j2 d8 k8 t1 t2 t3 t4 t5 t6 t7 t8 => ?_
      mexfalso
      refine ⟨_, _, rfl, L ++ [(i2, j2)], d8, k8, by simp [hL], fun l hl => ?_, by simp, t7, by omega, rfl⟩
      rcases List.mem_append.mp hl with hl | hl
      · exact g5 l hl
      · rw [List.mem_singleton.mp hl]; exact ⟨t1, t2, t4, t5, fun z => t6 z.symm, t3⟩
    · rintro acc ρ ⟨L, d7, k7, hL, g5, rfl, r1, r2, rfl⟩
      rw [rng_len] at hL r2
      dsimp only [restoR, wipeR, List.set_cons_zero, List.set_cons_succ, List.getElem?_cons_zero, List.getElem?_cons_succ]
      mstart
      exact h L _ _ ⟨by omega, by omega, g5⟩ r1 (by omega)
  · mstart
    refine take_w (by omega) (by omega) g1 (by omega) fun v d6 k6 q1 q2 q3 q4 => ?_
    mexfalso
    mstart
    refine ⟨fun i ρ => ∃ (L : List (Int × Int)) (d7 k7 : Int) (s6 : Sl), isIo (some s6) = false ∧ L.length = i ∧ GoodY N [] L ∧ 0 ≤ k7 ∧ k7 ≤ k6 + 1 * i ∧ ρ = [pl d7 c k7 b, .va (yd ws N []), .va (.int 7), .va (.int x), .ow false (S.map lpD), .ow false (L.map lpD), s6, .va (.int p), .va (.int o)], ⟨[], d6, k6, .un, rfl, rfl, (fun l hl => by cases hl), q3, by omega, rfl⟩, ?_, ?_⟩
    · rintro i y ρ hx ⟨L, d7, k7, s6, i6, hL, g5, r1, r2, rfl⟩
      obtain ⟨hi, rfl⟩ := rng_at hx
      refine ⟨_, if_pos ⟨by simp, i6⟩, ?_⟩
      dsimp only [List.set_cons_zero, List.set_cons_succ]
      mstart
      refine take_w (by omega) (by omega) r1 (by omega) fun v2 d8 k8 t1 t2 t3 t4 => ?_
      mexfalso
      mstart
      have hm2 : 0 ≤ (p + 1 + v2) % N ∧ (p + 1 + v2) % N < N ∧ (p + 1 + v2) % N ≠ p := by
        refine ⟨Int.emod_nonneg _ (by omega), Int.emod_lt_of_pos _ (by omega), ?_⟩
        have hn : N = 2 ∨ N = 3 ∨ N = 4 ∨ N = 5 ∨ N = 6 := by omega
        rcases hn with h | h | h | h | h <;> subst h <;> omega
      refine ⟨L ++ [(p, (p + 1 + v2) % N)], d8, k8, .va (.int i), rfl, by simp [hL], fun l hl => ?_, t3, by omega, by simp⟩
      rcases List.mem_append.mp hl with hl | hl
      · exact g5 l hl
      · rw [List.mem_singleton.mp hl]; exact one _ hm2.1 hm2.2.1 hm2.2.2
    · rintro ρ ⟨L, d7, k7, s6, i6, hL, g5, r1, r2, rfl⟩
      rw [rng_len] at hL r2
      mstart
      exact h L _ _ ⟨by omega, by omega, g5⟩ r1 (by omega)
end K4

namespace K4
open PySem L2 PyProof.Rows DL
local macro_rules | `(tactic| mconstructor) => `(tactic| first | exact .inl rfl | exact .inr (.inl rfl) | exact .inr rfl | exact .inr (.inr rfl))
local macro_rules | `(tactic| mpure_intro) => `(tactic| (simp only [cxOf, envOfC, Cx.blk, compEnvC, relab_eq]; decide +kernel))
local macro_rules | `(tactic| mleft) => `(tactic| first | with_reducible refine wSeq ?_ | with_reducible refine wRet ?_ | with_reducible refine wSet ?_ | with_reducible refine wNext ?_ | with_reducible refine wBin ?_ | with_reducible refine wC ?_ | with_reducible refine wCons ?_ | with_reducible refine wNil ?_ | with_reducible refine wTv ?_ | with_reducible refine wUn ?_ | with_reducible refine wBi ?_ | with_reducible refine wLst ?_ | with_reducible refine wTup ?_ | with_reducible refine wNot ?_ | with_reducible refine wNotV ?_ | with_reducible refine wTrue ?_ | with_reducible refine wAnd ?_ | with_reducible refine wOr ?_ | with_reducible refine wIf ?_ | with_reducible refine wIte ?_ | with_reducible refine wAndV ?_ | with_reducible refine wOrV ?_ | with_reducible refine wChain ?_ | with_reducible refine wSl ?_ | with_reducible refine wPN ?_ | with_reducible refine wPS ?_ | with_reducible refine wExpr ?_ | with_reducible refine wRaise ?_ | with_reducible refine wIter ?_ | with_reducible refine wRng ?_ | with_reducible refine wSeqs ?_ | with_reducible refine wCall ?_ | with_reducible refine wSetIx rfl ?_ | with_reducible refine wApp rfl ?_ | with_reducible refine wUnp ?_ | with_reducible refine wFor ?_ | with_reducible refine wComp ?_ | with_reducible refine wFrz ?_ | with_reducible refine wV rfl ?_ | with_reducible refine wVo rfl ?_)
local macro_rules | `(tactic| massumption) => `(tactic| first | decide | omega | assumption | exact cmul 100 100 (by omega) (by omega) (by decide))
local macro_rules | `(tactic| mright) => `(tactic| first | ((with_reducible refine And.intro (a := (_ && _) = true) ?_ ?_); (focus ((try dsimp only [soft, List.map_cons, List.map_nil, toArg, List.getElem?_cons_zero, List.getElem?_cons_succ]); first | rfl | (simp [alNd, pos?, argOk]; done))); (try dsimp only [soft, List.map_cons, List.map_nil, toArg, List.getElem?_cons_zero, List.getElem?_cons_succ])) | ((with_reducible refine And.intro (a := _ < _) ?_ ?_); focus (first | omega | (simp; omega))) | ((with_reducible show And _ _); first | refine ⟨fun z => absurd z (by decide), fun _ => ?_⟩ | refine ⟨fun _ => ?_, fun z => absurd z (by decide)⟩) | ((with_reducible show Exists _); first | refine ⟨_, _, _, rfl, rfl, mod_ok (by massumption), ?_⟩ | refine ⟨_, _, _, rfl, rfl, mul_ok (by massumption), ?_⟩ | refine ⟨_, _, _, rfl, rfl, div_ok (by massumption), ?_⟩ | (refine ⟨_, _, _, rfl, rfl, pow_ok (by decide), ?_⟩; simp only [Int.reduceToNat, Int.reducePow]) | refine ⟨_, _, _, rfl, rfl, rfl, ?_⟩ | refine ⟨_, _, _, rfl, rfl, ix_ok (by assumption), ?_⟩ | refine ⟨_, _, _, rfl, rfl, ixt_ok (by assumption), ?_⟩ | (refine ⟨_, _, _, _, rfl, rfl, rfl, ?_⟩; (try dsimp only [Int.reduceToNat, List.set_cons_zero, List.set_cons_succ])) | refine ⟨_, _, _, _, rfl, rfl, (by first | massumption | (simp; omega)), ?_⟩ | refine ⟨_, _, _, rfl, rfl, ?_⟩ | refine ⟨_, _, rfl, rng_ok (by omega) (by omega), ?_⟩ | refine ⟨_, rfl, ?_⟩ | refine ⟨_, _, rfl, rfl, ?_⟩ | refine ⟨_, _, rfl, (by first | decide | (simp; done)), ?_⟩ | refine ⟨_, _, rfl, ?_⟩))
local macro_rules | `(tactic| mstop) => `(tactic| first | ((with_reducible refine wsv ?_ ?_ ?_); (focus (simp; done)); (focus (first | rfl | assumption | (rw [upd1_none (by rfl)]; assumption))); dsimp only [List.set_cons_zero, List.set_cons_succ]) | ((with_reducible refine wsf ?_ ?_ ?_); (focus (simp; done)); (focus (first | rfl | assumption | (rw [upd1_none (by rfl)]; assumption))); dsimp only [List.set_cons_zero, List.set_cons_succ]))
local macro_rules | `(tactic| mexfalso) => `(tactic| (refine ⟨trivial, ?_⟩; simp only [backC, upd1_va, upd1_un, upd1_v1, upd1_v2, upd1_v3, upd1_v4, upd1_ow, upd1_none, pos?, if_true, if_false, reduceIte, Option.map_some, Option.map_none, Nat.reduceAdd, Nat.reduceEqDiff, List.getElem?_cons_zero, List.getElem?_cons_succ, List.set_cons_zero, List.set_cons_succ]))
local macro_rules | `(tactic| mstart) => `(tactic| repeat (first | mleft | mright | mstop))
variable {Q : Rs → Rho → Prop} {E : Exn → Rho → Prop}
theorem ne_row1 : neD (.lst [.str "row"]) (.lst [.str "row"]) = some (.va (.bl false)) := by
  have f : DL.D.fine 60 (.lst [.str "row"]) = true := by decide +kernel
  have e : DL.D.eqv (.lst [.str "row"]) (.lst [.str "row"]) = true := by decide +kernel
  unfold neD
  rw [f, e]
  rfl
theorem eq_nil : eqD (.lst []) (.lst []) = some (.va (.bl true)) := by
  have f : DL.D.fine 60 (.lst []) = true := by decide +kernel
  have e : DL.D.eqv (.lst []) (.lst []) = true := by decide +kernel
  unfold eqD
  rw [f, e]
  rfl
theorem add_tup {xs ys : List DL.D} (h : xs.length + ys.length ≤ 100000) : addD (.tup xs) (.tup ys) = some (.va (.tup (xs ++ ys))) := by
  simp [addD, or2, iop, catL, catT, h]
/-- things that are no leaps -/
def odds (N p o : Int) (L : List (Int × Int)) : List DL.D := [.tup [.int p, .int p], .tup [.int p, .int N], .lst [.int p, .int o], .tup [.int (0 - 1), .int o], .tup [.bl true, .int 0], .non, .tup (L.map lpD)] ++ [.tup [.int N, .int o], .tup [.int N, .int (N + 1)], .tup [.int p, .int (0 - 1)]]
theorem plt_two {a b : DL.D} (h1 : Pl a) (h2 : Pl b) : Plt (.tup [a, b]) := ⟨rfl, fun xs e x hx => by
  cases e
  simp at hx
  rcases hx with rfl | rfl
  · exact h1
  · exact h2⟩
theorem plt_flat {a : DL.D} (h1 : Pl a) (h2 : ∀ xs, a ≠ .tup xs) : Plt a := ⟨h1, fun xs e => (h2 xs e).elim⟩
theorem plt_L {L : List (Int × Int)} : Plt (.tup (L.map lpD)) := ⟨rfl, fun xs e x hx => by
  cases e
  obtain ⟨l, _, rfl⟩ := List.mem_map.mp hx
  rfl⟩
theorem lp_L {N : Int} {L : List (Int × Int)} : isLp N [] (.tup (L.map lpD)) = false := by
  match L with
  | [] => rfl
  | [a] => rfl
  | [a, b] => rfl
  | a :: b :: c :: r => rfl
theorem isLp_dec {n i j : Int} {ps : List Int} : isLp n ps (.tup [.int i, .int j]) = decide (0 ≤ i ∧ i < n ∧ 0 ≤ j ∧ j < n ∧ i ≠ j ∧ i ∉ ps) := rfl
theorem odds_ok {N p o : Int} {L : List (Int × Int)} : ∀ x ∈ odds N p o L, Plt x ∧ isLp N [] x = false := by
  intro x hx
  simp only [odds, List.cons_append, List.nil_append, List.mem_cons, List.not_mem_nil, or_false] at hx
  rcases hx with rfl | rfl | rfl | rfl | rfl | rfl | rfl | rfl | rfl | rfl
  · exact ⟨plt_two rfl rfl, decide_eq_false fun z => z.2.2.2.2.1 rfl⟩
  · exact ⟨plt_two rfl rfl, isLp_dec.trans (decide_eq_false fun z => by omega)⟩
  · exact ⟨plt_flat rfl (fun xs e => by cases e), rfl⟩
  · exact ⟨plt_two rfl rfl, isLp_dec.trans (decide_eq_false fun z => by omega)⟩
  · exact ⟨plt_two rfl rfl, rfl⟩
  · exact ⟨plt_flat rfl (fun xs e => by cases e), rfl⟩
  · exact ⟨plt_L, lp_L⟩
  · exact ⟨plt_two rfl rfl, isLp_dec.trans (decide_eq_false fun z => by omega)⟩
  · exact ⟨plt_two rfl rfl, isLp_dec.trans (decide_eq_false fun z => by omega)⟩
  · exact ⟨plt_two rfl rfl, isLp_dec.trans (decide_eq_false fun z => by omega)⟩
theorem odds_len {N p o : Int} {L : List (Int × Int)} : (odds N p o L).length = 10 := rfl
def things (N p o : Int) (L : List (Int × Int)) (l : Int × Int) : List DL.D := ((odds N p o L).map fun x => .tup (L.map lpD ++ [x])) ++ ((odds N p o L).map fun x => .tup ([x] ++ L.map lpD)) ++ [.tup [], .lst (L.map lpD), .non, .int 0, .tup (List.replicate 41 [lpD l]).flatten, .tup [.tup (L.map lpD)], .tup [.int p, .int o]]
theorem bad_one {N : Int} {xs : List DL.D} (h : xs.length ≤ 100) (hp : ∀ x ∈ xs, Plt x) (hn : ∃ x ∈ xs, isLp N [] x = false) : Bad (.int N) (.tup xs) := ⟨rfl, rfl, .inr ⟨⟨N, rfl⟩, .inr ⟨xs, rfl, h, hp, N, rfl, hn⟩⟩⟩
theorem bad_no {N : Int} {d : DL.D} (h : Pl d) (h2 : tupR 1 40 d = false) : Bad (.int N) d := ⟨rfl, h, .inr ⟨⟨N, rfl⟩, .inl h2⟩⟩
theorem things_ok {N p o : Int} {L : List (Int × Int)} {l : Int × Int} (hL : L.length ≤ 40) : ∀ x ∈ things N p o L l, Bad (.int N) x := by
  intro x hx
  have pm : ∀ y ∈ L.map lpD, Plt y := fun y hy => by
    obtain ⟨l, _, rfl⟩ := List.mem_map.mp hy
    exact plt_lp
  rcases List.mem_append.mp hx with hx | hx
  · rcases List.mem_append.mp hx with hx | hx
    · obtain ⟨y, hy, rfl⟩ := List.mem_map.mp hx
      obtain ⟨o1, o2⟩ := odds_ok y hy
      refine bad_one (by simp; omega) (fun z hz => ?_) ⟨y, by simp, o2⟩
      rcases List.mem_append.mp hz with hz | hz
      · exact pm z hz
      · rw [List.mem_singleton.mp hz]; exact o1
    · obtain ⟨y, hy, rfl⟩ := List.mem_map.mp hx
      obtain ⟨o1, o2⟩ := odds_ok y hy
      refine bad_one (by simp; omega) (fun z hz => ?_) ⟨y, by simp, o2⟩
      rcases List.mem_append.mp hz with hz | hz
      · rw [List.mem_singleton.mp hz]; exact o1
      · exact pm z hz
  · simp only [List.mem_cons, List.not_mem_nil, or_false] at hx
    rcases hx with rfl | rfl | rfl | rfl | rfl | rfl | rfl
    · exact bad_no rfl rfl
    · exact bad_no rfl rfl
    · exact bad_no rfl rfl
    · exact bad_no rfl rfl
    · exact bad_no rfl rfl
    · refine bad_one (by simp) (fun z hz => ?_) ⟨.tup (L.map lpD), List.mem_singleton.mpr rfl, lp_L⟩
      rw [List.mem_singleton.mp hz]; exact plt_L
    · refine bad_one (by simp) (fun z hz => ?_) ⟨.int p, by simp, rfl⟩
      simp at hz
      rcases hz with rfl | rfl
      · exact plt_flat rfl fun xs e => by cases e
      · exact plt_flat rfl fun xs e => by cases e
end K4

namespace K4
open PySem L2 PyProof.Rows DL
local macro_rules | `(tactic| mconstructor) => `(tactic| first | exact .inl rfl | exact .inr (.inl rfl) | exact .inr rfl | exact .inr (.inr rfl))
local macro_rules | `(tactic| mpure_intro) => `(tactic| (simp only [cxOf, envOfC, Cx.blk, compEnvC, relab_eq]; decide +kernel))
local macro_rules | `(tactic| mleft) => `(tactic| first | with_reducible refine wSeq ?_ | with_reducible refine wRet ?_ | with_reducible refine wSet ?_ | with_reducible refine wNext ?_ | with_reducible refine wBin ?_ | with_reducible refine wC ?_ | with_reducible refine wCons ?_ | with_reducible refine wNil ?_ | with_reducible refine wTv ?_ | with_reducible refine wUn ?_ | with_reducible refine wBi ?_ | with_reducible refine wLst ?_ | with_reducible refine wTup ?_ | with_reducible refine wNot ?_ | with_reducible refine wNotV ?_ | with_reducible refine wTrue ?_ | with_reducible refine wAnd ?_ | with_reducible refine wOr ?_ | with_reducible refine wIf ?_ | with_reducible refine wIte ?_ | with_reducible refine wAndV ?_ | with_reducible refine wOrV ?_ | with_reducible refine wChain ?_ | with_reducible refine wSl ?_ | with_reducible refine wPN ?_ | with_reducible refine wPS ?_ | with_reducible refine wExpr ?_ | with_reducible refine wRaise ?_ | with_reducible refine wIter ?_ | with_reducible refine wRng ?_ | with_reducible refine wSeqs ?_ | with_reducible refine wCall ?_ | with_reducible refine wSetIx rfl ?_ | with_reducible refine wApp rfl ?_ | with_reducible refine wUnp ?_ | with_reducible refine wFor ?_ | with_reducible refine wComp ?_ | with_reducible refine wFrz ?_ | with_reducible refine wV rfl ?_ | with_reducible refine wVo rfl ?_)
local macro_rules | `(tactic| massumption) => `(tactic| first | decide | omega | assumption | exact cmul 100 100 (by omega) (by omega) (by decide))
local macro_rules | `(tactic| mright) => `(tactic| first | ((with_reducible refine And.intro (a := (_ && _) = true) ?_ ?_); (focus ((try dsimp only [soft, List.map_cons, List.map_nil, toArg, List.getElem?_cons_zero, List.getElem?_cons_succ]); first | rfl | (simp [alNd, pos?, argOk]; done))); (try dsimp only [soft, List.map_cons, List.map_nil, toArg, List.getElem?_cons_zero, List.getElem?_cons_succ])) | ((with_reducible refine And.intro (a := _ < _) ?_ ?_); focus (first | omega | (simp; omega))) | ((with_reducible show And _ _); first | refine ⟨fun z => absurd z (by decide), fun _ => ?_⟩ | refine ⟨fun _ => ?_, fun z => absurd z (by decide)⟩) | ((with_reducible show Exists _); first | refine ⟨_, _, _, rfl, rfl, mod_ok (by massumption), ?_⟩ | refine ⟨_, _, _, rfl, rfl, mul_ok (by massumption), ?_⟩ | refine ⟨_, _, _, rfl, rfl, div_ok (by massumption), ?_⟩ | (refine ⟨_, _, _, rfl, rfl, pow_ok (by decide), ?_⟩; simp only [Int.reduceToNat, Int.reducePow]) | refine ⟨_, _, _, rfl, rfl, rfl, ?_⟩ | refine ⟨_, _, _, rfl, rfl, ix_ok (by assumption), ?_⟩ | refine ⟨_, _, _, rfl, rfl, ixt_ok (by assumption), ?_⟩ | (refine ⟨_, _, _, _, rfl, rfl, rfl, ?_⟩; (try dsimp only [Int.reduceToNat, List.set_cons_zero, List.set_cons_succ])) | refine ⟨_, _, _, _, rfl, rfl, (by first | massumption | (simp; omega)), ?_⟩ | refine ⟨_, _, _, rfl, rfl, ?_⟩ | refine ⟨_, _, rfl, rng_ok (by omega) (by omega), ?_⟩ | refine ⟨_, rfl, ?_⟩ | refine ⟨_, _, rfl, rfl, ?_⟩ | refine ⟨_, _, rfl, (by first | decide | (simp; done)), ?_⟩ | refine ⟨_, _, rfl, ?_⟩))
local macro_rules | `(tactic| mstop) => `(tactic| first | ((with_reducible refine wsv ?_ ?_ ?_); (focus (simp; done)); (focus (first | rfl | assumption | (rw [upd1_none (by rfl)]; assumption))); dsimp only [List.set_cons_zero, List.set_cons_succ]) | ((with_reducible refine wsf ?_ ?_ ?_); (focus (simp; done)); (focus (first | rfl | assumption | (rw [upd1_none (by rfl)]; assumption))); dsimp only [List.set_cons_zero, List.set_cons_succ]))
local macro_rules | `(tactic| mexfalso) => `(tactic| (refine ⟨trivial, ?_⟩; simp only [backC, upd1_va, upd1_un, upd1_v1, upd1_v2, upd1_v3, upd1_v4, upd1_ow, upd1_none, pos?, if_true, if_false, reduceIte, Option.map_some, Option.map_none, Nat.reduceAdd, Nat.reduceEqDiff, List.getElem?_cons_zero, List.getElem?_cons_succ, List.set_cons_zero, List.set_cons_succ]))
local macro_rules | `(tactic| mstart) => `(tactic| repeat (first | mleft | mright | mstop))
theorem pos_va {d : DL.D} {rs : List Rs} {i : Nat} : pos? (.va d :: rs) i = (pos? rs i).map (· + 1) := rfl
theorem pos_al {j : Nat} {rs : List Rs} {i : Nat} : pos? (.al j :: rs) i = if j = i then some 0 else (pos? rs i).map (· + 1) := rfl
theorem pos_nil {i : Nat} : pos? [] i = none := rfl
theorem soft_va {d : DL.D} : soft (.va d) = .va d := rfl
theorem soft_fr {xs : List DL.D} : soft (.fr xs) = .va (.lst xs) := rfl
theorem soft_al {d : Nat} : soft (.al d) = .al d := rfl
local macro_rules | `(tactic| mleave) => `(tactic| (refine ⟨trivial, ?_⟩; simp only [soft_va, soft_fr, soft_al, backC, upd1_va, upd1_un, upd1_v1, upd1_v2, upd1_v3, upd1_v4, upd1_ow, upd1_none, pos_va, pos_al, pos_nil, if_true, if_false, reduceIte, Option.map_some, Option.map_none, Nat.reduceAdd, Nat.reduceEqDiff, List.getElem?_cons_zero, List.getElem?_cons_succ, List.set_cons_zero, List.set_cons_succ]))
variable {Q : Rs → Rho → Prop} {E : Exn → Rho → Prop}
theorem refused_w {d c k N : Int} {b : Bool} {L : List (Int × Int)} (n2 : 2 ≤ N) (n6 : N ≤ 6) (hL : GL N L) (h : Q (.va (.bl true)) [pl d c k b, .va (.int N), .va (.tup (L.map lpD))]) : RW (m__law_refused [pl d c k b, .va (.int N), .va (.tup (L.map lpD))]) Q E := by
  unfold m__law_refused
  with_reducible refine wFun ?_
  unfold n__law_refused
  simp only [List.length_cons, List.length_nil, Nat.reduceAdd, Nat.reduceSub, List.replicate, List.cons_append, List.nil_append, Nat.zero_add]
  with_reducible refine wSeq ?_
  with_reducible refine wFor ?_
  with_reducible refine wIter ?_
  with_reducible refine wLst ?_
  repeat mleft
  refine ⟨_, _, _, rfl, rfl, rfl, ?_⟩
  repeat mleft
  refine ⟨_, _, _, rfl, rfl, pow_ok (by decide), ?_⟩
  simp only [Int.reduceToNat, Int.reducePow]
  repeat mleft
  refine ⟨_, _, rfl, by simp, ?_⟩
  refine ⟨_, _, _, rfl, rfl, ?_⟩
  refine ⟨fun _ ρ => ∃ s3, isIo (some s3) = false ∧ ρ = [pl d c k b, .va (.int N), .va (.tup (L.map lpD)), s3, .un, .un, .un, .un, .un, .un], ⟨.un, rfl, rfl⟩, ?_, ?_⟩
  · rintro i x ρ hx ⟨s3, i3, rfl⟩
    have hm := List.mem_of_getElem? hx
    have hb : Bad x (.tup (L.map lpD)) := by
      simp only [List.mem_cons, List.not_mem_nil, or_false] at hm
      rcases hm with rfl | rfl | rfl | rfl | rfl | rfl | rfl | rfl
      · exact ⟨rfl, rfl, .inl rfl⟩
      · exact ⟨rfl, rfl, .inl rfl⟩
      · exact ⟨rfl, rfl, .inl rfl⟩
      · exact ⟨rfl, rfl, .inl rfl⟩
      · exact ⟨rfl, rfl, .inl rfl⟩
      · exact ⟨rfl, rfl, .inl rfl⟩
      · refine ⟨rfl, rfl, .inl ?_⟩
        show (decide ((2 : Int) ≤ 0 - N) && decide (0 - N ≤ 6)) = false
        rw [decide_eq_false (p := (2 : Int) ≤ 0 - N) (by omega), Bool.false_and]
      · exact ⟨rfl, rfl, .inl (by decide)⟩
    refine ⟨_, if_pos ⟨by simp, i3⟩, ?_⟩
    dsimp only [List.set_cons_zero, List.set_cons_succ]
    with_reducible refine wIf ?_
    with_reducible refine wTv ?_
    with_reducible refine wBin ?_
    with_reducible refine wCall ?_
    repeat mleft
    refine ⟨by rfl, ?_⟩
    refine caughtNo_w hb ?_
    mexfalso
    repeat mleft
    refine ⟨_, _, rfl, by simp, ?_⟩
    refine ⟨_, _, _, rfl, rfl, ne_row1, ?_⟩
    refine ⟨_, rfl, fun z => absurd z (by decide), fun _ => ?_⟩
    with_reducible refine wNext ?_
    exact ⟨_, rfl, rfl⟩
  · rintro ρ ⟨s3, i3, rfl⟩
    obtain ⟨h1, h40, hg⟩ := hL
    obtain ⟨l, L', rfl⟩ : ∃ l L', L = l :: L' := by
      cases L with
      | nil => simp at h1
      | cons l L' => exact ⟨l, L', rfl⟩
    with_reducible refine wSeq ?_
    with_reducible refine wUnp ?_
    with_reducible refine wBin ?_
    repeat mleft
    refine ⟨_, _, _, rfl, rfl, ixt_ok (show atI _ 0 = some (lpD l) from atI_nat (j := 0) rfl), ?_⟩
    refine ⟨_, _, rfl, rfl, ?_⟩
    dsimp only [List.set_cons_zero, List.set_cons_succ]
    have hx1 : atI ((l :: L').map lpD) 0 = some (lpD l) := atI_nat (j := 0) rfl
    generalize hLL : l :: L' = L at *
    with_reducible refine wSeq ?_
    with_reducible refine wSet ?_
    repeat (first | mleft | mright)
    mstop
    with_reducible refine wSeq ?_
    with_reducible refine wSet ?_
    repeat (first | mleft | mright)
    refine wsf (xs := odds N l.1 l.2 L) (by simp) (by rfl) ?_
    dsimp only [List.set_cons_zero, List.set_cons_succ]
    have hO := odds_len (N := N) (p := l.1) (o := l.2) (L := L)
    have hT := things_ok (N := N) (p := l.1) (o := l.2) (L := L) (l := l) h40
    unfold things at hT
    generalize odds N l.1 l.2 L = os at *
    with_reducible refine wSeq ?_
    with_reducible refine wSet ?_
    with_reducible refine wBin ?_
    with_reducible refine wComp ?_
    repeat (first | mleft | mright)
    refine ⟨fun i acc ρ => ρ = [pl d c k b, .va (.int N), .va (.tup (L.map lpD)), s3, .va (.lst os), .un, .va (.int l.1), .va (.int l.2), .un, .un] ∧ acc = (os.take i).map (fun x => .tup (L.map lpD ++ [x])), ⟨rfl, by simp⟩, ?_, ?_⟩
    · rintro i x acc ρ hx ⟨rfl, rfl⟩
      have hi := get_lt hx
      refine ⟨_, if_pos ⟨by simp, rfl⟩, ?_⟩
      dsimp only [List.set_cons_zero, List.set_cons_succ]
      refine ⟨fun _ => ⟨by rw [List.length_map, List.length_take]; omega, ?_⟩, fun z => absurd z (by decide)⟩
      with_reducible refine wBin ?_
      repeat mleft
      refine ⟨_, _, rfl, by simp, ?_⟩
      refine ⟨_, _, _, rfl, rfl, add_tup (by simp; omega), ?_⟩
      refine ⟨_, _, rfl, rfl, ?_⟩
      rw [List.take_add_one, hx, List.map_append]; rfl
    · rintro acc ρ ⟨rfl, rfl⟩
      rw [List.take_length]
      dsimp only [restoR, wipeR, List.set_cons_zero, List.set_cons_succ, List.getElem?_cons_zero, List.getElem?_cons_succ]
      with_reducible refine wComp ?_
      repeat (first | mleft | mright)
      refine ⟨fun i acc ρ => ρ = [pl d c k b, .va (.int N), .va (.tup (L.map lpD)), s3, .va (.lst os), .un, .va (.int l.1), .va (.int l.2), .un, .un] ∧ acc = (os.take i).map (fun x => .tup ([x] ++ L.map lpD)), ⟨rfl, by simp⟩, ?_, ?_⟩
      · rintro i x acc ρ hx ⟨rfl, rfl⟩
        have hi := get_lt hx
        refine ⟨_, if_pos ⟨by simp, rfl⟩, ?_⟩
        dsimp only [List.set_cons_zero, List.set_cons_succ]
        refine ⟨fun _ => ⟨by rw [List.length_map, List.length_take]; omega, ?_⟩, fun z => absurd z (by decide)⟩
        with_reducible refine wBin ?_
        repeat mleft
        refine ⟨_, _, rfl, by simp, ?_⟩
        repeat mleft
        refine ⟨_, _, _, rfl, rfl, add_tup (by simp; omega), ?_⟩
        refine ⟨_, _, rfl, rfl, ?_⟩
        rw [List.take_add_one, hx, List.map_append]; rfl
      · rintro acc ρ ⟨rfl, rfl⟩
        rw [List.take_length]
        dsimp only [restoR, wipeR, List.set_cons_zero, List.set_cons_succ, List.getElem?_cons_zero, List.getElem?_cons_succ]
        refine ⟨_, _, _, rfl, rfl, add_lst (by simp; omega), ?_⟩
        mstop
        with_reducible refine wSeq ?_
        with_reducible refine wSet ?_
        with_reducible refine wBin ?_
        repeat (first | mleft | mright)
        refine ⟨_, _, _, rfl, rfl, add_lst (by simp; omega), ?_⟩
        mstop
        have hT2 : ∀ x ∈ os.map (fun x => DL.D.tup (L.map lpD ++ [x])) ++ os.map (fun x => DL.D.tup ([x] ++ L.map lpD)) ++ [.tup [], .lst (L.map lpD), .non, .int 0, .tup (List.replicate (Int.toNat 41) [lpD l]).flatten, .tup [.tup (L.map lpD)], .tup [.int l.1, .int l.2]], Bad (.int N) x := hT
        generalize os.map (fun x => DL.D.tup (L.map lpD ++ [x])) ++ os.map (fun x => DL.D.tup ([x] ++ L.map lpD)) ++ [.tup [], .lst (L.map lpD), .non, .int 0, .tup (List.replicate (Int.toNat 41) [lpD l]).flatten, .tup [.tup (L.map lpD)], .tup [.int l.1, .int l.2]] = ts at *
        with_reducible refine wRet ?_
        with_reducible refine wBin ?_
        with_reducible refine wComp ?_
        repeat (first | mleft | mright)
        refine ⟨fun _ acc ρ => ρ = [pl d c k b, .va (.int N), .va (.tup (L.map lpD)), s3, .va (.lst os), .va (.lst ts), .va (.int l.1), .va (.int l.2), .un, .un] ∧ acc = [], ⟨rfl, rfl⟩, ?_, ?_⟩
        · rintro i x acc ρ hx ⟨rfl, rfl⟩
          refine ⟨_, if_pos ⟨by simp, rfl⟩, ?_⟩
          dsimp only [List.set_cons_zero, List.set_cons_succ]
          with_reducible refine wTv ?_
          with_reducible refine wBin ?_
          with_reducible refine wCall ?_
          repeat mleft
          refine ⟨by rfl, ?_⟩
          refine caughtNo_w (hT2 x (List.mem_of_getElem? hx)) ?_
          mleave
          repeat mleft
          refine ⟨_, _, rfl, by simp, ?_⟩
          refine ⟨_, _, _, rfl, rfl, ne_row1, ?_⟩
          refine ⟨_, rfl, fun z => absurd z (by decide), fun _ => ?_⟩
          refine ⟨rfl, ?_⟩
          trivial
        · rintro acc ρ ⟨rfl, rfl⟩
          dsimp only [restoR, wipeR, List.set_cons_zero, List.set_cons_succ, List.getElem?_cons_zero, List.getElem?_cons_succ]
          repeat mleft
          refine ⟨_, _, rfl, by simp, ?_⟩
          refine ⟨_, _, _, rfl, rfl, eq_nil, ?_⟩
          mstart
          exact h
end K4

namespace K4
open PySem L2 PyProof.Rows DL
local macro_rules | `(tactic| mconstructor) => `(tactic| first | exact .inl rfl | exact .inr (.inl rfl) | exact .inr rfl | exact .inr (.inr rfl))
local macro_rules | `(tactic| mpure_intro) => `(tactic| (simp only [cxOf, envOfC, Cx.blk, compEnvC, relab_eq]; decide +kernel))
local macro_rules | `(tactic| mleft) => `(tactic| first | with_reducible refine wSeq ?_ | with_reducible refine wRet ?_ | with_reducible refine wSet ?_ | with_reducible refine wNext ?_ | with_reducible refine wBin ?_ | with_reducible refine wC ?_ | with_reducible refine wCons ?_ | with_reducible refine wNil ?_ | with_reducible refine wTv ?_ | with_reducible refine wUn ?_ | with_reducible refine wBi ?_ | with_reducible refine wLst ?_ | with_reducible refine wTup ?_ | with_reducible refine wNot ?_ | with_reducible refine wNotV ?_ | with_reducible refine wTrue ?_ | with_reducible refine wAnd ?_ | with_reducible refine wOr ?_ | with_reducible refine wIf ?_ | with_reducible refine wIte ?_ | with_reducible refine wAndV ?_ | with_reducible refine wOrV ?_ | with_reducible refine wChain ?_ | with_reducible refine wSl ?_ | with_reducible refine wPN ?_ | with_reducible refine wPS ?_ | with_reducible refine wExpr ?_ | with_reducible refine wRaise ?_ | with_reducible refine wIter ?_ | with_reducible refine wRng ?_ | with_reducible refine wSeqs ?_ | with_reducible refine wCall ?_ | with_reducible refine wSetIx rfl ?_ | with_reducible refine wApp rfl ?_ | with_reducible refine wUnp ?_ | with_reducible refine wFor ?_ | with_reducible refine wComp ?_ | with_reducible refine wFrz ?_ | with_reducible refine wV rfl ?_ | with_reducible refine wVo rfl ?_)
local macro_rules | `(tactic| massumption) => `(tactic| first | decide | omega | assumption | exact cmul 100 100 (by omega) (by omega) (by decide))
local macro_rules | `(tactic| mright) => `(tactic| first | ((with_reducible refine And.intro (a := (_ && _) = true) ?_ ?_); (focus ((try dsimp only [soft, List.map_cons, List.map_nil, toArg, List.getElem?_cons_zero, List.getElem?_cons_succ]); first | rfl | (simp [alNd, pos?, argOk]; done))); (try dsimp only [soft, List.map_cons, List.map_nil, toArg, List.getElem?_cons_zero, List.getElem?_cons_succ])) | ((with_reducible refine And.intro (a := _ < _) ?_ ?_); focus (first | omega | (simp; omega))) | ((with_reducible show And _ _); first | refine ⟨fun z => absurd z (by decide), fun _ => ?_⟩ | refine ⟨fun _ => ?_, fun z => absurd z (by decide)⟩) | ((with_reducible show Exists _); first | refine ⟨_, _, _, rfl, rfl, mod_ok (by massumption), ?_⟩ | refine ⟨_, _, _, rfl, rfl, mul_ok (by massumption), ?_⟩ | refine ⟨_, _, _, rfl, rfl, div_ok (by massumption), ?_⟩ | (refine ⟨_, _, _, rfl, rfl, pow_ok (by decide), ?_⟩; simp only [Int.reduceToNat, Int.reducePow]) | refine ⟨_, _, _, rfl, rfl, rfl, ?_⟩ | refine ⟨_, _, _, rfl, rfl, ix_ok (by assumption), ?_⟩ | refine ⟨_, _, _, rfl, rfl, ixt_ok (by assumption), ?_⟩ | (refine ⟨_, _, _, _, rfl, rfl, rfl, ?_⟩; (try dsimp only [Int.reduceToNat, List.set_cons_zero, List.set_cons_succ])) | refine ⟨_, _, _, _, rfl, rfl, (by first | massumption | (simp; omega)), ?_⟩ | refine ⟨_, _, _, rfl, rfl, ?_⟩ | refine ⟨_, _, rfl, rng_ok (by omega) (by omega), ?_⟩ | refine ⟨_, rfl, ?_⟩ | refine ⟨_, _, rfl, rfl, ?_⟩ | refine ⟨_, _, rfl, (by first | decide | (simp; done)), ?_⟩ | refine ⟨_, _, rfl, ?_⟩))
local macro_rules | `(tactic| mstop) => `(tactic| first | ((with_reducible refine wsv ?_ ?_ ?_); (focus (simp; done)); (focus (first | rfl | assumption | (rw [upd1_none (by rfl)]; assumption))); dsimp only [List.set_cons_zero, List.set_cons_succ]) | ((with_reducible refine wsf ?_ ?_ ?_); (focus (simp; done)); (focus (first | rfl | assumption | (rw [upd1_none (by rfl)]; assumption))); dsimp only [List.set_cons_zero, List.set_cons_succ]))
local macro_rules | `(tactic| mexfalso) => `(tactic| (refine ⟨trivial, ?_⟩; simp only [backC, upd1_va, upd1_un, upd1_v1, upd1_v2, upd1_v3, upd1_v4, upd1_ow, upd1_none, pos?, if_true, if_false, reduceIte, Option.map_some, Option.map_none, Nat.reduceAdd, Nat.reduceEqDiff, List.getElem?_cons_zero, List.getElem?_cons_succ, List.set_cons_zero, List.set_cons_succ]))
local macro_rules | `(tactic| mstart) => `(tactic| repeat (first | mleft | mright | mstop))
local macro_rules | `(tactic| mleave) => `(tactic| (refine ⟨trivial, ?_⟩; simp only [soft_va, soft_fr, soft_al, backC, upd1_va, upd1_un, upd1_v1, upd1_v2, upd1_v3, upd1_v4, upd1_ow, upd1_none, pos_va, pos_al, pos_nil, if_true, if_false, reduceIte, Option.map_some, Option.map_none, Nat.reduceAdd, Nat.reduceEqDiff, List.getElem?_cons_zero, List.getElem?_cons_succ, List.set_cons_zero, List.set_cons_succ]))
variable {Q : Rs → Rho → Prop} {E : Exn → Rho → Prop}
theorem rowP_snoc {ws : List Int} {pts : List (List Int)} {row : List (List (Int × Int) × Int)} {r : List (Int × Int) × Int} : rowP ws pts (row ++ [r]) = runP ws (rowP ws pts row) r := by
  simp only [rowP, List.foldl_append, List.foldl_cons, List.foldl_nil]
def putR (pts aft : List (List Int)) (t : Int) : List (List Int) := List.zipWith (fun one other => putL one (putL other one (-1)) t) pts aft
theorem lawRun_map {ws : List Int} {pts : List (List Int)} {r : List (Int × Int) × Int} : lawRun ws pts r = (putR pts (aft (List.replicate ws.length 0) pts r.1) r.2).map (roundL ws) := by
  rw [lawRun, putR, List.map_zipWith]
theorem lawDone_w {M n : Nat} {N : Int} {ws ps : List Int} {pts : List (List Int)} {row : List (List (Int × Int) × Int)} (hN : N = n) (hM0 : 35 ≤ M) (hM : M ≤ 10000) (H : Here2 M ws n ps pts) (hR : row.length ≤ 6) (hr : ∀ r ∈ row, RunY n ps r)
    (h : Q (.va (.tup (ptsD (rowP ws pts row)))) [.va (pt ws), .va (.tup (ptsD pts)), .va (.lst (rowD row))]) : RW (m__law_done [.va (pt ws), .va (.tup (ptsD pts)), .va (.lst (rowD row))]) Q E := by
  have Y := H.y
  have w3 := Y.w3
  have n6 := Y.n6
  have hl := H.l
  (refine wFun ?_; unfold n__law_done; simp only [List.length_cons, List.length_nil, Nat.reduceAdd, Nat.reduceSub, List.replicate, List.cons_append, List.nil_append, Nat.zero_add])
  mstart
  refine ⟨fun i acc ρ => ρ = [.va (pt ws), .va (.tup (ptsD pts)), .va (.lst (rowD row)), .un, .un, .un, .un, .un, .un, .un] ∧ acc = lsD (pts.take i), ⟨rfl, by simp⟩, ?_, ?_⟩
  · rintro i x acc ρ hx ⟨rfl, rfl⟩
    obtain ⟨p, e2, rfl⟩ := pts_get hx
    have hi := get_lt e2
    refine ⟨_, if_pos ⟨by simp, rfl⟩, ?_⟩
    dsimp only [List.set_cons_zero, List.set_cons_succ]
    mstart
    all_goals (try (refine ⟨by rw [List.length_map, List.length_take]; omega, ?_⟩; mstart))
    exact (by rw [List.take_add_one, e2, lsD, lsD, List.map_append]; rfl)
  rintro acc ρ ⟨rfl, rfl⟩
  rw [List.length_map, List.take_length]
  dsimp only [restoR, wipeR, List.set_cons_zero, List.set_cons_succ, List.getElem?_cons_zero, List.getElem?_cons_succ]
  mstart
  refine ⟨fun k ρ => ∃ s4 s5 s6, isIo (some s4) = false ∧ isIo (some s5) = false ∧ isIo (some s6) = false ∧ ρ = [.va (pt ws), .va (.tup (ptsD pts)), .va (.lst (rowD row)), .ow false (lsD (rowP ws pts (row.take k))), s4, s5, s6, .un, .un, .un], ⟨.un, .un, .un, rfl, rfl, rfl, rfl⟩, ?_, ?_⟩
  · rintro k x ρ hx ⟨s4, s5, s6, i4, i5, i6, rfl⟩
    obtain ⟨r, hr1, rfl⟩ := runD_get hx
    have hk := get_lt hr1
    have R := hr r (List.mem_of_getElem? hr1)
    have H1 := here_row (row := row.take k) hM0 H fun x hx => hr x (List.mem_of_mem_take hx)
    have hlen : (row.take k).length ≤ 6 := by rw [List.length_take]; omega
    have eR := lawRun_eq (by omega) H1 R
    rw [lawRun_map] at eR
    have H2 := here_run (by omega) H1 R
    have esnoc : rowP ws pts (row.take (k + 1)) = runP ws (rowP ws pts (row.take k)) r := by
      rw [List.take_add_one, hr1, Option.toList_some, rowP_snoc]
    generalize hcur : rowP ws pts (row.take k) = cur at *
    have hc := H1.l
    obtain ⟨a2, a3⟩ := aft_shape (L := r.1) H1.s (by rw [hc]; exact R.g.g rfl)
    have gL : GoodL cur.length r.1 := by rw [hc]; exact R.g.g rfl
    have R40 := R.l40
    have lr : (List.replicate ws.length (0 : Int)).length = ws.length := List.length_replicate
    obtain ⟨b1, _, _⟩ := aft_all (ws := List.replicate ws.length 0) zs_ways (by omega) (L := r.1) H1.b (by rw [lr]; exact H1.s) gL
    refine ⟨[.va (pt ws), .va (.tup (ptsD pts)), .va (.lst (rowD row)), .ow false (lsD cur), .va (.tup (r.1.map lpD)), .va (.int r.2), s6, .un, .un, .un], ?_, ?_⟩
    · show setVs [4, 5] [_, _] _ = _
      unfold setVs
      rw [if_pos ⟨by simp, i4⟩]
      unfold setVs
      rw [if_pos ⟨by simp, i5⟩]
      rfl
    mstart
    refine places_w (M := M + 122 * (row.take k).length) (by omega) (by omega) (show ws.length ≤ 6 by omega) H1.s H1.b gL (by omega) R.l40 ?_
    mexfalso
    mstart
    generalize haf : aft (List.replicate ws.length 0) cur r.1 = af1 at *
    refine ⟨fun j acc ρ => ρ = [.va (pt ws), .va (.tup (ptsD pts)), .va (.lst (rowD row)), .va (.lst (lsD cur)), .va (.tup (r.1.map lpD)), .va (.int r.2), .va (.lst (lsD af1)), .un, .un, .un] ∧ acc = ptsD ((putR cur af1 r.2).take j), ⟨rfl, by simp⟩, ?_, ?_⟩
    · rintro j x acc ρ hx ⟨rfl, rfl⟩
      obtain ⟨x1, x2, e1, e2, rfl⟩ := zip2_get hx
      obtain ⟨p, g1, rfl⟩ := ls_get e1
      obtain ⟨q, g2, rfl⟩ := ls_get e2
      have hj := get_lt g1
      have lp := H1.s p (List.mem_of_getElem? g1)
      have lq := a2 q (List.mem_of_getElem? g2)
      have bp := (H1.b.mono (show M + 122 * (row.take k).length ≤ 5000 + M by omega)) p (List.mem_of_getElem? g1)
      have bq := (b1.mono (show M + 122 * (row.take k).length + 2 * r.1.length ≤ 5000 + M by omega)) q (List.mem_of_getElem? g2)
      have t2 := R.t2
      have t1 := R.t1
      refine ⟨_, rfl, ?_⟩
      mstart
      all_goals (try (refine ⟨by rw [List.length_map, List.length_take]; omega, ?_⟩; mstart))
      refine putll_w (M := 5000 + M) (by omega) (by decide) (by omega) (by omega) bp ?_
      mexfalso
      mstart
      refine putlp_w (M := 5002 + M) (by omega) (by omega) (by omega) (by rw [putL, List.length_zipWith, lp, lq]; omega) (fun x hx => ?_) ?_
      · obtain ⟨u, v, hu, hv, rfl⟩ := zw_mem hx
        have := bq u hu
        have := bp v hv
        rw [show 5002 + M = 5000 + M + 2 by omega, pw2]
        omega
      mexfalso
      refine ⟨_, _, rfl, rfl, ?_⟩
      rw [putR, zw_at g1 g2, ptsD, ptsD, List.map_append]; rfl
    · rintro acc ρ ⟨rfl, rfl⟩
      rw [zip2_len, List.length_map, List.length_map, a3, Nat.min_self, List.take_of_length_le (by rw [putR, List.length_zipWith, a3]; omega)]
      dsimp only [restoR, wipeR, List.set_cons_zero, List.set_cons_succ, List.getElem?_cons_zero, List.getElem?_cons_succ]
      mstart
      have lput : (putR cur af1 r.2).length ≤ 6 := by rw [putR, List.length_zipWith, a3]; omega
      refine ⟨fun j acc ρ => ρ = [.va (pt ws), .va (.tup (ptsD pts)), .va (.lst (rowD row)), .va (.lst (ptsD (putR cur af1 r.2))), .va (.tup (r.1.map lpD)), .va (.int r.2), .va (.lst (lsD af1)), .un, .un, .un] ∧ acc = lsD (((putR cur af1 r.2).map (roundL ws)).take j), ⟨rfl, by simp⟩, ?_, ?_⟩
      · rintro j x acc ρ hx ⟨rfl, rfl⟩
        obtain ⟨p, g1, rfl⟩ := pts_get hx
        have hj := get_lt g1
        have lp : p.length = ws.length := by
          obtain ⟨u, v, hu, hv, rfl⟩ := zw_mem (List.mem_of_getElem? g1)
          rw [putL, putL, List.length_zipWith, List.length_zipWith, H1.s u hu, a2 v hv]; omega
        refine ⟨_, if_pos ⟨by simp, rfl⟩, ?_⟩
        dsimp only [List.set_cons_zero, List.set_cons_succ]
        mstart
        all_goals (try (refine ⟨by rw [List.length_map, List.length_take, List.length_map]; omega, ?_⟩; mstart))
        refine roundx_w Y.w (by omega) lp ?_
        mexfalso
        mstart
        rw [List.take_add_one, List.getElem?_map, g1, lsD, lsD, List.map_append]; rfl
      · rintro acc ρ ⟨rfl, rfl⟩
        rw [List.length_map, List.take_of_length_le (by rw [List.length_map]; exact Nat.le_refl _), eR]
        dsimp only [restoR, wipeR, List.set_cons_zero, List.set_cons_succ, List.getElem?_cons_zero, List.getElem?_cons_succ]
        mstart
        refine ⟨.va (.tup (r.1.map lpD)), .va (.int r.2), .va (.lst (lsD af1)), rfl, rfl, rfl, ?_⟩
        rw [esnoc]
  · rintro ρ ⟨s4, s5, s6, i4, i5, i6, rfl⟩
    have H1 := here_row (row := row) hM0 H hr
    have hc := H1.l
    rw [List.length_map, List.take_length]
    mstart
    refine ⟨fun i acc ρ => ρ = [.va (pt ws), .va (.tup (ptsD pts)), .va (.lst (rowD row)), .va (.lst (lsD (rowP ws pts row))), s4, s5, s6, .un, .un, .un] ∧ acc = ptsD ((rowP ws pts row).take i), ⟨rfl, by simp⟩, ?_, ?_⟩
    · rintro i x acc ρ hx ⟨rfl, rfl⟩
      obtain ⟨p, e2, rfl⟩ := ls_get hx
      have hi := get_lt e2
      refine ⟨_, if_pos ⟨by simp, rfl⟩, ?_⟩
      dsimp only [List.set_cons_zero, List.set_cons_succ]
      mstart
      all_goals (try (refine ⟨by rw [List.length_map, List.length_take]; omega, ?_⟩; mstart))
      rw [List.take_add_one, e2, ptsD, ptsD, List.map_append]; rfl
    · rintro acc ρ ⟨rfl, rfl⟩
      rw [List.length_map, List.take_length]
      dsimp only [restoR, wipeR, List.set_cons_zero, List.set_cons_succ, List.getElem?_cons_zero, List.getElem?_cons_succ]
      mstart
      exact h
end K4

namespace DL
open PySem L2 PyProof.Rows
theorem wRepF {ρ : Rho} {a b : M Rs} {Q : Rs → Rho → Prop} {E : Exn → Rho → Prop} (h : RW (a ρ) (fun x ρ1 => RW (b ρ1) (fun y ρ2 => ∃ xs k, x = .fr xs ∧ rd ρ2 y = some (.int k) ∧ (0 ≤ k ∧ k ≤ 1000 ∧ xs.length ≤ 1000) ∧ Q (.fr (List.replicate k.toNat xs).flatten) ρ2) E) E) : RW (mRepF a b ρ) Q E := by
  refine RW_bnd (h.mono (fun x ρ1 h => RW_bnd (h.mono (fun y ρ2 h => ?_) fun _ _ z => z)) fun _ _ z => z)
  obtain ⟨xs, k, rfl, e2, e3, q⟩ := h
  rw [e2]; simp only [if_pos e3]; exact q
end DL
namespace K4
open PySem L2 PyProof.Rows DL
local macro_rules | `(tactic| mconstructor) => `(tactic| first | exact .inl rfl | exact .inr (.inl rfl) | exact .inr rfl | exact .inr (.inr rfl))
local macro_rules | `(tactic| mpure_intro) => `(tactic| (simp only [cxOf, envOfC, Cx.blk, compEnvC, relab_eq]; decide +kernel))
local macro_rules | `(tactic| mleft) => `(tactic| first | with_reducible refine wSeq ?_ | with_reducible refine wRet ?_ | with_reducible refine wSet ?_ | with_reducible refine wNext ?_ | with_reducible refine wBin ?_ | with_reducible refine wC ?_ | with_reducible refine wCons ?_ | with_reducible refine wNil ?_ | with_reducible refine wTv ?_ | with_reducible refine wUn ?_ | with_reducible refine wBi ?_ | with_reducible refine wLst ?_ | with_reducible refine wTup ?_ | with_reducible refine wNot ?_ | with_reducible refine wNotV ?_ | with_reducible refine wTrue ?_ | with_reducible refine wAnd ?_ | with_reducible refine wOr ?_ | with_reducible refine wIf ?_ | with_reducible refine wIte ?_ | with_reducible refine wAndV ?_ | with_reducible refine wOrV ?_ | with_reducible refine wChain ?_ | with_reducible refine wSl ?_ | with_reducible refine wPN ?_ | with_reducible refine wPS ?_ | with_reducible refine wExpr ?_ | with_reducible refine wRaise ?_ | with_reducible refine wIter ?_ | with_reducible refine wRng ?_ | with_reducible refine wSeqs ?_ | with_reducible refine wCall ?_ | with_reducible refine wSetIx rfl ?_ | with_reducible refine wApp rfl ?_ | with_reducible refine wUnp ?_ | with_reducible refine wFor ?_ | with_reducible refine wComp ?_ | with_reducible refine wFrz ?_ | with_reducible refine wV rfl ?_ | with_reducible refine wVo rfl ?_)
local macro_rules | `(tactic| massumption) => `(tactic| first | decide | omega | assumption | exact cmul 100 100 (by omega) (by omega) (by decide))
local macro_rules | `(tactic| mright) => `(tactic| first | ((with_reducible refine And.intro (a := (_ && _) = true) ?_ ?_); (focus ((try dsimp only [soft, List.map_cons, List.map_nil, toArg, List.getElem?_cons_zero, List.getElem?_cons_succ]); first | rfl | (simp [alNd, pos?, argOk]; done))); (try dsimp only [soft, List.map_cons, List.map_nil, toArg, List.getElem?_cons_zero, List.getElem?_cons_succ])) | ((with_reducible refine And.intro (a := _ < _) ?_ ?_); focus (first | omega | (simp; omega))) | ((with_reducible show And _ _); first | refine ⟨fun z => absurd z (by decide), fun _ => ?_⟩ | refine ⟨fun _ => ?_, fun z => absurd z (by decide)⟩) | ((with_reducible show Exists _); first | refine ⟨_, _, _, rfl, rfl, mod_ok (by massumption), ?_⟩ | refine ⟨_, _, _, rfl, rfl, mul_ok (by massumption), ?_⟩ | refine ⟨_, _, _, rfl, rfl, div_ok (by massumption), ?_⟩ | (refine ⟨_, _, _, rfl, rfl, pow_ok (by decide), ?_⟩; simp only [Int.reduceToNat, Int.reducePow]) | refine ⟨_, _, _, rfl, rfl, rfl, ?_⟩ | refine ⟨_, _, _, rfl, rfl, ix_ok (by assumption), ?_⟩ | refine ⟨_, _, _, rfl, rfl, ixt_ok (by assumption), ?_⟩ | (refine ⟨_, _, _, _, rfl, rfl, rfl, ?_⟩; (try dsimp only [Int.reduceToNat, List.set_cons_zero, List.set_cons_succ])) | refine ⟨_, _, _, _, rfl, rfl, (by first | massumption | (simp; omega)), ?_⟩ | refine ⟨_, _, _, rfl, rfl, ?_⟩ | refine ⟨_, _, rfl, rng_ok (by omega) (by omega), ?_⟩ | refine ⟨_, rfl, ?_⟩ | refine ⟨_, _, rfl, rfl, ?_⟩ | refine ⟨_, _, rfl, (by first | decide | (simp; done)), ?_⟩ | refine ⟨_, _, rfl, ?_⟩))
local macro_rules | `(tactic| mstop) => `(tactic| first | ((with_reducible refine wsv ?_ ?_ ?_); (focus (simp; done)); (focus (first | rfl | assumption | (rw [upd1_none (by rfl)]; assumption))); dsimp only [List.set_cons_zero, List.set_cons_succ]) | ((with_reducible refine wsf ?_ ?_ ?_); (focus (simp; done)); (focus (first | rfl | assumption | (rw [upd1_none (by rfl)]; assumption))); dsimp only [List.set_cons_zero, List.set_cons_succ]))
local macro_rules | `(tactic| mexfalso) => `(tactic| (refine ⟨trivial, ?_⟩; simp only [backC, upd1_va, upd1_un, upd1_v1, upd1_v2, upd1_v3, upd1_v4, upd1_ow, upd1_none, pos?, if_true, if_false, reduceIte, Option.map_some, Option.map_none, Nat.reduceAdd, Nat.reduceEqDiff, List.getElem?_cons_zero, List.getElem?_cons_succ, List.set_cons_zero, List.set_cons_succ]))
local macro_rules | `(tactic| mstart) => `(tactic| repeat (first | mleft | mright | mstop))
local macro_rules | `(tactic| mleave) => `(tactic| (refine ⟨trivial, ?_⟩; simp only [soft_va, soft_fr, soft_al, backC, upd1_va, upd1_un, upd1_v1, upd1_v2, upd1_v3, upd1_v4, upd1_ow, upd1_none, pos_va, pos_al, pos_nil, if_true, if_false, reduceIte, Option.map_some, Option.map_none, Nat.reduceAdd, Nat.reduceEqDiff, List.getElem?_cons_zero, List.getElem?_cons_succ, List.set_cons_zero, List.set_cons_succ]))
theorem steadyF_of {n : Nat} {L : List (Int × Int)} (hg : GoodL n L) (h : St n L) : SteadyF L := by
  intro f k
  by_cases hk : k < n
  · exact steady_all hg h f k hk
  · rw [af_out hg (by omega), af_out hg (by omega)]; omega
theorem rep_aft {ws : List Int} {L : List (Int × Int)} : ∀ {t : Nat} {pts : List (List Int)}, rowP ws pts (List.replicate t (L, 1)) = aftN ws t pts L
  | 0, _ => rfl
  | t + 1, pts => by
    rw [List.replicate_succ]
    show rowP ws (runP ws pts (L, 1)) (List.replicate t (L, 1)) = aftN ws t (aft ws pts L) L
    rw [rep_aft]; rfl
/-- done of a steady run is done one by one -/
theorem due_eq {M n : Nat} {N : Int} {ws ps : List Int} {pts : List (List Int)} {L : List (Int × Int)} {t : Int} (hM : 35 ≤ M) (H : Here2 M ws n ps pts) (R : RunY n ps (L, t)) (hs : St n L) : rowP ws pts [(L, t)] = rowP ws pts (List.replicate t.toNat (L, 1)) := by
  rw [rep_aft]
  have t1 := R.t1
  exact (aftN_run (r := (L, t)) hM H R (by show ((t.toNat : Nat) : Int) = t; have : 1 ≤ t := t1; omega) (.inr (steadyF_of (R.g.g rfl) hs))).symm
end K4

namespace K4
open PySem L2 PyProof.Rows DL
local macro_rules | `(tactic| mconstructor) => `(tactic| first | exact .inl rfl | exact .inr (.inl rfl) | exact .inr rfl | exact .inr (.inr rfl))
local macro_rules | `(tactic| mpure_intro) => `(tactic| (simp only [cxOf, envOfC, Cx.blk, compEnvC, relab_eq]; decide +kernel))
local macro_rules | `(tactic| mleft) => `(tactic| first | with_reducible refine wSeq ?_ | with_reducible refine wRet ?_ | with_reducible refine wSet ?_ | with_reducible refine wNext ?_ | with_reducible refine wBin ?_ | with_reducible refine wC ?_ | with_reducible refine wCons ?_ | with_reducible refine wNil ?_ | with_reducible refine wTv ?_ | with_reducible refine wUn ?_ | with_reducible refine wBi ?_ | with_reducible refine wLst ?_ | with_reducible refine wTup ?_ | with_reducible refine wNot ?_ | with_reducible refine wNotV ?_ | with_reducible refine wTrue ?_ | with_reducible refine wAnd ?_ | with_reducible refine wOr ?_ | with_reducible refine wIf ?_ | with_reducible refine wIte ?_ | with_reducible refine wAndV ?_ | with_reducible refine wOrV ?_ | with_reducible refine wChain ?_ | with_reducible refine wSl ?_ | with_reducible refine wPN ?_ | with_reducible refine wPS ?_ | with_reducible refine wExpr ?_ | with_reducible refine wRaise ?_ | with_reducible refine wIter ?_ | with_reducible refine wRng ?_ | with_reducible refine wSeqs ?_ | with_reducible refine wCall ?_ | with_reducible refine wSetIx rfl ?_ | with_reducible refine wApp rfl ?_ | with_reducible refine wUnp ?_ | with_reducible refine wFor ?_ | with_reducible refine wComp ?_ | with_reducible refine wFrz ?_ | with_reducible refine wV rfl ?_ | with_reducible refine wVo rfl ?_)
local macro_rules | `(tactic| massumption) => `(tactic| first | decide | omega | assumption | exact cmul 100 100 (by omega) (by omega) (by decide))
local macro_rules | `(tactic| mright) => `(tactic| first | ((with_reducible refine And.intro (a := (_ && _) = true) ?_ ?_); (focus ((try dsimp only [soft, List.map_cons, List.map_nil, toArg, List.getElem?_cons_zero, List.getElem?_cons_succ]); first | rfl | (simp [alNd, pos?, argOk]; done))); (try dsimp only [soft, List.map_cons, List.map_nil, toArg, List.getElem?_cons_zero, List.getElem?_cons_succ])) | ((with_reducible refine And.intro (a := _ < _) ?_ ?_); focus (first | omega | (simp; omega))) | ((with_reducible show And _ _); first | refine ⟨fun z => absurd z (by decide), fun _ => ?_⟩ | refine ⟨fun _ => ?_, fun z => absurd z (by decide)⟩) | ((with_reducible show Exists _); first | refine ⟨_, _, _, rfl, rfl, mod_ok (by massumption), ?_⟩ | refine ⟨_, _, _, rfl, rfl, mul_ok (by massumption), ?_⟩ | refine ⟨_, _, _, rfl, rfl, div_ok (by massumption), ?_⟩ | (refine ⟨_, _, _, rfl, rfl, pow_ok (by decide), ?_⟩; simp only [Int.reduceToNat, Int.reducePow]) | refine ⟨_, _, _, rfl, rfl, rfl, ?_⟩ | refine ⟨_, _, _, rfl, rfl, ix_ok (by assumption), ?_⟩ | refine ⟨_, _, _, rfl, rfl, ixt_ok (by assumption), ?_⟩ | (refine ⟨_, _, _, _, rfl, rfl, rfl, ?_⟩; (try dsimp only [Int.reduceToNat, List.set_cons_zero, List.set_cons_succ])) | refine ⟨_, _, _, _, rfl, rfl, (by first | massumption | (simp; omega)), ?_⟩ | refine ⟨_, _, _, rfl, rfl, ?_⟩ | refine ⟨_, _, rfl, rng_ok (by omega) (by omega), ?_⟩ | refine ⟨_, rfl, ?_⟩ | refine ⟨_, _, rfl, rfl, ?_⟩ | refine ⟨_, _, rfl, (by first | decide | (simp; done)), ?_⟩ | refine ⟨_, _, rfl, ?_⟩))
local macro_rules | `(tactic| mstop) => `(tactic| first | ((with_reducible refine wsv ?_ ?_ ?_); (focus (simp; done)); (focus (first | rfl | assumption | (rw [upd1_none (by rfl)]; assumption))); dsimp only [List.set_cons_zero, List.set_cons_succ]) | ((with_reducible refine wsf ?_ ?_ ?_); (focus (simp; done)); (focus (first | rfl | assumption | (rw [upd1_none (by rfl)]; assumption))); dsimp only [List.set_cons_zero, List.set_cons_succ]))
local macro_rules | `(tactic| mexfalso) => `(tactic| (refine ⟨trivial, ?_⟩; simp only [backC, upd1_va, upd1_un, upd1_v1, upd1_v2, upd1_v3, upd1_v4, upd1_ow, upd1_none, pos?, if_true, if_false, reduceIte, Option.map_some, Option.map_none, Nat.reduceAdd, Nat.reduceEqDiff, List.getElem?_cons_zero, List.getElem?_cons_succ, List.set_cons_zero, List.set_cons_succ]))
local macro_rules | `(tactic| mstart) => `(tactic| repeat (first | mleft | mright | mstop))
local macro_rules | `(tactic| mleave) => `(tactic| (refine ⟨trivial, ?_⟩; simp only [soft_va, soft_fr, soft_al, backC, upd1_va, upd1_un, upd1_v1, upd1_v2, upd1_v3, upd1_v4, upd1_ow, upd1_none, pos_va, pos_al, pos_nil, if_true, if_false, reduceIte, Option.map_some, Option.map_none, Nat.reduceAdd, Nat.reduceEqDiff, List.getElem?_cons_zero, List.getElem?_cons_succ, List.set_cons_zero, List.set_cons_succ]))
variable {Q : Rs → Rho → Prop} {E : Exn → Rho → Prop}
def NI (s : Sl) : Prop := isIo (some s) = false
theorem ne_bl {a : Bool} : neD (.bl a) (.bl a) = some (.va (.bl false)) := by
  cases a <;> rfl
theorem isi_bl {a : Bool} : isiE CL KS [.bl a, .ty "bool"] = some (.va (.bl true)) := isi_ty (t := "bool") rfl (by decide +kernel)
theorem eqv_pts : ∀ {ps : List (List Int)}, DL.D.eqvs (ptsD ps) (ptsD ps) = true
  | [] => rfl
  | p :: ps => by simp only [ptsD, List.map_cons, DL.D.eqvs, DL.D.eqv, eqv_ints]; simpa using eqv_pts (ps := ps)
theorem fine_pts {n : Nat} : ∀ {ps : List (List Int)}, DL.D.fines (n + 1) (ptsD ps) = true
  | [] => rfl
  | p :: ps => by simp only [ptsD, List.map_cons, DL.D.fines, DL.D.fine, fine_ints]; simpa using fine_pts (ps := ps)
theorem ne_pts {ps : List (List Int)} : neD (.tup (ptsD ps)) (.tup (ptsD ps)) = some (.va (.bl false)) := by
  unfold neD
  rw [if_pos (by rw [Bool.and_eq_true]; exact ⟨fine_pts, fine_pts⟩)]
  show some (Rs.va (.bl (!DL.D.eqvs (ptsD ps) (ptsD ps)))) = _
  rw [eqv_pts]; rfl
theorem PtOk.up {B C : Int} (h : B ≤ C) : ∀ {ws p : List Int}, PtOk B ws p → PtOk C ws p
  | [], [], _ => trivial
  | w :: ws, x :: xs, q => ⟨q.1.elim (fun z => .inl ⟨z.1, by omega, by omega⟩) .inr, PtOk.up h q.2⟩
  | [], _ :: _, q => q.elim
  | _ :: _, [], q => q.elim
theorem here_of {N : Int} {n : Nat} {ws ps : List Int} {pts : List (List Int)} (Y : YardOk ws N ps) (hN : N = n) (hl : (pts.length : Int) = N) (h : StOk 1000000000000 ws pts) : Here2 40 ws n ps pts := by
  refine ⟨by rw [← hN]; exact Y, by omega, fun p hp => (h p hp).up (by decide), fun p hp x hx => ?_, fun p hp => (h p hp).len⟩
  obtain ⟨c, hc⟩ := List.mem_iff_getElem?.mp hx
  have hp2 := h p hp
  obtain ⟨w, hw, hm⟩ := get_of (show c < ws.length by rw [← hp2.len]; exact get_lt hc)
  have hx2 := hp2.at hw hc
  have hw2 := Y.w w hm
  have e : (2 : Nat) ^ 40 = 1099511627776 := by decide
  rcases hx2 with z | z <;> omega
theorem ne_st {c : Bool} : neD (if c = true then .non else .tup [.str "steady", .int 0]) (if c = true then .non else .tup [.str "steady", .int 0]) = some (.va (.bl false)) := by
  cases c
  · have f : DL.D.fine 60 (.tup [.str "steady", .int 0]) = true := by decide +kernel
    have e : DL.D.eqv (.tup [.str "steady", .int 0]) (.tup [.str "steady", .int 0]) = true := by decide +kernel
    show neD (.tup [.str "steady", .int 0]) (.tup [.str "steady", .int 0]) = _
    unfold neD
    rw [f, e]
    rfl
  · rfl
theorem rep_one {t : Nat} {L : List (Int × Int)} : (List.replicate t [runD (L, 1)]).flatten = rowD (List.replicate t (L, 1)) := by
  induction t with
  | zero => rfl
  | succ t ih => rw [List.replicate_succ, List.flatten_cons, ih, List.replicate_succ, rowD, rowD, List.map_cons]; rfl
theorem forty_ok {N : Int} {m : Nat} {L : List (Int × Int)} (hm : 1 ≤ m) (h : GL N L) : GL N ((List.replicate m L).flatten.take 40) := by
  obtain ⟨l1, l40, lg⟩ := h
  have hlen : ((List.replicate m L).flatten).length = m * L.length := by simp
  have hp : 0 < m * L.length := Nat.mul_pos hm l1
  refine ⟨by rw [List.length_take, hlen]; omega, by rw [List.length_take]; omega, fun l hl => ?_⟩
  have hl := List.mem_of_mem_take hl
  simp only [List.mem_flatten, List.mem_replicate] at hl
  obtain ⟨y, ⟨_, rfl⟩, hy⟩ := hl
  exact lg l hy
/-- one turn of the law -/
theorem turn_w {ns : List Int} {q d c k N : Int} {n : Nat} {b : Bool} {ws : List Int} {s4 s5 s6 s7 s8 s9 s10 s11 : Sl} {N' : Rho → Prop} {R' : Rs → Rho → Prop} {B C : Rho → Prop} {E : Exn → Rho → Prop} (Y : YardOk ws N []) (hN : N = n) (hk : 0 ≤ k) (hk2 : k < 30000) (i4 : NI s4) (i5 : NI s5) (i6 : NI s6) (i7 : NI s7) (i8 : NI s8) (i9 : NI s9) (i10 : NI s10) (i11 : NI s11)
    (h : ∀ (L : List (Int × Int)) (d' k' : Int) (t6 t7 t8 t9 t10 t11 : Sl), GL N L → 0 ≤ k' → k' ≤ k + 2000 → NI t6 → NI t7 → NI t8 → NI t9 → NI t10 → NI t11 → N' [.va (.lst (ns.map .int)), .va (.int q), .ow false [.int d', .int c, .int k', .bl b], .va (yd ws N []), s4, .va (.tup (L.map lpD)), t6, t7, t8, t9, t10, t11]) :
    OW ((nSeq (nSet 5 (mCall 2 m__law_some_leaps (mCons (mV 2) (mCons (mV 3) mNil))))
    (nSeq (nSet 6 (mCall 2 m__law_steady (mCons (mBin ixD (mV 3) (mC (.int 1))) (mCons (mV 5) mNil))))
    (nSeq (nSet 7 (mCall 2 m_is_steady (mCons (mBin ixD (mV 3) (mC (.int 1))) (mCons (mV 5) mNil))))
    (nSeq (nIf (mOr (mNot (mTv (mBi (isiE CL KS) (mCons (mV 7) (mCons (mC (.ty "bool")) mNil))))) (mOr (mTv (mBin neD (mV 7) (mV 6))) (mTv (mBin neD (mCall 2 m_is_steady (mCons (mC (.int 6)) (mCons (mV 5) mNil))) (mV 6))))) (nRet (mC (.bl false))) nNext)
    (nSeq (nSet 8 (mSl (mBin mulTD (mV 5) (mC (.int 40))) mPN (mPS (mC (.int 40)))))
    (nSeq (nIf (mTv (mBin neD (mCall 2 m_is_steady (mCons (mBin ixD (mV 3) (mC (.int 1))) (mCons (mV 8) mNil))) (mCall 2 m__law_steady (mCons (mBin ixD (mV 3) (mC (.int 1))) (mCons (mV 8) mNil))))) (nRet (mC (.bl false))) nNext)
    (nSeq (nSet 9 (mBin addD (mC (.int 2)) (mCall 2 m__law_take (mCons (mV 2) (mCons (mC (.int 3)) mNil)))))
    (nSeq (nIf (mTv (mBin neD (mCall 2 m_row_wrong (mCons (mV 3) (mCons (mLst (mCons (mTup (mCons (mV 5) (mCons (mV 9) mNil))) mNil)) mNil))) (mBin ixD (mLst (mCons (mTup (mCons (mC (.str "steady")) (mCons (mC (.int 0)) mNil))) (mCons (mC .non) mNil))) (mBi (intD) (mCons (mV 6) mNil))))) (nRet (mC (.bl false))) nNext)
    (nSeq (nSet 10 (mCall 3 m__law_standing (mCons (mV 2) (mCons (mBin ixD (mV 3) (mC (.int 0))) (mCons (mBin ixD (mV 3) (mC (.int 1))) mNil)))))
    (nSeq (nSet 11 (mCall 3 m__law_done (mCons (mBin ixD (mV 3) (mC (.int 0))) (mCons (mFrz (mV 10)) (mCons (mRepF (mLst (mCons (mTup (mCons (mV 5) (mCons (mC (.int 1)) mNil))) mNil)) (mV 9)) mNil)))))
    (nIf (mAnd (mTv (mV 6)) (mTv (mBin neD (mCall 3 m_done (mCons (mV 3) (mCons (mFrz (mV 10)) (mCons (mLst (mCons (mTup (mCons (mV 5) (mCons (mV 9) mNil))) mNil)) mNil)))) (mV 11)))) (nRet (mC (.bl false))) nNext))))))))))) [.va (.lst (ns.map .int)), .va (.int q), .ow false [.int d, .int c, .int k, .bl b], .va (yd ws N []), s4, s5, s6, s7, s8, s9, s10, s11]) N' R' B C E := by
  have n2 := Y.n2
  have n6 := Y.n6
  with_reducible refine wSeq ?_
  with_reducible refine wSet ?_
  with_reducible refine wCall ?_
  repeat mleft
  refine ⟨by rfl, ?_⟩
  refine someLeaps_w Y hN hk (by omega) fun L d1 k1 gl a1 a2 => ?_
  obtain ⟨l1, l40, lg⟩ := gl
  mleave
  refine wsv (by simp) i5 ?_
  dsimp only [List.set_cons_zero, List.set_cons_succ]
  with_reducible refine wSeq ?_
  with_reducible refine wSet ?_
  with_reducible refine wCall ?_
  repeat (first | mleft | mright)
  refine lawSteady_w hN (by omega) (by omega) l40 (lg.g hN) ?_
  mleave
  refine wsv (by simp) i6 ?_
  dsimp only [List.set_cons_zero, List.set_cons_succ]
  with_reducible refine wSeq ?_
  with_reducible refine wSet ?_
  with_reducible refine wCall ?_
  repeat (first | mleft | mright)
  refine steady_w hN (by omega) (by omega) l1 l40 lg ?_
  mleave
  refine wsv (by simp) i7 ?_
  dsimp only [List.set_cons_zero, List.set_cons_succ]
  with_reducible refine wSeq ?_
  with_reducible refine wIf ?_
  with_reducible refine wOr ?_
  with_reducible refine wNot ?_
  with_reducible refine wTv ?_
  with_reducible refine wBi ?_
  repeat mleft
  refine ⟨_, _, rfl, isi_bl, ?_⟩
  refine ⟨_, rfl, ?_⟩
  refine ⟨fun z => absurd z (by decide), fun _ => ?_⟩
  with_reducible refine wOr ?_
  with_reducible refine wTv ?_
  with_reducible refine wBin ?_
  repeat mleft
  refine ⟨_, _, _, rfl, rfl, ne_bl, ?_⟩
  refine ⟨_, rfl, fun z => absurd z (by decide), fun _ => ?_⟩
  with_reducible refine wTv ?_
  with_reducible refine wBin ?_
  with_reducible refine wCall ?_
  repeat (first | mleft | mright)
  refine steady_w (n := 6) (N := 6) rfl (by decide) (by decide) l1 l40 (fun l hl => by
    obtain ⟨x1, x2, x3, x4, x5, x6⟩ := lg l hl
    exact ⟨x1, by omega, x3, by omega, x5, x6⟩) ?_
  mleave
  repeat mleft
  rw [← stB_more (lg.g hN) (show n ≤ 6 by omega)]
  refine ⟨_, _, _, rfl, rfl, ne_bl, ?_⟩
  refine ⟨_, rfl, fun z => absurd z (by decide), fun _ => ?_⟩
  with_reducible refine wNext ?_
  -- forty
  have gF := forty_ok (m := 40) (by decide) ⟨l1, l40, lg⟩
  generalize hF : (List.replicate 40 L).flatten = F at *
  with_reducible refine wSeq ?_
  with_reducible refine wSet ?_
  with_reducible refine wSl ?_
  with_reducible refine wBin ?_
  repeat mleft
  have hmul := mulT_ok (m := 40) (L := L) (by decide) (by decide) l1 (by omega)
  rw [show (Int.toNat 40) = 40 from rfl, hF] at hmul
  refine ⟨_, _, _, rfl, rfl, hmul, ?_⟩
  repeat (first | mleft | mright)
  rw [cut_to (by decide), show (Int.toNat 40) = 40 from rfl, ← List.map_take]
  generalize F.take 40 = G at *
  clear hmul hF
  obtain ⟨g1, g40, gg⟩ := gF
  refine wsv (by simp) i8 ?_
  dsimp only [List.set_cons_zero, List.set_cons_succ]
  with_reducible refine wSeq ?_
  with_reducible refine wIf ?_
  with_reducible refine wTv ?_
  with_reducible refine wBin ?_
  with_reducible refine wCall ?_
  repeat (first | mleft | mright)
  refine steady_w hN (by omega) (by omega) g1 g40 gg ?_
  mleave
  with_reducible refine wCall ?_
  repeat (first | mleft | mright)
  refine lawSteady_w hN (by omega) (by omega) g40 (gg.g hN) ?_
  mleave
  refine ⟨_, _, _, rfl, rfl, ne_bl, ?_⟩
  refine ⟨_, rfl, fun z => absurd z (by decide), fun _ => ?_⟩
  with_reducible refine wNext ?_
  -- times
  with_reducible refine wSeq ?_
  with_reducible refine wSet ?_
  repeat (first | mleft | mright)
  refine take_w (by omega) (by omega) a1 (by omega) fun u d2 k2 b1 b2 b3 b4 => ?_
  mleave
  repeat (first | mleft | mright)
  refine wsv (by simp) i9 ?_
  dsimp only [List.set_cons_zero, List.set_cons_succ]
  -- row_wrong
  with_reducible refine wSeq ?_
  with_reducible refine wIf ?_
  with_reducible refine wTv ?_
  with_reducible refine wBin ?_
  with_reducible refine wCall ?_
  repeat (first | mleft | mright)
  refine rowWrong_w Y hN l1 l40 (by omega) lg ?_
  mleave
  have hx1 : atI [DL.D.tup [.str "steady", .int 0], .non] (if stB n L = true then 1 else 0) = some (if stB n L = true then .non else .tup [.str "steady", .int 0]) := by
    cases stB n L <;> rfl
  repeat (first | mleft | mright)
  refine ⟨_, _, _, rfl, rfl, ne_st, ?_⟩
  refine ⟨_, rfl, fun z => absurd z (by decide), fun _ => ?_⟩
  with_reducible refine wNext ?_
  -- the standing
  with_reducible refine wSeq ?_
  with_reducible refine wSet ?_
  with_reducible refine wCall ?_
  repeat (first | mleft | mright)
  refine standing_w Y.w Y.w0 Y.w3 (by omega) (by omega) b3 (by omega) fun pts d3 k3 p1 p2 p3 p4 => ?_
  mleave
  refine wsv (by simp) i10 ?_
  dsimp only [List.set_cons_zero, List.set_cons_succ]
  have H := here_of Y hN p1 p2
  -- one by one
  with_reducible refine wSeq ?_
  with_reducible refine wSet ?_
  with_reducible refine wCall ?_
  repeat (first | mleft | mright)
  with_reducible refine wRepF ?_
  repeat (first | mleft | mright)
  refine ⟨⟨by omega, by omega, by simp⟩, ?_⟩
  rw [show (List.replicate (2 + u).toNat [DL.D.tup [DL.D.tup (L.map lpD), DL.D.int 1]]).flatten = rowD (List.replicate (2 + u).toNat (L, 1)) from rep_one]
  have lgn : GoodY n [] L := by rw [← hN]; exact lg
  repeat (first | mleft | mright)
  refine lawDone_w (row := List.replicate (2 + u).toNat (L, 1)) hN (by decide) (by decide) H (by rw [List.length_replicate]; omega) (fun r hr => ?_) ?_
  · rw [List.eq_of_mem_replicate hr]
    exact ⟨l1, l40, by show (1 : Int) ≤ 1; decide, by show (1 : Int) < 2 ^ 40; decide, lgn, fun z => absurd z (by show ¬ (1 : Int) < 1; decide)⟩
  mleave
  refine wsv (by simp) i11 ?_
  dsimp only [List.set_cons_zero, List.set_cons_succ]
  -- where they are steady
  with_reducible refine wIf ?_
  with_reducible refine wAnd ?_
  with_reducible refine wTv ?_
  repeat mleft
  refine ⟨_, rfl, fun hc => ?_, fun hc => ?_⟩
  · have hst := stB_iff.mp hc
    have R : RunY n [] (L, 2 + u) := ⟨l1, l40, by show (1 : Int) ≤ 2 + u; omega, by show 2 + u < (2 : Int) ^ 40; omega, lgn, fun _ => hst⟩
    with_reducible refine wTv ?_
    with_reducible refine wBin ?_
    with_reducible refine wCall ?_
    repeat (first | mleft | mright)
    refine done_w (row := [(L, 2 + u)]) hN (by decide) (by decide) H (by simp) (fun r hr => by rw [List.mem_singleton.mp hr]; exact R) ?_
    rw [due_eq (N := N) (by decide) H R ((steady_iff (lg.g hN)).mp hst)]
    mleave
    repeat mleft
    refine ⟨_, _, _, rfl, rfl, ne_pts, ?_⟩
    refine ⟨_, rfl, fun z => absurd z (by decide), fun _ => ?_⟩
    with_reducible refine wNext ?_
    exact h L _ _ _ _ _ _ _ _ ⟨l1, l40, lg⟩ p3 (by omega) rfl rfl rfl rfl rfl rfl
  · refine ⟨fun z => absurd z (by decide), fun _ => ?_⟩
    with_reducible refine wNext ?_
    exact h L _ _ _ _ _ _ _ _ ⟨l1, l40, lg⟩ p3 (by omega) rfl rfl rfl rfl rfl rfl
end K4

namespace K4
open PySem L2 PyProof.Rows DL
local macro_rules | `(tactic| mconstructor) => `(tactic| first | exact .inl rfl | exact .inr (.inl rfl) | exact .inr rfl | exact .inr (.inr rfl))
local macro_rules | `(tactic| mpure_intro) => `(tactic| (simp only [cxOf, envOfC, Cx.blk, compEnvC, relab_eq]; decide +kernel))
local macro_rules | `(tactic| mleft) => `(tactic| first | with_reducible refine wSeq ?_ | with_reducible refine wRet ?_ | with_reducible refine wSet ?_ | with_reducible refine wNext ?_ | with_reducible refine wBin ?_ | with_reducible refine wC ?_ | with_reducible refine wCons ?_ | with_reducible refine wNil ?_ | with_reducible refine wTv ?_ | with_reducible refine wUn ?_ | with_reducible refine wBi ?_ | with_reducible refine wLst ?_ | with_reducible refine wTup ?_ | with_reducible refine wNot ?_ | with_reducible refine wNotV ?_ | with_reducible refine wTrue ?_ | with_reducible refine wAnd ?_ | with_reducible refine wOr ?_ | with_reducible refine wIf ?_ | with_reducible refine wIte ?_ | with_reducible refine wAndV ?_ | with_reducible refine wOrV ?_ | with_reducible refine wChain ?_ | with_reducible refine wSl ?_ | with_reducible refine wPN ?_ | with_reducible refine wPS ?_ | with_reducible refine wExpr ?_ | with_reducible refine wRaise ?_ | with_reducible refine wIter ?_ | with_reducible refine wRng ?_ | with_reducible refine wSeqs ?_ | with_reducible refine wCall ?_ | with_reducible refine wSetIx rfl ?_ | with_reducible refine wApp rfl ?_ | with_reducible refine wUnp ?_ | with_reducible refine wFor ?_ | with_reducible refine wComp ?_ | with_reducible refine wFrz ?_ | with_reducible refine wV rfl ?_ | with_reducible refine wVo rfl ?_)
local macro_rules | `(tactic| massumption) => `(tactic| first | decide | omega | assumption | exact cmul 100 100 (by omega) (by omega) (by decide))
local macro_rules | `(tactic| mright) => `(tactic| first | ((with_reducible refine And.intro (a := (_ && _) = true) ?_ ?_); (focus ((try dsimp only [soft, List.map_cons, List.map_nil, toArg, List.getElem?_cons_zero, List.getElem?_cons_succ]); first | rfl | (simp [alNd, pos?, argOk]; done))); (try dsimp only [soft, List.map_cons, List.map_nil, toArg, List.getElem?_cons_zero, List.getElem?_cons_succ])) | ((with_reducible refine And.intro (a := _ < _) ?_ ?_); focus (first | omega | (simp; omega))) | ((with_reducible show And _ _); first | refine ⟨fun z => absurd z (by decide), fun _ => ?_⟩ | refine ⟨fun _ => ?_, fun z => absurd z (by decide)⟩) | ((with_reducible show Exists _); first | refine ⟨_, _, _, rfl, rfl, mod_ok (by massumption), ?_⟩ | refine ⟨_, _, _, rfl, rfl, mul_ok (by massumption), ?_⟩ | refine ⟨_, _, _, rfl, rfl, div_ok (by massumption), ?_⟩ | (refine ⟨_, _, _, rfl, rfl, pow_ok (by decide), ?_⟩; simp only [Int.reduceToNat, Int.reducePow]) | refine ⟨_, _, _, rfl, rfl, rfl, ?_⟩ | refine ⟨_, _, _, rfl, rfl, ix_ok (by assumption), ?_⟩ | refine ⟨_, _, _, rfl, rfl, ixt_ok (by assumption), ?_⟩ | (refine ⟨_, _, _, _, rfl, rfl, rfl, ?_⟩; (try dsimp only [Int.reduceToNat, List.set_cons_zero, List.set_cons_succ])) | refine ⟨_, _, _, _, rfl, rfl, (by first | massumption | (simp; omega)), ?_⟩ | refine ⟨_, _, _, rfl, rfl, ?_⟩ | refine ⟨_, _, rfl, rng_ok (by omega) (by omega), ?_⟩ | refine ⟨_, rfl, ?_⟩ | refine ⟨_, _, rfl, rfl, ?_⟩ | refine ⟨_, _, rfl, (by first | decide | (simp; done)), ?_⟩ | refine ⟨_, _, rfl, ?_⟩))
local macro_rules | `(tactic| mstop) => `(tactic| first | ((with_reducible refine wsv ?_ ?_ ?_); (focus (simp; done)); (focus (first | rfl | assumption | (rw [upd1_none (by rfl)]; assumption))); dsimp only [List.set_cons_zero, List.set_cons_succ]) | ((with_reducible refine wsf ?_ ?_ ?_); (focus (simp; done)); (focus (first | rfl | assumption | (rw [upd1_none (by rfl)]; assumption))); dsimp only [List.set_cons_zero, List.set_cons_succ]))
local macro_rules | `(tactic| mexfalso) => `(tactic| (refine ⟨trivial, ?_⟩; simp only [backC, upd1_va, upd1_un, upd1_v1, upd1_v2, upd1_v3, upd1_v4, upd1_ow, upd1_none, pos?, if_true, if_false, reduceIte, Option.map_some, Option.map_none, Nat.reduceAdd, Nat.reduceEqDiff, List.getElem?_cons_zero, List.getElem?_cons_succ, List.set_cons_zero, List.set_cons_succ]))
local macro_rules | `(tactic| mstart) => `(tactic| repeat (first | mleft | mright | mstop))
local macro_rules | `(tactic| mleave) => `(tactic| (refine ⟨trivial, ?_⟩; simp only [soft_va, soft_fr, soft_al, backC, upd1_va, upd1_un, upd1_v1, upd1_v2, upd1_v3, upd1_v4, upd1_ow, upd1_none, pos_va, pos_al, pos_nil, if_true, if_false, reduceIte, Option.map_some, Option.map_none, Nat.reduceAdd, Nat.reduceEqDiff, List.getElem?_cons_zero, List.getElem?_cons_succ, List.set_cons_zero, List.set_cons_succ]))
variable {Q : Rs → Rho → Prop} {E : Exn → Rho → Prop}
theorem pile_w {ns : List Int} {k : Int} (hk : 0 ≤ k) (hk2 : k < 1000) (hn : ns.length ≤ 63) (h : ∀ (d c : Int) (b : Bool), Q (.fr [.int d, .int c, .int (97 * k), .bl b]) [.va (.lst (ns.map .int)), .va (.int k)]) : RW (m__law_pile [.va (.lst (ns.map .int)), .va (.int k)]) Q E := by
  (refine wFun ?_; unfold n__law_pile; simp only [List.length_cons, List.length_nil, Nat.reduceAdd, Nat.reduceSub, List.replicate, List.cons_append, List.nil_append, Nat.zero_add])
  have fin : ∀ cell : Int, OW
      (nSeq (nSet 3 (mBin ixD (mLst (mCons (mC (.int 0)) (mCons (mBin modD (mV 2) (mBin mulD (mBin mulD (mBin powD (mC (.int 10)) (mC (.int 50))) (mBin powD (mC (.int 10)) (mC (.int 50)))) (mBin powD (mC (.int 10)) (mC (.int 50))))) mNil))) (mBi (DL.intD) (mCons (mBin geD (mBi (absD) (mCons (mV 2) mNil)) (mBin powD (mC (.int 10)) (mC (.int 18)))) mNil))))
        (nRet (mLst (mCons (mV 3) (mCons (mBin modD (mV 2) (mC (.int 2147483647))) (mCons (mBin mulD (mC (.int 97)) (mV 1)) (mCons (mBin ltD (mV 1) (mC (.int 2))) mNil)))))) [.va (.lst (ns.map .int)), .va (.int k), .va (.int cell), .un])
      (fun ρ => Q (Rs.va D.non) (backF [.va (.lst (ns.map .int)), .va (.int k)] ρ)) (fun r ρ => ∃ r', fin1 ρ r = some r' ∧ Q r' (backF [.va (.lst (ns.map .int)), .va (.int k)] ρ)) (fun _ => False) (fun _ => False) fun e ρ => E e (backF [.va (.lst (ns.map .int)), .va (.int k)] ρ) := fun cell => by
    obtain ⟨z, hx1, g1, g2⟩ := at2 (x := .int 0) (y := .int (cell % (100000000000000000000000000000000000000000000000000 * 100000000000000000000000000000000000000000000000000 * 100000000000000000000000000000000000000000000000000))) (decide (1000000000000000000 ≤ if cell < 0 then -cell else cell))
    obtain ⟨dg, rfl⟩ : ∃ dg, z = .int dg := by
      cases q : decide (1000000000000000000 ≤ if cell < 0 then -cell else cell) with
      | true => exact ⟨_, g1 q⟩
      | false => exact ⟨_, g2 q⟩
    mstart
    exact h _ _ _
  mstart
  refine ⟨fun q => ?_, fun q => ?_⟩
  · have q1 := of_decide_eq_true q
    rw [List.length_map] at q1
    obtain ⟨x, hx1, _, _⟩ := at_get hk q1
    with_reducible refine wSet ?_
    with_reducible refine wBin ?_
    repeat mleft
    refine ⟨_, _, _, rfl, rfl, ix_ok hx1, ?_⟩
    mstop
    exact fin x
  · exact wNext (fin 0)
end K4

namespace K4
open PySem L2 PyProof.Rows DL
local macro_rules | `(tactic| mconstructor) => `(tactic| first | exact .inl rfl | exact .inr (.inl rfl) | exact .inr rfl | exact .inr (.inr rfl))
local macro_rules | `(tactic| mpure_intro) => `(tactic| (simp only [cxOf, envOfC, Cx.blk, compEnvC, relab_eq]; decide +kernel))
local macro_rules | `(tactic| mleft) => `(tactic| first | with_reducible refine wSeq ?_ | with_reducible refine wRet ?_ | with_reducible refine wSet ?_ | with_reducible refine wNext ?_ | with_reducible refine wBin ?_ | with_reducible refine wC ?_ | with_reducible refine wCons ?_ | with_reducible refine wNil ?_ | with_reducible refine wTv ?_ | with_reducible refine wUn ?_ | with_reducible refine wBi ?_ | with_reducible refine wLst ?_ | with_reducible refine wTup ?_ | with_reducible refine wNot ?_ | with_reducible refine wNotV ?_ | with_reducible refine wTrue ?_ | with_reducible refine wAnd ?_ | with_reducible refine wOr ?_ | with_reducible refine wIf ?_ | with_reducible refine wIte ?_ | with_reducible refine wAndV ?_ | with_reducible refine wOrV ?_ | with_reducible refine wChain ?_ | with_reducible refine wSl ?_ | with_reducible refine wPN ?_ | with_reducible refine wPS ?_ | with_reducible refine wExpr ?_ | with_reducible refine wRaise ?_ | with_reducible refine wIter ?_ | with_reducible refine wRng ?_ | with_reducible refine wSeqs ?_ | with_reducible refine wCall ?_ | with_reducible refine wSetIx rfl ?_ | with_reducible refine wApp rfl ?_ | with_reducible refine wUnp ?_ | with_reducible refine wFor ?_ | with_reducible refine wComp ?_ | with_reducible refine wFrz ?_ | with_reducible refine wV rfl ?_ | with_reducible refine wVo rfl ?_)
local macro_rules | `(tactic| massumption) => `(tactic| first | decide | omega | assumption | exact cmul 100 100 (by omega) (by omega) (by decide))
local macro_rules | `(tactic| mright) => `(tactic| first | ((with_reducible refine And.intro (a := (_ && _) = true) ?_ ?_); (focus ((try dsimp only [soft, List.map_cons, List.map_nil, toArg, List.getElem?_cons_zero, List.getElem?_cons_succ]); first | rfl | (simp [alNd, pos?, argOk]; done))); (try dsimp only [soft, List.map_cons, List.map_nil, toArg, List.getElem?_cons_zero, List.getElem?_cons_succ])) | ((with_reducible refine And.intro (a := _ < _) ?_ ?_); focus (first | omega | (simp; omega))) | ((with_reducible show And _ _); first | refine ⟨fun z => absurd z (by decide), fun _ => ?_⟩ | refine ⟨fun _ => ?_, fun z => absurd z (by decide)⟩) | ((with_reducible show Exists _); first | refine ⟨_, _, _, rfl, rfl, mod_ok (by massumption), ?_⟩ | refine ⟨_, _, _, rfl, rfl, mul_ok (by massumption), ?_⟩ | refine ⟨_, _, _, rfl, rfl, div_ok (by massumption), ?_⟩ | (refine ⟨_, _, _, rfl, rfl, pow_ok (by decide), ?_⟩; simp only [Int.reduceToNat, Int.reducePow]) | refine ⟨_, _, _, rfl, rfl, rfl, ?_⟩ | refine ⟨_, _, _, rfl, rfl, ix_ok (by assumption), ?_⟩ | refine ⟨_, _, _, rfl, rfl, ixt_ok (by assumption), ?_⟩ | (refine ⟨_, _, _, _, rfl, rfl, rfl, ?_⟩; (try dsimp only [Int.reduceToNat, List.set_cons_zero, List.set_cons_succ])) | refine ⟨_, _, _, _, rfl, rfl, (by first | massumption | (simp; omega)), ?_⟩ | refine ⟨_, _, _, rfl, rfl, ?_⟩ | refine ⟨_, _, rfl, rng_ok (by omega) (by omega), ?_⟩ | refine ⟨_, rfl, ?_⟩ | refine ⟨_, _, rfl, rfl, ?_⟩ | refine ⟨_, _, rfl, (by first | decide | (simp; done)), ?_⟩ | refine ⟨_, _, rfl, ?_⟩))
local macro_rules | `(tactic| mstop) => `(tactic| first | ((with_reducible refine wsv ?_ ?_ ?_); (focus (simp; done)); (focus (first | rfl | assumption | (rw [upd1_none (by rfl)]; assumption))); dsimp only [List.set_cons_zero, List.set_cons_succ]) | ((with_reducible refine wsf ?_ ?_ ?_); (focus (simp; done)); (focus (first | rfl | assumption | (rw [upd1_none (by rfl)]; assumption))); dsimp only [List.set_cons_zero, List.set_cons_succ]))
local macro_rules | `(tactic| mexfalso) => `(tactic| (refine ⟨trivial, ?_⟩; simp only [backC, upd1_va, upd1_un, upd1_v1, upd1_v2, upd1_v3, upd1_v4, upd1_ow, upd1_none, pos?, if_true, if_false, reduceIte, Option.map_some, Option.map_none, Nat.reduceAdd, Nat.reduceEqDiff, List.getElem?_cons_zero, List.getElem?_cons_succ, List.set_cons_zero, List.set_cons_succ]))
local macro_rules | `(tactic| mstart) => `(tactic| repeat (first | mleft | mright | mstop))
local macro_rules | `(tactic| mleave) => `(tactic| (refine ⟨trivial, ?_⟩; simp only [soft_va, soft_fr, soft_al, backC, upd1_va, upd1_un, upd1_v1, upd1_v2, upd1_v3, upd1_v4, upd1_ow, upd1_none, pos_va, pos_al, pos_nil, if_true, if_false, reduceIte, Option.map_some, Option.map_none, Nat.reduceAdd, Nat.reduceEqDiff, List.getElem?_cons_zero, List.getElem?_cons_succ, List.set_cons_zero, List.set_cons_succ]))
/-- behind the three turns -/
theorem last_w {ns : List Int} {d c k N : Int} {q : Nat} {b : Bool} {ws : List Int} {L : List (Int × Int)} {s4 s6 s7 s8 s9 s10 s11 : Sl} {N' : Rho → Prop} {R' : Rs → Rho → Prop} {B C : Rho → Prop} {E : Exn → Rho → Prop} (n2 : 2 ≤ N) (n6 : N ≤ 6) (gl : GL N L) (hq : q < 12)
    (h : N' [.va (.lst (ns.map .int)), .va (.int q), .ow false [.int d, .int c, .int k, .bl b], .va (yd ws N []), s4, .va (.tup (L.map lpD)), s6, s7, s8, s9, s10, s11]) :
    OW ((nIf (mAnd (mTv (mBin ltD (mV 1) (mC (.int 4)))) (mNot (mTv (mCall 3 m__law_refused (mCons (mV 2) (mCons (mBin ixD (mV 3) (mC (.int 1))) (mCons (mV 5) mNil))))))) (nRet (mC (.bl false))) nNext) [.va (.lst (ns.map .int)), .va (.int q), .ow false [.int d, .int c, .int k, .bl b], .va (yd ws N []), s4, .va (.tup (L.map lpD)), s6, s7, s8, s9, s10, s11]) N' R' B C E := by
  with_reducible refine wIf ?_
  with_reducible refine wAnd ?_
  with_reducible refine wTv ?_
  with_reducible refine wBin ?_
  repeat mleft
  refine ⟨_, _, _, rfl, rfl, rfl, ?_⟩
  refine ⟨_, rfl, fun hc => ?_, fun hc => ?_⟩
  · with_reducible refine wNot ?_
    with_reducible refine wTv ?_
    with_reducible refine wCall ?_
    repeat mleft
    refine ⟨_, _, _, rfl, rfl, rfl, ?_⟩
    repeat mleft
    refine ⟨by rfl, ?_⟩
    simp only [soft_va, soft_al]
    rw [show List.map (toArg [.va (.lst (ns.map .int)), .va (.int q), .ow false [.int d, .int c, .int k, .bl b], .va (yd ws N []), s4, .va (.tup (L.map lpD)), s6, s7, s8, s9, s10, s11]) [Rs.al 2, Rs.va (D.int N), Rs.va (D.tup (List.map lpD L))] = [pl d c k b, .va (.int N), .va (.tup (L.map lpD))] from rfl]
    with_reducible refine refused_w n2 n6 gl ?_
    mleave
    refine ⟨_, rfl, ?_⟩
    refine ⟨fun z => absurd z (by decide), fun _ => ?_⟩
    with_reducible refine wNext ?_
    exact h
  · refine ⟨fun z => absurd z (by decide), fun _ => ?_⟩
    with_reducible refine wNext ?_
    exact h
theorem law_w {ns : List Int} (hn : ns.length ≤ 63) : RW (m_law [.va (.lst (ns.map .int))]) (fun r _ => r = .va (.bl true)) no := by
  (refine wFun ?_; unfold n_law; simp only [List.length_cons, List.length_nil, Nat.reduceAdd, Nat.reduceSub, List.replicate, List.cons_append, List.nil_append, Nat.zero_add])
  with_reducible refine wSeq ?_
  with_reducible refine wFor ?_
  with_reducible refine wRng ?_
  repeat mleft
  refine ⟨_, _, rfl, rng_ok (by omega) (by omega), ?_⟩
  refine ⟨fun i ρ => ∃ s1 s2 s3 s4 s5 s6 s7 s8 s9 s10 s11, NI s1 ∧ NI s2 ∧ NI s3 ∧ NI s4 ∧ NI s5 ∧ NI s6 ∧ NI s7 ∧ NI s8 ∧ NI s9 ∧ NI s10 ∧ NI s11 ∧ ρ = [.va (.lst (ns.map .int)), s1, s2, s3, s4, s5, s6, s7, s8, s9, s10, s11], ⟨.un, .un, .un, .un, .un, .un, .un, .un, .un, .un, .un, rfl, rfl, rfl, rfl, rfl, rfl, rfl, rfl, rfl, rfl, rfl, rfl⟩, ?_, ?_⟩
  · rintro q x ρ hx ⟨s1, s2, s3, s4, s5, s6, s7, s8, s9, s10, s11, i1, i2, i3, i4, i5, i6, i7, i8, i9, i10, i11, rfl⟩
    obtain ⟨hq, rfl⟩ := rng_at hx
    have hq2 : q < 12 := by simpa using hq
    refine ⟨_, if_pos ⟨by simp, i1⟩, ?_⟩
    dsimp only [List.set_cons_zero, List.set_cons_succ]
    with_reducible refine wSeq ?_
    with_reducible refine wSet ?_
    with_reducible refine wCall ?_
    repeat mleft
    refine ⟨by rfl, ?_⟩
    refine pile_w (k := (q : Int)) (by omega) (by omega) hn fun d c b => ?_
    mleave
    refine wsf (by simp) i2 ?_
    dsimp only [List.set_cons_zero, List.set_cons_succ]
    with_reducible refine wSeq ?_
    with_reducible refine wSet ?_
    with_reducible refine wTup ?_
    with_reducible refine wCons ?_
    with_reducible refine wCall ?_
    repeat (first | mleft | mright)
    refine ways_w (by omega) (by omega) (by omega) (by omega) fun ws d1 k1 a1 a2 a3 a4 a5 => ?_
    mleave
    repeat (first | mleft | mright)
    refine take_w (by omega) (by omega) a4 (by omega) fun r d2 k2 b1 b2 b3 b4 => ?_
    mleave
    repeat (first | mleft | mright)
    refine wsv (d := yd ws (2 + r) []) (by simp) i3 ?_
    dsimp only [List.set_cons_zero, List.set_cons_succ]
    have Y : YardOk ws (2 + r) [] := ⟨a3, a1, by omega, by omega, by omega, trivial, by simp; omega⟩
    generalize 2 + r = N at *
    obtain ⟨n, hN⟩ : ∃ n : Nat, N = n := ⟨N.toNat, by have := Y.n2; omega⟩
    have n2 := Y.n2
    have n6 := Y.n6
    with_reducible refine wSeq ?_
    with_reducible refine wFor ?_
    with_reducible refine wRng ?_
    repeat mleft
    refine ⟨_, _, rfl, rng_ok (by omega) (by omega), ?_⟩
    refine ⟨fun i ρ => ∃ (d3 k3 : Int) (t4 t5 t6 t7 t8 t9 t10 t11 : Sl), 0 ≤ k3 ∧ k3 ≤ k2 + 2000 * i ∧ NI t4 ∧ NI t5 ∧ NI t6 ∧ NI t7 ∧ NI t8 ∧ NI t9 ∧ NI t10 ∧ NI t11 ∧ (1 ≤ i → ∃ L, GL N L ∧ t5 = .va (.tup (L.map lpD))) ∧ ρ = [.va (.lst (ns.map .int)), .va (.int q), .ow false [.int d3, .int c, .int k3, .bl b], .va (yd ws N []), t4, t5, t6, t7, t8, t9, t10, t11], ⟨d2, k2, s4, s5, s6, s7, s8, s9, s10, s11, b3, by omega, i4, i5, i6, i7, i8, i9, i10, i11, fun z => by omega, rfl⟩, ?_, ?_⟩
    · clear i4 i5 i6 i7 i8 i9 i10 i11
      rintro i x ρ hx ⟨d3, k3, t4, t5, t6, t7, t8, t9, t10, t11, c1, c2, i4, i5, i6, i7, i8, i9, i10, i11, _, rfl⟩
      obtain ⟨hi, rfl⟩ := rng_at hx
      have hi3 : i < 3 := hi
      refine ⟨_, if_pos ⟨by simp, i4⟩, ?_⟩
      dsimp only [List.set_cons_zero, List.set_cons_succ]
      refine turn_w Y hN c1 (by omega) rfl i5 i6 i7 i8 i9 i10 i11 fun L d4 k4 u6 u7 u8 u9 u10 u11 gl g1 g2 j6 j7 j8 j9 j10 j11 => ?_
      exact ⟨d4, k4, .va (.int i), .va (.tup (L.map lpD)), u6, u7, u8, u9, u10, u11, g1, by omega, rfl, rfl, j6, j7, j8, j9, j10, j11, fun _ => ⟨L, gl, rfl⟩, rfl⟩
    · have h3 : 1 ≤ (rngL 0 (Int.toNat 3)).length := by rw [rng_len]; decide
      generalize (rngL 0 (Int.toNat 3)).length = z3 at *
      intro ρ h
      refine Exists.elim h fun d3 h => Exists.elim h fun k3 h => Exists.elim h fun t4 h => Exists.elim h fun t5 h => Exists.elim h fun t6 h => Exists.elim h fun t7 h => Exists.elim h fun t8 h => Exists.elim h fun t9 h => Exists.elim h fun t10 h => Exists.elim h fun t11 h => ?_
      have j4 := h.2.2.1
      have j6 := h.2.2.2.2.1
      have j7 := h.2.2.2.2.2.1
      have j8 := h.2.2.2.2.2.2.1
      have j9 := h.2.2.2.2.2.2.2.1
      have j10 := h.2.2.2.2.2.2.2.2.1
      have j11 := h.2.2.2.2.2.2.2.2.2.1
      have hL := h.2.2.2.2.2.2.2.2.2.2.1 h3
      have er := h.2.2.2.2.2.2.2.2.2.2.2
      refine Exists.elim hL fun L hL => ?_
      have gl := hL.1
      have e5 := hL.2
      rw [er, e5]
      with_reducible refine last_w n2 n6 gl hq2 ?_
      exact ⟨.va (.int q), .ow false [.int d3, .int c, .int k3, .bl b], .va (yd ws N []), t4, .va (.tup (L.map lpD)), t6, t7, t8, t9, t10, t11, rfl, rfl, rfl, j4, rfl, j6, j7, j8, j9, j10, j11, rfl⟩
  · rintro ρ ⟨s1, s2, s3, s4, s5, s6, s7, s8, s9, s10, s11, i1, i2, i3, i4, i5, i6, i7, i8, i9, i10, i11, rfl⟩
    mstart
    rfl
theorem law_true (ns : List Int) (hn : ns.length ≤ 63) : ∃ as', m_law [.va (.lst (ns.map .int))] = .ok (.va (.bl true)) as' := by
  obtain ⟨r, ρ, e, rfl⟩ := (law_w hn).eq
  exact ⟨ρ, e⟩
end K4

namespace DL
open PySem L2 PyProof.Rows
theorem no_cx {P : Program} {w : World} {H : Hp} {s : Shared} {e : Value} {s' : Shared} (h : L2.CX P w [] H s (fun _ _ _ => False) e s') : False := by
  obtain ⟨_, _, _, _, _, _, _, _, _, _, _, _, z⟩ := h
  exact z
end DL
namespace K4
open PySem L2 PyProof.Rows DL
local macro_rules | `(tactic| mconstructor) => `(tactic| first | exact .inl rfl | exact .inr (.inl rfl) | exact .inr rfl | exact .inr (.inr rfl))
local macro_rules | `(tactic| mpure_intro) => `(tactic| (simp only [cxOf, envOfC, Cx.blk, compEnvC, relab_eq]; decide +kernel))
local macro_rules | `(tactic| mleft) => `(tactic| first | with_reducible refine wSeq ?_ | with_reducible refine wRet ?_ | with_reducible refine wSet ?_ | with_reducible refine wNext ?_ | with_reducible refine wBin ?_ | with_reducible refine wC ?_ | with_reducible refine wCons ?_ | with_reducible refine wNil ?_ | with_reducible refine wTv ?_ | with_reducible refine wUn ?_ | with_reducible refine wBi ?_ | with_reducible refine wLst ?_ | with_reducible refine wTup ?_ | with_reducible refine wNot ?_ | with_reducible refine wNotV ?_ | with_reducible refine wTrue ?_ | with_reducible refine wAnd ?_ | with_reducible refine wOr ?_ | with_reducible refine wIf ?_ | with_reducible refine wIte ?_ | with_reducible refine wAndV ?_ | with_reducible refine wOrV ?_ | with_reducible refine wChain ?_ | with_reducible refine wSl ?_ | with_reducible refine wPN ?_ | with_reducible refine wPS ?_ | with_reducible refine wExpr ?_ | with_reducible refine wRaise ?_ | with_reducible refine wIter ?_ | with_reducible refine wRng ?_ | with_reducible refine wSeqs ?_ | with_reducible refine wCall ?_ | with_reducible refine wSetIx rfl ?_ | with_reducible refine wApp rfl ?_ | with_reducible refine wUnp ?_ | with_reducible refine wFor ?_ | with_reducible refine wComp ?_ | with_reducible refine wFrz ?_ | with_reducible refine wV rfl ?_ | with_reducible refine wVo rfl ?_)
local macro_rules | `(tactic| massumption) => `(tactic| first | decide | omega | assumption | exact cmul 100 100 (by omega) (by omega) (by decide))
local macro_rules | `(tactic| mright) => `(tactic| first | ((with_reducible refine And.intro (a := (_ && _) = true) ?_ ?_); (focus ((try dsimp only [soft, List.map_cons, List.map_nil, toArg, List.getElem?_cons_zero, List.getElem?_cons_succ]); first | rfl | (simp [alNd, pos?, argOk]; done))); (try dsimp only [soft, List.map_cons, List.map_nil, toArg, List.getElem?_cons_zero, List.getElem?_cons_succ])) | ((with_reducible refine And.intro (a := _ < _) ?_ ?_); focus (first | omega | (simp; omega))) | ((with_reducible show And _ _); first | refine ⟨fun z => absurd z (by decide), fun _ => ?_⟩ | refine ⟨fun _ => ?_, fun z => absurd z (by decide)⟩) | ((with_reducible show Exists _); first | refine ⟨_, _, _, rfl, rfl, mod_ok (by massumption), ?_⟩ | refine ⟨_, _, _, rfl, rfl, mul_ok (by massumption), ?_⟩ | refine ⟨_, _, _, rfl, rfl, div_ok (by massumption), ?_⟩ | (refine ⟨_, _, _, rfl, rfl, pow_ok (by decide), ?_⟩; simp only [Int.reduceToNat, Int.reducePow]) | refine ⟨_, _, _, rfl, rfl, rfl, ?_⟩ | refine ⟨_, _, _, rfl, rfl, ix_ok (by assumption), ?_⟩ | refine ⟨_, _, _, rfl, rfl, ixt_ok (by assumption), ?_⟩ | (refine ⟨_, _, _, _, rfl, rfl, rfl, ?_⟩; (try dsimp only [Int.reduceToNat, List.set_cons_zero, List.set_cons_succ])) | refine ⟨_, _, _, _, rfl, rfl, (by first | massumption | (simp; omega)), ?_⟩ | refine ⟨_, _, _, rfl, rfl, ?_⟩ | refine ⟨_, _, rfl, rng_ok (by omega) (by omega), ?_⟩ | refine ⟨_, rfl, ?_⟩ | refine ⟨_, _, rfl, rfl, ?_⟩ | refine ⟨_, _, rfl, (by first | decide | (simp; done)), ?_⟩ | refine ⟨_, _, rfl, ?_⟩))
local macro_rules | `(tactic| mstop) => `(tactic| first | ((with_reducible refine wsv ?_ ?_ ?_); (focus (simp; done)); (focus (first | rfl | assumption | (rw [upd1_none (by rfl)]; assumption))); dsimp only [List.set_cons_zero, List.set_cons_succ]) | ((with_reducible refine wsf ?_ ?_ ?_); (focus (simp; done)); (focus (first | rfl | assumption | (rw [upd1_none (by rfl)]; assumption))); dsimp only [List.set_cons_zero, List.set_cons_succ]))
local macro_rules | `(tactic| mexfalso) => `(tactic| (refine ⟨trivial, ?_⟩; simp only [backC, upd1_va, upd1_un, upd1_v1, upd1_v2, upd1_v3, upd1_v4, upd1_ow, upd1_none, pos?, if_true, if_false, reduceIte, Option.map_some, Option.map_none, Nat.reduceAdd, Nat.reduceEqDiff, List.getElem?_cons_zero, List.getElem?_cons_succ, List.set_cons_zero, List.set_cons_succ]))
local macro_rules | `(tactic| mstart) => `(tactic| repeat (first | mleft | mright | mstop))
local macro_rules | `(tactic| mleave) => `(tactic| (refine ⟨trivial, ?_⟩; simp only [soft_va, soft_fr, soft_al, backC, upd1_va, upd1_un, upd1_v1, upd1_v2, upd1_v3, upd1_v4, upd1_ow, upd1_none, pos_va, pos_al, pos_nil, if_true, if_false, reduceIte, Option.map_some, Option.map_none, Nat.reduceAdd, Nat.reduceEqDiff, List.getElem?_cons_zero, List.getElem?_cons_succ, List.set_cons_zero, List.set_cons_succ]))
theorem law_sp {K : PySem.W.Frag} {H : Hp} {a : Addr} {ns : List Int} (hl : ns.length ≤ 63) (hS : SqL K H a (ns.map V.int)) : spD K 1 m_law [.ref a] H (fun v _ => v = .bl true) fun _ _ _ => False := by
  have iv : IsA K H (ns.map .int) (ns.map V.int) := by
    clear hS hl
    induction ns with
    | nil => exact IsA.nil
    | cons n ns ih => exact IsA.cons Is.intI ih
  refine ⟨rfl, H, [.va (.lst (ns.map .int))], ⟨Same.refl _, rfl, fun i s e => ?_, fun i j b h => ?_⟩, rfl, ?_⟩
  · cases i with
    | zero => cases e; exact ⟨some (.ref a), rfl, .ref a, rfl, Is.lstI hS iv⟩
    | succ i => cases e
  · obtain ⟨_, io, xs, q⟩ := h
    cases i with
    | zero => cases q
    | succ i => cases q
  · obtain ⟨as', e⟩ := law_true ns hl
    rw [e]
    intro v H' Hb' _ r
    have r : Is K Hb' (.bl true) v := r
    simpa only [Is] using r
end K4

namespace K4
open PySem L2 PyProof.Rows DL
local macro_rules | `(tactic| mconstructor) => `(tactic| first | exact .inl rfl | exact .inr (.inl rfl) | exact .inr rfl | exact .inr (.inr rfl))
local macro_rules | `(tactic| mpure_intro) => `(tactic| (simp only [cxOf, envOfC, Cx.blk, compEnvC, relab_eq]; decide +kernel))
local macro_rules | `(tactic| mleft) => `(tactic| first | with_reducible refine wSeq ?_ | with_reducible refine wRet ?_ | with_reducible refine wSet ?_ | with_reducible refine wNext ?_ | with_reducible refine wBin ?_ | with_reducible refine wC ?_ | with_reducible refine wCons ?_ | with_reducible refine wNil ?_ | with_reducible refine wTv ?_ | with_reducible refine wUn ?_ | with_reducible refine wBi ?_ | with_reducible refine wLst ?_ | with_reducible refine wTup ?_ | with_reducible refine wNot ?_ | with_reducible refine wNotV ?_ | with_reducible refine wTrue ?_ | with_reducible refine wAnd ?_ | with_reducible refine wOr ?_ | with_reducible refine wIf ?_ | with_reducible refine wIte ?_ | with_reducible refine wAndV ?_ | with_reducible refine wOrV ?_ | with_reducible refine wChain ?_ | with_reducible refine wSl ?_ | with_reducible refine wPN ?_ | with_reducible refine wPS ?_ | with_reducible refine wExpr ?_ | with_reducible refine wRaise ?_ | with_reducible refine wIter ?_ | with_reducible refine wRng ?_ | with_reducible refine wSeqs ?_ | with_reducible refine wCall ?_ | with_reducible refine wSetIx rfl ?_ | with_reducible refine wApp rfl ?_ | with_reducible refine wUnp ?_ | with_reducible refine wFor ?_ | with_reducible refine wComp ?_ | with_reducible refine wFrz ?_ | with_reducible refine wV rfl ?_ | with_reducible refine wVo rfl ?_)
local macro_rules | `(tactic| massumption) => `(tactic| first | decide | omega | assumption | exact cmul 100 100 (by omega) (by omega) (by decide))
local macro_rules | `(tactic| mright) => `(tactic| first | ((with_reducible refine And.intro (a := (_ && _) = true) ?_ ?_); (focus ((try dsimp only [soft, List.map_cons, List.map_nil, toArg, List.getElem?_cons_zero, List.getElem?_cons_succ]); first | rfl | (simp [alNd, pos?, argOk]; done))); (try dsimp only [soft, List.map_cons, List.map_nil, toArg, List.getElem?_cons_zero, List.getElem?_cons_succ])) | ((with_reducible refine And.intro (a := _ < _) ?_ ?_); focus (first | omega | (simp; omega))) | ((with_reducible show And _ _); first | refine ⟨fun z => absurd z (by decide), fun _ => ?_⟩ | refine ⟨fun _ => ?_, fun z => absurd z (by decide)⟩) | ((with_reducible show Exists _); first | refine ⟨_, _, _, rfl, rfl, mod_ok (by massumption), ?_⟩ | refine ⟨_, _, _, rfl, rfl, mul_ok (by massumption), ?_⟩ | refine ⟨_, _, _, rfl, rfl, div_ok (by massumption), ?_⟩ | (refine ⟨_, _, _, rfl, rfl, pow_ok (by decide), ?_⟩; simp only [Int.reduceToNat, Int.reducePow]) | refine ⟨_, _, _, rfl, rfl, rfl, ?_⟩ | refine ⟨_, _, _, rfl, rfl, ix_ok (by assumption), ?_⟩ | refine ⟨_, _, _, rfl, rfl, ixt_ok (by assumption), ?_⟩ | (refine ⟨_, _, _, _, rfl, rfl, rfl, ?_⟩; (try dsimp only [Int.reduceToNat, List.set_cons_zero, List.set_cons_succ])) | refine ⟨_, _, _, _, rfl, rfl, (by first | massumption | (simp; omega)), ?_⟩ | refine ⟨_, _, _, rfl, rfl, ?_⟩ | refine ⟨_, _, rfl, rng_ok (by omega) (by omega), ?_⟩ | refine ⟨_, rfl, ?_⟩ | refine ⟨_, _, rfl, rfl, ?_⟩ | refine ⟨_, _, rfl, (by first | decide | (simp; done)), ?_⟩ | refine ⟨_, _, rfl, ?_⟩))
local macro_rules | `(tactic| mstop) => `(tactic| first | ((with_reducible refine wsv ?_ ?_ ?_); (focus (simp; done)); (focus (first | rfl | assumption | (rw [upd1_none (by rfl)]; assumption))); dsimp only [List.set_cons_zero, List.set_cons_succ]) | ((with_reducible refine wsf ?_ ?_ ?_); (focus (simp; done)); (focus (first | rfl | assumption | (rw [upd1_none (by rfl)]; assumption))); dsimp only [List.set_cons_zero, List.set_cons_succ]))
local macro_rules | `(tactic| mexfalso) => `(tactic| (refine ⟨trivial, ?_⟩; simp only [backC, upd1_va, upd1_un, upd1_v1, upd1_v2, upd1_v3, upd1_v4, upd1_ow, upd1_none, pos?, if_true, if_false, reduceIte, Option.map_some, Option.map_none, Nat.reduceAdd, Nat.reduceEqDiff, List.getElem?_cons_zero, List.getElem?_cons_succ, List.set_cons_zero, List.set_cons_succ]))
local macro_rules | `(tactic| mstart) => `(tactic| repeat (first | mleft | mright | mstop))
local macro_rules | `(tactic| mleave) => `(tactic| (refine ⟨trivial, ?_⟩; simp only [soft_va, soft_fr, soft_al, backC, upd1_va, upd1_un, upd1_v1, upd1_v2, upd1_v3, upd1_v4, upd1_ow, upd1_none, pos_va, pos_al, pos_nil, if_true, if_false, reduceIte, Option.map_some, Option.map_none, Nat.reduceAdd, Nat.reduceEqDiff, List.getElem?_cons_zero, List.getElem?_cons_succ, List.set_cons_zero, List.set_cons_succ]))
/-! ### the end -/
theorem cls_u {K : PySem.W.Frag} {k : Nat} {x : Str} {a c : Addr} (h : PySem.W.nsIn K mainGlobals x = some (some (.ref a))) (e : clsStr k = x) (q : ClsAt K k c) : c = a := by
  subst e
  have z := q.symm.trans h
  cases z
  rfl
theorem kit_cl {K : PySem.W.Frag} {t : Value} {C : Addr} {b : Bool} (h2 : PySem.W.isClsIn K C = true) (h3 : PySem.W.typeIn K (.ref C) = some (.type "type")) (h4 : PySem.W.subIn K t (.ref C) = some b) : PySem.W.kitCls K t (.ref C) = some b := by
  have e2 : ((PySem.W.clsIn K C).isSome && PySem.W.typeIn K (.ref C) == some (.type "type")) = true := by
    have h2' : (PySem.W.clsIn K C).isSome = true := h2
    rw [h2', h3]
    first | rfl | decide
  show (if ((PySem.W.clsIn K C).isSome && PySem.W.typeIn K (.ref C) == some (.type "type")) = true then PySem.W.subIn K t (.ref C) else none) = some b
  rw [if_pos e2]
  exact h4
theorem kit_ref {K : PySem.W.Frag} {t : Addr} {C : Addr} {b : Bool} (h2 : PySem.W.isClsIn K C = true) (h3 : PySem.W.typeIn K (.ref C) = some (.type "type")) (h4 : PySem.W.subIn K (.ref t) (.ref C) = some b) (hs : PySem.W.subIn K (.ref t) (.ref t) = some true) : PySem.W.kitOne K (.ref t) (.ref C) = some b := by
  unfold PySem.W.kitOne
  by_cases e : ((Value.ref t) == (Value.ref C)) = true
  · rw [if_pos e]
    have e2 : t = C := by simpa using e
    subst e2
    rw [hs] at h4
    exact h4
  · rw [if_neg e]
    exact kit_cl h2 h3 h4
theorem kit_non {K : PySem.W.Frag} {C : Addr} {b : Bool} (h2 : PySem.W.isClsIn K C = true) (h3 : PySem.W.typeIn K (.ref C) = some (.type "type")) (h4 : PySem.W.subIn K (.type "NoneType") (.ref C) = some b) : PySem.W.kitOne K (.type "NoneType") (.ref C) = some b := by
  unfold PySem.W.kitOne
  rw [if_neg (by simp)]
  exact kit_cl h2 h3 h4
theorem kit_val {K : PySem.W.Frag} {t : Addr} (h4 : PySem.W.subIn K (.ref t) (.type "ValueError") = some true) : PySem.W.kitOne K (.ref t) (.type "ValueError") = some true := by
  unfold PySem.W.kitOne
  rw [if_neg (by simp)]
  unfold PySem.W.kitCls
  simp only
  rw [if_pos (by decide)]
  exact h4
theorem exm_by {K : PySem.W.Frag} {t : Addr} {C : Addr} {b : Bool} (h : PySem.W.subIn K (.ref C) (.type "BaseException") = some true) (q : PySem.W.kitCls K (.ref t) (.ref C) = some b) : PySem.W.exmOne K (.ref t) (.ref C) = some b := by
  unfold PySem.W.exmOne
  rw [if_pos (by rw [h]; first | rfl | decide)]
  exact q
set_option maxHeartbeats 8000000 in
theorem all_mk {l : PySem.W.OpenLaw} {w : World} {K : PySem.W.Frag} {h : Heap} {mg : Str → Option Value} {fa : Addr} (X : K.In h) (G : h.Ns mainGlobals mg) (hfa : mg "law" = some (.ref fa))
    {C_FolkError C_NoYard C_NoStanding C_NoLeap C_NoRow C_NoVector C_NoReading C_NoWishes C_NoCell C_NoTable C_NoNumber C_NoPerson C_TooMany : Addr} {f_is_whole : Addr} {od_is_whole an_is_whole : Option Addr} {sl_is_whole : Array (Option Value)} {oc_is_whole kV_is_whole dc_is_whole pm_is_whole cd_is_whole ct_is_whole : Value} {f_is_whole_in : Addr} {od_is_whole_in an_is_whole_in : Option Addr} {sl_is_whole_in : Array (Option Value)} {oc_is_whole_in kV_is_whole_in dc_is_whole_in pm_is_whole_in cd_is_whole_in ct_is_whole_in : Value} {f_is_tuple_of : Addr} {od_is_tuple_of an_is_tuple_of : Option Addr} {sl_is_tuple_of : Array (Option Value)} {oc_is_tuple_of kV_is_tuple_of dc_is_tuple_of pm_is_tuple_of cd_is_tuple_of ct_is_tuple_of : Value} {f_onto_way : Addr} {od_onto_way an_onto_way : Option Addr} {sl_onto_way : Array (Option Value)} {oc_onto_way kV_onto_way dc_onto_way pm_onto_way cd_onto_way ct_onto_way : Value} {f_beyond : Addr} {od_beyond an_beyond : Option Addr} {sl_beyond : Array (Option Value)} {oc_beyond kV_beyond dc_beyond pm_beyond cd_beyond ct_beyond : Value} {f_moved_on : Addr} {od_moved_on an_moved_on : Option Addr} {sl_moved_on : Array (Option Value)} {oc_moved_on kV_moved_on dc_moved_on pm_moved_on cd_moved_on ct_moved_on : Value} {f_plain_point : Addr} {od_plain_point an_plain_point : Option Addr} {sl_plain_point : Array (Option Value)} {oc_plain_point kV_plain_point dc_plain_point pm_plain_point cd_plain_point ct_plain_point : Value} {f_plain_points : Addr} {od_plain_points an_plain_points : Option Addr} {sl_plain_points : Array (Option Value)} {oc_plain_points kV_plain_points dc_plain_points pm_plain_points cd_plain_points ct_plain_points : Value} {f_unit_points : Addr} {od_unit_points an_unit_points : Option Addr} {sl_unit_points : Array (Option Value)} {oc_unit_points kV_unit_points dc_unit_points pm_unit_points cd_unit_points ct_unit_points : Value} {f_vectors_between : Addr} {od_vectors_between an_vectors_between : Option Addr} {sl_vectors_between : Array (Option Value)} {oc_vectors_between kV_vectors_between dc_vectors_between pm_vectors_between cd_vectors_between ct_vectors_between : Value} {f_points_after : Addr} {od_points_after an_points_after : Option Addr} {sl_points_after : Array (Option Value)} {oc_points_after kV_points_after dc_points_after pm_points_after cd_points_after ct_points_after : Value} {f_points_after_run : Addr} {od_points_after_run an_points_after_run : Option Addr} {sl_points_after_run : Array (Option Value)} {oc_points_after_run kV_points_after_run dc_points_after_run pm_points_after_run cd_points_after_run ct_points_after_run : Value} {f_points_after_row : Addr} {od_points_after_row an_points_after_row : Option Addr} {sl_points_after_row : Array (Option Value)} {oc_points_after_row kV_points_after_row dc_points_after_row pm_points_after_row cd_points_after_row ct_points_after_row : Value} {f_repeats_alike : Addr} {od_repeats_alike an_repeats_alike : Option Addr} {sl_repeats_alike : Array (Option Value)} {oc_repeats_alike kV_repeats_alike dc_repeats_alike pm_repeats_alike cd_repeats_alike ct_repeats_alike : Value} {f_is_way : Addr} {od_is_way an_is_way : Option Addr} {sl_is_way : Array (Option Value)} {oc_is_way kV_is_way dc_is_way pm_is_way cd_is_way ct_is_way : Value} {f_is_ways : Addr} {od_is_ways an_is_ways : Option Addr} {sl_is_ways : Array (Option Value)} {oc_is_ways kV_is_ways dc_is_ways pm_is_ways cd_is_ways ct_is_ways : Value} {f_is_persons : Addr} {od_is_persons an_is_persons : Option Addr} {sl_is_persons : Array (Option Value)} {oc_is_persons kV_is_persons dc_is_persons pm_is_persons cd_is_persons ct_is_persons : Value} {f_is_posts : Addr} {od_is_posts an_is_posts : Option Addr} {sl_is_posts : Array (Option Value)} {oc_is_posts kV_is_posts dc_is_posts pm_is_posts cd_is_posts ct_is_posts : Value} {f_yard_wrong : Addr} {od_yard_wrong an_yard_wrong : Option Addr} {sl_yard_wrong : Array (Option Value)} {oc_yard_wrong kV_yard_wrong dc_yard_wrong pm_yard_wrong cd_yard_wrong ct_yard_wrong : Value} {f_need_yard : Addr} {od_need_yard an_need_yard : Option Addr} {sl_need_yard : Array (Option Value)} {oc_need_yard kV_need_yard dc_need_yard pm_need_yard cd_need_yard ct_need_yard : Value} {f_is_number_on : Addr} {od_is_number_on an_is_number_on : Option Addr} {sl_is_number_on : Array (Option Value)} {oc_is_number_on kV_is_number_on dc_is_number_on pm_is_number_on cd_is_number_on ct_is_number_on : Value} {f_is_point : Addr} {od_is_point an_is_point : Option Addr} {sl_is_point : Array (Option Value)} {oc_is_point kV_is_point dc_is_point pm_is_point cd_is_point ct_is_point : Value} {f_standing_wrong : Addr} {od_standing_wrong an_standing_wrong : Option Addr} {sl_standing_wrong : Array (Option Value)} {oc_standing_wrong kV_standing_wrong dc_standing_wrong pm_standing_wrong cd_standing_wrong ct_standing_wrong : Value} {f_is_standing : Addr} {od_is_standing an_is_standing : Option Addr} {sl_is_standing : Array (Option Value)} {oc_is_standing kV_is_standing dc_is_standing pm_is_standing cd_is_standing ct_is_standing : Value} {f_need_standing : Addr} {od_need_standing an_need_standing : Option Addr} {sl_need_standing : Array (Option Value)} {oc_need_standing kV_need_standing dc_need_standing pm_need_standing cd_need_standing ct_need_standing : Value} {f_is_leap : Addr} {od_is_leap an_is_leap : Option Addr} {sl_is_leap : Array (Option Value)} {oc_is_leap kV_is_leap dc_is_leap pm_is_leap cd_is_leap ct_is_leap : Value} {f_leap_at_fault : Addr} {od_leap_at_fault an_leap_at_fault : Option Addr} {sl_leap_at_fault : Array (Option Value)} {oc_leap_at_fault kV_leap_at_fault dc_leap_at_fault pm_leap_at_fault cd_leap_at_fault ct_leap_at_fault : Value} {f_is_steady : Addr} {od_is_steady an_is_steady : Option Addr} {sl_is_steady : Array (Option Value)} {oc_is_steady kV_is_steady dc_is_steady pm_is_steady cd_is_steady ct_is_steady : Value} {f_run_wrong : Addr} {od_run_wrong an_run_wrong : Option Addr} {sl_run_wrong : Array (Option Value)} {oc_run_wrong kV_run_wrong dc_run_wrong pm_run_wrong cd_run_wrong ct_run_wrong : Value} {f_runs_wrong : Addr} {od_runs_wrong an_runs_wrong : Option Addr} {sl_runs_wrong : Array (Option Value)} {oc_runs_wrong kV_runs_wrong dc_runs_wrong pm_runs_wrong cd_runs_wrong ct_runs_wrong : Value} {f_need_runs : Addr} {od_need_runs an_need_runs : Option Addr} {sl_need_runs : Array (Option Value)} {oc_need_runs kV_need_runs dc_need_runs pm_need_runs cd_need_runs ct_need_runs : Value} {f_row_wrong : Addr} {od_row_wrong an_row_wrong : Option Addr} {sl_row_wrong : Array (Option Value)} {oc_row_wrong kV_row_wrong dc_row_wrong pm_row_wrong cd_row_wrong ct_row_wrong : Value} {f_done : Addr} {od_done an_done : Option Addr} {sl_done : Array (Option Value)} {oc_done kV_done dc_done pm_done cd_done ct_done : Value} {f__law_mixed : Addr} {od__law_mixed an__law_mixed : Option Addr} {sl__law_mixed : Array (Option Value)} {oc__law_mixed kV__law_mixed dc__law_mixed pm__law_mixed cd__law_mixed ct__law_mixed : Value} {f__law_pile : Addr} {od__law_pile an__law_pile : Option Addr} {sl__law_pile : Array (Option Value)} {oc__law_pile kV__law_pile dc__law_pile pm__law_pile cd__law_pile ct__law_pile : Value} {f__law_take : Addr} {od__law_take an__law_take : Option Addr} {sl__law_take : Array (Option Value)} {oc__law_take kV__law_take dc__law_take pm__law_take cd__law_take ct__law_take : Value} {f__law_great : Addr} {od__law_great an__law_great : Option Addr} {sl__law_great : Array (Option Value)} {oc__law_great kV__law_great dc__law_great pm__law_great cd__law_great ct__law_great : Value} {f__law_number : Addr} {od__law_number an__law_number : Option Addr} {sl__law_number : Array (Option Value)} {oc__law_number kV__law_number dc__law_number pm__law_number cd__law_number ct__law_number : Value} {f__law_ways : Addr} {od__law_ways an__law_ways : Option Addr} {sl__law_ways : Array (Option Value)} {oc__law_ways kV__law_ways dc__law_ways pm__law_ways cd__law_ways ct__law_ways : Value} {f__law_vector : Addr} {od__law_vector an__law_vector : Option Addr} {sl__law_vector : Array (Option Value)} {oc__law_vector kV__law_vector dc__law_vector pm__law_vector cd__law_vector ct__law_vector : Value} {f__law_put : Addr} {od__law_put an__law_put : Option Addr} {sl__law_put : Array (Option Value)} {oc__law_put kV__law_put dc__law_put pm__law_put cd__law_put ct__law_put : Value} {f__law_round : Addr} {od__law_round an__law_round : Option Addr} {sl__law_round : Array (Option Value)} {oc__law_round kV__law_round dc__law_round pm__law_round cd__law_round ct__law_round : Value} {f__law_standing : Addr} {od__law_standing an__law_standing : Option Addr} {sl__law_standing : Array (Option Value)} {oc__law_standing kV__law_standing dc__law_standing pm__law_standing cd__law_standing ct__law_standing : Value} {f__law_leap : Addr} {od__law_leap an__law_leap : Option Addr} {sl__law_leap : Array (Option Value)} {oc__law_leap kV__law_leap dc__law_leap pm__law_leap cd__law_leap ct__law_leap : Value} {f__law_places : Addr} {od__law_places an__law_places : Option Addr} {sl__law_places : Array (Option Value)} {oc__law_places kV__law_places dc__law_places pm__law_places cd__law_places ct__law_places : Value} {f__law_done : Addr} {od__law_done an__law_done : Option Addr} {sl__law_done : Array (Option Value)} {oc__law_done kV__law_done dc__law_done pm__law_done cd__law_done ct__law_done : Value} {f__law_steady : Addr} {od__law_steady an__law_steady : Option Addr} {sl__law_steady : Array (Option Value)} {oc__law_steady kV__law_steady dc__law_steady pm__law_steady cd__law_steady ct__law_steady : Value} {f__law_kind : Addr} {od__law_kind an__law_kind : Option Addr} {sl__law_kind : Array (Option Value)} {oc__law_kind kV__law_kind dc__law_kind pm__law_kind cd__law_kind ct__law_kind : Value} {f__law_some_leaps : Addr} {od__law_some_leaps an__law_some_leaps : Option Addr} {sl__law_some_leaps : Array (Option Value)} {oc__law_some_leaps kV__law_some_leaps dc__law_some_leaps pm__law_some_leaps cd__law_some_leaps ct__law_some_leaps : Value} {f__law_caught : Addr} {od__law_caught an__law_caught : Option Addr} {sl__law_caught : Array (Option Value)} {oc__law_caught kV__law_caught dc__law_caught pm__law_caught cd__law_caught ct__law_caught : Value} {f__law_refused : Addr} {od__law_refused an__law_refused : Option Addr} {sl__law_refused : Array (Option Value)} {oc__law_refused kV__law_refused dc__law_refused pm__law_refused cd__law_refused ct__law_refused : Value} {f_law : Addr} {od_law an_law : Option Addr} {sl_law : Array (Option Value)} {oc_law kV_law dc_law pm_law cd_law ct_law : Value} {t_LEAST_PERSONS : Tok} {t_MOST_LEAPS : Tok} {t_MOST_PERSONS : Tok} {t_MOST_WAYS : Tok}
    (n_FolkError : PySem.W.nsIn K mainGlobals "FolkError" = some (some (.ref C_FolkError)))
    (n_NoYard : PySem.W.nsIn K mainGlobals "NoYard" = some (some (.ref C_NoYard)))
    (n_NoStanding : PySem.W.nsIn K mainGlobals "NoStanding" = some (some (.ref C_NoStanding)))
    (n_NoLeap : PySem.W.nsIn K mainGlobals "NoLeap" = some (some (.ref C_NoLeap)))
    (n_NoRow : PySem.W.nsIn K mainGlobals "NoRow" = some (some (.ref C_NoRow)))
    (n_NoVector : PySem.W.nsIn K mainGlobals "NoVector" = some (some (.ref C_NoVector)))
    (n_NoReading : PySem.W.nsIn K mainGlobals "NoReading" = some (some (.ref C_NoReading)))
    (n_NoWishes : PySem.W.nsIn K mainGlobals "NoWishes" = some (some (.ref C_NoWishes)))
    (n_NoCell : PySem.W.nsIn K mainGlobals "NoCell" = some (some (.ref C_NoCell)))
    (n_NoTable : PySem.W.nsIn K mainGlobals "NoTable" = some (some (.ref C_NoTable)))
    (n_NoNumber : PySem.W.nsIn K mainGlobals "NoNumber" = some (some (.ref C_NoNumber)))
    (n_NoPerson : PySem.W.nsIn K mainGlobals "NoPerson" = some (some (.ref C_NoPerson)))
    (n_TooMany : PySem.W.nsIn K mainGlobals "TooMany" = some (some (.ref C_TooMany)))
    (x_NoYard : PySem.W.excIn K C_NoYard [.type "ValueError", .type "Exception", .type "BaseException", .type "object"] "ValueError.__new__" = true)
    (kp_NoYard : PySem.W.keepIn K (.ref C_NoYard) = true)
    (sb_NoYard : PySem.W.subIn K (.ref C_NoYard) (.type "BaseException") = some true)
    (ty_NoYard : PySem.W.typeIn K (.ref C_NoYard) = some (.type "type"))
    (hg_NoYard : PySem.W.findIn K (.ref C_NoYard) "__getattribute__" = some (some (.builtin "BaseException.__getattribute__")))
    (hk_NoYard : PySem.W.findIn K (.ref C_NoYard) "__getattr__" = some none)
    (hd_NoYard : PySem.W.hasDictIn K C_NoYard = true)
    (ha_NoYard : PySem.W.findIn K (.ref C_NoYard) "__class__" = some (some (.builtin "object.__class__")))
    (hm_NoYard : PySem.W.mroIn K C_NoYard (.type "object") = some true)
    (kv_NoYard : PySem.W.subIn K (.ref C_NoYard) (.type "ValueError") = some true)
    (kk_NoYard_FolkError : PySem.W.subIn K (.ref C_NoYard) (.ref C_FolkError) = some true)
    (kk_NoYard_NoYard : PySem.W.subIn K (.ref C_NoYard) (.ref C_NoYard) = some true)
    (kk_NoYard_NoStanding : PySem.W.subIn K (.ref C_NoYard) (.ref C_NoStanding) = some false)
    (kk_NoYard_NoLeap : PySem.W.subIn K (.ref C_NoYard) (.ref C_NoLeap) = some false)
    (kk_NoYard_NoRow : PySem.W.subIn K (.ref C_NoYard) (.ref C_NoRow) = some false)
    (kk_NoYard_NoVector : PySem.W.subIn K (.ref C_NoYard) (.ref C_NoVector) = some false)
    (kk_NoYard_NoReading : PySem.W.subIn K (.ref C_NoYard) (.ref C_NoReading) = some false)
    (kk_NoYard_NoWishes : PySem.W.subIn K (.ref C_NoYard) (.ref C_NoWishes) = some false)
    (kk_NoYard_NoCell : PySem.W.subIn K (.ref C_NoYard) (.ref C_NoCell) = some false)
    (kk_NoYard_NoTable : PySem.W.subIn K (.ref C_NoYard) (.ref C_NoTable) = some false)
    (kk_NoYard_NoNumber : PySem.W.subIn K (.ref C_NoYard) (.ref C_NoNumber) = some false)
    (kk_NoYard_NoPerson : PySem.W.subIn K (.ref C_NoYard) (.ref C_NoPerson) = some false)
    (kk_NoYard_TooMany : PySem.W.subIn K (.ref C_NoYard) (.ref C_TooMany) = some false)
    (x_NoStanding : PySem.W.excIn K C_NoStanding [.type "ValueError", .type "Exception", .type "BaseException", .type "object"] "ValueError.__new__" = true)
    (kp_NoStanding : PySem.W.keepIn K (.ref C_NoStanding) = true)
    (sb_NoStanding : PySem.W.subIn K (.ref C_NoStanding) (.type "BaseException") = some true)
    (ty_NoStanding : PySem.W.typeIn K (.ref C_NoStanding) = some (.type "type"))
    (hg_NoStanding : PySem.W.findIn K (.ref C_NoStanding) "__getattribute__" = some (some (.builtin "BaseException.__getattribute__")))
    (hk_NoStanding : PySem.W.findIn K (.ref C_NoStanding) "__getattr__" = some none)
    (hd_NoStanding : PySem.W.hasDictIn K C_NoStanding = true)
    (ha_NoStanding : PySem.W.findIn K (.ref C_NoStanding) "__class__" = some (some (.builtin "object.__class__")))
    (hm_NoStanding : PySem.W.mroIn K C_NoStanding (.type "object") = some true)
    (kv_NoStanding : PySem.W.subIn K (.ref C_NoStanding) (.type "ValueError") = some true)
    (kk_NoStanding_FolkError : PySem.W.subIn K (.ref C_NoStanding) (.ref C_FolkError) = some true)
    (kk_NoStanding_NoYard : PySem.W.subIn K (.ref C_NoStanding) (.ref C_NoYard) = some false)
    (kk_NoStanding_NoStanding : PySem.W.subIn K (.ref C_NoStanding) (.ref C_NoStanding) = some true)
    (kk_NoStanding_NoLeap : PySem.W.subIn K (.ref C_NoStanding) (.ref C_NoLeap) = some false)
    (kk_NoStanding_NoRow : PySem.W.subIn K (.ref C_NoStanding) (.ref C_NoRow) = some false)
    (kk_NoStanding_NoVector : PySem.W.subIn K (.ref C_NoStanding) (.ref C_NoVector) = some false)
    (kk_NoStanding_NoReading : PySem.W.subIn K (.ref C_NoStanding) (.ref C_NoReading) = some false)
    (kk_NoStanding_NoWishes : PySem.W.subIn K (.ref C_NoStanding) (.ref C_NoWishes) = some false)
    (kk_NoStanding_NoCell : PySem.W.subIn K (.ref C_NoStanding) (.ref C_NoCell) = some false)
    (kk_NoStanding_NoTable : PySem.W.subIn K (.ref C_NoStanding) (.ref C_NoTable) = some false)
    (kk_NoStanding_NoNumber : PySem.W.subIn K (.ref C_NoStanding) (.ref C_NoNumber) = some false)
    (kk_NoStanding_NoPerson : PySem.W.subIn K (.ref C_NoStanding) (.ref C_NoPerson) = some false)
    (kk_NoStanding_TooMany : PySem.W.subIn K (.ref C_NoStanding) (.ref C_TooMany) = some false)
    (x_NoLeap : PySem.W.excIn K C_NoLeap [.type "ValueError", .type "Exception", .type "BaseException", .type "object"] "ValueError.__new__" = true)
    (kp_NoLeap : PySem.W.keepIn K (.ref C_NoLeap) = true)
    (sb_NoLeap : PySem.W.subIn K (.ref C_NoLeap) (.type "BaseException") = some true)
    (ty_NoLeap : PySem.W.typeIn K (.ref C_NoLeap) = some (.type "type"))
    (hg_NoLeap : PySem.W.findIn K (.ref C_NoLeap) "__getattribute__" = some (some (.builtin "BaseException.__getattribute__")))
    (hk_NoLeap : PySem.W.findIn K (.ref C_NoLeap) "__getattr__" = some none)
    (hd_NoLeap : PySem.W.hasDictIn K C_NoLeap = true)
    (ha_NoLeap : PySem.W.findIn K (.ref C_NoLeap) "__class__" = some (some (.builtin "object.__class__")))
    (hm_NoLeap : PySem.W.mroIn K C_NoLeap (.type "object") = some true)
    (kv_NoLeap : PySem.W.subIn K (.ref C_NoLeap) (.type "ValueError") = some true)
    (kk_NoLeap_FolkError : PySem.W.subIn K (.ref C_NoLeap) (.ref C_FolkError) = some true)
    (kk_NoLeap_NoYard : PySem.W.subIn K (.ref C_NoLeap) (.ref C_NoYard) = some false)
    (kk_NoLeap_NoStanding : PySem.W.subIn K (.ref C_NoLeap) (.ref C_NoStanding) = some false)
    (kk_NoLeap_NoLeap : PySem.W.subIn K (.ref C_NoLeap) (.ref C_NoLeap) = some true)
    (kk_NoLeap_NoRow : PySem.W.subIn K (.ref C_NoLeap) (.ref C_NoRow) = some false)
    (kk_NoLeap_NoVector : PySem.W.subIn K (.ref C_NoLeap) (.ref C_NoVector) = some false)
    (kk_NoLeap_NoReading : PySem.W.subIn K (.ref C_NoLeap) (.ref C_NoReading) = some false)
    (kk_NoLeap_NoWishes : PySem.W.subIn K (.ref C_NoLeap) (.ref C_NoWishes) = some false)
    (kk_NoLeap_NoCell : PySem.W.subIn K (.ref C_NoLeap) (.ref C_NoCell) = some false)
    (kk_NoLeap_NoTable : PySem.W.subIn K (.ref C_NoLeap) (.ref C_NoTable) = some false)
    (kk_NoLeap_NoNumber : PySem.W.subIn K (.ref C_NoLeap) (.ref C_NoNumber) = some false)
    (kk_NoLeap_NoPerson : PySem.W.subIn K (.ref C_NoLeap) (.ref C_NoPerson) = some false)
    (kk_NoLeap_TooMany : PySem.W.subIn K (.ref C_NoLeap) (.ref C_TooMany) = some false)
    (x_NoRow : PySem.W.excIn K C_NoRow [.type "ValueError", .type "Exception", .type "BaseException", .type "object"] "ValueError.__new__" = true)
    (kp_NoRow : PySem.W.keepIn K (.ref C_NoRow) = true)
    (sb_NoRow : PySem.W.subIn K (.ref C_NoRow) (.type "BaseException") = some true)
    (ty_NoRow : PySem.W.typeIn K (.ref C_NoRow) = some (.type "type"))
    (hg_NoRow : PySem.W.findIn K (.ref C_NoRow) "__getattribute__" = some (some (.builtin "BaseException.__getattribute__")))
    (hk_NoRow : PySem.W.findIn K (.ref C_NoRow) "__getattr__" = some none)
    (hd_NoRow : PySem.W.hasDictIn K C_NoRow = true)
    (ha_NoRow : PySem.W.findIn K (.ref C_NoRow) "__class__" = some (some (.builtin "object.__class__")))
    (hm_NoRow : PySem.W.mroIn K C_NoRow (.type "object") = some true)
    (kv_NoRow : PySem.W.subIn K (.ref C_NoRow) (.type "ValueError") = some true)
    (kk_NoRow_FolkError : PySem.W.subIn K (.ref C_NoRow) (.ref C_FolkError) = some true)
    (kk_NoRow_NoYard : PySem.W.subIn K (.ref C_NoRow) (.ref C_NoYard) = some false)
    (kk_NoRow_NoStanding : PySem.W.subIn K (.ref C_NoRow) (.ref C_NoStanding) = some false)
    (kk_NoRow_NoLeap : PySem.W.subIn K (.ref C_NoRow) (.ref C_NoLeap) = some false)
    (kk_NoRow_NoRow : PySem.W.subIn K (.ref C_NoRow) (.ref C_NoRow) = some true)
    (kk_NoRow_NoVector : PySem.W.subIn K (.ref C_NoRow) (.ref C_NoVector) = some false)
    (kk_NoRow_NoReading : PySem.W.subIn K (.ref C_NoRow) (.ref C_NoReading) = some false)
    (kk_NoRow_NoWishes : PySem.W.subIn K (.ref C_NoRow) (.ref C_NoWishes) = some false)
    (kk_NoRow_NoCell : PySem.W.subIn K (.ref C_NoRow) (.ref C_NoCell) = some false)
    (kk_NoRow_NoTable : PySem.W.subIn K (.ref C_NoRow) (.ref C_NoTable) = some false)
    (kk_NoRow_NoNumber : PySem.W.subIn K (.ref C_NoRow) (.ref C_NoNumber) = some false)
    (kk_NoRow_NoPerson : PySem.W.subIn K (.ref C_NoRow) (.ref C_NoPerson) = some false)
    (kk_NoRow_TooMany : PySem.W.subIn K (.ref C_NoRow) (.ref C_TooMany) = some false)
    (kn_FolkError : PySem.W.subIn K (.type "NoneType") (.ref C_FolkError) = some false)
    (ic_FolkError : PySem.W.isClsIn K C_FolkError = true)
    (ty_FolkError : PySem.W.typeIn K (.ref C_FolkError) = some (.type "type"))
    (kn_NoYard : PySem.W.subIn K (.type "NoneType") (.ref C_NoYard) = some false)
    (ic_NoYard : PySem.W.isClsIn K C_NoYard = true)
    (kn_NoStanding : PySem.W.subIn K (.type "NoneType") (.ref C_NoStanding) = some false)
    (ic_NoStanding : PySem.W.isClsIn K C_NoStanding = true)
    (kn_NoLeap : PySem.W.subIn K (.type "NoneType") (.ref C_NoLeap) = some false)
    (ic_NoLeap : PySem.W.isClsIn K C_NoLeap = true)
    (kn_NoRow : PySem.W.subIn K (.type "NoneType") (.ref C_NoRow) = some false)
    (ic_NoRow : PySem.W.isClsIn K C_NoRow = true)
    (kn_NoVector : PySem.W.subIn K (.type "NoneType") (.ref C_NoVector) = some false)
    (ic_NoVector : PySem.W.isClsIn K C_NoVector = true)
    (ty_NoVector : PySem.W.typeIn K (.ref C_NoVector) = some (.type "type"))
    (kn_NoReading : PySem.W.subIn K (.type "NoneType") (.ref C_NoReading) = some false)
    (ic_NoReading : PySem.W.isClsIn K C_NoReading = true)
    (ty_NoReading : PySem.W.typeIn K (.ref C_NoReading) = some (.type "type"))
    (kn_NoWishes : PySem.W.subIn K (.type "NoneType") (.ref C_NoWishes) = some false)
    (ic_NoWishes : PySem.W.isClsIn K C_NoWishes = true)
    (ty_NoWishes : PySem.W.typeIn K (.ref C_NoWishes) = some (.type "type"))
    (kn_NoCell : PySem.W.subIn K (.type "NoneType") (.ref C_NoCell) = some false)
    (ic_NoCell : PySem.W.isClsIn K C_NoCell = true)
    (ty_NoCell : PySem.W.typeIn K (.ref C_NoCell) = some (.type "type"))
    (kn_NoTable : PySem.W.subIn K (.type "NoneType") (.ref C_NoTable) = some false)
    (ic_NoTable : PySem.W.isClsIn K C_NoTable = true)
    (ty_NoTable : PySem.W.typeIn K (.ref C_NoTable) = some (.type "type"))
    (kn_NoNumber : PySem.W.subIn K (.type "NoneType") (.ref C_NoNumber) = some false)
    (ic_NoNumber : PySem.W.isClsIn K C_NoNumber = true)
    (ty_NoNumber : PySem.W.typeIn K (.ref C_NoNumber) = some (.type "type"))
    (kn_NoPerson : PySem.W.subIn K (.type "NoneType") (.ref C_NoPerson) = some false)
    (ic_NoPerson : PySem.W.isClsIn K C_NoPerson = true)
    (ty_NoPerson : PySem.W.typeIn K (.ref C_NoPerson) = some (.type "type"))
    (kn_TooMany : PySem.W.subIn K (.type "NoneType") (.ref C_TooMany) = some false)
    (ic_TooMany : PySem.W.isClsIn K C_TooMany = true)
    (ty_TooMany : PySem.W.typeIn K (.ref C_TooMany) = some (.type "type"))
    (bF : PySem.W.subIn K (.ref C_FolkError) (.type "BaseException") = some true)
    (hn : PySem.W.specialIn K (.builtin "object.__class__") "__get__" = some (some (.builtin "getset_descriptor.__get__")))
    (ht : PySem.W.takesIn K (.builtin "object.__class__") = some true)
    (a_is_whole : PySem.W.nsIn K mainGlobals "is_whole" = some (some (.ref f_is_whole)))
    (l_is_whole : K.lookup f_is_whole = some ⟨oc_is_whole, od_is_whole, .func (PySem.W.fnOf "is_whole" "is_whole" (defArgs s_is_whole) (defBody s_is_whole) (defScope s_is_whole) .none kV_is_whole dc_is_whole pm_is_whole an_is_whole cd_is_whole ct_is_whole), sl_is_whole⟩)
    (cc_is_whole : PySem.W.codeIn K cd_is_whole "is_whole" = true)
    (ke_is_whole : PySem.W.keepIn K (.ref f_is_whole) = true)
    (a_is_whole_in : PySem.W.nsIn K mainGlobals "is_whole_in" = some (some (.ref f_is_whole_in)))
    (l_is_whole_in : K.lookup f_is_whole_in = some ⟨oc_is_whole_in, od_is_whole_in, .func (PySem.W.fnOf "is_whole_in" "is_whole_in" (defArgs s_is_whole_in) (defBody s_is_whole_in) (defScope s_is_whole_in) .none kV_is_whole_in dc_is_whole_in pm_is_whole_in an_is_whole_in cd_is_whole_in ct_is_whole_in), sl_is_whole_in⟩)
    (cc_is_whole_in : PySem.W.codeIn K cd_is_whole_in "is_whole_in" = true)
    (ke_is_whole_in : PySem.W.keepIn K (.ref f_is_whole_in) = true)
    (a_is_tuple_of : PySem.W.nsIn K mainGlobals "is_tuple_of" = some (some (.ref f_is_tuple_of)))
    (l_is_tuple_of : K.lookup f_is_tuple_of = some ⟨oc_is_tuple_of, od_is_tuple_of, .func (PySem.W.fnOf "is_tuple_of" "is_tuple_of" (defArgs s_is_tuple_of) (defBody s_is_tuple_of) (defScope s_is_tuple_of) .none kV_is_tuple_of dc_is_tuple_of pm_is_tuple_of an_is_tuple_of cd_is_tuple_of ct_is_tuple_of), sl_is_tuple_of⟩)
    (cc_is_tuple_of : PySem.W.codeIn K cd_is_tuple_of "is_tuple_of" = true)
    (ke_is_tuple_of : PySem.W.keepIn K (.ref f_is_tuple_of) = true)
    (a_onto_way : PySem.W.nsIn K mainGlobals "onto_way" = some (some (.ref f_onto_way)))
    (l_onto_way : K.lookup f_onto_way = some ⟨oc_onto_way, od_onto_way, .func (PySem.W.fnOf "onto_way" "onto_way" (defArgs s_onto_way) (defBody s_onto_way) (defScope s_onto_way) .none kV_onto_way dc_onto_way pm_onto_way an_onto_way cd_onto_way ct_onto_way), sl_onto_way⟩)
    (cc_onto_way : PySem.W.codeIn K cd_onto_way "onto_way" = true)
    (ke_onto_way : PySem.W.keepIn K (.ref f_onto_way) = true)
    (a_beyond : PySem.W.nsIn K mainGlobals "beyond" = some (some (.ref f_beyond)))
    (l_beyond : K.lookup f_beyond = some ⟨oc_beyond, od_beyond, .func (PySem.W.fnOf "beyond" "beyond" (defArgs s_beyond) (defBody s_beyond) (defScope s_beyond) .none kV_beyond dc_beyond pm_beyond an_beyond cd_beyond ct_beyond), sl_beyond⟩)
    (cc_beyond : PySem.W.codeIn K cd_beyond "beyond" = true)
    (ke_beyond : PySem.W.keepIn K (.ref f_beyond) = true)
    (a_moved_on : PySem.W.nsIn K mainGlobals "moved_on" = some (some (.ref f_moved_on)))
    (l_moved_on : K.lookup f_moved_on = some ⟨oc_moved_on, od_moved_on, .func (PySem.W.fnOf "moved_on" "moved_on" (defArgs s_moved_on) (defBody s_moved_on) (defScope s_moved_on) .none kV_moved_on dc_moved_on pm_moved_on an_moved_on cd_moved_on ct_moved_on), sl_moved_on⟩)
    (cc_moved_on : PySem.W.codeIn K cd_moved_on "moved_on" = true)
    (ke_moved_on : PySem.W.keepIn K (.ref f_moved_on) = true)
    (a_plain_point : PySem.W.nsIn K mainGlobals "plain_point" = some (some (.ref f_plain_point)))
    (l_plain_point : K.lookup f_plain_point = some ⟨oc_plain_point, od_plain_point, .func (PySem.W.fnOf "plain_point" "plain_point" (defArgs s_plain_point) (defBody s_plain_point) (defScope s_plain_point) .none kV_plain_point dc_plain_point pm_plain_point an_plain_point cd_plain_point ct_plain_point), sl_plain_point⟩)
    (cc_plain_point : PySem.W.codeIn K cd_plain_point "plain_point" = true)
    (ke_plain_point : PySem.W.keepIn K (.ref f_plain_point) = true)
    (a_plain_points : PySem.W.nsIn K mainGlobals "plain_points" = some (some (.ref f_plain_points)))
    (l_plain_points : K.lookup f_plain_points = some ⟨oc_plain_points, od_plain_points, .func (PySem.W.fnOf "plain_points" "plain_points" (defArgs s_plain_points) (defBody s_plain_points) (defScope s_plain_points) .none kV_plain_points dc_plain_points pm_plain_points an_plain_points cd_plain_points ct_plain_points), sl_plain_points⟩)
    (cc_plain_points : PySem.W.codeIn K cd_plain_points "plain_points" = true)
    (ke_plain_points : PySem.W.keepIn K (.ref f_plain_points) = true)
    (a_unit_points : PySem.W.nsIn K mainGlobals "unit_points" = some (some (.ref f_unit_points)))
    (l_unit_points : K.lookup f_unit_points = some ⟨oc_unit_points, od_unit_points, .func (PySem.W.fnOf "unit_points" "unit_points" (defArgs s_unit_points) (defBody s_unit_points) (defScope s_unit_points) .none kV_unit_points dc_unit_points pm_unit_points an_unit_points cd_unit_points ct_unit_points), sl_unit_points⟩)
    (cc_unit_points : PySem.W.codeIn K cd_unit_points "unit_points" = true)
    (ke_unit_points : PySem.W.keepIn K (.ref f_unit_points) = true)
    (a_vectors_between : PySem.W.nsIn K mainGlobals "vectors_between" = some (some (.ref f_vectors_between)))
    (l_vectors_between : K.lookup f_vectors_between = some ⟨oc_vectors_between, od_vectors_between, .func (PySem.W.fnOf "vectors_between" "vectors_between" (defArgs s_vectors_between) (defBody s_vectors_between) (defScope s_vectors_between) .none kV_vectors_between dc_vectors_between pm_vectors_between an_vectors_between cd_vectors_between ct_vectors_between), sl_vectors_between⟩)
    (cc_vectors_between : PySem.W.codeIn K cd_vectors_between "vectors_between" = true)
    (ke_vectors_between : PySem.W.keepIn K (.ref f_vectors_between) = true)
    (a_points_after : PySem.W.nsIn K mainGlobals "points_after" = some (some (.ref f_points_after)))
    (l_points_after : K.lookup f_points_after = some ⟨oc_points_after, od_points_after, .func (PySem.W.fnOf "points_after" "points_after" (defArgs s_points_after) (defBody s_points_after) (defScope s_points_after) .none kV_points_after dc_points_after pm_points_after an_points_after cd_points_after ct_points_after), sl_points_after⟩)
    (cc_points_after : PySem.W.codeIn K cd_points_after "points_after" = true)
    (ke_points_after : PySem.W.keepIn K (.ref f_points_after) = true)
    (a_points_after_run : PySem.W.nsIn K mainGlobals "points_after_run" = some (some (.ref f_points_after_run)))
    (l_points_after_run : K.lookup f_points_after_run = some ⟨oc_points_after_run, od_points_after_run, .func (PySem.W.fnOf "points_after_run" "points_after_run" (defArgs s_points_after_run) (defBody s_points_after_run) (defScope s_points_after_run) .none kV_points_after_run dc_points_after_run pm_points_after_run an_points_after_run cd_points_after_run ct_points_after_run), sl_points_after_run⟩)
    (cc_points_after_run : PySem.W.codeIn K cd_points_after_run "points_after_run" = true)
    (ke_points_after_run : PySem.W.keepIn K (.ref f_points_after_run) = true)
    (a_points_after_row : PySem.W.nsIn K mainGlobals "points_after_row" = some (some (.ref f_points_after_row)))
    (l_points_after_row : K.lookup f_points_after_row = some ⟨oc_points_after_row, od_points_after_row, .func (PySem.W.fnOf "points_after_row" "points_after_row" (defArgs s_points_after_row) (defBody s_points_after_row) (defScope s_points_after_row) .none kV_points_after_row dc_points_after_row pm_points_after_row an_points_after_row cd_points_after_row ct_points_after_row), sl_points_after_row⟩)
    (cc_points_after_row : PySem.W.codeIn K cd_points_after_row "points_after_row" = true)
    (ke_points_after_row : PySem.W.keepIn K (.ref f_points_after_row) = true)
    (a_repeats_alike : PySem.W.nsIn K mainGlobals "repeats_alike" = some (some (.ref f_repeats_alike)))
    (l_repeats_alike : K.lookup f_repeats_alike = some ⟨oc_repeats_alike, od_repeats_alike, .func (PySem.W.fnOf "repeats_alike" "repeats_alike" (defArgs s_repeats_alike) (defBody s_repeats_alike) (defScope s_repeats_alike) .none kV_repeats_alike dc_repeats_alike pm_repeats_alike an_repeats_alike cd_repeats_alike ct_repeats_alike), sl_repeats_alike⟩)
    (cc_repeats_alike : PySem.W.codeIn K cd_repeats_alike "repeats_alike" = true)
    (ke_repeats_alike : PySem.W.keepIn K (.ref f_repeats_alike) = true)
    (a_is_way : PySem.W.nsIn K mainGlobals "is_way" = some (some (.ref f_is_way)))
    (l_is_way : K.lookup f_is_way = some ⟨oc_is_way, od_is_way, .func (PySem.W.fnOf "is_way" "is_way" (defArgs s_is_way) (defBody s_is_way) (defScope s_is_way) .none kV_is_way dc_is_way pm_is_way an_is_way cd_is_way ct_is_way), sl_is_way⟩)
    (cc_is_way : PySem.W.codeIn K cd_is_way "is_way" = true)
    (ke_is_way : PySem.W.keepIn K (.ref f_is_way) = true)
    (a_is_ways : PySem.W.nsIn K mainGlobals "is_ways" = some (some (.ref f_is_ways)))
    (l_is_ways : K.lookup f_is_ways = some ⟨oc_is_ways, od_is_ways, .func (PySem.W.fnOf "is_ways" "is_ways" (defArgs s_is_ways) (defBody s_is_ways) (defScope s_is_ways) .none kV_is_ways dc_is_ways pm_is_ways an_is_ways cd_is_ways ct_is_ways), sl_is_ways⟩)
    (cc_is_ways : PySem.W.codeIn K cd_is_ways "is_ways" = true)
    (ke_is_ways : PySem.W.keepIn K (.ref f_is_ways) = true)
    (a_is_persons : PySem.W.nsIn K mainGlobals "is_persons" = some (some (.ref f_is_persons)))
    (l_is_persons : K.lookup f_is_persons = some ⟨oc_is_persons, od_is_persons, .func (PySem.W.fnOf "is_persons" "is_persons" (defArgs s_is_persons) (defBody s_is_persons) (defScope s_is_persons) .none kV_is_persons dc_is_persons pm_is_persons an_is_persons cd_is_persons ct_is_persons), sl_is_persons⟩)
    (cc_is_persons : PySem.W.codeIn K cd_is_persons "is_persons" = true)
    (ke_is_persons : PySem.W.keepIn K (.ref f_is_persons) = true)
    (a_is_posts : PySem.W.nsIn K mainGlobals "is_posts" = some (some (.ref f_is_posts)))
    (l_is_posts : K.lookup f_is_posts = some ⟨oc_is_posts, od_is_posts, .func (PySem.W.fnOf "is_posts" "is_posts" (defArgs s_is_posts) (defBody s_is_posts) (defScope s_is_posts) .none kV_is_posts dc_is_posts pm_is_posts an_is_posts cd_is_posts ct_is_posts), sl_is_posts⟩)
    (cc_is_posts : PySem.W.codeIn K cd_is_posts "is_posts" = true)
    (ke_is_posts : PySem.W.keepIn K (.ref f_is_posts) = true)
    (a_yard_wrong : PySem.W.nsIn K mainGlobals "yard_wrong" = some (some (.ref f_yard_wrong)))
    (l_yard_wrong : K.lookup f_yard_wrong = some ⟨oc_yard_wrong, od_yard_wrong, .func (PySem.W.fnOf "yard_wrong" "yard_wrong" (defArgs s_yard_wrong) (defBody s_yard_wrong) (defScope s_yard_wrong) .none kV_yard_wrong dc_yard_wrong pm_yard_wrong an_yard_wrong cd_yard_wrong ct_yard_wrong), sl_yard_wrong⟩)
    (cc_yard_wrong : PySem.W.codeIn K cd_yard_wrong "yard_wrong" = true)
    (ke_yard_wrong : PySem.W.keepIn K (.ref f_yard_wrong) = true)
    (a_need_yard : PySem.W.nsIn K mainGlobals "need_yard" = some (some (.ref f_need_yard)))
    (l_need_yard : K.lookup f_need_yard = some ⟨oc_need_yard, od_need_yard, .func (PySem.W.fnOf "need_yard" "need_yard" (defArgs s_need_yard) (defBody s_need_yard) (defScope s_need_yard) .none kV_need_yard dc_need_yard pm_need_yard an_need_yard cd_need_yard ct_need_yard), sl_need_yard⟩)
    (cc_need_yard : PySem.W.codeIn K cd_need_yard "need_yard" = true)
    (ke_need_yard : PySem.W.keepIn K (.ref f_need_yard) = true)
    (a_is_number_on : PySem.W.nsIn K mainGlobals "is_number_on" = some (some (.ref f_is_number_on)))
    (l_is_number_on : K.lookup f_is_number_on = some ⟨oc_is_number_on, od_is_number_on, .func (PySem.W.fnOf "is_number_on" "is_number_on" (defArgs s_is_number_on) (defBody s_is_number_on) (defScope s_is_number_on) .none kV_is_number_on dc_is_number_on pm_is_number_on an_is_number_on cd_is_number_on ct_is_number_on), sl_is_number_on⟩)
    (cc_is_number_on : PySem.W.codeIn K cd_is_number_on "is_number_on" = true)
    (ke_is_number_on : PySem.W.keepIn K (.ref f_is_number_on) = true)
    (a_is_point : PySem.W.nsIn K mainGlobals "is_point" = some (some (.ref f_is_point)))
    (l_is_point : K.lookup f_is_point = some ⟨oc_is_point, od_is_point, .func (PySem.W.fnOf "is_point" "is_point" (defArgs s_is_point) (defBody s_is_point) (defScope s_is_point) .none kV_is_point dc_is_point pm_is_point an_is_point cd_is_point ct_is_point), sl_is_point⟩)
    (cc_is_point : PySem.W.codeIn K cd_is_point "is_point" = true)
    (ke_is_point : PySem.W.keepIn K (.ref f_is_point) = true)
    (a_standing_wrong : PySem.W.nsIn K mainGlobals "standing_wrong" = some (some (.ref f_standing_wrong)))
    (l_standing_wrong : K.lookup f_standing_wrong = some ⟨oc_standing_wrong, od_standing_wrong, .func (PySem.W.fnOf "standing_wrong" "standing_wrong" (defArgs s_standing_wrong) (defBody s_standing_wrong) (defScope s_standing_wrong) .none kV_standing_wrong dc_standing_wrong pm_standing_wrong an_standing_wrong cd_standing_wrong ct_standing_wrong), sl_standing_wrong⟩)
    (cc_standing_wrong : PySem.W.codeIn K cd_standing_wrong "standing_wrong" = true)
    (ke_standing_wrong : PySem.W.keepIn K (.ref f_standing_wrong) = true)
    (a_is_standing : PySem.W.nsIn K mainGlobals "is_standing" = some (some (.ref f_is_standing)))
    (l_is_standing : K.lookup f_is_standing = some ⟨oc_is_standing, od_is_standing, .func (PySem.W.fnOf "is_standing" "is_standing" (defArgs s_is_standing) (defBody s_is_standing) (defScope s_is_standing) .none kV_is_standing dc_is_standing pm_is_standing an_is_standing cd_is_standing ct_is_standing), sl_is_standing⟩)
    (cc_is_standing : PySem.W.codeIn K cd_is_standing "is_standing" = true)
    (ke_is_standing : PySem.W.keepIn K (.ref f_is_standing) = true)
    (a_need_standing : PySem.W.nsIn K mainGlobals "need_standing" = some (some (.ref f_need_standing)))
    (l_need_standing : K.lookup f_need_standing = some ⟨oc_need_standing, od_need_standing, .func (PySem.W.fnOf "need_standing" "need_standing" (defArgs s_need_standing) (defBody s_need_standing) (defScope s_need_standing) .none kV_need_standing dc_need_standing pm_need_standing an_need_standing cd_need_standing ct_need_standing), sl_need_standing⟩)
    (cc_need_standing : PySem.W.codeIn K cd_need_standing "need_standing" = true)
    (ke_need_standing : PySem.W.keepIn K (.ref f_need_standing) = true)
    (a_is_leap : PySem.W.nsIn K mainGlobals "is_leap" = some (some (.ref f_is_leap)))
    (l_is_leap : K.lookup f_is_leap = some ⟨oc_is_leap, od_is_leap, .func (PySem.W.fnOf "is_leap" "is_leap" (defArgs s_is_leap) (defBody s_is_leap) (defScope s_is_leap) .none kV_is_leap dc_is_leap pm_is_leap an_is_leap cd_is_leap ct_is_leap), sl_is_leap⟩)
    (cc_is_leap : PySem.W.codeIn K cd_is_leap "is_leap" = true)
    (ke_is_leap : PySem.W.keepIn K (.ref f_is_leap) = true)
    (a_leap_at_fault : PySem.W.nsIn K mainGlobals "leap_at_fault" = some (some (.ref f_leap_at_fault)))
    (l_leap_at_fault : K.lookup f_leap_at_fault = some ⟨oc_leap_at_fault, od_leap_at_fault, .func (PySem.W.fnOf "leap_at_fault" "leap_at_fault" (defArgs s_leap_at_fault) (defBody s_leap_at_fault) (defScope s_leap_at_fault) .none kV_leap_at_fault dc_leap_at_fault pm_leap_at_fault an_leap_at_fault cd_leap_at_fault ct_leap_at_fault), sl_leap_at_fault⟩)
    (cc_leap_at_fault : PySem.W.codeIn K cd_leap_at_fault "leap_at_fault" = true)
    (ke_leap_at_fault : PySem.W.keepIn K (.ref f_leap_at_fault) = true)
    (a_is_steady : PySem.W.nsIn K mainGlobals "is_steady" = some (some (.ref f_is_steady)))
    (l_is_steady : K.lookup f_is_steady = some ⟨oc_is_steady, od_is_steady, .func (PySem.W.fnOf "is_steady" "is_steady" (defArgs s_is_steady) (defBody s_is_steady) (defScope s_is_steady) .none kV_is_steady dc_is_steady pm_is_steady an_is_steady cd_is_steady ct_is_steady), sl_is_steady⟩)
    (cc_is_steady : PySem.W.codeIn K cd_is_steady "is_steady" = true)
    (ke_is_steady : PySem.W.keepIn K (.ref f_is_steady) = true)
    (a_run_wrong : PySem.W.nsIn K mainGlobals "run_wrong" = some (some (.ref f_run_wrong)))
    (l_run_wrong : K.lookup f_run_wrong = some ⟨oc_run_wrong, od_run_wrong, .func (PySem.W.fnOf "run_wrong" "run_wrong" (defArgs s_run_wrong) (defBody s_run_wrong) (defScope s_run_wrong) .none kV_run_wrong dc_run_wrong pm_run_wrong an_run_wrong cd_run_wrong ct_run_wrong), sl_run_wrong⟩)
    (cc_run_wrong : PySem.W.codeIn K cd_run_wrong "run_wrong" = true)
    (ke_run_wrong : PySem.W.keepIn K (.ref f_run_wrong) = true)
    (a_runs_wrong : PySem.W.nsIn K mainGlobals "runs_wrong" = some (some (.ref f_runs_wrong)))
    (l_runs_wrong : K.lookup f_runs_wrong = some ⟨oc_runs_wrong, od_runs_wrong, .func (PySem.W.fnOf "runs_wrong" "runs_wrong" (defArgs s_runs_wrong) (defBody s_runs_wrong) (defScope s_runs_wrong) .none kV_runs_wrong dc_runs_wrong pm_runs_wrong an_runs_wrong cd_runs_wrong ct_runs_wrong), sl_runs_wrong⟩)
    (cc_runs_wrong : PySem.W.codeIn K cd_runs_wrong "runs_wrong" = true)
    (ke_runs_wrong : PySem.W.keepIn K (.ref f_runs_wrong) = true)
    (a_need_runs : PySem.W.nsIn K mainGlobals "need_runs" = some (some (.ref f_need_runs)))
    (l_need_runs : K.lookup f_need_runs = some ⟨oc_need_runs, od_need_runs, .func (PySem.W.fnOf "need_runs" "need_runs" (defArgs s_need_runs) (defBody s_need_runs) (defScope s_need_runs) .none kV_need_runs dc_need_runs pm_need_runs an_need_runs cd_need_runs ct_need_runs), sl_need_runs⟩)
    (cc_need_runs : PySem.W.codeIn K cd_need_runs "need_runs" = true)
    (ke_need_runs : PySem.W.keepIn K (.ref f_need_runs) = true)
    (a_row_wrong : PySem.W.nsIn K mainGlobals "row_wrong" = some (some (.ref f_row_wrong)))
    (l_row_wrong : K.lookup f_row_wrong = some ⟨oc_row_wrong, od_row_wrong, .func (PySem.W.fnOf "row_wrong" "row_wrong" (defArgs s_row_wrong) (defBody s_row_wrong) (defScope s_row_wrong) .none kV_row_wrong dc_row_wrong pm_row_wrong an_row_wrong cd_row_wrong ct_row_wrong), sl_row_wrong⟩)
    (cc_row_wrong : PySem.W.codeIn K cd_row_wrong "row_wrong" = true)
    (ke_row_wrong : PySem.W.keepIn K (.ref f_row_wrong) = true)
    (a_done : PySem.W.nsIn K mainGlobals "done" = some (some (.ref f_done)))
    (l_done : K.lookup f_done = some ⟨oc_done, od_done, .func (PySem.W.fnOf "done" "done" (defArgs s_done) (defBody s_done) (defScope s_done) .none kV_done dc_done pm_done an_done cd_done ct_done), sl_done⟩)
    (cc_done : PySem.W.codeIn K cd_done "done" = true)
    (ke_done : PySem.W.keepIn K (.ref f_done) = true)
    (a__law_mixed : PySem.W.nsIn K mainGlobals "_law_mixed" = some (some (.ref f__law_mixed)))
    (l__law_mixed : K.lookup f__law_mixed = some ⟨oc__law_mixed, od__law_mixed, .func (PySem.W.fnOf "_law_mixed" "_law_mixed" (defArgs s__law_mixed) (defBody s__law_mixed) (defScope s__law_mixed) .none kV__law_mixed dc__law_mixed pm__law_mixed an__law_mixed cd__law_mixed ct__law_mixed), sl__law_mixed⟩)
    (cc__law_mixed : PySem.W.codeIn K cd__law_mixed "_law_mixed" = true)
    (ke__law_mixed : PySem.W.keepIn K (.ref f__law_mixed) = true)
    (a__law_pile : PySem.W.nsIn K mainGlobals "_law_pile" = some (some (.ref f__law_pile)))
    (l__law_pile : K.lookup f__law_pile = some ⟨oc__law_pile, od__law_pile, .func (PySem.W.fnOf "_law_pile" "_law_pile" (defArgs s__law_pile) (defBody s__law_pile) (defScope s__law_pile) .none kV__law_pile dc__law_pile pm__law_pile an__law_pile cd__law_pile ct__law_pile), sl__law_pile⟩)
    (cc__law_pile : PySem.W.codeIn K cd__law_pile "_law_pile" = true)
    (ke__law_pile : PySem.W.keepIn K (.ref f__law_pile) = true)
    (a__law_take : PySem.W.nsIn K mainGlobals "_law_take" = some (some (.ref f__law_take)))
    (l__law_take : K.lookup f__law_take = some ⟨oc__law_take, od__law_take, .func (PySem.W.fnOf "_law_take" "_law_take" (defArgs s__law_take) (defBody s__law_take) (defScope s__law_take) .none kV__law_take dc__law_take pm__law_take an__law_take cd__law_take ct__law_take), sl__law_take⟩)
    (cc__law_take : PySem.W.codeIn K cd__law_take "_law_take" = true)
    (ke__law_take : PySem.W.keepIn K (.ref f__law_take) = true)
    (a__law_great : PySem.W.nsIn K mainGlobals "_law_great" = some (some (.ref f__law_great)))
    (l__law_great : K.lookup f__law_great = some ⟨oc__law_great, od__law_great, .func (PySem.W.fnOf "_law_great" "_law_great" (defArgs s__law_great) (defBody s__law_great) (defScope s__law_great) .none kV__law_great dc__law_great pm__law_great an__law_great cd__law_great ct__law_great), sl__law_great⟩)
    (cc__law_great : PySem.W.codeIn K cd__law_great "_law_great" = true)
    (ke__law_great : PySem.W.keepIn K (.ref f__law_great) = true)
    (a__law_number : PySem.W.nsIn K mainGlobals "_law_number" = some (some (.ref f__law_number)))
    (l__law_number : K.lookup f__law_number = some ⟨oc__law_number, od__law_number, .func (PySem.W.fnOf "_law_number" "_law_number" (defArgs s__law_number) (defBody s__law_number) (defScope s__law_number) .none kV__law_number dc__law_number pm__law_number an__law_number cd__law_number ct__law_number), sl__law_number⟩)
    (cc__law_number : PySem.W.codeIn K cd__law_number "_law_number" = true)
    (ke__law_number : PySem.W.keepIn K (.ref f__law_number) = true)
    (a__law_ways : PySem.W.nsIn K mainGlobals "_law_ways" = some (some (.ref f__law_ways)))
    (l__law_ways : K.lookup f__law_ways = some ⟨oc__law_ways, od__law_ways, .func (PySem.W.fnOf "_law_ways" "_law_ways" (defArgs s__law_ways) (defBody s__law_ways) (defScope s__law_ways) .none kV__law_ways dc__law_ways pm__law_ways an__law_ways cd__law_ways ct__law_ways), sl__law_ways⟩)
    (cc__law_ways : PySem.W.codeIn K cd__law_ways "_law_ways" = true)
    (ke__law_ways : PySem.W.keepIn K (.ref f__law_ways) = true)
    (a__law_vector : PySem.W.nsIn K mainGlobals "_law_vector" = some (some (.ref f__law_vector)))
    (l__law_vector : K.lookup f__law_vector = some ⟨oc__law_vector, od__law_vector, .func (PySem.W.fnOf "_law_vector" "_law_vector" (defArgs s__law_vector) (defBody s__law_vector) (defScope s__law_vector) .none kV__law_vector dc__law_vector pm__law_vector an__law_vector cd__law_vector ct__law_vector), sl__law_vector⟩)
    (cc__law_vector : PySem.W.codeIn K cd__law_vector "_law_vector" = true)
    (ke__law_vector : PySem.W.keepIn K (.ref f__law_vector) = true)
    (a__law_put : PySem.W.nsIn K mainGlobals "_law_put" = some (some (.ref f__law_put)))
    (l__law_put : K.lookup f__law_put = some ⟨oc__law_put, od__law_put, .func (PySem.W.fnOf "_law_put" "_law_put" (defArgs s__law_put) (defBody s__law_put) (defScope s__law_put) .none kV__law_put dc__law_put pm__law_put an__law_put cd__law_put ct__law_put), sl__law_put⟩)
    (cc__law_put : PySem.W.codeIn K cd__law_put "_law_put" = true)
    (ke__law_put : PySem.W.keepIn K (.ref f__law_put) = true)
    (a__law_round : PySem.W.nsIn K mainGlobals "_law_round" = some (some (.ref f__law_round)))
    (l__law_round : K.lookup f__law_round = some ⟨oc__law_round, od__law_round, .func (PySem.W.fnOf "_law_round" "_law_round" (defArgs s__law_round) (defBody s__law_round) (defScope s__law_round) .none kV__law_round dc__law_round pm__law_round an__law_round cd__law_round ct__law_round), sl__law_round⟩)
    (cc__law_round : PySem.W.codeIn K cd__law_round "_law_round" = true)
    (ke__law_round : PySem.W.keepIn K (.ref f__law_round) = true)
    (a__law_standing : PySem.W.nsIn K mainGlobals "_law_standing" = some (some (.ref f__law_standing)))
    (l__law_standing : K.lookup f__law_standing = some ⟨oc__law_standing, od__law_standing, .func (PySem.W.fnOf "_law_standing" "_law_standing" (defArgs s__law_standing) (defBody s__law_standing) (defScope s__law_standing) .none kV__law_standing dc__law_standing pm__law_standing an__law_standing cd__law_standing ct__law_standing), sl__law_standing⟩)
    (cc__law_standing : PySem.W.codeIn K cd__law_standing "_law_standing" = true)
    (ke__law_standing : PySem.W.keepIn K (.ref f__law_standing) = true)
    (a__law_leap : PySem.W.nsIn K mainGlobals "_law_leap" = some (some (.ref f__law_leap)))
    (l__law_leap : K.lookup f__law_leap = some ⟨oc__law_leap, od__law_leap, .func (PySem.W.fnOf "_law_leap" "_law_leap" (defArgs s__law_leap) (defBody s__law_leap) (defScope s__law_leap) .none kV__law_leap dc__law_leap pm__law_leap an__law_leap cd__law_leap ct__law_leap), sl__law_leap⟩)
    (cc__law_leap : PySem.W.codeIn K cd__law_leap "_law_leap" = true)
    (ke__law_leap : PySem.W.keepIn K (.ref f__law_leap) = true)
    (a__law_places : PySem.W.nsIn K mainGlobals "_law_places" = some (some (.ref f__law_places)))
    (l__law_places : K.lookup f__law_places = some ⟨oc__law_places, od__law_places, .func (PySem.W.fnOf "_law_places" "_law_places" (defArgs s__law_places) (defBody s__law_places) (defScope s__law_places) .none kV__law_places dc__law_places pm__law_places an__law_places cd__law_places ct__law_places), sl__law_places⟩)
    (cc__law_places : PySem.W.codeIn K cd__law_places "_law_places" = true)
    (ke__law_places : PySem.W.keepIn K (.ref f__law_places) = true)
    (a__law_done : PySem.W.nsIn K mainGlobals "_law_done" = some (some (.ref f__law_done)))
    (l__law_done : K.lookup f__law_done = some ⟨oc__law_done, od__law_done, .func (PySem.W.fnOf "_law_done" "_law_done" (defArgs s__law_done) (defBody s__law_done) (defScope s__law_done) .none kV__law_done dc__law_done pm__law_done an__law_done cd__law_done ct__law_done), sl__law_done⟩)
    (cc__law_done : PySem.W.codeIn K cd__law_done "_law_done" = true)
    (ke__law_done : PySem.W.keepIn K (.ref f__law_done) = true)
    (a__law_steady : PySem.W.nsIn K mainGlobals "_law_steady" = some (some (.ref f__law_steady)))
    (l__law_steady : K.lookup f__law_steady = some ⟨oc__law_steady, od__law_steady, .func (PySem.W.fnOf "_law_steady" "_law_steady" (defArgs s__law_steady) (defBody s__law_steady) (defScope s__law_steady) .none kV__law_steady dc__law_steady pm__law_steady an__law_steady cd__law_steady ct__law_steady), sl__law_steady⟩)
    (cc__law_steady : PySem.W.codeIn K cd__law_steady "_law_steady" = true)
    (ke__law_steady : PySem.W.keepIn K (.ref f__law_steady) = true)
    (a__law_kind : PySem.W.nsIn K mainGlobals "_law_kind" = some (some (.ref f__law_kind)))
    (l__law_kind : K.lookup f__law_kind = some ⟨oc__law_kind, od__law_kind, .func (PySem.W.fnOf "_law_kind" "_law_kind" (defArgs s__law_kind) (defBody s__law_kind) (defScope s__law_kind) .none kV__law_kind dc__law_kind pm__law_kind an__law_kind cd__law_kind ct__law_kind), sl__law_kind⟩)
    (cc__law_kind : PySem.W.codeIn K cd__law_kind "_law_kind" = true)
    (ke__law_kind : PySem.W.keepIn K (.ref f__law_kind) = true)
    (a__law_some_leaps : PySem.W.nsIn K mainGlobals "_law_some_leaps" = some (some (.ref f__law_some_leaps)))
    (l__law_some_leaps : K.lookup f__law_some_leaps = some ⟨oc__law_some_leaps, od__law_some_leaps, .func (PySem.W.fnOf "_law_some_leaps" "_law_some_leaps" (defArgs s__law_some_leaps) (defBody s__law_some_leaps) (defScope s__law_some_leaps) .none kV__law_some_leaps dc__law_some_leaps pm__law_some_leaps an__law_some_leaps cd__law_some_leaps ct__law_some_leaps), sl__law_some_leaps⟩)
    (cc__law_some_leaps : PySem.W.codeIn K cd__law_some_leaps "_law_some_leaps" = true)
    (ke__law_some_leaps : PySem.W.keepIn K (.ref f__law_some_leaps) = true)
    (a__law_caught : PySem.W.nsIn K mainGlobals "_law_caught" = some (some (.ref f__law_caught)))
    (l__law_caught : K.lookup f__law_caught = some ⟨oc__law_caught, od__law_caught, .func (PySem.W.fnOf "_law_caught" "_law_caught" (defArgs s__law_caught) (defBody s__law_caught) (defScope s__law_caught) .none kV__law_caught dc__law_caught pm__law_caught an__law_caught cd__law_caught ct__law_caught), sl__law_caught⟩)
    (cc__law_caught : PySem.W.codeIn K cd__law_caught "_law_caught" = true)
    (ke__law_caught : PySem.W.keepIn K (.ref f__law_caught) = true)
    (a__law_refused : PySem.W.nsIn K mainGlobals "_law_refused" = some (some (.ref f__law_refused)))
    (l__law_refused : K.lookup f__law_refused = some ⟨oc__law_refused, od__law_refused, .func (PySem.W.fnOf "_law_refused" "_law_refused" (defArgs s__law_refused) (defBody s__law_refused) (defScope s__law_refused) .none kV__law_refused dc__law_refused pm__law_refused an__law_refused cd__law_refused ct__law_refused), sl__law_refused⟩)
    (cc__law_refused : PySem.W.codeIn K cd__law_refused "_law_refused" = true)
    (ke__law_refused : PySem.W.keepIn K (.ref f__law_refused) = true)
    (a_law : PySem.W.nsIn K mainGlobals "law" = some (some (.ref f_law)))
    (l_law : K.lookup f_law = some ⟨oc_law, od_law, .func (PySem.W.fnOf "law" "law" (defArgs s_law) (defBody s_law) (defScope s_law) .none kV_law dc_law pm_law an_law cd_law ct_law), sl_law⟩)
    (cc_law : PySem.W.codeIn K cd_law "law" = true)
    (ke_law : PySem.W.keepIn K (.ref f_law) = true)
    (zz_ValueError : PySem.W.nsIn K mainGlobals "ValueError" = some none)
    (zz_abs : PySem.W.nsIn K mainGlobals "abs" = some none)
    (zz_all : PySem.W.nsIn K mainGlobals "all" = some none)
    (zz_bool : PySem.W.nsIn K mainGlobals "bool" = some none)
    (zz_enumerate : PySem.W.nsIn K mainGlobals "enumerate" = some none)
    (zz_int : PySem.W.nsIn K mainGlobals "int" = some none)
    (zz_isinstance : PySem.W.nsIn K mainGlobals "isinstance" = some none)
    (zz_len : PySem.W.nsIn K mainGlobals "len" = some none)
    (zz_list : PySem.W.nsIn K mainGlobals "list" = some none)
    (zz_max : PySem.W.nsIn K mainGlobals "max" = some none)
    (zz_range : PySem.W.nsIn K mainGlobals "range" = some none)
    (zz_tuple : PySem.W.nsIn K mainGlobals "tuple" = some none)
    (zz_zip : PySem.W.nsIn K mainGlobals "zip" = some none)
    (v_LEAST_PERSONS : PySem.W.nsIn K mainGlobals "LEAST_PERSONS" = some (some (.int 2 t_LEAST_PERSONS)))
    (v_MOST_LEAPS : PySem.W.nsIn K mainGlobals "MOST_LEAPS" = some (some (.int 40 t_MOST_LEAPS)))
    (v_MOST_PERSONS : PySem.W.nsIn K mainGlobals "MOST_PERSONS" = some (some (.int 6 t_MOST_PERSONS)))
    (v_MOST_WAYS : PySem.W.nsIn K mainGlobals "MOST_WAYS" = some (some (.int 3 t_MOST_WAYS))) :
    ∃ fd : FuncData, (∀ (s : Shared) (v : Value), BindsTo s fd ⟨[v], []⟩ [("script", v)]) ∧ ∀ base : Heap, K.In base → base.Ns mainGlobals mg → FnOk l.prog w K mg base (L2.CX l.prog w) 10 fa fd ["script"] (spD K 1 m_law) := by
  have e := hfa.symm.trans (PySem.W.mg_of X G a_law)
  cases e
  have F_is_whole := fun_mk (st := s_is_whole) l_is_whole cc_is_whole ke_is_whole
  have b_is_whole := F_is_whole.binds (ps := ["thing"]) fun _ _ _ _ _ _ us hl => match us, hl with | [_], _ => rfl
  have F_is_whole_in := fun_mk (st := s_is_whole_in) l_is_whole_in cc_is_whole_in ke_is_whole_in
  have b_is_whole_in := F_is_whole_in.binds (ps := ["least", "most", "thing"]) fun _ _ _ _ _ _ us hl => match us, hl with | [_, _, _], _ => rfl
  have F_is_tuple_of := fun_mk (st := s_is_tuple_of) l_is_tuple_of cc_is_tuple_of ke_is_tuple_of
  have b_is_tuple_of := F_is_tuple_of.binds (ps := ["least", "most", "thing"]) fun _ _ _ _ _ _ us hl => match us, hl with | [_, _, _], _ => rfl
  have F_onto_way := fun_mk (st := s_onto_way) l_onto_way cc_onto_way ke_onto_way
  have b_onto_way := F_onto_way.binds (ps := ["way", "number"]) fun _ _ _ _ _ _ us hl => match us, hl with | [_, _], _ => rfl
  have F_beyond := fun_mk (st := s_beyond) l_beyond cc_beyond ke_beyond
  have b_beyond := F_beyond.binds (ps := ["ways", "start", "over"]) fun _ _ _ _ _ _ us hl => match us, hl with | [_, _, _], _ => rfl
  have F_moved_on := fun_mk (st := s_moved_on) l_moved_on cc_moved_on ke_moved_on
  have b_moved_on := F_moved_on.binds (ps := ["ways", "start", "end", "times"]) fun _ _ _ _ _ _ us hl => match us, hl with | [_, _, _, _], _ => rfl
  have F_plain_point := fun_mk (st := s_plain_point) l_plain_point cc_plain_point ke_plain_point
  have b_plain_point := F_plain_point.binds (ps := ["point"]) fun _ _ _ _ _ _ us hl => match us, hl with | [_], _ => rfl
  have F_plain_points := fun_mk (st := s_plain_points) l_plain_points cc_plain_points ke_plain_points
  have b_plain_points := F_plain_points.binds (ps := ["standing"]) fun _ _ _ _ _ _ us hl => match us, hl with | [_], _ => rfl
  have F_unit_points := fun_mk (st := s_unit_points) l_unit_points cc_unit_points ke_unit_points
  have b_unit_points := F_unit_points.binds (ps := ["persons"]) fun _ _ _ _ _ _ us hl => match us, hl with | [_], _ => rfl
  have F_vectors_between := fun_mk (st := s_vectors_between) l_vectors_between cc_vectors_between ke_vectors_between
  have b_vectors_between := F_vectors_between.binds (ps := ["starts", "ends"]) fun _ _ _ _ _ _ us hl => match us, hl with | [_, _], _ => rfl
  have F_points_after := fun_mk (st := s_points_after) l_points_after cc_points_after ke_points_after
  have b_points_after := F_points_after.binds (ps := ["ways", "points", "leaps"]) fun _ _ _ _ _ _ us hl => match us, hl with | [_, _, _], _ => rfl
  have F_points_after_run := fun_mk (st := s_points_after_run) l_points_after_run cc_points_after_run ke_points_after_run
  have b_points_after_run := F_points_after_run.binds (ps := ["ways", "points", "run"]) fun _ _ _ _ _ _ us hl => match us, hl with | [_, _, _], _ => rfl
  have F_points_after_row := fun_mk (st := s_points_after_row) l_points_after_row cc_points_after_row ke_points_after_row
  have b_points_after_row := F_points_after_row.binds (ps := ["ways", "points", "row"]) fun _ _ _ _ _ _ us hl => match us, hl with | [_, _, _], _ => rfl
  have F_repeats_alike := fun_mk (st := s_repeats_alike) l_repeats_alike cc_repeats_alike ke_repeats_alike
  have b_repeats_alike := F_repeats_alike.binds (ps := ["persons", "leaps"]) fun _ _ _ _ _ _ us hl => match us, hl with | [_, _], _ => rfl
  have F_is_way := fun_mk (st := s_is_way) l_is_way cc_is_way ke_is_way
  have b_is_way := F_is_way.binds (ps := ["thing"]) fun _ _ _ _ _ _ us hl => match us, hl with | [_], _ => rfl
  have F_is_ways := fun_mk (st := s_is_ways) l_is_ways cc_is_ways ke_is_ways
  have b_is_ways := F_is_ways.binds (ps := ["thing"]) fun _ _ _ _ _ _ us hl => match us, hl with | [_], _ => rfl
  have F_is_persons := fun_mk (st := s_is_persons) l_is_persons cc_is_persons ke_is_persons
  have b_is_persons := F_is_persons.binds (ps := ["thing"]) fun _ _ _ _ _ _ us hl => match us, hl with | [_], _ => rfl
  have F_is_posts := fun_mk (st := s_is_posts) l_is_posts cc_is_posts ke_is_posts
  have b_is_posts := F_is_posts.binds (ps := ["persons", "thing"]) fun _ _ _ _ _ _ us hl => match us, hl with | [_, _], _ => rfl
  have F_yard_wrong := fun_mk (st := s_yard_wrong) l_yard_wrong cc_yard_wrong ke_yard_wrong
  have b_yard_wrong := F_yard_wrong.binds (ps := ["thing"]) fun _ _ _ _ _ _ us hl => match us, hl with | [_], _ => rfl
  have F_need_yard := fun_mk (st := s_need_yard) l_need_yard cc_need_yard ke_need_yard
  have b_need_yard := F_need_yard.binds (ps := ["yard"]) fun _ _ _ _ _ _ us hl => match us, hl with | [_], _ => rfl
  have F_is_number_on := fun_mk (st := s_is_number_on) l_is_number_on cc_is_number_on ke_is_number_on
  have b_is_number_on := F_is_number_on.binds (ps := ["way", "thing"]) fun _ _ _ _ _ _ us hl => match us, hl with | [_, _], _ => rfl
  have F_is_point := fun_mk (st := s_is_point) l_is_point cc_is_point ke_is_point
  have b_is_point := F_is_point.binds (ps := ["ways", "thing"]) fun _ _ _ _ _ _ us hl => match us, hl with | [_, _], _ => rfl
  have F_standing_wrong := fun_mk (st := s_standing_wrong) l_standing_wrong cc_standing_wrong ke_standing_wrong
  have b_standing_wrong := F_standing_wrong.binds (ps := ["yard", "thing"]) fun _ _ _ _ _ _ us hl => match us, hl with | [_, _], _ => rfl
  have F_is_standing := fun_mk (st := s_is_standing) l_is_standing cc_is_standing ke_is_standing
  have b_is_standing := F_is_standing.binds (ps := ["yard", "thing"]) fun _ _ _ _ _ _ us hl => match us, hl with | [_, _], _ => rfl
  have F_need_standing := fun_mk (st := s_need_standing) l_need_standing cc_need_standing ke_need_standing
  have b_need_standing := F_need_standing.binds (ps := ["yard", "standing"]) fun _ _ _ _ _ _ us hl => match us, hl with | [_, _], _ => rfl
  have F_is_leap := fun_mk (st := s_is_leap) l_is_leap cc_is_leap ke_is_leap
  have b_is_leap := F_is_leap.binds (ps := ["persons", "posts", "thing"]) fun _ _ _ _ _ _ us hl => match us, hl with | [_, _, _], _ => rfl
  have F_leap_at_fault := fun_mk (st := s_leap_at_fault) l_leap_at_fault cc_leap_at_fault ke_leap_at_fault
  have b_leap_at_fault := F_leap_at_fault.binds (ps := ["persons", "posts", "leaps"]) fun _ _ _ _ _ _ us hl => match us, hl with | [_, _, _], _ => rfl
  have F_is_steady := fun_mk (st := s_is_steady) l_is_steady cc_is_steady ke_is_steady
  have b_is_steady := F_is_steady.binds (ps := ["persons", "leaps"]) fun _ _ _ _ _ _ us hl => match us, hl with | [_, _], _ => rfl
  have F_run_wrong := fun_mk (st := s_run_wrong) l_run_wrong cc_run_wrong ke_run_wrong
  have b_run_wrong := F_run_wrong.binds (ps := ["persons", "posts", "n", "run"]) fun _ _ _ _ _ _ us hl => match us, hl with | [_, _, _, _], _ => rfl
  have F_runs_wrong := fun_mk (st := s_runs_wrong) l_runs_wrong cc_runs_wrong ke_runs_wrong
  have b_runs_wrong := F_runs_wrong.binds (ps := ["persons", "posts", "thing"]) fun _ _ _ _ _ _ us hl => match us, hl with | [_, _, _], _ => rfl
  have F_need_runs := fun_mk (st := s_need_runs) l_need_runs cc_need_runs ke_need_runs
  have b_need_runs := F_need_runs.binds (ps := ["persons", "posts", "row"]) fun _ _ _ _ _ _ us hl => match us, hl with | [_, _, _], _ => rfl
  have F_row_wrong := fun_mk (st := s_row_wrong) l_row_wrong cc_row_wrong ke_row_wrong
  have b_row_wrong := F_row_wrong.binds (ps := ["yard", "thing"]) fun _ _ _ _ _ _ us hl => match us, hl with | [_, _], _ => rfl
  have F_done := fun_mk (st := s_done) l_done cc_done ke_done
  have b_done := F_done.binds (ps := ["yard", "standing", "row"]) fun _ _ _ _ _ _ us hl => match us, hl with | [_, _, _], _ => rfl
  have F__law_mixed := fun_mk (st := s__law_mixed) l__law_mixed cc__law_mixed ke__law_mixed
  have b__law_mixed := F__law_mixed.binds (ps := ["cell", "k"]) fun _ _ _ _ _ _ us hl => match us, hl with | [_, _], _ => rfl
  have F__law_pile := fun_mk (st := s__law_pile) l__law_pile cc__law_pile ke__law_pile
  have b__law_pile := F__law_pile.binds (ps := ["script", "k"]) fun _ _ _ _ _ _ us hl => match us, hl with | [_, _], _ => rfl
  have F__law_take := fun_mk (st := s__law_take) l__law_take cc__law_take ke__law_take
  have b__law_take := F__law_take.binds (ps := ["pile", "many"]) fun _ _ _ _ _ _ us hl => match us, hl with | [_, _], _ => rfl
  have F__law_great := fun_mk (st := s__law_great) l__law_great cc__law_great ke__law_great
  have b__law_great := F__law_great.binds (ps := ["pile"]) fun _ _ _ _ _ _ us hl => match us, hl with | [_], _ => rfl
  have F__law_number := fun_mk (st := s__law_number) l__law_number cc__law_number ke__law_number
  have b__law_number := F__law_number.binds (ps := ["pile"]) fun _ _ _ _ _ _ us hl => match us, hl with | [_], _ => rfl
  have F__law_ways := fun_mk (st := s__law_ways) l__law_ways cc__law_ways ke__law_ways
  have b__law_ways := F__law_ways.binds (ps := ["pile", "upto"]) fun _ _ _ _ _ _ us hl => match us, hl with | [_, _], _ => rfl
  have F__law_vector := fun_mk (st := s__law_vector) l__law_vector cc__law_vector ke__law_vector
  have b__law_vector := F__law_vector.binds (ps := ["pile", "ways"]) fun _ _ _ _ _ _ us hl => match us, hl with | [_, _], _ => rfl
  have F__law_put := fun_mk (st := s__law_put) l__law_put cc__law_put ke__law_put
  have b__law_put := F__law_put.binds (ps := ["one", "other", "times"]) fun _ _ _ _ _ _ us hl => match us, hl with | [_, _, _], _ => rfl
  have F__law_round := fun_mk (st := s__law_round) l__law_round cc__law_round ke__law_round
  have b__law_round := F__law_round.binds (ps := ["ways", "vector"]) fun _ _ _ _ _ _ us hl => match us, hl with | [_, _], _ => rfl
  have F__law_standing := fun_mk (st := s__law_standing) l__law_standing cc__law_standing ke__law_standing
  have b__law_standing := F__law_standing.binds (ps := ["pile", "ways", "persons"]) fun _ _ _ _ _ _ us hl => match us, hl with | [_, _, _], _ => rfl
  have F__law_leap := fun_mk (st := s__law_leap) l__law_leap cc__law_leap ke__law_leap
  have b__law_leap := F__law_leap.binds (ps := ["pile", "yard"]) fun _ _ _ _ _ _ us hl => match us, hl with | [_, _], _ => rfl
  have F__law_places := fun_mk (st := s__law_places) l__law_places cc__law_places ke__law_places
  have b__law_places := F__law_places.binds (ps := ["points", "leaps"]) fun _ _ _ _ _ _ us hl => match us, hl with | [_, _], _ => rfl
  have F__law_done := fun_mk (st := s__law_done) l__law_done cc__law_done ke__law_done
  have b__law_done := F__law_done.binds (ps := ["ways", "standing", "row"]) fun _ _ _ _ _ _ us hl => match us, hl with | [_, _, _], _ => rfl
  have F__law_steady := fun_mk (st := s__law_steady) l__law_steady cc__law_steady ke__law_steady
  have b__law_steady := F__law_steady.binds (ps := ["persons", "leaps"]) fun _ _ _ _ _ _ us hl => match us, hl with | [_, _], _ => rfl
  have F__law_kind := fun_mk (st := s__law_kind) l__law_kind cc__law_kind ke__law_kind
  have b__law_kind := F__law_kind.binds (ps := ["e"]) fun _ _ _ _ _ _ us hl => match us, hl with | [_], _ => rfl
  have F__law_some_leaps := fun_mk (st := s__law_some_leaps) l__law_some_leaps cc__law_some_leaps ke__law_some_leaps
  have b__law_some_leaps := F__law_some_leaps.binds (ps := ["pile", "yard"]) fun _ _ _ _ _ _ us hl => match us, hl with | [_, _], _ => rfl
  have F__law_caught := fun_mk (st := s__law_caught) l__law_caught cc__law_caught ke__law_caught
  have b__law_caught := F__law_caught.binds (ps := ["persons", "leaps"]) fun _ _ _ _ _ _ us hl => match us, hl with | [_, _], _ => rfl
  have F__law_refused := fun_mk (st := s__law_refused) l__law_refused cc__law_refused ke__law_refused
  have b__law_refused := F__law_refused.binds (ps := ["pile", "persons", "leaps"]) fun _ _ _ _ _ _ us hl => match us, hl with | [_, _, _], _ => rfl
  have F_law := fun_mk (st := s_law) l_law cc_law ke_law
  have b_law := F_law.binds (ps := ["script"]) fun _ _ _ _ _ _ us hl => match us, hl with | [_], _ => rfl
  have isi : IsiOk K CL KS := by
    refine ⟨fun j c hj q => ?_, fun j c k c2 hj hk q q2 => ?_, fun k c2 hk q2 => ?_, fun j c hj q => ?_⟩
    · have hj2 : j = 1 ∨ j = 2 ∨ j = 3 ∨ j = 4 := by simpa [CL] using hj
      rcases hj2 with rfl | rfl | rfl | rfl
      · have ec := cls_u n_NoYard rfl q
        subst ec
        exact ⟨hg_NoYard, hk_NoYard, sb_NoYard, hd_NoYard, ha_NoYard, hn, ht, hm_NoYard⟩
      · have ec := cls_u n_NoStanding rfl q
        subst ec
        exact ⟨hg_NoStanding, hk_NoStanding, sb_NoStanding, hd_NoStanding, ha_NoStanding, hn, ht, hm_NoStanding⟩
      · have ec := cls_u n_NoLeap rfl q
        subst ec
        exact ⟨hg_NoLeap, hk_NoLeap, sb_NoLeap, hd_NoLeap, ha_NoLeap, hn, ht, hm_NoLeap⟩
      · have ec := cls_u n_NoRow rfl q
        subst ec
        exact ⟨hg_NoRow, hk_NoRow, sb_NoRow, hd_NoRow, ha_NoRow, hn, ht, hm_NoRow⟩
    · have hj2 : j = 1 ∨ j = 2 ∨ j = 3 ∨ j = 4 := by simpa [CL] using hj
      rcases hj2 with rfl | rfl | rfl | rfl
      · have ec := cls_u n_NoYard rfl q
        subst ec
        have hk2 : k = 0 ∨ k = 1 ∨ k = 2 ∨ k = 3 ∨ k = 4 ∨ k = 5 ∨ k = 6 ∨ k = 7 ∨ k = 8 ∨ k = 9 ∨ k = 10 ∨ k = 11 ∨ k = 12 := by simpa [KS] using hk
        rcases hk2 with rfl | rfl | rfl | rfl | rfl | rfl | rfl | rfl | rfl | rfl | rfl | rfl | rfl
        · have ed := cls_u n_FolkError rfl q2
          rw [ed]
          exact kit_ref ic_FolkError ty_FolkError kk_NoYard_FolkError kk_NoYard_NoYard
        · have ed := cls_u n_NoYard rfl q2
          rw [ed]
          exact kit_ref ic_NoYard ty_NoYard kk_NoYard_NoYard kk_NoYard_NoYard
        · have ed := cls_u n_NoStanding rfl q2
          rw [ed]
          exact kit_ref ic_NoStanding ty_NoStanding kk_NoYard_NoStanding kk_NoYard_NoYard
        · have ed := cls_u n_NoLeap rfl q2
          rw [ed]
          exact kit_ref ic_NoLeap ty_NoLeap kk_NoYard_NoLeap kk_NoYard_NoYard
        · have ed := cls_u n_NoRow rfl q2
          rw [ed]
          exact kit_ref ic_NoRow ty_NoRow kk_NoYard_NoRow kk_NoYard_NoYard
        · have ed := cls_u n_NoVector rfl q2
          rw [ed]
          exact kit_ref ic_NoVector ty_NoVector kk_NoYard_NoVector kk_NoYard_NoYard
        · have ed := cls_u n_NoReading rfl q2
          rw [ed]
          exact kit_ref ic_NoReading ty_NoReading kk_NoYard_NoReading kk_NoYard_NoYard
        · have ed := cls_u n_NoWishes rfl q2
          rw [ed]
          exact kit_ref ic_NoWishes ty_NoWishes kk_NoYard_NoWishes kk_NoYard_NoYard
        · have ed := cls_u n_NoCell rfl q2
          rw [ed]
          exact kit_ref ic_NoCell ty_NoCell kk_NoYard_NoCell kk_NoYard_NoYard
        · have ed := cls_u n_NoTable rfl q2
          rw [ed]
          exact kit_ref ic_NoTable ty_NoTable kk_NoYard_NoTable kk_NoYard_NoYard
        · have ed := cls_u n_NoNumber rfl q2
          rw [ed]
          exact kit_ref ic_NoNumber ty_NoNumber kk_NoYard_NoNumber kk_NoYard_NoYard
        · have ed := cls_u n_NoPerson rfl q2
          rw [ed]
          exact kit_ref ic_NoPerson ty_NoPerson kk_NoYard_NoPerson kk_NoYard_NoYard
        · have ed := cls_u n_TooMany rfl q2
          rw [ed]
          exact kit_ref ic_TooMany ty_TooMany kk_NoYard_TooMany kk_NoYard_NoYard
      · have ec := cls_u n_NoStanding rfl q
        subst ec
        have hk2 : k = 0 ∨ k = 1 ∨ k = 2 ∨ k = 3 ∨ k = 4 ∨ k = 5 ∨ k = 6 ∨ k = 7 ∨ k = 8 ∨ k = 9 ∨ k = 10 ∨ k = 11 ∨ k = 12 := by simpa [KS] using hk
        rcases hk2 with rfl | rfl | rfl | rfl | rfl | rfl | rfl | rfl | rfl | rfl | rfl | rfl | rfl
        · have ed := cls_u n_FolkError rfl q2
          rw [ed]
          exact kit_ref ic_FolkError ty_FolkError kk_NoStanding_FolkError kk_NoStanding_NoStanding
        · have ed := cls_u n_NoYard rfl q2
          rw [ed]
          exact kit_ref ic_NoYard ty_NoYard kk_NoStanding_NoYard kk_NoStanding_NoStanding
        · have ed := cls_u n_NoStanding rfl q2
          rw [ed]
          exact kit_ref ic_NoStanding ty_NoStanding kk_NoStanding_NoStanding kk_NoStanding_NoStanding
        · have ed := cls_u n_NoLeap rfl q2
          rw [ed]
          exact kit_ref ic_NoLeap ty_NoLeap kk_NoStanding_NoLeap kk_NoStanding_NoStanding
        · have ed := cls_u n_NoRow rfl q2
          rw [ed]
          exact kit_ref ic_NoRow ty_NoRow kk_NoStanding_NoRow kk_NoStanding_NoStanding
        · have ed := cls_u n_NoVector rfl q2
          rw [ed]
          exact kit_ref ic_NoVector ty_NoVector kk_NoStanding_NoVector kk_NoStanding_NoStanding
        · have ed := cls_u n_NoReading rfl q2
          rw [ed]
          exact kit_ref ic_NoReading ty_NoReading kk_NoStanding_NoReading kk_NoStanding_NoStanding
        · have ed := cls_u n_NoWishes rfl q2
          rw [ed]
          exact kit_ref ic_NoWishes ty_NoWishes kk_NoStanding_NoWishes kk_NoStanding_NoStanding
        · have ed := cls_u n_NoCell rfl q2
          rw [ed]
          exact kit_ref ic_NoCell ty_NoCell kk_NoStanding_NoCell kk_NoStanding_NoStanding
        · have ed := cls_u n_NoTable rfl q2
          rw [ed]
          exact kit_ref ic_NoTable ty_NoTable kk_NoStanding_NoTable kk_NoStanding_NoStanding
        · have ed := cls_u n_NoNumber rfl q2
          rw [ed]
          exact kit_ref ic_NoNumber ty_NoNumber kk_NoStanding_NoNumber kk_NoStanding_NoStanding
        · have ed := cls_u n_NoPerson rfl q2
          rw [ed]
          exact kit_ref ic_NoPerson ty_NoPerson kk_NoStanding_NoPerson kk_NoStanding_NoStanding
        · have ed := cls_u n_TooMany rfl q2
          rw [ed]
          exact kit_ref ic_TooMany ty_TooMany kk_NoStanding_TooMany kk_NoStanding_NoStanding
      · have ec := cls_u n_NoLeap rfl q
        subst ec
        have hk2 : k = 0 ∨ k = 1 ∨ k = 2 ∨ k = 3 ∨ k = 4 ∨ k = 5 ∨ k = 6 ∨ k = 7 ∨ k = 8 ∨ k = 9 ∨ k = 10 ∨ k = 11 ∨ k = 12 := by simpa [KS] using hk
        rcases hk2 with rfl | rfl | rfl | rfl | rfl | rfl | rfl | rfl | rfl | rfl | rfl | rfl | rfl
        · have ed := cls_u n_FolkError rfl q2
          rw [ed]
          exact kit_ref ic_FolkError ty_FolkError kk_NoLeap_FolkError kk_NoLeap_NoLeap
        · have ed := cls_u n_NoYard rfl q2
          rw [ed]
          exact kit_ref ic_NoYard ty_NoYard kk_NoLeap_NoYard kk_NoLeap_NoLeap
        · have ed := cls_u n_NoStanding rfl q2
          rw [ed]
          exact kit_ref ic_NoStanding ty_NoStanding kk_NoLeap_NoStanding kk_NoLeap_NoLeap
        · have ed := cls_u n_NoLeap rfl q2
          rw [ed]
          exact kit_ref ic_NoLeap ty_NoLeap kk_NoLeap_NoLeap kk_NoLeap_NoLeap
        · have ed := cls_u n_NoRow rfl q2
          rw [ed]
          exact kit_ref ic_NoRow ty_NoRow kk_NoLeap_NoRow kk_NoLeap_NoLeap
        · have ed := cls_u n_NoVector rfl q2
          rw [ed]
          exact kit_ref ic_NoVector ty_NoVector kk_NoLeap_NoVector kk_NoLeap_NoLeap
        · have ed := cls_u n_NoReading rfl q2
          rw [ed]
          exact kit_ref ic_NoReading ty_NoReading kk_NoLeap_NoReading kk_NoLeap_NoLeap
        · have ed := cls_u n_NoWishes rfl q2
          rw [ed]
          exact kit_ref ic_NoWishes ty_NoWishes kk_NoLeap_NoWishes kk_NoLeap_NoLeap
        · have ed := cls_u n_NoCell rfl q2
          rw [ed]
          exact kit_ref ic_NoCell ty_NoCell kk_NoLeap_NoCell kk_NoLeap_NoLeap
        · have ed := cls_u n_NoTable rfl q2
          rw [ed]
          exact kit_ref ic_NoTable ty_NoTable kk_NoLeap_NoTable kk_NoLeap_NoLeap
        · have ed := cls_u n_NoNumber rfl q2
          rw [ed]
          exact kit_ref ic_NoNumber ty_NoNumber kk_NoLeap_NoNumber kk_NoLeap_NoLeap
        · have ed := cls_u n_NoPerson rfl q2
          rw [ed]
          exact kit_ref ic_NoPerson ty_NoPerson kk_NoLeap_NoPerson kk_NoLeap_NoLeap
        · have ed := cls_u n_TooMany rfl q2
          rw [ed]
          exact kit_ref ic_TooMany ty_TooMany kk_NoLeap_TooMany kk_NoLeap_NoLeap
      · have ec := cls_u n_NoRow rfl q
        subst ec
        have hk2 : k = 0 ∨ k = 1 ∨ k = 2 ∨ k = 3 ∨ k = 4 ∨ k = 5 ∨ k = 6 ∨ k = 7 ∨ k = 8 ∨ k = 9 ∨ k = 10 ∨ k = 11 ∨ k = 12 := by simpa [KS] using hk
        rcases hk2 with rfl | rfl | rfl | rfl | rfl | rfl | rfl | rfl | rfl | rfl | rfl | rfl | rfl
        · have ed := cls_u n_FolkError rfl q2
          rw [ed]
          exact kit_ref ic_FolkError ty_FolkError kk_NoRow_FolkError kk_NoRow_NoRow
        · have ed := cls_u n_NoYard rfl q2
          rw [ed]
          exact kit_ref ic_NoYard ty_NoYard kk_NoRow_NoYard kk_NoRow_NoRow
        · have ed := cls_u n_NoStanding rfl q2
          rw [ed]
          exact kit_ref ic_NoStanding ty_NoStanding kk_NoRow_NoStanding kk_NoRow_NoRow
        · have ed := cls_u n_NoLeap rfl q2
          rw [ed]
          exact kit_ref ic_NoLeap ty_NoLeap kk_NoRow_NoLeap kk_NoRow_NoRow
        · have ed := cls_u n_NoRow rfl q2
          rw [ed]
          exact kit_ref ic_NoRow ty_NoRow kk_NoRow_NoRow kk_NoRow_NoRow
        · have ed := cls_u n_NoVector rfl q2
          rw [ed]
          exact kit_ref ic_NoVector ty_NoVector kk_NoRow_NoVector kk_NoRow_NoRow
        · have ed := cls_u n_NoReading rfl q2
          rw [ed]
          exact kit_ref ic_NoReading ty_NoReading kk_NoRow_NoReading kk_NoRow_NoRow
        · have ed := cls_u n_NoWishes rfl q2
          rw [ed]
          exact kit_ref ic_NoWishes ty_NoWishes kk_NoRow_NoWishes kk_NoRow_NoRow
        · have ed := cls_u n_NoCell rfl q2
          rw [ed]
          exact kit_ref ic_NoCell ty_NoCell kk_NoRow_NoCell kk_NoRow_NoRow
        · have ed := cls_u n_NoTable rfl q2
          rw [ed]
          exact kit_ref ic_NoTable ty_NoTable kk_NoRow_NoTable kk_NoRow_NoRow
        · have ed := cls_u n_NoNumber rfl q2
          rw [ed]
          exact kit_ref ic_NoNumber ty_NoNumber kk_NoRow_NoNumber kk_NoRow_NoRow
        · have ed := cls_u n_NoPerson rfl q2
          rw [ed]
          exact kit_ref ic_NoPerson ty_NoPerson kk_NoRow_NoPerson kk_NoRow_NoRow
        · have ed := cls_u n_TooMany rfl q2
          rw [ed]
          exact kit_ref ic_TooMany ty_TooMany kk_NoRow_TooMany kk_NoRow_NoRow
    · have hk2 : k = 0 ∨ k = 1 ∨ k = 2 ∨ k = 3 ∨ k = 4 ∨ k = 5 ∨ k = 6 ∨ k = 7 ∨ k = 8 ∨ k = 9 ∨ k = 10 ∨ k = 11 ∨ k = 12 := by simpa [KS] using hk
      rcases hk2 with rfl | rfl | rfl | rfl | rfl | rfl | rfl | rfl | rfl | rfl | rfl | rfl | rfl
      · have ed := cls_u n_FolkError rfl q2
        rw [ed]
        exact kit_non ic_FolkError ty_FolkError kn_FolkError
      · have ed := cls_u n_NoYard rfl q2
        rw [ed]
        exact kit_non ic_NoYard ty_NoYard kn_NoYard
      · have ed := cls_u n_NoStanding rfl q2
        rw [ed]
        exact kit_non ic_NoStanding ty_NoStanding kn_NoStanding
      · have ed := cls_u n_NoLeap rfl q2
        rw [ed]
        exact kit_non ic_NoLeap ty_NoLeap kn_NoLeap
      · have ed := cls_u n_NoRow rfl q2
        rw [ed]
        exact kit_non ic_NoRow ty_NoRow kn_NoRow
      · have ed := cls_u n_NoVector rfl q2
        rw [ed]
        exact kit_non ic_NoVector ty_NoVector kn_NoVector
      · have ed := cls_u n_NoReading rfl q2
        rw [ed]
        exact kit_non ic_NoReading ty_NoReading kn_NoReading
      · have ed := cls_u n_NoWishes rfl q2
        rw [ed]
        exact kit_non ic_NoWishes ty_NoWishes kn_NoWishes
      · have ed := cls_u n_NoCell rfl q2
        rw [ed]
        exact kit_non ic_NoCell ty_NoCell kn_NoCell
      · have ed := cls_u n_NoTable rfl q2
        rw [ed]
        exact kit_non ic_NoTable ty_NoTable kn_NoTable
      · have ed := cls_u n_NoNumber rfl q2
        rw [ed]
        exact kit_non ic_NoNumber ty_NoNumber kn_NoNumber
      · have ed := cls_u n_NoPerson rfl q2
        rw [ed]
        exact kit_non ic_NoPerson ty_NoPerson kn_NoPerson
      · have ed := cls_u n_TooMany rfl q2
        rw [ed]
        exact kit_non ic_TooMany ty_TooMany kn_TooMany
    · have hj2 : j = 1 ∨ j = 2 ∨ j = 3 ∨ j = 4 := by simpa [CL] using hj
      rcases hj2 with rfl | rfl | rfl | rfl
      · have ec := cls_u n_NoYard rfl q
        subst ec
        exact kit_val kv_NoYard
      · have ec := cls_u n_NoStanding rfl q
        subst ec
        exact kit_val kv_NoStanding
      · have ec := cls_u n_NoLeap rfl q
        subst ec
        exact kit_val kv_NoLeap
      · have ec := cls_u n_NoRow rfl q
        subst ec
        exact kit_val kv_NoRow
  have exm_FolkError : ExmOk K CL 0 (.ref C_FolkError) := by
    intro j cc hj q
    have hj2 : j = 1 ∨ j = 2 ∨ j = 3 ∨ j = 4 := by simpa [CL] using hj
    rcases hj2 with rfl | rfl | rfl | rfl
    · have ec := cls_u n_NoYard rfl q
      subst ec
      exact exm_by bF (kit_cl ic_FolkError ty_FolkError kk_NoYard_FolkError)
    · have ec := cls_u n_NoStanding rfl q
      subst ec
      exact exm_by bF (kit_cl ic_FolkError ty_FolkError kk_NoStanding_FolkError)
    · have ec := cls_u n_NoLeap rfl q
      subst ec
      exact exm_by bF (kit_cl ic_FolkError ty_FolkError kk_NoLeap_FolkError)
    · have ec := cls_u n_NoRow rfl q
      subst ec
      exact exm_by bF (kit_cl ic_FolkError ty_FolkError kk_NoRow_FolkError)
  let T : Txt K mg := {
    f_is_whole := _, d_is_whole := _, F_is_whole := F_is_whole, g_is_whole := PySem.W.mg_of X G a_is_whole, b_is_whole := b_is_whole,
    f_is_whole_in := _, d_is_whole_in := _, F_is_whole_in := F_is_whole_in, g_is_whole_in := PySem.W.mg_of X G a_is_whole_in, b_is_whole_in := b_is_whole_in,
    f_is_tuple_of := _, d_is_tuple_of := _, F_is_tuple_of := F_is_tuple_of, g_is_tuple_of := PySem.W.mg_of X G a_is_tuple_of, b_is_tuple_of := b_is_tuple_of,
    f_onto_way := _, d_onto_way := _, F_onto_way := F_onto_way, g_onto_way := PySem.W.mg_of X G a_onto_way, b_onto_way := b_onto_way,
    f_beyond := _, d_beyond := _, F_beyond := F_beyond, g_beyond := PySem.W.mg_of X G a_beyond, b_beyond := b_beyond,
    f_moved_on := _, d_moved_on := _, F_moved_on := F_moved_on, g_moved_on := PySem.W.mg_of X G a_moved_on, b_moved_on := b_moved_on,
    f_plain_point := _, d_plain_point := _, F_plain_point := F_plain_point, g_plain_point := PySem.W.mg_of X G a_plain_point, b_plain_point := b_plain_point,
    f_plain_points := _, d_plain_points := _, F_plain_points := F_plain_points, g_plain_points := PySem.W.mg_of X G a_plain_points, b_plain_points := b_plain_points,
    f_unit_points := _, d_unit_points := _, F_unit_points := F_unit_points, g_unit_points := PySem.W.mg_of X G a_unit_points, b_unit_points := b_unit_points,
    f_vectors_between := _, d_vectors_between := _, F_vectors_between := F_vectors_between, g_vectors_between := PySem.W.mg_of X G a_vectors_between, b_vectors_between := b_vectors_between,
    f_points_after := _, d_points_after := _, F_points_after := F_points_after, g_points_after := PySem.W.mg_of X G a_points_after, b_points_after := b_points_after,
    f_points_after_run := _, d_points_after_run := _, F_points_after_run := F_points_after_run, g_points_after_run := PySem.W.mg_of X G a_points_after_run, b_points_after_run := b_points_after_run,
    f_points_after_row := _, d_points_after_row := _, F_points_after_row := F_points_after_row, g_points_after_row := PySem.W.mg_of X G a_points_after_row, b_points_after_row := b_points_after_row,
    f_repeats_alike := _, d_repeats_alike := _, F_repeats_alike := F_repeats_alike, g_repeats_alike := PySem.W.mg_of X G a_repeats_alike, b_repeats_alike := b_repeats_alike,
    f_is_way := _, d_is_way := _, F_is_way := F_is_way, g_is_way := PySem.W.mg_of X G a_is_way, b_is_way := b_is_way,
    f_is_ways := _, d_is_ways := _, F_is_ways := F_is_ways, g_is_ways := PySem.W.mg_of X G a_is_ways, b_is_ways := b_is_ways,
    f_is_persons := _, d_is_persons := _, F_is_persons := F_is_persons, g_is_persons := PySem.W.mg_of X G a_is_persons, b_is_persons := b_is_persons,
    f_is_posts := _, d_is_posts := _, F_is_posts := F_is_posts, g_is_posts := PySem.W.mg_of X G a_is_posts, b_is_posts := b_is_posts,
    f_yard_wrong := _, d_yard_wrong := _, F_yard_wrong := F_yard_wrong, g_yard_wrong := PySem.W.mg_of X G a_yard_wrong, b_yard_wrong := b_yard_wrong,
    f_need_yard := _, d_need_yard := _, F_need_yard := F_need_yard, g_need_yard := PySem.W.mg_of X G a_need_yard, b_need_yard := b_need_yard,
    f_is_number_on := _, d_is_number_on := _, F_is_number_on := F_is_number_on, g_is_number_on := PySem.W.mg_of X G a_is_number_on, b_is_number_on := b_is_number_on,
    f_is_point := _, d_is_point := _, F_is_point := F_is_point, g_is_point := PySem.W.mg_of X G a_is_point, b_is_point := b_is_point,
    f_standing_wrong := _, d_standing_wrong := _, F_standing_wrong := F_standing_wrong, g_standing_wrong := PySem.W.mg_of X G a_standing_wrong, b_standing_wrong := b_standing_wrong,
    f_is_standing := _, d_is_standing := _, F_is_standing := F_is_standing, g_is_standing := PySem.W.mg_of X G a_is_standing, b_is_standing := b_is_standing,
    f_need_standing := _, d_need_standing := _, F_need_standing := F_need_standing, g_need_standing := PySem.W.mg_of X G a_need_standing, b_need_standing := b_need_standing,
    f_is_leap := _, d_is_leap := _, F_is_leap := F_is_leap, g_is_leap := PySem.W.mg_of X G a_is_leap, b_is_leap := b_is_leap,
    f_leap_at_fault := _, d_leap_at_fault := _, F_leap_at_fault := F_leap_at_fault, g_leap_at_fault := PySem.W.mg_of X G a_leap_at_fault, b_leap_at_fault := b_leap_at_fault,
    f_is_steady := _, d_is_steady := _, F_is_steady := F_is_steady, g_is_steady := PySem.W.mg_of X G a_is_steady, b_is_steady := b_is_steady,
    f_run_wrong := _, d_run_wrong := _, F_run_wrong := F_run_wrong, g_run_wrong := PySem.W.mg_of X G a_run_wrong, b_run_wrong := b_run_wrong,
    f_runs_wrong := _, d_runs_wrong := _, F_runs_wrong := F_runs_wrong, g_runs_wrong := PySem.W.mg_of X G a_runs_wrong, b_runs_wrong := b_runs_wrong,
    f_need_runs := _, d_need_runs := _, F_need_runs := F_need_runs, g_need_runs := PySem.W.mg_of X G a_need_runs, b_need_runs := b_need_runs,
    f_row_wrong := _, d_row_wrong := _, F_row_wrong := F_row_wrong, g_row_wrong := PySem.W.mg_of X G a_row_wrong, b_row_wrong := b_row_wrong,
    f_done := _, d_done := _, F_done := F_done, g_done := PySem.W.mg_of X G a_done, b_done := b_done,
    f__law_mixed := _, d__law_mixed := _, F__law_mixed := F__law_mixed, g__law_mixed := PySem.W.mg_of X G a__law_mixed, b__law_mixed := b__law_mixed,
    f__law_pile := _, d__law_pile := _, F__law_pile := F__law_pile, g__law_pile := PySem.W.mg_of X G a__law_pile, b__law_pile := b__law_pile,
    f__law_take := _, d__law_take := _, F__law_take := F__law_take, g__law_take := PySem.W.mg_of X G a__law_take, b__law_take := b__law_take,
    f__law_great := _, d__law_great := _, F__law_great := F__law_great, g__law_great := PySem.W.mg_of X G a__law_great, b__law_great := b__law_great,
    f__law_number := _, d__law_number := _, F__law_number := F__law_number, g__law_number := PySem.W.mg_of X G a__law_number, b__law_number := b__law_number,
    f__law_ways := _, d__law_ways := _, F__law_ways := F__law_ways, g__law_ways := PySem.W.mg_of X G a__law_ways, b__law_ways := b__law_ways,
    f__law_vector := _, d__law_vector := _, F__law_vector := F__law_vector, g__law_vector := PySem.W.mg_of X G a__law_vector, b__law_vector := b__law_vector,
    f__law_put := _, d__law_put := _, F__law_put := F__law_put, g__law_put := PySem.W.mg_of X G a__law_put, b__law_put := b__law_put,
    f__law_round := _, d__law_round := _, F__law_round := F__law_round, g__law_round := PySem.W.mg_of X G a__law_round, b__law_round := b__law_round,
    f__law_standing := _, d__law_standing := _, F__law_standing := F__law_standing, g__law_standing := PySem.W.mg_of X G a__law_standing, b__law_standing := b__law_standing,
    f__law_leap := _, d__law_leap := _, F__law_leap := F__law_leap, g__law_leap := PySem.W.mg_of X G a__law_leap, b__law_leap := b__law_leap,
    f__law_places := _, d__law_places := _, F__law_places := F__law_places, g__law_places := PySem.W.mg_of X G a__law_places, b__law_places := b__law_places,
    f__law_done := _, d__law_done := _, F__law_done := F__law_done, g__law_done := PySem.W.mg_of X G a__law_done, b__law_done := b__law_done,
    f__law_steady := _, d__law_steady := _, F__law_steady := F__law_steady, g__law_steady := PySem.W.mg_of X G a__law_steady, b__law_steady := b__law_steady,
    f__law_kind := _, d__law_kind := _, F__law_kind := F__law_kind, g__law_kind := PySem.W.mg_of X G a__law_kind, b__law_kind := b__law_kind,
    f__law_some_leaps := _, d__law_some_leaps := _, F__law_some_leaps := F__law_some_leaps, g__law_some_leaps := PySem.W.mg_of X G a__law_some_leaps, b__law_some_leaps := b__law_some_leaps,
    f__law_caught := _, d__law_caught := _, F__law_caught := F__law_caught, g__law_caught := PySem.W.mg_of X G a__law_caught, b__law_caught := b__law_caught,
    f__law_refused := _, d__law_refused := _, F__law_refused := F__law_refused, g__law_refused := PySem.W.mg_of X G a__law_refused, b__law_refused := b__law_refused,
    f_law := _, d_law := _, F_law := F_law, g_law := PySem.W.mg_of X G a_law, b_law := b_law,
    c_FolkError := C_FolkError, k_FolkError := n_FolkError, g_FolkError := PySem.W.mg_of X G n_FolkError,
    c_NoYard := C_NoYard, k_NoYard := n_NoYard, g_NoYard := PySem.W.mg_of X G n_NoYard,
    c_NoStanding := C_NoStanding, k_NoStanding := n_NoStanding, g_NoStanding := PySem.W.mg_of X G n_NoStanding,
    c_NoLeap := C_NoLeap, k_NoLeap := n_NoLeap, g_NoLeap := PySem.W.mg_of X G n_NoLeap,
    c_NoRow := C_NoRow, k_NoRow := n_NoRow, g_NoRow := PySem.W.mg_of X G n_NoRow,
    c_NoVector := C_NoVector, k_NoVector := n_NoVector, g_NoVector := PySem.W.mg_of X G n_NoVector,
    c_NoReading := C_NoReading, k_NoReading := n_NoReading, g_NoReading := PySem.W.mg_of X G n_NoReading,
    c_NoWishes := C_NoWishes, k_NoWishes := n_NoWishes, g_NoWishes := PySem.W.mg_of X G n_NoWishes,
    c_NoCell := C_NoCell, k_NoCell := n_NoCell, g_NoCell := PySem.W.mg_of X G n_NoCell,
    c_NoTable := C_NoTable, k_NoTable := n_NoTable, g_NoTable := PySem.W.mg_of X G n_NoTable,
    c_NoNumber := C_NoNumber, k_NoNumber := n_NoNumber, g_NoNumber := PySem.W.mg_of X G n_NoNumber,
    c_NoPerson := C_NoPerson, k_NoPerson := n_NoPerson, g_NoPerson := PySem.W.mg_of X G n_NoPerson,
    c_TooMany := C_TooMany, k_TooMany := n_TooMany, g_TooMany := PySem.W.mg_of X G n_TooMany,
    mk_NoYard := fun hK hg => by
      obtain ⟨h1, h2⟩ := hK
      subst h1 h2
      exact pmk_own PySem.F.excBase_ValueError x_NoYard (PySem.W.mg_of X G n_NoYard) kp_NoYard (raises_own sb_NoYard ty_NoYard) hg,
    mk_NoStanding := fun hK hg => by
      obtain ⟨h1, h2⟩ := hK
      subst h1 h2
      exact pmk_own PySem.F.excBase_ValueError x_NoStanding (PySem.W.mg_of X G n_NoStanding) kp_NoStanding (raises_own sb_NoStanding ty_NoStanding) hg,
    mk_NoLeap := fun hK hg => by
      obtain ⟨h1, h2⟩ := hK
      subst h1 h2
      exact pmk_own PySem.F.excBase_ValueError x_NoLeap (PySem.W.mg_of X G n_NoLeap) kp_NoLeap (raises_own sb_NoLeap ty_NoLeap) hg,
    mk_NoRow := fun hK hg => by
      obtain ⟨h1, h2⟩ := hK
      subst h1 h2
      exact pmk_own PySem.F.excBase_ValueError x_NoRow (PySem.W.mg_of X G n_NoRow) kp_NoRow (raises_own sb_NoRow ty_NoRow) hg,
    z_ValueError := PySem.W.mg_none_of X G zz_ValueError,
    z_abs := PySem.W.mg_none_of X G zz_abs,
    z_all := PySem.W.mg_none_of X G zz_all,
    z_bool := PySem.W.mg_none_of X G zz_bool,
    z_enumerate := PySem.W.mg_none_of X G zz_enumerate,
    z_int := PySem.W.mg_none_of X G zz_int,
    z_isinstance := PySem.W.mg_none_of X G zz_isinstance,
    z_len := PySem.W.mg_none_of X G zz_len,
    z_list := PySem.W.mg_none_of X G zz_list,
    z_max := PySem.W.mg_none_of X G zz_max,
    z_range := PySem.W.mg_none_of X G zz_range,
    z_tuple := PySem.W.mg_none_of X G zz_tuple,
    z_zip := PySem.W.mg_none_of X G zz_zip,
    g_LEAST_PERSONS := ⟨_, PySem.W.mg_of X G v_LEAST_PERSONS⟩,
    g_MOST_LEAPS := ⟨_, PySem.W.mg_of X G v_MOST_LEAPS⟩,
    g_MOST_PERSONS := ⟨_, PySem.W.mg_of X G v_MOST_PERSONS⟩,
    g_MOST_WAYS := ⟨_, PySem.W.mg_of X G v_MOST_WAYS⟩,
    isi := isi, exm_FolkError := exm_FolkError }
  exact ⟨_, fun s v => .of_eq rfl, fun base _ _ => ok_law T⟩
end K4
open PySem PySem.W PyProof.Rows
set_option maxHeartbeats 0 in
theorem PySem.Challenge.cw_leapfolk_k04_steady_leaps_holds : PySem.Challenge.rw_leapfolk_k04_steady_leaps.Holds := by
  w_on; o_law; k_head; (case hw => w_witness2)
  k_fill
  refine L2.walk_of (l := PySem.Challenge.rw_leapfolk_k04_steady_leaps) (n := 63) (k := 10) (x := "script") (CX := fun w => L2.CX PySem.Challenge.rw_leapfolk_k04_steady_leaps.prog w) (sp := fun w => DL.spD _ 1 K4.m_law) rfl (by decide) rfl ⟨rfl, by decide, by decide⟩ (fun w h Y => PySem.W.kIn_of Y) ?F (fun w H a ns hl _ hS => K4.law_sp hl hS) (fun w H s e s' h => DL.no_cx h)
  case F =>
    intro w mg fa h KX G hmg
    refine' K4.all_mk KX G hmg ?n_FolkError ?n_NoYard ?n_NoStanding ?n_NoLeap ?n_NoRow ?n_NoVector ?n_NoReading ?n_NoWishes ?n_NoCell ?n_NoTable ?n_NoNumber ?n_NoPerson ?n_TooMany ?x_NoYard ?kp_NoYard ?sb_NoYard ?ty_NoYard ?hg_NoYard ?hk_NoYard ?hd_NoYard ?ha_NoYard ?hm_NoYard ?kv_NoYard ?kk_NoYard_FolkError ?kk_NoYard_NoYard ?kk_NoYard_NoStanding ?kk_NoYard_NoLeap ?kk_NoYard_NoRow ?kk_NoYard_NoVector ?kk_NoYard_NoReading ?kk_NoYard_NoWishes ?kk_NoYard_NoCell ?kk_NoYard_NoTable ?kk_NoYard_NoNumber ?kk_NoYard_NoPerson ?kk_NoYard_TooMany ?x_NoStanding ?kp_NoStanding ?sb_NoStanding ?ty_NoStanding ?hg_NoStanding ?hk_NoStanding ?hd_NoStanding ?ha_NoStanding ?hm_NoStanding ?kv_NoStanding ?kk_NoStanding_FolkError ?kk_NoStanding_NoYard ?kk_NoStanding_NoStanding ?kk_NoStanding_NoLeap ?kk_NoStanding_NoRow ?kk_NoStanding_NoVector ?kk_NoStanding_NoReading ?kk_NoStanding_NoWishes ?kk_NoStanding_NoCell ?kk_NoStanding_NoTable ?kk_NoStanding_NoNumber ?kk_NoStanding_NoPerson ?kk_NoStanding_TooMany ?x_NoLeap ?kp_NoLeap ?sb_NoLeap ?ty_NoLeap ?hg_NoLeap ?hk_NoLeap ?hd_NoLeap ?ha_NoLeap ?hm_NoLeap ?kv_NoLeap ?kk_NoLeap_FolkError ?kk_NoLeap_NoYard ?kk_NoLeap_NoStanding ?kk_NoLeap_NoLeap ?kk_NoLeap_NoRow ?kk_NoLeap_NoVector ?kk_NoLeap_NoReading ?kk_NoLeap_NoWishes ?kk_NoLeap_NoCell ?kk_NoLeap_NoTable ?kk_NoLeap_NoNumber ?kk_NoLeap_NoPerson ?kk_NoLeap_TooMany ?x_NoRow ?kp_NoRow ?sb_NoRow ?ty_NoRow ?hg_NoRow ?hk_NoRow ?hd_NoRow ?ha_NoRow ?hm_NoRow ?kv_NoRow ?kk_NoRow_FolkError ?kk_NoRow_NoYard ?kk_NoRow_NoStanding ?kk_NoRow_NoLeap ?kk_NoRow_NoRow ?kk_NoRow_NoVector ?kk_NoRow_NoReading ?kk_NoRow_NoWishes ?kk_NoRow_NoCell ?kk_NoRow_NoTable ?kk_NoRow_NoNumber ?kk_NoRow_NoPerson ?kk_NoRow_TooMany ?kn_FolkError ?ic_FolkError ?ty_FolkError ?kn_NoYard ?ic_NoYard ?kn_NoStanding ?ic_NoStanding ?kn_NoLeap ?ic_NoLeap ?kn_NoRow ?ic_NoRow ?kn_NoVector ?ic_NoVector ?ty_NoVector ?kn_NoReading ?ic_NoReading ?ty_NoReading ?kn_NoWishes ?ic_NoWishes ?ty_NoWishes ?kn_NoCell ?ic_NoCell ?ty_NoCell ?kn_NoTable ?ic_NoTable ?ty_NoTable ?kn_NoNumber ?ic_NoNumber ?ty_NoNumber ?kn_NoPerson ?ic_NoPerson ?ty_NoPerson ?kn_TooMany ?ic_TooMany ?ty_TooMany ?bF ?hn ?ht ?a_is_whole ?l_is_whole ?cc_is_whole ?ke_is_whole ?a_is_whole_in ?l_is_whole_in ?cc_is_whole_in ?ke_is_whole_in ?a_is_tuple_of ?l_is_tuple_of ?cc_is_tuple_of ?ke_is_tuple_of ?a_onto_way ?l_onto_way ?cc_onto_way ?ke_onto_way ?a_beyond ?l_beyond ?cc_beyond ?ke_beyond ?a_moved_on ?l_moved_on ?cc_moved_on ?ke_moved_on ?a_plain_point ?l_plain_point ?cc_plain_point ?ke_plain_point ?a_plain_points ?l_plain_points ?cc_plain_points ?ke_plain_points ?a_unit_points ?l_unit_points ?cc_unit_points ?ke_unit_points ?a_vectors_between ?l_vectors_between ?cc_vectors_between ?ke_vectors_between ?a_points_after ?l_points_after ?cc_points_after ?ke_points_after ?a_points_after_run ?l_points_after_run ?cc_points_after_run ?ke_points_after_run ?a_points_after_row ?l_points_after_row ?cc_points_after_row ?ke_points_after_row ?a_repeats_alike ?l_repeats_alike ?cc_repeats_alike ?ke_repeats_alike ?a_is_way ?l_is_way ?cc_is_way ?ke_is_way ?a_is_ways ?l_is_ways ?cc_is_ways ?ke_is_ways ?a_is_persons ?l_is_persons ?cc_is_persons ?ke_is_persons ?a_is_posts ?l_is_posts ?cc_is_posts ?ke_is_posts ?a_yard_wrong ?l_yard_wrong ?cc_yard_wrong ?ke_yard_wrong ?a_need_yard ?l_need_yard ?cc_need_yard ?ke_need_yard ?a_is_number_on ?l_is_number_on ?cc_is_number_on ?ke_is_number_on ?a_is_point ?l_is_point ?cc_is_point ?ke_is_point ?a_standing_wrong ?l_standing_wrong ?cc_standing_wrong ?ke_standing_wrong ?a_is_standing ?l_is_standing ?cc_is_standing ?ke_is_standing ?a_need_standing ?l_need_standing ?cc_need_standing ?ke_need_standing ?a_is_leap ?l_is_leap ?cc_is_leap ?ke_is_leap ?a_leap_at_fault ?l_leap_at_fault ?cc_leap_at_fault ?ke_leap_at_fault ?a_is_steady ?l_is_steady ?cc_is_steady ?ke_is_steady ?a_run_wrong ?l_run_wrong ?cc_run_wrong ?ke_run_wrong ?a_runs_wrong ?l_runs_wrong ?cc_runs_wrong ?ke_runs_wrong ?a_need_runs ?l_need_runs ?cc_need_runs ?ke_need_runs ?a_row_wrong ?l_row_wrong ?cc_row_wrong ?ke_row_wrong ?a_done ?l_done ?cc_done ?ke_done ?a__law_mixed ?l__law_mixed ?cc__law_mixed ?ke__law_mixed ?a__law_pile ?l__law_pile ?cc__law_pile ?ke__law_pile ?a__law_take ?l__law_take ?cc__law_take ?ke__law_take ?a__law_great ?l__law_great ?cc__law_great ?ke__law_great ?a__law_number ?l__law_number ?cc__law_number ?ke__law_number ?a__law_ways ?l__law_ways ?cc__law_ways ?ke__law_ways ?a__law_vector ?l__law_vector ?cc__law_vector ?ke__law_vector ?a__law_put ?l__law_put ?cc__law_put ?ke__law_put ?a__law_round ?l__law_round ?cc__law_round ?ke__law_round ?a__law_standing ?l__law_standing ?cc__law_standing ?ke__law_standing ?a__law_leap ?l__law_leap ?cc__law_leap ?ke__law_leap ?a__law_places ?l__law_places ?cc__law_places ?ke__law_places ?a__law_done ?l__law_done ?cc__law_done ?ke__law_done ?a__law_steady ?l__law_steady ?cc__law_steady ?ke__law_steady ?a__law_kind ?l__law_kind ?cc__law_kind ?ke__law_kind ?a__law_some_leaps ?l__law_some_leaps ?cc__law_some_leaps ?ke__law_some_leaps ?a__law_caught ?l__law_caught ?cc__law_caught ?ke__law_caught ?a__law_refused ?l__law_refused ?cc__law_refused ?ke__law_refused ?a_law ?l_law ?cc_law ?ke_law ?zz_ValueError ?zz_abs ?zz_all ?zz_bool ?zz_enumerate ?zz_int ?zz_isinstance ?zz_len ?zz_list ?zz_max ?zz_range ?zz_tuple ?zz_zip ?v_LEAST_PERSONS ?v_MOST_LEAPS ?v_MOST_PERSONS ?v_MOST_WAYS
    (case n_FolkError => k_is)
    (case n_NoYard => k_is)
    (case n_NoStanding => k_is)
    (case n_NoLeap => k_is)
    (case n_NoRow => k_is)
    (case n_NoVector => k_is)
    (case n_NoReading => k_is)
    (case n_NoWishes => k_is)
    (case n_NoCell => k_is)
    (case n_NoTable => k_is)
    (case n_NoNumber => k_is)
    (case n_NoPerson => k_is)
    (case n_TooMany => k_is)
    (case x_NoYard => k_exc)
    (case kp_NoYard => k_is)
    (case sb_NoYard => k_is)
    (case ty_NoYard => k_is)
    (case hg_NoYard => k_is)
    (case hk_NoYard => k_is)
    (case hd_NoYard => k_is)
    (case ha_NoYard => k_is)
    (case hm_NoYard => k_is)
    (case kv_NoYard => k_is)
    (case kk_NoYard_FolkError => k_is)
    (case kk_NoYard_NoYard => k_is)
    (case kk_NoYard_NoStanding => k_is)
    (case kk_NoYard_NoLeap => k_is)
    (case kk_NoYard_NoRow => k_is)
    (case kk_NoYard_NoVector => k_is)
    (case kk_NoYard_NoReading => k_is)
    (case kk_NoYard_NoWishes => k_is)
    (case kk_NoYard_NoCell => k_is)
    (case kk_NoYard_NoTable => k_is)
    (case kk_NoYard_NoNumber => k_is)
    (case kk_NoYard_NoPerson => k_is)
    (case kk_NoYard_TooMany => k_is)
    (case x_NoStanding => k_exc)
    (case kp_NoStanding => k_is)
    (case sb_NoStanding => k_is)
    (case ty_NoStanding => k_is)
    (case hg_NoStanding => k_is)
    (case hk_NoStanding => k_is)
    (case hd_NoStanding => k_is)
    (case ha_NoStanding => k_is)
    (case hm_NoStanding => k_is)
    (case kv_NoStanding => k_is)
    (case kk_NoStanding_FolkError => k_is)
    (case kk_NoStanding_NoYard => k_is)
    (case kk_NoStanding_NoStanding => k_is)
    (case kk_NoStanding_NoLeap => k_is)
    (case kk_NoStanding_NoRow => k_is)
    (case kk_NoStanding_NoVector => k_is)
    (case kk_NoStanding_NoReading => k_is)
    (case kk_NoStanding_NoWishes => k_is)
    (case kk_NoStanding_NoCell => k_is)
    (case kk_NoStanding_NoTable => k_is)
    (case kk_NoStanding_NoNumber => k_is)
    (case kk_NoStanding_NoPerson => k_is)
    (case kk_NoStanding_TooMany => k_is)
    (case x_NoLeap => k_exc)
    (case kp_NoLeap => k_is)
    (case sb_NoLeap => k_is)
    (case ty_NoLeap => k_is)
    (case hg_NoLeap => k_is)
    (case hk_NoLeap => k_is)
    (case hd_NoLeap => k_is)
    (case ha_NoLeap => k_is)
    (case hm_NoLeap => k_is)
    (case kv_NoLeap => k_is)
    (case kk_NoLeap_FolkError => k_is)
    (case kk_NoLeap_NoYard => k_is)
    (case kk_NoLeap_NoStanding => k_is)
    (case kk_NoLeap_NoLeap => k_is)
    (case kk_NoLeap_NoRow => k_is)
    (case kk_NoLeap_NoVector => k_is)
    (case kk_NoLeap_NoReading => k_is)
    (case kk_NoLeap_NoWishes => k_is)
    (case kk_NoLeap_NoCell => k_is)
    (case kk_NoLeap_NoTable => k_is)
    (case kk_NoLeap_NoNumber => k_is)
    (case kk_NoLeap_NoPerson => k_is)
    (case kk_NoLeap_TooMany => k_is)
    (case x_NoRow => k_exc)
    (case kp_NoRow => k_is)
    (case sb_NoRow => k_is)
    (case ty_NoRow => k_is)
    (case hg_NoRow => k_is)
    (case hk_NoRow => k_is)
    (case hd_NoRow => k_is)
    (case ha_NoRow => k_is)
    (case hm_NoRow => k_is)
    (case kv_NoRow => k_is)
    (case kk_NoRow_FolkError => k_is)
    (case kk_NoRow_NoYard => k_is)
    (case kk_NoRow_NoStanding => k_is)
    (case kk_NoRow_NoLeap => k_is)
    (case kk_NoRow_NoRow => k_is)
    (case kk_NoRow_NoVector => k_is)
    (case kk_NoRow_NoReading => k_is)
    (case kk_NoRow_NoWishes => k_is)
    (case kk_NoRow_NoCell => k_is)
    (case kk_NoRow_NoTable => k_is)
    (case kk_NoRow_NoNumber => k_is)
    (case kk_NoRow_NoPerson => k_is)
    (case kk_NoRow_TooMany => k_is)
    (case kn_FolkError => k_is)
    (case ic_FolkError => k_is)
    (case ty_FolkError => k_is)
    (case kn_NoYard => k_is)
    (case ic_NoYard => k_is)
    (case kn_NoStanding => k_is)
    (case ic_NoStanding => k_is)
    (case kn_NoLeap => k_is)
    (case ic_NoLeap => k_is)
    (case kn_NoRow => k_is)
    (case ic_NoRow => k_is)
    (case kn_NoVector => k_is)
    (case ic_NoVector => k_is)
    (case ty_NoVector => k_is)
    (case kn_NoReading => k_is)
    (case ic_NoReading => k_is)
    (case ty_NoReading => k_is)
    (case kn_NoWishes => k_is)
    (case ic_NoWishes => k_is)
    (case ty_NoWishes => k_is)
    (case kn_NoCell => k_is)
    (case ic_NoCell => k_is)
    (case ty_NoCell => k_is)
    (case kn_NoTable => k_is)
    (case ic_NoTable => k_is)
    (case ty_NoTable => k_is)
    (case kn_NoNumber => k_is)
    (case ic_NoNumber => k_is)
    (case ty_NoNumber => k_is)
    (case kn_NoPerson => k_is)
    (case ic_NoPerson => k_is)
    (case ty_NoPerson => k_is)
    (case kn_TooMany => k_is)
    (case ic_TooMany => k_is)
    (case ty_TooMany => k_is)
    (case bF => k_is)
    (case hn => k_is)
    (case ht => k_is)
    (case a_is_whole => k_is)
    (case l_is_whole => k_is)
    (case cc_is_whole => k_is)
    (case ke_is_whole => k_is)
    (case a_is_whole_in => k_is)
    (case l_is_whole_in => k_is)
    (case cc_is_whole_in => k_is)
    (case ke_is_whole_in => k_is)
    (case a_is_tuple_of => k_is)
    (case l_is_tuple_of => k_is)
    (case cc_is_tuple_of => k_is)
    (case ke_is_tuple_of => k_is)
    (case a_onto_way => k_is)
    (case l_onto_way => k_is)
    (case cc_onto_way => k_is)
    (case ke_onto_way => k_is)
    (case a_beyond => k_is)
    (case l_beyond => k_is)
    (case cc_beyond => k_is)
    (case ke_beyond => k_is)
    (case a_moved_on => k_is)
    (case l_moved_on => k_is)
    (case cc_moved_on => k_is)
    (case ke_moved_on => k_is)
    (case a_plain_point => k_is)
    (case l_plain_point => k_is)
    (case cc_plain_point => k_is)
    (case ke_plain_point => k_is)
    (case a_plain_points => k_is)
    (case l_plain_points => k_is)
    (case cc_plain_points => k_is)
    (case ke_plain_points => k_is)
    (case a_unit_points => k_is)
    (case l_unit_points => k_is)
    (case cc_unit_points => k_is)
    (case ke_unit_points => k_is)
    (case a_vectors_between => k_is)
    (case l_vectors_between => k_is)
    (case cc_vectors_between => k_is)
    (case ke_vectors_between => k_is)
    (case a_points_after => k_is)
    (case l_points_after => k_is)
    (case cc_points_after => k_is)
    (case ke_points_after => k_is)
    (case a_points_after_run => k_is)
    (case l_points_after_run => k_is)
    (case cc_points_after_run => k_is)
    (case ke_points_after_run => k_is)
    (case a_points_after_row => k_is)
    (case l_points_after_row => k_is)
    (case cc_points_after_row => k_is)
    (case ke_points_after_row => k_is)
    (case a_repeats_alike => k_is)
    (case l_repeats_alike => k_is)
    (case cc_repeats_alike => k_is)
    (case ke_repeats_alike => k_is)
    (case a_is_way => k_is)
    (case l_is_way => k_is)
    (case cc_is_way => k_is)
    (case ke_is_way => k_is)
    (case a_is_ways => k_is)
    (case l_is_ways => k_is)
    (case cc_is_ways => k_is)
    (case ke_is_ways => k_is)
    (case a_is_persons => k_is)
    (case l_is_persons => k_is)
    (case cc_is_persons => k_is)
    (case ke_is_persons => k_is)
    (case a_is_posts => k_is)
    (case l_is_posts => k_is)
    (case cc_is_posts => k_is)
    (case ke_is_posts => k_is)
    (case a_yard_wrong => k_is)
    (case l_yard_wrong => k_is)
    (case cc_yard_wrong => k_is)
    (case ke_yard_wrong => k_is)
    (case a_need_yard => k_is)
    (case l_need_yard => k_is)
    (case cc_need_yard => k_is)
    (case ke_need_yard => k_is)
    (case a_is_number_on => k_is)
    (case l_is_number_on => k_is)
    (case cc_is_number_on => k_is)
    (case ke_is_number_on => k_is)
    (case a_is_point => k_is)
    (case l_is_point => k_is)
    (case cc_is_point => k_is)
    (case ke_is_point => k_is)
    (case a_standing_wrong => k_is)
    (case l_standing_wrong => k_is)
    (case cc_standing_wrong => k_is)
    (case ke_standing_wrong => k_is)
    (case a_is_standing => k_is)
    (case l_is_standing => k_is)
    (case cc_is_standing => k_is)
    (case ke_is_standing => k_is)
    (case a_need_standing => k_is)
    (case l_need_standing => k_is)
    (case cc_need_standing => k_is)
    (case ke_need_standing => k_is)
    (case a_is_leap => k_is)
    (case l_is_leap => k_is)
    (case cc_is_leap => k_is)
    (case ke_is_leap => k_is)
    (case a_leap_at_fault => k_is)
    (case l_leap_at_fault => k_is)
    (case cc_leap_at_fault => k_is)
    (case ke_leap_at_fault => k_is)
    (case a_is_steady => k_is)
    (case l_is_steady => k_is)
    (case cc_is_steady => k_is)
    (case ke_is_steady => k_is)
    (case a_run_wrong => k_is)
    (case l_run_wrong => k_is)
    (case cc_run_wrong => k_is)
    (case ke_run_wrong => k_is)
    (case a_runs_wrong => k_is)
    (case l_runs_wrong => k_is)
    (case cc_runs_wrong => k_is)
    (case ke_runs_wrong => k_is)
    (case a_need_runs => k_is)
    (case l_need_runs => k_is)
    (case cc_need_runs => k_is)
    (case ke_need_runs => k_is)
    (case a_row_wrong => k_is)
    (case l_row_wrong => k_is)
    (case cc_row_wrong => k_is)
    (case ke_row_wrong => k_is)
    (case a_done => k_is)
    (case l_done => k_is)
    (case cc_done => k_is)
    (case ke_done => k_is)
    (case a__law_mixed => k_is)
    (case l__law_mixed => k_is)
    (case cc__law_mixed => k_is)
    (case ke__law_mixed => k_is)
    (case a__law_pile => k_is)
    (case l__law_pile => k_is)
    (case cc__law_pile => k_is)
    (case ke__law_pile => k_is)
    (case a__law_take => k_is)
    (case l__law_take => k_is)
    (case cc__law_take => k_is)
    (case ke__law_take => k_is)
    (case a__law_great => k_is)
    (case l__law_great => k_is)
    (case cc__law_great => k_is)
    (case ke__law_great => k_is)
    (case a__law_number => k_is)
    (case l__law_number => k_is)
    (case cc__law_number => k_is)
    (case ke__law_number => k_is)
    (case a__law_ways => k_is)
    (case l__law_ways => k_is)
    (case cc__law_ways => k_is)
    (case ke__law_ways => k_is)
    (case a__law_vector => k_is)
    (case l__law_vector => k_is)
    (case cc__law_vector => k_is)
    (case ke__law_vector => k_is)
    (case a__law_put => k_is)
    (case l__law_put => k_is)
    (case cc__law_put => k_is)
    (case ke__law_put => k_is)
    (case a__law_round => k_is)
    (case l__law_round => k_is)
    (case cc__law_round => k_is)
    (case ke__law_round => k_is)
    (case a__law_standing => k_is)
    (case l__law_standing => k_is)
    (case cc__law_standing => k_is)
    (case ke__law_standing => k_is)
    (case a__law_leap => k_is)
    (case l__law_leap => k_is)
    (case cc__law_leap => k_is)
    (case ke__law_leap => k_is)
    (case a__law_places => k_is)
    (case l__law_places => k_is)
    (case cc__law_places => k_is)
    (case ke__law_places => k_is)
    (case a__law_done => k_is)
    (case l__law_done => k_is)
    (case cc__law_done => k_is)
    (case ke__law_done => k_is)
    (case a__law_steady => k_is)
    (case l__law_steady => k_is)
    (case cc__law_steady => k_is)
    (case ke__law_steady => k_is)
    (case a__law_kind => k_is)
    (case l__law_kind => k_is)
    (case cc__law_kind => k_is)
    (case ke__law_kind => k_is)
    (case a__law_some_leaps => k_is)
    (case l__law_some_leaps => k_is)
    (case cc__law_some_leaps => k_is)
    (case ke__law_some_leaps => k_is)
    (case a__law_caught => k_is)
    (case l__law_caught => k_is)
    (case cc__law_caught => k_is)
    (case ke__law_caught => k_is)
    (case a__law_refused => k_is)
    (case l__law_refused => k_is)
    (case cc__law_refused => k_is)
    (case ke__law_refused => k_is)
    (case a_law => k_is)
    (case l_law => k_is)
    (case cc_law => k_is)
    (case ke_law => k_is)
    (case zz_ValueError => k_is)
    (case zz_abs => k_is)
    (case zz_all => k_is)
    (case zz_bool => k_is)
    (case zz_enumerate => k_is)
    (case zz_int => k_is)
    (case zz_isinstance => k_is)
    (case zz_len => k_is)
    (case zz_list => k_is)
    (case zz_max => k_is)
    (case zz_range => k_is)
    (case zz_tuple => k_is)
    (case zz_zip => k_is)
    (case v_LEAST_PERSONS => k_is)
    (case v_MOST_LEAPS => k_is)
    (case v_MOST_PERSONS => k_is)
    (case v_MOST_WAYS => k_is)
