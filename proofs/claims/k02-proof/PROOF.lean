import PyProof.Rows.All
import Wide.All
import OpenK.AllK
import Wide.FinOn
import HandS.ForMost
import HandS.Evl
import HandS.Gcd
import HandS.Wide
import HandS.FStr
import HandS.IsInst
import HandS.Zip
import HandS.Codes
import HandS.OwnEq
import HandS.TryOnly
import HandS.TryMany
import HandS.ExcOwn
import HandS.WordsExc
import PySem.Challenge.RW_colormatch_k02_vectors
set_option Elab.async false
set_option linter.all false
set_option maxRecDepth 100000
set_option maxHeartbeats 4000000
/-! My own layer: a program over data trees, without the heap. -/
namespace G
open PySem L2
/-! ### data -/
inductive D where
  | raw (v : V) | tup (ds : List D) | lst (ds : List D) | fz (ds : List D) | ins (C : Addr) (fs : List (Str × D))
abbrev D.int (i : Int) : D := .raw (.int i)
abbrev D.bl (b : Bool) : D := .raw (.bl b)
abbrev D.str (z : Str) : D := .raw (.str z)
abbrev D.non : D := .raw .non
abbrev D.loc (a : Addr) : D := .raw (.ref a)
abbrev Ex := Evl.Ex
mutual
inductive Rep (K : PySem.W.Frag) (B : Hp) : V → D → Prop where
  | raw (v : V) : Rep K B v (.raw v)
  | tup {a : Addr} {xs : List V} {ds : List D} (h : SqT K B a xs) (r : Reps K B xs ds) : Rep K B (.ref a) (.tup ds)
  | lst {a : Addr} {xs : List V} {ds : List D} (h : B a = some (.lst xs)) (r : Reps K B xs ds) : Rep K B (.ref a) (.lst ds)
  | fz {a : Addr} {xs : List V} {ds : List D} (h : SqL K B a xs) (r : Reps K B xs ds) : Rep K B (.ref a) (.fz ds)
  | ins {a C dx : Addr} {fs : List (Str × V)} {gs : List (Str × D)} (h : B a = some (.ins C dx fs)) (r : RepF K B fs gs) : Rep K B (.ref a) (.ins C gs)
inductive Reps (K : PySem.W.Frag) (B : Hp) : List V → List D → Prop where
  | nil : Reps K B [] []
  | cons {v : V} {d : D} {vs : List V} {ds : List D} (h : Rep K B v d) (r : Reps K B vs ds) : Reps K B (v :: vs) (d :: ds)
inductive RepF (K : PySem.W.Frag) (B : Hp) : List (Str × V) → List (Str × D) → Prop where
  | nil : RepF K B [] []
  | cons {f : Str} {v : V} {d : D} {vs : List (Str × V)} {ds : List (Str × D)} (h : Rep K B v d) (r : RepF K B vs ds) : RepF K B ((f, v) :: vs) ((f, d) :: ds)
end
section
variable {K : PySem.W.Frag} {B B2 H H2 : Hp}
mutual
theorem Rep.mono (e : Ex B B2) : ∀ {v : V} {d : D}, Rep K B v d → Rep K B2 v d
  | _, _, .raw v => .raw v
  | _, _, .tup h r => .tup (Evl.ex_t e h) (Reps.mono e r)
  | _, _, .lst h r => .lst (e _ _ h) (Reps.mono e r)
  | _, _, .fz h r => .fz (Evl.ex_l e h) (Reps.mono e r)
  | _, _, .ins h r => .ins (e _ _ h) (RepF.mono e r)
theorem Reps.mono (e : Ex B B2) : ∀ {vs : List V} {ds : List D}, Reps K B vs ds → Reps K B2 vs ds
  | _, _, .nil => .nil
  | _, _, .cons h r => .cons (Rep.mono e h) (Reps.mono e r)
theorem RepF.mono (e : Ex B B2) : ∀ {vs : List (Str × V)} {ds : List (Str × D)}, RepF K B vs ds → RepF K B2 vs ds
  | _, _, .nil => .nil
  | _, _, .cons h r => .cons (Rep.mono e h) (RepF.mono e r)
end
theorem Reps.length : ∀ {vs : List V} {ds : List D}, Reps K B vs ds → vs.length = ds.length
  | _, _, .nil => rfl
  | _, _, .cons _ r => by rw [List.length_cons, List.length_cons, Reps.length r]
theorem Reps.get : ∀ {vs : List V} {ds : List D} {i : Nat} {d : D}, Reps K B vs ds → ds[i]? = some d → ∃ v, vs[i]? = some v ∧ Rep K B v d
  | _, _, _, _, .nil, h => by simp at h
  | _, _, 0, _, .cons h _, e => ⟨_, rfl, by simp at e; subst e; exact h⟩
  | _, _, i + 1, _, .cons _ r, e => by
    obtain ⟨v, h1, h2⟩ := Reps.get (i := i) r (by simpa using e)
    exact ⟨v, by simpa using h1, h2⟩
theorem Reps.get' : ∀ {vs : List V} {ds : List D} {i : Nat} {v : V}, Reps K B vs ds → vs[i]? = some v → ∃ d, ds[i]? = some d ∧ Rep K B v d
  | _, _, _, _, .nil, h => by simp at h
  | _, _, 0, _, .cons h _, e => ⟨_, rfl, by simp at e; subst e; exact h⟩
  | _, _, i + 1, _, .cons _ r, e => by
    obtain ⟨v, h1, h2⟩ := Reps.get' (i := i) r (by simpa using e)
    exact ⟨v, by simpa using h1, h2⟩
theorem Reps.append : ∀ {vs ws : List V} {ds es : List D}, Reps K B vs ds → Reps K B ws es → Reps K B (vs ++ ws) (ds ++ es)
  | _, _, _, _, .nil, s => s
  | _, _, _, _, .cons h r, s => .cons h (Reps.append r s)
theorem Reps.set : ∀ {vs : List V} {ds : List D} {v : V} {d : D} (i : Nat), Reps K B vs ds → Rep K B v d → Reps K B (vs.set i v) (ds.set i d)
  | _, _, _, _, _, .nil, _ => .nil
  | _, _, _, _, 0, .cons _ r, h => .cons h r
  | _, _, _, _, i + 1, .cons g r, h => .cons g (Reps.set i r h)
theorem Reps.take : ∀ {vs : List V} {ds : List D} (n : Nat), Reps K B vs ds → Reps K B (vs.take n) (ds.take n)
  | _, _, 0, _ => by simp; exact .nil
  | _, _, n + 1, .nil => .nil
  | _, _, n + 1, .cons h r => .cons h (Reps.take n r)
theorem Reps.drop : ∀ {vs : List V} {ds : List D} (n : Nat), Reps K B vs ds → Reps K B (vs.drop n) (ds.drop n)
  | _, _, 0, r => r
  | _, _, n + 1, .nil => .nil
  | _, _, n + 1, .cons h r => Reps.drop n r
theorem Reps.raws : ∀ (vs : List V), Reps K B vs (vs.map D.raw)
  | [] => .nil
  | v :: vs => .cons (.raw v) (Reps.raws vs)
/-- data that are plain are the values -/
theorem Reps.unraw : ∀ {ws vs : List V}, Reps K B ws (vs.map D.raw) → ws = vs
  | _, [], .nil => rfl
  | _, v :: vs, .cons h r => by
    cases h
    rw [Reps.unraw r]
theorem RepF.length : ∀ {vs : List (Str × V)} {ds : List (Str × D)}, RepF K B vs ds → vs.length = ds.length
  | _, _, .nil => rfl
  | _, _, .cons _ r => by rw [List.length_cons, List.length_cons, RepF.length r]
theorem RepF.look : ∀ {vs : List (Str × V)} {ds : List (Str × D)} {f : Str} {d : D}, RepF K B vs ds → ds.lookup f = some d → ∃ v, vs.lookup f = some v ∧ Rep K B v d
  | _, _, _, _, .nil, h => by simp at h
  | _, _, f, d, .cons (f := g) h r, e => by
    rw [List.lookup_cons] at e ⊢
    cases q : (f == g) with
    | true =>
      rw [q] at e
      simp at e
      subst e
      exact ⟨_, rfl, h⟩
    | false =>
      rw [q] at e
      exact RepF.look r (by simpa using e)
theorem RepF.look0 : ∀ {vs : List (Str × V)} {ds : List (Str × D)} {f : Str}, RepF K B vs ds → ds.lookup f = none → vs.lookup f = none
  | _, _, _, .nil, _ => rfl
  | _, _, f, .cons (f := g) h r, e => by
    rw [List.lookup_cons] at e ⊢
    cases q : (f == g) with
    | true => rw [q] at e; simp at e
    | false =>
      rw [q] at e
      exact RepF.look0 r (by simpa using e)
/-- a field put -/
def putD (f : Str) (d : D) : List (Str × D) → List (Str × D)
  | [] => [(f, d)]
  | (g, x) :: r => if g = f then (g, d) :: r else (g, x) :: putD f d r
theorem RepF.put : ∀ {vs : List (Str × V)} {ds : List (Str × D)} {f : Str} {v : V} {d : D}, RepF K B vs ds → Rep K B v d → RepF K B (putF f v vs) (putD f d ds)
  | _, _, _, _, _, .nil, h => .cons h .nil
  | _, _, f, v, d, .cons (f := g) (v := x) (vs := vs) (ds := ds) q r, h => by
    show RepF K B (if g = f then (g, v) :: vs else (g, x) :: putF f v vs) (if g = f then (g, d) :: ds else _)
    by_cases e : g = f
    · rw [if_pos e, if_pos e]
      exact .cons h r
    · rw [if_neg e, if_neg e]
      exact .cons q (RepF.put r h)
end
/-! ### what is owned: lists and instances that still change -/
inductive Own where
  | lst (ds : List D) | ins (C : Addr) (fs : List (Str × D))
abbrev Store := List (Addr × Own)
def OwnAt (K : PySem.W.Frag) (B H : Hp) (a : Addr) : Own → Prop
  | .lst ds => ∃ vs, H a = some (.lst vs) ∧ Reps K B vs ds
  | .ins C fs => ∃ dx vs, H a = some (.ins C dx vs) ∧ RepF K B vs fs
structure Hs (K : PySem.W.Frag) (B H : Hp) (O : Store) : Prop where
  ex : Ex B H
  own : ∀ p ∈ O, B p.1 = none ∧ OwnAt K B H p.1 p.2
  nd : (O.map Prod.fst).Nodup
section
variable {K : PySem.W.Frag} {B B2 H H2 : Hp} {O F : Store}
theorem OwnAt.mono {a : Addr} {o : Own} (e : Ex B B2) (eq : H2 a = H a) (h : OwnAt K B H a o) : OwnAt K B2 H2 a o := by
  cases o with
  | lst ds =>
    obtain ⟨vs, h1, r⟩ := h
    exact ⟨vs, by rw [eq]; exact h1, r.mono e⟩
  | ins C fs =>
    obtain ⟨dx, vs, h1, r⟩ := h
    exact ⟨dx, vs, by rw [eq]; exact h1, r.mono e⟩
theorem OwnAt.some {a : Addr} {o : Own} (h : OwnAt K B H a o) : ∃ u, H a = some u := by
  cases o with
  | lst ds => obtain ⟨vs, h1, _⟩ := h; exact ⟨_, h1⟩
  | ins C fs => obtain ⟨dx, vs, h1, _⟩ := h; exact ⟨_, h1⟩
/-- a new object, known from now on -/
theorem Hs.new {p : Addr} {o : HO} (h : Hs K B H O) (hp : H p = none) : Hs K (upd B p o) (upd H p o) O ∧ Ex B (upd B p o) := by
  have hb : B p = none := by
    cases q : B p with
    | none => rfl
    | some u => have := h.ex p u q; rw [hp] at this; cases this
  have eb : Ex B (upd B p o) := Evl.Ex.new hb
  refine ⟨⟨fun a u e => ?_, fun q hq => ?_, h.nd⟩, eb⟩
  · by_cases ha : a = p
    · subst ha
      rw [upd_same] at e ⊢
      exact e
    · rw [upd_ne ha] at e ⊢
      exact h.ex a u e
  · obtain ⟨h1, h2⟩ := h.own q hq
    obtain ⟨u, hu⟩ := h2.some
    have hne : q.1 ≠ p := ne_of_none hu hp
    exact ⟨by rw [upd_ne hne]; exact h1, h2.mono eb (upd_ne hne)⟩
/-- a new object, owned -/
theorem Hs.newOwn {p : Addr} {o : HO} {w : Own} (h : Hs K B H O) (hp : H p = none) (hw : OwnAt K B (upd H p o) p w) : Hs K B (upd H p o) ((p, w) :: O) := by
  have hb : B p = none := by
    cases q : B p with
    | none => rfl
    | some u => have := h.ex p u q; rw [hp] at this; cases this
  refine ⟨fun a u e => by rw [upd_ne (ne_of_none e hb)]; exact h.ex a u e, fun q hq => ?_, ?_⟩
  · rcases List.mem_cons.mp hq with rfl | hq
    · exact ⟨hb, hw⟩
    · obtain ⟨h1, h2⟩ := h.own q hq
      obtain ⟨u, hu⟩ := h2.some
      exact ⟨h1, h2.mono (Evl.Ex.refl B) (upd_ne (ne_of_none hu hp))⟩
  · refine List.nodup_cons.mpr ⟨fun hm => ?_, h.nd⟩
    obtain ⟨q, hq, e⟩ := List.mem_map.mp hm
    obtain ⟨u, hu⟩ := (h.own q hq).2.some
    rw [e, hp] at hu
    cases hu
/-- an object that is neither known nor owned may come or change -/
theorem Hs.other {p : Addr} {o : HO} (h : Hs K B H O) (hp : H p = none) : Hs K B (upd H p o) O := by
  have hb : B p = none := by
    cases q : B p with
    | none => rfl
    | some u => have := h.ex p u q; rw [hp] at this; cases this
  refine ⟨fun a u e => by rw [upd_ne (ne_of_none e hb)]; exact h.ex a u e, fun q hq => ?_, h.nd⟩
  obtain ⟨h1, h2⟩ := h.own q hq
  obtain ⟨u, hu⟩ := h2.some
  exact ⟨h1, h2.mono (Evl.Ex.refl B) (upd_ne (ne_of_none hu hp))⟩
theorem Hs.tail {q : Addr × Own} (h : Hs K B H (q :: O)) : Hs K B H O := ⟨h.ex, fun p hp => h.own p (List.mem_cons_of_mem _ hp), (List.nodup_cons.mp h.nd).2⟩
theorem Hs.dropL : ∀ {O : Store}, Hs K B H (O ++ F) → Hs K B H F
  | [], h => h
  | _ :: O, h => Hs.dropL (O := O) h.tail
/-- one of the owned, taken out: (a, w) stands in O, O' is the rest -/
inductive Pick (a : Addr) (w : Own) : Store → Store → Prop where
  | here {O : Store} : Pick a w ((a, w) :: O) O
  | there {q : Addr × Own} {O O' : Store} (h : Pick a w O O') : Pick a w (q :: O) (q :: O')
theorem Pick.perm {a : Addr} {w : Own} : ∀ {O O' : Store}, Pick a w O O' → O.Perm ((a, w) :: O')
  | _, _, .here => List.Perm.refl _
  | _, _, .there h => (List.Perm.cons _ (Pick.perm h)).trans (List.Perm.swap _ _ _)
theorem Hs.perm {O' : Store} (h : Hs K B H O) (p : O.Perm O') : Hs K B H O' := ⟨h.ex, fun q hq => h.own q (p.mem_iff.mpr hq), (p.map Prod.fst).nodup_iff.mp h.nd⟩
/-- put back with another content -/
inductive Put (a : Addr) (w w' : Own) : Store → Store → Prop where
  | here {O : Store} : Put a w w' ((a, w) :: O) ((a, w') :: O)
  | there {q : Addr × Own} {O O' : Store} (h : Put a w w' O O') : Put a w w' (q :: O) (q :: O')
theorem Put.pick {a : Addr} {w w' : Own} : ∀ {O O' : Store}, Put a w w' O O' → ∃ R, O.Perm ((a, w) :: R) ∧ O'.Perm ((a, w') :: R)
  | _, _, .here => ⟨_, List.Perm.refl _, List.Perm.refl _⟩
  | _, _, .there h => by
    obtain ⟨R, h1, h2⟩ := Put.pick h
    exact ⟨_ :: R, (List.Perm.cons _ h1).trans (List.Perm.swap _ _ _), (List.Perm.cons _ h2).trans (List.Perm.swap _ _ _)⟩
theorem Put.appR {a : Addr} {w w' : Own} : ∀ {O O' : Store}, Put a w w' O O' → Put a w w' (O ++ F) (O' ++ F)
  | _, _, .here => .here
  | _, _, .there h => .there (Put.appR h)
theorem Put.mem {a : Addr} {w w' : Own} : ∀ {O O' : Store}, Put a w w' O O' → (a, w) ∈ O
  | _, _, .here => List.mem_cons_self
  | _, _, .there h => List.mem_cons_of_mem _ (Put.mem h)
theorem Hs.write {a : Addr} {w w' : Own} {O' : Store} {o : HO} (h : Hs K B H O) (p : Put a w w' O O') (hw : OwnAt K B (upd H a o) a w') : Hs K B (upd H a o) O' := by
  obtain ⟨R, p1, p2⟩ := p.pick
  have g := h.perm p1
  have hb : B a = none := (g.own _ List.mem_cons_self).1
  refine Hs.perm ?_ p2.symm
  refine ⟨fun c u e => by rw [upd_ne (ne_of_none e hb)]; exact h.ex c u e, fun q hq => ?_, g.nd⟩
  rcases List.mem_cons.mp hq with rfl | hq
  · exact ⟨hb, hw⟩
  · obtain ⟨h1, h2⟩ := g.own q (List.mem_cons_of_mem _ hq)
    have hne : q.1 ≠ a := fun e => (List.nodup_cons.mp g.nd).1 (by rw [← e]; exact List.mem_map.mpr ⟨q, hq, rfl⟩)
    exact ⟨h1, h2.mono (Evl.Ex.refl B) (upd_ne hne)⟩
/-- known from now on -/
theorem Hs.freeze {a : Addr} {w : Own} {o : HO} (h : Hs K B H ((a, w) :: O)) (ho : H a = some o) : Hs K (upd B a o) H O ∧ Ex B (upd B a o) := by
  have hb : B a = none := (h.own _ List.mem_cons_self).1
  have eb : Ex B (upd B a o) := Evl.Ex.new hb
  refine ⟨⟨fun c u e => ?_, fun q hq => ?_, h.tail.nd⟩, eb⟩
  · by_cases hc : c = a
    · subst hc
      rw [upd_same] at e
      rw [ho]
      exact e
    · rw [upd_ne hc] at e
      exact h.ex c u e
  · obtain ⟨h1, h2⟩ := h.own q (List.mem_cons_of_mem _ hq)
    have hne : q.1 ≠ a := fun e => (List.nodup_cons.mp h.nd).1 (by rw [← e]; exact List.mem_map.mpr ⟨q, hq, rfl⟩)
    exact ⟨by rw [upd_ne hne]; exact h1, h2.mono eb rfl⟩
end
/-! ### the names' data -/
abbrev Rho := List (Option D)
structure EnvR (K : PySem.W.Frag) (B : Hp) (σ : L2.St) (ρ : Rho) : Prop where
  len : σ.length = ρ.length
  get : ∀ (i : Nat) (d : D), ρ[i]? = some (some d) → ∃ v, σ[i]? = some (some v) ∧ Rep K B v d
section
variable {K : PySem.W.Frag} {B B2 : Hp} {σ : L2.St} {ρ : Rho}
theorem EnvR.mono (h : EnvR K B σ ρ) (e : Ex B B2) : EnvR K B2 σ ρ := ⟨h.len, fun i d q => by
  obtain ⟨v, h1, h2⟩ := h.get i d q
  exact ⟨v, h1, h2.mono e⟩⟩
theorem EnvR.set {v : V} {d : D} (h : EnvR K B σ ρ) (i : Nat) (r : Rep K B v d) : EnvR K B (σ.set i (some v)) (ρ.set i (some d)) := by
  refine ⟨by rw [List.length_set, List.length_set, h.len], fun j e q => ?_⟩
  by_cases hij : i = j
  · subst hij
    by_cases hl : i < ρ.length
    · rw [List.getElem?_set_self hl] at q
      simp at q
      subst q
      exact ⟨v, by rw [List.getElem?_set_self (by rw [h.len]; exact hl)], r⟩
    · rw [List.getElem?_eq_none (by rw [List.length_set]; omega)] at q
      cases q
  · rw [List.getElem?_set_ne hij] at q
    obtain ⟨w, h1, h2⟩ := h.get j e q
    exact ⟨w, by rw [List.getElem?_set_ne hij]; exact h1, h2⟩
/-- a name whose value is forgotten -/
theorem EnvR.forget (h : EnvR K B σ ρ) (i : Nat) : EnvR K B σ (ρ.set i none) := by
  refine ⟨by rw [List.length_set, h.len], fun j e q => ?_⟩
  by_cases hij : i = j
  · subst hij
    by_cases hl : i < ρ.length
    · rw [List.getElem?_set_self hl] at q
      cases q
    · rw [List.getElem?_eq_none (by rw [List.length_set]; omega)] at q
      cases q
  · rw [List.getElem?_set_ne hij] at q
    exact h.get j e q
/-- less is known -/
def Sub (ρ' ρ : Rho) : Prop := ρ'.length = ρ.length ∧ ∀ (i : Nat) (d : D), ρ'[i]? = some (some d) → ρ[i]? = some (some d)
theorem Sub.nil : Sub [] [] := ⟨rfl, fun _ _ h => h⟩
theorem Sub.same {x : Option D} {r' r : Rho} (h : Sub r' r) : Sub (x :: r') (x :: r) := ⟨by rw [List.length_cons, List.length_cons, h.1], fun i d q => match i, q with
  | 0, q => q
  | i + 1, q => h.2 i d q⟩
theorem Sub.drop {x : Option D} {r' r : Rho} (h : Sub r' r) : Sub (none :: r') (x :: r) := ⟨by rw [List.length_cons, List.length_cons, h.1], fun i d q => match i, q with
  | 0, q => nomatch q
  | i + 1, q => h.2 i d q⟩
theorem EnvR.sub {ρ' : Rho} (h : EnvR K B σ ρ) (s : Sub ρ' ρ) : EnvR K B σ ρ' := ⟨by rw [h.len, s.1], fun i d q => h.get i d (s.2 i d q)⟩
def wipeR (ρ : Rho) : List Nat → Rho
  | [] => ρ
  | v :: vs => (wipeR ρ vs).set v none
theorem EnvR.clear (h : EnvR K B σ ρ) (i : Nat) : EnvR K B (σ.set i none) (ρ.set i none) := by
  refine ⟨by rw [List.length_set, List.length_set, h.len], fun j e q => ?_⟩
  by_cases hij : i = j
  · subst hij
    by_cases hl : i < ρ.length
    · rw [List.getElem?_set_self hl] at q
      cases q
    · rw [List.getElem?_eq_none (by rw [List.length_set]; omega)] at q
      cases q
  · rw [List.getElem?_set_ne hij] at q
    obtain ⟨w, h1, h2⟩ := h.get j e q
    exact ⟨w, by rw [List.getElem?_set_ne hij]; exact h1, h2⟩
theorem EnvR.wipe (h : EnvR K B σ ρ) : ∀ (vs : List Nat), EnvR K B (L2.wipe σ vs) (wipeR ρ vs)
  | [] => h
  | v :: vs => (EnvR.wipe h vs).clear v
/-- at a def's entry -/
def rho0 (n : Nat) (ds : List D) : Rho := ds.map some ++ List.replicate (n - ds.length) none
theorem envR_start {N : List Str} {vs : List V} {ds : List D} (r : Reps K B vs ds) : EnvR K B (start N vs) (rho0 N.length ds) := by
  refine ⟨?_, fun i d q => ?_⟩
  · show (vs.map some ++ List.replicate (N.length - vs.length) none).length = (ds.map some ++ List.replicate (N.length - ds.length) none).length
    rw [List.length_append, List.length_append, List.length_map, List.length_map, List.length_replicate, List.length_replicate, r.length]
  · have q' : (ds.map some ++ List.replicate (N.length - ds.length) none)[i]? = some (some d) := q
    by_cases hi : i < ds.length
    · rw [List.getElem?_append_left (by rw [List.length_map]; exact hi), List.getElem?_map] at q'
      cases e : ds[i]? with
      | none => rw [e] at q'; cases q'
      | some d' =>
        rw [e] at q'
        simp at q'
        subst q'
        obtain ⟨v, h1, h2⟩ := r.get e
        refine ⟨v, ?_, h2⟩
        show (vs.map some ++ List.replicate (N.length - vs.length) none)[i]? = some (some v)
        rw [List.getElem?_append_left (by rw [List.length_map, r.length]; exact hi), List.getElem?_map, h1]
        rfl
    · rw [List.getElem?_append_right (by rw [List.length_map]; omega), List.getElem?_replicate] at q'
      split at q' <;> simp at q'
end
end G
namespace G
open PySem L2
/-! ### readings over data -/
/-- what is wanted behind an expression -/
def Fin (K : PySem.W.Frag) (B : Hp) (F : Store) (P : D → Store → Prop) (Q : VK) : Prop := ∀ v d O' B2 H2, P d O' → Ex B B2 → Hs K B2 H2 (O' ++ F) → Rep K B2 v d → Q v H2
def wE (K : PySem.W.Frag) (te : TE) (ρ : Rho) (O : Store) (P : D → Store → Prop) : Prop :=
  ∀ F σ B H, EnvR K B σ ρ → Hs K B H (O ++ F) → ∀ Q : VK, Fin K B F P Q → te σ H Q
def FinT (K : PySem.W.Frag) (B : Hp) (F : Store) (P : Bool → Store → Prop) (Q : Bool → Hp → Prop) : Prop := ∀ b O' B2 H2, P b O' → Ex B B2 → Hs K B2 H2 (O' ++ F) → Q b H2
def wT (K : PySem.W.Frag) (tt : TT) (ρ : Rho) (O : Store) (P : Bool → Store → Prop) : Prop :=
  ∀ F σ B H, EnvR K B σ ρ → Hs K B H (O ++ F) → ∀ Q : Bool → Hp → Prop, FinT K B F P Q → tt σ H Q
def FinA (K : PySem.W.Frag) (B : Hp) (F : Store) (P : List D → Store → Prop) (Q : List V → Hp → Prop) : Prop := ∀ vs ds O' B2 H2, P ds O' → Ex B B2 → Hs K B2 H2 (O' ++ F) → Reps K B2 vs ds → Q vs H2
def wA (K : PySem.W.Frag) (ta : TA) (ρ : Rho) (O : Store) (P : List D → Store → Prop) : Prop :=
  ∀ F σ B H, EnvR K B σ ρ → Hs K B H (O ++ F) → ∀ Q : List V → Hp → Prop, FinA K B F P Q → ta σ H Q
/-- two-place, one-place operations, calls of built-ins, by data -/
def wR (K : PySem.W.Frag) (r : R2) (x y : D) (O : Store) (P : D → Store → Prop) : Prop :=
  ∀ F v u B H, Rep K B v x → Rep K B u y → Hs K B H (O ++ F) → ∀ Q : VK, Fin K B F P Q → r v u H Q
def wU (K : PySem.W.Frag) (r : V → Hp → VK → Prop) (x : D) (O : Store) (P : D → Store → Prop) : Prop :=
  ∀ F v B H, Rep K B v x → Hs K B H (O ++ F) → ∀ Q : VK, Fin K B F P Q → r v H Q
def wC (K : PySem.W.Frag) (r : List V → Hp → VK → Prop) (xs : List D) (O : Store) (P : D → Store → Prop) : Prop :=
  ∀ F vs B H, Reps K B vs xs → Hs K B H (O ++ F) → ∀ Q : VK, Fin K B F P Q → r vs H Q
/-- a statement's ways out -/
inductive Out where
  | nx (ρ : Rho) | ret (d : D) | bk (ρ : Rho) | ct (ρ : Rho)
def OutOk (K : PySem.W.Frag) (Dn : Ends) (B : Hp) (H : Hp) : Out → Prop
  | .nx ρ => ∀ σ, EnvR K B σ ρ → Dn.nx σ H
  | .ret d => ∀ v, Rep K B v d → Dn.rt v H
  | .bk ρ => ∀ σ, EnvR K B σ ρ → Dn.bk σ H
  | .ct ρ => ∀ σ, EnvR K B σ ρ → Dn.ct σ H
def FinS (K : PySem.W.Frag) (B : Hp) (F : Store) (P : Out → Store → Prop) (Dn : Ends) : Prop := ∀ o O' B2 H2, P o O' → Ex B B2 → Hs K B2 H2 (O' ++ F) → OutOk K Dn B2 H2 o
def wS (K : PySem.W.Frag) (ts : TS) (ρ : Rho) (O : Store) (P : Out → Store → Prop) : Prop :=
  ∀ F σ B H, EnvR K B σ ρ → Hs K B H (O ++ F) → ∀ Dn : Ends, FinS K B F P Dn → ts Dn σ H
section
variable {K : PySem.W.Frag} {ρ : Rho} {O O1 : Store} {P : D → Store → Prop} {ta tb te : TE}
theorem Fin.ex {B B2 : Hp} {F : Store} {Q : VK} (h : Fin K B F P Q) (e : Ex B B2) : Fin K B2 F P Q := fun v d O' B3 H3 p e3 => h v d O' B3 H3 p (e.trans e3)
theorem FinT.ex {B B2 : Hp} {F : Store} {P : Bool → Store → Prop} {Q : Bool → Hp → Prop} (h : FinT K B F P Q) (e : Ex B B2) : FinT K B2 F P Q := fun b O' B3 H3 p e3 => h b O' B3 H3 p (e.trans e3)
theorem FinA.ex {B B2 : Hp} {F : Store} {P : List D → Store → Prop} {Q : List V → Hp → Prop} (h : FinA K B F P Q) (e : Ex B B2) : FinA K B2 F P Q := fun v d O' B3 H3 p e3 => h v d O' B3 H3 p (e.trans e3)
theorem FinS.ex {B B2 : Hp} {F : Store} {P : Out → Store → Prop} {Dn : Ends} (h : FinS K B F P Dn) (e : Ex B B2) : FinS K B2 F P Dn := fun o O' B3 H3 p e3 => h o O' B3 H3 p (e.trans e3)
theorem Fin.here {B H : Hp} {F : Store} {Q : VK} {v : V} {d : D} {O : Store} (h : Fin K B F P Q) (hs : Hs K B H (O ++ F)) (r : Rep K B v d) (p : P d O) : Q v H := h v d O B H p (Evl.Ex.refl B) hs r
/-! ### expressions -/
theorem e_var {i : Nat} {d : D} (h : ρ[i]? = some (some d)) (p : P d O) : wE K (tVar i) ρ O P := fun F σ B H e hs Q q => by
  obtain ⟨v, h1, r⟩ := e.get i d h
  exact ⟨v, h1, q.here hs r p⟩
theorem e_c {v : V} (p : P (.raw v) O) : wE K (tC v) ρ O P := fun F σ B H e hs Q q => q.here hs (.raw v) p
theorem e_op {r : R2} (h : wE K ta ρ O fun x O1 => wE K tb ρ O1 fun y O2 => wR K r x y O2 P) : wE K (tOp r ta tb) ρ O P := fun F σ B H e hs Q q =>
  h F σ B H e hs _ fun v x O1 B1 H1 p1 e1 hs1 rx => p1 F σ B1 H1 (e.mono e1) hs1 _ fun u y O2 B2 H2 p2 e2 hs2 ry => p2 F v u B2 H2 (rx.mono e2) ry hs2 Q (q.ex (e1.trans e2))
theorem e_un {r : V → Hp → VK → Prop} (h : wE K ta ρ O fun x O1 => wU K r x O1 P) : wE K (tUn r ta) ρ O P := fun F σ B H e hs Q q =>
  h F σ B H e hs _ fun v x O1 B1 H1 p1 e1 hs1 rx => p1 F v B1 H1 rx hs1 Q (q.ex e1)
theorem e_cb {r : List V → Hp → VK → Prop} {t : TA} (h : wA K t ρ O fun ds O1 => wC K r ds O1 P) : wE K (tCB r t) ρ O P := fun F σ B H e hs Q q =>
  h F σ B H e hs _ fun vs ds O1 B1 H1 p1 e1 hs1 rs => p1 F vs B1 H1 rs hs1 Q (q.ex e1)
theorem a_nil {P : List D → Store → Prop} (p : P [] O) : wA K tNil ρ O P := fun F σ B H e hs Q q => q [] [] O B H p (Evl.Ex.refl B) hs .nil
theorem a_cons {tr : TA} {P : List D → Store → Prop} (h : wE K ta ρ O fun x O1 => wA K tr ρ O1 fun ds O2 => P (x :: ds) O2) : wA K (tCons ta tr) ρ O P := fun F σ B H e hs Q q =>
  h F σ B H e hs _ fun v x O1 B1 H1 p1 e1 hs1 rx => p1 F σ B1 H1 (e.mono e1) hs1 _ fun vs ds O2 B2 H2 p2 e2 hs2 rs => q (v :: vs) (x :: ds) O2 B2 H2 p2 (e1.trans e2) hs2 (.cons (rx.mono e2) rs)
theorem e_tup {t : TA} (h : wA K t ρ O fun ds O1 => ds.length ≤ 100000 ∧ P (.tup ds) O1) : wE K (tTup t) ρ O P := fun F σ B H e hs Q q =>
  h F σ B H e hs _ fun vs ds O1 B1 H1 p1 e1 hs1 rs => ⟨Evl.sz_of (by rw [rs.length]; exact p1.1), fun p hp => by
    obtain ⟨hs2, e2⟩ := hs1.new (o := .tup vs) hp
    exact q _ _ O1 _ _ p1.2 (e1.trans e2) hs2 (.tup (Evl.st_of upd_same) (rs.mono e2))⟩
/-- a list that never changes -/
theorem e_lst {t : TA} (h : wA K t ρ O fun ds O1 => ds.length ≤ 100000 ∧ P (.lst ds) O1) : wE K (tLst t) ρ O P := fun F σ B H e hs Q q =>
  h F σ B H e hs _ fun vs ds O1 B1 H1 p1 e1 hs1 rs => ⟨Evl.sz_of (by rw [rs.length]; exact p1.1), fun p hp => by
    obtain ⟨hs2, e2⟩ := hs1.new (o := .lst vs) hp
    exact q _ _ O1 _ _ p1.2 (e1.trans e2) hs2 (.lst upd_same (rs.mono e2))⟩
/-- a list that will change -/
theorem e_lstO {t : TA} (h : wA K t ρ O fun ds O1 => ds.length ≤ 100000 ∧ ∀ p, P (.loc p) ((p, .lst ds) :: O1)) : wE K (tLst t) ρ O P := fun F σ B H e hs Q q =>
  h F σ B H e hs _ fun vs ds O1 B1 H1 p1 e1 hs1 rs => ⟨Evl.sz_of (by rw [rs.length]; exact p1.1), fun p hp => by
    refine q _ _ _ _ _ (p1.2 p) e1 (hs1.newOwn (w := .lst ds) hp ⟨vs, upd_same, rs⟩) (.raw _)⟩
theorem e_fld {f : Str} (h : wE K ta ρ O fun x O1 => ∃ C fs d, x = .ins C fs ∧ Cls K C ∧ NoAttr K C f ∧ fs.lookup f = some d ∧ P d O1) : wE K (tFld K ta f) ρ O P := fun F σ B H e hs Q q =>
  h F σ B H e hs _ fun v x O1 B1 H1 p1 e1 hs1 rx => by
    obtain ⟨C, fs, d, rfl, hc, hn, hl, p⟩ := p1
    cases rx with
    | ins hb r =>
      obtain ⟨u, h1, h2⟩ := r.look hl
      exact ⟨_, C, _, _, u, rfl, hs1.ex _ _ hb, hc, hn, h1, (q.ex e1).here hs1 h2 p⟩
/-- a field of an owned instance -/
theorem e_fldO {f : Str} (h : wE K ta ρ O fun x O1 => ∃ a C fs d, x = .loc a ∧ (a, Own.ins C fs) ∈ O1 ∧ Cls K C ∧ NoAttr K C f ∧ fs.lookup f = some d ∧ P d O1) : wE K (tFld K ta f) ρ O P := fun F σ B H e hs Q q =>
  h F σ B H e hs _ fun v x O1 B1 H1 p1 e1 hs1 rx => by
    obtain ⟨a, C, fs, d, rfl, hm, hc, hn, hl, p⟩ := p1
    cases rx
    obtain ⟨dx, vs, h1, r⟩ := (hs1.own _ (List.mem_append_left _ hm)).2
    obtain ⟨u, h2, h3⟩ := r.look hl
    exact ⟨a, C, dx, vs, u, rfl, h1, hc, hn, h2, (q.ex e1).here hs1 h3 p⟩
theorem e_if {t : TT} (h : wT K t ρ O fun b O1 => (b = true → wE K ta ρ O1 P) ∧ (b = false → wE K tb ρ O1 P)) : wE K (tIf t ta tb) ρ O P := fun F σ B H e hs Q q =>
  h F σ B H e hs _ fun b O1 B1 H1 p1 e1 hs1 => by
    cases b with
    | true => exact (if_pos rfl : (if true = true then ta σ H1 Q else tb σ H1 Q) = _) ▸ p1.1 rfl F σ B1 H1 (e.mono e1) hs1 Q (q.ex e1)
    | false => exact (if_neg Bool.false_ne_true : (if false = true then ta σ H1 Q else tb σ H1 Q) = _) ▸ p1.2 rfl F σ B1 H1 (e.mono e1) hs1 Q (q.ex e1)
/-- a and b, a or b, not a, as values -/
theorem e_and (h : wE K ta ρ O fun x O1 => ∃ b, x = .bl b ∧ (b = true → wE K tb ρ O1 P) ∧ (b = false → P (.bl false) O1)) : wE K (tAndV ta tb) ρ O P := fun F σ B H e hs Q q =>
  h F σ B H e hs _ fun v x O1 B1 H1 p1 e1 hs1 rx => by
    obtain ⟨b, rfl, h1, h2⟩ := p1
    cases rx
    refine ⟨b, rfl, ?_⟩
    cases b with
    | true =>
      rw [if_pos rfl]
      exact h1 rfl F σ B1 H1 (e.mono e1) hs1 Q (q.ex e1)
    | false =>
      rw [if_neg Bool.false_ne_true]
      exact (q.ex e1).here hs1 (.raw _) (h2 rfl)
theorem e_or (h : wE K ta ρ O fun x O1 => ∃ b, x = .bl b ∧ (b = false → wE K tb ρ O1 P) ∧ (b = true → P (.bl true) O1)) : wE K (tOrV ta tb) ρ O P := fun F σ B H e hs Q q =>
  h F σ B H e hs _ fun v x O1 B1 H1 p1 e1 hs1 rx => by
    obtain ⟨b, rfl, h1, h2⟩ := p1
    cases rx
    refine ⟨b, rfl, ?_⟩
    cases b with
    | false =>
      rw [if_neg Bool.false_ne_true]
      exact h1 rfl F σ B1 H1 (e.mono e1) hs1 Q (q.ex e1)
    | true =>
      rw [if_pos rfl]
      exact (q.ex e1).here hs1 (.raw _) (h2 rfl)
theorem e_not (h : wE K ta ρ O fun x O1 => ∃ b, x = .bl b ∧ P (.bl (!b)) O1) : wE K (tNotV ta) ρ O P := fun F σ B H e hs Q q =>
  h F σ B H e hs _ fun v x O1 B1 H1 p1 e1 hs1 rx => by
    obtain ⟨b, rfl, p⟩ := p1
    cases rx
    exact ⟨b, rfl, (q.ex e1).here hs1 (.raw _) p⟩
theorem e_isN (h : wE K ta ρ O fun x O1 => (x = .non → P (.bl true) O1) ∧ (x ≠ .non → P (.bl false) O1)) : wE K (tIsN ta) ρ O P := fun F σ B H e hs Q q =>
  h F σ B H e hs _ fun v x O1 B1 H1 p1 e1 hs1 rx => by
    by_cases hx : x = .non
    · subst hx
      cases rx
      have e0 : decide ((V.non : V) = .non) = true := rfl
      exact (q.ex e1).here hs1 (.raw _) (p1.1 rfl)
    · have hv : v ≠ .non := fun z => by
        subst z
        cases rx
        exact hx rfl
      rw [decide_eq_false hv]
      exact (q.ex e1).here hs1 (.raw _) (p1.2 hx)
/-! ### tests -/
variable {PT : Bool → Store → Prop} {t u : TT}
theorem t_test (h : wE K te ρ O fun x O1 => ∃ b, x = .bl b ∧ PT b O1) : wT K (tTest te) ρ O PT := fun F σ B H e hs Q q =>
  h F σ B H e hs _ fun v x O1 B1 H1 p1 e1 hs1 rx => by
    obtain ⟨b, rfl, p⟩ := p1
    cases rx
    exact ⟨b, rfl, q b O1 B1 H1 p e1 hs1⟩
theorem t_B (h : wE K te ρ O fun x O1 => ∃ b, x = .bl b ∧ PT b O1) : wT K (tB te) ρ O PT := fun F σ B H e hs Q q =>
  h F σ B H e hs _ fun v x O1 B1 H1 p1 e1 hs1 rx => by
    obtain ⟨b, rfl, p⟩ := p1
    cases rx
    exact ⟨b, rfl, q b O1 B1 H1 p e1 hs1⟩
theorem t_and (h : wT K t ρ O fun b O1 => (b = true → wT K u ρ O1 PT) ∧ (b = false → PT false O1)) : wT K (tAnd t u) ρ O PT := fun F σ B H e hs Q q =>
  h F σ B H e hs _ fun b O1 B1 H1 p1 e1 hs1 => by
    cases b with
    | true =>
      rw [if_pos rfl]
      exact p1.1 rfl F σ B1 H1 (e.mono e1) hs1 Q (q.ex e1)
    | false =>
      rw [if_neg Bool.false_ne_true]
      exact q false O1 B1 H1 (p1.2 rfl) e1 hs1
theorem t_or (h : wT K t ρ O fun b O1 => (b = false → wT K u ρ O1 PT) ∧ (b = true → PT true O1)) : wT K (tOr t u) ρ O PT := fun F σ B H e hs Q q =>
  h F σ B H e hs _ fun b O1 B1 H1 p1 e1 hs1 => by
    cases b with
    | false =>
      rw [if_neg Bool.false_ne_true]
      exact p1.1 rfl F σ B1 H1 (e.mono e1) hs1 Q (q.ex e1)
    | true =>
      rw [if_pos rfl]
      exact q true O1 B1 H1 (p1.2 rfl) e1 hs1
theorem t_not (h : wT K t ρ O fun b O1 => PT (!b) O1) : wT K (tNot t) ρ O PT := fun F σ B H e hs Q q =>
  h F σ B H e hs _ fun b O1 B1 H1 p1 e1 hs1 => q (!b) O1 B1 H1 p1 e1 hs1
/-! ### operations on plain data -/
theorem r_rI0 {g : Int → Int → V} {i j : Int} (p : P (.raw (g i j)) O) : wR K (rI0 g) (.int i) (.int j) O P := fun F v u B H rx ry hs Q q => by
  cases rx; cases ry
  exact ⟨i, j, rfl, rfl, q.here hs (.raw _) p⟩
theorem r_rI {C : Int → Int → Prop} {g : Int → Int → V} {i j : Int} (hc : C i j) (p : P (.raw (g i j)) O) : wR K (rI C g) (.int i) (.int j) O P := fun F v u B H rx ry hs Q q => by
  cases rx; cases ry
  exact ⟨i, j, rfl, rfl, hc, q.here hs (.raw _) p⟩
theorem r_rU {g : Int → V} {i : Int} (p : P (.raw (g i)) O) : wU K (rU g) (.int i) O P := fun F v B H rx hs Q q => by
  cases rx
  exact ⟨i, rfl, q.here hs (.raw _) p⟩
theorem r_eq {x y : V} (hs : scal x y = true) (p : P (.bl (decide (x = y))) O) : wR K rEq (.raw x) (.raw y) O P := fun F v u B H rx ry h Q q => by
  cases rx; cases ry
  exact ⟨hs, q.here h (.raw _) p⟩
theorem r_ne {x y : V} (hs : scal x y = true) (p : P (.bl (!decide (x = y))) O) : wR K rNe (.raw x) (.raw y) O P := fun F v u B H rx ry h Q q => by
  cases rx; cases ry
  exact ⟨hs, q.here h (.raw _) p⟩
/-- an item of a list, of a tuple -/
theorem atI_map {α β : Type} {xs : List α} {ys : List β} {i : Int} {y : β} (hl : xs.length = ys.length) (h : atI ys i = some y) : ∃ n : Nat, ys[n]? = some y ∧ ∀ x, xs[n]? = some x → atI xs i = some x := by
  unfold atI at h ⊢
  rw [hl]
  cases e : ixN ys.length i with
  | none => rw [e] at h; cases h
  | some n =>
    rw [e] at h
    exact ⟨n, h, fun x hx => hx⟩
theorem r_ixT {ds : List D} {i : Int} {d : D} (h : atI ds i = some d) (p : P d O) : wR K (rIxT K) (.tup ds) (.int i) O P := fun F v u B H rx ry hs Q q => by
  cases ry
  cases rx with
  | tup hb r =>
    obtain ⟨n, h1, h2⟩ := atI_map r.length h
    obtain ⟨x, h3, h4⟩ := r.get h1
    exact ⟨_, _, i, x, rfl, rfl, Evl.ex_t hs.ex hb, h2 x h3, q.here hs h4 p⟩
theorem r_ixL {ds : List D} {i : Int} {d : D} (h : atI ds i = some d) (p : P d O) : wR K (rIxL K) (.lst ds) (.int i) O P := fun F v u B H rx ry hs Q q => by
  cases ry
  cases rx with
  | lst hb r =>
    obtain ⟨n, h1, h2⟩ := atI_map r.length h
    obtain ⟨x, h3, h4⟩ := r.get h1
    exact ⟨_, _, i, x, rfl, rfl, Evl.sq_of (hs.ex _ _ hb), h2 x h3, q.here hs h4 p⟩
theorem r_ixZ {ds : List D} {i : Int} {d : D} (h : atI ds i = some d) (p : P d O) : wR K (rIxL K) (.fz ds) (.int i) O P := fun F v u B H rx ry hs Q q => by
  cases ry
  cases rx with
  | fz hb r =>
    obtain ⟨n, h1, h2⟩ := atI_map r.length h
    obtain ⟨x, h3, h4⟩ := r.get h1
    exact ⟨_, _, i, x, rfl, rfl, Evl.ex_l hs.ex hb, h2 x h3, q.here hs h4 p⟩
/-- an item of an owned list -/
theorem r_ixO {a : Addr} {ds : List D} {i : Int} {d : D} (hm : (a, Own.lst ds) ∈ O) (h : atI ds i = some d) (p : P d O) : wR K (rIxL K) (.loc a) (.int i) O P := fun F v u B H rx ry hs Q q => by
  cases ry; cases rx
  obtain ⟨vs, hb, r⟩ := (hs.own _ (List.mem_append_left _ hm)).2
  obtain ⟨n, h1, h2⟩ := atI_map r.length h
  obtain ⟨x, h3, h4⟩ := r.get h1
  exact ⟨_, _, i, x, rfl, rfl, Evl.sq_of hb, h2 x h3, q.here hs h4 p⟩
theorem r_ixOr1 {x y : D} (h : wR K (rIxL K) x y O P) : wR K (rIx K) x y O P := fun F v u B H rx ry hs Q q => .inl (h F v u B H rx ry hs Q q)
theorem r_ixOr2 {x y : D} (h : wR K (rIxT K) x y O P) : wR K (rIx K) x y O P := fun F v u B H rx ry hs Q q => .inr (.inl (h F v u B H rx ry hs Q q))
/-! ### statements -/
variable {PS : Out → Store → Prop} {ts tu : TS}
def thenP (K : PySem.W.Frag) (tu : TS) (PS : Out → Store → Prop) : Out → Store → Prop
  | .nx ρ, O => wS K tu ρ O PS
  | .ret d, O => PS (.ret d) O
  | .bk ρ, O => PS (.bk ρ) O
  | .ct ρ, O => PS (.ct ρ) O
theorem s_seq (h : wS K ts ρ O (thenP K tu PS)) : wS K (tSeq ts tu) ρ O PS := fun F σ B H e hs Dn q =>
  h F σ B H e hs _ fun o O1 B1 H1 p1 e1 hs1 => by
    cases o with
    | nx ρ1 => exact fun σ1 r1 => p1 F σ1 B1 H1 r1 hs1 Dn (q.ex e1)
    | ret d => exact q (.ret d) O1 B1 H1 p1 e1 hs1
    | bk ρ1 => exact q (.bk ρ1) O1 B1 H1 p1 e1 hs1
    | ct ρ1 => exact q (.ct ρ1) O1 B1 H1 p1 e1 hs1
theorem s_next (p : PS (.nx ρ) O) : wS K tNext ρ O PS := fun F σ B H e hs Dn q => q (.nx ρ) O B H p (Evl.Ex.refl B) hs σ e
theorem s_break (p : PS (.bk ρ) O) : wS K tBreak ρ O PS := fun F σ B H e hs Dn q => q (.bk ρ) O B H p (Evl.Ex.refl B) hs σ e
theorem s_cont (p : PS (.ct ρ) O) : wS K tCont ρ O PS := fun F σ B H e hs Dn q => q (.ct ρ) O B H p (Evl.Ex.refl B) hs σ e
theorem s_asg {i : Nat} (h : wE K te ρ O fun d O1 => PS (.nx (ρ.set i (some d))) O1) : wS K (tAsg te (gName i)) ρ O PS := fun F σ B H e hs Dn q =>
  h F σ B H e hs _ fun v d O1 B1 H1 p1 e1 hs1 r => q _ O1 B1 H1 p1 e1 hs1 _ ((e.mono e1).set i r)
theorem s_drop (h : wE K te ρ O fun _ O1 => PS (.nx ρ) O1) : wS K (tDrop te) ρ O PS := fun F σ B H e hs Dn q =>
  h F σ B H e hs _ fun v d O1 B1 H1 p1 e1 hs1 r => q _ O1 B1 H1 p1 e1 hs1 _ (e.mono e1)
theorem s_ret (h : wE K te ρ O fun d O1 => PS (.ret d) O1) : wS K (tRet te) ρ O PS := fun F σ B H e hs Dn q =>
  h F σ B H e hs _ fun v d O1 B1 H1 p1 e1 hs1 r => q _ O1 B1 H1 p1 e1 hs1 v r
theorem s_retN (p : PS (.ret .non) O) : wS K tRetN ρ O PS := fun F σ B H e hs Dn q => q _ O B H p (Evl.Ex.refl B) hs _ (.raw _)
theorem s_if (h : wT K t ρ O fun b O1 => (b = true → wS K ts ρ O1 PS) ∧ (b = false → wS K tu ρ O1 PS)) : wS K (tIfS t ts tu) ρ O PS := fun F σ B H e hs Dn q =>
  h F σ B H e hs _ fun b O1 B1 H1 p1 e1 hs1 => by
    cases b with
    | true =>
      rw [if_pos rfl]
      exact p1.1 rfl F σ B1 H1 (e.mono e1) hs1 Dn (q.ex e1)
    | false =>
      rw [if_neg Bool.false_ne_true]
      exact p1.2 rfl F σ B1 H1 (e.mono e1) hs1 Dn (q.ex e1)
theorem s_fld {f : Str} {tv : TE} (h : wE K tv ρ O fun y O1 => wE K ta ρ O1 fun x O2 => ∃ a C fs O3, x = .loc a ∧ Put a (.ins C fs) (.ins C (putD f y fs)) O2 O3 ∧ Cls K C ∧ NoAttr K C f ∧ fs.length < 1000 ∧ PS (.nx ρ) O3) :
    wS K (sFld K ta tv f) ρ O PS := fun F σ B H e hs Dn q =>
  h F σ B H e hs _ fun v y O1 B1 H1 p1 e1 hs1 ry => p1 F σ B1 H1 (e.mono e1) hs1 _ fun u x O2 B2 H2 p2 e2 hs2 rx => by
    obtain ⟨a, C, fs, O3, rfl, hp, hc, hn, hl, p⟩ := p2
    cases rx
    obtain ⟨dx, vs, h1, r⟩ := (hs2.own _ (List.mem_append_left _ hp.mem)).2
    refine ⟨a, C, dx, vs, rfl, h1, hc, hn, by rw [r.length]; exact hl, ?_⟩
    have hs3 := hs2.write (o := .ins C dx (putF f v vs)) (hp.appR (F := F)) ⟨dx, _, upd_same, r.put (ry.mono e2)⟩
    exact q (.nx ρ) O3 B2 _ p (e1.trans e2) hs3 σ ((e.mono e1).mono e2)
/-- an owned list is known from now on: its slots hold a list that never changes -/
def frz (a : Addr) (ds : List D) : Rho → Rho := List.map fun o => match o with
  | some (.raw (.ref b)) => if b = a then some (.lst ds) else some (.loc b)
  | o => o
theorem s_freeze {a : Addr} {ds : List D} {O' : Store} (hp : Pick a (.lst ds) O O') (h : wS K ts (frz a ds ρ) O' PS) : wS K ts ρ O PS := fun F σ B H e hs Dn q => by
  have p1 : (O ++ F).Perm ((a, Own.lst ds) :: (O' ++ F)) := hp.perm.append_right F
  have hs1 := hs.perm p1
  obtain ⟨vs, h1, r⟩ := (hs1.own _ List.mem_cons_self).2
  obtain ⟨hs2, e2⟩ := hs1.freeze h1
  refine h F σ _ H ⟨by rw [e.len]; unfold frz; rw [List.length_map], fun i d hd => ?_⟩ hs2 Dn (q.ex e2)
  unfold frz at hd
  rw [List.getElem?_map] at hd
  cases hi : ρ[i]? with
  | none => rw [hi] at hd; cases hd
  | some o =>
    rw [hi] at hd
    cases o with
    | none => cases hd
    | some x =>
      obtain ⟨v, hv, rv⟩ := e.get i x hi
      refine ⟨v, hv, ?_⟩
      have done : d = x → Rep K (upd B a (.lst vs)) v d := fun z => by rw [z]; exact rv.mono e2
      cases x with
      | tup l => exact done (by simp at hd; exact hd.symm)
      | lst l => exact done (by simp at hd; exact hd.symm)
      | fz l => exact done (by simp at hd; exact hd.symm)
      | ins C l => exact done (by simp at hd; exact hd.symm)
      | raw w =>
        cases w with
        | ref b =>
          by_cases hb : b = a
          · subst hb
            simp at hd
            subst hd
            cases rv
            exact .lst upd_same (r.mono e2)
          · simp [hb] at hd
            exact done hd.symm
        | non => exact done (by simp at hd; exact hd.symm)
        | bl _ => exact done (by simp at hd; exact hd.symm)
        | int _ => exact done (by simp at hd; exact hd.symm)
        | str _ => exact done (by simp at hd; exact hd.symm)
        | byt _ => exact done (by simp at hd; exact hd.symm)
        | flt _ => exact done (by simp at hd; exact hd.symm)
        | ty _ => exact done (by simp at hd; exact hd.symm)
theorem s_frz {a : Addr} {ds : List D} {O' : Store} {ρ' : Rho} (hp : Pick a (.lst ds) O O') (hρ : frz a ds ρ = ρ') (h : wS K ts ρ' O' PS) : wS K ts ρ O PS := s_freeze hp (by rw [hρ]; exact h)
theorem s_rho {ρ' : Rho} (e : ρ = ρ') (h : wS K ts ρ' O PS) : wS K ts ρ O PS := by rw [e]; exact h
theorem s_sub {ρ' : Rho} (s : Sub ρ' ρ) (h : wS K ts ρ' O PS) : wS K ts ρ O PS := fun F σ B H e hs Dn q => h F σ B H (e.sub s) hs Dn q
theorem wS.mono {PS' : Out → Store → Prop} (h : wS K ts ρ O PS) (m : ∀ o O', PS o O' → PS' o O') : wS K ts ρ O PS' := fun F σ B H e hs Dn q => h F σ B H e hs Dn fun o O' B2 H2 p => q o O' B2 H2 (m _ _ p)
theorem wE.mono {P' : D → Store → Prop} (h : wE K te ρ O P) (m : ∀ d O', P d O' → P' d O') : wE K te ρ O P' := fun F σ B H e hs Q q => h F σ B H e hs Q fun v d O' B2 H2 p => q v d O' B2 H2 (m _ _ p)
/-- xs.append(e), xs owned -/
theorem e_append (h : wE K ta ρ O fun x O1 => ∃ a ds0, x = .loc a ∧ (a, Own.lst ds0) ∈ O1 ∧ wE K te ρ O1 fun y O2 => ∃ ds O3, ds.length < 100000 ∧ Put a (.lst ds) (.lst (ds ++ [y])) O2 O3 ∧ P .non O3) :
    wE K (tBM K "list" rAppend ta (tCons te tNil)) ρ O P := fun F σ B H e hs Q q => by
  refine h F σ B H e hs _ fun v x O1 B1 H1 p1 e1 hs1 rx => ?_
  obtain ⟨a, ds0, rfl, hm, p1⟩ := p1
  cases rx
  obtain ⟨vs0, h0, _⟩ := (hs1.own _ (List.mem_append_left _ hm)).2
  refine ⟨Or.inl ⟨rfl, vs0, Evl.sq_of h0⟩, ?_⟩
  refine p1 F σ B1 H1 (e.mono e1) hs1 _ fun u y O2 B2 H2 p2 e2 hs2 ry => ?_
  obtain ⟨ds, O3, hl, hp, p⟩ := p2
  obtain ⟨vs, h1, r⟩ := (hs2.own _ (List.mem_append_left _ hp.mem)).2
  refine ⟨a, vs, u, rfl, rfl, h1, Evl.sz_lt (by rw [r.length]; exact hl), ?_⟩
  have hs3 := hs2.write (o := .lst (vs ++ [u])) (hp.appR (F := F)) ⟨_, upd_same, r.append (.cons ry .nil)⟩
  exact q _ _ O3 B2 _ p (e1.trans e2) hs3 (.raw _)
/-- xs.extend(ys), xs owned, ys a list that never changes -/
theorem e_extend (h : wE K ta ρ O fun x O1 => ∃ a ds0, x = .loc a ∧ (a, Own.lst ds0) ∈ O1 ∧ wE K te ρ O1 fun y O2 => ∃ ds es O3, y = .lst es ∧ ds.length + es.length ≤ 100000 ∧ Put a (.lst ds) (.lst (ds ++ es)) O2 O3 ∧ P .non O3) :
    wE K (tBM K "list" rExtend ta (tCons te tNil)) ρ O P := fun F σ B H e hs Q q => by
  refine h F σ B H e hs _ fun v x O1 B1 H1 p1 e1 hs1 rx => ?_
  obtain ⟨a, ds0, rfl, hm, p1⟩ := p1
  cases rx
  obtain ⟨vs0, h0, _⟩ := (hs1.own _ (List.mem_append_left _ hm)).2
  refine ⟨Or.inl ⟨rfl, vs0, Evl.sq_of h0⟩, ?_⟩
  refine p1 F σ B1 H1 (e.mono e1) hs1 _ fun u y O2 B2 H2 p2 e2 hs2 ry => ?_
  obtain ⟨ds, es, O3, rfl, hl, hp, p⟩ := p2
  obtain ⟨vs, h1, r⟩ := (hs2.own _ (List.mem_append_left _ hp.mem)).2
  cases ry with
  | lst hb rb =>
    refine ⟨a, _, vs, _, rfl, rfl, h1, hs2.ex _ _ hb, Evl.sz_of (by rw [r.length, rb.length]; exact hl), ?_⟩
    have hs3 := hs2.write (o := .lst (vs ++ _)) (hp.appR (F := F)) ⟨_, upd_same, r.append rb⟩
    exact q _ _ O3 B2 _ p (e1.trans e2) hs3 (.raw _)
/-- xs[i] = e, xs owned -/
theorem s_setL {ti : TE} (h : wE K te ρ O fun y O1 => wE K ta ρ O1 fun x O2 => wE K ti ρ O2 fun z O3 => ∃ a i ds n O4, x = .loc a ∧ z = .int i ∧ ixN ds.length i = some n ∧ Put a (.lst ds) (.lst (ds.set n y)) O3 O4 ∧ PS (.nx ρ) O4) :
    wS K (tAsg te (gSub ta ti rSetL)) ρ O PS := fun F σ B H e hs Dn q => by
  refine h F σ B H e hs _ fun v y O1 B1 H1 p1 e1 hs1 ry => ?_
  refine p1 F σ B1 H1 (e.mono e1) hs1 _ fun u x O2 B2 H2 p2 e2 hs2 rx => ?_
  refine p2 F σ B2 H2 ((e.mono e1).mono e2) hs2 _ fun w z O3 B3 H3 p3 e3 hs3 rz => ?_
  obtain ⟨a, i, ds, n, O4, rfl, rfl, hi, hp, p⟩ := p3
  cases rx; cases rz
  obtain ⟨vs, h1, r⟩ := (hs3.own _ (List.mem_append_left _ hp.mem)).2
  refine ⟨a, vs, i, n, rfl, rfl, h1, by rw [r.length]; exact hi, ?_⟩
  have hs4 := hs3.write (o := .lst (vs.set n v)) (hp.appR (F := F)) ⟨_, upd_same, r.set n ((ry.mono e2).mono e3)⟩
  exact q (.nx ρ) O4 B3 _ p ((e1.trans e2).trans e3) hs4 σ (((e.mono e1).mono e2).mono e3)
end
end G
namespace G
open PySem L2 PySem.Spec PyProof.Rows
/-! ### targets -/
def wG (K : PySem.W.Frag) (g : TG) (d : D) (ρ : Rho) (O : Store) (P : Rho → Store → Prop) : Prop :=
  ∀ F v σ B H, EnvR K B σ ρ → Hs K B H (O ++ F) → Rep K B v d → ∀ Q : L2.St → Hp → Prop, (∀ σ' ρ' O' B2 H2, P ρ' O' → Ex B B2 → Hs K B2 H2 (O' ++ F) → EnvR K B2 σ' ρ' → Q σ' H2) → g v σ H Q
def wGs (K : PySem.W.Frag) (g : TGs) (ds : List D) (ρ : Rho) (O : Store) (P : Rho → Store → Prop) : Prop :=
  ∀ F vs σ B H, EnvR K B σ ρ → Hs K B H (O ++ F) → Reps K B vs ds → ∀ Q : L2.St → Hp → Prop, (∀ σ' ρ' O' B2 H2, P ρ' O' → Ex B B2 → Hs K B2 H2 (O' ++ F) → EnvR K B2 σ' ρ' → Q σ' H2) → g vs σ H Q
/-- only the slots vs are turned -/
def Outside (vs : List Nat) (σ σ' : L2.St) : Prop := σ'.length = σ.length ∧ ∀ i, i ∉ vs → σ'[i]? = σ[i]?
def GOnly (g : TG) (vs : List Nat) : Prop := ∀ v σ H Q, g v σ H Q → g v σ H fun σ' H' => Outside vs σ σ' ∧ Q σ' H'
def GsOnly (g : TGs) (vs : List Nat) : Prop := ∀ v σ H Q, g v σ H Q → g v σ H fun σ' H' => Outside vs σ σ' ∧ Q σ' H'
theorem Outside.refl (vs : List Nat) (σ : L2.St) : Outside vs σ σ := ⟨rfl, fun _ _ => rfl⟩
theorem Outside.trans {vs : List Nat} {σ σ1 σ2 : L2.St} (a : Outside vs σ σ1) (b : Outside vs σ1 σ2) : Outside vs σ σ2 := ⟨b.1.trans a.1, fun i h => (b.2 i h).trans (a.2 i h)⟩
theorem Outside.set {vs : List Nat} {σ : L2.St} {i : Nat} {o : Option V} (h : i ∈ vs) : Outside vs σ (σ.set i o) := ⟨List.length_set, fun j hj => List.getElem?_set_ne (fun e => hj (by rw [← e]; exact h))⟩
theorem wipe_get {σ : L2.St} : ∀ {vs : List Nat} {i : Nat}, (L2.wipe σ vs)[i]? = if i ∈ vs then (σ[i]?).map (fun _ => none) else σ[i]?
  | [], i => by simp [L2.wipe]
  | v :: vs, i => by
    show ((L2.wipe σ vs).set v none)[i]? = _
    by_cases h : v = i
    · subst h
      rw [List.getElem?_set, if_pos rfl]
      have hl : (L2.wipe σ vs).length = σ.length := L2.wipe_length σ vs
      by_cases h2 : v < σ.length
      · rw [if_pos (by rw [hl]; exact h2), if_pos (List.mem_cons_self), List.getElem?_eq_getElem h2]
        rfl
      · rw [if_neg (by rw [hl]; exact h2), if_pos (List.mem_cons_self), List.getElem?_eq_none (by omega)]
        rfl
    · rw [List.getElem?_set_ne h, wipe_get]
      have : (i ∈ v :: vs) ↔ i ∈ vs := by
        rw [List.mem_cons]
        constructor
        · rintro (e | e)
          · exact absurd e.symm h
          · exact e
        · exact .inr
      by_cases h3 : i ∈ vs
      · rw [if_pos h3, if_pos (this.mpr h3)]
      · rw [if_neg h3, if_neg (fun z => h3 (this.mp z))]
theorem wipe_same {σ σ' : L2.St} {vs : List Nat} (h : Outside vs (L2.wipe σ vs) σ') : L2.wipe σ' vs = L2.wipe σ vs := by
  apply List.ext_getElem?
  intro i
  rw [wipe_get, wipe_get]
  by_cases hi : i ∈ vs
  · rw [if_pos hi, if_pos hi]
    have hl : σ'.length = σ.length := by rw [h.1, L2.wipe_length]
    by_cases h2 : i < σ.length
    · rw [List.getElem?_eq_getElem h2, List.getElem?_eq_getElem (by omega)]
      rfl
    · rw [List.getElem?_eq_none (by omega), List.getElem?_eq_none (by omega)]
  · rw [if_neg hi, if_neg hi, h.2 i hi, wipe_get, if_neg hi]
theorem go_name {i : Nat} {vs : List Nat} (h : i ∈ vs) : GOnly (gName i) vs := fun v σ H Q q => ⟨Outside.set h, q⟩
theorem gs_nil {vs : List Nat} : GsOnly gNil vs := fun v σ H Q q => ⟨q.1, Outside.refl _ _, q.2⟩
section
variable {K : PySem.W.Frag} {ρ : Rho} {O O1 : Store} {vs : List Nat}
/-- a target's reading goes on under a weaker end -/
def GMono (g : TG) : Prop := ∀ v σ H Q Q', (∀ σ' H', Q σ' H' → Q' σ' H') → g v σ H Q → g v σ H Q'
def GsMono (g : TGs) : Prop := ∀ v σ H Q Q', (∀ σ' H', Q σ' H' → Q' σ' H') → g v σ H Q → g v σ H Q'
theorem gm_name {i : Nat} : GMono (gName i) := fun v σ H Q Q' m q => m _ _ q
theorem gms_nil : GsMono gNil := fun v σ H Q Q' m q => ⟨q.1, m _ _ q.2⟩
theorem gms_cons {g : TG} {u : TGs} (hg : GMono g) (hu : GsMono u) : GsMono (gCons g u) := fun v σ H Q Q' m q => by
  obtain ⟨x, r, e, q⟩ := q
  exact ⟨x, r, e, hg _ _ _ _ _ (fun σ' H' z => hu _ _ _ _ _ m z) q⟩
theorem gs_cons {g : TG} {u : TGs} (hg : GOnly g vs) (mg : GMono g) (hu : GsOnly u vs) (mu : GsMono u) : GsOnly (gCons g u) vs := fun v σ H Q q => by
  obtain ⟨x, r, e, q⟩ := q
  refine ⟨x, r, e, mg _ _ _ _ _ (fun σ' H' z => ?_) (hg _ _ _ _ q)⟩
  refine mu _ _ _ _ _ (fun σ2 H2 z2 => ⟨z.1.trans z2.1, z2.2⟩) (hu _ _ _ _ z.2)
theorem go_tup {n : Nat} {u : TGs} (hu : GsOnly u vs) : GOnly (gTup K n u) vs := fun v σ H Q q => by
  obtain ⟨a, xs, e, h, l, q⟩ := q
  exact ⟨a, xs, e, h, l, hu _ _ _ _ q⟩
theorem g_name {i : Nat} {d : D} {P : Rho → Store → Prop} (p : P (ρ.set i (some d)) O) : wG K (gName i) d ρ O P := fun F v σ B H e hs r Q q => q _ _ O B H p (Evl.Ex.refl B) hs (e.set i r)
theorem gs_nil' {P : Rho → Store → Prop} (p : P ρ O) : wGs K gNil [] ρ O P := fun F v σ B H e hs r Q q => by
  cases r
  exact ⟨rfl, q _ _ O B H p (Evl.Ex.refl B) hs e⟩
theorem gs_cons' {g : TG} {u : TGs} {d : D} {ds : List D} {P : Rho → Store → Prop} (h : wG K g d ρ O fun ρ1 O1 => wGs K u ds ρ1 O1 P) : wGs K (gCons g u) (d :: ds) ρ O P := fun F v σ B H e hs r Q q => by
  cases r with
  | cons rv rr => exact ⟨_, _, rfl, h F _ σ B H e hs rv _ fun σ1 ρ1 O1 B1 H1 p1 e1 hs1 r1 => p1 F _ σ1 B1 H1 r1 hs1 (rr.mono e1) Q fun σ2 ρ2 O2 B2 H2 p2 e2 => q σ2 ρ2 O2 B2 H2 p2 (e1.trans e2)⟩
theorem g_tup {n : Nat} {u : TGs} {ds : List D} {P : Rho → Store → Prop} (hl : ds.length = n) (h : wGs K u ds ρ O P) : wG K (gTup K n u) (.tup ds) ρ O P := fun F v σ B H e hs r Q q => by
  cases r with
  | tup hb rr => exact ⟨_, _, rfl, Evl.ex_t hs.ex hb, by rw [rr.length]; exact hl, h F _ σ B H e hs rr Q q⟩
theorem g_lst {n : Nat} {u : TGs} {ds : List D} {P : Rho → Store → Prop} (hl : ds.length = n) (h : wGs K u ds ρ O P) : wG K (gLst K n u) (.lst ds) ρ O P := fun F v σ B H e hs r Q q => by
  cases r with
  | lst hb rr => exact ⟨_, _, rfl, Evl.sq_of (hs.ex _ _ hb), by rw [rr.length]; exact hl, h F _ σ B H e hs rr Q q⟩
theorem s_asgG {te : TE} {g : TG} {PS : Out → Store → Prop} (h : wE K te ρ O fun d O1 => wG K g d ρ O1 fun ρ2 O2 => PS (.nx ρ2) O2) : wS K (tAsg te g) ρ O PS := fun F σ B H e hs Dn q =>
  h F σ B H e hs _ fun v d O1 B1 H1 p1 e1 hs1 r => p1 F v σ B1 H1 (e.mono e1) hs1 r _ fun σ2 ρ2 O2 B2 H2 p2 e2 hs2 r2 => q _ O2 B2 H2 p2 (e1.trans e2) hs2 σ2 r2
/-- a, b = e1, e2 -/
theorem s_par {i j : Nat} {ta : TA} {PS : Out → Store → Prop} (h : wA K ta ρ O fun ds O1 => ∃ x y, ds = [x, y] ∧ PS (.nx ((ρ.set i (some x)).set j (some y))) O1) : wS K (tPar i j ta) ρ O PS := fun F σ B H e hs Dn q =>
  h F σ B H e hs _ fun vs ds O1 B1 H1 p1 e1 hs1 r => by
    obtain ⟨x, y, rfl, p⟩ := p1
    cases r with
    | cons r1 r =>
      cases r with
      | cons r2 r =>
        cases r
        exact ⟨_, _, rfl, q _ O1 B1 H1 p e1 hs1 _ (((e.mono e1).set i r1).set j r2)⟩
end
/-! ### what is walked -/
def ItOk (K : PySem.W.Frag) (B : Hp) (J : It) (ds : List D) : Prop := ∀ B' H' O, Ex B B' → Hs K B' H' O → ∀ i,
  (∀ d, ds[i]? = some d → J.go i H' ∧ ∀ x H2, J.yld i H' x H2 → ∃ B2, Ex B' B2 ∧ Hs K B2 H2 O ∧ Rep K B2 x d) ∧ (ds[i]? = none → J.stop i H')
def wI (K : PySem.W.Frag) (wi : TI) (ρ : Rho) (O : Store) (P : List D → Store → Prop) : Prop :=
  ∀ F σ B H, EnvR K B σ ρ → Hs K B H (O ++ F) → ∀ R : It → Hp → Prop, (∀ J ds O' B2 H2, P ds O' → Ex B B2 → Hs K B2 H2 (O' ++ F) → ItOk K B2 J ds → R J H2) → wi σ H R
section
variable {K : PySem.W.Frag} {ρ : Rho} {O O1 : Store} {P : List D → Store → Prop}
theorem sq_one {a : Addr} {xs ys : List V} {H : Hp} (h : H a = some (.lst xs)) (h' : H a = some (.lst ys)) : xs = ys := by
  rw [h] at h'
  cases h'
  rfl
theorem itOk_list {B : Hp} {a : Addr} {xs : List V} {ds : List D} (h : B a = some (.lst xs)) (r : Reps K B xs ds) : ItOk K B (Itl K a) ds := fun B' H' O e hs i => by
  have h' : SqL K H' a xs := Evl.sq_of (hs.ex _ _ (e _ _ h))
  refine ⟨fun d hd => ?_, fun hd => ⟨xs, h', by rw [r.length]; exact List.getElem?_eq_none_iff.mp hd⟩⟩
  obtain ⟨v, hv, rv⟩ := r.get hd
  refine ⟨⟨xs, v, h', hv⟩, fun x H2 y => ?_⟩
  obtain ⟨rfl, y⟩ := y
  have := y xs h'
  rw [hv] at this
  cases this
  exact ⟨B', Evl.Ex.refl _, hs, rv.mono e⟩
theorem itOk_fz {B : Hp} {a : Addr} {xs : List V} {ds : List D} (h : SqL K B a xs) (r : Reps K B xs ds) : ItOk K B (Itl K a) ds := fun B' H' O e hs i => by
  have h' : SqL K H' a xs := Evl.ex_l hs.ex (Evl.ex_l e h)
  refine ⟨fun d hd => ?_, fun hd => ⟨xs, h', by rw [r.length]; exact List.getElem?_eq_none_iff.mp hd⟩⟩
  obtain ⟨v, hv, rv⟩ := r.get hd
  refine ⟨⟨xs, v, h', hv⟩, fun x H2 y => ?_⟩
  obtain ⟨rfl, y⟩ := y
  have := y xs h'
  rw [hv] at this
  cases this
  exact ⟨B', Evl.Ex.refl _, hs, rv.mono e⟩
theorem itOk_tup {B : Hp} {a : Addr} {xs : List V} {ds : List D} (h : SqT K B a xs) (r : Reps K B xs ds) : ItOk K B (Itt K a) ds := fun B' H' O e hs i => by
  have h' : SqT K H' a xs := Evl.ex_t hs.ex (Evl.ex_t e h)
  refine ⟨fun d hd => ?_, fun hd => ⟨xs, h', by rw [r.length]; exact List.getElem?_eq_none_iff.mp hd⟩⟩
  obtain ⟨v, hv, rv⟩ := r.get hd
  refine ⟨⟨xs, v, h', hv⟩, fun x H2 y => ?_⟩
  obtain ⟨rfl, y⟩ := y
  have := y xs h'
  rw [hv] at this
  cases this
  exact ⟨B', Evl.Ex.refl _, hs, rv.mono e⟩
def rangeD (lo : Int) (n : Nat) : List D := (List.range n).map fun (i : Nat) => D.int (lo + (i : Int))
theorem rangeD_get {lo : Int} {n i : Nat} {d : D} (h : (rangeD lo n)[i]? = some d) : i < n ∧ d = D.int (lo + i) := by
  unfold rangeD at h
  rw [List.getElem?_map] at h
  by_cases hi : i < n
  · rw [List.getElem?_range hi] at h
    simp at h
    exact ⟨hi, h.symm⟩
  · rw [List.getElem?_eq_none (by rw [List.length_range]; omega)] at h
    cases h
theorem rangeD_len {lo : Int} {n : Nat} : (rangeD lo n).length = n := by unfold rangeD; rw [List.length_map, List.length_range]
theorem itOk_range {B : Hp} {lo : Int} {n : Nat} : ItOk K B (Itr lo n) (rangeD lo n) := fun B' H' O e hs i => by
  refine ⟨fun d hd => ?_, fun hd => ?_⟩
  · obtain ⟨h1, rfl⟩ := rangeD_get hd
    refine ⟨h1, fun x H2 y => ?_⟩
    obtain ⟨rfl, rfl⟩ := y
    exact ⟨B', Evl.Ex.refl _, hs, .raw _⟩
  · have := List.getElem?_eq_none_iff.mp hd
    rw [rangeD_len] at this
    exact this
theorem i_list {tl : TE} (h : wE K tl ρ O fun d O1 => ∃ ds, d = .lst ds ∧ P ds O1) : wI K (iList K tl) ρ O P := fun F σ B H e hs R q =>
  h F σ B H e hs _ fun v d O1 B1 H1 p1 e1 hs1 r => by
    obtain ⟨ds, rfl, p⟩ := p1
    cases r with
    | lst hb r => exact ⟨_, rfl, ⟨_, Evl.sq_of (hs1.ex _ _ hb)⟩, q _ ds O1 B1 H1 p e1 hs1 (itOk_list hb r)⟩
theorem i_fz {tl : TE} (h : wE K tl ρ O fun d O1 => ∃ ds, d = .fz ds ∧ P ds O1) : wI K (iList K tl) ρ O P := fun F σ B H e hs R q =>
  h F σ B H e hs _ fun v d O1 B1 H1 p1 e1 hs1 r => by
    obtain ⟨ds, rfl, p⟩ := p1
    cases r with
    | fz hb r => exact ⟨_, rfl, ⟨_, Evl.ex_l hs1.ex hb⟩, q _ ds O1 B1 H1 p e1 hs1 (itOk_fz hb r)⟩
theorem i_tup {tl : TE} (h : wE K tl ρ O fun d O1 => ∃ ds, d = .tup ds ∧ P ds O1) : wI K (iTup K tl) ρ O P := fun F σ B H e hs R q =>
  h F σ B H e hs _ fun v d O1 B1 H1 p1 e1 hs1 r => by
    obtain ⟨ds, rfl, p⟩ := p1
    cases r with
    | tup hb r => exact ⟨_, rfl, ⟨_, Evl.ex_t hs1.ex hb⟩, q _ ds O1 B1 H1 p e1 hs1 (itOk_tup hb r)⟩
theorem i_rng1 {ta : TA} (h : wA K ta ρ O fun ds O1 => ∃ n : Int, ds = [.int n] ∧ -(2 ^ 62) ≤ n ∧ n < 2 ^ 62 ∧ P (rangeD 0 n.toNat) O1) : wI K (iRng1 ta) ρ O P := fun F σ B H e hs R q =>
  h F σ B H e hs _ fun vs ds O1 B1 H1 p1 e1 hs1 r => by
    obtain ⟨n, rfl, h1, h2, p⟩ := p1
    cases r with
    | cons r1 r =>
      cases r; cases r1
      exact ⟨n, rfl, h1, h2, q _ _ O1 B1 H1 p e1 hs1 itOk_range⟩
theorem i_rng2 {ta : TA} (h : wA K ta ρ O fun ds O1 => ∃ lo n : Int, ds = [.int lo, .int n] ∧ (-(2 ^ 62) ≤ lo ∧ lo < 2 ^ 62 ∧ -(2 ^ 62) ≤ n ∧ n < 2 ^ 62) ∧ P (rangeD lo (n - lo).toNat) O1) : wI K (iRng2 ta) ρ O P := fun F σ B H e hs R q =>
  h F σ B H e hs _ fun vs ds O1 B1 H1 p1 e1 hs1 r => by
    obtain ⟨lo, n, rfl, h1, p⟩ := p1
    cases r with
    | cons r1 r =>
      cases r with
      | cons r2 r =>
        cases r; cases r1; cases r2
        exact ⟨lo, n, rfl, h1, q _ _ O1 B1 H1 p e1 hs1 itOk_range⟩
def zipD : List D → List D → List D
  | x :: xs, y :: ys => .tup [x, y] :: zipD xs ys
  | _, _ => []
theorem zipD_len : ∀ (xs ys : List D), (zipD xs ys).length = min xs.length ys.length
  | [], _ => by simp [zipD]
  | _ :: _, [] => by simp [zipD]
  | x :: xs, y :: ys => by
    show (zipD xs ys).length + 1 = _
    rw [zipD_len xs ys, List.length_cons, List.length_cons]
    omega
theorem zipD_get : ∀ {xs ys : List D} {i : Nat} {d : D}, (zipD xs ys)[i]? = some d → ∃ x y, xs[i]? = some x ∧ ys[i]? = some y ∧ d = .tup [x, y]
  | [], _, _, _, h => by simp [zipD] at h
  | _ :: _, [], _, _, h => by simp [zipD] at h
  | x :: xs, y :: ys, 0, d, h => ⟨x, y, rfl, rfl, by simp [zipD] at h; exact h.symm⟩
  | x :: xs, y :: ys, i + 1, d, h => by
    have h' : (zipD xs ys)[i]? = some d := by simpa [zipD] using h
    obtain ⟨a, b, h1, h2, h3⟩ := zipD_get h'
    exact ⟨a, b, by simpa using h1, by simpa using h2, h3⟩
theorem itOk_zipT {B : Hp} {a b : Addr} {xs ys : List V} {ds es : List D} (h : SqT K B a xs) (r : Reps K B xs ds) (h2 : SqT K B b ys) (r2 : Reps K B ys es) : ItOk K B (RZ.ItzT K a b) (zipD ds es) := fun B' H' O e hs i => by
  have h' : SqT K H' a xs := Evl.ex_t hs.ex (Evl.ex_t e h)
  have h2' : SqT K H' b ys := Evl.ex_t hs.ex (Evl.ex_t e h2)
  refine ⟨fun d hd => ?_, fun hd => ⟨xs, ys, h', h2', ?_⟩⟩
  · obtain ⟨x, y, hx, hy, rfl⟩ := zipD_get hd
    obtain ⟨v, hv, rv⟩ := r.get hx
    obtain ⟨u, hu, ru⟩ := r2.get hy
    refine ⟨⟨xs, ys, v, u, h', h2', hv, hu⟩, fun z H2 q => ?_⟩
    obtain ⟨T, v', u', rfl, hT, rfl, q1, q2⟩ := q
    have e1 := q1 xs h'
    have e2 := q2 ys h2'
    rw [hv] at e1
    rw [hu] at e2
    cases e1; cases e2
    obtain ⟨hs2, ex2⟩ := hs.new (o := .tup [v, u]) hT
    exact ⟨_, ex2, hs2, .tup (Evl.st_of upd_same) (.cons ((rv.mono e).mono ex2) (.cons ((ru.mono e).mono ex2) .nil))⟩
  · have := List.getElem?_eq_none_iff.mp hd
    rw [zipD_len] at this
    rw [r.length, r2.length]
    omega
theorem itOk_zipL {B : Hp} {a b : Addr} {xs ys : List V} {ds es : List D} (h : B a = some (.lst xs)) (r : Reps K B xs ds) (h2 : B b = some (.lst ys)) (r2 : Reps K B ys es) : ItOk K B (Itz K a b) (zipD ds es) := fun B' H' O e hs i => by
  have h' : SqL K H' a xs := Evl.sq_of (hs.ex _ _ (e _ _ h))
  have h2' : SqL K H' b ys := Evl.sq_of (hs.ex _ _ (e _ _ h2))
  refine ⟨fun d hd => ?_, fun hd => ⟨xs, ys, h', h2', ?_⟩⟩
  · obtain ⟨x, y, hx, hy, rfl⟩ := zipD_get hd
    obtain ⟨v, hv, rv⟩ := r.get hx
    obtain ⟨u, hu, ru⟩ := r2.get hy
    refine ⟨⟨xs, ys, v, u, h', h2', hv, hu⟩, fun z H2 q => ?_⟩
    obtain ⟨T, v', u', rfl, hT, rfl, q1, q2⟩ := q
    have e1 := q1 xs h'
    have e2 := q2 ys h2'
    rw [hv] at e1
    rw [hu] at e2
    cases e1; cases e2
    obtain ⟨hs2, ex2⟩ := hs.new (o := .tup [v, u]) hT
    exact ⟨_, ex2, hs2, .tup (Evl.st_of upd_same) (.cons ((rv.mono e).mono ex2) (.cons ((ru.mono e).mono ex2) .nil))⟩
  · have := List.getElem?_eq_none_iff.mp hd
    rw [zipD_len] at this
    rw [r.length, r2.length]
    omega
theorem i_zip {ta : TA} (h : wA K ta ρ O fun ds O1 => ∃ xs ys, (ds = [.tup xs, .tup ys] ∨ ds = [.lst xs, .lst ys]) ∧ P (zipD xs ys) O1) : wI K (RZ.iZipA K ta) ρ O P := fun F σ B H e hs R q =>
  h F σ B H e hs _ fun vs ds O1 B1 H1 p1 e1 hs1 r => by
    obtain ⟨xs, ys, hd, p⟩ := p1
    rcases hd with rfl | rfl
    · cases r with
      | cons r1 r =>
        cases r with
        | cons r2 r =>
          cases r
          cases r1 with
          | tup ha ra =>
            cases r2 with
            | tup hb rb => exact ⟨_, _, _, _, rfl, .inr ⟨Evl.ex_t hs1.ex ha, Evl.ex_t hs1.ex hb, q _ _ O1 B1 H1 p e1 hs1 (itOk_zipT ha ra hb rb)⟩⟩
    · cases r with
      | cons r1 r =>
        cases r with
        | cons r2 r =>
          cases r
          cases r1 with
          | lst ha ra =>
            cases r2 with
            | lst hb rb => exact ⟨_, _, _, _, rfl, .inl ⟨Evl.sq_of (hs1.ex _ _ ha), Evl.sq_of (hs1.ex _ _ hb), q _ _ O1 B1 H1 p e1 hs1 (itOk_zipL ha ra hb rb)⟩⟩
/-- over a list or a tuple, whichever it is -/
def iSeq (K : PySem.W.Frag) (tl : TE) : TI := fun σ H R => tl σ H fun x H1 => ∃ a, x = .ref a ∧ (((∃ xs, SqL K H1 a xs) ∧ R (Itl K a) H1) ∨ ((∃ xs, SqT K H1 a xs) ∧ R (Itt K a) H1))
theorem pi_seq {X : Cx} {tg l : Expr} {tl : TE} (hl : PE X l tl) : PI X tg l (iSeq X.K tl) := ⟨fun pins s σ H R I h => by
  refine thn (hl.run pins s σ H _ I h) ?_
  rintro v s1 ⟨x, H1, I1, r1, a, rfl, q1⟩
  cases r1
  have fresh : FpOk X pins H1 s1.heap.objs.size := I1.fpOk (Nat.le_refl _) (I1.hok.fresh (Nat.le_refl _))
  have one : ∀ b ∈ [s1.heap.objs.size], FpOk X pins H1 b := fun b hb => by
    rw [List.mem_singleton.mp hb]
    exact fresh
  rcases q1 with ⟨⟨xs, hq⟩, q⟩ | ⟨⟨xs, hq⟩, q⟩
  · obtain ⟨its, rv, p, hz⟩ := I1.list hq
    exact wpAny_pyIter_list p.isList ⟨_, [_], _, _, H1, rfl, I1.kept (t' := s1.toks) (fun b o e => Heap.get?_push_of_some _ e), turn_list a _, ⟨_, Heap.get?_push_size _ rfl, rfl, rfl⟩, one, q⟩
  · obtain ⟨its, rv, p, hz⟩ := I1.tuple hq
    exact wpAny_pyIter_tuple (show s1.heap.IsTuple a its.toArray from p) ⟨_, [_], _, _, H1, rfl, I1.kept (t' := s1.toks) (fun b o e => Heap.get?_push_of_some _ e), turn_tuple a _, ⟨_, Heap.get?_push_size _ rfl, rfl, rfl⟩, one, q⟩⟩
theorem i_seq {tl : TE} (h : wE K tl ρ O fun d O1 => ∃ ds, (d = .lst ds ∨ d = .tup ds) ∧ P ds O1) : wI K (iSeq K tl) ρ O P := fun F σ B H e hs R q =>
  h F σ B H e hs _ fun v d O1 B1 H1 p1 e1 hs1 r => by
    obtain ⟨ds, hd, p⟩ := p1
    rcases hd with rfl | rfl
    · cases r with
      | lst hb r => exact ⟨_, rfl, .inl ⟨⟨_, Evl.sq_of (hs1.ex _ _ hb)⟩, q _ ds O1 B1 H1 p e1 hs1 (itOk_list hb r)⟩⟩
    · cases r with
      | tup hb r => exact ⟨_, rfl, .inr ⟨⟨_, Evl.ex_t hs1.ex hb⟩, q _ ds O1 B1 H1 p e1 hs1 (itOk_tup hb r)⟩⟩
/-! ### loops -/
variable {PS : Out → Store → Prop} {tb : TS} {wi : TI} {g : TG}
def loopP (I : Nat → Rho → Store → Prop) (n : Nat) (PS : Out → Store → Prop) : Out → Store → Prop
  | .nx ρ, O => I n ρ O
  | .ct ρ, O => I n ρ O
  | .bk ρ, O => PS (.nx ρ) O
  | .ret d, O => PS (.ret d) O
theorem s_for (h : wI K wi ρ O fun ds O1 => ∃ I : Nat → Rho → Store → Prop, I 0 ρ O1 ∧ (∀ i d ρ' O', ds[i]? = some d → I i ρ' O' → wG K g d ρ' O' fun ρ2 O2 => wS K tb ρ2 O2 (loopP I (i + 1) PS)) ∧ ∀ ρ' O', I ds.length ρ' O' → PS (.nx ρ') O') :
    wS K (tFor wi g tb) ρ O PS := fun F σ B H e hs Dn q => by
  refine h F σ B H e hs _ fun J ds O1 B1 H1 p1 e1 hs1 it => ?_
  obtain ⟨I, h0, hstep, hend⟩ := p1
  let W : Nat → L2.St → Hp → Prop := fun i σ' H' => ∃ ρ' O' B', I i ρ' O' ∧ Ex B1 B' ∧ Hs K B' H' (O' ++ F) ∧ EnvR K B' σ' ρ'
  refine ⟨fun i m σ' H' => m = ds.length - i ∧ i ≤ ds.length ∧ W i σ' H', ⟨_, rfl, Nat.zero_le _, ρ, O1, B1, h0, Evl.Ex.refl _, hs1, e.mono e1⟩, ?_⟩
  rintro i m σ' H' ⟨rfl, hi, ρ', O', B', hI, eB, hs', en⟩
  have turn := it B' H' (O' ++ F) eB hs' i
  cases hd : ds[i]? with
  | none =>
    have hle := List.getElem?_eq_none_iff.mp hd
    have hii : i = ds.length := by omega
    subst hii
    exact .inl ⟨turn.2 hd, q (.nx ρ') O' B' H' (hend ρ' O' hI) (e1.trans eB) hs' σ' en⟩
  | some d =>
    have hlt : i < ds.length := (List.getElem?_eq_some_iff.mp hd).1
    obtain ⟨go, hy⟩ := turn.1 d hd
    refine .inr ⟨go, W (i + 1), fun σ2 H2 w2 => ⟨ds.length - (i + 1), by omega, rfl, hlt, w2⟩, fun x H2 y => ?_⟩
    obtain ⟨B2, e2, hs2, rx⟩ := hy x H2 y
    refine hstep i d ρ' O' hd hI F x σ' B2 H2 (en.mono e2) hs2 rx _ fun σ3 ρ3 O3 B3 H3 p3 e3 hs3 en3 => ?_
    refine p3 F σ3 B3 H3 en3 hs3 _ fun o O4 B4 H4 p4 e4 hs4 => ?_
    have eAll : Ex B1 B4 := ((eB.trans e2).trans e3).trans e4
    cases o with
    | nx ρ4 => exact fun σ4 r4 => ⟨ρ4, O4, B4, p4, eAll, hs4, r4⟩
    | ct ρ4 => exact fun σ4 r4 => ⟨ρ4, O4, B4, p4, eAll, hs4, r4⟩
    | bk ρ4 => exact q (.nx ρ4) O4 B4 H4 p4 (e1.trans eAll) hs4
    | ret d4 => exact q (.ret d4) O4 B4 H4 p4 (e1.trans eAll) hs4
/-- while: I by a measure that falls -/
theorem s_while {t : TT} (I : Nat → Rho → Store → Prop) (m0 : Nat) (h0 : I m0 ρ O) (hs0 : ∀ m ρ' O', I m ρ' O' → wT K t ρ' O' fun b O2 => (b = true → wS K tb ρ' O2 (fun o O3 => match o with
      | .nx ρ3 => ∃ m', m' < m ∧ I m' ρ3 O3
      | .ct ρ3 => ∃ m', m' < m ∧ I m' ρ3 O3
      | .bk ρ3 => PS (.nx ρ3) O3
      | .ret d => PS (.ret d) O3)) ∧ (b = false → PS (.nx ρ') O2)) : wS K (tWhile t tb) ρ O PS := fun F σ B H e hs Dn q => by
  let W : Nat → L2.St → Hp → Prop := fun m σ' H' => ∃ ρ' O' B', I m ρ' O' ∧ Ex B B' ∧ Hs K B' H' (O' ++ F) ∧ EnvR K B' σ' ρ'
  refine ⟨W, ⟨m0, ρ, O, B, h0, Evl.Ex.refl _, hs, e⟩, ?_⟩
  rintro m σ' H' ⟨ρ', O', B', hI, eB, hs', en⟩
  refine hs0 m ρ' O' hI F σ' B' H' en hs' _ fun b O2 B2 H2 p2 e2 hs2 => ?_
  cases b with
  | false =>
    show (if false = true then _ else _)
    rw [if_neg Bool.false_ne_true]
    exact q (.nx ρ') O2 B2 H2 (p2.2 rfl) (eB.trans e2) hs2 σ' (en.mono e2)
  | true =>
    show (if true = true then _ else _)
    rw [if_pos rfl]
    refine ⟨fun σ3 H3 => ∃ m', m' < m ∧ W m' σ3 H3, fun _ _ z => z, ?_⟩
    refine p2.1 rfl F σ' B2 H2 (en.mono e2) hs2 _ fun o O4 B4 H4 p4 e4 hs4 => ?_
    have eAll : Ex B B4 := (eB.trans e2).trans e4
    cases o with
    | nx ρ4 =>
      obtain ⟨m', hm, hI4⟩ := p4
      exact fun σ4 r4 => ⟨m', hm, ρ4, O4, B4, hI4, eAll, hs4, r4⟩
    | ct ρ4 =>
      obtain ⟨m', hm, hI4⟩ := p4
      exact fun σ4 r4 => ⟨m', hm, ρ4, O4, B4, hI4, eAll, hs4, r4⟩
    | bk ρ4 => exact q (.nx ρ4) O4 B4 H4 p4 eAll hs4
    | ret d4 => exact q (.ret d4) O4 B4 H4 p4 eAll hs4
/-- [e for g in .. if ..] -/
theorem e_lc {tt : TT} {te : TE} {vs : List Nat} {P : D → Store → Prop} (hg : GOnly g vs) (mg : GMono g) (h : wI K wi ρ O fun ds O1 => ds.length < 90000 ∧ ∃ I : Nat → List D → Store → Prop, I 0 [] O1 ∧
    (∀ i d acc O', ds[i]? = some d → acc.length ≤ i → I i acc O' → wG K g d (wipeR ρ vs) O' fun ρ2 O2 => wT K tt ρ2 O2 fun b O3 => (b = true → wE K te ρ2 O3 fun y O4 => I (i + 1) (acc ++ [y]) O4) ∧ (b = false → I (i + 1) acc O3)) ∧
    ∀ acc O', I ds.length acc O' → P (.lst acc) O') : wE K (tLc wi g tt te vs) ρ O P := fun F σ B H e hs Q q => by
  refine h F σ B H e hs _ fun J ds O1 B1 H1 p1 e1 hs1 it => ?_
  obtain ⟨hlen, I, h0, hstep, hend⟩ := p1
  intro Dl hDl
  let W : Nat → Hp → Prop := fun i H' => ∃ acc O' B', I i acc O' ∧ acc.length ≤ i ∧ Ex B1 B' ∧ Hs K B' H' ((Dl, Own.lst acc) :: (O' ++ F))
  refine ⟨fun i m H' => m = ds.length - i ∧ i ≤ ds.length ∧ W i H', ⟨_, rfl, Nat.zero_le _, [], O1, B1, h0, Nat.le_refl _, Evl.Ex.refl _, hs1.newOwn (w := .lst []) hDl ⟨[], upd_same, .nil⟩⟩, ?_⟩
  rintro i m H' ⟨rfl, hi, acc, O', B', hI, hal, eB, hs'⟩
  have turn := it B' H' _ eB hs' i
  cases hd : ds[i]? with
  | none =>
    have hle := List.getElem?_eq_none_iff.mp hd
    have hii : i = ds.length := by omega
    subst hii
    refine .inl ⟨turn.2 hd, ?_⟩
    obtain ⟨ws, hw, rw_⟩ := (hs'.own _ List.mem_cons_self).2
    obtain ⟨hs2, e2⟩ := hs'.freeze hw
    exact q _ _ O' _ H' (hend acc O' hI) ((e1.trans eB).trans e2) hs2 (.lst upd_same (rw_.mono e2))
  | some d =>
    have hlt : i < ds.length := (List.getElem?_eq_some_iff.mp hd).1
    obtain ⟨go, hy⟩ := turn.1 d hd
    refine .inr ⟨go, W (i + 1), fun H2 w2 => ⟨ds.length - (i + 1), by omega, rfl, hlt, w2⟩, fun x H2 y => ?_⟩
    obtain ⟨B2, e2, hs2, rx⟩ := hy x H2 y
    have hs2' : Hs K B2 H2 (O' ++ (F ++ [(Dl, Own.lst acc)])) := hs2.perm (by rw [← List.append_assoc]; exact (List.perm_append_singleton _ _).symm)
    have en0 : EnvR K B2 (L2.wipe σ vs) (wipeR ρ vs) := ((((e.mono e1).mono eB).mono e2)).wipe vs
    refine mg _ _ _ _ _ (fun σ3 H3 z => ⟨wipe_same z.1, z.2⟩) (hg _ _ _ _ ?_)
    refine hstep i d acc O' hd hal hI (F ++ [(Dl, Own.lst acc)]) x (L2.wipe σ vs) B2 H2 en0 hs2' rx _ fun σ3 ρ3 O3 B3 H3 p3 e3 hs3 en3 => ?_
    refine p3 _ σ3 B3 H3 en3 hs3 _ fun b O4 B4 H4 p4 e4 hs4 => ?_
    have back : ∀ {B5 H5 : Hp} {O5 : Store}, Hs K B5 H5 (O5 ++ (F ++ [(Dl, Own.lst acc)])) → Hs K B5 H5 ((Dl, Own.lst acc) :: (O5 ++ F)) := fun hz => hz.perm (by rw [← List.append_assoc]; exact List.perm_append_singleton _ _)
    cases b with
    | false =>
      show (if false = true then _ else _)
      rw [if_neg Bool.false_ne_true]
      exact ⟨acc, O4, B4, p4.2 rfl, by omega, ((eB.trans e2).trans e3).trans e4, back hs4⟩
    | true =>
      show (if true = true then _ else _)
      rw [if_pos rfl]
      refine p4.1 rfl _ σ3 B4 H4 (en3.mono e4) hs4 _ fun u y O5 B5 H5 p5 e5 hs5 ry => ?_
      have hs6 := back hs5
      obtain ⟨ws, hw, rws⟩ := (hs6.own _ List.mem_cons_self).2
      refine ⟨ws, hw, Evl.sz_lt (by rw [rws.length]; omega), acc ++ [y], O5, B5, p5, by rw [List.length_append]; simp; omega, (((eB.trans e2).trans e3).trans e4).trans e5, ?_⟩
      exact hs6.write (o := .lst (ws ++ [u])) .here ⟨_, upd_same, rws.append (.cons ry .nil)⟩
theorem t_yes {P : Bool → Store → Prop} (p : P true O) : wT K tYes ρ O P := fun F σ B H e hs Q q => q true O B H p (Evl.Ex.refl B) hs
end
end G
namespace G
open PySem L2 PySem.Spec PyProof.Rows
/-! ### promises over data -/
/-- a def that changes nothing of its caller's -/
def spP (K : PySem.W.Frag) (n : Nat) (W : List D → (D → Prop) → Prop) : Sp := fun vs H Q _ => ∃ F B ds P, Hs K B H F ∧ Reps K B vs ds ∧ ds.length = n ∧ W ds P ∧ ∀ v d B2 H2, P d → Ex B B2 → Hs K B2 H2 F → Rep K B2 v d → Q v H2
/-- a def that changes what is owned -/
def spW (K : PySem.W.Frag) (n : Nat) (W : List D → Store → (D → Store → Prop) → Prop) : Sp := fun vs H Q _ => ∃ F O B ds P, Hs K B H (O ++ F) ∧ Reps K B vs ds ∧ ds.length = n ∧ W ds O P ∧ ∀ v d O2 B2 H2, P d O2 → Ex B B2 → Hs K B2 H2 (O2 ++ F) → Rep K B2 v d → Q v H2
/-- an __init__; PX: the classes of the errors that leave it -/
def spI (K : PySem.W.Frag) (C : Addr) (n : Nat) (W : List D → (List (Str × D) → Prop) → (Addr → Prop) → Prop) : Sp := fun vs H Q E => ∃ x dx ws F B ds P PX, vs = V.ref x :: ws ∧ H x = some (.ins C dx []) ∧ Hs K B H ((x, .ins C []) :: F) ∧ Reps K B ws ds ∧ ds.length = n ∧ W ds P PX ∧
  (∀ fs B2 H2, P fs → Ex B B2 → Hs K B2 H2 ((x, .ins C fs) :: F) → Q .non H2) ∧ ∀ c B2 H2, PX c → Ex B B2 → Hs K B2 H2 F → E (.ref c) none H2
/-- a def that may raise -/
def spX (K : PySem.W.Frag) (n : Nat) (W : List D → (D → Prop) → (Addr → Prop) → Prop) : Sp := fun vs H Q E => ∃ F B ds P PX, Hs K B H F ∧ Reps K B vs ds ∧ ds.length = n ∧ W ds P PX ∧ (∀ v d B2 H2, P d → Ex B B2 → Hs K B2 H2 F → Rep K B2 v d → Q v H2) ∧ ∀ c B2 H2, PX c → Ex B B2 → Hs K B2 H2 F → E (.ref c) none H2
section
variable {K : PySem.W.Frag} {ρ : Rho} {O O1 : Store} {P : D → Store → Prop} {n : Nat} {E : XK}
theorem e_call {W : List D → (D → Prop) → Prop} {t : TA} (h : wA K t ρ O fun ds O1 => ds.length = n ∧ W ds fun d => P d O1) : wE K (tCall (spP K n W) [] E t) ρ O P := fun F σ B H e hs Q q =>
  h F σ B H e hs _ fun vs ds O1 B1 H1 p1 e1 hs1 r => ⟨O1 ++ F, B1, ds, _, hs1, by rw [List.append_nil]; exact r, p1.1, p1.2, fun v d B2 H2 p e2 hs2 rv => q v d O1 B2 H2 p (e1.trans e2) hs2 rv⟩
theorem e_callW {W : List D → Store → (D → Store → Prop) → Prop} {t : TA} (h : wA K t ρ O fun ds O1 => ds.length = n ∧ W ds O1 P) : wE K (tCall (spW K n W) [] E t) ρ O P := fun F σ B H e hs Q q =>
  h F σ B H e hs _ fun vs ds O1 B1 H1 p1 e1 hs1 r => ⟨F, O1, B1, ds, P, hs1, by rw [List.append_nil]; exact r, p1.1, p1.2, fun v d O2 B2 H2 p e2 hs2 rv => q v d O2 B2 H2 p (e1.trans e2) hs2 rv⟩
theorem e_callX {W : List D → (D → Prop) → (Addr → Prop) → Prop} {t : TA} (h : wA K t ρ O fun ds O1 => ds.length = n ∧ W ds (fun d => P d O1) fun _ => False) : wE K (tCall (spX K n W) [] E t) ρ O P := fun F σ B H e hs Q q =>
  h F σ B H e hs _ fun vs ds O1 B1 H1 p1 e1 hs1 r => ⟨O1 ++ F, B1, ds, _, _, hs1, by rw [List.append_nil]; exact r, p1.1, p1.2, fun v d B2 H2 p e2 hs2 rv => q v d O1 B2 H2 p (e1.trans e2) hs2 rv, fun _ _ _ z => z.elim⟩
/-- what a new instance's __init__ is handed -/
theorem init_pre {C : Addr} {W : List D → (List (Str × D) → Prop) → (Addr → Prop) → Prop} {B1 H1 : Hp} {F1 : Store} {vs : List V} {ds : List D} {PF : List (Str × D) → Prop} {PX : Addr → Prop} {Q : VK} (hs1 : Hs K B1 H1 F1) (r : Reps K B1 vs ds) (hn : ds.length = n) (hw : W ds PF PX)
    (q : ∀ v fs B2 H2, PF fs → Ex B1 B2 → Hs K B2 H2 F1 → Rep K B2 v (.ins C fs) → Q v H2) (qx : ∀ c B2 H2, PX c → Ex B1 B2 → Hs K B2 H2 F1 → E (.ref c) none H2) :
    ∀ x dx, H1 x = none → H1 dx = none → dx ≠ x → spI K C n W (V.ref x :: (vs ++ [])) (upd (upd H1 dx (.own x)) x (.ins C dx [])) (fun v H2 => v = .non ∧ Q (.ref x) H2) E := by
  intro x dx hx hdx hne
  have hs2 : Hs K B1 (upd H1 dx (.own x)) F1 := hs1.other hdx
  have hx2 : upd H1 dx (.own x) x = none := by rw [upd_ne (fun e => hne e.symm)]; exact hx
  have hs3 := hs2.newOwn (o := .ins C dx []) (w := .ins C []) hx2 ⟨dx, [], upd_same, .nil⟩
  refine ⟨x, dx, vs, F1, B1, ds, PF, PX, by rw [List.append_nil], upd_same, hs3, r, hn, hw, fun fs B2 H2 p e2 hs4 => ⟨rfl, ?_⟩, qx⟩
  obtain ⟨dx', us, hu, ru⟩ := (hs4.own _ List.mem_cons_self).2
  obtain ⟨hs5, e5⟩ := hs4.freeze hu
  exact q _ fs _ H2 p (e2.trans e5) hs5 (.ins upd_same (ru.mono e5))
theorem e_make {C : Addr} {W : List D → (List (Str × D) → Prop) → (Addr → Prop) → Prop} {t : TA} (h : wA K t ρ O fun ds O1 => ds.length = n ∧ W ds (fun fs => P (.ins C fs) O1) fun _ => False) : wE K (tMake C (spI K C n W) [] E t) ρ O P := fun F σ B H e hs Q q =>
  h F σ B H e hs _ fun vs ds O1 B1 H1 p1 e1 hs1 r => init_pre hs1 r p1.1 p1.2 (fun v fs B2 H2 p e2 hs2 rv => q v _ O1 B2 H2 p (e1.trans e2) hs2 rv) fun _ _ _ z => z.elim
end
section
variable {K : PySem.W.Frag} {n : Nat} {E : XK}
/-- C(..) whose __init__ may raise, with the state in hand -/
theorem makeX {C : Addr} {W : List D → (List (Str × D) → Prop) → (Addr → Prop) → Prop} {t : TA} {ρ : Rho} {σ : L2.St} {B H : Hp} {F : Store} {Q : VK} {P : D → Prop} {PX : Addr → Prop}
    (h : wA K t ρ [] fun ds O => O = [] ∧ ds.length = n ∧ W ds (fun fs => P (.ins C fs)) PX) (e : EnvR K B σ ρ) (hs : Hs K B H F)
    (q : ∀ v d B2 H2, P d → Ex B B2 → Hs K B2 H2 F → Rep K B2 v d → Q v H2) (qx : ∀ c B2 H2, PX c → Ex B B2 → Hs K B2 H2 F → E (.ref c) none H2) : tMake C (spI K C n W) [] E t σ H Q := by
  refine h F σ B H e hs _ fun vs ds O1 B1 H1 p1 e1 hs1 r => ?_
  obtain ⟨rfl, hn, hw⟩ := p1
  exact init_pre hs1 r hn hw (fun v fs B2 H2 p e2 hs2 rv => q v _ B2 H2 p (e1.trans e2) hs2 rv) fun c B2 H2 p e2 hs2 => qx c B2 H2 p (e1.trans e2) hs2
end
/-! ### a def holds its promise -/
def retP (P : D → Prop) : Out → Store → Prop
  | .ret d, _ => P d
  | .nx _, _ => P .non
  | _, _ => False
def retW (P : D → Store → Prop) : Out → Store → Prop
  | .ret d, O => P d O
  | .nx _, O => P .non O
  | _, _ => False
/-- the ends of an __init__: the instance at x -/
def retI (x C : Addr) (PF : List (Str × D) → Prop) : Out → Store → Prop
  | .nx _, O => ∃ fs, O = [(x, .ins C fs)] ∧ PF fs
  | _, _ => False
section
variable {Pr : Program} {w : World} {K : PySem.W.Frag} {mg : Str → Option Value} {base : Heap} {x qual : Str} {st : Stmt} {f : Addr} {fd : FuncData} {N ps : List Str} {k n : Nat}
theorem Reps.len2 {B : Hp} {vs : List V} {ds : List D} (r : Reps K B vs ds) (h : ds.length = n) : vs.length = n := r.length.trans h
theorem okP {W : List D → (D → Prop) → Prop} (F : Fun K x qual st f fd) (S : FnScope N ps (defScope st)) (hn : ps.length = n)
    (hb : ∀ (cdv : Value) (A : Around) (outer : List Env) (s : Shared) (H : Hp) (E : XK), Room k (A.deeper (envOfC qual (defScope st) s.heap.objs.size f cdv)) → ∃ t, PSs (cxOf CX0 Pr w K mg base N qual (defScope st) f cdv A outer s H E).nox (defBody st) t ∧
      ∀ ds P, ds.length = n → W ds P → wS K t (rho0 N.length ds) [] (retP P)) : FnOk Pr w K mg base CX0 (k + 1) f fd ps (spP K n W) := by
  refine F.ok S (fun vs H Q E h => ?_) (fun cdv A outer s H vs Q E hr h => ?_)
  · obtain ⟨F1, B, ds, P, _, r, hl, _⟩ := h
    rw [r.length, hl, hn]
  · obtain ⟨t, ht, hw⟩ := hb cdv A outer s H E hr
    refine ⟨t, ht, ?_⟩
    obtain ⟨F1, B, ds, P, hs, r, hl, hW, q⟩ := h
    refine hw ds P hl hW F1 _ B H (envR_start r) hs _ fun o O2 B2 H2 p e2 hs2 => ?_
    cases o with
    | nx ρ => exact fun σ _ => q _ _ B2 H2 p e2 hs2.dropL (.raw _)
    | ret d => exact fun v rv => q v d B2 H2 p e2 hs2.dropL rv
    | bk ρ => exact False.elim p
    | ct ρ => exact False.elim p
theorem okW {W : List D → Store → (D → Store → Prop) → Prop} (F : Fun K x qual st f fd) (S : FnScope N ps (defScope st)) (hn : ps.length = n)
    (hb : ∀ (cdv : Value) (A : Around) (outer : List Env) (s : Shared) (H : Hp) (E : XK), Room k (A.deeper (envOfC qual (defScope st) s.heap.objs.size f cdv)) → ∃ t, PSs (cxOf CX0 Pr w K mg base N qual (defScope st) f cdv A outer s H E).nox (defBody st) t ∧
      ∀ ds O P, ds.length = n → W ds O P → wS K t (rho0 N.length ds) O (retW P)) : FnOk Pr w K mg base CX0 (k + 1) f fd ps (spW K n W) := by
  refine F.ok S (fun vs H Q E h => ?_) (fun cdv A outer s H vs Q E hr h => ?_)
  · obtain ⟨F1, O1, B, ds, P, _, r, hl, _⟩ := h
    rw [r.length, hl, hn]
  · obtain ⟨t, ht, hw⟩ := hb cdv A outer s H E hr
    refine ⟨t, ht, ?_⟩
    obtain ⟨F1, O1, B, ds, P, hs, r, hl, hW, q⟩ := h
    refine hw ds O1 P hl hW F1 _ B H (envR_start r) hs _ fun o O2 B2 H2 p e2 hs2 => ?_
    cases o with
    | nx ρ => exact fun σ _ => q _ _ O2 B2 H2 p e2 hs2 (.raw _)
    | ret d => exact fun v rv => q v d O2 B2 H2 p e2 hs2 rv
    | bk ρ => exact False.elim p
    | ct ρ => exact False.elim p
/-- an __init__ that may raise -/
theorem okI {C : Addr} {W : List D → (List (Str × D) → Prop) → (Addr → Prop) → Prop} (F : Fun K x qual st f fd) (S : FnScope N ps (defScope st)) (hn : ps.length = n + 1)
    (hb : ∀ (cdv : Value) (A : Around) (outer : List Env) (s : Shared) (H0 : Hp) (E : XK), Room k (A.deeper (envOfC qual (defScope st) s.heap.objs.size f cdv)) → ∃ t, PSs (cxOf (L2.CX Pr w) Pr w K mg base N qual (defScope st) f cdv A outer s H0 E) (defBody st) t ∧
      ∀ ds PF PX, ds.length = n → W ds PF PX → ∀ (xa : Addr) (F1 : Store) (B H : Hp) (σ : L2.St) (Q : VK), EnvR K B σ (rho0 N.length (.loc xa :: ds)) → Hs K B H ((xa, .ins C []) :: F1) →
      (∀ fs B2 H2, PF fs → Ex B B2 → Hs K B2 H2 ((xa, .ins C fs) :: F1) → Q .non H2) → (∀ c B2 H2, PX c → Ex B B2 → Hs K B2 H2 F1 → E (.ref c) none H2) → t { nx := fun _ H' => Q .non H', rt := Q } σ H) :
    FnOk Pr w K mg base (L2.CX Pr w) (k + 1) f fd ps (spI K C n W) := by
  refine F.okX S (fun vs H Q E h => ?_) (fun cdv A outer s H vs Q E hr h => ?_)
  · obtain ⟨xa, dx, ws, F1, B, ds, PF, PX, rfl, _, _, r, hl, _⟩ := h
    rw [List.length_cons, r.length, hl, hn]
  · obtain ⟨t, ht, hw⟩ := hb cdv A outer s H E hr
    refine ⟨t, ht, ?_⟩
    obtain ⟨xa, dx, ws, F1, B, ds, PF, PX, rfl, hx, hs, r, hl, hW, q, qx⟩ := h
    exact hw ds PF PX hl hW xa F1 B H _ Q (envR_start (.cons (.raw _) r)) hs q qx
/-- the rest of an __init__ -/
theorem init_rest {C xa : Addr} {PF : List (Str × D) → Prop} {t : TS} {ρ : Rho} {B0 B H : Hp} {σ : L2.St} {F1 : Store} {Q : VK} (h : wS K t ρ [(xa, .ins C [])] (retI xa C PF)) (e : EnvR K B σ ρ) (hs : Hs K B H ((xa, .ins C []) :: F1)) (e0 : Ex B0 B)
    (q : ∀ fs B2 H2, PF fs → Ex B0 B2 → Hs K B2 H2 ((xa, .ins C fs) :: F1) → Q .non H2) : t { nx := fun _ H' => Q .non H', rt := Q } σ H := by
  refine h F1 σ B H e hs _ fun o O2 B2 H2 p e2 hs2 => ?_
  cases o with
  | nx ρ =>
    obtain ⟨fs, rfl, pf⟩ := p
    exact fun _ _ => q fs B2 H2 pf (e0.trans e2) hs2
  | ret d => exact False.elim p
  | bk ρ => exact False.elim p
  | ct ρ => exact False.elim p
theorem okX {W : List D → (D → Prop) → (Addr → Prop) → Prop} (F : Fun K x qual st f fd) (S : FnScope N ps (defScope st)) (hn : ps.length = n)
    (hb : ∀ (cdv : Value) (A : Around) (outer : List Env) (s : Shared) (H0 : Hp) (E : XK), Room k (A.deeper (envOfC qual (defScope st) s.heap.objs.size f cdv)) → ∃ t, PSs (cxOf (L2.CX Pr w) Pr w K mg base N qual (defScope st) f cdv A outer s H0 E) (defBody st) t ∧
      ∀ ds P PX, ds.length = n → W ds P PX → ∀ (F1 : Store) (B H : Hp) (σ : L2.St) (Q : VK), EnvR K B σ (rho0 N.length ds) → Hs K B H F1 →
      (∀ v d B2 H2, P d → Ex B B2 → Hs K B2 H2 F1 → Rep K B2 v d → Q v H2) → (∀ c B2 H2, PX c → Ex B B2 → Hs K B2 H2 F1 → E (.ref c) none H2) → t { nx := fun _ H' => Q .non H', rt := Q } σ H) :
    FnOk Pr w K mg base (L2.CX Pr w) (k + 1) f fd ps (spX K n W) := by
  refine F.okX S (fun vs H Q E h => ?_) (fun cdv A outer s H vs Q E hr h => ?_)
  · obtain ⟨F1, B, ds, P, PX, _, r, hl, _⟩ := h
    rw [r.length, hl, hn]
  · obtain ⟨t, ht, hw⟩ := hb cdv A outer s H E hr
    refine ⟨t, ht, ?_⟩
    obtain ⟨F1, B, ds, P, PX, hs, r, hl, hW, q, qx⟩ := h
    exact hw ds P PX hl hW F1 B H _ Q (envR_start r) hs q qx
/-- tests ahead of the rest, with the state in hand -/
theorem t_run {K : PySem.W.Frag} {tt : TT} {ρ : Rho} {O F : Store} {P : Bool → Store → Prop} {σ : L2.St} {B H : Hp} {Q : Bool → Hp → Prop} (h : wT K tt ρ O P) (e : EnvR K B σ ρ) (hs : Hs K B H (O ++ F)) (q : FinT K B F P Q) : tt σ H Q := h F σ B H e hs Q q
end
/-! ### an own class, its operators -/
structure KC (K : PySem.W.Frag) (C : Addr) : Prop where
  cl : Cls K C
  ha : PySem.W.findIn K (.ref C) "__class__" = some (some (.builtin "object.__class__"))
  hn : PySem.W.specialIn K (.builtin "object.__class__") "__get__" = some (some (.builtin "getset_descriptor.__get__"))
  htk : PySem.W.takesIn K (.builtin "object.__class__") = some true
  hm : PySem.W.mroIn K C (.type "object") = some true
/-- an operator of an own class: x of the class, y of the class too -/
def rOwn (C : Addr) (sp : Sp) (E : XK) : R2 := fun x y H Q => ∃ a b dx dy fs gs, x = .ref a ∧ y = .ref b ∧ H a = some (.ins C dx fs) ∧ H b = some (.ins C dy gs) ∧ sp [x, y] H Q E
def rOwn1 (C : Addr) (sp : Sp) (E : XK) : V → Hp → VK → Prop := fun x H Q => ∃ a dx fs, x = .ref a ∧ H a = some (.ins C dx fs) ∧ sp [x] H Q E
theorem back_of {X : Cx} {pins : List (Addr × Obj)} {σ : L2.St} {Q : VK} {u : Value} {s' : Shared} (h : EP X pins σ Q u s') : PySem.W.CmpBack (EP X pins σ Q) u s' := by
  obtain ⟨v, H', I, r, q⟩ := id h
  cases v with
  | non => cases (show u = Value.none from r); exact h
  | bl b => cases (show u = Value.bool b from r); exact h
  | int i => obtain ⟨t, rfl⟩ := (show ∃ t, u = Value.int i t from r); exact h
  | str z => obtain ⟨t, rfl⟩ := (show ∃ t, u = Value.str z t from r); exact h
  | byt z => obtain ⟨t, rfl⟩ := (show ∃ t, u = Value.bytes z t from r); exact h
  | flt z => obtain ⟨t, rfl⟩ := (show ∃ t, u = Value.float z t from r); exact h
  | ref a => cases (show u = Value.ref a from r); exact h
  | ty n => cases (show u = Value.type n from r); exact h
section
variable {X : Cx} {CX : CXT} {k : Nat} {f C : Addr} {fd : FuncData} {ps : List Str} {sp : Sp} {E : XK}
theorem op_own {op : Operator} (F : FnOk X.prog X.w X.K X.mg X.base CX k f fd ps sp) (hr : Room k X.A) (hb : Binds X.K fd ps []) (hx : Passes CX X E) (hc : PySem.W.selfFirst X.K C = true) (hs : PySem.W.findIn X.K (.ref C) (PySem.dunder op.info.2) = some (some (.ref f))) (hf : PySem.W.isFn X.K (.ref f) = true) :
    OpR X (binaryOp op) (rOwn C sp E) := by
  intro pins s σ H x y v u Q I rx ry h
  obtain ⟨a, b, dx, dy, fs, gs, rfl, rfl, ha, hb', q⟩ := h
  cases rx; cases ry
  obtain ⟨mA, J, _⟩ := ins_get I.hok ha
  obtain ⟨mB, J', _⟩ := ins_get I.hok hb'
  obtain ⟨od, J, _⟩ := J.look
  obtain ⟨od', J', _⟩ := J'.look
  obtain ⟨m, hF⟩ := I.fr
  refine PySem.W.binop_K hF I.ok.mod.kin J J'.type hc hs hf ?_
  exact thn (run_fn (vs := [.ref a, .ref b]) (us := [.ref a, .ref b]) F hr hb .nil hx I (.cons rfl (.cons rfl .nil)) q) fun _ _ z => back_of z
theorem op_cmpOwn {op : CmpOp} (F : FnOk X.prog X.w X.K X.mg X.base CX k f fd ps sp) (hr : Room k X.A) (hb : Binds X.K fd ps []) (hx : Passes CX X E) (hs : PySem.W.findIn X.K (.ref C) (cmpInfo op).2.1 = some (some (.ref f))) (hf : PySem.W.isFn X.K (.ref f) = true)
    (hop : ∀ v u, compareOp op v u = richCompare op v u) : OpR X (compareOp op) (rOwn C sp E) := by
  intro pins s σ H x y v u Q I rx ry h
  obtain ⟨a, b, dx, dy, fs, gs, rfl, rfl, ha, hb', q⟩ := h
  cases rx; cases ry
  rw [hop]
  obtain ⟨mA, J, _⟩ := ins_get I.hok ha
  obtain ⟨mB, J', _⟩ := ins_get I.hok hb'
  obtain ⟨od, J, _⟩ := J.look
  obtain ⟨od', J', _⟩ := J'.look
  obtain ⟨m, hF⟩ := I.fr
  refine PySem.W.cmp_K hr.units0 hF I.ok.mod.kin J J'.type (by simp [PySem.W.notFirst]) hs hf ?_
  exact thn (run_fn (vs := [.ref a, .ref b]) (us := [.ref a, .ref b]) F hr hb .nil hx I (.cons rfl (.cons rfl .nil)) q) fun _ _ z => back_of z
theorem un_own (F : FnOk X.prog X.w X.K X.mg X.base CX k f fd ps sp) (hr : Room k X.A) (hb : Binds X.K fd ps []) (hx : Passes CX X E) (hs : PySem.W.findIn X.K (.ref C) "__neg__" = some (some (.ref f))) (hf : PySem.W.isFn X.K (.ref f) = true) :
    UnR X (unaryOp .USub) (rOwn1 C sp E) := by
  intro pins s σ H x v Q I rx h
  obtain ⟨a, dx, fs, rfl, ha, q⟩ := h
  cases rx
  obtain ⟨mA, J, _⟩ := ins_get I.hok ha
  obtain ⟨od, J, _⟩ := J.look
  obtain ⟨m, hF⟩ := I.fr
  refine PySem.W.ksp_neg hF I.ok.mod.kin J hs hf ?_
  exact run_fn (vs := [.ref a]) (us := [.ref a]) F hr hb .nil hx I (.cons rfl .nil) q
end
section
variable {K : PySem.W.Frag} {O O1 : Store} {P : D → Store → Prop} {C : Addr} {E : XK}
theorem r_own {W : List D → (D → Prop) → Prop} {fs gs : List (Str × D)} (h : W [.ins C fs, .ins C gs] fun d => P d O) : wR K (rOwn C (spP K 2 W) E) (.ins C fs) (.ins C gs) O P := fun F v u B H rx ry hs Q q => by
  have rx' := rx
  have ry' := ry
  cases rx with
  | ins h1 r1 =>
    cases ry with
    | ins h2 r2 => exact ⟨_, _, _, _, _, _, rfl, rfl, hs.ex _ _ h1, hs.ex _ _ h2, O ++ F, B, _, _, hs, .cons rx' (.cons ry' .nil), rfl, h, fun v d B2 H2 p e hs2 rv => q v d O B2 H2 p e hs2 rv⟩
theorem r_own1 {W : List D → (D → Prop) → Prop} {fs : List (Str × D)} (h : W [.ins C fs] fun d => P d O) : wU K (rOwn1 C (spP K 1 W) E) (.ins C fs) O P := fun F v B H rx hs Q q => by
  have rx' := rx
  cases rx with
  | ins h1 r1 => exact ⟨_, _, _, rfl, hs.ex _ _ h1, O ++ F, B, _, _, hs, .cons rx' .nil, rfl, h, fun v d B2 H2 p e hs2 rv => q v d O B2 H2 p e hs2 rv⟩
end
/-! ### a method of an own class; built-ins -/
section
variable {K : PySem.W.Frag} {ρ : Rho} {O O1 : Store} {P : D → Store → Prop} {C : Addr} {E : XK} {n : Nat}
theorem e_meth {m : Str} {W : List D → (D → Prop) → Prop} {to : TE} {t : TA} (h : wE K to ρ O fun x O1 => ∃ fs, x = .ins C fs ∧ fs.lookup m = none ∧ wA K t ρ O1 fun ds O2 => ds.length + 1 = n ∧ W (x :: ds) fun d => P d O2) : wE K (tMeth C m (spP K n W) [] E to t) ρ O P := fun F σ B H e hs Q q =>
  h F σ B H e hs _ fun v x O1 B1 H1 p1 e1 hs1 rx => by
    obtain ⟨fs, rfl, hl, p⟩ := p1
    have rx' := rx
    cases rx with
    | ins h1 r1 =>
      refine ⟨_, _, _, rfl, hs1.ex _ _ h1, r1.look0 hl, p F σ B1 H1 (e.mono e1) hs1 _ fun vs ds O2 B2 H2 p2 e2 hs2 rs => ?_⟩
      exact ⟨O2 ++ F, B2, _ :: ds, _, hs2, by rw [List.append_nil]; exact .cons (rx'.mono e2) rs, p2.1, p2.2, fun v d B3 H3 p3 e3 hs3 rv => q v d O2 B3 H3 p3 ((e1.trans e2).trans e3) hs3 rv⟩
theorem e_methX {m : Str} {W : List D → (D → Prop) → (Addr → Prop) → Prop} {to : TE} {t : TA} (h : wE K to ρ O fun x O1 => ∃ fs, x = .ins C fs ∧ fs.lookup m = none ∧ wA K t ρ O1 fun ds O2 => ds.length + 1 = n ∧ W (x :: ds) (fun d => P d O2) fun _ => False) : wE K (tMeth C m (spX K n W) [] E to t) ρ O P := fun F σ B H e hs Q q =>
  h F σ B H e hs _ fun v x O1 B1 H1 p1 e1 hs1 rx => by
    obtain ⟨fs, rfl, hl, p⟩ := p1
    have rx' := rx
    cases rx with
    | ins h1 r1 =>
      refine ⟨_, _, _, rfl, hs1.ex _ _ h1, r1.look0 hl, p F σ B1 H1 (e.mono e1) hs1 _ fun vs ds O2 B2 H2 p2 e2 hs2 rs => ?_⟩
      exact ⟨O2 ++ F, B2, _ :: ds, _, _, hs2, by rw [List.append_nil]; exact .cons (rx'.mono e2) rs, p2.1, p2.2, fun v d B3 H3 p3 e3 hs3 rv => q v d O2 B3 H3 p3 ((e1.trans e2).trans e3) hs3 rv, fun _ _ _ z => z.elim⟩
theorem c_len {d : D} {ds : List D} (hd : d = .lst ds ∨ d = .tup ds ∨ d = .fz ds) (p : P (.int ds.length) O) : wC K (Evl.rLenS K) [d] O P := fun F vs B H r hs Q q => by
  cases r with
  | cons r1 r =>
    cases r
    rcases hd with rfl | rfl | rfl
    · cases r1 with
      | lst h r => exact ⟨_, _, rfl, .inl (Evl.sq_of (hs.ex _ _ h)), by rw [r.length]; exact q.here hs (.raw _) p⟩
    · cases r1 with
      | tup h r => exact ⟨_, _, rfl, .inr (Evl.ex_t hs.ex h), by rw [r.length]; exact q.here hs (.raw _) p⟩
    · cases r1 with
      | fz h r => exact ⟨_, _, rfl, .inl (Evl.ex_l hs.ex h), by rw [r.length]; exact q.here hs (.raw _) p⟩
def rInt1 : List V → Hp → VK → Prop := fun xs H Q => (∃ i, xs = [.int i] ∧ Q (.int i) H) ∨ ∃ k, xs = [.bl k] ∧ Q (.int (if k then 1 else 0)) H
theorem c_int {i : Int} (p : P (.int i) O) : wC K rInt1 [.int i] O P := fun F vs B H r hs Q q => by
  cases r with
  | cons r1 r =>
    cases r; cases r1
    exact .inl ⟨i, rfl, q.here hs (.raw _) p⟩
theorem c_intB {b : Bool} (p : P (.int (if b then 1 else 0)) O) : wC K rInt1 [.bl b] O P := fun F vs B H r hs Q q => by
  cases r with
  | cons r1 r =>
    cases r; cases r1
    exact .inr ⟨b, rfl, q.here hs (.raw _) p⟩
def rAbs : List V → Hp → VK → Prop := fun xs H Q => ∃ i, xs = [.int i] ∧ Q (.int (if i < 0 then -i else i)) H
theorem c_abs {i : Int} (p : P (.int (if i < 0 then -i else i)) O) : wC K rAbs [.int i] O P := fun F vs B H r hs Q q => by
  cases r with
  | cons r1 r =>
    cases r; cases r1
    exact ⟨i, rfl, q.here hs (.raw _) p⟩
theorem c_gcd {i j : Int} (p : P (.int ((Nat.gcd i.natAbs j.natAbs : Nat) : Int)) O) : wC K rGcd [.int i, .int j] O P := fun F vs B H r hs Q q => by
  cases r with
  | cons r1 r =>
    cases r with
    | cons r2 r =>
      cases r; cases r1; cases r2
      exact ⟨i, j, rfl, q.here hs (.raw _) p⟩
/-- tuple(xs), list(xs) -/
def rTupOf (K : PySem.W.Frag) : List V → Hp → VK → Prop := fun xs H Q => ∃ p ys, xs = [.ref p] ∧ ((SqL K H p ys ∧ ∀ l, H l = none → Q (.ref l) (upd H l (.tup ys))) ∨ (SqT K H p ys ∧ Q (.ref p) H))
theorem c_tup {ds : List D} (p : P (.tup ds) O) : wC K (rTupOf K) [.lst ds] O P := fun F vs B H r hs Q q => by
  cases r with
  | cons r1 r =>
    cases r
    cases r1 with
    | lst h r =>
      refine ⟨_, _, rfl, .inl ⟨Evl.sq_of (hs.ex _ _ h), fun l hl => ?_⟩⟩
      obtain ⟨hs2, e2⟩ := hs.new (o := .tup _) hl
      exact q _ _ O _ _ p e2 hs2 (.tup (Evl.st_of upd_same) (r.mono e2))
/-- the class of a datum -/
inductive TyD (K : PySem.W.Frag) : D → Value → Prop where
  | non : TyD K .non (.type "NoneType")
  | bl (b : Bool) : TyD K (.bl b) (.type "bool")
  | int (i : Int) : TyD K (.int i) (.type "int")
  | str (z : Str) : TyD K (.str z) (.type "str")
  | tup (ds : List D) : TyD K (.tup ds) (.type "tuple")
  | lst (ds : List D) : TyD K (.lst ds) (.type "list")
  | ins (C : Addr) (fs : List (Str × D)) (k : KC K C) : TyD K (.ins C fs) (.ref C)
theorem TyD.ok {B H : Hp} {v : V} {d : D} {t : Value} (y : TyD K d t) (r : Rep K B v d) (e : Ex B H) : TyX K H v t := by
  cases y with
  | non => cases r; exact .base .non
  | bl b => cases r; exact .base (.bl b)
  | int i => cases r; exact .base (.int i)
  | str z => cases r; exact .base (.str z)
  | tup ds =>
    cases r with
    | tup h r =>
      rcases h with (h | ⟨o, h⟩) | ⟨o, its, n, h1, h2, _⟩
      · exact .base (.tup (e _ _ h))
      · exact .fTuple (e _ _ h)
      · exact .kTuple h1 h2
  | lst ds =>
    cases r with
    | lst h r => exact .base (.lst (e _ _ h))
  | ins C fs k =>
    cases r with
    | ins h r => exact .base (.ins (e _ _ h) k.cl k.ha k.hn k.htk k.hm)
theorem c_isi {d : D} {c : V} {t u : Value} {b : Bool} (y : TyD K d t) (hc : ClsV c u) (hk : PySem.W.kitOne K t u = some b) (p : P (.bl b) O) : wC K (rIsi K) [d, .raw c] O P := fun F vs B H r hs Q q => by
  cases r with
  | cons r1 r =>
    cases r with
    | cons r2 r =>
      cases r; cases r2
      exact ⟨_, c, t, u, b, rfl, hc, y.ok r1 hs.ex, hk, q.here hs (.raw _) p⟩
end
end G
/-! Quotients: the rational numbers of core Lean. -/
namespace G
open PySem L2
/-- a quotient of the class at C -/
def dQ (C : Addr) (q : Rat) : D := .ins C [("top", .int q.num), ("bottom", .int (q.den : Int))]
theorem gcd_nat (t b : Int) : ((Nat.gcd t.natAbs b.natAbs : Nat) : Int) = ((b.gcd t : Nat) : Int) := by
  rw [Int.gcd_comm]
  rfl
/-- lowest terms as the program reckons them -/
def common (t b : Int) : Int := if b < 0 then -((Nat.gcd t.natAbs b.natAbs : Nat) : Int) else ((Nat.gcd t.natAbs b.natAbs : Nat) : Int)
theorem gcd_pos' {t b : Int} (hb : b ≠ 0) : 0 < Nat.gcd t.natAbs b.natAbs := Nat.gcd_pos_of_pos_right _ (by omega)
theorem common_ne {t b : Int} (hb : b ≠ 0) : common t b ≠ 0 := by
  have := gcd_pos' (t := t) hb
  unfold common
  split <;> omega
theorem common_le {t b : Int} (hb : b ≠ 0) : (common t b).natAbs ≤ b.natAbs := by
  have h1 : Nat.gcd t.natAbs b.natAbs ≤ b.natAbs := Nat.gcd_le_right _ (by omega)
  unfold common
  split <;> omega
theorem dvd_top (t b : Int) : ((Nat.gcd t.natAbs b.natAbs : Nat) : Int) ∣ t := by
  have := Nat.gcd_dvd_left t.natAbs b.natAbs
  exact Int.ofNat_dvd_left.mpr this
theorem dvd_bot (t b : Int) : ((Nat.gcd t.natAbs b.natAbs : Nat) : Int) ∣ b := by
  have := Nat.gcd_dvd_right t.natAbs b.natAbs
  exact Int.ofNat_dvd_left.mpr this
theorem quo_num {t b : Int} (hb : b ≠ 0) : t.fdiv (common t b) = (Rat.divInt t b).num := by
  rw [Rat.num_divInt, ← gcd_nat]
  have hd := dvd_top t b
  unfold common
  split
  · rename_i h
    rw [Int.fdiv_eq_ediv_of_dvd (Int.neg_dvd.mpr hd), Int.sign_eq_neg_one_of_neg h, Int.ediv_neg, Int.neg_mul, Int.one_mul, Int.neg_ediv_of_dvd hd]
  · rename_i h
    rw [Int.fdiv_eq_ediv_of_dvd hd, Int.sign_eq_one_of_pos (by omega), Int.one_mul]
theorem quo_den {t b : Int} (hb : b ≠ 0) : b.fdiv (common t b) = ((Rat.divInt t b).den : Int) := by
  rw [Rat.den_divInt, if_neg hb]
  have hg : b.gcd t = Nat.gcd t.natAbs b.natAbs := by rw [Int.gcd_comm]; rfl
  rw [hg]
  have hd := dvd_bot t b
  unfold common
  split
  · rename_i h
    rw [Int.fdiv_eq_ediv_of_dvd (Int.neg_dvd.mpr hd), Int.ediv_neg]
    have e : b = -(b.natAbs : Int) := by omega
    rw [Int.natCast_ediv]
    conv => lhs; rw [e]
    rw [Int.neg_ediv_of_dvd (by rw [← Int.dvd_neg, ← e]; exact hd), Int.neg_neg]
    simp
  · rename_i h
    rw [Int.fdiv_eq_ediv_of_dvd hd]
    have e : b = (b.natAbs : Int) := by omega
    rw [Int.natCast_ediv]
    conv => lhs; rw [e]
    simp
theorem den_ne (x : Rat) : (x.den : Int) ≠ 0 := by have := x.den_nz; omega
theorem den_mul_ne (x y : Rat) : (x.den : Int) * (y.den : Int) ≠ 0 := Int.mul_ne_zero (den_ne x) (den_ne y)
theorem q_add (x y : Rat) : Rat.divInt (x.num * (y.den : Int) + y.num * (x.den : Int)) ((x.den : Int) * (y.den : Int)) = x + y := by
  rw [← Rat.divInt_add_divInt _ _ (den_ne x) (den_ne y), Rat.num_divInt_den, Rat.num_divInt_den]
theorem q_sub (x y : Rat) : Rat.divInt (x.num * (y.den : Int) - y.num * (x.den : Int)) ((x.den : Int) * (y.den : Int)) = x - y := by
  rw [← Rat.divInt_sub_divInt _ _ (den_ne x) (den_ne y), Rat.num_divInt_den, Rat.num_divInt_den]
theorem q_mul (x y : Rat) : Rat.divInt (x.num * y.num) ((x.den : Int) * (y.den : Int)) = x * y := by
  rw [← Rat.divInt_mul_divInt _ _, Rat.num_divInt_den, Rat.num_divInt_den]
theorem q_neg (x : Rat) : Rat.divInt (-x.num) (x.den : Int) = -x := by
  rw [← Rat.neg_divInt, Rat.num_divInt_den]
theorem q_over (x y : Rat) : Rat.divInt (x.num * (y.den : Int)) ((x.den : Int) * y.num) = x / y := by
  rw [← Rat.divInt_mul_divInt, Rat.num_divInt_den, Rat.div_def, Rat.inv_def]
theorem q_whole (n : Int) : Rat.divInt n 1 = (n : Rat) := by
  rw [Rat.divInt_eq_div, Rat.intCast_one]
  grind
theorem q_eq (x y : Rat) : (decide (x.num = y.num) && decide ((x.den : Int) = (y.den : Int))) = decide (x = y) := by
  rw [Bool.eq_iff_iff]
  simp
  constructor
  · rintro ⟨h1, h2⟩
    exact Rat.ext h1 (by omega)
  · rintro rfl
    exact ⟨rfl, rfl⟩
theorem q_lt (x y : Rat) : decide (x.num * (y.den : Int) < y.num * (x.den : Int)) = decide (x < y) := by
  rw [Bool.eq_iff_iff]
  simp only [decide_eq_true_eq]
  exact (Rat.lt_iff x y).symm
theorem q_le (x y : Rat) : decide (x.num * (y.den : Int) ≤ y.num * (x.den : Int)) = decide (x ≤ y) := by
  rw [Bool.eq_iff_iff]
  simp only [decide_eq_true_eq]
  exact (Rat.le_iff x y).symm
/-! ### sizes -/
def bits (q : Rat) (n : Nat) : Prop := q.num.natAbs < 2 ^ n ∧ q.den < 2 ^ n
theorem divInt_le {t b : Int} (h : b ≠ 0) : (Rat.divInt t b).num.natAbs ≤ t.natAbs ∧ (Rat.divInt t b).den ≤ b.natAbs := by
  constructor
  · rw [← quo_num h]
    have hd := dvd_top t b
    have hc : common t b ∣ t := by
      unfold common
      split
      · exact Int.neg_dvd.mpr hd
      · exact hd
    rw [Int.fdiv_eq_ediv_of_dvd hc]
    have hn := common_ne (t := t) h
    generalize common t b = c at hc hn
    obtain ⟨k, rfl⟩ := hc
    rw [Int.mul_ediv_cancel_left _ hn, Int.natAbs_mul]
    exact Nat.le_mul_of_pos_left _ (by omega)
  · rw [Rat.den_divInt, if_neg h]
    exact Nat.div_le_self _ _
theorem bits_divInt {t b : Int} {n : Nat} (h : b ≠ 0) (h1 : t.natAbs < 2 ^ n) (h2 : b.natAbs < 2 ^ n) : bits (Rat.divInt t b) n := by
  have := divInt_le (t := t) h
  exact ⟨Nat.lt_of_le_of_lt this.1 h1, Nat.lt_of_le_of_lt this.2 h2⟩
theorem bits_mono {q : Rat} {m n : Nat} (h : bits q m) (k : m ≤ n) : bits q n := by
  have : 2 ^ m ≤ 2 ^ n := Nat.pow_le_pow_right (by omega) k
  exact ⟨Nat.lt_of_lt_of_le h.1 this, Nat.lt_of_lt_of_le h.2 this⟩
theorem mul_lt' {a b m n : Nat} (h1 : a < 2 ^ m) (h2 : b < 2 ^ n) : a * b < 2 ^ (m + n) := by
  rw [Nat.pow_add]
  exact Nat.mul_lt_mul'' h1 h2
theorem natAbs_mul_lt {a b : Int} {m n : Nat} (h1 : a.natAbs < 2 ^ m) (h2 : b.natAbs < 2 ^ n) : (a * b).natAbs < 2 ^ (m + n) := by
  rw [Int.natAbs_mul]
  exact mul_lt' h1 h2
theorem natAbs_add_lt {a b : Int} {n : Nat} (h1 : a.natAbs < 2 ^ n) (h2 : b.natAbs < 2 ^ n) : (a + b).natAbs < 2 ^ (n + 1) := by
  have : 2 ^ (n + 1) = 2 ^ n + 2 ^ n := by rw [Nat.pow_succ]; omega
  omega
theorem natAbs_sub_lt {a b : Int} {n : Nat} (h1 : a.natAbs < 2 ^ n) (h2 : b.natAbs < 2 ^ n) : (a - b).natAbs < 2 ^ (n + 1) := by
  have : 2 ^ (n + 1) = 2 ^ n + 2 ^ n := by rw [Nat.pow_succ]; omega
  omega
theorem bits_den {x : Rat} {m : Nat} (h : bits x m) : ((x.den : Int)).natAbs < 2 ^ m := by
  have := h.2
  simpa using this
theorem lt_succ {a n : Nat} (h : a < 2 ^ n) : a < 2 ^ (n + 1) := Nat.lt_of_lt_of_le h (Nat.pow_le_pow_right (by omega) (by omega))
theorem bits_add {x y : Rat} {m n : Nat} (h : bits x m) (k : bits y n) : bits (x + y) (m + n + 1) := by
  rw [← q_add]
  refine bits_divInt (den_mul_ne x y) ?_ (lt_succ (natAbs_mul_lt (bits_den h) (bits_den k)))
  refine natAbs_add_lt (natAbs_mul_lt h.1 (bits_den k)) ?_
  rw [Nat.add_comm]
  exact natAbs_mul_lt k.1 (bits_den h)
theorem bits_sub {x y : Rat} {m n : Nat} (h : bits x m) (k : bits y n) : bits (x - y) (m + n + 1) := by
  rw [← q_sub]
  refine bits_divInt (den_mul_ne x y) ?_ (lt_succ (natAbs_mul_lt (bits_den h) (bits_den k)))
  refine natAbs_sub_lt (natAbs_mul_lt h.1 (bits_den k)) ?_
  rw [Nat.add_comm]
  exact natAbs_mul_lt k.1 (bits_den h)
theorem bits_mul {x y : Rat} {m n : Nat} (h : bits x m) (k : bits y n) : bits (x * y) (m + n) := by
  rw [← q_mul]
  exact bits_divInt (den_mul_ne x y) (natAbs_mul_lt h.1 k.1) (natAbs_mul_lt (bits_den h) (bits_den k))
theorem bits_neg {x : Rat} {m : Nat} (h : bits x m) : bits (-x) m := by
  unfold bits
  rw [Rat.neg_num, Rat.neg_den, Int.natAbs_neg]
  exact h
theorem bits_over {x y : Rat} {m n : Nat} (hy : y ≠ 0) (h : bits x m) (k : bits y n) : bits (x / y) (m + n) := by
  rw [← q_over]
  have : y.num ≠ 0 := fun e => hy (Rat.num_eq_zero.mp e)
  exact bits_divInt (Int.mul_ne_zero (den_ne x) this) (natAbs_mul_lt h.1 (bits_den k)) (natAbs_mul_lt (bits_den h) k.1)
theorem bits_whole {n : Int} {m : Nat} (h : n.natAbs < 2 ^ m) (hm : 0 < m) : bits (n : Rat) m := by
  refine ⟨by simpa using h, ?_⟩
  have : (2 : Nat) ^ 1 ≤ 2 ^ m := Nat.pow_le_pow_right (by omega) hm
  simp
  omega
theorem bits_zero : bits 0 1 := ⟨by decide, by decide⟩
theorem bits_one : bits 1 1 := ⟨by decide, by decide⟩
/-- what products of a quotient's parts ask -/
theorem wide_q {a b : Int} {m n : Nat} (h1 : a.natAbs < 2 ^ m) (h2 : b.natAbs < 2 ^ n) (h : m + n ≤ 900000) : CMulW a b :=
  wide_mul (lt_succ h1) (lt_succ h2) (by omega) (by omega) (by omega)
theorem small_of {a n : Nat} (h : a < 2 ^ n) (hn : n ≤ 8990) : a < 2 ^ 8990 := Nat.lt_of_lt_of_le h (Nat.pow_le_pow_right (by omega) hn)
theorem one_small : (1 : Int).natAbs < 2 ^ 8990 := small_of (n := 1) (by decide) (by decide)
theorem dec_ints {i j : Int} : decide (V.int i = V.int j) = decide (i = j) := by
  rw [Bool.eq_iff_iff]
  simp
/-- // by a number other than 0 -/
def CDivG (_ j : Int) : Prop := j ≠ 0 ∧ j.natAbs.log2 < 9000
theorem op_fdivG {X : Cx} : OpR X (binaryOp .FloorDiv) (rI CDivG fun i j => .int (i.fdiv j)) := opI fun _ _ _ _ _ _ _ hc q => PyProof.Rows.floordiv_int hc.1 q (.inl (PyProof.noPylong_of_log2 hc.2))
theorem cdivG {i j : Int} (h : j ≠ 0) {n : Nat} (hb : j.natAbs < 2 ^ n) (hn : n ≤ 8999) : CDivG i j := by
  refine ⟨h, ?_⟩
  have := PySem.Flt.log2_lt_of (by omega) (lt_succ hb)
  omega
end G
/-! The law's own ends; the script's cells. -/
namespace G
open PySem L2 PySem.Spec PyProof.Rows
def spLaw (K : PySem.W.Frag) : Sp := fun vs H Q _ => ∃ (a : Addr) (ns : List Int), vs = [.ref a] ∧ SqL K H a (ns.map V.int) ∧ ns.length ≤ 63 ∧ ∀ H', Q (.bl true) H'
def scr (ns : List Int) : D := .fz ((ns.map V.int).map D.raw)
section
variable {Pr : Program} {w : World} {K : PySem.W.Frag} {mg : Str → Option Value} {base : Heap} {x qual : Str} {st : Stmt} {f : Addr} {fd : FuncData} {N ps : List Str} {k n : Nat}
theorem okLaw (F : Fun K x qual st f fd) (S : FnScope N ps (defScope st)) (hn : ps.length = 1)
    (hb : ∀ (cdv : Value) (A : Around) (outer : List Env) (s : Shared) (H : Hp) (E : XK), Room k (A.deeper (envOfC qual (defScope st) s.heap.objs.size f cdv)) → ∃ t, PSs (cxOf CX0 Pr w K mg base N qual (defScope st) f cdv A outer s H E).nox (defBody st) t ∧
      ∀ ns : List Int, ns.length ≤ 63 → wS K t (rho0 N.length [scr ns]) [] (retP fun d => d = .bl true)) : FnOk Pr w K mg base CX0 (k + 1) f fd ps (spLaw K) := by
  refine F.ok S (fun vs H Q E h => ?_) (fun cdv A outer s H vs Q E hr h => ?_)
  · obtain ⟨a, ns, rfl, _⟩ := h
    exact hn.symm
  · obtain ⟨t, ht, hw⟩ := hb cdv A outer s H E hr
    refine ⟨t, ht, ?_⟩
    obtain ⟨a, ns, rfl, hS, hl, q⟩ := h
    have hs : Hs K H H ([] ++ []) := ⟨Evl.Ex.refl H, (fun p hp => absurd hp (by simp)), List.nodup_nil⟩
    refine hw ns hl [] _ H H (envR_start (.cons (.fz hS (Reps.raws _)) .nil)) hs _ fun o O2 B2 H2 p e2 hs2 => ?_
    cases o with
    | nx ρ => exact absurd p (by intro z; cases z)
    | ret d =>
      intro v rv
      have p' : d = .bl true := p
      subst p'
      cases rv
      exact q H2
    | bk ρ => exact False.elim p
    | ct ρ => exact False.elim p
end
/-- the cell of the script -/
def cell (ns : List Int) (k : Int) : Int := ns.getD k.toNat 0
def W_cell (ds : List D) (P : D → Prop) : Prop := ∃ (ns : List Int) (k : Int), ds = [scr ns, .int k] ∧ 0 ≤ k ∧ P (.int (cell ns k))
theorem atI_nat' {α : Type} {xs : List α} {k : Int} (h0 : 0 ≤ k) (h : k < xs.length) : atI xs k = xs[k.toNat]? := by
  unfold atI ixN
  rw [if_pos h0, if_pos (by omega)]
  rfl
theorem cell_lt {ns : List Int} {k : Int} (h0 : 0 ≤ k) (h : k < ns.length) : atI ((ns.map V.int).map D.raw) k = some (.int (cell ns k)) := by
  rw [atI_nat' h0 (by simpa using h)]
  unfold cell
  rw [List.getElem?_map, List.getElem?_map]
  have : k.toNat < ns.length := by omega
  rw [List.getElem?_eq_getElem this]
  simp [this]
theorem cell_ge {ns : List Int} {k : Int} (h : ¬ k < ns.length) (h0 : 0 ≤ k) : cell ns k = 0 := by
  unfold cell
  have : ns.length ≤ k.toNat := by omega
  simp [List.getD, List.getElem?_eq_none this]
theorem scr_len (ns : List Int) : ((ns.map V.int).map D.raw).length = ns.length := by simp
/-- numbers up to 10 ** 24 -/
def number (ns : List Int) (k : Int) : Int := cell ns k % (2 * 10 ^ 24 + 1) - 10 ^ 24
theorem number_lt (ns : List Int) (k : Int) : (number ns k).natAbs < 2 ^ 80 := by
  unfold number
  have h1 := Int.emod_nonneg (cell ns k) (show (2 * 10 ^ 24 + 1 : Int) ≠ 0 by decide)
  have h2 := Int.emod_lt_of_pos (cell ns k) (show (0 : Int) < 2 * 10 ^ 24 + 1 by decide)
  have e : (10 : Int) ^ 24 = 1000000000000000000000000 := by decide
  have e2 : (2 : Nat) ^ 80 = 1208925819614629174706176 := by decide
  rw [e] at *
  rw [e2]
  omega
def W_number (ds : List D) (P : D → Prop) : Prop := ∃ (ns : List Int) (k : Int), ds = [scr ns, .int k] ∧ 0 ≤ k ∧ P (.int (number ns k))
theorem cpow24 : CPow 10 24 := by unfold CPow; decide
theorem cpow18 : CPow 10 18 := by unfold CPow; decide
theorem cmul24 : CMulW 2 (10 ^ Int.toNat 24) := by unfold CMulW; decide +kernel
def W_sameB (ds : List D) (P : D → Prop) : Prop := ∃ x y : Bool, ds = [.bl x, .bl y] ∧ P (.bl (decide (x = y)))
/-! ### tests that hold -/
theorem or_step {p : Prop} [Decidable p] {A B : Prop} (hp : p) (h : A) : ((!decide p) = false → A) ∧ ((!decide p) = true → B) := ⟨fun _ => h, fun z => by simp [hp] at z⟩
theorem or_last {p : Prop} [Decidable p] {A B : Prop} (hp : p) (h : B) : ((!decide p) = true → A) ∧ ((!decide p) = false → B) := ⟨fun z => by simp [hp] at z, fun _ => h⟩
theorem small_wide {a b : Int} (h1 : a.natAbs < 2 ^ 64) (h2 : b.natAbs < 2 ^ 64) : CMulW a b := wide_q h1 h2 (by omega)
/-! ### the quotients' own promises -/
def W_Qinit (CB : Addr) (ds : List D) (PF : List (Str × D) → Prop) (PX : Addr → Prop) : Prop := ∃ t b : Int, ds = [.int t, .int b] ∧ (b = 0 → PX CB) ∧ (b ≠ 0 → b.natAbs < 2 ^ 8990 ∧ PF [("top", .int (Rat.divInt t b).num), ("bottom", .int ((Rat.divInt t b).den : Int))])
def W_q2 (C : Addr) (f : Rat → Rat → D) (ds : List D) (P : D → Prop) : Prop := ∃ (x y : Rat) (m n : Nat), ds = [dQ C x, dQ C y] ∧ bits x m ∧ bits y n ∧ m + n ≤ 8900 ∧ P (f x y)
def W_q1 (C : Addr) (f : Rat → D) (ds : List D) (P : D → Prop) : Prop := ∃ (x : Rat) (m : Nat), ds = [dQ C x] ∧ bits x m ∧ m ≤ 8900 ∧ P (f x)
def W_over (C CB : Addr) (ds : List D) (P : D → Prop) (PX : Addr → Prop) : Prop := ∃ (x y : Rat) (m n : Nat), ds = [dQ C x, dQ C y] ∧ bits x m ∧ bits y n ∧ m + n ≤ 8900 ∧ (y = 0 → PX CB) ∧ (y ≠ 0 → P (dQ C (x / y)))
def W_whole (C : Addr) (ds : List D) (P : D → Prop) : Prop := ∃ n : Int, ds = [.int n] ∧ P (dQ C (n : Rat))
def W_q0 (C : Addr) (q : Rat) (ds : List D) (P : D → Prop) : Prop := ds = [] ∧ P (dQ C q)
/-- a sum of quotients, from the left; its size -/
def sumQ (qs : List Rat) : Rat := qs.foldl (· + ·) 0
def W_total (C : Addr) (ds : List D) (P : D → Prop) : Prop := ∃ (qs : List Rat) (m : Nat), (ds = [.lst (qs.map (dQ C))] ∨ ds = [.tup (qs.map (dQ C))]) ∧ (∀ q ∈ qs, bits q m) ∧ (m + 1) * (qs.length + 1) ≤ 8000 ∧ P (dQ C (sumQ qs))
theorem sumQ_take {qs : List Rat} {i : Nat} {q : Rat} (h : qs[i]? = some q) : sumQ (qs.take (i + 1)) = sumQ (qs.take i) + q := by
  unfold sumQ
  have hi := (List.getElem?_eq_some_iff.mp h).1
  have e : qs.take (i + 1) = qs.take i ++ [q] := by
    rw [List.take_succ, h]
    rfl
  rw [e, List.foldl_append]
  rfl
theorem bits_sumQ {m : Nat} : ∀ (qs : List Rat) (i : Nat), (∀ q ∈ qs, bits q m) → i ≤ qs.length → bits (sumQ (qs.take i)) ((m + 1) * i + 1)
  | qs, 0, _, _ => bits_zero
  | qs, i + 1, h, hi => by
    have hlt : i < qs.length := by omega
    rw [sumQ_take (List.getElem?_eq_getElem hlt)]
    refine bits_mono (bits_add (bits_sumQ qs i h (by omega)) (h _ (List.getElem_mem hlt))) ?_
    rw [Nat.mul_add]
    omega
end G
/-! Euclid, lowest terms, equal tuples, streams of digits, comprehensions that map. -/
namespace G
open PySem L2 PySem.Spec PyProof.Rows
/-! ### Euclid in 600 turns -/
def euc (s : Nat × Nat) : Nat × Nat := if 0 < s.2 then (s.2, s.1 % s.2) else s
def eucs : Nat → Nat × Nat → Nat × Nat
  | 0, s => s
  | n + 1, s => euc (eucs n s)
theorem euc_gcd (s : Nat × Nat) : Nat.gcd (euc s).1 (euc s).2 = Nat.gcd s.1 s.2 := by
  unfold euc
  split
  · show Nat.gcd s.2 (s.1 % s.2) = _
    rw [Nat.gcd_comm s.1 s.2, Nat.gcd_rec s.2 s.1, Nat.gcd_comm]
  · rfl
theorem eucs_gcd (s : Nat × Nat) : ∀ n, Nat.gcd (eucs n s).1 (eucs n s).2 = Nat.gcd s.1 s.2
  | 0 => rfl
  | n + 1 => (euc_gcd _).trans (eucs_gcd s n)
/-- two turns halve the second number -/
theorem euc_half {s : Nat × Nat} {m : Nat} (h : s.2 < 2 ^ (m + 1)) : (euc (euc s)).2 < 2 ^ m := by
  have h2 : 2 ^ (m + 1) = 2 * 2 ^ m := by rw [Nat.pow_succ]; omega
  have hp : 0 < 2 ^ m := Nat.pow_pos (by decide)
  obtain ⟨a, b⟩ := s
  simp only at h
  by_cases hb : 0 < b
  · have e1 : euc (a, b) = (b, a % b) := if_pos hb
    rw [e1]
    have hr : a % b < b := Nat.mod_lt _ hb
    by_cases hr0 : 0 < a % b
    · have e2 : euc (b, a % b) = (a % b, b % (a % b)) := if_pos hr0
      rw [e2]
      show b % (a % b) < 2 ^ m
      have h3 : b % (a % b) < a % b := Nat.mod_lt _ hr0
      have h4 : b % (a % b) ≤ b - a % b := by
        rw [Nat.mod_eq_sub_mod (Nat.le_of_lt hr)]
        exact Nat.mod_le _ _
      omega
    · have e2 : euc (b, a % b) = (b, a % b) := if_neg hr0
      rw [e2]
      show a % b < 2 ^ m
      omega
  · have e1 : euc (a, b) = (a, b) := if_neg hb
    rw [e1, e1]
    show b < 2 ^ m
    omega
theorem eucs_small (s : Nat × Nat) : ∀ (k m : Nat), s.2 < 2 ^ (m + k) → (eucs (2 * k) s).2 < 2 ^ m
  | 0, m, h => h
  | k + 1, m, h => by
    have e : eucs (2 * (k + 1)) s = euc (euc (eucs (2 * k) s)) := rfl
    rw [e]
    exact euc_half (eucs_small s k (m + 1) (by rw [show m + 1 + k = m + (k + 1) by omega]; exact h))
theorem eucs_end {a b : Nat} (h : b < 2 ^ 300) : (eucs 600 (a, b)).1 = Nat.gcd a b := by
  have h1 := eucs_small (a, b) 300 0 (by simpa using h)
  have h2 := eucs_gcd (a, b) 600
  have h3 : (eucs 600 (a, b)).2 = 0 := by
    have : (eucs (2 * 300) (a, b)).2 < 1 := h1
    have e : 2 * 300 = 600 := rfl
    rw [e] at this
    omega
  rw [h3, Nat.gcd_zero_right] at h2
  exact h2
def W_part (ds : List D) (P : D → Prop) : Prop := ∃ a b : Int, ds = [.int a, .int b] ∧ b.natAbs < 2 ^ 300 ∧ P (.int ((Nat.gcd a.natAbs b.natAbs : Nat) : Int))
def W_least (ds : List D) (P : D → Prop) : Prop := ∃ t b : Int, ds = [.int t, .int b] ∧ b ≠ 0 ∧ b.natAbs < 2 ^ 300 ∧ P (.tup [.int (Rat.divInt t b).num, .int ((Rat.divInt t b).den : Int)])
def W_is (C : Addr) (ds : List D) (P : D → Prop) : Prop := ∃ (q : Rat) (t b : Int), ds = [dQ C q, .int t, .int b] ∧ b ≠ 0 ∧ b.natAbs < 2 ^ 300 ∧ P (.bl (decide (q = Rat.divInt t b)))
def W_isInt (ds : List D) (P : D → Prop) : Prop := ∃ i : Int, ds = [.int i] ∧ P (.bl true)
theorem abs_cast (i : Int) : (if i < 0 then -i else i) = ((i.natAbs : Nat) : Int) := by omega
theorem lt300 {a n : Nat} (h : a < 2 ^ n) (hn : n ≤ 300) : a < 2 ^ 300 := Nat.lt_of_lt_of_le h (Nat.pow_le_pow_right (by omega) hn)
/-! ### tuples of two ints -/
theorem eqv2 (a b c d : Int) : PyData.eqv (.tuple [.int a, .int b]) (.tuple [.int c, .int d]) = (decide (a = c) && decide (b = d)) := by
  simp [PyData.eqv, PyData.eqvAll, Bool.beq_eq_decide_eq]
theorem shaped2 (a b : Int) : SeqAt.shaped (.tuple [.int a, .int b]) = true := by
  simp [SeqAt.shaped, PyData.canLay0, PyData.depth, PyData.canLayAll0, PyData.depthAll]
section
variable {K : PySem.W.Frag} {ρ : Rho} {O O1 : Store} {P : D → Store → Prop}
theorem dp2 {B H : Hp} {v : V} {a b : Int} (r : Rep K B v (.tup [.int a, .int b])) (e : Ex B H) : Dp K H v (.tuple [.int a, .int b]) := by
  cases r with
  | tup h r =>
    cases r with
    | cons r1 r =>
      cases r with
      | cons r2 r =>
        cases r; cases r1; cases r2
        exact .tup (Evl.ex_t e h) (.cons (.int _) (.cons (.int _) .nil))
theorem r_eqT2 {a b c d : Int} (p : P (.bl (decide (a = c) && decide (b = d))) O) : wR K (rEqD K) (.tup [.int a, .int b]) (.tup [.int c, .int d]) O P := fun F v u B H rx ry hs Q q =>
  ⟨_, _, dp2 rx hs.ex, dp2 ry hs.ex, shaped2 a b, shaped2 c d, by rw [eqv2]; exact q.here hs (.raw _) p⟩
/-! ### a comprehension that maps -/
theorem e_lcM {wi : TI} {g : TG} {te : TE} {vs : List Nat} (hg : GOnly g vs) (mg : GMono g) (h : wI K wi ρ O fun ds O1 => ds.length < 90000 ∧ ∃ es : List D, es.length = ds.length ∧
    (∀ (i : Nat) (d e : D), ds[i]? = some d → es[i]? = some e → wG K g d (wipeR ρ vs) O1 fun ρ2 O2 => O2 = O1 ∧ wE K te ρ2 O1 fun y O4 => y = e ∧ O4 = O1) ∧ P (.lst es) O1) : wE K (tLc wi g tYes te vs) ρ O P := by
  refine e_lc hg mg fun F σ B H e hs R q => h F σ B H e hs R fun J ds O' B2 H2 p e2 hs2 it => ?_
  obtain ⟨hl, es, hes, step, fin⟩ := p
  refine q J ds O' B2 H2 ⟨hl, fun i acc O3 => acc = es.take i ∧ O3 = O', ⟨rfl, rfl⟩, ?_, ?_⟩ e2 hs2 it
  · rintro i d acc O3 hd hal ⟨rfl, rfl⟩
    have hi := (List.getElem?_eq_some_iff.mp hd).1
    have he : es[i]? = some es[i] := List.getElem?_eq_getElem (by omega)
    intro F1 v σ1 B1 H1 e1 hs1 r1 Q1 q1
    refine step i d _ hd he F1 v σ1 B1 H1 e1 hs1 r1 Q1 fun σ' ρ' O4 B3 H3 p3 => ?_
    obtain ⟨rfl, p3⟩ := p3
    refine q1 σ' ρ' _ B3 H3 (t_yes ⟨fun _ => p3.mono fun y O5 z => ?_, fun z => nomatch z⟩)
    obtain ⟨rfl, rfl⟩ := z
    refine ⟨?_, rfl⟩
    rw [List.take_succ, he]
    rfl
  · rintro acc O3 ⟨rfl, rfl⟩
    rw [← hes, List.take_length]
    exact fin
end
/-! ### streams of digits -/
def digs (l : List Int) : Prop := ∀ d ∈ l, 0 ≤ d ∧ d < 60
def W_draws (ds : List D) (P : D → Prop) : Prop := ∃ c n : Int, ds = [.int c, .int n] ∧ 0 ≤ n ∧ n ≤ 60 ∧ ∀ l : List Int, (l.length : Int) = n → digs l → P (.lst (l.map fun i => D.int i))
def dStream (l : List Int) (p : Addr) : D := .lst [.lst (l.map fun i => D.int i), .loc p]
def W_stream (ds : List D) (O : Store) (P : D → Store → Prop) : Prop := ∃ (ns : List Int) (f n : Int), ds = [scr ns, .int f, .int n] ∧ 0 ≤ f ∧ 0 ≤ n ∧ n ≤ 1000 ∧ ∀ (l : List Int) (p : Addr), (l.length : Int) = 12 * n → digs l → P (dStream l p) ((p, .lst [.int 0]) :: O)
def W_next (ds : List D) (O : Store) (P : D → Store → Prop) : Prop := ∃ (l : List Int) (p : Addr) (many n : Int) (O' : Int → Store), ds = [dStream l p, .int many] ∧ l ≠ [] ∧ digs l ∧ 0 < many ∧ (∀ n', Put p (.lst [.int n]) (.lst [.int n']) O (O' n')) ∧ ∀ v n' : Int, 0 ≤ v → v < many → v < 60 → P (.int v) (O' n')
theorem atI_emod {l : List Int} (hl : l ≠ []) (i : Int) : ∃ d, d ∈ l ∧ atI (l.map fun i => D.int i) (i % (l.length : Int)) = some (.int d) := by
  have hp : 0 < l.length := List.length_pos_iff.mpr hl
  have h0 := Int.emod_nonneg i (show (l.length : Int) ≠ 0 by omega)
  have h1 := Int.emod_lt_of_pos i (show (0 : Int) < l.length by omega)
  have hk : (i % (l.length : Int)).toNat < l.length := by omega
  refine ⟨l[(i % (l.length : Int)).toNat], List.getElem_mem hk, ?_⟩
  rw [atI_nat' h0 (by rw [List.length_map]; exact h1), List.getElem?_map, List.getElem?_eq_getElem hk]
  rfl
end G
/-! Vectors of three quotients. -/
namespace G
open PySem L2 PySem.Spec PyProof.Rows
structure V3 where
  x : Rat
  y : Rat
  z : Rat
theorem V3.ext' {a b : V3} (h1 : a.x = b.x) (h2 : a.y = b.y) (h3 : a.z = b.z) : a = b := by
  cases a; cases b; simp_all
def dV (C : Addr) (v : V3) : D := .tup [dQ C v.x, dQ C v.y, dQ C v.z]
def bitsV (v : V3) (n : Nat) : Prop := bits v.x n ∧ bits v.y n ∧ bits v.z n
def zV : V3 := ⟨0, 0, 0⟩
def addV (a b : V3) : V3 := ⟨a.x + b.x, a.y + b.y, a.z + b.z⟩
def subV (a b : V3) : V3 := ⟨a.x - b.x, a.y - b.y, a.z - b.z⟩
def mulV (q : Rat) (a : V3) : V3 := ⟨q * a.x, q * a.y, q * a.z⟩
def detV (a b c : V3) : Rat := a.x * (b.y * c.z - b.z * c.y) - a.y * (b.x * c.z - b.z * c.x) + a.z * (b.x * c.y - b.y * c.x)
def sumV (vs : List V3) : V3 := vs.foldl addV zV
theorem bitsV_mono {v : V3} {m n : Nat} (h : bitsV v m) (k : m ≤ n) : bitsV v n := ⟨bits_mono h.1 k, bits_mono h.2.1 k, bits_mono h.2.2 k⟩
theorem bitsV_zero : bitsV zV 1 := ⟨bits_zero, bits_zero, bits_zero⟩
theorem bitsV_add {a b : V3} {m n : Nat} (h : bitsV a m) (k : bitsV b n) : bitsV (addV a b) (m + n + 1) := ⟨bits_add h.1 k.1, bits_add h.2.1 k.2.1, bits_add h.2.2 k.2.2⟩
theorem bitsV_sub {a b : V3} {m n : Nat} (h : bitsV a m) (k : bitsV b n) : bitsV (subV a b) (m + n + 1) := ⟨bits_sub h.1 k.1, bits_sub h.2.1 k.2.1, bits_sub h.2.2 k.2.2⟩
theorem bitsV_mul {q : Rat} {a : V3} {m n : Nat} (h : bits q m) (k : bitsV a n) : bitsV (mulV q a) (m + n) := ⟨bits_mul h k.1, bits_mul h k.2.1, bits_mul h k.2.2⟩
theorem bits_det {a b c : V3} {m : Nat} (ha : bitsV a m) (hb : bitsV b m) (hc : bitsV c m) : bits (detV a b c) (15 * m + 5) := by
  obtain ⟨a1, a2, a3⟩ := ha
  obtain ⟨b1, b2, b3⟩ := hb
  obtain ⟨c1, c2, c3⟩ := hc
  refine bits_mono (bits_add (bits_sub (bits_mul a1 (bits_sub (bits_mul b2 c3) (bits_mul b3 c2))) (bits_mul a2 (bits_sub (bits_mul b1 c3) (bits_mul b3 c1)))) (bits_mul a3 (bits_sub (bits_mul b1 c2) (bits_mul b2 c1)))) ?_
  omega
theorem sumV_take {vs : List V3} {i : Nat} {v : V3} (h : vs[i]? = some v) : sumV (vs.take (i + 1)) = addV (sumV (vs.take i)) v := by
  unfold sumV
  have e : vs.take (i + 1) = vs.take i ++ [v] := by
    rw [List.take_succ, h]
    rfl
  rw [e, List.foldl_append]
  rfl
theorem bitsV_sum {m : Nat} : ∀ (vs : List V3) (i : Nat), (∀ v ∈ vs, bitsV v m) → i ≤ vs.length → bitsV (sumV (vs.take i)) ((m + 1) * i + 1)
  | vs, 0, _, _ => bitsV_zero
  | vs, i + 1, h, hi => by
    have hlt : i < vs.length := by omega
    rw [sumV_take (List.getElem?_eq_getElem hlt)]
    refine bitsV_mono (bitsV_add (bitsV_sum vs i h (by omega)) (h _ (List.getElem_mem hlt))) ?_
    rw [Nat.mul_add]
    omega
def W_v0 (C : Addr) (ds : List D) (P : D → Prop) : Prop := ds = [] ∧ P (dV C zV)
def W_v2 (C : Addr) (f : V3 → V3 → V3) (ds : List D) (P : D → Prop) : Prop := ∃ (a b : V3) (m n : Nat), ds = [dV C a, dV C b] ∧ bitsV a m ∧ bitsV b n ∧ m + n ≤ 8900 ∧ P (dV C (f a b))
def W_scaled (C : Addr) (ds : List D) (P : D → Prop) : Prop := ∃ (q : Rat) (a : V3) (m n : Nat), ds = [dQ C q, dV C a] ∧ bits q m ∧ bitsV a n ∧ m + n ≤ 8900 ∧ P (dV C (mulV q a))
def W_det (C : Addr) (ds : List D) (P : D → Prop) : Prop := ∃ (a b c : V3) (m : Nat), ds = [dV C a, dV C b, dV C c] ∧ bitsV a m ∧ bitsV b m ∧ bitsV c m ∧ 15 * m + 5 ≤ 8900 ∧ P (dQ C (detV a b c))
def W_sumV (C : Addr) (ds : List D) (P : D → Prop) : Prop := ∃ (vs : List V3) (m : Nat), (ds = [.lst (vs.map (dV C))] ∨ ds = [.tup (vs.map (dV C))]) ∧ (∀ v ∈ vs, bitsV v m) ∧ (m + 1) * (vs.length + 1) ≤ 8000 ∧ P (dV C (sumV vs))
section
variable {K : PySem.W.Frag}
theorem gm_tup {n : Nat} {u : TGs} (hu : GsMono u) : GMono (gTup K n u) := fun v σ H Q Q' m q => by
  obtain ⟨a, xs, e, h, l, q⟩ := q
  exact ⟨a, xs, e, h, l, hu _ _ _ _ _ m q⟩
theorem go_two {i j n : Nat} {vs : List Nat} (hi : i ∈ vs) (hj : j ∈ vs) : GOnly (gTup K n (gCons (gName i) (gCons (gName j) gNil))) vs :=
  go_tup (gs_cons (go_name hi) gm_name (gs_cons (go_name hj) gm_name gs_nil gms_nil) (gms_cons gm_name gms_nil))
theorem gm_two {i j n : Nat} : GMono (gTup K n (gCons (gName i) (gCons (gName j) gNil))) := gm_tup (gms_cons gm_name (gms_cons gm_name gms_nil))
theorem step3 {A : D → D → Prop} {d0 d1 d2 e0 e1 e2 : D} (h0 : A d0 e0) (h1 : A d1 e1) (h2 : A d2 e2) : ∀ (i : Nat) (d e : D), [d0, d1, d2][i]? = some d → [e0, e1, e2][i]? = some e → A d e
  | 0, d, e, hd, he => by cases hd; cases he; exact h0
  | 1, d, e, hd, he => by cases hd; cases he; exact h1
  | 2, d, e, hd, he => by cases hd; cases he; exact h2
  | i + 3, d, e, hd, he => by simp at hd
end
structure I3 where
  x : Int
  y : Int
  z : Int
def detI (a b c : I3) : Int := a.x * (b.y * c.z - b.z * c.y) - a.y * (b.x * c.z - b.z * c.x) + a.z * (b.x * c.y - b.y * c.x)
def vecI (n : Int) (r : I3) : V3 := ⟨Rat.divInt r.x n, Rat.divInt r.y n, Rat.divInt r.z n⟩
theorem rc_ne {n : Int} (h : n ≠ 0) : (n : Rat) ≠ 0 := by
  intro z
  exact h (by simpa using z)
theorem det_vecI {n : Int} (h : n ≠ 0) (a b c : I3) : detV (vecI n a) (vecI n b) (vecI n c) = Rat.divInt (detI a b c) (n * n * n) := by
  have hn := rc_ne h
  simp only [detV, vecI, detI, Rat.divInt_eq_div, Rat.intCast_mul, Rat.intCast_add, Rat.intCast_sub]
  grind
theorem det_swap (a b c : V3) : detV b a c = -detV a b c := by
  simp only [detV]
  grind
theorem det_rot (a b c : V3) : detV b c a = detV a b c := by
  simp only [detV]
  grind
theorem det_two (a b : V3) : detV a b a = Rat.divInt 0 1 := by
  have : Rat.divInt 0 1 = 0 := by decide
  rw [this]
  simp only [detV]
  grind
theorem det_sum (a d b c : V3) : detV (addV a d) b c = detV a b c + detV d b c := by
  simp only [detV, addV]
  grind
theorem add_divI {n : Int} (h : n ≠ 0) (x y : Int) : Rat.divInt x n + Rat.divInt y n = Rat.divInt (x + y) n := by
  have hn := rc_ne h
  simp only [Rat.divInt_eq_div, Rat.intCast_add]
  grind
theorem sub_divI {n : Int} (h : n ≠ 0) (x y : Int) : Rat.divInt x n - Rat.divInt y n = Rat.divInt (x - y) n := by
  have hn := rc_ne h
  simp only [Rat.divInt_eq_div, Rat.intCast_sub]
  grind
theorem two_thirds {n : Int} (x : Int) : Rat.divInt 2 3 * Rat.divInt x n = Rat.divInt (2 * x) (3 * n) := by
  exact Rat.divInt_mul_divInt _ _
/-! ### rows of three ints -/
def bI (r : I3) (n : Nat) : Prop := r.x.natAbs < 2 ^ n ∧ r.y.natAbs < 2 ^ n ∧ r.z.natAbs < 2 ^ n
def lRow (r : I3) : D := .lst [.int r.x, .int r.y, .int r.z]
def tRow (r : I3) : D := .tup [.int r.x, .int r.y, .int r.z]
def W_ldet (mk : I3 → D) (ds : List D) (P : D → Prop) : Prop := ∃ (a b c : I3), ds = [mk a, mk b, mk c] ∧ bI a 20 ∧ bI b 20 ∧ bI c 20 ∧ P (.int (detI a b c))
theorem two_mul_lt {a b c d : Int} {n : Nat} (h1 : a.natAbs < 2 ^ n) (h2 : b.natAbs < 2 ^ n) (h3 : c.natAbs < 2 ^ n) (h4 : d.natAbs < 2 ^ n) : (a * b - c * d).natAbs < 2 ^ (n + n + 1) := natAbs_sub_lt (natAbs_mul_lt h1 h2) (natAbs_mul_lt h3 h4)
theorem bits_vecI {n : Int} {m : Nat} {r : I3} (h : n ≠ 0) (hr : bI r m) (hn : n.natAbs < 2 ^ m) : bitsV (vecI n r) m := ⟨bits_divInt h hr.1 hn, bits_divInt h hr.2.1 hn, bits_divInt h hr.2.2 hn⟩
/-! ### == of tuples of quotients that are equal -/
def RQ (K : PySem.W.Frag) (C : Addr) (a b : Addr) (H : Hp) : Prop := ∃ (q : Rat) (m : Nat), Rep K H (.ref a) (dQ C q) ∧ Rep K H (.ref b) (dQ C q) ∧ bits q m ∧ m + m ≤ 8900
def rEqTQ (K : PySem.W.Frag) (C : Addr) : R2 := rEqG (DTup K (DIns C (RQ K C)))
theorem op_eqTup {X : Cx} {k : Nat} {f C : Addr} {fd : FuncData} {ps : List Str} (F : FnOk X.prog X.w X.K X.mg X.base CX0 k f fd ps (spP X.K 2 (W_q2 C fun x y => .bl (decide (x = y)))))
    (hs : PySem.W.findIn X.K (.ref C) "__eq__" = some (some (.ref f))) (hf : PySem.W.isFn X.K (.ref f) = true) (hb : Binds X.K fd ps []) (hr : Room (k + 1) X.A) : OpR X (compareOp .Eq) (rEqTQ X.K C) := by
  have F2 : FnOk X.prog X.w X.K X.mg X.base CX0 k f fd ps (spEq (RQ X.K C)) := F.imp fun vs H Q E h => by
    obtain ⟨a, b, rfl, ⟨q, m, r1, r2, hq, hm⟩, w⟩ := h
    refine ⟨[], H, [dQ C q, dQ C q], fun d => d = .bl true, ⟨Evl.Ex.refl H, (fun p hp => absurd hp (by simp)), List.nodup_nil⟩, .cons r1 (.cons r2 .nil), rfl, ⟨q, q, m, m, rfl, hq, hq, hm, by simp⟩, ?_⟩
    rintro v d B2 H2 rfl e hs2 rv
    cases rv
    exact w H2 (e.trans hs2.ex)
  exact op_eqG (rcG_tup (mon_ins fun a b H H' e h => by
    obtain ⟨q, m, r1, r2, hq, hm⟩ := h
    exact ⟨q, m, r1.mono e, r2.mono e, hq, hm⟩) (eqG_ins (E := E0) F2 hs hf hb pass0)) hr
theorem prs_q {K : PySem.W.Frag} {C : Addr} {B H : Hp} {m : Nat} (e : Ex B H) : ∀ {qs : List Rat} {vs us : List V}, (∀ q ∈ qs, bits q m) → m + m ≤ 8900 → Reps K B vs (qs.map (dQ C)) → Reps K B us (qs.map (dQ C)) → Prs (DIns C (RQ K C)) vs us H
  | [], _, _, _, _, .nil, .nil => .nil
  | q :: qs, _, _, hq, hm, .cons r1 t1, .cons r2 t2 => by
    refine .cons ?_ (prs_q e (fun x hx => hq x (List.mem_cons_of_mem _ hx)) hm t1 t2)
    have r1' := r1.mono e
    have r2' := r2.mono e
    cases r1 with
    | ins h1 _ =>
      cases r2 with
      | ins h2 _ => exact ⟨_, _, _, _, _, _, rfl, rfl, e _ _ h1, e _ _ h2, q, m, r1', r2', hq q List.mem_cons_self, hm⟩
theorem r_eqTQ {K : PySem.W.Frag} {C : Addr} {O : Store} {P : D → Store → Prop} {qs : List Rat} {m : Nat} (hq : ∀ q ∈ qs, bits q m) (hm : m + m ≤ 8900) (p : P (.bl true) O) : wR K (rEqTQ K C) (.tup (qs.map (dQ C))) (.tup (qs.map (dQ C))) O P := fun F v u B H rx ry hs Q q => by
  cases rx with
  | tup h1 r1 =>
    cases ry with
    | tup h2 r2 =>
      refine ⟨⟨_, _, _, _, rfl, rfl, Evl.ex_t hs.ex h1, Evl.ex_t hs.ex h2, prs_q hs.ex hq hm r1 r2⟩, fun H' e => ?_⟩
      have hs' : Hs K B H' (O ++ F) := ⟨hs.ex.trans e, fun p hp => by
        obtain ⟨g1, g2⟩ := hs.own p hp
        obtain ⟨o, ho⟩ := g2.some
        exact ⟨g1, g2.mono (Evl.Ex.refl B) ((e _ _ ho).trans ho.symm)⟩, hs.nd⟩
      exact q _ _ O B H' p (Evl.Ex.refl B) hs' (.raw _)
end G
/-! Rows and vectors by their index. -/
namespace G
open PySem L2 PySem.Spec PyProof.Rows
section
variable {K : PySem.W.Frag} {ρ : Rho} {O : Store}
theorem reps_ints {B : Hp} : ∀ {vs : List V} {ns : List Int}, Reps K B vs (ns.map fun i => D.int i) → vs = ns.map V.int
  | [], [], .nil => rfl
  | v :: vs, n :: ns, .cons h r => by
    cases h
    rw [reps_ints r]
    rfl
theorem c_sum {ns : List Int} {P : D → Store → Prop} (p : P (.int ns.sum) O) : wC K (rSum K) [.lst (ns.map fun i => D.int i)] O P := fun F vs B H r hs Q q => by
  cases r with
  | cons r1 r =>
    cases r
    cases r1 with
    | lst h r =>
      refine ⟨_, ns, rfl, ?_, q.here hs (.raw _) p⟩
      rw [← reps_ints r]
      exact Evl.sq_of (hs.ex _ _ h)
def V3.at (v : V3) : Nat → Rat
  | 0 => v.x
  | 1 => v.y
  | _ => v.z
def I3.at (v : I3) : Nat → Int
  | 0 => v.x
  | 1 => v.y
  | _ => v.z
theorem at_dV {C : Addr} {v : V3} : ∀ {i : Nat}, i < 3 → atI [dQ C v.x, dQ C v.y, dQ C v.z] (0 + (i : Int)) = some (dQ C (v.at i))
  | 0, _ => rfl
  | 1, _ => rfl
  | 2, _ => rfl
  | n + 3, h => by omega
theorem at_row {v : I3} : ∀ {i : Nat}, i < 3 → atI [D.int v.x, D.int v.y, D.int v.z] (0 + (i : Int)) = some (.int (v.at i))
  | 0, _ => rfl
  | 1, _ => rfl
  | 2, _ => rfl
  | n + 3, h => by omega
theorem at_bI {v : I3} {m i : Nat} (h : bI v m) : (v.at i).natAbs < 2 ^ m := by
  obtain ⟨h1, h2, h3⟩ := h
  match i with
  | 0 => exact h1
  | 1 => exact h2
  | _ + 2 => exact h3
theorem at_bV {v : V3} {m i : Nat} (h : bitsV v m) : bits (v.at i) m := by
  obtain ⟨h1, h2, h3⟩ := h
  match i with
  | 0 => exact h1
  | 1 => exact h2
  | _ + 2 => exact h3
theorem at_add (a b : V3) (i : Nat) : (addV a b).at i = a.at i + b.at i := by
  match i with
  | 0 => rfl
  | 1 => rfl
  | _ + 2 => rfl
theorem at_sub (a b : V3) (i : Nat) : (subV a b).at i = a.at i - b.at i := by
  match i with
  | 0 => rfl
  | 1 => rfl
  | _ + 2 => rfl
theorem at_mul (q : Rat) (b : V3) (i : Nat) : (mulV q b).at i = q * b.at i := by
  match i with
  | 0 => rfl
  | 1 => rfl
  | _ + 2 => rfl
theorem at_zV (i : Nat) : zV.at i = Rat.divInt 0 1 := by
  have : Rat.divInt 0 1 = 0 := by decide
  rw [this]
  match i with
  | 0 => rfl
  | 1 => rfl
  | _ + 2 => rfl
theorem at_vec (n : Int) (b : I3) (i : Nat) : (vecI n b).at i = Rat.divInt (b.at i) n := by
  match i with
  | 0 => rfl
  | 1 => rfl
  | _ + 2 => rfl
theorem zero_divI (n : Int) : Rat.divInt 0 n = 0 := by
  exact Rat.zero_divInt n
theorem step4 {A : D → D → Prop} {d0 d1 d2 d3 e0 e1 e2 e3 : D} (h0 : A d0 e0) (h1 : A d1 e1) (h2 : A d2 e2) (h3 : A d3 e3) : ∀ (i : Nat) (d e : D), [d0, d1, d2, d3][i]? = some d → [e0, e1, e2, e3][i]? = some e → A d e
  | 0, d, e, hd, he => by cases hd; cases he; exact h0
  | 1, d, e, hd, he => by cases hd; cases he; exact h1
  | 2, d, e, hd, he => by cases hd; cases he; exact h2
  | 3, d, e, hd, he => by cases hd; cases he; exact h3
  | i + 4, d, e, hd, he => by simp at hd
/-- tuple([Quotient(value, bottom) for value in row]) -/
theorem row_of {tq : TE} {C : Addr} {bot : Int} {r : I3} {i j : Nat} (hρ : ρ[i]? = some (some (lRow r))) (h : ∀ x : Int, wE K tq ((wipeR ρ [j]).set j (some (.int x))) O fun y O4 => y = dQ C (Rat.divInt x bot) ∧ O4 = O) :
    wE K (tCB (rTupOf K) (tCons (tLc (iList K (tVar i)) (gName j) tYes tq [j]) tNil)) ρ O fun y O4 => y = dV C (vecI bot r) ∧ O4 = O :=
  e_cb (a_cons (e_lcM (go_name (by simp)) gm_name (i_list (e_var hρ ⟨_, rfl, (by show 3 < 90000; decide), [dQ C (Rat.divInt r.x bot), dQ C (Rat.divInt r.y bot), dQ C (Rat.divInt r.z bot)], rfl,
    step3 (g_name ⟨rfl, h r.x⟩) (g_name ⟨rfl, h r.y⟩) (g_name ⟨rfl, h r.z⟩), a_nil (c_tup ⟨rfl, rfl⟩)⟩))))
end
end G
namespace My
open PySem L2 PySem.Spec PyProof.Rows G
def topS (i : Nat) : Stmt := PySem.Challenge.pw_colormatch_k02_vectors.main.body.getD i (.Pass ⟨0, 0, 0, 0⟩)
abbrev s_Quotient_init : Stmt := inClass (topS 8) 0
abbrev N_Quotient_init : List Str := ["self", "top", "bottom", "common"]
theorem sc_Quotient_init : FnScope N_Quotient_init ["self", "top", "bottom"] (defScope s_Quotient_init) := ⟨rfl, rfl, rfl, by decide +kernel, rfl, by decide +kernel, by decide +kernel⟩
abbrev s_Quotient_add : Stmt := inClass (topS 8) 1
abbrev N_Quotient_add : List Str := ["self", "other"]
theorem sc_Quotient_add : FnScope N_Quotient_add ["self", "other"] (defScope s_Quotient_add) := ⟨rfl, rfl, rfl, by decide +kernel, rfl, by decide +kernel, by decide +kernel⟩
abbrev s_Quotient_sub : Stmt := inClass (topS 8) 2
abbrev N_Quotient_sub : List Str := ["self", "other"]
theorem sc_Quotient_sub : FnScope N_Quotient_sub ["self", "other"] (defScope s_Quotient_sub) := ⟨rfl, rfl, rfl, by decide +kernel, rfl, by decide +kernel, by decide +kernel⟩
abbrev s_Quotient_mul : Stmt := inClass (topS 8) 3
abbrev N_Quotient_mul : List Str := ["self", "other"]
theorem sc_Quotient_mul : FnScope N_Quotient_mul ["self", "other"] (defScope s_Quotient_mul) := ⟨rfl, rfl, rfl, by decide +kernel, rfl, by decide +kernel, by decide +kernel⟩
abbrev s_Quotient_neg : Stmt := inClass (topS 8) 4
abbrev N_Quotient_neg : List Str := ["self"]
theorem sc_Quotient_neg : FnScope N_Quotient_neg ["self"] (defScope s_Quotient_neg) := ⟨rfl, rfl, rfl, by decide +kernel, rfl, by decide +kernel, by decide +kernel⟩
abbrev s_Quotient_eq : Stmt := inClass (topS 8) 5
abbrev N_Quotient_eq : List Str := ["self", "other"]
theorem sc_Quotient_eq : FnScope N_Quotient_eq ["self", "other"] (defScope s_Quotient_eq) := ⟨rfl, rfl, rfl, by decide +kernel, rfl, by decide +kernel, by decide +kernel⟩
abbrev s_Quotient_lt : Stmt := inClass (topS 8) 6
abbrev N_Quotient_lt : List Str := ["self", "other"]
theorem sc_Quotient_lt : FnScope N_Quotient_lt ["self", "other"] (defScope s_Quotient_lt) := ⟨rfl, rfl, rfl, by decide +kernel, rfl, by decide +kernel, by decide +kernel⟩
abbrev s_Quotient_le : Stmt := inClass (topS 8) 7
abbrev N_Quotient_le : List Str := ["self", "other"]
theorem sc_Quotient_le : FnScope N_Quotient_le ["self", "other"] (defScope s_Quotient_le) := ⟨rfl, rfl, rfl, by decide +kernel, rfl, by decide +kernel, by decide +kernel⟩
abbrev s_whole : Stmt := topS 9
abbrev N_whole : List Str := ["number"]
theorem sc_whole : FnScope N_whole ["number"] (defScope s_whole) := ⟨rfl, rfl, rfl, by decide +kernel, rfl, by decide +kernel, by decide +kernel⟩
abbrev s_zero : Stmt := topS 10
abbrev N_zero : List Str := []
theorem sc_zero : FnScope N_zero [] (defScope s_zero) := ⟨rfl, rfl, rfl, by decide +kernel, rfl, by decide +kernel, by decide +kernel⟩
abbrev s_black : Stmt := topS 13
abbrev N_black : List Str := []
theorem sc_black : FnScope N_black [] (defScope s_black) := ⟨rfl, rfl, rfl, by decide +kernel, rfl, by decide +kernel, by decide +kernel⟩
abbrev s_det : Stmt := topS 14
abbrev N_det : List Str := ["first", "second", "third", "a", "b", "c", "d", "e", "f", "g", "h", "i"]
theorem sc_det : FnScope N_det ["first", "second", "third"] (defScope s_det) := ⟨rfl, rfl, rfl, by decide +kernel, rfl, by decide +kernel, by decide +kernel⟩
abbrev s_scaled : Stmt := topS 15
abbrev N_scaled : List Str := ["factor", "vector", "part"]
theorem sc_scaled : FnScope N_scaled ["factor", "vector"] (defScope s_scaled) := ⟨rfl, rfl, rfl, by decide +kernel, rfl, by decide +kernel, by decide +kernel⟩
abbrev s_added : Stmt := topS 16
abbrev N_added : List Str := ["first", "second", "part", "other"]
theorem sc_added : FnScope N_added ["first", "second"] (defScope s_added) := ⟨rfl, rfl, rfl, by decide +kernel, rfl, by decide +kernel, by decide +kernel⟩
abbrev s_taken : Stmt := topS 17
abbrev N_taken : List Str := ["first", "second", "part", "other"]
theorem sc_taken : FnScope N_taken ["first", "second"] (defScope s_taken) := ⟨rfl, rfl, rfl, by decide +kernel, rfl, by decide +kernel, by decide +kernel⟩
abbrev s_sum_of : Stmt := topS 18
abbrev N_sum_of : List Str := ["vectors", "result", "vector"]
theorem sc_sum_of : FnScope N_sum_of ["vectors"] (defScope s_sum_of) := ⟨rfl, rfl, rfl, by decide +kernel, rfl, by decide +kernel, by decide +kernel⟩
abbrev s_law_cell : Stmt := topS 20
abbrev N_law_cell : List Str := ["script", "k"]
theorem sc_law_cell : FnScope N_law_cell ["script", "k"] (defScope s_law_cell) := ⟨rfl, rfl, rfl, by decide +kernel, rfl, by decide +kernel, by decide +kernel⟩
abbrev s_law_draws : Stmt := topS 21
abbrev N_law_draws : List Str := ["cell", "count", "number", "great", "found", "k", "mixed"]
theorem sc_law_draws : FnScope N_law_draws ["cell", "count"] (defScope s_law_draws) := ⟨rfl, rfl, rfl, by decide +kernel, rfl, by decide +kernel, by decide +kernel⟩
abbrev s_law_stream : Stmt := topS 22
abbrev N_law_stream : List Str := ["script", "first", "count", "found", "k"]
theorem sc_law_stream : FnScope N_law_stream ["script", "first", "count"] (defScope s_law_stream) := ⟨rfl, rfl, rfl, by decide +kernel, rfl, by decide +kernel, by decide +kernel⟩
abbrev s_law_next : Stmt := topS 23
abbrev N_law_next : List Str := ["stream", "many", "digits", "place", "value"]
theorem sc_law_next : FnScope N_law_next ["stream", "many"] (defScope s_law_next) := ⟨rfl, rfl, rfl, by decide +kernel, rfl, by decide +kernel, by decide +kernel⟩
abbrev s_law_part : Stmt := topS 24
abbrev N_law_part : List Str := ["first", "second", "k", "rest"]
theorem sc_law_part : FnScope N_law_part ["first", "second"] (defScope s_law_part) := ⟨rfl, rfl, rfl, by decide +kernel, rfl, by decide +kernel, by decide +kernel⟩
abbrev s_law_least : Stmt := topS 25
abbrev N_law_least : List Str := ["top", "bottom", "part"]
theorem sc_law_least : FnScope N_law_least ["top", "bottom"] (defScope s_law_least) := ⟨rfl, rfl, rfl, by decide +kernel, rfl, by decide +kernel, by decide +kernel⟩
abbrev s_law_is : Stmt := topS 26
abbrev N_law_is : List Str := ["actual", "top", "bottom", "due"]
theorem sc_law_is : FnScope N_law_is ["actual", "top", "bottom"] (defScope s_law_is) := ⟨rfl, rfl, rfl, by decide +kernel, rfl, by decide +kernel, by decide +kernel⟩
abbrev s_law_is_integer : Stmt := topS 27
abbrev N_law_is_integer : List Str := ["actual"]
theorem sc_law_is_integer : FnScope N_law_is_integer ["actual"] (defScope s_law_is_integer) := ⟨rfl, rfl, rfl, by decide +kernel, rfl, by decide +kernel, by decide +kernel⟩
abbrev s_law_det : Stmt := topS 28
abbrev N_law_det : List Str := ["a", "b", "c"]
theorem sc_law_det : FnScope N_law_det ["a", "b", "c"] (defScope s_law_det) := ⟨rfl, rfl, rfl, by decide +kernel, rfl, by decide +kernel, by decide +kernel⟩
abbrev s_law : Stmt := topS 29
abbrev N_law : List Str := ["script", "stream", "rows", "k", "bottom", "vectors", "a", "b", "c", "d", "top", "row", "value"]
theorem sc_law : FnScope N_law ["script"] (defScope s_law) := ⟨rfl, rfl, rfl, by decide +kernel, rfl, by decide +kernel, by decide +kernel⟩
structure Lay where
  C_ColorError : Addr
  C_BadQuotient : Addr
  C_Quotient : Addr
  f_Quotient_init : Addr
  d_Quotient_init : FuncData
  f_Quotient_add : Addr
  d_Quotient_add : FuncData
  f_Quotient_sub : Addr
  d_Quotient_sub : FuncData
  f_Quotient_mul : Addr
  d_Quotient_mul : FuncData
  f_Quotient_neg : Addr
  d_Quotient_neg : FuncData
  f_Quotient_eq : Addr
  d_Quotient_eq : FuncData
  f_Quotient_lt : Addr
  d_Quotient_lt : FuncData
  f_Quotient_le : Addr
  d_Quotient_le : FuncData
  f_whole : Addr
  d_whole : FuncData
  f_zero : Addr
  d_zero : FuncData
  f_black : Addr
  d_black : FuncData
  f_det : Addr
  d_det : FuncData
  f_scaled : Addr
  d_scaled : FuncData
  f_added : Addr
  d_added : FuncData
  f_taken : Addr
  d_taken : FuncData
  f_sum_of : Addr
  d_sum_of : FuncData
  f_law_cell : Addr
  d_law_cell : FuncData
  f_law_draws : Addr
  d_law_draws : FuncData
  f_law_stream : Addr
  d_law_stream : FuncData
  f_law_next : Addr
  d_law_next : FuncData
  f_law_part : Addr
  d_law_part : FuncData
  f_law_least : Addr
  d_law_least : FuncData
  f_law_is : Addr
  d_law_is : FuncData
  f_law_is_integer : Addr
  d_law_is_integer : FuncData
  f_law_det : Addr
  d_law_det : FuncData
  f_law : Addr
  d_law : FuncData
structure Txt (K : PySem.W.Frag) (mg : Str → Option Value) (L : Lay) : Prop where
  F_Quotient_init : Fun K "__init__" "Quotient.__init__" s_Quotient_init L.f_Quotient_init L.d_Quotient_init
  b_Quotient_init : Binds K L.d_Quotient_init ["self", "top", "bottom"] []
  fi_Quotient_init : PySem.W.findIn K (.ref L.C_Quotient) "__init__" = some (some (.ref L.f_Quotient_init))
  fn_Quotient_init : PySem.W.isFn K (.ref L.f_Quotient_init) = true
  me_Quotient_init : Meth K L.C_Quotient "__init__" L.f_Quotient_init
  F_Quotient_add : Fun K "__add__" "Quotient.__add__" s_Quotient_add L.f_Quotient_add L.d_Quotient_add
  b_Quotient_add : Binds K L.d_Quotient_add ["self", "other"] []
  fi_Quotient_add : PySem.W.findIn K (.ref L.C_Quotient) "__add__" = some (some (.ref L.f_Quotient_add))
  fn_Quotient_add : PySem.W.isFn K (.ref L.f_Quotient_add) = true
  me_Quotient_add : Meth K L.C_Quotient "__add__" L.f_Quotient_add
  F_Quotient_sub : Fun K "__sub__" "Quotient.__sub__" s_Quotient_sub L.f_Quotient_sub L.d_Quotient_sub
  b_Quotient_sub : Binds K L.d_Quotient_sub ["self", "other"] []
  fi_Quotient_sub : PySem.W.findIn K (.ref L.C_Quotient) "__sub__" = some (some (.ref L.f_Quotient_sub))
  fn_Quotient_sub : PySem.W.isFn K (.ref L.f_Quotient_sub) = true
  me_Quotient_sub : Meth K L.C_Quotient "__sub__" L.f_Quotient_sub
  F_Quotient_mul : Fun K "__mul__" "Quotient.__mul__" s_Quotient_mul L.f_Quotient_mul L.d_Quotient_mul
  b_Quotient_mul : Binds K L.d_Quotient_mul ["self", "other"] []
  fi_Quotient_mul : PySem.W.findIn K (.ref L.C_Quotient) "__mul__" = some (some (.ref L.f_Quotient_mul))
  fn_Quotient_mul : PySem.W.isFn K (.ref L.f_Quotient_mul) = true
  me_Quotient_mul : Meth K L.C_Quotient "__mul__" L.f_Quotient_mul
  F_Quotient_neg : Fun K "__neg__" "Quotient.__neg__" s_Quotient_neg L.f_Quotient_neg L.d_Quotient_neg
  b_Quotient_neg : Binds K L.d_Quotient_neg ["self"] []
  fi_Quotient_neg : PySem.W.findIn K (.ref L.C_Quotient) "__neg__" = some (some (.ref L.f_Quotient_neg))
  fn_Quotient_neg : PySem.W.isFn K (.ref L.f_Quotient_neg) = true
  me_Quotient_neg : Meth K L.C_Quotient "__neg__" L.f_Quotient_neg
  F_Quotient_eq : Fun K "__eq__" "Quotient.__eq__" s_Quotient_eq L.f_Quotient_eq L.d_Quotient_eq
  b_Quotient_eq : Binds K L.d_Quotient_eq ["self", "other"] []
  fi_Quotient_eq : PySem.W.findIn K (.ref L.C_Quotient) "__eq__" = some (some (.ref L.f_Quotient_eq))
  fn_Quotient_eq : PySem.W.isFn K (.ref L.f_Quotient_eq) = true
  me_Quotient_eq : Meth K L.C_Quotient "__eq__" L.f_Quotient_eq
  F_Quotient_lt : Fun K "__lt__" "Quotient.__lt__" s_Quotient_lt L.f_Quotient_lt L.d_Quotient_lt
  b_Quotient_lt : Binds K L.d_Quotient_lt ["self", "other"] []
  fi_Quotient_lt : PySem.W.findIn K (.ref L.C_Quotient) "__lt__" = some (some (.ref L.f_Quotient_lt))
  fn_Quotient_lt : PySem.W.isFn K (.ref L.f_Quotient_lt) = true
  me_Quotient_lt : Meth K L.C_Quotient "__lt__" L.f_Quotient_lt
  F_Quotient_le : Fun K "__le__" "Quotient.__le__" s_Quotient_le L.f_Quotient_le L.d_Quotient_le
  b_Quotient_le : Binds K L.d_Quotient_le ["self", "other"] []
  fi_Quotient_le : PySem.W.findIn K (.ref L.C_Quotient) "__le__" = some (some (.ref L.f_Quotient_le))
  fn_Quotient_le : PySem.W.isFn K (.ref L.f_Quotient_le) = true
  me_Quotient_le : Meth K L.C_Quotient "__le__" L.f_Quotient_le
  F_whole : Fun K "whole" "whole" s_whole L.f_whole L.d_whole
  b_whole : Binds K L.d_whole ["number"] []
  m_whole : mg "whole" = some (.ref L.f_whole)
  F_zero : Fun K "zero" "zero" s_zero L.f_zero L.d_zero
  b_zero : Binds K L.d_zero [] []
  m_zero : mg "zero" = some (.ref L.f_zero)
  F_black : Fun K "black" "black" s_black L.f_black L.d_black
  b_black : Binds K L.d_black [] []
  m_black : mg "black" = some (.ref L.f_black)
  F_det : Fun K "det" "det" s_det L.f_det L.d_det
  b_det : Binds K L.d_det ["first", "second", "third"] []
  m_det : mg "det" = some (.ref L.f_det)
  F_scaled : Fun K "scaled" "scaled" s_scaled L.f_scaled L.d_scaled
  b_scaled : Binds K L.d_scaled ["factor", "vector"] []
  m_scaled : mg "scaled" = some (.ref L.f_scaled)
  F_added : Fun K "added" "added" s_added L.f_added L.d_added
  b_added : Binds K L.d_added ["first", "second"] []
  m_added : mg "added" = some (.ref L.f_added)
  F_taken : Fun K "taken" "taken" s_taken L.f_taken L.d_taken
  b_taken : Binds K L.d_taken ["first", "second"] []
  m_taken : mg "taken" = some (.ref L.f_taken)
  F_sum_of : Fun K "sum_of" "sum_of" s_sum_of L.f_sum_of L.d_sum_of
  b_sum_of : Binds K L.d_sum_of ["vectors"] []
  m_sum_of : mg "sum_of" = some (.ref L.f_sum_of)
  F_law_cell : Fun K "_law_cell" "_law_cell" s_law_cell L.f_law_cell L.d_law_cell
  b_law_cell : Binds K L.d_law_cell ["script", "k"] []
  m_law_cell : mg "_law_cell" = some (.ref L.f_law_cell)
  F_law_draws : Fun K "_law_draws" "_law_draws" s_law_draws L.f_law_draws L.d_law_draws
  b_law_draws : Binds K L.d_law_draws ["cell", "count"] []
  m_law_draws : mg "_law_draws" = some (.ref L.f_law_draws)
  F_law_stream : Fun K "_law_stream" "_law_stream" s_law_stream L.f_law_stream L.d_law_stream
  b_law_stream : Binds K L.d_law_stream ["script", "first", "count"] []
  m_law_stream : mg "_law_stream" = some (.ref L.f_law_stream)
  F_law_next : Fun K "_law_next" "_law_next" s_law_next L.f_law_next L.d_law_next
  b_law_next : Binds K L.d_law_next ["stream", "many"] []
  m_law_next : mg "_law_next" = some (.ref L.f_law_next)
  F_law_part : Fun K "_law_part" "_law_part" s_law_part L.f_law_part L.d_law_part
  b_law_part : Binds K L.d_law_part ["first", "second"] []
  m_law_part : mg "_law_part" = some (.ref L.f_law_part)
  F_law_least : Fun K "_law_least" "_law_least" s_law_least L.f_law_least L.d_law_least
  b_law_least : Binds K L.d_law_least ["top", "bottom"] []
  m_law_least : mg "_law_least" = some (.ref L.f_law_least)
  F_law_is : Fun K "_law_is" "_law_is" s_law_is L.f_law_is L.d_law_is
  b_law_is : Binds K L.d_law_is ["actual", "top", "bottom"] []
  m_law_is : mg "_law_is" = some (.ref L.f_law_is)
  F_law_is_integer : Fun K "_law_is_integer" "_law_is_integer" s_law_is_integer L.f_law_is_integer L.d_law_is_integer
  b_law_is_integer : Binds K L.d_law_is_integer ["actual"] []
  m_law_is_integer : mg "_law_is_integer" = some (.ref L.f_law_is_integer)
  F_law_det : Fun K "_law_det" "_law_det" s_law_det L.f_law_det L.d_law_det
  b_law_det : Binds K L.d_law_det ["a", "b", "c"] []
  m_law_det : mg "_law_det" = some (.ref L.f_law_det)
  F_law : Fun K "law" "law" s_law L.f_law L.d_law
  b_law : Binds K L.d_law ["script"] []
  m_law : mg "law" = some (.ref L.f_law)
  mg_ColorError : mg "ColorError" = some (.ref L.C_ColorError)
  mg_BadQuotient : mg "BadQuotient" = some (.ref L.C_BadQuotient)
  mg_Quotient : mg "Quotient" = some (.ref L.C_Quotient)
  k_Quotient : KC K L.C_Quotient
  sf_Quotient : PySem.W.selfFirst K L.C_Quotient = true
  mk_Quotient : Mk K L.C_Quotient L.f_Quotient_init
  na_Quotient_top : NoAttr K L.C_Quotient "top"
  na_Quotient_bottom : NoAttr K L.C_Quotient "bottom"
  kit_Quotient_Quotient : PySem.W.kitOne K (.ref L.C_Quotient) (.ref L.C_Quotient) = some true
  kit_bool_bool : PySem.W.kitOne K (.type "bool") (.type "bool") = some true
  kit_int_int : PySem.W.kitOne K (.type "int") (.type "int") = some true
  kit_int_bool : PySem.W.kitOne K (.type "int") (.type "bool") = some false
  x_BadQuotient : PySem.W.excIn K L.C_BadQuotient [.type "ValueError", .type "Exception", .type "BaseException", .type "object"] "ValueError.__new__" = true
  kc_BadQuotient : PySem.W.keepIn K (.ref L.C_BadQuotient) = true
  xb_BadQuotient : PySem.W.subIn K (.ref L.C_BadQuotient) (.type "BaseException") = some true
  xt_BadQuotient : PySem.W.typeIn K (.ref L.C_BadQuotient) = some (.type "type")
  xi_BadQuotient : PySem.W.isClsIn K L.C_BadQuotient = true
  xs_BadQuotient : PySem.W.subIn K (.ref L.C_BadQuotient) (.ref L.C_BadQuotient) = some true
  n_abs : mg "abs" = none
  n_bool : mg "bool" = none
  n_divmod : mg "divmod" = none
  n_int : mg "int" = none
  n_isinstance : mg "isinstance" = none
  n_len : mg "len" = none
  n_range : mg "range" = none
  n_str : mg "str" = none
  n_sum : mg "sum" = none
  n_tuple : mg "tuple" = none
  n_zip : mg "zip" = none
  n_ValueError : mg "ValueError" = none
  i_gcd : mg "gcd" = some (.builtin "math.gcd")
  c_PIECE_DIGITS : ∃ u, mg "PIECE_DIGITS" = some u ∧ RelV (.int 18) u
  c_PIECE : ∃ u, mg "PIECE" = some u ∧ RelV (.int 1000000000000000000) u
section
variable {Pr : Program} {w : World} {K : PySem.W.Frag} {mg : Str → Option Value} {base : Heap} {L : Lay}
local macro_rules | `(tactic| walk_at "bz") => `(tactic| first
  | with_reducible assumption
  | with_reducible exact bits_zero
  | with_reducible exact bits_one
  | with_reducible exact bits_add (by walk_at "bz") (by walk_at "bz")
  | with_reducible exact bits_sub (by walk_at "bz") (by walk_at "bz")
  | with_reducible exact bits_mul (by walk_at "bz") (by walk_at "bz")
  | with_reducible exact bits_neg (by walk_at "bz"))
local macro_rules | `(tactic| walk_at "qq") => `(tactic| first
  | refine e_var rfl ?_
  | refine e_c ?_
  | refine r_own ⟨_, _, _, _, rfl, by walk_at "bz", by walk_at "bz", by decide, ?_⟩
  | refine r_own1 ⟨_, _, rfl, by walk_at "bz", by decide, ?_⟩
  | refine e_op ?_
  | refine e_un ?_
  | refine t_test ?_
  | refine t_not ?_
  | refine t_or ?_
  | refine t_and ?_
  | refine e_call (a_nil ⟨rfl, rfl, ?_⟩))
local macro_rules | `(tactic| walk_at "qv") => `(tactic| first
  | refine e_var rfl ?_
  | refine e_c ?_
  | refine r_own ⟨_, _, _, _, rfl, by walk_at "bz", by walk_at "bz", by omega, ?_⟩
  | refine r_own1 ⟨_, _, rfl, by walk_at "bz", by omega, ?_⟩
  | refine e_op ?_
  | refine e_un ?_)
local macro_rules | `(tactic| walk_at "ii") => `(tactic| first
  | refine e_var rfl ?_
  | refine e_c ?_
  | refine r_rI0 ?_
  | refine r_rI (wide_q (by assumption) (by assumption) (by decide)) ?_
  | refine r_ixL rfl ?_
  | refine e_op ?_)
local macro_rules | `(tactic| walk_at "bv") => `(tactic| first
  | with_reducible assumption
  | with_reducible exact bitsV_zero
  | with_reducible exact bitsV_add (by walk_at "bv") (by walk_at "bv")
  | with_reducible exact bitsV_sub (by walk_at "bv") (by walk_at "bv")
  | with_reducible exact bits_det (m := 6) (by assumption) (by assumption) (by assumption)
  | with_reducible exact bits_det (m := 13) (by walk_at "bv") (by assumption) (by assumption)
  | with_reducible exact bits_neg (by walk_at "bv")
  | with_reducible exact bits_add (by walk_at "bv") (by walk_at "bv"))
local macro_rules | `(tactic| walk_at "vv") => `(tactic| first
  | refine t_not ?_
  | refine t_or ?_
  | refine t_test ?_
  | refine t_B ?_
  | refine e_var rfl ?_
  | refine e_c ?_
  | with_reducible refine a_cons ?_
  | with_reducible refine e_op ?_
  | with_reducible refine e_un ?_
  | refine e_call ?_
  | refine r_own ⟨_, _, _, _, rfl, by walk_at "bv", by walk_at "bv", by decide, ?_⟩
  | refine r_own1 ⟨_, _, rfl, by walk_at "bv", by decide, ?_⟩
  | refine r_ixT (at_dV (by assumption)) ?_
  | refine r_ixL (at_row (by assumption)) ?_
  | refine r_ixL rfl ?_
  | refine r_rI0 ?_
  | refine a_nil ⟨rfl, _, _, _, 6, rfl, by assumption, by assumption, by assumption, by decide, ?_⟩
  | refine a_nil ⟨rfl, _, _, _, _, rfl, by walk_at "bv", by walk_at "bv", by decide, ?_⟩
  | refine a_nil ⟨rfl, rfl, ?_⟩)
theorem e_top {te : TE} {ρ : Rho} {O : Store} {P : D → Store → Prop} (T : Txt K mg L) (h : wE K te ρ O fun x O1 => ∃ q, x = dQ L.C_Quotient q ∧ P (.int q.num) O1) : wE K (tFld K te "top") ρ O P :=
  e_fld (h.mono fun d O' z => by obtain ⟨q, rfl, p⟩ := z; exact ⟨_, _, _, rfl, T.k_Quotient.cl, T.na_Quotient_top, rfl, p⟩)
theorem e_bot {te : TE} {ρ : Rho} {O : Store} {P : D → Store → Prop} (T : Txt K mg L) (h : wE K te ρ O fun x O1 => ∃ q, x = dQ L.C_Quotient q ∧ P (.int (q.den : Int)) O1) : wE K (tFld K te "bottom") ρ O P :=
  e_fld (h.mono fun d O' z => by obtain ⟨q, rfl, p⟩ := z; exact ⟨_, _, _, rfl, T.k_Quotient.cl, T.na_Quotient_bottom, rfl, p⟩)
theorem e_topv {ρ : Rho} {O : Store} {P : D → Store → Prop} {i : Nat} {q : Rat} (T : Txt K mg L) (h : ρ[i]? = some (some (dQ L.C_Quotient q))) (p : P (.int q.num) O) : wE K (tFld K (tVar i) "top") ρ O P := e_top T (e_var h ⟨q, rfl, p⟩)
theorem e_botv {ρ : Rho} {O : Store} {P : D → Store → Prop} {i : Nat} {q : Rat} (T : Txt K mg L) (h : ρ[i]? = some (some (dQ L.C_Quotient q))) (p : P (.int (q.den : Int)) O) : wE K (tFld K (tVar i) "bottom") ρ O P := e_bot T (e_var h ⟨q, rfl, p⟩)
theorem ok_Quotient_init (T : Txt K mg L) : FnOk Pr w K mg base (L2.CX Pr w) 1 L.f_Quotient_init L.d_Quotient_init ["self", "top", "bottom"] (spI K L.C_Quotient 2 (W_Qinit L.C_BadQuotient)) := by
  refine okI T.F_Quotient_init sc_Quotient_init rfl (fun cdv A outer s H0 E hr => ⟨_, (pss_cons (ps_if (pt_cmpR op_eq (pv 2) pe_int (nomark _)) (pss_one (ps_raise rfl (takes_of rfl rfl rfl rfl) (pmk_own PySem.F.excBase_ValueError T.x_BadQuotient T.mg_BadQuotient T.kc_BadQuotient (raises_own T.xb_BadQuotient T.xt_BadQuotient) (by rfl)))) pss_nil)
    (pss_cons (ps_set (i := 3) sc_Quotient_init.nd rfl (by first | exact Or.inl rfl | exact Or.inr rfl) (pe_callBfun cr_gcd (by rfl) T.i_gcd (pa_cons (pv 1) (pa_cons (pv 2) pa_nil))))
    (pss_cons (ps_if (pt_cmpR op_lt (pv 2) pe_int (nomark _)) (pss_one (ps_set (i := 3) sc_Quotient_init.nd rfl (by first | exact Or.inl rfl | exact Or.inr rfl) (pe_un un_neg (pv 3)))) pss_nil)
    (pss_cons (ps_fld (pv 0) (pe_op op_fdivG (pv 1) (pv 3)) rfl)
    (pss_one (ps_fld (pv 0) (pe_op op_fdivG (pv 2) (pv 3)) rfl)))))), ?_⟩)
  rintro ds PF PX hl ⟨t, b, rfl, h0, h1⟩ xa F1 B H σ Q e hs q qx
  refine t_run (P := fun bb O' => bb = decide (b = 0) ∧ O' = [(xa, .ins L.C_Quotient [])]) (O := [(xa, .ins L.C_Quotient [])]) ?_ e hs ?_
  · refine t_test (e_op (e_var rfl (e_c (r_eq rfl ⟨_, rfl, ?_, rfl⟩))))
    rw [Bool.eq_iff_iff]
    simp
  · rintro bb O' B2 H2 ⟨rfl, rfl⟩ e2 hs2
    by_cases hb : b = 0
    · rw [decide_eq_true hb]
      exact qx _ B2 H2 (h0 hb) e2 hs2.tail
    · obtain ⟨hbits, hPF⟩ := h1 hb
      rw [decide_eq_false hb]
      refine iteF ?_
      dsimp only [tNext]
      refine init_rest (C := L.C_Quotient) (PF := PF) ?_ (e.mono e2) hs2 e2 q
      refine s_seq (s_asg (e_cb (a_cons (e_var rfl (a_cons (e_var rfl (a_nil (c_gcd ?_))))))))
      refine s_seq (wS.mono (PS := fun o O' => o = .nx [some (.loc xa), some (.int t), some (.int b), some (.int (common t b))] ∧ O' = [(xa, .ins L.C_Quotient [])]) ?_ ?_)
      · refine s_if (t_test (e_op (e_var rfl (e_c (r_rI0 ⟨_, rfl, fun hn => ?_, fun hn => ?_⟩)))))
        · refine s_asg (e_un (e_var rfl (r_rU ⟨?_, rfl⟩)))
          unfold common
          rw [if_pos (of_decide_eq_true hn)]
          rfl
        · refine s_next ⟨?_, rfl⟩
          unfold common
          rw [if_neg (of_decide_eq_false hn)]
          rfl
      · rintro o O' ⟨rfl, rfl⟩
        have hc := common_ne (t := t) hb
        have hcb : (common t b).natAbs < 2 ^ 8990 := Nat.lt_of_le_of_lt (common_le hb) hbits
        refine s_seq (s_fld (e_op (e_var rfl (e_var rfl (r_rI (cdivG hc hcb (by decide)) (e_var rfl ⟨xa, L.C_Quotient, [], _, rfl, .here, T.k_Quotient.cl, T.na_Quotient_top, by decide, ?_⟩))))))
        refine s_fld (e_op (e_var rfl (e_var rfl (r_rI (cdivG hc hcb (by decide)) (e_var rfl ⟨xa, L.C_Quotient, _, _, rfl, .here, T.k_Quotient.cl, T.na_Quotient_bottom, (by show 1 < 1000; decide), ?_⟩)))))
        refine ⟨_, rfl, ?_⟩
        rw [quo_num hb, quo_den hb]
        exact hPF
theorem ok_whole (T : Txt K mg L) : FnOk Pr w K mg base CX0 3 L.f_whole L.d_whole ["number"] (spP K 1 (W_whole L.C_Quotient)) := by
  refine okP T.F_whole sc_whole rfl (fun cdv A outer s H E hr => ⟨_, (pss_one (ps_ret (pe_make T.mk_Quotient (ok_Quotient_init T) (hr.mono (by decide)) (by rfl) T.mg_Quotient T.b_Quotient_init .nil passL (pa_cons (pv 0) (pa_cons pe_int pa_nil))))), ?_⟩)
  rintro ds P hl ⟨n, rfl, p⟩
  refine s_ret (e_make (a_cons (e_var rfl (a_cons (e_c (a_nil ⟨rfl, n, 1, rfl, fun z => absurd z (by decide), fun _ => ⟨one_small, ?_⟩⟩))))))
  rw [q_whole]
  exact p
theorem ok_zero (T : Txt K mg L) : FnOk Pr w K mg base CX0 4 L.f_zero L.d_zero [] (spP K 0 (W_q0 L.C_Quotient 0)) := by
  refine okP T.F_zero sc_zero rfl (fun cdv A outer s H E hr => ⟨_, (pss_one (ps_ret (pe_call (ok_whole T) (hr.mono (by decide)) (by rfl) T.m_whole T.F_whole.kp T.b_whole .nil pass0 (pa_cons pe_int pa_nil)))), ?_⟩)
  rintro ds P hl ⟨rfl, p⟩
  exact s_ret (e_call (a_cons (e_c (a_nil ⟨rfl, 0, rfl, p⟩))))
/-- a quotient made of two parts -/
theorem e_quo {ta tb : TE} {ρ : Rho} {O : Store} {P : D → Store → Prop} {C CB : Addr} {E : XK} (h : wE K ta ρ O fun x O1 => wE K tb ρ O1 fun y O2 => ∃ t b : Int, x = .int t ∧ y = .int b ∧ b ≠ 0 ∧ b.natAbs < 2 ^ 8990 ∧ P (dQ C (Rat.divInt t b)) O2) :
    wE K (tMake C (spI K C 2 (W_Qinit CB)) [] E (tCons ta (tCons tb tNil))) ρ O P :=
  e_make (a_cons (h.mono fun x O1 h1 => a_cons (h1.mono fun y O2 h2 => a_nil (by
    obtain ⟨t, b, rfl, rfl, hb, hz, p⟩ := h2
    exact ⟨rfl, t, b, rfl, fun z => absurd z hb, fun _ => ⟨hz, p⟩⟩))))
theorem ok_Quotient_add (T : Txt K mg L) : FnOk Pr w K mg base CX0 3 L.f_Quotient_add L.d_Quotient_add ["self", "other"] (spP K 2 (W_q2 L.C_Quotient fun x y => dQ L.C_Quotient (x + y))) := by
  refine okP T.F_Quotient_add sc_Quotient_add rfl (fun cdv A outer s H E hr => ⟨_, (pss_one (ps_ret (pe_make T.mk_Quotient (ok_Quotient_init T) (hr.mono (by decide)) (by rfl) T.mg_Quotient T.b_Quotient_init .nil passL (pa_cons (pe_op op_add (pe_op op_mulW (pe_fld (pv 0) rfl) (pe_fld (pv 1) rfl)) (pe_op op_mulW (pe_fld (pv 1) rfl) (pe_fld (pv 0) rfl))) (pa_cons (pe_op op_mulW (pe_fld (pv 0) rfl) (pe_fld (pv 1) rfl)) pa_nil))))), ?_⟩)
  rintro ds P hl ⟨x, y, m, n, rfl, hx, hy, hmn, p⟩
  refine s_ret (e_quo (e_op (e_op (e_topv T (q := x) rfl (e_botv T (q := y) rfl (r_rI (wide_q hx.1 (bits_den hy) (by omega)) ?_))))))
  refine e_op (e_topv T (q := y) rfl (e_botv T (q := x) rfl (r_rI (wide_q hy.1 (bits_den hx) (by omega)) (r_rI0 ?_))))
  refine e_op (e_botv T (q := x) rfl (e_botv T (q := y) rfl (r_rI (wide_q (bits_den hx) (bits_den hy) (by omega)) ⟨_, _, rfl, rfl, den_mul_ne x y, small_of (natAbs_mul_lt (bits_den hx) (bits_den hy)) (by omega), ?_⟩)))
  rw [q_add]
  exact p
theorem ok_Quotient_sub (T : Txt K mg L) : FnOk Pr w K mg base CX0 3 L.f_Quotient_sub L.d_Quotient_sub ["self", "other"] (spP K 2 (W_q2 L.C_Quotient fun x y => dQ L.C_Quotient (x - y))) := by
  refine okP T.F_Quotient_sub sc_Quotient_sub rfl (fun cdv A outer s H E hr => ⟨_, (pss_one (ps_ret (pe_make T.mk_Quotient (ok_Quotient_init T) (hr.mono (by decide)) (by rfl) T.mg_Quotient T.b_Quotient_init .nil passL (pa_cons (pe_op op_sub (pe_op op_mulW (pe_fld (pv 0) rfl) (pe_fld (pv 1) rfl)) (pe_op op_mulW (pe_fld (pv 1) rfl) (pe_fld (pv 0) rfl))) (pa_cons (pe_op op_mulW (pe_fld (pv 0) rfl) (pe_fld (pv 1) rfl)) pa_nil))))), ?_⟩)
  rintro ds P hl ⟨x, y, m, n, rfl, hx, hy, hmn, p⟩
  refine s_ret (e_quo (e_op (e_op (e_topv T (q := x) rfl (e_botv T (q := y) rfl (r_rI (wide_q hx.1 (bits_den hy) (by omega)) ?_))))))
  refine e_op (e_topv T (q := y) rfl (e_botv T (q := x) rfl (r_rI (wide_q hy.1 (bits_den hx) (by omega)) (r_rI0 ?_))))
  refine e_op (e_botv T (q := x) rfl (e_botv T (q := y) rfl (r_rI (wide_q (bits_den hx) (bits_den hy) (by omega)) ⟨_, _, rfl, rfl, den_mul_ne x y, small_of (natAbs_mul_lt (bits_den hx) (bits_den hy)) (by omega), ?_⟩)))
  rw [q_sub]
  exact p
theorem ok_Quotient_mul (T : Txt K mg L) : FnOk Pr w K mg base CX0 3 L.f_Quotient_mul L.d_Quotient_mul ["self", "other"] (spP K 2 (W_q2 L.C_Quotient fun x y => dQ L.C_Quotient (x * y))) := by
  refine okP T.F_Quotient_mul sc_Quotient_mul rfl (fun cdv A outer s H E hr => ⟨_, (pss_one (ps_ret (pe_make T.mk_Quotient (ok_Quotient_init T) (hr.mono (by decide)) (by rfl) T.mg_Quotient T.b_Quotient_init .nil passL (pa_cons (pe_op op_mulW (pe_fld (pv 0) rfl) (pe_fld (pv 1) rfl)) (pa_cons (pe_op op_mulW (pe_fld (pv 0) rfl) (pe_fld (pv 1) rfl)) pa_nil))))), ?_⟩)
  rintro ds P hl ⟨x, y, m, n, rfl, hx, hy, hmn, p⟩
  refine s_ret (e_quo (e_op (e_topv T (q := x) rfl (e_topv T (q := y) rfl (r_rI (wide_q hx.1 hy.1 (by omega)) ?_)))))
  refine e_op (e_botv T (q := x) rfl (e_botv T (q := y) rfl (r_rI (wide_q (bits_den hx) (bits_den hy) (by omega)) ⟨_, _, rfl, rfl, den_mul_ne x y, small_of (natAbs_mul_lt (bits_den hx) (bits_den hy)) (by omega), ?_⟩)))
  rw [q_mul]
  exact p
theorem ok_Quotient_neg (T : Txt K mg L) : FnOk Pr w K mg base CX0 3 L.f_Quotient_neg L.d_Quotient_neg ["self"] (spP K 1 (W_q1 L.C_Quotient fun x => dQ L.C_Quotient (-x))) := by
  refine okP T.F_Quotient_neg sc_Quotient_neg rfl (fun cdv A outer s H E hr => ⟨_, (pss_one (ps_ret (pe_make T.mk_Quotient (ok_Quotient_init T) (hr.mono (by decide)) (by rfl) T.mg_Quotient T.b_Quotient_init .nil passL (pa_cons (pe_un un_neg (pe_fld (pv 0) rfl)) (pa_cons (pe_fld (pv 0) rfl) pa_nil))))), ?_⟩)
  rintro ds P hl ⟨x, m, rfl, hx, hm, p⟩
  refine s_ret (e_quo (e_un (e_topv T (q := x) rfl (r_rU ?_))))
  refine e_botv T (q := x) rfl ⟨_, _, rfl, rfl, den_ne x, small_of (bits_den hx) (by omega), ?_⟩
  rw [q_neg]
  exact p
theorem ok_Quotient_eq (T : Txt K mg L) : FnOk Pr w K mg base CX0 1 L.f_Quotient_eq L.d_Quotient_eq ["self", "other"] (spP K 2 (W_q2 L.C_Quotient fun x y => .bl (decide (x = y)))) := by
  refine okP T.F_Quotient_eq sc_Quotient_eq rfl (fun cdv A outer s H E hr => ⟨_, (pss_one (ps_ret (pe_and (pe_callB (r := rIsi K) call_isi rfl T.n_isinstance (by decide +kernel) (pa_cons (pv 1) (pa_cons (pe_glob (v := .ref L.C_Quotient) (by rfl) T.mg_Quotient rfl) pa_nil))) (pe_and (pe_cmpR op_eq (pe_fld (pv 0) rfl) (pe_fld (pv 1) rfl) (nomark _)) (pe_one (pe_cmpR op_eq (pe_fld (pv 0) rfl) (pe_fld (pv 1) rfl) (nomark _))))))), ?_⟩)
  rintro ds P hl ⟨x, y, m, n, rfl, hx, hy, hmn, p⟩
  dsimp only at p
  rw [← q_eq] at p
  refine s_ret (e_and (e_cb (a_cons (e_var rfl (a_cons (e_c (a_nil (c_isi (.ins _ _ T.k_Quotient) (.own _) T.kit_Quotient_Quotient ⟨true, rfl, fun _ => ?_, fun z => nomatch z⟩))))))))
  refine e_and (e_op (e_topv T (q := x) rfl (e_topv T (q := y) rfl (r_eq rfl ⟨_, rfl, fun h1 => ?_, fun h1 => ?_⟩))))
  · refine e_op (e_botv T (q := x) rfl (e_botv T (q := y) rfl (r_eq rfl ?_)))
    rw [dec_ints] at h1 ⊢
    rw [h1] at p
    exact p
  · rw [dec_ints] at h1
    rw [h1] at p
    exact p
theorem ok_Quotient_lt (T : Txt K mg L) : FnOk Pr w K mg base CX0 1 L.f_Quotient_lt L.d_Quotient_lt ["self", "other"] (spP K 2 (W_q2 L.C_Quotient fun x y => .bl (decide (x < y)))) := by
  refine okP T.F_Quotient_lt sc_Quotient_lt rfl (fun cdv A outer s H E hr => ⟨_, (pss_one (ps_ret (pe_cmpR op_lt (pe_op op_mulW (pe_fld (pv 0) rfl) (pe_fld (pv 1) rfl)) (pe_op op_mulW (pe_fld (pv 1) rfl) (pe_fld (pv 0) rfl)) (nomark _)))), ?_⟩)
  rintro ds P hl ⟨x, y, m, n, rfl, hx, hy, hmn, p⟩
  dsimp only at p
  rw [← q_lt] at p
  refine s_ret (e_op (e_op (e_topv T (q := x) rfl (e_botv T (q := y) rfl (r_rI (wide_q hx.1 (bits_den hy) (by omega)) ?_)))))
  exact e_op (e_topv T (q := y) rfl (e_botv T (q := x) rfl (r_rI (wide_q hy.1 (bits_den hx) (by omega)) (r_rI0 p))))
theorem ok_Quotient_le (T : Txt K mg L) : FnOk Pr w K mg base CX0 1 L.f_Quotient_le L.d_Quotient_le ["self", "other"] (spP K 2 (W_q2 L.C_Quotient fun x y => .bl (decide (x ≤ y)))) := by
  refine okP T.F_Quotient_le sc_Quotient_le rfl (fun cdv A outer s H E hr => ⟨_, (pss_one (ps_ret (pe_cmpR op_le (pe_op op_mulW (pe_fld (pv 0) rfl) (pe_fld (pv 1) rfl)) (pe_op op_mulW (pe_fld (pv 1) rfl) (pe_fld (pv 0) rfl)) (nomark _)))), ?_⟩)
  rintro ds P hl ⟨x, y, m, n, rfl, hx, hy, hmn, p⟩
  dsimp only at p
  rw [← q_le] at p
  refine s_ret (e_op (e_op (e_topv T (q := x) rfl (e_botv T (q := y) rfl (r_rI (wide_q hx.1 (bits_den hy) (by omega)) ?_)))))
  exact e_op (e_topv T (q := y) rfl (e_botv T (q := x) rfl (r_rI (wide_q hy.1 (bits_den hx) (by omega)) (r_rI0 p))))
theorem ok_law_cell (T : Txt K mg L) : FnOk Pr w K mg base CX0 1 L.f_law_cell L.d_law_cell ["script", "k"] (spP K 2 W_cell) := by
  refine okP T.F_law_cell sc_law_cell rfl (fun cdv A outer s H E hr => ⟨_, (pss_cons (ps_if (pt_cmpR op_lt (pv 1) (pe_callB (r := Evl.rLenS K) call_len_seq rfl T.n_len (by decide +kernel) (pa_cons (pv 0) pa_nil)) (nomark _)) (pss_one (ps_ret (pe_callTy (r := rInt1) call_int1 rfl T.n_int (by decide +kernel) (pa_cons (pe_ix (r := rIxL K) ix_list (pv 0) (pv 1) (fun _ _ => rfl)) pa_nil)))) pss_nil)
    (pss_one (ps_ret pe_int))), ?_⟩)
  rintro ds P hl ⟨ns, k, rfl, h0, p⟩
  refine s_seq (s_if (t_test (e_op (e_var rfl (e_cb (a_cons (e_var rfl (a_nil (c_len (.inr (.inr rfl)) (r_rI0 ⟨_, rfl, fun h => ?_, fun h => ?_⟩))))))))))
  · have h' : k < ns.length := by have := of_decide_eq_true h; rwa [scr_len] at this
    exact s_ret (e_cb (a_cons (e_op (e_var rfl (e_var rfl (r_ixZ (cell_lt h0 h') (a_nil (c_int p))))))))
  · have h' : ¬ k < ns.length := by have := of_decide_eq_false h; rwa [scr_len] at this
    refine s_next (s_ret (e_c ?_))
    rw [cell_ge h' h0] at p
    exact p
theorem ok_law_part (T : Txt K mg L) : FnOk Pr w K mg base CX0 1 L.f_law_part L.d_law_part ["first", "second"] (spP K 2 W_part) := by
  refine okP T.F_law_part sc_law_part rfl (fun cdv A outer s H E hr => ⟨_, (pss_cons (ps_set (i := 0) sc_law_part.nd rfl (by first | exact Or.inl rfl | exact Or.inr rfl) (pe_callB (r := rAbs) call_abs rfl T.n_abs (by decide +kernel) (pa_cons (pv 0) pa_nil)))
    (pss_cons (ps_set (i := 1) sc_law_part.nd rfl (by first | exact Or.inl rfl | exact Or.inr rfl) (pe_callB (r := rAbs) call_abs rfl T.n_abs (by decide +kernel) (pa_cons (pv 1) pa_nil)))
    (pss_cons (ps_for PassesOwn.never rfl (pi_range1 (by rfl) T.n_range (pa_cons pe_int pa_nil)) (pg_name (i := 2) sc_law_part.nd rfl (by first | exact Or.inl rfl | exact Or.inr rfl)) (pss_one (ps_if (pt_cmpR op_gt (pv 1) pe_int (nomark _)) (pss_cons (ps_set (i := 3) sc_law_part.nd rfl (by first | exact Or.inl rfl | exact Or.inr rfl) (pe_op op_mod (pv 0) (pv 1)))
    (pss_cons (ps_set (i := 0) sc_law_part.nd rfl (by first | exact Or.inl rfl | exact Or.inr rfl) (pv 1))
    (pss_one (ps_set (i := 1) sc_law_part.nd rfl (by first | exact Or.inl rfl | exact Or.inr rfl) (pv 3))))) pss_nil)))
    (pss_one (ps_ret (pv 0)))))), ?_⟩)
  rintro ds P hl ⟨a, b, rfl, hb, p⟩
  refine s_seq (s_asg (e_cb (a_cons (e_var rfl (a_nil (c_abs ?_))))))
  refine s_seq (s_asg (e_cb (a_cons (e_var rfl (a_nil (c_abs ?_))))))
  rw [abs_cast, abs_cast]
  refine s_seq (s_for (i_rng1 (a_cons (e_c (a_nil ⟨600, rfl, by decide, by decide, ?_⟩)))))
  refine ⟨fun i ρ O => (∃ k r, ρ = [some (.int (((eucs i (a.natAbs, b.natAbs)).1 : Nat) : Int)), some (.int (((eucs i (a.natAbs, b.natAbs)).2 : Nat) : Int)), k, r]) ∧ O = [], ⟨⟨_, _, rfl⟩, rfl⟩, ?_, ?_⟩
  · rintro i d ρ' O' hi ⟨⟨k, r, rfl⟩, rfl⟩
    have e1 : eucs (i + 1) (a.natAbs, b.natAbs) = euc (eucs i (a.natAbs, b.natAbs)) := rfl
    generalize eucs i (a.natAbs, b.natAbs) = x at *
    refine g_name (s_if (t_test (e_op (e_var rfl (e_c (r_rI0 ⟨_, rfl, fun h => ?_, fun h => ?_⟩))))))
    · have h0 : (0 : Int) < ((x.2 : Nat) : Int) := of_decide_eq_true h
      refine s_seq (s_asg (e_op (e_var rfl (e_var rfl (r_rI h0 ?_)))))
      refine s_seq (s_asg (e_var rfl ?_))
      refine s_asg (e_var rfl ?_)
      refine ⟨⟨some d, some (.int (((x.1 : Nat) : Int) % ((x.2 : Nat) : Int))), ?_⟩, rfl⟩
      rw [e1]
      unfold euc
      rw [if_pos (by omega)]
      rfl
    · have h0 : ¬ (0 : Int) < ((x.2 : Nat) : Int) := of_decide_eq_false h
      refine s_next ⟨⟨some d, r, ?_⟩, rfl⟩
      rw [e1]
      unfold euc
      rw [if_neg (by omega)]
      rfl
  · rintro ρ' O' ⟨⟨k, r, rfl⟩, rfl⟩
    refine s_ret (e_var rfl ?_)
    rw [rangeD_len, show (600 : Int).toNat = 600 from rfl, eucs_end hb]
    exact p
theorem ok_law_least (T : Txt K mg L) : FnOk Pr w K mg base CX0 2 L.f_law_least L.d_law_least ["top", "bottom"] (spP K 2 W_least) := by
  refine okP T.F_law_least sc_law_least rfl (fun cdv A outer s H E hr => ⟨_, (pss_cons (ps_set (i := 2) sc_law_least.nd rfl (by first | exact Or.inl rfl | exact Or.inr rfl) (pe_call (ok_law_part T) (hr.mono (by decide)) (by rfl) T.m_law_part T.F_law_part.kp T.b_law_part .nil pass0 (pa_cons (pv 0) (pa_cons (pv 1) pa_nil))))
    (pss_cons (ps_if (pt_cmpR op_lt (pv 1) pe_int (nomark _)) (pss_one (ps_set (i := 2) sc_law_least.nd rfl (by first | exact Or.inl rfl | exact Or.inr rfl) (pe_op op_sub pe_int (pv 2)))) pss_nil)
    (pss_one (ps_ret (pe_tup (pa_cons (pe_op op_fdivG (pv 0) (pv 2)) (pa_cons (pe_op op_fdivG (pv 1) (pv 2)) pa_nil))))))), ?_⟩)
  rintro ds P hl ⟨t, b, rfl, hb, hz, p⟩
  refine s_seq (s_asg (e_call (a_cons (e_var rfl (a_cons (e_var rfl (a_nil ⟨rfl, t, b, rfl, hz, ?_⟩)))))))
  refine s_seq (wS.mono (PS := fun o O' => o = .nx [some (.int t), some (.int b), some (.int (common t b))] ∧ O' = []) (s_if (t_test (e_op (e_var rfl (e_c (r_rI0 ⟨_, rfl, fun hn => ?_, fun hn => ?_⟩)))))) ?_)
  · refine s_asg (e_op (e_c (e_var rfl (r_rI0 ⟨?_, rfl⟩))))
    unfold common
    rw [if_pos (of_decide_eq_true hn), Int.zero_sub]
    rfl
  · refine s_next ⟨?_, rfl⟩
    unfold common
    rw [if_neg (of_decide_eq_false hn)]
    rfl
  · rintro o O' ⟨rfl, rfl⟩
    have hc := common_ne (t := t) hb
    have hcb : (common t b).natAbs < 2 ^ 300 := Nat.lt_of_le_of_lt (common_le hb) hz
    refine s_ret (e_tup (a_cons (e_op (e_var rfl (e_var rfl (r_rI (cdivG hc hcb (by decide)) ?_))))))
    refine a_cons (e_op (e_var rfl (e_var rfl (r_rI (cdivG hc hcb (by decide)) (a_nil ⟨(by show 2 ≤ 100000; decide), ?_⟩)))))
    rw [quo_num hb, quo_den hb]
    exact p
theorem ok_law_is_integer (T : Txt K mg L) : FnOk Pr w K mg base CX0 1 L.f_law_is_integer L.d_law_is_integer ["actual"] (spP K 1 W_isInt) := by
  refine okP T.F_law_is_integer sc_law_is_integer rfl (fun cdv A outer s H E hr => ⟨_, (pss_one (ps_ret (pe_and (pe_callB (r := rIsi K) call_isi rfl T.n_isinstance (by decide +kernel) (pa_cons (pv 0) (pa_cons (pe_bltn (v := .ty "int") (by rfl) T.n_int (by decide +kernel) rfl) pa_nil))) (pe_one (pe_not (pe_callB (r := rIsi K) call_isi rfl T.n_isinstance (by decide +kernel) (pa_cons (pv 0) (pa_cons (pe_bltn (v := .ty "bool") (by rfl) T.n_bool (by decide +kernel) rfl) pa_nil)))))))), ?_⟩)
  rintro ds P hl ⟨i, rfl, p⟩
  refine s_ret (e_and (e_cb (a_cons (e_var rfl (a_cons (e_c (a_nil (c_isi (.int _) (.ty _) T.kit_int_int ⟨true, rfl, fun _ => ?_, fun z => ?_⟩))))))))
  · exact e_not (e_cb (a_cons (e_var rfl (a_cons (e_c (a_nil (c_isi (.int _) (.ty _) T.kit_int_bool ⟨false, rfl, p⟩)))))))
  · cases z
theorem ok_law_is (T : Txt K mg L) : FnOk Pr w K mg base CX0 3 L.f_law_is L.d_law_is ["actual", "top", "bottom"] (spP K 3 (W_is L.C_Quotient)) := by
  refine okP T.F_law_is sc_law_is rfl (fun cdv A outer s H E hr => ⟨_, (pss_cons (ps_set (i := 3) sc_law_is.nd rfl (by first | exact Or.inl rfl | exact Or.inr rfl) (pe_call (ok_law_least T) (hr.mono (by decide)) (by rfl) T.m_law_least T.F_law_least.kp T.b_law_least .nil pass0 (pa_cons (pv 1) (pa_cons (pv 2) pa_nil))))
    (pss_one (ps_ret (pe_and (pe_call (ok_law_is_integer T) (hr.mono (by decide)) (by rfl) T.m_law_is_integer T.F_law_is_integer.kp T.b_law_is_integer .nil pass0 (pa_cons (pe_fld (pv 0) rfl) pa_nil)) (pe_and (pe_call (ok_law_is_integer T) (hr.mono (by decide)) (by rfl) T.m_law_is_integer T.F_law_is_integer.kp T.b_law_is_integer .nil pass0 (pa_cons (pe_fld (pv 0) rfl) pa_nil)) (pe_one (pe_cmpR (op_eqD (hr.units)) (pe_tup (pa_cons (pe_fld (pv 0) rfl) (pa_cons (pe_fld (pv 0) rfl) pa_nil))) (pv 3) (nomark _)))))))), ?_⟩)
  rintro ds P hl ⟨q, t, b, rfl, hb, hz, p⟩
  refine s_seq (s_asg (e_call (a_cons (e_var rfl (a_cons (e_var rfl (a_nil ⟨rfl, t, b, rfl, hb, hz, ?_⟩)))))))
  refine s_ret (e_and (e_call (a_cons (e_topv T (q := q) rfl (a_nil ⟨rfl, _, rfl, true, rfl, fun _ => ?_, fun z => ?_⟩)))))
  rotate_left
  · cases z
  refine e_and (e_call (a_cons (e_botv T (q := q) rfl (a_nil ⟨rfl, _, rfl, true, rfl, fun _ => ?_, fun z => ?_⟩))))
  rotate_left
  · cases z
  refine e_op (e_tup (a_cons (e_topv T (q := q) rfl (a_cons (e_botv T (q := q) rfl (a_nil ⟨(by show 2 ≤ 100000; decide), e_var rfl (r_eqT2 ?_)⟩))))))
  rw [q_eq]
  exact p
theorem ok_law_draws (T : Txt K mg L) : FnOk Pr w K mg base CX0 1 L.f_law_draws L.d_law_draws ["cell", "count"] (spP K 2 W_draws) := by
  refine okP T.F_law_draws sc_law_draws rfl (fun cdv A outer s H E hr => ⟨_, (pss_cons (ps_set (i := 2) sc_law_draws.nd rfl (by first | exact Or.inl rfl | exact Or.inr rfl) (pe_callB (r := rAbs) call_abs rfl T.n_abs (by decide +kernel) (pa_cons (pe_callTy (r := rInt1) call_int1 rfl T.n_int (by decide +kernel) (pa_cons (pv 0) pa_nil)) pa_nil)))
    (pss_cons (ps_set (i := 3) sc_law_draws.nd rfl (by first | exact Or.inl rfl | exact Or.inr rfl) (pe_cmpR op_ge (pv 2) (pe_op op_pow pe_int pe_int) (nomark _)))
    (pss_cons (ps_set (i := 4) sc_law_draws.nd rfl (by first | exact Or.inl rfl | exact Or.inr rfl) (pe_lst pa_nil))
    (pss_cons (ps_for PassesOwn.never rfl (pi_range1 (by rfl) T.n_range (pa_cons pe_int pa_nil)) (pg_name (i := 5) sc_law_draws.nd rfl (by first | exact Or.inl rfl | exact Or.inr rfl)) (pss_one (ps_if (PW.pt (pw_and (pt_cmpR op_lt (pv 5) (pv 1) (nomark _)) (pw_and1 (pt_val (pv 3))))) (pss_cons (ps_expr (pe_bm PySem.F.plainAttrs_list PySem.F.slot_list_append PySem.F.type_list_append mt_append (pv 4) (pa_cons (pe_op op_mod (pv 2) pe_int) pa_nil)))
    (pss_one (ps_set (i := 2) sc_law_draws.nd rfl (by first | exact Or.inl rfl | exact Or.inr rfl) (pe_op op_fdivG (pv 2) pe_int)))) (pss_one (ps_if (pt_cmpR op_lt (pv 5) (pv 1) (nomark _)) (pss_cons (ps_set (i := 6) sc_law_draws.nd rfl (by first | exact Or.inl rfl | exact Or.inr rfl) (pe_op op_mod (pe_op op_add (pe_op op_add (pe_op op_mulW (pe_callTy (r := rInt1) call_int1 rfl T.n_int (by decide +kernel) (pa_cons (pv 2) pa_nil)) pe_int) (pe_op op_mulW (pv 5) pe_int)) pe_int) pe_int))
    (pss_cons (ps_set (i := 6) sc_law_draws.nd rfl (by first | exact Or.inl rfl | exact Or.inr rfl) (pe_op op_mod (pe_op op_add (pe_op op_add (pe_op op_mulW (pe_callTy (r := rInt1) call_int1 rfl T.n_int (by decide +kernel) (pa_cons (pv 6) pa_nil)) (pe_callTy (r := rInt1) call_int1 rfl T.n_int (by decide +kernel) (pa_cons (pv 6) pa_nil))) (pe_op op_mulW (pv 5) pe_int)) pe_int) pe_int))
    (pss_one (ps_expr (pe_bm PySem.F.plainAttrs_list PySem.F.slot_list_append PySem.F.type_list_append mt_append (pv 4) (pa_cons (pe_op op_mod (pe_callTy (r := rInt1) call_int1 rfl T.n_int (by decide +kernel) (pa_cons (pv 6) pa_nil)) pe_int) pa_nil)))))) pss_nil)))))
    (pss_one (ps_ret (pv 4))))))), ?_⟩)
  rintro ds P hl ⟨c, n, rfl, h0, h60, p⟩
  refine s_seq (s_asg (e_cb (a_cons (e_cb (a_cons (e_var rfl (a_nil (c_int (a_nil (c_abs ?_))))))))))
  rw [abs_cast]
  refine s_seq (s_asg (e_op (e_var rfl (e_op (e_c (e_c (r_rI cpow18 (r_rI0 ?_))))))))
  refine s_seq (s_asg (e_lstO (a_nil ⟨by decide, fun q => ?_⟩)))
  refine s_seq (s_for (i_rng1 (a_cons (e_c (a_nil ⟨60, rfl, by decide, by decide, ?_⟩)))))
  refine ⟨fun i ρ O => (∃ (m : Int) (k x : Option D), ρ = [some (.int c), some (.int n), some (.int m), some (.bl (decide (10 ^ (18 : Int).toNat ≤ ((c.natAbs : Nat) : Int)))), some (.loc q), k, x] ∧ 0 ≤ m ∧ (¬ 10 ^ (18 : Int).toNat ≤ ((c.natAbs : Nat) : Int) → m < 10 ^ 18)) ∧ ∃ l : List Int, O = [(q, .lst (l.map fun i => D.int i))] ∧ digs l ∧ l.length = min i n.toNat, ⟨⟨_, _, _, rfl, by omega, fun h => ?_⟩, [], rfl, (fun d hd => absurd hd (by simp)), by simp⟩, ?_, ?_⟩
  · have e : (10 : Int) ^ (18 : Int).toNat = 10 ^ 18 := rfl
    rw [e] at h
    omega
  · rintro i d ρ' O' hi ⟨⟨m, k, x, rfl, hm, hsm⟩, l, rfl, hd, hl⟩
    obtain ⟨hi60, rfl⟩ := rangeD_get hi
    have hi60' : i < 60 := hi60
    have ext : ∀ v : Int, 0 ≤ v → v < 60 → (0 + (i : Int) < n) → digs (l ++ [v]) ∧ (l ++ [v]).length = min (i + 1) n.toNat := by
      intro v v0 v1 hin
      refine ⟨fun d hd' => ?_, ?_⟩
      · rcases List.mem_append.mp hd' with h | h
        · exact hd d h
        · rw [List.mem_singleton.mp h]
          exact ⟨v0, v1⟩
      · rw [List.length_append, hl]
        simp
        omega
    have put : ∀ v : Int, (l.map fun i => D.int i) ++ [D.int v] = (l ++ [v]).map fun i => D.int i := fun v => by rw [List.map_append]; rfl
    have llen : (l.map fun i => D.int i).length < 100000 := by
      rw [List.length_map, hl]
      omega
    refine g_name (s_if (t_and (t_test (e_op ?_))))
    refine e_var rfl (e_var rfl (r_rI0 ⟨_, rfl, fun hin => ?_, fun hin => ?_⟩))
    · have hin' : 0 + (i : Int) < n := of_decide_eq_true hin
      refine t_B (e_var rfl ⟨_, rfl, fun hg => ?_, fun hg => ?_⟩)
      · -- great
        refine s_seq (s_drop (e_append (e_var rfl ⟨q, _, rfl, List.mem_cons_self, ?_⟩)))
        refine e_op (e_var rfl (e_c (r_rI (by decide) ⟨_, _, llen, .here, ?_⟩)))
        refine s_asg (e_op (e_var rfl (e_c (r_rI (cdivG (n := 8) (by decide) (by decide) (by decide)) ?_))))
        rw [put]
        have hv := ext (m % 60) (Int.emod_nonneg _ (by decide)) (Int.emod_lt_of_pos _ (by decide)) hin'
        refine ⟨⟨_, _, _, rfl, ?_, fun h => ?_⟩, _, rfl, hv.1, hv.2⟩
        · rw [Int.fdiv_eq_ediv_of_nonneg _ (by decide)]
          omega
        · exact absurd (of_decide_eq_true hg) h
      · -- a small cell: mixed
        have hg' := of_decide_eq_false hg
        have hm18 := hsm hg'
        refine s_if (t_test (e_op (e_var rfl (e_var rfl (r_rI0 ⟨_, rfl, fun _ => ?_, fun hno => ?_⟩)))))
        · refine s_seq (s_asg (e_op (e_op (e_op (e_op (e_cb (a_cons (e_var rfl (a_nil (c_int (e_c (r_rI ?_ ?_))))))))))))
          · exact small_wide (by omega) (by decide)
          refine e_op (e_var rfl (e_c (r_rI ?_ (r_rI0 (e_c (r_rI0 (e_c (r_rI (by decide) ?_))))))))
          · exact small_wide (by omega) (by decide)
          have hx : ∀ y : Int, 0 ≤ y % 2147483647 ∧ y % 2147483647 < 2147483647 := fun y => ⟨Int.emod_nonneg _ (by decide), Int.emod_lt_of_pos _ (by decide)⟩
          generalize hgen : (m * 48271 + (0 + (i : Int)) * 69621 + 11) % 2147483647 = y
          have hy : 0 ≤ y ∧ y < 2147483647 := hgen ▸ hx _
          refine s_seq (s_asg (e_op (e_op (e_op (e_op (e_cb (a_cons (e_var rfl (a_nil (c_int ?_))))))))))
          refine e_cb (a_cons (e_var rfl (a_nil (c_int (r_rI ?_ ?_)))))
          · exact small_wide (by omega) (by omega)
          refine e_op (e_var rfl (e_c (r_rI ?_ (r_rI0 (e_c (r_rI0 (e_c (r_rI (by decide) ?_))))))))
          · exact small_wide (by omega) (by decide)
          generalize (y * y + (0 + (i : Int)) * 7919 + 5) % 998244353 = z
          refine s_drop (e_append (e_var rfl ⟨q, _, rfl, List.mem_cons_self, ?_⟩))
          refine e_op (e_cb (a_cons (e_var rfl (a_nil (c_int (e_c (r_rI (by decide) ⟨_, _, llen, .here, ?_⟩)))))))
          rw [put]
          have hv := ext (z % 60) (Int.emod_nonneg _ (by decide)) (Int.emod_lt_of_pos _ (by decide)) hin'
          exact ⟨⟨_, _, _, rfl, hm, hsm⟩, _, rfl, hv.1, hv.2⟩
        · exact absurd hin' (of_decide_eq_false hno)
    · have hin' : ¬ 0 + (i : Int) < n := of_decide_eq_false hin
      refine ⟨fun z => ?_, fun _ => s_if (t_test (e_op ?_))⟩
      · cases z
      refine e_var rfl (e_var rfl (r_rI0 ⟨_, rfl, fun hno => ?_, fun _ => ?_⟩))
      · exact absurd (of_decide_eq_true hno) hin'
      · exact s_next ⟨⟨_, _, _, rfl, hm, hsm⟩, l, rfl, hd, by omega⟩
  · rintro ρ' O' ⟨⟨m, k, x, rfl, hm, hsm⟩, l, rfl, hd, hl⟩
    refine s_sub (ρ' := [none, none, none, none, some (.loc q), none, none]) (.drop (.drop (.drop (.drop (.same (.drop (.drop .nil))))))) (s_frz (ρ' := [none, none, none, none, some (.lst (l.map fun i => D.int i)), none, none]) .here ?_ ?_)
    · simp [frz]
    refine s_ret (e_var rfl (p l ?_ hd))
    rw [rangeD_len] at hl
    have : (60 : Int).toNat = 60 := rfl
    omega
theorem ok_law_stream (T : Txt K mg L) : FnOk Pr w K mg base CX0 2 L.f_law_stream L.d_law_stream ["script", "first", "count"] (spW K 3 W_stream) := by
  refine okW T.F_law_stream sc_law_stream rfl (fun cdv A outer s H E hr => ⟨_, (pss_cons (ps_set (i := 3) sc_law_stream.nd rfl (by first | exact Or.inl rfl | exact Or.inr rfl) (pe_lst pa_nil))
    (pss_cons (ps_for PassesOwn.never rfl (pi_range1 (by rfl) T.n_range (pa_cons (pv 2) pa_nil)) (pg_name (i := 4) sc_law_stream.nd rfl (by first | exact Or.inl rfl | exact Or.inr rfl)) (pss_one (ps_expr (pe_bm PySem.F.plainAttrs_list PySem.F.slot_list_extend PySem.F.type_list_extend mt_extend (pv 3) (pa_cons (pe_call (ok_law_draws T) (hr.mono (by decide)) (by rfl) T.m_law_draws T.F_law_draws.kp T.b_law_draws .nil pass0 (pa_cons (pe_call (ok_law_cell T) (hr.mono (by decide)) (by rfl) T.m_law_cell T.F_law_cell.kp T.b_law_cell .nil pass0 (pa_cons (pv 0) (pa_cons (pe_op op_add (pv 1) (pv 4)) pa_nil))) (pa_cons pe_int pa_nil))) pa_nil)))))
    (pss_one (ps_ret (pe_lst (pa_cons (pv 3) (pa_cons (pe_lst (pa_cons pe_int pa_nil)) pa_nil))))))), ?_⟩)
  rintro ds O P hl ⟨ns, f, n, rfl, h0, hn0, hn1, p⟩
  refine s_seq (s_asg (e_lstO (a_nil ⟨by decide, fun q => ?_⟩)))
  refine s_seq (s_for (i_rng1 (a_cons (e_var rfl (a_nil ⟨n, rfl, by omega, by omega, ?_⟩)))))
  refine ⟨fun i ρ O' => (∃ k, ρ = [some (scr ns), some (.int f), some (.int n), some (.loc q), k]) ∧ ∃ l : List Int, O' = (q, .lst (l.map fun i => D.int i)) :: O ∧ digs l ∧ l.length = 12 * i, ⟨⟨_, rfl⟩, [], rfl, (fun d hd => absurd hd (by simp)), rfl⟩, ?_, ?_⟩
  · rintro i d ρ' O' hi ⟨⟨k, rfl⟩, l, rfl, hd, hl⟩
    obtain ⟨hin, rfl⟩ := rangeD_get hi
    refine g_name (s_drop (e_extend (e_var rfl ⟨q, _, rfl, List.mem_cons_self, ?_⟩)))
    refine e_call (a_cons (e_call (a_cons (e_var rfl (a_cons (e_op (e_var rfl (e_var rfl (r_rI0 (a_nil ⟨rfl, ns, _, rfl, by omega, a_cons (e_c (a_nil ⟨rfl, _, 12, rfl, by decide, by decide, fun m hm hdm => ?_⟩))⟩))))))))))
    refine ⟨_, _, _, rfl, ?_, .here, ⟨_, rfl⟩, l ++ m, ?_, ?_, ?_⟩
    · rw [List.length_map, List.length_map]
      omega
    · rw [List.map_append]
    · intro d hd'
      rcases List.mem_append.mp hd' with h | h
      · exact hd d h
      · exact hdm d h
    · rw [List.length_append]
      omega
  · rintro ρ' O' ⟨⟨k, rfl⟩, l, rfl, hd, hl⟩
    rw [rangeD_len] at hl
    refine s_sub (ρ' := [none, none, none, some (.loc q), none]) (.drop (.drop (.drop (.same (.drop .nil))))) (s_frz (ρ' := [none, none, none, some (.lst (l.map fun i => D.int i)), none]) .here ?_ ?_)
    · simp [frz]
    refine s_ret (e_lst (a_cons (e_var rfl (a_cons (e_lstO (a_cons (e_c (a_nil ⟨(by show 1 ≤ 100000; decide), fun pl => a_nil ⟨(by show 2 ≤ 100000; decide), ?_⟩⟩))) )))))
    exact p l pl (by omega) hd
theorem ok_law_next (T : Txt K mg L) : FnOk Pr w K mg base CX0 1 L.f_law_next L.d_law_next ["stream", "many"] (spW K 2 W_next) := by
  refine okW T.F_law_next sc_law_next rfl (fun cdv A outer s H E hr => ⟨_, (pss_cons (ps_set (i := 2) sc_law_next.nd rfl (by first | exact Or.inl rfl | exact Or.inr rfl) (pe_ix (r := rIxL K) ix_list (pv 0) pe_int (fun _ _ => rfl)))
    (pss_cons (ps_set (i := 3) sc_law_next.nd rfl (by first | exact Or.inl rfl | exact Or.inr rfl) (pe_ix (r := rIxL K) ix_list (pv 0) pe_int (fun _ _ => rfl)))
    (pss_cons (ps_set (i := 4) sc_law_next.nd rfl (by first | exact Or.inl rfl | exact Or.inr rfl) (pe_op op_mod (pe_callTy (r := rInt1) call_int1 rfl T.n_int (by decide +kernel) (pa_cons (pe_ix (r := rIxL K) ix_list (pv 2) (pe_op op_mod (pe_callTy (r := rInt1) call_int1 rfl T.n_int (by decide +kernel) (pa_cons (pe_ix (r := rIxL K) ix_list (pv 3) pe_int (fun _ _ => rfl)) pa_nil)) (pe_callB (r := Evl.rLenS K) call_len_seq rfl T.n_len (by decide +kernel) (pa_cons (pv 2) pa_nil))) (fun _ _ => rfl)) pa_nil)) (pv 1)))
    (pss_cons (ps_asg (pe_op op_add (pe_ix (r := rIxL K) ix_list (pv 3) pe_int (fun _ _ => rfl)) pe_int) (pg_sub (pv 3) pe_int set_list))
    (pss_one (ps_ret (pv 4))))))), ?_⟩)
  rintro ds O P hl ⟨l, pl, many, n, O0, rfl, hne, hd, hm, hput, p⟩
  refine s_seq (s_asg (e_op (e_var rfl (e_c (r_ixL (d := .lst (l.map fun i => D.int i)) rfl ?_)))))
  refine s_seq (s_asg (e_op (e_var rfl (e_c (r_ixL (d := .loc pl) rfl ?_)))))
  obtain ⟨d, hdm, hat⟩ := atI_emod hne n
  have hdd := hd d hdm
  refine s_seq (s_asg (e_op (e_cb (a_cons (e_op (e_var rfl (e_op (e_cb (a_cons (e_op (e_var rfl (e_c (r_ixO (hput 0).mem (d := .int n) rfl (a_nil (c_int ?_)))))))))))))))
  refine e_cb (a_cons (e_var rfl (a_nil (c_len (.inl rfl) (r_rI ?_ ?_)))))
  · rw [List.length_map]
    have := List.length_pos_iff.mpr hne
    omega
  rw [List.length_map]
  refine r_ixL hat (a_nil (c_int (e_var rfl (r_rI hm ?_))))
  refine s_seq (s_setL (e_op (e_op (e_var rfl (e_c (r_ixO (hput 0).mem (d := .int n) rfl (e_c (r_rI0 ?_))))))))
  refine e_var rfl (e_c ⟨pl, 0, _, 0, _, rfl, rfl, rfl, hput (n + 1), ?_⟩)
  refine s_ret (e_var rfl (p _ _ (Int.emod_nonneg _ (by omega)) (Int.emod_lt_of_pos _ hm) ?_))
  by_cases hlt : d < many
  · rw [Int.emod_eq_of_lt hdd.1 hlt]
    exact hdd.2
  · have := Int.emod_lt_of_pos d hm
    omega
theorem ok_black (T : Txt K mg L) : FnOk Pr w K mg base CX0 5 L.f_black L.d_black [] (spP K 0 (W_v0 L.C_Quotient)) := by
  refine okP T.F_black sc_black rfl (fun cdv A outer s H E hr => ⟨_, (pss_one (ps_ret (pe_tup (pa_cons (pe_call0 (ok_zero T) (hr.mono (by decide)) (by rfl) T.m_zero T.F_zero.kp T.b_zero .nil pass0) (pa_cons (pe_call0 (ok_zero T) (hr.mono (by decide)) (by rfl) T.m_zero T.F_zero.kp T.b_zero .nil pass0) (pa_cons (pe_call0 (ok_zero T) (hr.mono (by decide)) (by rfl) T.m_zero T.F_zero.kp T.b_zero .nil pass0) pa_nil)))))), ?_⟩)
  rintro ds P hl ⟨rfl, p⟩
  exact s_ret (e_tup (a_cons (e_call (a_nil ⟨rfl, rfl, a_cons (e_call (a_nil ⟨rfl, rfl, a_cons (e_call (a_nil ⟨rfl, rfl, a_nil ⟨(by show 3 ≤ 100000; decide), p⟩⟩))⟩))⟩))))
theorem ok_det (T : Txt K mg L) : FnOk Pr w K mg base CX0 4 L.f_det L.d_det ["first", "second", "third"] (spP K 3 (W_det L.C_Quotient)) := by
  refine okP T.F_det sc_det rfl (fun cdv A outer s H E hr => ⟨_, (pss_cons (ps_asg (pv 0) (pg_tup (by rfl) (pgs_cons (pg_name (i := 3) sc_det.nd rfl (by first | exact Or.inl rfl | exact Or.inr rfl)) (pgs_cons (pg_name (i := 4) sc_det.nd rfl (by first | exact Or.inl rfl | exact Or.inr rfl)) (pgs_cons (pg_name (i := 5) sc_det.nd rfl (by first | exact Or.inl rfl | exact Or.inr rfl)) pgs_nil)))))
    (pss_cons (ps_asg (pv 1) (pg_tup (by rfl) (pgs_cons (pg_name (i := 6) sc_det.nd rfl (by first | exact Or.inl rfl | exact Or.inr rfl)) (pgs_cons (pg_name (i := 7) sc_det.nd rfl (by first | exact Or.inl rfl | exact Or.inr rfl)) (pgs_cons (pg_name (i := 8) sc_det.nd rfl (by first | exact Or.inl rfl | exact Or.inr rfl)) pgs_nil)))))
    (pss_cons (ps_asg (pv 2) (pg_tup (by rfl) (pgs_cons (pg_name (i := 9) sc_det.nd rfl (by first | exact Or.inl rfl | exact Or.inr rfl)) (pgs_cons (pg_name (i := 10) sc_det.nd rfl (by first | exact Or.inl rfl | exact Or.inr rfl)) (pgs_cons (pg_name (i := 11) sc_det.nd rfl (by first | exact Or.inl rfl | exact Or.inr rfl)) pgs_nil)))))
    (pss_one (ps_ret (pe_op (op_own (ok_Quotient_add T) (hr.mono (by decide)) T.b_Quotient_add pass0 T.sf_Quotient T.fi_Quotient_add T.fn_Quotient_add) (pe_op (op_own (ok_Quotient_sub T) (hr.mono (by decide)) T.b_Quotient_sub pass0 T.sf_Quotient T.fi_Quotient_sub T.fn_Quotient_sub) (pe_op (op_own (ok_Quotient_mul T) (hr.mono (by decide)) T.b_Quotient_mul pass0 T.sf_Quotient T.fi_Quotient_mul T.fn_Quotient_mul) (pv 3) (pe_op (op_own (ok_Quotient_sub T) (hr.mono (by decide)) T.b_Quotient_sub pass0 T.sf_Quotient T.fi_Quotient_sub T.fn_Quotient_sub) (pe_op (op_own (ok_Quotient_mul T) (hr.mono (by decide)) T.b_Quotient_mul pass0 T.sf_Quotient T.fi_Quotient_mul T.fn_Quotient_mul) (pv 7) (pv 11)) (pe_op (op_own (ok_Quotient_mul T) (hr.mono (by decide)) T.b_Quotient_mul pass0 T.sf_Quotient T.fi_Quotient_mul T.fn_Quotient_mul) (pv 8) (pv 10)))) (pe_op (op_own (ok_Quotient_mul T) (hr.mono (by decide)) T.b_Quotient_mul pass0 T.sf_Quotient T.fi_Quotient_mul T.fn_Quotient_mul) (pv 4) (pe_op (op_own (ok_Quotient_sub T) (hr.mono (by decide)) T.b_Quotient_sub pass0 T.sf_Quotient T.fi_Quotient_sub T.fn_Quotient_sub) (pe_op (op_own (ok_Quotient_mul T) (hr.mono (by decide)) T.b_Quotient_mul pass0 T.sf_Quotient T.fi_Quotient_mul T.fn_Quotient_mul) (pv 6) (pv 11)) (pe_op (op_own (ok_Quotient_mul T) (hr.mono (by decide)) T.b_Quotient_mul pass0 T.sf_Quotient T.fi_Quotient_mul T.fn_Quotient_mul) (pv 8) (pv 9))))) (pe_op (op_own (ok_Quotient_mul T) (hr.mono (by decide)) T.b_Quotient_mul pass0 T.sf_Quotient T.fi_Quotient_mul T.fn_Quotient_mul) (pv 5) (pe_op (op_own (ok_Quotient_sub T) (hr.mono (by decide)) T.b_Quotient_sub pass0 T.sf_Quotient T.fi_Quotient_sub T.fn_Quotient_sub) (pe_op (op_own (ok_Quotient_mul T) (hr.mono (by decide)) T.b_Quotient_mul pass0 T.sf_Quotient T.fi_Quotient_mul T.fn_Quotient_mul) (pv 6) (pv 10)) (pe_op (op_own (ok_Quotient_mul T) (hr.mono (by decide)) T.b_Quotient_mul pass0 T.sf_Quotient T.fi_Quotient_mul T.fn_Quotient_mul) (pv 7) (pv 9)))))))))), ?_⟩)
  rintro ds P hl ⟨u, v, t, m, rfl, hu, hv, ht, hm, p⟩
  obtain ⟨u1, u2, u3⟩ := hu
  obtain ⟨v1, v2, v3⟩ := hv
  obtain ⟨t1, t2, t3⟩ := ht
  refine s_seq (s_asgG (e_var rfl (g_tup rfl (gs_cons' (g_name (gs_cons' (g_name (gs_cons' (g_name (gs_nil' ?_))))))))))
  refine s_seq (s_asgG (e_var rfl (g_tup rfl (gs_cons' (g_name (gs_cons' (g_name (gs_cons' (g_name (gs_nil' ?_))))))))))
  refine s_seq (s_asgG (e_var rfl (g_tup rfl (gs_cons' (g_name (gs_cons' (g_name (gs_cons' (g_name (gs_nil' ?_))))))))))
  refine s_rho (ρ' := [some (dV L.C_Quotient u), some (dV L.C_Quotient v), some (dV L.C_Quotient t), some (dQ L.C_Quotient u.x), some (dQ L.C_Quotient u.y), some (dQ L.C_Quotient u.z), some (dQ L.C_Quotient v.x), some (dQ L.C_Quotient v.y), some (dQ L.C_Quotient v.z), some (dQ L.C_Quotient t.x), some (dQ L.C_Quotient t.y), some (dQ L.C_Quotient t.z)]) rfl ?_
  refine s_ret ?_
  repeat walk_at "qv"
  exact p
theorem ok_scaled (T : Txt K mg L) : FnOk Pr w K mg base CX0 4 L.f_scaled L.d_scaled ["factor", "vector"] (spP K 2 (W_scaled L.C_Quotient)) := by
  refine okP T.F_scaled sc_scaled rfl (fun cdv A outer s H E hr => ⟨_, (pss_one (ps_ret (pe_callTy (r := rTupOf K) call_tuple_of rfl T.n_tuple (by decide +kernel) (pa_cons (pe_lc (own := [("part", 2)]) (g := gName 2) rfl sc_scaled.nd (pi_tup (pv 1)) (blkOk_by (own := [("part", 2)]) (N := N_scaled) (sc := defScope s_scaled) (by decide +kernel)) (fun _ _ _ _ _ => (pg_name (i := 2) sc_scaled.nd rfl (by first | exact Or.inl rfl | exact Or.inr rfl))) (fun _ _ _ _ _ => pts_nil) (fun _ _ _ _ _ => (pe_op (op_own (ok_Quotient_mul T) (hr.mono (by decide)) T.b_Quotient_mul pass0 T.sf_Quotient T.fi_Quotient_mul T.fn_Quotient_mul) (pv 0) (pv 2)))) pa_nil)))), ?_⟩)
  rintro ds P hl ⟨q, v, m, n, rfl, hq, ⟨v1, v2, v3⟩, hm, p⟩
  refine s_ret (e_cb (a_cons (e_lcM (go_name (by decide)) gm_name (i_tup (e_var rfl ⟨_, rfl, (by show 3 < 90000; decide), [dQ L.C_Quotient (q * v.x), dQ L.C_Quotient (q * v.y), dQ L.C_Quotient (q * v.z)], rfl, step3 ?_ ?_ ?_, a_nil (c_tup p)⟩)))))
  · exact g_name ⟨rfl, e_op (e_var rfl (e_var rfl (r_own ⟨_, _, _, _, rfl, hq, v1, hm, rfl, rfl⟩)))⟩
  · exact g_name ⟨rfl, e_op (e_var rfl (e_var rfl (r_own ⟨_, _, _, _, rfl, hq, v2, hm, rfl, rfl⟩)))⟩
  · exact g_name ⟨rfl, e_op (e_var rfl (e_var rfl (r_own ⟨_, _, _, _, rfl, hq, v3, hm, rfl, rfl⟩)))⟩
theorem ok_added (T : Txt K mg L) : FnOk Pr w K mg base CX0 4 L.f_added L.d_added ["first", "second"] (spP K 2 (W_v2 L.C_Quotient addV)) := by
  refine okP T.F_added sc_added rfl (fun cdv A outer s H E hr => ⟨_, (pss_one (ps_ret (pe_callTy (r := rTupOf K) call_tuple_of rfl T.n_tuple (by decide +kernel) (pa_cons (pe_lc (own := [("part", 2), ("other", 3)]) (g := gTup K 2 (gCons (gName 2) (gCons (gName 3) gNil))) rfl sc_added.nd (RZ.pi_zipA (by rfl) T.n_zip (pa_cons (pv 0) (pa_cons (pv 1) pa_nil))) (blkOk_by (own := [("part", 2), ("other", 3)]) (N := N_added) (sc := defScope s_added) (by decide +kernel)) (fun _ _ _ _ _ => (by exact (pg_tup (by rfl) (pgs_cons (pg_name (i := 2) sc_added.nd rfl (by first | exact Or.inl rfl | exact Or.inr rfl)) (pgs_cons (pg_name (i := 3) sc_added.nd rfl (by first | exact Or.inl rfl | exact Or.inr rfl)) pgs_nil))))) (fun _ _ _ _ _ => pts_nil) (fun _ _ _ _ _ => (pe_op (op_own (ok_Quotient_add T) (hr.mono (by decide)) T.b_Quotient_add pass0 T.sf_Quotient T.fi_Quotient_add T.fn_Quotient_add) (pv 2) (pv 3)))) pa_nil)))), ?_⟩)
  rintro ds P hl ⟨u, v, m, n, rfl, ⟨u1, u2, u3⟩, ⟨v1, v2, v3⟩, hm, p⟩
  refine s_ret (e_cb (a_cons (e_lcM (go_two (by decide) (by decide)) gm_two (i_zip (a_cons (e_var rfl (a_cons (e_var rfl (a_nil ⟨_, _, .inl rfl, (by show 3 < 90000; decide), [dQ L.C_Quotient (u.x + v.x), dQ L.C_Quotient (u.y + v.y), dQ L.C_Quotient (u.z + v.z)], rfl, step3 ?_ ?_ ?_, a_nil (c_tup p)⟩)))))))))
  · exact g_tup rfl (gs_cons' (g_name (gs_cons' (g_name (gs_nil' ⟨rfl, e_op (e_var rfl (e_var rfl (r_own ⟨_, _, _, _, rfl, u1, v1, hm, rfl, rfl⟩)))⟩)))))
  · exact g_tup rfl (gs_cons' (g_name (gs_cons' (g_name (gs_nil' ⟨rfl, e_op (e_var rfl (e_var rfl (r_own ⟨_, _, _, _, rfl, u2, v2, hm, rfl, rfl⟩)))⟩)))))
  · exact g_tup rfl (gs_cons' (g_name (gs_cons' (g_name (gs_nil' ⟨rfl, e_op (e_var rfl (e_var rfl (r_own ⟨_, _, _, _, rfl, u3, v3, hm, rfl, rfl⟩)))⟩)))))
theorem ok_taken (T : Txt K mg L) : FnOk Pr w K mg base CX0 4 L.f_taken L.d_taken ["first", "second"] (spP K 2 (W_v2 L.C_Quotient subV)) := by
  refine okP T.F_taken sc_taken rfl (fun cdv A outer s H E hr => ⟨_, (pss_one (ps_ret (pe_callTy (r := rTupOf K) call_tuple_of rfl T.n_tuple (by decide +kernel) (pa_cons (pe_lc (own := [("part", 2), ("other", 3)]) (g := gTup K 2 (gCons (gName 2) (gCons (gName 3) gNil))) rfl sc_taken.nd (RZ.pi_zipA (by rfl) T.n_zip (pa_cons (pv 0) (pa_cons (pv 1) pa_nil))) (blkOk_by (own := [("part", 2), ("other", 3)]) (N := N_taken) (sc := defScope s_taken) (by decide +kernel)) (fun _ _ _ _ _ => (by exact (pg_tup (by rfl) (pgs_cons (pg_name (i := 2) sc_taken.nd rfl (by first | exact Or.inl rfl | exact Or.inr rfl)) (pgs_cons (pg_name (i := 3) sc_taken.nd rfl (by first | exact Or.inl rfl | exact Or.inr rfl)) pgs_nil))))) (fun _ _ _ _ _ => pts_nil) (fun _ _ _ _ _ => (pe_op (op_own (ok_Quotient_sub T) (hr.mono (by decide)) T.b_Quotient_sub pass0 T.sf_Quotient T.fi_Quotient_sub T.fn_Quotient_sub) (pv 2) (pv 3)))) pa_nil)))), ?_⟩)
  rintro ds P hl ⟨u, v, m, n, rfl, ⟨u1, u2, u3⟩, ⟨v1, v2, v3⟩, hm, p⟩
  refine s_ret (e_cb (a_cons (e_lcM (go_two (by decide) (by decide)) gm_two (i_zip (a_cons (e_var rfl (a_cons (e_var rfl (a_nil ⟨_, _, .inl rfl, (by show 3 < 90000; decide), [dQ L.C_Quotient (u.x - v.x), dQ L.C_Quotient (u.y - v.y), dQ L.C_Quotient (u.z - v.z)], rfl, step3 ?_ ?_ ?_, a_nil (c_tup p)⟩)))))))))
  · exact g_tup rfl (gs_cons' (g_name (gs_cons' (g_name (gs_nil' ⟨rfl, e_op (e_var rfl (e_var rfl (r_own ⟨_, _, _, _, rfl, u1, v1, hm, rfl, rfl⟩)))⟩)))))
  · exact g_tup rfl (gs_cons' (g_name (gs_cons' (g_name (gs_nil' ⟨rfl, e_op (e_var rfl (e_var rfl (r_own ⟨_, _, _, _, rfl, u2, v2, hm, rfl, rfl⟩)))⟩)))))
  · exact g_tup rfl (gs_cons' (g_name (gs_cons' (g_name (gs_nil' ⟨rfl, e_op (e_var rfl (e_var rfl (r_own ⟨_, _, _, _, rfl, u3, v3, hm, rfl, rfl⟩)))⟩)))))
theorem ok_sum_of (T : Txt K mg L) : FnOk Pr w K mg base CX0 6 L.f_sum_of L.d_sum_of ["vectors"] (spP K 1 (W_sumV L.C_Quotient)) := by
  refine okP T.F_sum_of sc_sum_of rfl (fun cdv A outer s H E hr => ⟨_, (pss_cons (ps_set (i := 1) sc_sum_of.nd rfl (by first | exact Or.inl rfl | exact Or.inr rfl) (pe_call0 (ok_black T) (hr.mono (by decide)) (by rfl) T.m_black T.F_black.kp T.b_black .nil pass0))
    (pss_cons (ps_for PassesOwn.never rfl (pi_seq (pv 0)) (pg_name (i := 2) sc_sum_of.nd rfl (by first | exact Or.inl rfl | exact Or.inr rfl)) (pss_one (ps_set (i := 1) sc_sum_of.nd rfl (by first | exact Or.inl rfl | exact Or.inr rfl) (pe_call (ok_added T) (hr.mono (by decide)) (by rfl) T.m_added T.F_added.kp T.b_added .nil pass0 (pa_cons (pv 1) (pa_cons (pv 2) pa_nil))))))
    (pss_one (ps_ret (pv 1))))), ?_⟩)
  rintro ds P hl ⟨vs, m, hds, hb, hm, p⟩
  have hd : ∃ d, ds = [d] ∧ (d = .lst (vs.map (dV L.C_Quotient)) ∨ d = .tup (vs.map (dV L.C_Quotient))) := by
    rcases hds with rfl | rfl
    · exact ⟨_, rfl, .inl rfl⟩
    · exact ⟨_, rfl, .inr rfl⟩
  obtain ⟨d, rfl, hd⟩ := hd
  refine s_seq (s_asg (e_call (a_nil ⟨rfl, rfl, ?_⟩)))
  refine s_seq (s_for (i_seq (e_var rfl ⟨_, hd, ?_⟩)))
  refine ⟨fun i ρ O => (∃ x, ρ = [some d, some (dV L.C_Quotient (sumV (vs.take i))), x]) ∧ O = [], ⟨⟨_, rfl⟩, rfl⟩, ?_, ?_⟩
  · rintro i x ρ' O' hi ⟨⟨y, rfl⟩, rfl⟩
    rw [List.getElem?_map] at hi
    cases hq : vs[i]? with
    | none => rw [hq] at hi; cases hi
    | some q =>
      rw [hq] at hi
      cases hi
      have hlt := (List.getElem?_eq_some_iff.mp hq).1
      refine g_name (s_asg (e_call (a_cons (e_var rfl (a_cons (e_var rfl (a_nil ⟨rfl, _, _, _, _, rfl, bitsV_sum vs i hb (by omega), hb q (List.mem_of_getElem? hq), ?_, ?_⟩)))))))
      · have : (m + 1) * i ≤ (m + 1) * vs.length := Nat.mul_le_mul_left _ (by omega)
        rw [Nat.mul_succ] at hm
        omega
      · refine ⟨⟨some (dV L.C_Quotient q), ?_⟩, rfl⟩
        rw [sumV_take hq]
        rfl
  · rintro ρ' O' ⟨⟨y, rfl⟩, rfl⟩
    rw [List.length_map, List.take_length]
    exact s_ret (e_var rfl p)
theorem ok_law_det (T : Txt K mg L) : FnOk Pr w K mg base CX0 1 L.f_law_det L.d_law_det ["a", "b", "c"] (spP K 3 (W_ldet lRow)) := by
  refine okP T.F_law_det sc_law_det rfl (fun cdv A outer s H E hr => ⟨_, (pss_one (ps_ret (pe_op op_add (pe_op op_sub (pe_op op_mulW (pe_ix (r := rIxL K) ix_list (pv 0) pe_int (fun _ _ => rfl)) (pe_op op_sub (pe_op op_mulW (pe_ix (r := rIxL K) ix_list (pv 1) pe_int (fun _ _ => rfl)) (pe_ix (r := rIxL K) ix_list (pv 2) pe_int (fun _ _ => rfl))) (pe_op op_mulW (pe_ix (r := rIxL K) ix_list (pv 1) pe_int (fun _ _ => rfl)) (pe_ix (r := rIxL K) ix_list (pv 2) pe_int (fun _ _ => rfl))))) (pe_op op_mulW (pe_ix (r := rIxL K) ix_list (pv 0) pe_int (fun _ _ => rfl)) (pe_op op_sub (pe_op op_mulW (pe_ix (r := rIxL K) ix_list (pv 1) pe_int (fun _ _ => rfl)) (pe_ix (r := rIxL K) ix_list (pv 2) pe_int (fun _ _ => rfl))) (pe_op op_mulW (pe_ix (r := rIxL K) ix_list (pv 1) pe_int (fun _ _ => rfl)) (pe_ix (r := rIxL K) ix_list (pv 2) pe_int (fun _ _ => rfl)))))) (pe_op op_mulW (pe_ix (r := rIxL K) ix_list (pv 0) pe_int (fun _ _ => rfl)) (pe_op op_sub (pe_op op_mulW (pe_ix (r := rIxL K) ix_list (pv 1) pe_int (fun _ _ => rfl)) (pe_ix (r := rIxL K) ix_list (pv 2) pe_int (fun _ _ => rfl))) (pe_op op_mulW (pe_ix (r := rIxL K) ix_list (pv 1) pe_int (fun _ _ => rfl)) (pe_ix (r := rIxL K) ix_list (pv 2) pe_int (fun _ _ => rfl)))))))), ?_⟩)
  rintro ds P hl ⟨a, b, c, rfl, ⟨a1, a2, a3⟩, ⟨b1, b2, b3⟩, ⟨c1, c2, c3⟩, p⟩
  have h1 := two_mul_lt b2 c3 b3 c2
  have h2 := two_mul_lt b1 c3 b3 c1
  have h3 := two_mul_lt b1 c2 b2 c1
  refine s_ret ?_
  repeat walk_at "ii"
  exact p
theorem ok_law (T : Txt K mg L) : FnOk Pr w K mg base CX0 7 L.f_law L.d_law ["script"] (spLaw K) := by
  refine okLaw T.F_law sc_law rfl (fun cdv A outer s H E hr => ⟨_, (pss_cons (ps_set (i := 1) sc_law.nd rfl (by first | exact Or.inl rfl | exact Or.inr rfl) (pe_call (ok_law_stream T) (hr.mono (by decide)) (by rfl) T.m_law_stream T.F_law_stream.kp T.b_law_stream .nil pass0 (pa_cons (pv 0) (pa_cons pe_int (pa_cons pe_int pa_nil)))))
    (pss_cons (ps_set (i := 2) sc_law.nd rfl (by first | exact Or.inl rfl | exact Or.inr rfl) (pe_lst pa_nil))
    (pss_cons (ps_for PassesOwn.never rfl (pi_range1 (by rfl) T.n_range (pa_cons pe_int pa_nil)) (pg_name (i := 3) sc_law.nd rfl (by first | exact Or.inl rfl | exact Or.inr rfl)) (pss_one (ps_expr (pe_bm PySem.F.plainAttrs_list PySem.F.slot_list_append PySem.F.type_list_append mt_append (pv 2) (pa_cons (pe_lst (pa_cons (pe_op op_sub (pe_call (ok_law_next T) (hr.mono (by decide)) (by rfl) T.m_law_next T.F_law_next.kp T.b_law_next .nil pass0 (pa_cons (pv 1) (pa_cons pe_int pa_nil))) pe_int) (pa_cons (pe_op op_sub (pe_call (ok_law_next T) (hr.mono (by decide)) (by rfl) T.m_law_next T.F_law_next.kp T.b_law_next .nil pass0 (pa_cons (pv 1) (pa_cons pe_int pa_nil))) pe_int) (pa_cons (pe_op op_sub (pe_call (ok_law_next T) (hr.mono (by decide)) (by rfl) T.m_law_next T.F_law_next.kp T.b_law_next .nil pass0 (pa_cons (pv 1) (pa_cons pe_int pa_nil))) pe_int) pa_nil)))) pa_nil)))))
    (pss_cons (ps_set (i := 4) sc_law.nd rfl (by first | exact Or.inl rfl | exact Or.inr rfl) (pe_op op_add pe_int (pe_call (ok_law_next T) (hr.mono (by decide)) (by rfl) T.m_law_next T.F_law_next.kp T.b_law_next .nil pass0 (pa_cons (pv 1) (pa_cons pe_int pa_nil)))))
    (pss_cons (ps_setLc (i := 5) (own := [("row", 11)]) (g := gName 11) rfl sc_law.nd rfl rfl (sw_true rfl rfl rfl (by decide +kernel)) (pi_list (pv 2)) (blkOk_by (own := [("row", 11)]) (N := N_law) (sc := defScope s_law) (by decide +kernel)) (fun _ _ _ _ _ => (pg_name (i := 11) sc_law.nd rfl (by first | exact Or.inl rfl | exact Or.inr rfl))) (fun _ _ _ _ _ => pts_nil) (fun _ _ _ _ _ => (pe_callTy (r := rTupOf K) call_tuple_of rfl T.n_tuple (by decide +kernel) (pa_cons (pe_lc (own := [("value", 12)]) (wi := iList K (tVar 11)) (g := gName 12) rfl sc_law.nd (pi_list (pv 11)) (blkOk_by (own := [("value", 12)]) (by first | decide +kernel | rfl)) (fun _ _ _ _ _ => (pg_name (i := 12) sc_law.nd rfl (by first | exact Or.inl rfl | exact Or.inr rfl))) (fun _ _ _ _ _ => pts_nil) (fun _ _ _ _ _ => (pe_make T.mk_Quotient (ok_Quotient_init T) (hr.mono (by decide)) (by rfl) T.mg_Quotient T.b_Quotient_init .nil passL (pa_cons (pv 12) (pa_cons (pv 4) pa_nil))))) pa_nil))))
    (pss_cons (ps_asg (pv 5) (pg_lst (by rfl) (pgs_cons (pg_name (i := 6) sc_law.nd rfl (by first | exact Or.inl rfl | exact Or.inr rfl)) (pgs_cons (pg_name (i := 7) sc_law.nd rfl (by first | exact Or.inl rfl | exact Or.inr rfl)) (pgs_cons (pg_name (i := 8) sc_law.nd rfl (by first | exact Or.inl rfl | exact Or.inr rfl)) (pgs_cons (pg_name (i := 9) sc_law.nd rfl (by first | exact Or.inl rfl | exact Or.inr rfl)) pgs_nil))))))
    (pss_cons (ps_set (i := 10) sc_law.nd rfl (by first | exact Or.inl rfl | exact Or.inr rfl) (pe_call (ok_law_det T) (hr.mono (by decide)) (by rfl) T.m_law_det T.F_law_det.kp T.b_law_det .nil pass0 (pa_cons (pe_ix (r := rIxL K) ix_list (pv 2) pe_int (fun _ _ => rfl)) (pa_cons (pe_ix (r := rIxL K) ix_list (pv 2) pe_int (fun _ _ => rfl)) (pa_cons (pe_ix (r := rIxL K) ix_list (pv 2) pe_int (fun _ _ => rfl)) pa_nil)))))
    (pss_cons (ps_if (pt_not (pt_val (pe_call (ok_law_is T) (hr.mono (by decide)) (by rfl) T.m_law_is T.F_law_is.kp T.b_law_is .nil pass0 (pa_cons (pe_call (ok_det T) (hr.mono (by decide)) (by rfl) T.m_det T.F_det.kp T.b_det .nil pass0 (pa_cons (pv 6) (pa_cons (pv 7) (pa_cons (pv 8) pa_nil)))) (pa_cons (pv 10) (pa_cons (pe_op op_mulW (pe_op op_mulW (pv 4) (pv 4)) (pv 4)) pa_nil)))))) (pss_one (ps_ret pe_bl)) pss_nil)
    (pss_cons (ps_if (PW.pt (pw_or (pt_not (pt_cmpR (op_cmpOwn (op := .Eq) (ok_Quotient_eq T) (hr.mono (by decide)) T.b_Quotient_eq pass0 T.fi_Quotient_eq T.fn_Quotient_eq (fun _ _ => rfl)) (pe_call (ok_det T) (hr.mono (by decide)) (by rfl) T.m_det T.F_det.kp T.b_det .nil pass0 (pa_cons (pv 7) (pa_cons (pv 6) (pa_cons (pv 8) pa_nil)))) (pe_un (un_own (ok_Quotient_neg T) (hr.mono (by decide)) T.b_Quotient_neg pass0 T.fi_Quotient_neg T.fn_Quotient_neg) (pe_call (ok_det T) (hr.mono (by decide)) (by rfl) T.m_det T.F_det.kp T.b_det .nil pass0 (pa_cons (pv 6) (pa_cons (pv 7) (pa_cons (pv 8) pa_nil))))) (nomark _))) (pw_or (pt_not (pt_val (pe_call (ok_law_is T) (hr.mono (by decide)) (by rfl) T.m_law_is T.F_law_is.kp T.b_law_is .nil pass0 (pa_cons (pe_call (ok_det T) (hr.mono (by decide)) (by rfl) T.m_det T.F_det.kp T.b_det .nil pass0 (pa_cons (pv 6) (pa_cons (pv 7) (pa_cons (pv 6) pa_nil)))) (pa_cons pe_int (pa_cons pe_int pa_nil)))))) (pw_or1 (pt_not (pt_cmpR (op_cmpOwn (op := .Eq) (ok_Quotient_eq T) (hr.mono (by decide)) T.b_Quotient_eq pass0 T.fi_Quotient_eq T.fn_Quotient_eq (fun _ _ => rfl)) (pe_call (ok_det T) (hr.mono (by decide)) (by rfl) T.m_det T.F_det.kp T.b_det .nil pass0 (pa_cons (pv 7) (pa_cons (pv 8) (pa_cons (pv 6) pa_nil)))) (pe_call (ok_det T) (hr.mono (by decide)) (by rfl) T.m_det T.F_det.kp T.b_det .nil pass0 (pa_cons (pv 6) (pa_cons (pv 7) (pa_cons (pv 8) pa_nil)))) (nomark _))))))) (pss_one (ps_ret pe_bl)) pss_nil)
    (pss_cons (ps_for PassesOwn.never rfl (pi_range1 (by rfl) T.n_range (pa_cons pe_int pa_nil)) (pg_name (i := 3) sc_law.nd rfl (by first | exact Or.inl rfl | exact Or.inr rfl)) (pss_cons (ps_if (PW.pt (pw_or (pt_not (pt_val (pe_call (ok_law_is T) (hr.mono (by decide)) (by rfl) T.m_law_is T.F_law_is.kp T.b_law_is .nil pass0 (pa_cons (pe_ix (r := rIxT K) ix_tup (pe_call (ok_added T) (hr.mono (by decide)) (by rfl) T.m_added T.F_added.kp T.b_added .nil pass0 (pa_cons (pv 6) (pa_cons (pv 7) pa_nil))) (pv 3) (fun _ _ => rfl)) (pa_cons (pe_op op_add (pe_ix (r := rIxL K) ix_list (pe_ix (r := rIxL K) ix_list (pv 2) pe_int (fun _ _ => rfl)) (pv 3) (fun _ _ => rfl)) (pe_ix (r := rIxL K) ix_list (pe_ix (r := rIxL K) ix_list (pv 2) pe_int (fun _ _ => rfl)) (pv 3) (fun _ _ => rfl))) (pa_cons (pv 4) pa_nil)))))) (pw_or1 (pt_not (pt_val (pe_call (ok_law_is T) (hr.mono (by decide)) (by rfl) T.m_law_is T.F_law_is.kp T.b_law_is .nil pass0 (pa_cons (pe_ix (r := rIxT K) ix_tup (pe_call (ok_taken T) (hr.mono (by decide)) (by rfl) T.m_taken T.F_taken.kp T.b_taken .nil pass0 (pa_cons (pv 6) (pa_cons (pv 7) pa_nil))) (pv 3) (fun _ _ => rfl)) (pa_cons (pe_op op_sub (pe_ix (r := rIxL K) ix_list (pe_ix (r := rIxL K) ix_list (pv 2) pe_int (fun _ _ => rfl)) (pv 3) (fun _ _ => rfl)) (pe_ix (r := rIxL K) ix_list (pe_ix (r := rIxL K) ix_list (pv 2) pe_int (fun _ _ => rfl)) (pv 3) (fun _ _ => rfl))) (pa_cons (pv 4) pa_nil))))))))) (pss_one (ps_ret pe_bl)) pss_nil)
    (pss_cons (ps_if (pt_not (pt_val (pe_call (ok_law_is T) (hr.mono (by decide)) (by rfl) T.m_law_is T.F_law_is.kp T.b_law_is .nil pass0 (pa_cons (pe_ix (r := rIxT K) ix_tup (pe_call (ok_scaled T) (hr.mono (by decide)) (by rfl) T.m_scaled T.F_scaled.kp T.b_scaled .nil pass0 (pa_cons (pe_make T.mk_Quotient (ok_Quotient_init T) (hr.mono (by decide)) (by rfl) T.mg_Quotient T.b_Quotient_init .nil passL (pa_cons pe_int (pa_cons pe_int pa_nil))) (pa_cons (pv 6) pa_nil))) (pv 3) (fun _ _ => rfl)) (pa_cons (pe_op op_mulW pe_int (pe_ix (r := rIxL K) ix_list (pe_ix (r := rIxL K) ix_list (pv 2) pe_int (fun _ _ => rfl)) (pv 3) (fun _ _ => rfl))) (pa_cons (pe_op op_mulW pe_int (pv 4)) pa_nil)))))) (pss_one (ps_ret pe_bl)) pss_nil)
    (pss_one (ps_if (PW.pt (pw_or (pt_not (pt_val (pe_call (ok_law_is T) (hr.mono (by decide)) (by rfl) T.m_law_is T.F_law_is.kp T.b_law_is .nil pass0 (pa_cons (pe_ix (r := rIxT K) ix_tup (pe_call (ok_sum_of T) (hr.mono (by decide)) (by rfl) T.m_sum_of T.F_sum_of.kp T.b_sum_of .nil pass0 (pa_cons (pv 5) pa_nil)) (pv 3) (fun _ _ => rfl)) (pa_cons (pe_callB (r := rSum K) (cr_sum rfl) rfl T.n_sum (by decide +kernel) (pa_cons (pe_lc (own := [("row", 11)]) (g := gName 11) rfl sc_law.nd (pi_list (pv 2)) (blkOk_by (own := [("row", 11)]) (N := N_law) (sc := defScope s_law) (by decide +kernel)) (fun _ _ _ _ _ => (pg_name (i := 11) sc_law.nd rfl (by first | exact Or.inl rfl | exact Or.inr rfl))) (fun _ _ _ _ _ => pts_nil) (fun _ _ _ _ _ => (pe_ix (r := rIxL K) ix_list (pv 11) (pv 3) (fun _ _ => rfl)))) pa_nil)) (pa_cons (pv 4) pa_nil)))))) (pw_or1 (pt_not (pt_val (pe_call (ok_law_is T) (hr.mono (by decide)) (by rfl) T.m_law_is T.F_law_is.kp T.b_law_is .nil pass0 (pa_cons (pe_ix (r := rIxT K) ix_tup (pe_call0 (ok_black T) (hr.mono (by decide)) (by rfl) T.m_black T.F_black.kp T.b_black .nil pass0) (pv 3) (fun _ _ => rfl)) (pa_cons pe_int (pa_cons pe_int pa_nil))))))))) (pss_one (ps_ret pe_bl)) pss_nil)))))
    (pss_cons (ps_if (PW.pt (pw_or (pt_not (pt_cmpR (op_eqTup (ok_Quotient_eq T) T.fi_Quotient_eq T.fn_Quotient_eq T.b_Quotient_eq (hr.mono (by decide))) (pe_call (ok_sum_of T) (hr.mono (by decide)) (by rfl) T.m_sum_of T.F_sum_of.kp T.b_sum_of .nil pass0 (pa_cons (pe_lst pa_nil) pa_nil)) (pe_call0 (ok_black T) (hr.mono (by decide)) (by rfl) T.m_black T.F_black.kp T.b_black .nil pass0) (nomark _))) (pw_or1 (pt_not (pt_cmpR (op_eqTup (ok_Quotient_eq T) T.fi_Quotient_eq T.fn_Quotient_eq T.b_Quotient_eq (hr.mono (by decide))) (pe_call (ok_added T) (hr.mono (by decide)) (by rfl) T.m_added T.F_added.kp T.b_added .nil pass0 (pa_cons (pe_call (ok_taken T) (hr.mono (by decide)) (by rfl) T.m_taken T.F_taken.kp T.b_taken .nil pass0 (pa_cons (pv 6) (pa_cons (pv 9) pa_nil))) (pa_cons (pv 9) pa_nil))) (pv 6) (nomark _)))))) (pss_one (ps_ret pe_bl)) pss_nil)
    (pss_one (ps_ret (pe_cmpR (op_cmpOwn (op := .Eq) (ok_Quotient_eq T) (hr.mono (by decide)) T.b_Quotient_eq pass0 T.fi_Quotient_eq T.fn_Quotient_eq (fun _ _ => rfl)) (pe_call (ok_det T) (hr.mono (by decide)) (by rfl) T.m_det T.F_det.kp T.b_det .nil pass0 (pa_cons (pe_call (ok_added T) (hr.mono (by decide)) (by rfl) T.m_added T.F_added.kp T.b_added .nil pass0 (pa_cons (pv 6) (pa_cons (pv 9) pa_nil))) (pa_cons (pv 7) (pa_cons (pv 8) pa_nil)))) (pe_op (op_own (ok_Quotient_add T) (hr.mono (by decide)) T.b_Quotient_add pass0 T.sf_Quotient T.fi_Quotient_add T.fn_Quotient_add) (pe_call (ok_det T) (hr.mono (by decide)) (by rfl) T.m_det T.F_det.kp T.b_det .nil pass0 (pa_cons (pv 6) (pa_cons (pv 7) (pa_cons (pv 8) pa_nil)))) (pe_call (ok_det T) (hr.mono (by decide)) (by rfl) T.m_det T.F_det.kp T.b_det .nil pass0 (pa_cons (pv 9) (pa_cons (pv 7) (pa_cons (pv 8) pa_nil))))) (nomark _))))))))))))))), ?_⟩)
  intro ns hns
  refine s_seq (s_asg (e_callW (a_cons (e_var rfl (a_cons (e_c (a_cons (e_c (a_nil ⟨rfl, ns, 0, 24, rfl, by decide, by decide, by decide, fun l p hl hd => ?_⟩)))))))))
  have hne : l ≠ [] := fun z => by rw [z] at hl; simp at hl
  refine s_seq (s_asg (e_lstO (a_nil ⟨by decide, fun q => ?_⟩)))
  refine s_seq (s_for (i_rng1 (a_cons (e_c (a_nil ⟨4, rfl, by decide, by decide, ?_⟩)))))
  refine ⟨fun i ρ O => (∃ k, ρ = [some (scr ns), some (dStream l p), some (.loc q), k, none, none, none, none, none, none, none, none, none]) ∧ ∃ (rs : List I3) (n : Int), O = [(q, .lst (rs.map lRow)), (p, .lst [.int n])] ∧ (∀ r ∈ rs, bI r 5) ∧ rs.length = i, ⟨⟨_, rfl⟩, [], 0, rfl, (fun r hr => absurd hr (by simp)), rfl⟩, ?_, ?_⟩
  · rintro i d ρ' O' hi ⟨⟨k, rfl⟩, rs, n, rfl, hrs, hlen⟩
    have hi4 := (rangeD_get hi).1
    refine g_name (s_drop (e_append (e_var rfl ⟨q, _, rfl, List.mem_cons_self, ?_⟩)))
    refine e_lst (a_cons (e_op (e_callW (a_cons (e_var rfl (a_cons (e_c (a_nil ⟨rfl, l, p, 60, n, _, rfl, hne, hd, by decide, fun n' => .there .here, fun v1 n1 v1a v1b v1c => e_c (r_rI0 ?_)⟩))))))))
    refine a_cons (e_op (e_callW (a_cons (e_var rfl (a_cons (e_c (a_nil ⟨rfl, l, p, 60, n1, _, rfl, hne, hd, by decide, fun n' => .there .here, fun v2 n2 v2a v2b v2c => e_c (r_rI0 ?_)⟩)))))))
    refine a_cons (e_op (e_callW (a_cons (e_var rfl (a_cons (e_c (a_nil ⟨rfl, l, p, 60, n2, _, rfl, hne, hd, by decide, fun n' => .there .here, fun v3 n3 v3a v3b v3c => e_c (r_rI0 ?_)⟩)))))))
    refine a_nil ⟨(by show 3 ≤ 100000; decide), _, _, ?_, .here, ⟨_, rfl⟩, rs ++ [⟨v1 - 29, v2 - 29, v3 - 29⟩], n3, ?_, ?_, ?_⟩
    · rw [List.length_map, hlen]
      have : i < 4 := hi4
      omega
    · rw [List.map_append]
      rfl
    · intro r hr
      rcases List.mem_append.mp hr with h | h
      · exact hrs r h
      · rw [List.mem_singleton.mp h]
        exact ⟨by show (v1 - 29).natAbs < 32; omega, by show (v2 - 29).natAbs < 32; omega, by show (v3 - 29).natAbs < 32; omega⟩
    · rw [List.length_append, hlen]
      rfl
  · rintro ρ' O' ⟨⟨k, rfl⟩, rs, n, rfl, hrs, hlen⟩
    rw [rangeD_len] at hlen
    obtain ⟨r0, r1, r2, r3, rfl⟩ : ∃ r0 r1 r2 r3, rs = [r0, r1, r2, r3] := by
      match rs, hlen with
      | [a, b, c, d], _ => exact ⟨a, b, c, d, rfl⟩
    have h0 := hrs r0 (by simp)
    have h1 := hrs r1 (by simp)
    have h2 := hrs r2 (by simp)
    have h3 := hrs r3 (by simp)
    clear hrs hlen
    refine s_seq (s_sub (ρ' := [some (scr ns), some (dStream l p), some (.loc q), none, none, none, none, none, none, none, none, none, none]) (.same (.same (.same (.drop (.same (.same (.same (.same (.same (.same (.same (.same (.same .nil))))))))))))) (s_frz (ρ' := [some (scr ns), some (dStream l p), some (.lst [lRow r0, lRow r1, lRow r2, lRow r3]), none, none, none, none, none, none, none, none, none, none]) .here ?_ ?_))
    · simp [frz, scr, dStream]
    refine s_asg (e_op (e_c (e_callW (a_cons (e_var rfl (a_cons (e_c (a_nil ⟨rfl, l, p, 60, n, _, rfl, hne, hd, by decide, fun n' => .here, fun v m v0 v60 _ => r_rI0 ?_⟩))))))))
    generalize hO : [(p, Own.lst [D.int m])] = O
    have hbp : (0 : Int) < 1 + v := by omega
    have hbz : (1 + v).natAbs < 2 ^ 6 := by omega
    generalize 1 + v = bot at *
    have hb : bot ≠ 0 := by omega
    refine s_seq (s_asg (e_lcM (go_name (by decide)) gm_name (i_list (e_var rfl ⟨_, rfl, (by show 4 < 90000; decide), [dV L.C_Quotient (vecI bot r0), dV L.C_Quotient (vecI bot r1), dV L.C_Quotient (vecI bot r2), dV L.C_Quotient (vecI bot r3)], rfl, step4 (g_name ⟨rfl, row_of rfl fun x => ?_⟩) (g_name ⟨rfl, row_of rfl fun x => ?_⟩) (g_name ⟨rfl, row_of rfl fun x => ?_⟩) (g_name ⟨rfl, row_of rfl fun x => ?_⟩), ?_⟩))))
    · exact e_quo (e_var rfl (e_var rfl ⟨_, _, rfl, rfl, hb, small_of hbz (by decide), rfl, rfl⟩))
    · exact e_quo (e_var rfl (e_var rfl ⟨_, _, rfl, rfl, hb, small_of hbz (by decide), rfl, rfl⟩))
    · exact e_quo (e_var rfl (e_var rfl ⟨_, _, rfl, rfl, hb, small_of hbz (by decide), rfl, rfl⟩))
    · exact e_quo (e_var rfl (e_var rfl ⟨_, _, rfl, rfl, hb, small_of hbz (by decide), rfl, rfl⟩))
    refine s_seq (s_asgG (e_var rfl (g_lst rfl (gs_cons' (g_name (gs_cons' (g_name (gs_cons' (g_name (gs_cons' (g_name (gs_nil' ?_))))))))))))
    have c5 : ∀ {r : I3}, bI r 5 → bI r 6 := fun h => ⟨Nat.lt_of_lt_of_le h.1 (by decide), Nat.lt_of_lt_of_le h.2.1 (by decide), Nat.lt_of_lt_of_le h.2.2 (by decide)⟩
    have c20 : ∀ {r : I3}, bI r 5 → bI r 20 := fun h => ⟨Nat.lt_of_lt_of_le h.1 (by decide), Nat.lt_of_lt_of_le h.2.1 (by decide), Nat.lt_of_lt_of_le h.2.2 (by decide)⟩
    have ha := bits_vecI hb (c5 h0) hbz
    have hbv := bits_vecI hb (c5 h1) hbz
    have hc := bits_vecI hb (c5 h2) hbz
    have hdv := bits_vecI hb (c5 h3) hbz
    have dab := bits_det ha hbv hc
    refine s_seq (s_asg (e_call (a_cons (e_op (e_var rfl (e_c (r_ixL rfl (a_cons (e_op (e_var rfl (e_c (r_ixL rfl (a_cons (e_op (e_var rfl (e_c (r_ixL rfl (a_nil ⟨rfl, r0, r1, r2, rfl, c20 h0, c20 h1, c20 h2, ?_⟩))))))))))))))))))
    refine s_rho (ρ' := [some (scr ns), some (dStream l p), some (.lst [lRow r0, lRow r1, lRow r2, lRow r3]), none, some (.int bot), some (.lst [dV L.C_Quotient (vecI bot r0), dV L.C_Quotient (vecI bot r1), dV L.C_Quotient (vecI bot r2), dV L.C_Quotient (vecI bot r3)]), some (dV L.C_Quotient (vecI bot r0)), some (dV L.C_Quotient (vecI bot r1)), some (dV L.C_Quotient (vecI bot r2)), some (dV L.C_Quotient (vecI bot r3)), some (.int (detI r0 r1 r2)), none, none]) rfl ?_
    have hb3 : bot * bot * bot ≠ 0 := Int.mul_ne_zero (Int.mul_ne_zero hb hb) hb
    have hz2 : (bot * bot).natAbs < 2 ^ 12 := natAbs_mul_lt hbz hbz
    have hz3 : (bot * bot * bot).natAbs < 2 ^ 18 := natAbs_mul_lt hz2 hbz
    have hl3 : (3 * bot).natAbs < 2 ^ 9 := natAbs_mul_lt (n := 6) (show (3 : Int).natAbs < 2 ^ 3 by decide) hbz
    refine s_seq (s_if ?_)
    repeat walk_at "vv"
    refine r_rI (wide_q hbz hbz (by decide)) (e_var rfl (r_rI (wide_q hz2 hbz (by decide)) (a_nil ⟨rfl, _, _, _, rfl, hb3, lt300 hz3 (by decide), ⟨_, rfl, or_last (det_vecI hb r0 r1 r2) (s_next ?_)⟩⟩)))
    refine s_seq (s_if ?_)
    repeat walk_at "vv"
    refine ⟨_, rfl, or_step (det_swap _ _ _) ?_⟩
    repeat walk_at "vv"
    refine a_nil ⟨rfl, _, _, _, rfl, by decide, by decide, ⟨_, rfl, or_step (det_two _ _) ?_⟩⟩
    repeat walk_at "vv"
    refine ⟨_, rfl, or_last (det_rot _ _ _) (s_next ?_)⟩
    refine s_seq (s_for (i_rng1 (a_cons (e_c (a_nil ⟨3, rfl, by decide, by decide, ?_⟩)))))
    refine ⟨fun i ρ O1 => (∃ k, ρ = [some (scr ns), some (dStream l p), some (.lst [lRow r0, lRow r1, lRow r2, lRow r3]), k, some (.int bot), some (.lst [dV L.C_Quotient (vecI bot r0), dV L.C_Quotient (vecI bot r1), dV L.C_Quotient (vecI bot r2), dV L.C_Quotient (vecI bot r3)]), some (dV L.C_Quotient (vecI bot r0)), some (dV L.C_Quotient (vecI bot r1)), some (dV L.C_Quotient (vecI bot r2)), some (dV L.C_Quotient (vecI bot r3)), some (.int (detI r0 r1 r2)), none, none]) ∧ O1 = O, ⟨⟨_, rfl⟩, rfl⟩, ?_, ?_⟩
    · rintro i d ρ' O' hi ⟨⟨k, rfl⟩, rfl⟩
      obtain ⟨hi3, rfl⟩ := rangeD_get hi
      have hi3' : i < 3 := hi3
      refine g_name ?_
      refine s_seq (s_if ?_)
      repeat walk_at "vv"
      refine a_nil ⟨rfl, _, _, _, rfl, hb, lt300 hbz (by decide), ⟨_, rfl, or_step ?_ ?_⟩⟩
      · rw [at_add, at_vec, at_vec, add_divI hb]
      repeat walk_at "vv"
      refine a_nil ⟨rfl, _, _, _, rfl, hb, lt300 hbz (by decide), ⟨_, rfl, or_last ?_ (s_next ?_)⟩⟩
      · rw [at_sub, at_vec, at_vec, sub_divI hb]
      refine s_seq (s_if (t_not (t_B (e_call (a_cons (e_op (e_call (a_cons (e_quo (e_c (e_c ⟨2, 3, rfl, rfl, by decide, small_of (n := 2) (by decide) (by decide), ?_⟩)))))))))))
      have b23 : bits (Rat.divInt 2 3) 2 := bits_divInt (by decide) (by decide) (by decide)
      repeat walk_at "vv"
      refine r_rI (wide_q (m := 2) (n := 5) (by decide) (at_bI h0) (by decide)) ?_
      repeat walk_at "vv"
      refine r_rI (wide_q (m := 2) (by decide) hbz (by decide)) ?_
      refine a_nil ⟨rfl, _, _, _, rfl, by omega, lt300 hl3 (by decide), ⟨_, rfl, or_last ?_ (s_next ?_)⟩⟩
      · rw [at_mul, at_vec, two_thirds]
      have four : ∀ v ∈ [vecI bot r0, vecI bot r1, vecI bot r2, vecI bot r3], bitsV v 6 := by
        intro v hv
        simp at hv
        rcases hv with rfl | rfl | rfl | rfl <;> assumption
      refine s_if (t_or (t_not (t_B (e_call (a_cons (e_op (e_call (a_cons (e_var rfl (a_nil ⟨rfl, [vecI bot r0, vecI bot r1, vecI bot r2, vecI bot r3], 6, .inl rfl, four, (by show 35 ≤ 8000; decide), ?_⟩))))))))))
      refine e_var rfl (r_ixT (at_dV hi3') (a_cons (e_cb (a_cons (e_lcM (go_name (by decide)) gm_name (i_list (e_var rfl ⟨_, rfl, (by show 4 < 90000; decide), [.int (r0.at i), .int (r1.at i), .int (r2.at i), .int (r3.at i)], rfl, step4 (g_name ⟨rfl, ?_⟩) (g_name ⟨rfl, ?_⟩) (g_name ⟨rfl, ?_⟩) (g_name ⟨rfl, ?_⟩), a_nil (c_sum (ns := [r0.at i, r1.at i, r2.at i, r3.at i]) ?_)⟩)))))))
      · exact e_op (e_var rfl (e_var rfl (r_ixL (at_row hi3') ⟨rfl, rfl⟩)))
      · exact e_op (e_var rfl (e_var rfl (r_ixL (at_row hi3') ⟨rfl, rfl⟩)))
      · exact e_op (e_var rfl (e_var rfl (r_ixL (at_row hi3') ⟨rfl, rfl⟩)))
      · exact e_op (e_var rfl (e_var rfl (r_ixL (at_row hi3') ⟨rfl, rfl⟩)))
      refine a_cons (e_var rfl (a_nil ⟨rfl, _, _, _, rfl, hb, lt300 hbz (by decide), ⟨_, rfl, or_step ?_ ?_⟩⟩))
      · show (addV (addV (addV (addV zV (vecI bot r0)) (vecI bot r1)) (vecI bot r2)) (vecI bot r3)).at i = Rat.divInt (r0.at i + (r1.at i + (r2.at i + (r3.at i + 0)))) bot
        rw [at_add, at_add, at_add, at_add, at_zV, at_vec, at_vec, at_vec, at_vec, Rat.zero_divInt, Rat.zero_add, add_divI hb, add_divI hb, add_divI hb]
        congr 1
        omega
      repeat walk_at "vv"
      refine a_nil ⟨rfl, _, _, _, rfl, by decide, by decide, ⟨_, rfl, or_last (at_zV i) (s_next ⟨⟨_, rfl⟩, rfl⟩)⟩⟩
    · rintro ρ' O' ⟨⟨k, rfl⟩, rfl⟩
      refine s_seq (s_if (t_or (t_not (t_test (e_op (e_call (a_cons (e_lst (a_nil ⟨by decide, a_nil ⟨rfl, [], 6, .inl rfl, by simp, by decide, ?_⟩⟩)))))))))
      refine e_call (a_nil ⟨rfl, rfl, r_eqTQ (qs := [0, 0, 0]) (m := 1) ?_ (by decide) ⟨_, rfl, fun _ => ?_, fun z => nomatch z⟩⟩)
      · intro q hq
        simp at hq
        rw [hq]
        exact bits_zero
      refine t_not (t_test (e_op (e_call (a_cons (e_call (a_cons (e_var rfl (a_cons (e_var rfl (a_nil ⟨rfl, _, _, _, _, rfl, ha, hdv, by decide, ?_⟩))))))))))
      have back : addV (subV (vecI bot r0) (vecI bot r3)) (vecI bot r3) = vecI bot r0 := by
        apply V3.ext'
        · exact Rat.sub_add_cancel
        · exact Rat.sub_add_cancel
        · exact Rat.sub_add_cancel
      refine a_cons (e_var rfl (a_nil ⟨rfl, _, _, _, _, rfl, bitsV_sub ha hdv, hdv, by decide, e_var rfl ?_⟩))
      rw [back]
      refine r_eqTQ (qs := [(vecI bot r0).x, (vecI bot r0).y, (vecI bot r0).z]) (m := 6) ?_ (by decide) ⟨_, rfl, (fun z => nomatch z), fun _ => s_next ?_⟩
      · intro q hq
        obtain ⟨a1, a2, a3⟩ := ha
        simp at hq
        rcases hq with rfl | rfl | rfl <;> assumption
      have had := bitsV_add ha hdv
      have hb13 := bitsV_mono hbv (show 6 ≤ 6 + 6 + 1 by decide)
      have hc13 := bitsV_mono hc (show 6 ≤ 6 + 6 + 1 by decide)
      have dd := bits_det hdv hbv hc
      have dad := bits_det had hb13 hc13
      have fin := det_sum (vecI bot r0) (vecI bot r3) (vecI bot r1) (vecI bot r2)
      refine s_ret (e_op (e_call (a_cons (e_call (a_cons (e_var rfl (a_cons (e_var rfl (a_nil ⟨rfl, _, _, _, _, rfl, ha, hdv, by decide, a_cons (e_var rfl (a_cons (e_var rfl (a_nil ⟨rfl, _, _, _, _, rfl, had, hb13, hc13, by decide, ?_⟩))))⟩)))))))))
      refine e_op (e_call (a_cons (e_var rfl (a_cons (e_var rfl (a_cons (e_var rfl (a_nil ⟨rfl, _, _, _, 6, rfl, ha, hbv, hc, by decide, ?_⟩))))))))
      refine e_call (a_cons (e_var rfl (a_cons (e_var rfl (a_cons (e_var rfl (a_nil ⟨rfl, _, _, _, 6, rfl, hdv, hbv, hc, by decide, ?_⟩)))))))
      refine r_own ⟨_, _, _, _, rfl, dab, dd, by decide, r_own ⟨_, _, _, _, rfl, dad, bits_add dab dd, by decide, ?_⟩⟩
      show D.bl (decide _) = D.bl true
      rw [decide_eq_true fin]
end
theorem all_mk {Pr : Program} {w : World} {K : PySem.W.Frag} {h : Heap} {mg : Str → Option Value} {fa C_ColorError C_BadQuotient C_Quotient f_Quotient_init f_Quotient_add f_Quotient_sub f_Quotient_mul f_Quotient_neg f_Quotient_eq f_Quotient_lt f_Quotient_le f_whole f_zero f_black f_det f_scaled f_added f_taken f_sum_of f_law_cell f_law_draws f_law_stream f_law_next f_law_part f_law_least f_law_is f_law_is_integer f_law_det f_law : Addr} (X : K.In h) (G : h.Ns mainGlobals mg) (hfa : mg "law" = some (.ref fa))
    {oc_Quotient_init kV_Quotient_init dc_Quotient_init pm_Quotient_init cd_Quotient_init ct_Quotient_init oc_Quotient_add kV_Quotient_add dc_Quotient_add pm_Quotient_add cd_Quotient_add ct_Quotient_add oc_Quotient_sub kV_Quotient_sub dc_Quotient_sub pm_Quotient_sub cd_Quotient_sub ct_Quotient_sub oc_Quotient_mul kV_Quotient_mul dc_Quotient_mul pm_Quotient_mul cd_Quotient_mul ct_Quotient_mul oc_Quotient_neg kV_Quotient_neg dc_Quotient_neg pm_Quotient_neg cd_Quotient_neg ct_Quotient_neg oc_Quotient_eq kV_Quotient_eq dc_Quotient_eq pm_Quotient_eq cd_Quotient_eq ct_Quotient_eq oc_Quotient_lt kV_Quotient_lt dc_Quotient_lt pm_Quotient_lt cd_Quotient_lt ct_Quotient_lt oc_Quotient_le kV_Quotient_le dc_Quotient_le pm_Quotient_le cd_Quotient_le ct_Quotient_le oc_whole kV_whole dc_whole pm_whole cd_whole ct_whole oc_zero kV_zero dc_zero pm_zero cd_zero ct_zero oc_black kV_black dc_black pm_black cd_black ct_black oc_det kV_det dc_det pm_det cd_det ct_det oc_scaled kV_scaled dc_scaled pm_scaled cd_scaled ct_scaled oc_added kV_added dc_added pm_added cd_added ct_added oc_taken kV_taken dc_taken pm_taken cd_taken ct_taken oc_sum_of kV_sum_of dc_sum_of pm_sum_of cd_sum_of ct_sum_of oc_law_cell kV_law_cell dc_law_cell pm_law_cell cd_law_cell ct_law_cell oc_law_draws kV_law_draws dc_law_draws pm_law_draws cd_law_draws ct_law_draws oc_law_stream kV_law_stream dc_law_stream pm_law_stream cd_law_stream ct_law_stream oc_law_next kV_law_next dc_law_next pm_law_next cd_law_next ct_law_next oc_law_part kV_law_part dc_law_part pm_law_part cd_law_part ct_law_part oc_law_least kV_law_least dc_law_least pm_law_least cd_law_least ct_law_least oc_law_is kV_law_is dc_law_is pm_law_is cd_law_is ct_law_is oc_law_is_integer kV_law_is_integer dc_law_is_integer pm_law_is_integer cd_law_is_integer ct_law_is_integer oc_law_det kV_law_det dc_law_det pm_law_det cd_law_det ct_law_det oc_law kV_law dc_law pm_law cd_law ct_law : Value} {od_Quotient_init an_Quotient_init od_Quotient_add an_Quotient_add od_Quotient_sub an_Quotient_sub od_Quotient_mul an_Quotient_mul od_Quotient_neg an_Quotient_neg od_Quotient_eq an_Quotient_eq od_Quotient_lt an_Quotient_lt od_Quotient_le an_Quotient_le od_whole an_whole od_zero an_zero od_black an_black od_det an_det od_scaled an_scaled od_added an_added od_taken an_taken od_sum_of an_sum_of od_law_cell an_law_cell od_law_draws an_law_draws od_law_stream an_law_stream od_law_next an_law_next od_law_part an_law_part od_law_least an_law_least od_law_is an_law_is od_law_is_integer an_law_is_integer od_law_det an_law_det od_law an_law : Option Addr} {sl_Quotient_init sl_Quotient_add sl_Quotient_sub sl_Quotient_mul sl_Quotient_neg sl_Quotient_eq sl_Quotient_lt sl_Quotient_le sl_whole sl_zero sl_black sl_det sl_scaled sl_added sl_taken sl_sum_of sl_law_cell sl_law_draws sl_law_stream sl_law_next sl_law_part sl_law_least sl_law_is sl_law_is_integer sl_law_det sl_law : Array (Option Value)} {t_PIECE_DIGITS t_PIECE : Tok}
    (a_C_ColorError : PySem.W.nsIn K mainGlobals "ColorError" = some (some (.ref C_ColorError)))
    (a_C_BadQuotient : PySem.W.nsIn K mainGlobals "BadQuotient" = some (some (.ref C_BadQuotient)))
    (a_C_Quotient : PySem.W.nsIn K mainGlobals "Quotient" = some (some (.ref C_Quotient)))
    (a_Quotient_init : PySem.W.findIn K (.ref C_Quotient) "__init__" = some (some (.ref f_Quotient_init)))
    (is_Quotient_init : PySem.W.isFn K (.ref f_Quotient_init) = true)
    (l_Quotient_init : K.lookup f_Quotient_init = some ⟨oc_Quotient_init, od_Quotient_init, .func (PySem.W.fnOf "__init__" "Quotient.__init__" (defArgs s_Quotient_init) (defBody s_Quotient_init) (defScope s_Quotient_init) .none kV_Quotient_init dc_Quotient_init pm_Quotient_init an_Quotient_init cd_Quotient_init ct_Quotient_init), sl_Quotient_init⟩)
    (cd2_Quotient_init : PySem.W.codeIn K cd_Quotient_init "Quotient.__init__" = true)
    (kp_Quotient_init : PySem.W.keepIn K (.ref f_Quotient_init) = true)
    (a_Quotient_add : PySem.W.findIn K (.ref C_Quotient) "__add__" = some (some (.ref f_Quotient_add)))
    (is_Quotient_add : PySem.W.isFn K (.ref f_Quotient_add) = true)
    (l_Quotient_add : K.lookup f_Quotient_add = some ⟨oc_Quotient_add, od_Quotient_add, .func (PySem.W.fnOf "__add__" "Quotient.__add__" (defArgs s_Quotient_add) (defBody s_Quotient_add) (defScope s_Quotient_add) .none kV_Quotient_add dc_Quotient_add pm_Quotient_add an_Quotient_add cd_Quotient_add ct_Quotient_add), sl_Quotient_add⟩)
    (cd2_Quotient_add : PySem.W.codeIn K cd_Quotient_add "Quotient.__add__" = true)
    (kp_Quotient_add : PySem.W.keepIn K (.ref f_Quotient_add) = true)
    (a_Quotient_sub : PySem.W.findIn K (.ref C_Quotient) "__sub__" = some (some (.ref f_Quotient_sub)))
    (is_Quotient_sub : PySem.W.isFn K (.ref f_Quotient_sub) = true)
    (l_Quotient_sub : K.lookup f_Quotient_sub = some ⟨oc_Quotient_sub, od_Quotient_sub, .func (PySem.W.fnOf "__sub__" "Quotient.__sub__" (defArgs s_Quotient_sub) (defBody s_Quotient_sub) (defScope s_Quotient_sub) .none kV_Quotient_sub dc_Quotient_sub pm_Quotient_sub an_Quotient_sub cd_Quotient_sub ct_Quotient_sub), sl_Quotient_sub⟩)
    (cd2_Quotient_sub : PySem.W.codeIn K cd_Quotient_sub "Quotient.__sub__" = true)
    (kp_Quotient_sub : PySem.W.keepIn K (.ref f_Quotient_sub) = true)
    (a_Quotient_mul : PySem.W.findIn K (.ref C_Quotient) "__mul__" = some (some (.ref f_Quotient_mul)))
    (is_Quotient_mul : PySem.W.isFn K (.ref f_Quotient_mul) = true)
    (l_Quotient_mul : K.lookup f_Quotient_mul = some ⟨oc_Quotient_mul, od_Quotient_mul, .func (PySem.W.fnOf "__mul__" "Quotient.__mul__" (defArgs s_Quotient_mul) (defBody s_Quotient_mul) (defScope s_Quotient_mul) .none kV_Quotient_mul dc_Quotient_mul pm_Quotient_mul an_Quotient_mul cd_Quotient_mul ct_Quotient_mul), sl_Quotient_mul⟩)
    (cd2_Quotient_mul : PySem.W.codeIn K cd_Quotient_mul "Quotient.__mul__" = true)
    (kp_Quotient_mul : PySem.W.keepIn K (.ref f_Quotient_mul) = true)
    (a_Quotient_neg : PySem.W.findIn K (.ref C_Quotient) "__neg__" = some (some (.ref f_Quotient_neg)))
    (is_Quotient_neg : PySem.W.isFn K (.ref f_Quotient_neg) = true)
    (l_Quotient_neg : K.lookup f_Quotient_neg = some ⟨oc_Quotient_neg, od_Quotient_neg, .func (PySem.W.fnOf "__neg__" "Quotient.__neg__" (defArgs s_Quotient_neg) (defBody s_Quotient_neg) (defScope s_Quotient_neg) .none kV_Quotient_neg dc_Quotient_neg pm_Quotient_neg an_Quotient_neg cd_Quotient_neg ct_Quotient_neg), sl_Quotient_neg⟩)
    (cd2_Quotient_neg : PySem.W.codeIn K cd_Quotient_neg "Quotient.__neg__" = true)
    (kp_Quotient_neg : PySem.W.keepIn K (.ref f_Quotient_neg) = true)
    (a_Quotient_eq : PySem.W.findIn K (.ref C_Quotient) "__eq__" = some (some (.ref f_Quotient_eq)))
    (is_Quotient_eq : PySem.W.isFn K (.ref f_Quotient_eq) = true)
    (l_Quotient_eq : K.lookup f_Quotient_eq = some ⟨oc_Quotient_eq, od_Quotient_eq, .func (PySem.W.fnOf "__eq__" "Quotient.__eq__" (defArgs s_Quotient_eq) (defBody s_Quotient_eq) (defScope s_Quotient_eq) .none kV_Quotient_eq dc_Quotient_eq pm_Quotient_eq an_Quotient_eq cd_Quotient_eq ct_Quotient_eq), sl_Quotient_eq⟩)
    (cd2_Quotient_eq : PySem.W.codeIn K cd_Quotient_eq "Quotient.__eq__" = true)
    (kp_Quotient_eq : PySem.W.keepIn K (.ref f_Quotient_eq) = true)
    (a_Quotient_lt : PySem.W.findIn K (.ref C_Quotient) "__lt__" = some (some (.ref f_Quotient_lt)))
    (is_Quotient_lt : PySem.W.isFn K (.ref f_Quotient_lt) = true)
    (l_Quotient_lt : K.lookup f_Quotient_lt = some ⟨oc_Quotient_lt, od_Quotient_lt, .func (PySem.W.fnOf "__lt__" "Quotient.__lt__" (defArgs s_Quotient_lt) (defBody s_Quotient_lt) (defScope s_Quotient_lt) .none kV_Quotient_lt dc_Quotient_lt pm_Quotient_lt an_Quotient_lt cd_Quotient_lt ct_Quotient_lt), sl_Quotient_lt⟩)
    (cd2_Quotient_lt : PySem.W.codeIn K cd_Quotient_lt "Quotient.__lt__" = true)
    (kp_Quotient_lt : PySem.W.keepIn K (.ref f_Quotient_lt) = true)
    (a_Quotient_le : PySem.W.findIn K (.ref C_Quotient) "__le__" = some (some (.ref f_Quotient_le)))
    (is_Quotient_le : PySem.W.isFn K (.ref f_Quotient_le) = true)
    (l_Quotient_le : K.lookup f_Quotient_le = some ⟨oc_Quotient_le, od_Quotient_le, .func (PySem.W.fnOf "__le__" "Quotient.__le__" (defArgs s_Quotient_le) (defBody s_Quotient_le) (defScope s_Quotient_le) .none kV_Quotient_le dc_Quotient_le pm_Quotient_le an_Quotient_le cd_Quotient_le ct_Quotient_le), sl_Quotient_le⟩)
    (cd2_Quotient_le : PySem.W.codeIn K cd_Quotient_le "Quotient.__le__" = true)
    (kp_Quotient_le : PySem.W.keepIn K (.ref f_Quotient_le) = true)
    (a_whole : PySem.W.nsIn K mainGlobals "whole" = some (some (.ref f_whole)))
    (l_whole : K.lookup f_whole = some ⟨oc_whole, od_whole, .func (PySem.W.fnOf "whole" "whole" (defArgs s_whole) (defBody s_whole) (defScope s_whole) .none kV_whole dc_whole pm_whole an_whole cd_whole ct_whole), sl_whole⟩)
    (cd2_whole : PySem.W.codeIn K cd_whole "whole" = true)
    (kp_whole : PySem.W.keepIn K (.ref f_whole) = true)
    (a_zero : PySem.W.nsIn K mainGlobals "zero" = some (some (.ref f_zero)))
    (l_zero : K.lookup f_zero = some ⟨oc_zero, od_zero, .func (PySem.W.fnOf "zero" "zero" (defArgs s_zero) (defBody s_zero) (defScope s_zero) .none kV_zero dc_zero pm_zero an_zero cd_zero ct_zero), sl_zero⟩)
    (cd2_zero : PySem.W.codeIn K cd_zero "zero" = true)
    (kp_zero : PySem.W.keepIn K (.ref f_zero) = true)
    (a_black : PySem.W.nsIn K mainGlobals "black" = some (some (.ref f_black)))
    (l_black : K.lookup f_black = some ⟨oc_black, od_black, .func (PySem.W.fnOf "black" "black" (defArgs s_black) (defBody s_black) (defScope s_black) .none kV_black dc_black pm_black an_black cd_black ct_black), sl_black⟩)
    (cd2_black : PySem.W.codeIn K cd_black "black" = true)
    (kp_black : PySem.W.keepIn K (.ref f_black) = true)
    (a_det : PySem.W.nsIn K mainGlobals "det" = some (some (.ref f_det)))
    (l_det : K.lookup f_det = some ⟨oc_det, od_det, .func (PySem.W.fnOf "det" "det" (defArgs s_det) (defBody s_det) (defScope s_det) .none kV_det dc_det pm_det an_det cd_det ct_det), sl_det⟩)
    (cd2_det : PySem.W.codeIn K cd_det "det" = true)
    (kp_det : PySem.W.keepIn K (.ref f_det) = true)
    (a_scaled : PySem.W.nsIn K mainGlobals "scaled" = some (some (.ref f_scaled)))
    (l_scaled : K.lookup f_scaled = some ⟨oc_scaled, od_scaled, .func (PySem.W.fnOf "scaled" "scaled" (defArgs s_scaled) (defBody s_scaled) (defScope s_scaled) .none kV_scaled dc_scaled pm_scaled an_scaled cd_scaled ct_scaled), sl_scaled⟩)
    (cd2_scaled : PySem.W.codeIn K cd_scaled "scaled" = true)
    (kp_scaled : PySem.W.keepIn K (.ref f_scaled) = true)
    (a_added : PySem.W.nsIn K mainGlobals "added" = some (some (.ref f_added)))
    (l_added : K.lookup f_added = some ⟨oc_added, od_added, .func (PySem.W.fnOf "added" "added" (defArgs s_added) (defBody s_added) (defScope s_added) .none kV_added dc_added pm_added an_added cd_added ct_added), sl_added⟩)
    (cd2_added : PySem.W.codeIn K cd_added "added" = true)
    (kp_added : PySem.W.keepIn K (.ref f_added) = true)
    (a_taken : PySem.W.nsIn K mainGlobals "taken" = some (some (.ref f_taken)))
    (l_taken : K.lookup f_taken = some ⟨oc_taken, od_taken, .func (PySem.W.fnOf "taken" "taken" (defArgs s_taken) (defBody s_taken) (defScope s_taken) .none kV_taken dc_taken pm_taken an_taken cd_taken ct_taken), sl_taken⟩)
    (cd2_taken : PySem.W.codeIn K cd_taken "taken" = true)
    (kp_taken : PySem.W.keepIn K (.ref f_taken) = true)
    (a_sum_of : PySem.W.nsIn K mainGlobals "sum_of" = some (some (.ref f_sum_of)))
    (l_sum_of : K.lookup f_sum_of = some ⟨oc_sum_of, od_sum_of, .func (PySem.W.fnOf "sum_of" "sum_of" (defArgs s_sum_of) (defBody s_sum_of) (defScope s_sum_of) .none kV_sum_of dc_sum_of pm_sum_of an_sum_of cd_sum_of ct_sum_of), sl_sum_of⟩)
    (cd2_sum_of : PySem.W.codeIn K cd_sum_of "sum_of" = true)
    (kp_sum_of : PySem.W.keepIn K (.ref f_sum_of) = true)
    (a_law_cell : PySem.W.nsIn K mainGlobals "_law_cell" = some (some (.ref f_law_cell)))
    (l_law_cell : K.lookup f_law_cell = some ⟨oc_law_cell, od_law_cell, .func (PySem.W.fnOf "_law_cell" "_law_cell" (defArgs s_law_cell) (defBody s_law_cell) (defScope s_law_cell) .none kV_law_cell dc_law_cell pm_law_cell an_law_cell cd_law_cell ct_law_cell), sl_law_cell⟩)
    (cd2_law_cell : PySem.W.codeIn K cd_law_cell "_law_cell" = true)
    (kp_law_cell : PySem.W.keepIn K (.ref f_law_cell) = true)
    (a_law_draws : PySem.W.nsIn K mainGlobals "_law_draws" = some (some (.ref f_law_draws)))
    (l_law_draws : K.lookup f_law_draws = some ⟨oc_law_draws, od_law_draws, .func (PySem.W.fnOf "_law_draws" "_law_draws" (defArgs s_law_draws) (defBody s_law_draws) (defScope s_law_draws) .none kV_law_draws dc_law_draws pm_law_draws an_law_draws cd_law_draws ct_law_draws), sl_law_draws⟩)
    (cd2_law_draws : PySem.W.codeIn K cd_law_draws "_law_draws" = true)
    (kp_law_draws : PySem.W.keepIn K (.ref f_law_draws) = true)
    (a_law_stream : PySem.W.nsIn K mainGlobals "_law_stream" = some (some (.ref f_law_stream)))
    (l_law_stream : K.lookup f_law_stream = some ⟨oc_law_stream, od_law_stream, .func (PySem.W.fnOf "_law_stream" "_law_stream" (defArgs s_law_stream) (defBody s_law_stream) (defScope s_law_stream) .none kV_law_stream dc_law_stream pm_law_stream an_law_stream cd_law_stream ct_law_stream), sl_law_stream⟩)
    (cd2_law_stream : PySem.W.codeIn K cd_law_stream "_law_stream" = true)
    (kp_law_stream : PySem.W.keepIn K (.ref f_law_stream) = true)
    (a_law_next : PySem.W.nsIn K mainGlobals "_law_next" = some (some (.ref f_law_next)))
    (l_law_next : K.lookup f_law_next = some ⟨oc_law_next, od_law_next, .func (PySem.W.fnOf "_law_next" "_law_next" (defArgs s_law_next) (defBody s_law_next) (defScope s_law_next) .none kV_law_next dc_law_next pm_law_next an_law_next cd_law_next ct_law_next), sl_law_next⟩)
    (cd2_law_next : PySem.W.codeIn K cd_law_next "_law_next" = true)
    (kp_law_next : PySem.W.keepIn K (.ref f_law_next) = true)
    (a_law_part : PySem.W.nsIn K mainGlobals "_law_part" = some (some (.ref f_law_part)))
    (l_law_part : K.lookup f_law_part = some ⟨oc_law_part, od_law_part, .func (PySem.W.fnOf "_law_part" "_law_part" (defArgs s_law_part) (defBody s_law_part) (defScope s_law_part) .none kV_law_part dc_law_part pm_law_part an_law_part cd_law_part ct_law_part), sl_law_part⟩)
    (cd2_law_part : PySem.W.codeIn K cd_law_part "_law_part" = true)
    (kp_law_part : PySem.W.keepIn K (.ref f_law_part) = true)
    (a_law_least : PySem.W.nsIn K mainGlobals "_law_least" = some (some (.ref f_law_least)))
    (l_law_least : K.lookup f_law_least = some ⟨oc_law_least, od_law_least, .func (PySem.W.fnOf "_law_least" "_law_least" (defArgs s_law_least) (defBody s_law_least) (defScope s_law_least) .none kV_law_least dc_law_least pm_law_least an_law_least cd_law_least ct_law_least), sl_law_least⟩)
    (cd2_law_least : PySem.W.codeIn K cd_law_least "_law_least" = true)
    (kp_law_least : PySem.W.keepIn K (.ref f_law_least) = true)
    (a_law_is : PySem.W.nsIn K mainGlobals "_law_is" = some (some (.ref f_law_is)))
    (l_law_is : K.lookup f_law_is = some ⟨oc_law_is, od_law_is, .func (PySem.W.fnOf "_law_is" "_law_is" (defArgs s_law_is) (defBody s_law_is) (defScope s_law_is) .none kV_law_is dc_law_is pm_law_is an_law_is cd_law_is ct_law_is), sl_law_is⟩)
    (cd2_law_is : PySem.W.codeIn K cd_law_is "_law_is" = true)
    (kp_law_is : PySem.W.keepIn K (.ref f_law_is) = true)
    (a_law_is_integer : PySem.W.nsIn K mainGlobals "_law_is_integer" = some (some (.ref f_law_is_integer)))
    (l_law_is_integer : K.lookup f_law_is_integer = some ⟨oc_law_is_integer, od_law_is_integer, .func (PySem.W.fnOf "_law_is_integer" "_law_is_integer" (defArgs s_law_is_integer) (defBody s_law_is_integer) (defScope s_law_is_integer) .none kV_law_is_integer dc_law_is_integer pm_law_is_integer an_law_is_integer cd_law_is_integer ct_law_is_integer), sl_law_is_integer⟩)
    (cd2_law_is_integer : PySem.W.codeIn K cd_law_is_integer "_law_is_integer" = true)
    (kp_law_is_integer : PySem.W.keepIn K (.ref f_law_is_integer) = true)
    (a_law_det : PySem.W.nsIn K mainGlobals "_law_det" = some (some (.ref f_law_det)))
    (l_law_det : K.lookup f_law_det = some ⟨oc_law_det, od_law_det, .func (PySem.W.fnOf "_law_det" "_law_det" (defArgs s_law_det) (defBody s_law_det) (defScope s_law_det) .none kV_law_det dc_law_det pm_law_det an_law_det cd_law_det ct_law_det), sl_law_det⟩)
    (cd2_law_det : PySem.W.codeIn K cd_law_det "_law_det" = true)
    (kp_law_det : PySem.W.keepIn K (.ref f_law_det) = true)
    (a_law : PySem.W.nsIn K mainGlobals "law" = some (some (.ref f_law)))
    (l_law : K.lookup f_law = some ⟨oc_law, od_law, .func (PySem.W.fnOf "law" "law" (defArgs s_law) (defBody s_law) (defScope s_law) .none kV_law dc_law pm_law an_law cd_law ct_law), sl_law⟩)
    (cd2_law : PySem.W.codeIn K cd_law "law" = true)
    (kp_law : PySem.W.keepIn K (.ref f_law) = true)
    (pg_Quotient : PySem.W.plainGet K C_Quotient Str.empty = true)
    (hd_Quotient : PySem.W.hasDictIn K C_Quotient = true)
    (po_Quotient : PySem.W.plainOver K C_Quotient = true)
    (sa_Quotient : PySem.W.findIn K (.ref C_Quotient) "__setattr__" = some (some (.builtin "object.__setattr__")))
    (mi_Quotient : PySem.W.makesIn K C_Quotient = true)
    (kc_Quotient : PySem.W.keepIn K (.ref C_Quotient) = true)
    (ha_Quotient : PySem.W.findIn K (.ref C_Quotient) "__class__" = some (some (.builtin "object.__class__")))
    (hn_Quotient : PySem.W.specialIn K (.builtin "object.__class__") "__get__" = some (some (.builtin "getset_descriptor.__get__")))
    (ht_Quotient : PySem.W.takesIn K (.builtin "object.__class__") = some true)
    (hm_Quotient : PySem.W.mroIn K C_Quotient (.type "object") = some true)
    (sf_Quotient : PySem.W.selfFirst K C_Quotient = true)
    (na_Quotient_top : PySem.W.findIn K (.ref C_Quotient) "top" = some none)
    (na_Quotient_bottom : PySem.W.findIn K (.ref C_Quotient) "bottom" = some none)
    (kit_Quotient_Quotient : PySem.W.kitOne K (.ref C_Quotient) (.ref C_Quotient) = some true)
    (kit_bool_bool : PySem.W.kitOne K (.type "bool") (.type "bool") = some true)
    (kit_int_int : PySem.W.kitOne K (.type "int") (.type "int") = some true)
    (kit_int_bool : PySem.W.kitOne K (.type "int") (.type "bool") = some false)
    (x_BadQuotient : PySem.W.excIn K C_BadQuotient [.type "ValueError", .type "Exception", .type "BaseException", .type "object"] "ValueError.__new__" = true)
    (kc_BadQuotient : PySem.W.keepIn K (.ref C_BadQuotient) = true)
    (xb_BadQuotient : PySem.W.subIn K (.ref C_BadQuotient) (.type "BaseException") = some true)
    (xt_BadQuotient : PySem.W.typeIn K (.ref C_BadQuotient) = some (.type "type"))
    (xi_BadQuotient : PySem.W.isClsIn K C_BadQuotient = true)
    (xs_BadQuotient : PySem.W.subIn K (.ref C_BadQuotient) (.ref C_BadQuotient) = some true)
    (n_abs : PySem.W.nsIn K mainGlobals "abs" = some none)
    (n_bool : PySem.W.nsIn K mainGlobals "bool" = some none)
    (n_divmod : PySem.W.nsIn K mainGlobals "divmod" = some none)
    (n_int : PySem.W.nsIn K mainGlobals "int" = some none)
    (n_isinstance : PySem.W.nsIn K mainGlobals "isinstance" = some none)
    (n_len : PySem.W.nsIn K mainGlobals "len" = some none)
    (n_range : PySem.W.nsIn K mainGlobals "range" = some none)
    (n_str : PySem.W.nsIn K mainGlobals "str" = some none)
    (n_sum : PySem.W.nsIn K mainGlobals "sum" = some none)
    (n_tuple : PySem.W.nsIn K mainGlobals "tuple" = some none)
    (n_zip : PySem.W.nsIn K mainGlobals "zip" = some none)
    (n_ValueError : PySem.W.nsIn K mainGlobals "ValueError" = some none)
    (i_gcd : PySem.W.nsIn K mainGlobals "gcd" = some (some (.builtin "math.gcd")))
    (c_PIECE_DIGITS : PySem.W.nsIn K mainGlobals "PIECE_DIGITS" = some (some (.int 18 t_PIECE_DIGITS)))
    (c_PIECE : PySem.W.nsIn K mainGlobals "PIECE" = some (some (.int 1000000000000000000 t_PIECE))) :
    ∃ fd : FuncData, (∀ (s : Shared) (v : Value), BindsTo s fd ⟨[v], []⟩ [("script", v)]) ∧ ∀ base : Heap, K.In base → base.Ns mainGlobals mg → FnOk Pr w K mg base CX0 7 fa fd ["script"] (spLaw K) := by
  have e : f_law = fa := by
    have e0 := hfa.symm.trans (PySem.W.mg_of X G a_law)
    cases e0
    rfl
  subst e
  have F_Quotient_init := fun_mk (st := s_Quotient_init) l_Quotient_init cd2_Quotient_init kp_Quotient_init
  have b_Quotient_init := F_Quotient_init.binds (ps := ["self", "top", "bottom"]) fun _ _ _ _ _ _ us hl => match us, hl with | [_, _, _], _ => rfl
  have F_Quotient_add := fun_mk (st := s_Quotient_add) l_Quotient_add cd2_Quotient_add kp_Quotient_add
  have b_Quotient_add := F_Quotient_add.binds (ps := ["self", "other"]) fun _ _ _ _ _ _ us hl => match us, hl with | [_, _], _ => rfl
  have F_Quotient_sub := fun_mk (st := s_Quotient_sub) l_Quotient_sub cd2_Quotient_sub kp_Quotient_sub
  have b_Quotient_sub := F_Quotient_sub.binds (ps := ["self", "other"]) fun _ _ _ _ _ _ us hl => match us, hl with | [_, _], _ => rfl
  have F_Quotient_mul := fun_mk (st := s_Quotient_mul) l_Quotient_mul cd2_Quotient_mul kp_Quotient_mul
  have b_Quotient_mul := F_Quotient_mul.binds (ps := ["self", "other"]) fun _ _ _ _ _ _ us hl => match us, hl with | [_, _], _ => rfl
  have F_Quotient_neg := fun_mk (st := s_Quotient_neg) l_Quotient_neg cd2_Quotient_neg kp_Quotient_neg
  have b_Quotient_neg := F_Quotient_neg.binds (ps := ["self"]) fun _ _ _ _ _ _ us hl => match us, hl with | [_], _ => rfl
  have F_Quotient_eq := fun_mk (st := s_Quotient_eq) l_Quotient_eq cd2_Quotient_eq kp_Quotient_eq
  have b_Quotient_eq := F_Quotient_eq.binds (ps := ["self", "other"]) fun _ _ _ _ _ _ us hl => match us, hl with | [_, _], _ => rfl
  have F_Quotient_lt := fun_mk (st := s_Quotient_lt) l_Quotient_lt cd2_Quotient_lt kp_Quotient_lt
  have b_Quotient_lt := F_Quotient_lt.binds (ps := ["self", "other"]) fun _ _ _ _ _ _ us hl => match us, hl with | [_, _], _ => rfl
  have F_Quotient_le := fun_mk (st := s_Quotient_le) l_Quotient_le cd2_Quotient_le kp_Quotient_le
  have b_Quotient_le := F_Quotient_le.binds (ps := ["self", "other"]) fun _ _ _ _ _ _ us hl => match us, hl with | [_, _], _ => rfl
  have F_whole := fun_mk (st := s_whole) l_whole cd2_whole kp_whole
  have b_whole := F_whole.binds (ps := ["number"]) fun _ _ _ _ _ _ us hl => match us, hl with | [_], _ => rfl
  have F_zero := fun_mk (st := s_zero) l_zero cd2_zero kp_zero
  have b_zero := F_zero.binds (ps := []) fun _ _ _ _ _ _ us hl => match us, hl with | [], _ => rfl
  have F_black := fun_mk (st := s_black) l_black cd2_black kp_black
  have b_black := F_black.binds (ps := []) fun _ _ _ _ _ _ us hl => match us, hl with | [], _ => rfl
  have F_det := fun_mk (st := s_det) l_det cd2_det kp_det
  have b_det := F_det.binds (ps := ["first", "second", "third"]) fun _ _ _ _ _ _ us hl => match us, hl with | [_, _, _], _ => rfl
  have F_scaled := fun_mk (st := s_scaled) l_scaled cd2_scaled kp_scaled
  have b_scaled := F_scaled.binds (ps := ["factor", "vector"]) fun _ _ _ _ _ _ us hl => match us, hl with | [_, _], _ => rfl
  have F_added := fun_mk (st := s_added) l_added cd2_added kp_added
  have b_added := F_added.binds (ps := ["first", "second"]) fun _ _ _ _ _ _ us hl => match us, hl with | [_, _], _ => rfl
  have F_taken := fun_mk (st := s_taken) l_taken cd2_taken kp_taken
  have b_taken := F_taken.binds (ps := ["first", "second"]) fun _ _ _ _ _ _ us hl => match us, hl with | [_, _], _ => rfl
  have F_sum_of := fun_mk (st := s_sum_of) l_sum_of cd2_sum_of kp_sum_of
  have b_sum_of := F_sum_of.binds (ps := ["vectors"]) fun _ _ _ _ _ _ us hl => match us, hl with | [_], _ => rfl
  have F_law_cell := fun_mk (st := s_law_cell) l_law_cell cd2_law_cell kp_law_cell
  have b_law_cell := F_law_cell.binds (ps := ["script", "k"]) fun _ _ _ _ _ _ us hl => match us, hl with | [_, _], _ => rfl
  have F_law_draws := fun_mk (st := s_law_draws) l_law_draws cd2_law_draws kp_law_draws
  have b_law_draws := F_law_draws.binds (ps := ["cell", "count"]) fun _ _ _ _ _ _ us hl => match us, hl with | [_, _], _ => rfl
  have F_law_stream := fun_mk (st := s_law_stream) l_law_stream cd2_law_stream kp_law_stream
  have b_law_stream := F_law_stream.binds (ps := ["script", "first", "count"]) fun _ _ _ _ _ _ us hl => match us, hl with | [_, _, _], _ => rfl
  have F_law_next := fun_mk (st := s_law_next) l_law_next cd2_law_next kp_law_next
  have b_law_next := F_law_next.binds (ps := ["stream", "many"]) fun _ _ _ _ _ _ us hl => match us, hl with | [_, _], _ => rfl
  have F_law_part := fun_mk (st := s_law_part) l_law_part cd2_law_part kp_law_part
  have b_law_part := F_law_part.binds (ps := ["first", "second"]) fun _ _ _ _ _ _ us hl => match us, hl with | [_, _], _ => rfl
  have F_law_least := fun_mk (st := s_law_least) l_law_least cd2_law_least kp_law_least
  have b_law_least := F_law_least.binds (ps := ["top", "bottom"]) fun _ _ _ _ _ _ us hl => match us, hl with | [_, _], _ => rfl
  have F_law_is := fun_mk (st := s_law_is) l_law_is cd2_law_is kp_law_is
  have b_law_is := F_law_is.binds (ps := ["actual", "top", "bottom"]) fun _ _ _ _ _ _ us hl => match us, hl with | [_, _, _], _ => rfl
  have F_law_is_integer := fun_mk (st := s_law_is_integer) l_law_is_integer cd2_law_is_integer kp_law_is_integer
  have b_law_is_integer := F_law_is_integer.binds (ps := ["actual"]) fun _ _ _ _ _ _ us hl => match us, hl with | [_], _ => rfl
  have F_law_det := fun_mk (st := s_law_det) l_law_det cd2_law_det kp_law_det
  have b_law_det := F_law_det.binds (ps := ["a", "b", "c"]) fun _ _ _ _ _ _ us hl => match us, hl with | [_, _, _], _ => rfl
  have F_law := fun_mk (st := s_law) l_law cd2_law kp_law
  have b_law := F_law.binds (ps := ["script"]) fun _ _ _ _ _ _ us hl => match us, hl with | [_], _ => rfl
  have T : Txt K mg {
      C_ColorError := C_ColorError,
      C_BadQuotient := C_BadQuotient,
      C_Quotient := C_Quotient,
      f_Quotient_init := f_Quotient_init,
      d_Quotient_init := PySem.W.fnOf "__init__" "Quotient.__init__" (defArgs s_Quotient_init) (defBody s_Quotient_init) (defScope s_Quotient_init) .none kV_Quotient_init dc_Quotient_init pm_Quotient_init an_Quotient_init cd_Quotient_init ct_Quotient_init,
      f_Quotient_add := f_Quotient_add,
      d_Quotient_add := PySem.W.fnOf "__add__" "Quotient.__add__" (defArgs s_Quotient_add) (defBody s_Quotient_add) (defScope s_Quotient_add) .none kV_Quotient_add dc_Quotient_add pm_Quotient_add an_Quotient_add cd_Quotient_add ct_Quotient_add,
      f_Quotient_sub := f_Quotient_sub,
      d_Quotient_sub := PySem.W.fnOf "__sub__" "Quotient.__sub__" (defArgs s_Quotient_sub) (defBody s_Quotient_sub) (defScope s_Quotient_sub) .none kV_Quotient_sub dc_Quotient_sub pm_Quotient_sub an_Quotient_sub cd_Quotient_sub ct_Quotient_sub,
      f_Quotient_mul := f_Quotient_mul,
      d_Quotient_mul := PySem.W.fnOf "__mul__" "Quotient.__mul__" (defArgs s_Quotient_mul) (defBody s_Quotient_mul) (defScope s_Quotient_mul) .none kV_Quotient_mul dc_Quotient_mul pm_Quotient_mul an_Quotient_mul cd_Quotient_mul ct_Quotient_mul,
      f_Quotient_neg := f_Quotient_neg,
      d_Quotient_neg := PySem.W.fnOf "__neg__" "Quotient.__neg__" (defArgs s_Quotient_neg) (defBody s_Quotient_neg) (defScope s_Quotient_neg) .none kV_Quotient_neg dc_Quotient_neg pm_Quotient_neg an_Quotient_neg cd_Quotient_neg ct_Quotient_neg,
      f_Quotient_eq := f_Quotient_eq,
      d_Quotient_eq := PySem.W.fnOf "__eq__" "Quotient.__eq__" (defArgs s_Quotient_eq) (defBody s_Quotient_eq) (defScope s_Quotient_eq) .none kV_Quotient_eq dc_Quotient_eq pm_Quotient_eq an_Quotient_eq cd_Quotient_eq ct_Quotient_eq,
      f_Quotient_lt := f_Quotient_lt,
      d_Quotient_lt := PySem.W.fnOf "__lt__" "Quotient.__lt__" (defArgs s_Quotient_lt) (defBody s_Quotient_lt) (defScope s_Quotient_lt) .none kV_Quotient_lt dc_Quotient_lt pm_Quotient_lt an_Quotient_lt cd_Quotient_lt ct_Quotient_lt,
      f_Quotient_le := f_Quotient_le,
      d_Quotient_le := PySem.W.fnOf "__le__" "Quotient.__le__" (defArgs s_Quotient_le) (defBody s_Quotient_le) (defScope s_Quotient_le) .none kV_Quotient_le dc_Quotient_le pm_Quotient_le an_Quotient_le cd_Quotient_le ct_Quotient_le,
      f_whole := f_whole,
      d_whole := PySem.W.fnOf "whole" "whole" (defArgs s_whole) (defBody s_whole) (defScope s_whole) .none kV_whole dc_whole pm_whole an_whole cd_whole ct_whole,
      f_zero := f_zero,
      d_zero := PySem.W.fnOf "zero" "zero" (defArgs s_zero) (defBody s_zero) (defScope s_zero) .none kV_zero dc_zero pm_zero an_zero cd_zero ct_zero,
      f_black := f_black,
      d_black := PySem.W.fnOf "black" "black" (defArgs s_black) (defBody s_black) (defScope s_black) .none kV_black dc_black pm_black an_black cd_black ct_black,
      f_det := f_det,
      d_det := PySem.W.fnOf "det" "det" (defArgs s_det) (defBody s_det) (defScope s_det) .none kV_det dc_det pm_det an_det cd_det ct_det,
      f_scaled := f_scaled,
      d_scaled := PySem.W.fnOf "scaled" "scaled" (defArgs s_scaled) (defBody s_scaled) (defScope s_scaled) .none kV_scaled dc_scaled pm_scaled an_scaled cd_scaled ct_scaled,
      f_added := f_added,
      d_added := PySem.W.fnOf "added" "added" (defArgs s_added) (defBody s_added) (defScope s_added) .none kV_added dc_added pm_added an_added cd_added ct_added,
      f_taken := f_taken,
      d_taken := PySem.W.fnOf "taken" "taken" (defArgs s_taken) (defBody s_taken) (defScope s_taken) .none kV_taken dc_taken pm_taken an_taken cd_taken ct_taken,
      f_sum_of := f_sum_of,
      d_sum_of := PySem.W.fnOf "sum_of" "sum_of" (defArgs s_sum_of) (defBody s_sum_of) (defScope s_sum_of) .none kV_sum_of dc_sum_of pm_sum_of an_sum_of cd_sum_of ct_sum_of,
      f_law_cell := f_law_cell,
      d_law_cell := PySem.W.fnOf "_law_cell" "_law_cell" (defArgs s_law_cell) (defBody s_law_cell) (defScope s_law_cell) .none kV_law_cell dc_law_cell pm_law_cell an_law_cell cd_law_cell ct_law_cell,
      f_law_draws := f_law_draws,
      d_law_draws := PySem.W.fnOf "_law_draws" "_law_draws" (defArgs s_law_draws) (defBody s_law_draws) (defScope s_law_draws) .none kV_law_draws dc_law_draws pm_law_draws an_law_draws cd_law_draws ct_law_draws,
      f_law_stream := f_law_stream,
      d_law_stream := PySem.W.fnOf "_law_stream" "_law_stream" (defArgs s_law_stream) (defBody s_law_stream) (defScope s_law_stream) .none kV_law_stream dc_law_stream pm_law_stream an_law_stream cd_law_stream ct_law_stream,
      f_law_next := f_law_next,
      d_law_next := PySem.W.fnOf "_law_next" "_law_next" (defArgs s_law_next) (defBody s_law_next) (defScope s_law_next) .none kV_law_next dc_law_next pm_law_next an_law_next cd_law_next ct_law_next,
      f_law_part := f_law_part,
      d_law_part := PySem.W.fnOf "_law_part" "_law_part" (defArgs s_law_part) (defBody s_law_part) (defScope s_law_part) .none kV_law_part dc_law_part pm_law_part an_law_part cd_law_part ct_law_part,
      f_law_least := f_law_least,
      d_law_least := PySem.W.fnOf "_law_least" "_law_least" (defArgs s_law_least) (defBody s_law_least) (defScope s_law_least) .none kV_law_least dc_law_least pm_law_least an_law_least cd_law_least ct_law_least,
      f_law_is := f_law_is,
      d_law_is := PySem.W.fnOf "_law_is" "_law_is" (defArgs s_law_is) (defBody s_law_is) (defScope s_law_is) .none kV_law_is dc_law_is pm_law_is an_law_is cd_law_is ct_law_is,
      f_law_is_integer := f_law_is_integer,
      d_law_is_integer := PySem.W.fnOf "_law_is_integer" "_law_is_integer" (defArgs s_law_is_integer) (defBody s_law_is_integer) (defScope s_law_is_integer) .none kV_law_is_integer dc_law_is_integer pm_law_is_integer an_law_is_integer cd_law_is_integer ct_law_is_integer,
      f_law_det := f_law_det,
      d_law_det := PySem.W.fnOf "_law_det" "_law_det" (defArgs s_law_det) (defBody s_law_det) (defScope s_law_det) .none kV_law_det dc_law_det pm_law_det an_law_det cd_law_det ct_law_det,
      f_law := f_law,
      d_law := PySem.W.fnOf "law" "law" (defArgs s_law) (defBody s_law) (defScope s_law) .none kV_law dc_law pm_law an_law cd_law ct_law } := {
      F_Quotient_init := F_Quotient_init,
      b_Quotient_init := b_Quotient_init,
      fi_Quotient_init := a_Quotient_init,
      fn_Quotient_init := is_Quotient_init,
      me_Quotient_init := ⟨a_Quotient_init, is_Quotient_init, kp_Quotient_init⟩,
      F_Quotient_add := F_Quotient_add,
      b_Quotient_add := b_Quotient_add,
      fi_Quotient_add := a_Quotient_add,
      fn_Quotient_add := is_Quotient_add,
      me_Quotient_add := ⟨a_Quotient_add, is_Quotient_add, kp_Quotient_add⟩,
      F_Quotient_sub := F_Quotient_sub,
      b_Quotient_sub := b_Quotient_sub,
      fi_Quotient_sub := a_Quotient_sub,
      fn_Quotient_sub := is_Quotient_sub,
      me_Quotient_sub := ⟨a_Quotient_sub, is_Quotient_sub, kp_Quotient_sub⟩,
      F_Quotient_mul := F_Quotient_mul,
      b_Quotient_mul := b_Quotient_mul,
      fi_Quotient_mul := a_Quotient_mul,
      fn_Quotient_mul := is_Quotient_mul,
      me_Quotient_mul := ⟨a_Quotient_mul, is_Quotient_mul, kp_Quotient_mul⟩,
      F_Quotient_neg := F_Quotient_neg,
      b_Quotient_neg := b_Quotient_neg,
      fi_Quotient_neg := a_Quotient_neg,
      fn_Quotient_neg := is_Quotient_neg,
      me_Quotient_neg := ⟨a_Quotient_neg, is_Quotient_neg, kp_Quotient_neg⟩,
      F_Quotient_eq := F_Quotient_eq,
      b_Quotient_eq := b_Quotient_eq,
      fi_Quotient_eq := a_Quotient_eq,
      fn_Quotient_eq := is_Quotient_eq,
      me_Quotient_eq := ⟨a_Quotient_eq, is_Quotient_eq, kp_Quotient_eq⟩,
      F_Quotient_lt := F_Quotient_lt,
      b_Quotient_lt := b_Quotient_lt,
      fi_Quotient_lt := a_Quotient_lt,
      fn_Quotient_lt := is_Quotient_lt,
      me_Quotient_lt := ⟨a_Quotient_lt, is_Quotient_lt, kp_Quotient_lt⟩,
      F_Quotient_le := F_Quotient_le,
      b_Quotient_le := b_Quotient_le,
      fi_Quotient_le := a_Quotient_le,
      fn_Quotient_le := is_Quotient_le,
      me_Quotient_le := ⟨a_Quotient_le, is_Quotient_le, kp_Quotient_le⟩,
      F_whole := F_whole,
      b_whole := b_whole,
      m_whole := PySem.W.mg_of X G a_whole,
      F_zero := F_zero,
      b_zero := b_zero,
      m_zero := PySem.W.mg_of X G a_zero,
      F_black := F_black,
      b_black := b_black,
      m_black := PySem.W.mg_of X G a_black,
      F_det := F_det,
      b_det := b_det,
      m_det := PySem.W.mg_of X G a_det,
      F_scaled := F_scaled,
      b_scaled := b_scaled,
      m_scaled := PySem.W.mg_of X G a_scaled,
      F_added := F_added,
      b_added := b_added,
      m_added := PySem.W.mg_of X G a_added,
      F_taken := F_taken,
      b_taken := b_taken,
      m_taken := PySem.W.mg_of X G a_taken,
      F_sum_of := F_sum_of,
      b_sum_of := b_sum_of,
      m_sum_of := PySem.W.mg_of X G a_sum_of,
      F_law_cell := F_law_cell,
      b_law_cell := b_law_cell,
      m_law_cell := PySem.W.mg_of X G a_law_cell,
      F_law_draws := F_law_draws,
      b_law_draws := b_law_draws,
      m_law_draws := PySem.W.mg_of X G a_law_draws,
      F_law_stream := F_law_stream,
      b_law_stream := b_law_stream,
      m_law_stream := PySem.W.mg_of X G a_law_stream,
      F_law_next := F_law_next,
      b_law_next := b_law_next,
      m_law_next := PySem.W.mg_of X G a_law_next,
      F_law_part := F_law_part,
      b_law_part := b_law_part,
      m_law_part := PySem.W.mg_of X G a_law_part,
      F_law_least := F_law_least,
      b_law_least := b_law_least,
      m_law_least := PySem.W.mg_of X G a_law_least,
      F_law_is := F_law_is,
      b_law_is := b_law_is,
      m_law_is := PySem.W.mg_of X G a_law_is,
      F_law_is_integer := F_law_is_integer,
      b_law_is_integer := b_law_is_integer,
      m_law_is_integer := PySem.W.mg_of X G a_law_is_integer,
      F_law_det := F_law_det,
      b_law_det := b_law_det,
      m_law_det := PySem.W.mg_of X G a_law_det,
      F_law := F_law,
      b_law := b_law,
      m_law := PySem.W.mg_of X G a_law,
      mg_ColorError := PySem.W.mg_of X G a_C_ColorError,
      mg_BadQuotient := PySem.W.mg_of X G a_C_BadQuotient,
      mg_Quotient := PySem.W.mg_of X G a_C_Quotient,
      k_Quotient := ⟨⟨pg_Quotient, hd_Quotient, po_Quotient, sa_Quotient⟩, ha_Quotient, hn_Quotient, ht_Quotient, hm_Quotient⟩,
      sf_Quotient := sf_Quotient,
      mk_Quotient := ⟨mi_Quotient, a_Quotient_init, is_Quotient_init, kc_Quotient⟩,
      na_Quotient_top := na_Quotient_top,
      na_Quotient_bottom := na_Quotient_bottom,
      kit_Quotient_Quotient := kit_Quotient_Quotient,
      kit_bool_bool := kit_bool_bool,
      kit_int_int := kit_int_int,
      kit_int_bool := kit_int_bool,
      x_BadQuotient := x_BadQuotient,
      kc_BadQuotient := kc_BadQuotient,
      xb_BadQuotient := xb_BadQuotient,
      xt_BadQuotient := xt_BadQuotient,
      xi_BadQuotient := xi_BadQuotient,
      xs_BadQuotient := xs_BadQuotient,
      n_abs := PySem.W.mg_none_of X G n_abs,
      n_bool := PySem.W.mg_none_of X G n_bool,
      n_divmod := PySem.W.mg_none_of X G n_divmod,
      n_int := PySem.W.mg_none_of X G n_int,
      n_isinstance := PySem.W.mg_none_of X G n_isinstance,
      n_len := PySem.W.mg_none_of X G n_len,
      n_range := PySem.W.mg_none_of X G n_range,
      n_str := PySem.W.mg_none_of X G n_str,
      n_sum := PySem.W.mg_none_of X G n_sum,
      n_tuple := PySem.W.mg_none_of X G n_tuple,
      n_zip := PySem.W.mg_none_of X G n_zip,
      n_ValueError := PySem.W.mg_none_of X G n_ValueError,
      i_gcd := PySem.W.mg_of X G i_gcd,
      c_PIECE_DIGITS := ⟨_, PySem.W.mg_of X G c_PIECE_DIGITS, _, rfl⟩,
      c_PIECE := ⟨_, PySem.W.mg_of X G c_PIECE, _, rfl⟩ }
  exact ⟨_, fun s v => .of_eq rfl, fun base _ _ => ok_law T⟩
theorem walk {l : PySem.W.OpenLaw} {qq : Program} {loose : List Str} {XP : (Str → Option Value) → Heap → Prop} {YP : World → Heap → Prop} {d : DefRec} {K : Params → PySem.W.Frag} (hn : l.most = some 63) (hdf : d.params.defaults = [])
    (hY : ∀ (w : World) (h : Heap), YP w h → (K w.params).In h)
    (F : ∀ (w : World) (mg : Str → Option Value) (fa : Addr) (h : Heap), (K w.params).In h → h.Ns mainGlobals mg → mg d.name = some (.ref fa) →
      ∃ fd : FuncData, (∀ (s : Shared) (u : Value), BindsTo s fd ⟨[u], []⟩ [("script", u)]) ∧ ∀ base : Heap, (K w.params).In base → base.Ns mainGlobals mg → FnOk l.prog w (K w.params) mg base CX0 7 fa fd ["script"] (spLaw (K w.params))) :
    PySem.W.WalkO qq loose XP YP l.row.toRowW d [] (fun f vs => PySem.call f vs) :=
  L2.walk_of (n := 63) (k := 7) (x := "script") (CX := fun _ => CX0) (sp := fun w => spLaw (K w.params)) hn (by decide) hdf ⟨rfl, by decide, by decide⟩ hY F (fun _ _ a ns hl _ hS => ⟨a, ns, rfl, hS, hl, fun _ => rfl⟩) fun _ _ _ _ _ z => z
end My
open PySem PySem.W PyProof.Rows
set_option maxRecDepth 100000 in
set_option maxHeartbeats 0 in
theorem PySem.Challenge.cw_colormatch_k02_vectors_holds : PySem.Challenge.rw_colormatch_k02_vectors.Holds := by
  w_on; o_law; k_head; (case hw => w_witness2)
  k_fill
  refine My.walk (l := PySem.Challenge.rw_colormatch_k02_vectors) rfl rfl (fun w h Y => PySem.W.kIn_of Y) ?F
  case F =>
    intro w mg fa h KX G hmg
    refine' My.all_mk KX G hmg ?a_C_ColorError ?a_C_BadQuotient ?a_C_Quotient ?a_Quotient_init ?is_Quotient_init ?l_Quotient_init ?cd2_Quotient_init ?kp_Quotient_init ?a_Quotient_add ?is_Quotient_add ?l_Quotient_add ?cd2_Quotient_add ?kp_Quotient_add ?a_Quotient_sub ?is_Quotient_sub ?l_Quotient_sub ?cd2_Quotient_sub ?kp_Quotient_sub ?a_Quotient_mul ?is_Quotient_mul ?l_Quotient_mul ?cd2_Quotient_mul ?kp_Quotient_mul ?a_Quotient_neg ?is_Quotient_neg ?l_Quotient_neg ?cd2_Quotient_neg ?kp_Quotient_neg ?a_Quotient_eq ?is_Quotient_eq ?l_Quotient_eq ?cd2_Quotient_eq ?kp_Quotient_eq ?a_Quotient_lt ?is_Quotient_lt ?l_Quotient_lt ?cd2_Quotient_lt ?kp_Quotient_lt ?a_Quotient_le ?is_Quotient_le ?l_Quotient_le ?cd2_Quotient_le ?kp_Quotient_le ?a_whole ?l_whole ?cd2_whole ?kp_whole ?a_zero ?l_zero ?cd2_zero ?kp_zero ?a_black ?l_black ?cd2_black ?kp_black ?a_det ?l_det ?cd2_det ?kp_det ?a_scaled ?l_scaled ?cd2_scaled ?kp_scaled ?a_added ?l_added ?cd2_added ?kp_added ?a_taken ?l_taken ?cd2_taken ?kp_taken ?a_sum_of ?l_sum_of ?cd2_sum_of ?kp_sum_of ?a_law_cell ?l_law_cell ?cd2_law_cell ?kp_law_cell ?a_law_draws ?l_law_draws ?cd2_law_draws ?kp_law_draws ?a_law_stream ?l_law_stream ?cd2_law_stream ?kp_law_stream ?a_law_next ?l_law_next ?cd2_law_next ?kp_law_next ?a_law_part ?l_law_part ?cd2_law_part ?kp_law_part ?a_law_least ?l_law_least ?cd2_law_least ?kp_law_least ?a_law_is ?l_law_is ?cd2_law_is ?kp_law_is ?a_law_is_integer ?l_law_is_integer ?cd2_law_is_integer ?kp_law_is_integer ?a_law_det ?l_law_det ?cd2_law_det ?kp_law_det ?a_law ?l_law ?cd2_law ?kp_law ?pg_Quotient ?hd_Quotient ?po_Quotient ?sa_Quotient ?mi_Quotient ?kc_Quotient ?ha_Quotient ?hn_Quotient ?ht_Quotient ?hm_Quotient ?sf_Quotient ?na_Quotient_top ?na_Quotient_bottom ?kit_Quotient_Quotient ?kit_bool_bool ?kit_int_int ?kit_int_bool ?x_BadQuotient ?kc_BadQuotient ?xb_BadQuotient ?xt_BadQuotient ?xi_BadQuotient ?xs_BadQuotient ?n_abs ?n_bool ?n_divmod ?n_int ?n_isinstance ?n_len ?n_range ?n_str ?n_sum ?n_tuple ?n_zip ?n_ValueError ?i_gcd ?c_PIECE_DIGITS ?c_PIECE
    (case a_C_ColorError => k_is)
    (case a_C_BadQuotient => k_is)
    (case a_C_Quotient => k_is)
    (case a_Quotient_init => k_is)
    (case is_Quotient_init => k_is)
    (case l_Quotient_init => k_is)
    (case cd2_Quotient_init => k_is)
    (case kp_Quotient_init => k_is)
    (case a_Quotient_add => k_is)
    (case is_Quotient_add => k_is)
    (case l_Quotient_add => k_is)
    (case cd2_Quotient_add => k_is)
    (case kp_Quotient_add => k_is)
    (case a_Quotient_sub => k_is)
    (case is_Quotient_sub => k_is)
    (case l_Quotient_sub => k_is)
    (case cd2_Quotient_sub => k_is)
    (case kp_Quotient_sub => k_is)
    (case a_Quotient_mul => k_is)
    (case is_Quotient_mul => k_is)
    (case l_Quotient_mul => k_is)
    (case cd2_Quotient_mul => k_is)
    (case kp_Quotient_mul => k_is)
    (case a_Quotient_neg => k_is)
    (case is_Quotient_neg => k_is)
    (case l_Quotient_neg => k_is)
    (case cd2_Quotient_neg => k_is)
    (case kp_Quotient_neg => k_is)
    (case a_Quotient_eq => k_is)
    (case is_Quotient_eq => k_is)
    (case l_Quotient_eq => k_is)
    (case cd2_Quotient_eq => k_is)
    (case kp_Quotient_eq => k_is)
    (case a_Quotient_lt => k_is)
    (case is_Quotient_lt => k_is)
    (case l_Quotient_lt => k_is)
    (case cd2_Quotient_lt => k_is)
    (case kp_Quotient_lt => k_is)
    (case a_Quotient_le => k_is)
    (case is_Quotient_le => k_is)
    (case l_Quotient_le => k_is)
    (case cd2_Quotient_le => k_is)
    (case kp_Quotient_le => k_is)
    (case a_whole => k_is)
    (case l_whole => k_is)
    (case cd2_whole => k_is)
    (case kp_whole => k_is)
    (case a_zero => k_is)
    (case l_zero => k_is)
    (case cd2_zero => k_is)
    (case kp_zero => k_is)
    (case a_black => k_is)
    (case l_black => k_is)
    (case cd2_black => k_is)
    (case kp_black => k_is)
    (case a_det => k_is)
    (case l_det => k_is)
    (case cd2_det => k_is)
    (case kp_det => k_is)
    (case a_scaled => k_is)
    (case l_scaled => k_is)
    (case cd2_scaled => k_is)
    (case kp_scaled => k_is)
    (case a_added => k_is)
    (case l_added => k_is)
    (case cd2_added => k_is)
    (case kp_added => k_is)
    (case a_taken => k_is)
    (case l_taken => k_is)
    (case cd2_taken => k_is)
    (case kp_taken => k_is)
    (case a_sum_of => k_is)
    (case l_sum_of => k_is)
    (case cd2_sum_of => k_is)
    (case kp_sum_of => k_is)
    (case a_law_cell => k_is)
    (case l_law_cell => k_is)
    (case cd2_law_cell => k_is)
    (case kp_law_cell => k_is)
    (case a_law_draws => k_is)
    (case l_law_draws => k_is)
    (case cd2_law_draws => k_is)
    (case kp_law_draws => k_is)
    (case a_law_stream => k_is)
    (case l_law_stream => k_is)
    (case cd2_law_stream => k_is)
    (case kp_law_stream => k_is)
    (case a_law_next => k_is)
    (case l_law_next => k_is)
    (case cd2_law_next => k_is)
    (case kp_law_next => k_is)
    (case a_law_part => k_is)
    (case l_law_part => k_is)
    (case cd2_law_part => k_is)
    (case kp_law_part => k_is)
    (case a_law_least => k_is)
    (case l_law_least => k_is)
    (case cd2_law_least => k_is)
    (case kp_law_least => k_is)
    (case a_law_is => k_is)
    (case l_law_is => k_is)
    (case cd2_law_is => k_is)
    (case kp_law_is => k_is)
    (case a_law_is_integer => k_is)
    (case l_law_is_integer => k_is)
    (case cd2_law_is_integer => k_is)
    (case kp_law_is_integer => k_is)
    (case a_law_det => k_is)
    (case l_law_det => k_is)
    (case cd2_law_det => k_is)
    (case kp_law_det => k_is)
    (case a_law => k_is)
    (case l_law => k_is)
    (case cd2_law => k_is)
    (case kp_law => k_is)
    (case pg_Quotient => k_is)
    (case hd_Quotient => k_is)
    (case po_Quotient => k_is)
    (case sa_Quotient => k_is)
    (case mi_Quotient => k_is)
    (case kc_Quotient => k_is)
    (case ha_Quotient => k_is)
    (case hn_Quotient => k_is)
    (case ht_Quotient => k_is)
    (case hm_Quotient => k_is)
    (case sf_Quotient => k_is)
    (case na_Quotient_top => k_is)
    (case na_Quotient_bottom => k_is)
    (case kit_Quotient_Quotient => first | rfl | k_is)
    (case kit_bool_bool => first | rfl | k_is)
    (case kit_int_int => first | rfl | k_is)
    (case kit_int_bool => first | rfl | k_is)
    (case x_BadQuotient => k_exc)
    (case kc_BadQuotient => k_is)
    (case xb_BadQuotient => k_is)
    (case xt_BadQuotient => k_is)
    (case xi_BadQuotient => k_is)
    (case xs_BadQuotient => first | rfl | k_is)
    (case n_abs => k_is)
    (case n_bool => k_is)
    (case n_divmod => k_is)
    (case n_int => k_is)
    (case n_isinstance => k_is)
    (case n_len => k_is)
    (case n_range => k_is)
    (case n_str => k_is)
    (case n_sum => k_is)
    (case n_tuple => k_is)
    (case n_zip => k_is)
    (case n_ValueError => k_is)
    (case i_gcd => k_is)
    (case c_PIECE_DIGITS => k_is)
    (case c_PIECE => k_is)
