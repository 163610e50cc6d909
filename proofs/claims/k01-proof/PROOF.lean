import PyProof.Rows.All
import Wide.All
import OpenK.AllK
import Wide.FinOn
import HandS.ForMost
import HandS.Evl
import HandS.Gcd
import HandS.Wide
import HandS.FStr
import HandS.IsInst
import HandS.Zip
import HandS.Codes
import HandS.TryOnly
import HandS.TryMany
import HandS.ExcOwn
import HandS.WordsExc
import PySem.Challenge.RW_colormatch_k01_quotients_are_a_field
set_option Elab.async false
set_option linter.all false
set_option maxRecDepth 100000
set_option maxHeartbeats 4000000
/-! My own layer: a program over data trees, without the heap. -/
namespace G
open PySem L2
/-! ### data -/
inductive D where
  | raw (v : V) | tup (ds : List D) | lst (ds : List D) | fz (ds : List D) | ins (C : Addr) (fs : List (Str × D))
abbrev D.int (i : Int) : D := .raw (.int i)
abbrev D.bl (b : Bool) : D := .raw (.bl b)
abbrev D.str (z : Str) : D := .raw (.str z)
abbrev D.non : D := .raw .non
abbrev D.loc (a : Addr) : D := .raw (.ref a)
abbrev Ex := Evl.Ex
mutual
inductive Rep (K : PySem.W.Frag) (B : Hp) : V → D → Prop where
  | raw (v : V) : Rep K B v (.raw v)
  | tup {a : Addr} {xs : List V} {ds : List D} (h : SqT K B a xs) (r : Reps K B xs ds) : Rep K B (.ref a) (.tup ds)
  | lst {a : Addr} {xs : List V} {ds : List D} (h : B a = some (.lst xs)) (r : Reps K B xs ds) : Rep K B (.ref a) (.lst ds)
  | fz {a : Addr} {xs : List V} {ds : List D} (h : SqL K B a xs) (r : Reps K B xs ds) : Rep K B (.ref a) (.fz ds)
  | ins {a C dx : Addr} {fs : List (Str × V)} {gs : List (Str × D)} (h : B a = some (.ins C dx fs)) (r : RepF K B fs gs) : Rep K B (.ref a) (.ins C gs)
inductive Reps (K : PySem.W.Frag) (B : Hp) : List V → List D → Prop where
  | nil : Reps K B [] []
  | cons {v : V} {d : D} {vs : List V} {ds : List D} (h : Rep K B v d) (r : Reps K B vs ds) : Reps K B (v :: vs) (d :: ds)
inductive RepF (K : PySem.W.Frag) (B : Hp) : List (Str × V) → List (Str × D) → Prop where
  | nil : RepF K B [] []
  | cons {f : Str} {v : V} {d : D} {vs : List (Str × V)} {ds : List (Str × D)} (h : Rep K B v d) (r : RepF K B vs ds) : RepF K B ((f, v) :: vs) ((f, d) :: ds)
end
section
variable {K : PySem.W.Frag} {B B2 H H2 : Hp}
mutual
theorem Rep.mono (e : Ex B B2) : ∀ {v : V} {d : D}, Rep K B v d → Rep K B2 v d
  | _, _, .raw v => .raw v
  | _, _, .tup h r => .tup (Evl.ex_t e h) (Reps.mono e r)
  | _, _, .lst h r => .lst (e _ _ h) (Reps.mono e r)
  | _, _, .fz h r => .fz (Evl.ex_l e h) (Reps.mono e r)
  | _, _, .ins h r => .ins (e _ _ h) (RepF.mono e r)
theorem Reps.mono (e : Ex B B2) : ∀ {vs : List V} {ds : List D}, Reps K B vs ds → Reps K B2 vs ds
  | _, _, .nil => .nil
  | _, _, .cons h r => .cons (Rep.mono e h) (Reps.mono e r)
theorem RepF.mono (e : Ex B B2) : ∀ {vs : List (Str × V)} {ds : List (Str × D)}, RepF K B vs ds → RepF K B2 vs ds
  | _, _, .nil => .nil
  | _, _, .cons h r => .cons (Rep.mono e h) (RepF.mono e r)
end
theorem Reps.length : ∀ {vs : List V} {ds : List D}, Reps K B vs ds → vs.length = ds.length
  | _, _, .nil => rfl
  | _, _, .cons _ r => by rw [List.length_cons, List.length_cons, Reps.length r]
theorem Reps.get : ∀ {vs : List V} {ds : List D} {i : Nat} {d : D}, Reps K B vs ds → ds[i]? = some d → ∃ v, vs[i]? = some v ∧ Rep K B v d
  | _, _, _, _, .nil, h => by simp at h
  | _, _, 0, _, .cons h _, e => ⟨_, rfl, by simp at e; subst e; exact h⟩
  | _, _, i + 1, _, .cons _ r, e => by
    obtain ⟨v, h1, h2⟩ := Reps.get (i := i) r (by simpa using e)
    exact ⟨v, by simpa using h1, h2⟩
theorem Reps.get' : ∀ {vs : List V} {ds : List D} {i : Nat} {v : V}, Reps K B vs ds → vs[i]? = some v → ∃ d, ds[i]? = some d ∧ Rep K B v d
  | _, _, _, _, .nil, h => by simp at h
  | _, _, 0, _, .cons h _, e => ⟨_, rfl, by simp at e; subst e; exact h⟩
  | _, _, i + 1, _, .cons _ r, e => by
    obtain ⟨v, h1, h2⟩ := Reps.get' (i := i) r (by simpa using e)
    exact ⟨v, by simpa using h1, h2⟩
theorem Reps.append : ∀ {vs ws : List V} {ds es : List D}, Reps K B vs ds → Reps K B ws es → Reps K B (vs ++ ws) (ds ++ es)
  | _, _, _, _, .nil, s => s
  | _, _, _, _, .cons h r, s => .cons h (Reps.append r s)
theorem Reps.set : ∀ {vs : List V} {ds : List D} {v : V} {d : D} (i : Nat), Reps K B vs ds → Rep K B v d → Reps K B (vs.set i v) (ds.set i d)
  | _, _, _, _, _, .nil, _ => .nil
  | _, _, _, _, 0, .cons _ r, h => .cons h r
  | _, _, _, _, i + 1, .cons g r, h => .cons g (Reps.set i r h)
theorem Reps.take : ∀ {vs : List V} {ds : List D} (n : Nat), Reps K B vs ds → Reps K B (vs.take n) (ds.take n)
  | _, _, 0, _ => by simp; exact .nil
  | _, _, n + 1, .nil => .nil
  | _, _, n + 1, .cons h r => .cons h (Reps.take n r)
theorem Reps.drop : ∀ {vs : List V} {ds : List D} (n : Nat), Reps K B vs ds → Reps K B (vs.drop n) (ds.drop n)
  | _, _, 0, r => r
  | _, _, n + 1, .nil => .nil
  | _, _, n + 1, .cons h r => Reps.drop n r
theorem Reps.raws : ∀ (vs : List V), Reps K B vs (vs.map D.raw)
  | [] => .nil
  | v :: vs => .cons (.raw v) (Reps.raws vs)
/-- data that are plain are the values -/
theorem Reps.unraw : ∀ {ws vs : List V}, Reps K B ws (vs.map D.raw) → ws = vs
  | _, [], .nil => rfl
  | _, v :: vs, .cons h r => by
    cases h
    rw [Reps.unraw r]
theorem RepF.length : ∀ {vs : List (Str × V)} {ds : List (Str × D)}, RepF K B vs ds → vs.length = ds.length
  | _, _, .nil => rfl
  | _, _, .cons _ r => by rw [List.length_cons, List.length_cons, RepF.length r]
theorem RepF.look : ∀ {vs : List (Str × V)} {ds : List (Str × D)} {f : Str} {d : D}, RepF K B vs ds → ds.lookup f = some d → ∃ v, vs.lookup f = some v ∧ Rep K B v d
  | _, _, _, _, .nil, h => by simp at h
  | _, _, f, d, .cons (f := g) h r, e => by
    rw [List.lookup_cons] at e ⊢
    cases q : (f == g) with
    | true =>
      rw [q] at e
      simp at e
      subst e
      exact ⟨_, rfl, h⟩
    | false =>
      rw [q] at e
      exact RepF.look r (by simpa using e)
theorem RepF.look0 : ∀ {vs : List (Str × V)} {ds : List (Str × D)} {f : Str}, RepF K B vs ds → ds.lookup f = none → vs.lookup f = none
  | _, _, _, .nil, _ => rfl
  | _, _, f, .cons (f := g) h r, e => by
    rw [List.lookup_cons] at e ⊢
    cases q : (f == g) with
    | true => rw [q] at e; simp at e
    | false =>
      rw [q] at e
      exact RepF.look0 r (by simpa using e)
/-- a field put -/
def putD (f : Str) (d : D) : List (Str × D) → List (Str × D)
  | [] => [(f, d)]
  | (g, x) :: r => if g = f then (g, d) :: r else (g, x) :: putD f d r
theorem RepF.put : ∀ {vs : List (Str × V)} {ds : List (Str × D)} {f : Str} {v : V} {d : D}, RepF K B vs ds → Rep K B v d → RepF K B (putF f v vs) (putD f d ds)
  | _, _, _, _, _, .nil, h => .cons h .nil
  | _, _, f, v, d, .cons (f := g) (v := x) (vs := vs) (ds := ds) q r, h => by
    show RepF K B (if g = f then (g, v) :: vs else (g, x) :: putF f v vs) (if g = f then (g, d) :: ds else _)
    by_cases e : g = f
    · rw [if_pos e, if_pos e]
      exact .cons h r
    · rw [if_neg e, if_neg e]
      exact .cons q (RepF.put r h)
end
/-! ### what is owned: lists and instances that still change -/
inductive Own where
  | lst (ds : List D) | ins (C : Addr) (fs : List (Str × D))
abbrev Store := List (Addr × Own)
def OwnAt (K : PySem.W.Frag) (B H : Hp) (a : Addr) : Own → Prop
  | .lst ds => ∃ vs, H a = some (.lst vs) ∧ Reps K B vs ds
  | .ins C fs => ∃ dx vs, H a = some (.ins C dx vs) ∧ RepF K B vs fs
structure Hs (K : PySem.W.Frag) (B H : Hp) (O : Store) : Prop where
  ex : Ex B H
  own : ∀ p ∈ O, B p.1 = none ∧ OwnAt K B H p.1 p.2
  nd : (O.map Prod.fst).Nodup
section
variable {K : PySem.W.Frag} {B B2 H H2 : Hp} {O F : Store}
theorem OwnAt.mono {a : Addr} {o : Own} (e : Ex B B2) (eq : H2 a = H a) (h : OwnAt K B H a o) : OwnAt K B2 H2 a o := by
  cases o with
  | lst ds =>
    obtain ⟨vs, h1, r⟩ := h
    exact ⟨vs, by rw [eq]; exact h1, r.mono e⟩
  | ins C fs =>
    obtain ⟨dx, vs, h1, r⟩ := h
    exact ⟨dx, vs, by rw [eq]; exact h1, r.mono e⟩
theorem OwnAt.some {a : Addr} {o : Own} (h : OwnAt K B H a o) : ∃ u, H a = some u := by
  cases o with
  | lst ds => obtain ⟨vs, h1, _⟩ := h; exact ⟨_, h1⟩
  | ins C fs => obtain ⟨dx, vs, h1, _⟩ := h; exact ⟨_, h1⟩
/-- a new object, known from now on -/
theorem Hs.new {p : Addr} {o : HO} (h : Hs K B H O) (hp : H p = none) : Hs K (upd B p o) (upd H p o) O ∧ Ex B (upd B p o) := by
  have hb : B p = none := by
    cases q : B p with
    | none => rfl
    | some u => have := h.ex p u q; rw [hp] at this; cases this
  have eb : Ex B (upd B p o) := Evl.Ex.new hb
  refine ⟨⟨fun a u e => ?_, fun q hq => ?_, h.nd⟩, eb⟩
  · by_cases ha : a = p
    · subst ha
      rw [upd_same] at e ⊢
      exact e
    · rw [upd_ne ha] at e ⊢
      exact h.ex a u e
  · obtain ⟨h1, h2⟩ := h.own q hq
    obtain ⟨u, hu⟩ := h2.some
    have hne : q.1 ≠ p := ne_of_none hu hp
    exact ⟨by rw [upd_ne hne]; exact h1, h2.mono eb (upd_ne hne)⟩
/-- a new object, owned -/
theorem Hs.newOwn {p : Addr} {o : HO} {w : Own} (h : Hs K B H O) (hp : H p = none) (hw : OwnAt K B (upd H p o) p w) : Hs K B (upd H p o) ((p, w) :: O) := by
  have hb : B p = none := by
    cases q : B p with
    | none => rfl
    | some u => have := h.ex p u q; rw [hp] at this; cases this
  refine ⟨fun a u e => by rw [upd_ne (ne_of_none e hb)]; exact h.ex a u e, fun q hq => ?_, ?_⟩
  · rcases List.mem_cons.mp hq with rfl | hq
    · exact ⟨hb, hw⟩
    · obtain ⟨h1, h2⟩ := h.own q hq
      obtain ⟨u, hu⟩ := h2.some
      exact ⟨h1, h2.mono (Evl.Ex.refl B) (upd_ne (ne_of_none hu hp))⟩
  · refine List.nodup_cons.mpr ⟨fun hm => ?_, h.nd⟩
    obtain ⟨q, hq, e⟩ := List.mem_map.mp hm
    obtain ⟨u, hu⟩ := (h.own q hq).2.some
    rw [e, hp] at hu
    cases hu
/-- an object that is neither known nor owned may come or change -/
theorem Hs.other {p : Addr} {o : HO} (h : Hs K B H O) (hp : H p = none) : Hs K B (upd H p o) O := by
  have hb : B p = none := by
    cases q : B p with
    | none => rfl
    | some u => have := h.ex p u q; rw [hp] at this; cases this
  refine ⟨fun a u e => by rw [upd_ne (ne_of_none e hb)]; exact h.ex a u e, fun q hq => ?_, h.nd⟩
  obtain ⟨h1, h2⟩ := h.own q hq
  obtain ⟨u, hu⟩ := h2.some
  exact ⟨h1, h2.mono (Evl.Ex.refl B) (upd_ne (ne_of_none hu hp))⟩
theorem Hs.tail {q : Addr × Own} (h : Hs K B H (q :: O)) : Hs K B H O := ⟨h.ex, fun p hp => h.own p (List.mem_cons_of_mem _ hp), (List.nodup_cons.mp h.nd).2⟩
theorem Hs.dropL : ∀ {O : Store}, Hs K B H (O ++ F) → Hs K B H F
  | [], h => h
  | _ :: O, h => Hs.dropL (O := O) h.tail
/-- one of the owned, taken out: (a, w) stands in O, O' is the rest -/
inductive Pick (a : Addr) (w : Own) : Store → Store → Prop where
  | here {O : Store} : Pick a w ((a, w) :: O) O
  | there {q : Addr × Own} {O O' : Store} (h : Pick a w O O') : Pick a w (q :: O) (q :: O')
theorem Pick.perm {a : Addr} {w : Own} : ∀ {O O' : Store}, Pick a w O O' → O.Perm ((a, w) :: O')
  | _, _, .here => List.Perm.refl _
  | _, _, .there h => (List.Perm.cons _ (Pick.perm h)).trans (List.Perm.swap _ _ _)
theorem Hs.perm {O' : Store} (h : Hs K B H O) (p : O.Perm O') : Hs K B H O' := ⟨h.ex, fun q hq => h.own q (p.mem_iff.mpr hq), (p.map Prod.fst).nodup_iff.mp h.nd⟩
/-- put back with another content -/
inductive Put (a : Addr) (w w' : Own) : Store → Store → Prop where
  | here {O : Store} : Put a w w' ((a, w) :: O) ((a, w') :: O)
  | there {q : Addr × Own} {O O' : Store} (h : Put a w w' O O') : Put a w w' (q :: O) (q :: O')
theorem Put.pick {a : Addr} {w w' : Own} : ∀ {O O' : Store}, Put a w w' O O' → ∃ R, O.Perm ((a, w) :: R) ∧ O'.Perm ((a, w') :: R)
  | _, _, .here => ⟨_, List.Perm.refl _, List.Perm.refl _⟩
  | _, _, .there h => by
    obtain ⟨R, h1, h2⟩ := Put.pick h
    exact ⟨_ :: R, (List.Perm.cons _ h1).trans (List.Perm.swap _ _ _), (List.Perm.cons _ h2).trans (List.Perm.swap _ _ _)⟩
theorem Put.appR {a : Addr} {w w' : Own} : ∀ {O O' : Store}, Put a w w' O O' → Put a w w' (O ++ F) (O' ++ F)
  | _, _, .here => .here
  | _, _, .there h => .there (Put.appR h)
theorem Put.mem {a : Addr} {w w' : Own} : ∀ {O O' : Store}, Put a w w' O O' → (a, w) ∈ O
  | _, _, .here => List.mem_cons_self
  | _, _, .there h => List.mem_cons_of_mem _ (Put.mem h)
theorem Hs.write {a : Addr} {w w' : Own} {O' : Store} {o : HO} (h : Hs K B H O) (p : Put a w w' O O') (hw : OwnAt K B (upd H a o) a w') : Hs K B (upd H a o) O' := by
  obtain ⟨R, p1, p2⟩ := p.pick
  have g := h.perm p1
  have hb : B a = none := (g.own _ List.mem_cons_self).1
  refine Hs.perm ?_ p2.symm
  refine ⟨fun c u e => by rw [upd_ne (ne_of_none e hb)]; exact h.ex c u e, fun q hq => ?_, g.nd⟩
  rcases List.mem_cons.mp hq with rfl | hq
  · exact ⟨hb, hw⟩
  · obtain ⟨h1, h2⟩ := g.own q (List.mem_cons_of_mem _ hq)
    have hne : q.1 ≠ a := fun e => (List.nodup_cons.mp g.nd).1 (by rw [← e]; exact List.mem_map.mpr ⟨q, hq, rfl⟩)
    exact ⟨h1, h2.mono (Evl.Ex.refl B) (upd_ne hne)⟩
/-- known from now on -/
theorem Hs.freeze {a : Addr} {w : Own} {o : HO} (h : Hs K B H ((a, w) :: O)) (ho : H a = some o) : Hs K (upd B a o) H O ∧ Ex B (upd B a o) := by
  have hb : B a = none := (h.own _ List.mem_cons_self).1
  have eb : Ex B (upd B a o) := Evl.Ex.new hb
  refine ⟨⟨fun c u e => ?_, fun q hq => ?_, h.tail.nd⟩, eb⟩
  · by_cases hc : c = a
    · subst hc
      rw [upd_same] at e
      rw [ho]
      exact e
    · rw [upd_ne hc] at e
      exact h.ex c u e
  · obtain ⟨h1, h2⟩ := h.own q (List.mem_cons_of_mem _ hq)
    have hne : q.1 ≠ a := fun e => (List.nodup_cons.mp h.nd).1 (by rw [← e]; exact List.mem_map.mpr ⟨q, hq, rfl⟩)
    exact ⟨by rw [upd_ne hne]; exact h1, h2.mono eb rfl⟩
end
/-! ### the names' data -/
abbrev Rho := List (Option D)
structure EnvR (K : PySem.W.Frag) (B : Hp) (σ : L2.St) (ρ : Rho) : Prop where
  len : σ.length = ρ.length
  get : ∀ (i : Nat) (d : D), ρ[i]? = some (some d) → ∃ v, σ[i]? = some (some v) ∧ Rep K B v d
section
variable {K : PySem.W.Frag} {B B2 : Hp} {σ : L2.St} {ρ : Rho}
theorem EnvR.mono (h : EnvR K B σ ρ) (e : Ex B B2) : EnvR K B2 σ ρ := ⟨h.len, fun i d q => by
  obtain ⟨v, h1, h2⟩ := h.get i d q
  exact ⟨v, h1, h2.mono e⟩⟩
theorem EnvR.set {v : V} {d : D} (h : EnvR K B σ ρ) (i : Nat) (r : Rep K B v d) : EnvR K B (σ.set i (some v)) (ρ.set i (some d)) := by
  refine ⟨by rw [List.length_set, List.length_set, h.len], fun j e q => ?_⟩
  by_cases hij : i = j
  · subst hij
    by_cases hl : i < ρ.length
    · rw [List.getElem?_set_self hl] at q
      simp at q
      subst q
      exact ⟨v, by rw [List.getElem?_set_self (by rw [h.len]; exact hl)], r⟩
    · rw [List.getElem?_eq_none (by rw [List.length_set]; omega)] at q
      cases q
  · rw [List.getElem?_set_ne hij] at q
    obtain ⟨w, h1, h2⟩ := h.get j e q
    exact ⟨w, by rw [List.getElem?_set_ne hij]; exact h1, h2⟩
/-- a name whose value is forgotten -/
theorem EnvR.forget (h : EnvR K B σ ρ) (i : Nat) : EnvR K B σ (ρ.set i none) := by
  refine ⟨by rw [List.length_set, h.len], fun j e q => ?_⟩
  by_cases hij : i = j
  · subst hij
    by_cases hl : i < ρ.length
    · rw [List.getElem?_set_self hl] at q
      cases q
    · rw [List.getElem?_eq_none (by rw [List.length_set]; omega)] at q
      cases q
  · rw [List.getElem?_set_ne hij] at q
    exact h.get j e q
/-- less is known -/
def Sub (ρ' ρ : Rho) : Prop := ρ'.length = ρ.length ∧ ∀ (i : Nat) (d : D), ρ'[i]? = some (some d) → ρ[i]? = some (some d)
theorem Sub.nil : Sub [] [] := ⟨rfl, fun _ _ h => h⟩
theorem Sub.same {x : Option D} {r' r : Rho} (h : Sub r' r) : Sub (x :: r') (x :: r) := ⟨by rw [List.length_cons, List.length_cons, h.1], fun i d q => match i, q with
  | 0, q => q
  | i + 1, q => h.2 i d q⟩
theorem Sub.drop {x : Option D} {r' r : Rho} (h : Sub r' r) : Sub (none :: r') (x :: r) := ⟨by rw [List.length_cons, List.length_cons, h.1], fun i d q => match i, q with
  | 0, q => nomatch q
  | i + 1, q => h.2 i d q⟩
theorem EnvR.sub {ρ' : Rho} (h : EnvR K B σ ρ) (s : Sub ρ' ρ) : EnvR K B σ ρ' := ⟨by rw [h.len, s.1], fun i d q => h.get i d (s.2 i d q)⟩
def wipeR (ρ : Rho) : List Nat → Rho
  | [] => ρ
  | v :: vs => (wipeR ρ vs).set v none
theorem EnvR.clear (h : EnvR K B σ ρ) (i : Nat) : EnvR K B (σ.set i none) (ρ.set i none) := by
  refine ⟨by rw [List.length_set, List.length_set, h.len], fun j e q => ?_⟩
  by_cases hij : i = j
  · subst hij
    by_cases hl : i < ρ.length
    · rw [List.getElem?_set_self hl] at q
      cases q
    · rw [List.getElem?_eq_none (by rw [List.length_set]; omega)] at q
      cases q
  · rw [List.getElem?_set_ne hij] at q
    obtain ⟨w, h1, h2⟩ := h.get j e q
    exact ⟨w, by rw [List.getElem?_set_ne hij]; exact h1, h2⟩
theorem EnvR.wipe (h : EnvR K B σ ρ) : ∀ (vs : List Nat), EnvR K B (L2.wipe σ vs) (wipeR ρ vs)
  | [] => h
  | v :: vs => (EnvR.wipe h vs).clear v
/-- at a def's entry -/
def rho0 (n : Nat) (ds : List D) : Rho := ds.map some ++ List.replicate (n - ds.length) none
theorem envR_start {N : List Str} {vs : List V} {ds : List D} (r : Reps K B vs ds) : EnvR K B (start N vs) (rho0 N.length ds) := by
  refine ⟨?_, fun i d q => ?_⟩
  · show (vs.map some ++ List.replicate (N.length - vs.length) none).length = (ds.map some ++ List.replicate (N.length - ds.length) none).length
    rw [List.length_append, List.length_append, List.length_map, List.length_map, List.length_replicate, List.length_replicate, r.length]
  · have q' : (ds.map some ++ List.replicate (N.length - ds.length) none)[i]? = some (some d) := q
    by_cases hi : i < ds.length
    · rw [List.getElem?_append_left (by rw [List.length_map]; exact hi), List.getElem?_map] at q'
      cases e : ds[i]? with
      | none => rw [e] at q'; cases q'
      | some d' =>
        rw [e] at q'
        simp at q'
        subst q'
        obtain ⟨v, h1, h2⟩ := r.get e
        refine ⟨v, ?_, h2⟩
        show (vs.map some ++ List.replicate (N.length - vs.length) none)[i]? = some (some v)
        rw [List.getElem?_append_left (by rw [List.length_map, r.length]; exact hi), List.getElem?_map, h1]
        rfl
    · rw [List.getElem?_append_right (by rw [List.length_map]; omega), List.getElem?_replicate] at q'
      split at q' <;> simp at q'
end
end G
namespace G
open PySem L2
/-! ### readings over data -/
/-- what is wanted behind an expression -/
def Fin (K : PySem.W.Frag) (B : Hp) (F : Store) (P : D → Store → Prop) (Q : VK) : Prop := ∀ v d O' B2 H2, P d O' → Ex B B2 → Hs K B2 H2 (O' ++ F) → Rep K B2 v d → Q v H2
def wE (K : PySem.W.Frag) (te : TE) (ρ : Rho) (O : Store) (P : D → Store → Prop) : Prop :=
  ∀ F σ B H, EnvR K B σ ρ → Hs K B H (O ++ F) → ∀ Q : VK, Fin K B F P Q → te σ H Q
def FinT (K : PySem.W.Frag) (B : Hp) (F : Store) (P : Bool → Store → Prop) (Q : Bool → Hp → Prop) : Prop := ∀ b O' B2 H2, P b O' → Ex B B2 → Hs K B2 H2 (O' ++ F) → Q b H2
def wT (K : PySem.W.Frag) (tt : TT) (ρ : Rho) (O : Store) (P : Bool → Store → Prop) : Prop :=
  ∀ F σ B H, EnvR K B σ ρ → Hs K B H (O ++ F) → ∀ Q : Bool → Hp → Prop, FinT K B F P Q → tt σ H Q
def FinA (K : PySem.W.Frag) (B : Hp) (F : Store) (P : List D → Store → Prop) (Q : List V → Hp → Prop) : Prop := ∀ vs ds O' B2 H2, P ds O' → Ex B B2 → Hs K B2 H2 (O' ++ F) → Reps K B2 vs ds → Q vs H2
def wA (K : PySem.W.Frag) (ta : TA) (ρ : Rho) (O : Store) (P : List D → Store → Prop) : Prop :=
  ∀ F σ B H, EnvR K B σ ρ → Hs K B H (O ++ F) → ∀ Q : List V → Hp → Prop, FinA K B F P Q → ta σ H Q
/-- two-place, one-place operations, calls of built-ins, by data -/
def wR (K : PySem.W.Frag) (r : R2) (x y : D) (O : Store) (P : D → Store → Prop) : Prop :=
  ∀ F v u B H, Rep K B v x → Rep K B u y → Hs K B H (O ++ F) → ∀ Q : VK, Fin K B F P Q → r v u H Q
def wU (K : PySem.W.Frag) (r : V → Hp → VK → Prop) (x : D) (O : Store) (P : D → Store → Prop) : Prop :=
  ∀ F v B H, Rep K B v x → Hs K B H (O ++ F) → ∀ Q : VK, Fin K B F P Q → r v H Q
def wC (K : PySem.W.Frag) (r : List V → Hp → VK → Prop) (xs : List D) (O : Store) (P : D → Store → Prop) : Prop :=
  ∀ F vs B H, Reps K B vs xs → Hs K B H (O ++ F) → ∀ Q : VK, Fin K B F P Q → r vs H Q
/-- a statement's ways out -/
inductive Out where
  | nx (ρ : Rho) | ret (d : D) | bk (ρ : Rho) | ct (ρ : Rho)
def OutOk (K : PySem.W.Frag) (Dn : Ends) (B : Hp) (H : Hp) : Out → Prop
  | .nx ρ => ∀ σ, EnvR K B σ ρ → Dn.nx σ H
  | .ret d => ∀ v, Rep K B v d → Dn.rt v H
  | .bk ρ => ∀ σ, EnvR K B σ ρ → Dn.bk σ H
  | .ct ρ => ∀ σ, EnvR K B σ ρ → Dn.ct σ H
def FinS (K : PySem.W.Frag) (B : Hp) (F : Store) (P : Out → Store → Prop) (Dn : Ends) : Prop := ∀ o O' B2 H2, P o O' → Ex B B2 → Hs K B2 H2 (O' ++ F) → OutOk K Dn B2 H2 o
def wS (K : PySem.W.Frag) (ts : TS) (ρ : Rho) (O : Store) (P : Out → Store → Prop) : Prop :=
  ∀ F σ B H, EnvR K B σ ρ → Hs K B H (O ++ F) → ∀ Dn : Ends, FinS K B F P Dn → ts Dn σ H
section
variable {K : PySem.W.Frag} {ρ : Rho} {O O1 : Store} {P : D → Store → Prop} {ta tb te : TE}
theorem Fin.ex {B B2 : Hp} {F : Store} {Q : VK} (h : Fin K B F P Q) (e : Ex B B2) : Fin K B2 F P Q := fun v d O' B3 H3 p e3 => h v d O' B3 H3 p (e.trans e3)
theorem FinT.ex {B B2 : Hp} {F : Store} {P : Bool → Store → Prop} {Q : Bool → Hp → Prop} (h : FinT K B F P Q) (e : Ex B B2) : FinT K B2 F P Q := fun b O' B3 H3 p e3 => h b O' B3 H3 p (e.trans e3)
theorem FinA.ex {B B2 : Hp} {F : Store} {P : List D → Store → Prop} {Q : List V → Hp → Prop} (h : FinA K B F P Q) (e : Ex B B2) : FinA K B2 F P Q := fun v d O' B3 H3 p e3 => h v d O' B3 H3 p (e.trans e3)
theorem FinS.ex {B B2 : Hp} {F : Store} {P : Out → Store → Prop} {Dn : Ends} (h : FinS K B F P Dn) (e : Ex B B2) : FinS K B2 F P Dn := fun o O' B3 H3 p e3 => h o O' B3 H3 p (e.trans e3)
theorem Fin.here {B H : Hp} {F : Store} {Q : VK} {v : V} {d : D} {O : Store} (h : Fin K B F P Q) (hs : Hs K B H (O ++ F)) (r : Rep K B v d) (p : P d O) : Q v H := h v d O B H p (Evl.Ex.refl B) hs r
/-! ### expressions -/
theorem e_var {i : Nat} {d : D} (h : ρ[i]? = some (some d)) (p : P d O) : wE K (tVar i) ρ O P := fun F σ B H e hs Q q => by
  obtain ⟨v, h1, r⟩ := e.get i d h
  exact ⟨v, h1, q.here hs r p⟩
theorem e_c {v : V} (p : P (.raw v) O) : wE K (tC v) ρ O P := fun F σ B H e hs Q q => q.here hs (.raw v) p
theorem e_op {r : R2} (h : wE K ta ρ O fun x O1 => wE K tb ρ O1 fun y O2 => wR K r x y O2 P) : wE K (tOp r ta tb) ρ O P := fun F σ B H e hs Q q =>
  h F σ B H e hs _ fun v x O1 B1 H1 p1 e1 hs1 rx => p1 F σ B1 H1 (e.mono e1) hs1 _ fun u y O2 B2 H2 p2 e2 hs2 ry => p2 F v u B2 H2 (rx.mono e2) ry hs2 Q (q.ex (e1.trans e2))
theorem e_un {r : V → Hp → VK → Prop} (h : wE K ta ρ O fun x O1 => wU K r x O1 P) : wE K (tUn r ta) ρ O P := fun F σ B H e hs Q q =>
  h F σ B H e hs _ fun v x O1 B1 H1 p1 e1 hs1 rx => p1 F v B1 H1 rx hs1 Q (q.ex e1)
theorem e_cb {r : List V → Hp → VK → Prop} {t : TA} (h : wA K t ρ O fun ds O1 => wC K r ds O1 P) : wE K (tCB r t) ρ O P := fun F σ B H e hs Q q =>
  h F σ B H e hs _ fun vs ds O1 B1 H1 p1 e1 hs1 rs => p1 F vs B1 H1 rs hs1 Q (q.ex e1)
theorem a_nil {P : List D → Store → Prop} (p : P [] O) : wA K tNil ρ O P := fun F σ B H e hs Q q => q [] [] O B H p (Evl.Ex.refl B) hs .nil
theorem a_cons {tr : TA} {P : List D → Store → Prop} (h : wE K ta ρ O fun x O1 => wA K tr ρ O1 fun ds O2 => P (x :: ds) O2) : wA K (tCons ta tr) ρ O P := fun F σ B H e hs Q q =>
  h F σ B H e hs _ fun v x O1 B1 H1 p1 e1 hs1 rx => p1 F σ B1 H1 (e.mono e1) hs1 _ fun vs ds O2 B2 H2 p2 e2 hs2 rs => q (v :: vs) (x :: ds) O2 B2 H2 p2 (e1.trans e2) hs2 (.cons (rx.mono e2) rs)
theorem e_tup {t : TA} (h : wA K t ρ O fun ds O1 => ds.length ≤ 100000 ∧ P (.tup ds) O1) : wE K (tTup t) ρ O P := fun F σ B H e hs Q q =>
  h F σ B H e hs _ fun vs ds O1 B1 H1 p1 e1 hs1 rs => ⟨Evl.sz_of (by rw [rs.length]; exact p1.1), fun p hp => by
    obtain ⟨hs2, e2⟩ := hs1.new (o := .tup vs) hp
    exact q _ _ O1 _ _ p1.2 (e1.trans e2) hs2 (.tup (Evl.st_of upd_same) (rs.mono e2))⟩
/-- a list that never changes -/
theorem e_lst {t : TA} (h : wA K t ρ O fun ds O1 => ds.length ≤ 100000 ∧ P (.lst ds) O1) : wE K (tLst t) ρ O P := fun F σ B H e hs Q q =>
  h F σ B H e hs _ fun vs ds O1 B1 H1 p1 e1 hs1 rs => ⟨Evl.sz_of (by rw [rs.length]; exact p1.1), fun p hp => by
    obtain ⟨hs2, e2⟩ := hs1.new (o := .lst vs) hp
    exact q _ _ O1 _ _ p1.2 (e1.trans e2) hs2 (.lst upd_same (rs.mono e2))⟩
/-- a list that will change -/
theorem e_lstO {t : TA} (h : wA K t ρ O fun ds O1 => ds.length ≤ 100000 ∧ ∀ p, P (.loc p) ((p, .lst ds) :: O1)) : wE K (tLst t) ρ O P := fun F σ B H e hs Q q =>
  h F σ B H e hs _ fun vs ds O1 B1 H1 p1 e1 hs1 rs => ⟨Evl.sz_of (by rw [rs.length]; exact p1.1), fun p hp => by
    refine q _ _ _ _ _ (p1.2 p) e1 (hs1.newOwn (w := .lst ds) hp ⟨vs, upd_same, rs⟩) (.raw _)⟩
theorem e_fld {f : Str} (h : wE K ta ρ O fun x O1 => ∃ C fs d, x = .ins C fs ∧ Cls K C ∧ NoAttr K C f ∧ fs.lookup f = some d ∧ P d O1) : wE K (tFld K ta f) ρ O P := fun F σ B H e hs Q q =>
  h F σ B H e hs _ fun v x O1 B1 H1 p1 e1 hs1 rx => by
    obtain ⟨C, fs, d, rfl, hc, hn, hl, p⟩ := p1
    cases rx with
    | ins hb r =>
      obtain ⟨u, h1, h2⟩ := r.look hl
      exact ⟨_, C, _, _, u, rfl, hs1.ex _ _ hb, hc, hn, h1, (q.ex e1).here hs1 h2 p⟩
/-- a field of an owned instance -/
theorem e_fldO {f : Str} (h : wE K ta ρ O fun x O1 => ∃ a C fs d, x = .loc a ∧ (a, Own.ins C fs) ∈ O1 ∧ Cls K C ∧ NoAttr K C f ∧ fs.lookup f = some d ∧ P d O1) : wE K (tFld K ta f) ρ O P := fun F σ B H e hs Q q =>
  h F σ B H e hs _ fun v x O1 B1 H1 p1 e1 hs1 rx => by
    obtain ⟨a, C, fs, d, rfl, hm, hc, hn, hl, p⟩ := p1
    cases rx
    obtain ⟨dx, vs, h1, r⟩ := (hs1.own _ (List.mem_append_left _ hm)).2
    obtain ⟨u, h2, h3⟩ := r.look hl
    exact ⟨a, C, dx, vs, u, rfl, h1, hc, hn, h2, (q.ex e1).here hs1 h3 p⟩
theorem e_if {t : TT} (h : wT K t ρ O fun b O1 => (b = true → wE K ta ρ O1 P) ∧ (b = false → wE K tb ρ O1 P)) : wE K (tIf t ta tb) ρ O P := fun F σ B H e hs Q q =>
  h F σ B H e hs _ fun b O1 B1 H1 p1 e1 hs1 => by
    cases b with
    | true => exact (if_pos rfl : (if true = true then ta σ H1 Q else tb σ H1 Q) = _) ▸ p1.1 rfl F σ B1 H1 (e.mono e1) hs1 Q (q.ex e1)
    | false => exact (if_neg Bool.false_ne_true : (if false = true then ta σ H1 Q else tb σ H1 Q) = _) ▸ p1.2 rfl F σ B1 H1 (e.mono e1) hs1 Q (q.ex e1)
/-- a and b, a or b, not a, as values -/
theorem e_and (h : wE K ta ρ O fun x O1 => ∃ b, x = .bl b ∧ (b = true → wE K tb ρ O1 P) ∧ (b = false → P (.bl false) O1)) : wE K (tAndV ta tb) ρ O P := fun F σ B H e hs Q q =>
  h F σ B H e hs _ fun v x O1 B1 H1 p1 e1 hs1 rx => by
    obtain ⟨b, rfl, h1, h2⟩ := p1
    cases rx
    refine ⟨b, rfl, ?_⟩
    cases b with
    | true =>
      rw [if_pos rfl]
      exact h1 rfl F σ B1 H1 (e.mono e1) hs1 Q (q.ex e1)
    | false =>
      rw [if_neg Bool.false_ne_true]
      exact (q.ex e1).here hs1 (.raw _) (h2 rfl)
theorem e_or (h : wE K ta ρ O fun x O1 => ∃ b, x = .bl b ∧ (b = false → wE K tb ρ O1 P) ∧ (b = true → P (.bl true) O1)) : wE K (tOrV ta tb) ρ O P := fun F σ B H e hs Q q =>
  h F σ B H e hs _ fun v x O1 B1 H1 p1 e1 hs1 rx => by
    obtain ⟨b, rfl, h1, h2⟩ := p1
    cases rx
    refine ⟨b, rfl, ?_⟩
    cases b with
    | false =>
      rw [if_neg Bool.false_ne_true]
      exact h1 rfl F σ B1 H1 (e.mono e1) hs1 Q (q.ex e1)
    | true =>
      rw [if_pos rfl]
      exact (q.ex e1).here hs1 (.raw _) (h2 rfl)
theorem e_not (h : wE K ta ρ O fun x O1 => ∃ b, x = .bl b ∧ P (.bl (!b)) O1) : wE K (tNotV ta) ρ O P := fun F σ B H e hs Q q =>
  h F σ B H e hs _ fun v x O1 B1 H1 p1 e1 hs1 rx => by
    obtain ⟨b, rfl, p⟩ := p1
    cases rx
    exact ⟨b, rfl, (q.ex e1).here hs1 (.raw _) p⟩
theorem e_isN (h : wE K ta ρ O fun x O1 => (x = .non → P (.bl true) O1) ∧ (x ≠ .non → P (.bl false) O1)) : wE K (tIsN ta) ρ O P := fun F σ B H e hs Q q =>
  h F σ B H e hs _ fun v x O1 B1 H1 p1 e1 hs1 rx => by
    by_cases hx : x = .non
    · subst hx
      cases rx
      have e0 : decide ((V.non : V) = .non) = true := rfl
      exact (q.ex e1).here hs1 (.raw _) (p1.1 rfl)
    · have hv : v ≠ .non := fun z => by
        subst z
        cases rx
        exact hx rfl
      rw [decide_eq_false hv]
      exact (q.ex e1).here hs1 (.raw _) (p1.2 hx)
/-! ### tests -/
variable {PT : Bool → Store → Prop} {t u : TT}
theorem t_test (h : wE K te ρ O fun x O1 => ∃ b, x = .bl b ∧ PT b O1) : wT K (tTest te) ρ O PT := fun F σ B H e hs Q q =>
  h F σ B H e hs _ fun v x O1 B1 H1 p1 e1 hs1 rx => by
    obtain ⟨b, rfl, p⟩ := p1
    cases rx
    exact ⟨b, rfl, q b O1 B1 H1 p e1 hs1⟩
theorem t_B (h : wE K te ρ O fun x O1 => ∃ b, x = .bl b ∧ PT b O1) : wT K (tB te) ρ O PT := fun F σ B H e hs Q q =>
  h F σ B H e hs _ fun v x O1 B1 H1 p1 e1 hs1 rx => by
    obtain ⟨b, rfl, p⟩ := p1
    cases rx
    exact ⟨b, rfl, q b O1 B1 H1 p e1 hs1⟩
theorem t_and (h : wT K t ρ O fun b O1 => (b = true → wT K u ρ O1 PT) ∧ (b = false → PT false O1)) : wT K (tAnd t u) ρ O PT := fun F σ B H e hs Q q =>
  h F σ B H e hs _ fun b O1 B1 H1 p1 e1 hs1 => by
    cases b with
    | true =>
      rw [if_pos rfl]
      exact p1.1 rfl F σ B1 H1 (e.mono e1) hs1 Q (q.ex e1)
    | false =>
      rw [if_neg Bool.false_ne_true]
      exact q false O1 B1 H1 (p1.2 rfl) e1 hs1
theorem t_or (h : wT K t ρ O fun b O1 => (b = false → wT K u ρ O1 PT) ∧ (b = true → PT true O1)) : wT K (tOr t u) ρ O PT := fun F σ B H e hs Q q =>
  h F σ B H e hs _ fun b O1 B1 H1 p1 e1 hs1 => by
    cases b with
    | false =>
      rw [if_neg Bool.false_ne_true]
      exact p1.1 rfl F σ B1 H1 (e.mono e1) hs1 Q (q.ex e1)
    | true =>
      rw [if_pos rfl]
      exact q true O1 B1 H1 (p1.2 rfl) e1 hs1
theorem t_not (h : wT K t ρ O fun b O1 => PT (!b) O1) : wT K (tNot t) ρ O PT := fun F σ B H e hs Q q =>
  h F σ B H e hs _ fun b O1 B1 H1 p1 e1 hs1 => q (!b) O1 B1 H1 p1 e1 hs1
/-! ### operations on plain data -/
theorem r_rI0 {g : Int → Int → V} {i j : Int} (p : P (.raw (g i j)) O) : wR K (rI0 g) (.int i) (.int j) O P := fun F v u B H rx ry hs Q q => by
  cases rx; cases ry
  exact ⟨i, j, rfl, rfl, q.here hs (.raw _) p⟩
theorem r_rI {C : Int → Int → Prop} {g : Int → Int → V} {i j : Int} (hc : C i j) (p : P (.raw (g i j)) O) : wR K (rI C g) (.int i) (.int j) O P := fun F v u B H rx ry hs Q q => by
  cases rx; cases ry
  exact ⟨i, j, rfl, rfl, hc, q.here hs (.raw _) p⟩
theorem r_rU {g : Int → V} {i : Int} (p : P (.raw (g i)) O) : wU K (rU g) (.int i) O P := fun F v B H rx hs Q q => by
  cases rx
  exact ⟨i, rfl, q.here hs (.raw _) p⟩
theorem r_eq {x y : V} (hs : scal x y = true) (p : P (.bl (decide (x = y))) O) : wR K rEq (.raw x) (.raw y) O P := fun F v u B H rx ry h Q q => by
  cases rx; cases ry
  exact ⟨hs, q.here h (.raw _) p⟩
theorem r_ne {x y : V} (hs : scal x y = true) (p : P (.bl (!decide (x = y))) O) : wR K rNe (.raw x) (.raw y) O P := fun F v u B H rx ry h Q q => by
  cases rx; cases ry
  exact ⟨hs, q.here h (.raw _) p⟩
/-- an item of a list, of a tuple -/
theorem atI_map {α β : Type} {xs : List α} {ys : List β} {i : Int} {y : β} (hl : xs.length = ys.length) (h : atI ys i = some y) : ∃ n : Nat, ys[n]? = some y ∧ ∀ x, xs[n]? = some x → atI xs i = some x := by
  unfold atI at h ⊢
  rw [hl]
  cases e : ixN ys.length i with
  | none => rw [e] at h; cases h
  | some n =>
    rw [e] at h
    exact ⟨n, h, fun x hx => hx⟩
theorem r_ixT {ds : List D} {i : Int} {d : D} (h : atI ds i = some d) (p : P d O) : wR K (rIxT K) (.tup ds) (.int i) O P := fun F v u B H rx ry hs Q q => by
  cases ry
  cases rx with
  | tup hb r =>
    obtain ⟨n, h1, h2⟩ := atI_map r.length h
    obtain ⟨x, h3, h4⟩ := r.get h1
    exact ⟨_, _, i, x, rfl, rfl, Evl.ex_t hs.ex hb, h2 x h3, q.here hs h4 p⟩
theorem r_ixL {ds : List D} {i : Int} {d : D} (h : atI ds i = some d) (p : P d O) : wR K (rIxL K) (.lst ds) (.int i) O P := fun F v u B H rx ry hs Q q => by
  cases ry
  cases rx with
  | lst hb r =>
    obtain ⟨n, h1, h2⟩ := atI_map r.length h
    obtain ⟨x, h3, h4⟩ := r.get h1
    exact ⟨_, _, i, x, rfl, rfl, Evl.sq_of (hs.ex _ _ hb), h2 x h3, q.here hs h4 p⟩
theorem r_ixZ {ds : List D} {i : Int} {d : D} (h : atI ds i = some d) (p : P d O) : wR K (rIxL K) (.fz ds) (.int i) O P := fun F v u B H rx ry hs Q q => by
  cases ry
  cases rx with
  | fz hb r =>
    obtain ⟨n, h1, h2⟩ := atI_map r.length h
    obtain ⟨x, h3, h4⟩ := r.get h1
    exact ⟨_, _, i, x, rfl, rfl, Evl.ex_l hs.ex hb, h2 x h3, q.here hs h4 p⟩
/-- an item of an owned list -/
theorem r_ixO {a : Addr} {ds : List D} {i : Int} {d : D} (hm : (a, Own.lst ds) ∈ O) (h : atI ds i = some d) (p : P d O) : wR K (rIxL K) (.loc a) (.int i) O P := fun F v u B H rx ry hs Q q => by
  cases ry; cases rx
  obtain ⟨vs, hb, r⟩ := (hs.own _ (List.mem_append_left _ hm)).2
  obtain ⟨n, h1, h2⟩ := atI_map r.length h
  obtain ⟨x, h3, h4⟩ := r.get h1
  exact ⟨_, _, i, x, rfl, rfl, Evl.sq_of hb, h2 x h3, q.here hs h4 p⟩
theorem r_ixOr1 {x y : D} (h : wR K (rIxL K) x y O P) : wR K (rIx K) x y O P := fun F v u B H rx ry hs Q q => .inl (h F v u B H rx ry hs Q q)
theorem r_ixOr2 {x y : D} (h : wR K (rIxT K) x y O P) : wR K (rIx K) x y O P := fun F v u B H rx ry hs Q q => .inr (.inl (h F v u B H rx ry hs Q q))
/-! ### statements -/
variable {PS : Out → Store → Prop} {ts tu : TS}
def thenP (K : PySem.W.Frag) (tu : TS) (PS : Out → Store → Prop) : Out → Store → Prop
  | .nx ρ, O => wS K tu ρ O PS
  | .ret d, O => PS (.ret d) O
  | .bk ρ, O => PS (.bk ρ) O
  | .ct ρ, O => PS (.ct ρ) O
theorem s_seq (h : wS K ts ρ O (thenP K tu PS)) : wS K (tSeq ts tu) ρ O PS := fun F σ B H e hs Dn q =>
  h F σ B H e hs _ fun o O1 B1 H1 p1 e1 hs1 => by
    cases o with
    | nx ρ1 => exact fun σ1 r1 => p1 F σ1 B1 H1 r1 hs1 Dn (q.ex e1)
    | ret d => exact q (.ret d) O1 B1 H1 p1 e1 hs1
    | bk ρ1 => exact q (.bk ρ1) O1 B1 H1 p1 e1 hs1
    | ct ρ1 => exact q (.ct ρ1) O1 B1 H1 p1 e1 hs1
theorem s_next (p : PS (.nx ρ) O) : wS K tNext ρ O PS := fun F σ B H e hs Dn q => q (.nx ρ) O B H p (Evl.Ex.refl B) hs σ e
theorem s_break (p : PS (.bk ρ) O) : wS K tBreak ρ O PS := fun F σ B H e hs Dn q => q (.bk ρ) O B H p (Evl.Ex.refl B) hs σ e
theorem s_cont (p : PS (.ct ρ) O) : wS K tCont ρ O PS := fun F σ B H e hs Dn q => q (.ct ρ) O B H p (Evl.Ex.refl B) hs σ e
theorem s_asg {i : Nat} (h : wE K te ρ O fun d O1 => PS (.nx (ρ.set i (some d))) O1) : wS K (tAsg te (gName i)) ρ O PS := fun F σ B H e hs Dn q =>
  h F σ B H e hs _ fun v d O1 B1 H1 p1 e1 hs1 r => q _ O1 B1 H1 p1 e1 hs1 _ ((e.mono e1).set i r)
theorem s_drop (h : wE K te ρ O fun _ O1 => PS (.nx ρ) O1) : wS K (tDrop te) ρ O PS := fun F σ B H e hs Dn q =>
  h F σ B H e hs _ fun v d O1 B1 H1 p1 e1 hs1 r => q _ O1 B1 H1 p1 e1 hs1 _ (e.mono e1)
theorem s_ret (h : wE K te ρ O fun d O1 => PS (.ret d) O1) : wS K (tRet te) ρ O PS := fun F σ B H e hs Dn q =>
  h F σ B H e hs _ fun v d O1 B1 H1 p1 e1 hs1 r => q _ O1 B1 H1 p1 e1 hs1 v r
theorem s_retN (p : PS (.ret .non) O) : wS K tRetN ρ O PS := fun F σ B H e hs Dn q => q _ O B H p (Evl.Ex.refl B) hs _ (.raw _)
theorem s_if (h : wT K t ρ O fun b O1 => (b = true → wS K ts ρ O1 PS) ∧ (b = false → wS K tu ρ O1 PS)) : wS K (tIfS t ts tu) ρ O PS := fun F σ B H e hs Dn q =>
  h F σ B H e hs _ fun b O1 B1 H1 p1 e1 hs1 => by
    cases b with
    | true =>
      rw [if_pos rfl]
      exact p1.1 rfl F σ B1 H1 (e.mono e1) hs1 Dn (q.ex e1)
    | false =>
      rw [if_neg Bool.false_ne_true]
      exact p1.2 rfl F σ B1 H1 (e.mono e1) hs1 Dn (q.ex e1)
theorem s_fld {f : Str} {tv : TE} (h : wE K tv ρ O fun y O1 => wE K ta ρ O1 fun x O2 => ∃ a C fs O3, x = .loc a ∧ Put a (.ins C fs) (.ins C (putD f y fs)) O2 O3 ∧ Cls K C ∧ NoAttr K C f ∧ fs.length < 1000 ∧ PS (.nx ρ) O3) :
    wS K (sFld K ta tv f) ρ O PS := fun F σ B H e hs Dn q =>
  h F σ B H e hs _ fun v y O1 B1 H1 p1 e1 hs1 ry => p1 F σ B1 H1 (e.mono e1) hs1 _ fun u x O2 B2 H2 p2 e2 hs2 rx => by
    obtain ⟨a, C, fs, O3, rfl, hp, hc, hn, hl, p⟩ := p2
    cases rx
    obtain ⟨dx, vs, h1, r⟩ := (hs2.own _ (List.mem_append_left _ hp.mem)).2
    refine ⟨a, C, dx, vs, rfl, h1, hc, hn, by rw [r.length]; exact hl, ?_⟩
    have hs3 := hs2.write (o := .ins C dx (putF f v vs)) (hp.appR (F := F)) ⟨dx, _, upd_same, r.put (ry.mono e2)⟩
    exact q (.nx ρ) O3 B2 _ p (e1.trans e2) hs3 σ ((e.mono e1).mono e2)
/-- an owned list is known from now on: its slots hold a list that never changes -/
def frz (a : Addr) (ds : List D) : Rho → Rho := List.map fun o => match o with
  | some (.raw (.ref b)) => if b = a then some (.lst ds) else some (.loc b)
  | o => o
theorem s_freeze {a : Addr} {ds : List D} {O' : Store} (hp : Pick a (.lst ds) O O') (h : wS K ts (frz a ds ρ) O' PS) : wS K ts ρ O PS := fun F σ B H e hs Dn q => by
  have p1 : (O ++ F).Perm ((a, Own.lst ds) :: (O' ++ F)) := hp.perm.append_right F
  have hs1 := hs.perm p1
  obtain ⟨vs, h1, r⟩ := (hs1.own _ List.mem_cons_self).2
  obtain ⟨hs2, e2⟩ := hs1.freeze h1
  refine h F σ _ H ⟨by rw [e.len]; unfold frz; rw [List.length_map], fun i d hd => ?_⟩ hs2 Dn (q.ex e2)
  unfold frz at hd
  rw [List.getElem?_map] at hd
  cases hi : ρ[i]? with
  | none => rw [hi] at hd; cases hd
  | some o =>
    rw [hi] at hd
    cases o with
    | none => cases hd
    | some x =>
      obtain ⟨v, hv, rv⟩ := e.get i x hi
      refine ⟨v, hv, ?_⟩
      have done : d = x → Rep K (upd B a (.lst vs)) v d := fun z => by rw [z]; exact rv.mono e2
      cases x with
      | tup l => exact done (by simp at hd; exact hd.symm)
      | lst l => exact done (by simp at hd; exact hd.symm)
      | fz l => exact done (by simp at hd; exact hd.symm)
      | ins C l => exact done (by simp at hd; exact hd.symm)
      | raw w =>
        cases w with
        | ref b =>
          by_cases hb : b = a
          · subst hb
            simp at hd
            subst hd
            cases rv
            exact .lst upd_same (r.mono e2)
          · simp [hb] at hd
            exact done hd.symm
        | non => exact done (by simp at hd; exact hd.symm)
        | bl _ => exact done (by simp at hd; exact hd.symm)
        | int _ => exact done (by simp at hd; exact hd.symm)
        | str _ => exact done (by simp at hd; exact hd.symm)
        | byt _ => exact done (by simp at hd; exact hd.symm)
        | flt _ => exact done (by simp at hd; exact hd.symm)
        | ty _ => exact done (by simp at hd; exact hd.symm)
theorem s_frz {a : Addr} {ds : List D} {O' : Store} {ρ' : Rho} (hp : Pick a (.lst ds) O O') (hρ : frz a ds ρ = ρ') (h : wS K ts ρ' O' PS) : wS K ts ρ O PS := s_freeze hp (by rw [hρ]; exact h)
theorem s_sub {ρ' : Rho} (s : Sub ρ' ρ) (h : wS K ts ρ' O PS) : wS K ts ρ O PS := fun F σ B H e hs Dn q => h F σ B H (e.sub s) hs Dn q
theorem wS.mono {PS' : Out → Store → Prop} (h : wS K ts ρ O PS) (m : ∀ o O', PS o O' → PS' o O') : wS K ts ρ O PS' := fun F σ B H e hs Dn q => h F σ B H e hs Dn fun o O' B2 H2 p => q o O' B2 H2 (m _ _ p)
theorem wE.mono {P' : D → Store → Prop} (h : wE K te ρ O P) (m : ∀ d O', P d O' → P' d O') : wE K te ρ O P' := fun F σ B H e hs Q q => h F σ B H e hs Q fun v d O' B2 H2 p => q v d O' B2 H2 (m _ _ p)
/-- xs.append(e), xs owned -/
theorem e_append (h : wE K ta ρ O fun x O1 => ∃ a ds0, x = .loc a ∧ (a, Own.lst ds0) ∈ O1 ∧ wE K te ρ O1 fun y O2 => ∃ ds O3, ds.length < 100000 ∧ Put a (.lst ds) (.lst (ds ++ [y])) O2 O3 ∧ P .non O3) :
    wE K (tBM K "list" rAppend ta (tCons te tNil)) ρ O P := fun F σ B H e hs Q q => by
  refine h F σ B H e hs _ fun v x O1 B1 H1 p1 e1 hs1 rx => ?_
  obtain ⟨a, ds0, rfl, hm, p1⟩ := p1
  cases rx
  obtain ⟨vs0, h0, _⟩ := (hs1.own _ (List.mem_append_left _ hm)).2
  refine ⟨Or.inl ⟨rfl, vs0, Evl.sq_of h0⟩, ?_⟩
  refine p1 F σ B1 H1 (e.mono e1) hs1 _ fun u y O2 B2 H2 p2 e2 hs2 ry => ?_
  obtain ⟨ds, O3, hl, hp, p⟩ := p2
  obtain ⟨vs, h1, r⟩ := (hs2.own _ (List.mem_append_left _ hp.mem)).2
  refine ⟨a, vs, u, rfl, rfl, h1, Evl.sz_lt (by rw [r.length]; exact hl), ?_⟩
  have hs3 := hs2.write (o := .lst (vs ++ [u])) (hp.appR (F := F)) ⟨_, upd_same, r.append (.cons ry .nil)⟩
  exact q _ _ O3 B2 _ p (e1.trans e2) hs3 (.raw _)
/-- xs.extend(ys), xs owned, ys a list that never changes -/
theorem e_extend (h : wE K ta ρ O fun x O1 => ∃ a ds0, x = .loc a ∧ (a, Own.lst ds0) ∈ O1 ∧ wE K te ρ O1 fun y O2 => ∃ ds es O3, y = .lst es ∧ ds.length + es.length ≤ 100000 ∧ Put a (.lst ds) (.lst (ds ++ es)) O2 O3 ∧ P .non O3) :
    wE K (tBM K "list" rExtend ta (tCons te tNil)) ρ O P := fun F σ B H e hs Q q => by
  refine h F σ B H e hs _ fun v x O1 B1 H1 p1 e1 hs1 rx => ?_
  obtain ⟨a, ds0, rfl, hm, p1⟩ := p1
  cases rx
  obtain ⟨vs0, h0, _⟩ := (hs1.own _ (List.mem_append_left _ hm)).2
  refine ⟨Or.inl ⟨rfl, vs0, Evl.sq_of h0⟩, ?_⟩
  refine p1 F σ B1 H1 (e.mono e1) hs1 _ fun u y O2 B2 H2 p2 e2 hs2 ry => ?_
  obtain ⟨ds, es, O3, rfl, hl, hp, p⟩ := p2
  obtain ⟨vs, h1, r⟩ := (hs2.own _ (List.mem_append_left _ hp.mem)).2
  cases ry with
  | lst hb rb =>
    refine ⟨a, _, vs, _, rfl, rfl, h1, hs2.ex _ _ hb, Evl.sz_of (by rw [r.length, rb.length]; exact hl), ?_⟩
    have hs3 := hs2.write (o := .lst (vs ++ _)) (hp.appR (F := F)) ⟨_, upd_same, r.append rb⟩
    exact q _ _ O3 B2 _ p (e1.trans e2) hs3 (.raw _)
/-- xs[i] = e, xs owned -/
theorem s_setL {ti : TE} (h : wE K te ρ O fun y O1 => wE K ta ρ O1 fun x O2 => wE K ti ρ O2 fun z O3 => ∃ a i ds n O4, x = .loc a ∧ z = .int i ∧ ixN ds.length i = some n ∧ Put a (.lst ds) (.lst (ds.set n y)) O3 O4 ∧ PS (.nx ρ) O4) :
    wS K (tAsg te (gSub ta ti rSetL)) ρ O PS := fun F σ B H e hs Dn q => by
  refine h F σ B H e hs _ fun v y O1 B1 H1 p1 e1 hs1 ry => ?_
  refine p1 F σ B1 H1 (e.mono e1) hs1 _ fun u x O2 B2 H2 p2 e2 hs2 rx => ?_
  refine p2 F σ B2 H2 ((e.mono e1).mono e2) hs2 _ fun w z O3 B3 H3 p3 e3 hs3 rz => ?_
  obtain ⟨a, i, ds, n, O4, rfl, rfl, hi, hp, p⟩ := p3
  cases rx; cases rz
  obtain ⟨vs, h1, r⟩ := (hs3.own _ (List.mem_append_left _ hp.mem)).2
  refine ⟨a, vs, i, n, rfl, rfl, h1, by rw [r.length]; exact hi, ?_⟩
  have hs4 := hs3.write (o := .lst (vs.set n v)) (hp.appR (F := F)) ⟨_, upd_same, r.set n ((ry.mono e2).mono e3)⟩
  exact q (.nx ρ) O4 B3 _ p ((e1.trans e2).trans e3) hs4 σ (((e.mono e1).mono e2).mono e3)
end
end G
namespace G
open PySem L2 PySem.Spec PyProof.Rows
/-! ### targets -/
def wG (K : PySem.W.Frag) (g : TG) (d : D) (ρ : Rho) (O : Store) (P : Rho → Store → Prop) : Prop :=
  ∀ F v σ B H, EnvR K B σ ρ → Hs K B H (O ++ F) → Rep K B v d → ∀ Q : L2.St → Hp → Prop, (∀ σ' ρ' O' B2 H2, P ρ' O' → Ex B B2 → Hs K B2 H2 (O' ++ F) → EnvR K B2 σ' ρ' → Q σ' H2) → g v σ H Q
def wGs (K : PySem.W.Frag) (g : TGs) (ds : List D) (ρ : Rho) (O : Store) (P : Rho → Store → Prop) : Prop :=
  ∀ F vs σ B H, EnvR K B σ ρ → Hs K B H (O ++ F) → Reps K B vs ds → ∀ Q : L2.St → Hp → Prop, (∀ σ' ρ' O' B2 H2, P ρ' O' → Ex B B2 → Hs K B2 H2 (O' ++ F) → EnvR K B2 σ' ρ' → Q σ' H2) → g vs σ H Q
/-- only the slots vs are turned -/
def Outside (vs : List Nat) (σ σ' : L2.St) : Prop := σ'.length = σ.length ∧ ∀ i, i ∉ vs → σ'[i]? = σ[i]?
def GOnly (g : TG) (vs : List Nat) : Prop := ∀ v σ H Q, g v σ H Q → g v σ H fun σ' H' => Outside vs σ σ' ∧ Q σ' H'
def GsOnly (g : TGs) (vs : List Nat) : Prop := ∀ v σ H Q, g v σ H Q → g v σ H fun σ' H' => Outside vs σ σ' ∧ Q σ' H'
theorem Outside.refl (vs : List Nat) (σ : L2.St) : Outside vs σ σ := ⟨rfl, fun _ _ => rfl⟩
theorem Outside.trans {vs : List Nat} {σ σ1 σ2 : L2.St} (a : Outside vs σ σ1) (b : Outside vs σ1 σ2) : Outside vs σ σ2 := ⟨b.1.trans a.1, fun i h => (b.2 i h).trans (a.2 i h)⟩
theorem Outside.set {vs : List Nat} {σ : L2.St} {i : Nat} {o : Option V} (h : i ∈ vs) : Outside vs σ (σ.set i o) := ⟨List.length_set, fun j hj => List.getElem?_set_ne (fun e => hj (by rw [← e]; exact h))⟩
theorem wipe_get {σ : L2.St} : ∀ {vs : List Nat} {i : Nat}, (L2.wipe σ vs)[i]? = if i ∈ vs then (σ[i]?).map (fun _ => none) else σ[i]?
  | [], i => by simp [L2.wipe]
  | v :: vs, i => by
    show ((L2.wipe σ vs).set v none)[i]? = _
    by_cases h : v = i
    · subst h
      rw [List.getElem?_set, if_pos rfl]
      have hl : (L2.wipe σ vs).length = σ.length := L2.wipe_length σ vs
      by_cases h2 : v < σ.length
      · rw [if_pos (by rw [hl]; exact h2), if_pos (List.mem_cons_self), List.getElem?_eq_getElem h2]
        rfl
      · rw [if_neg (by rw [hl]; exact h2), if_pos (List.mem_cons_self), List.getElem?_eq_none (by omega)]
        rfl
    · rw [List.getElem?_set_ne h, wipe_get]
      have : (i ∈ v :: vs) ↔ i ∈ vs := by
        rw [List.mem_cons]
        constructor
        · rintro (e | e)
          · exact absurd e.symm h
          · exact e
        · exact .inr
      by_cases h3 : i ∈ vs
      · rw [if_pos h3, if_pos (this.mpr h3)]
      · rw [if_neg h3, if_neg (fun z => h3 (this.mp z))]
theorem wipe_same {σ σ' : L2.St} {vs : List Nat} (h : Outside vs (L2.wipe σ vs) σ') : L2.wipe σ' vs = L2.wipe σ vs := by
  apply List.ext_getElem?
  intro i
  rw [wipe_get, wipe_get]
  by_cases hi : i ∈ vs
  · rw [if_pos hi, if_pos hi]
    have hl : σ'.length = σ.length := by rw [h.1, L2.wipe_length]
    by_cases h2 : i < σ.length
    · rw [List.getElem?_eq_getElem h2, List.getElem?_eq_getElem (by omega)]
      rfl
    · rw [List.getElem?_eq_none (by omega), List.getElem?_eq_none (by omega)]
  · rw [if_neg hi, if_neg hi, h.2 i hi, wipe_get, if_neg hi]
theorem go_name {i : Nat} {vs : List Nat} (h : i ∈ vs) : GOnly (gName i) vs := fun v σ H Q q => ⟨Outside.set h, q⟩
theorem gs_nil {vs : List Nat} : GsOnly gNil vs := fun v σ H Q q => ⟨q.1, Outside.refl _ _, q.2⟩
section
variable {K : PySem.W.Frag} {ρ : Rho} {O O1 : Store} {vs : List Nat}
/-- a target's reading goes on under a weaker end -/
def GMono (g : TG) : Prop := ∀ v σ H Q Q', (∀ σ' H', Q σ' H' → Q' σ' H') → g v σ H Q → g v σ H Q'
def GsMono (g : TGs) : Prop := ∀ v σ H Q Q', (∀ σ' H', Q σ' H' → Q' σ' H') → g v σ H Q → g v σ H Q'
theorem gm_name {i : Nat} : GMono (gName i) := fun v σ H Q Q' m q => m _ _ q
theorem gms_nil : GsMono gNil := fun v σ H Q Q' m q => ⟨q.1, m _ _ q.2⟩
theorem gms_cons {g : TG} {u : TGs} (hg : GMono g) (hu : GsMono u) : GsMono (gCons g u) := fun v σ H Q Q' m q => by
  obtain ⟨x, r, e, q⟩ := q
  exact ⟨x, r, e, hg _ _ _ _ _ (fun σ' H' z => hu _ _ _ _ _ m z) q⟩
theorem gs_cons {g : TG} {u : TGs} (hg : GOnly g vs) (mg : GMono g) (hu : GsOnly u vs) (mu : GsMono u) : GsOnly (gCons g u) vs := fun v σ H Q q => by
  obtain ⟨x, r, e, q⟩ := q
  refine ⟨x, r, e, mg _ _ _ _ _ (fun σ' H' z => ?_) (hg _ _ _ _ q)⟩
  refine mu _ _ _ _ _ (fun σ2 H2 z2 => ⟨z.1.trans z2.1, z2.2⟩) (hu _ _ _ _ z.2)
theorem go_tup {n : Nat} {u : TGs} (hu : GsOnly u vs) : GOnly (gTup K n u) vs := fun v σ H Q q => by
  obtain ⟨a, xs, e, h, l, q⟩ := q
  exact ⟨a, xs, e, h, l, hu _ _ _ _ q⟩
theorem g_name {i : Nat} {d : D} {P : Rho → Store → Prop} (p : P (ρ.set i (some d)) O) : wG K (gName i) d ρ O P := fun F v σ B H e hs r Q q => q _ _ O B H p (Evl.Ex.refl B) hs (e.set i r)
theorem gs_nil' {P : Rho → Store → Prop} (p : P ρ O) : wGs K gNil [] ρ O P := fun F v σ B H e hs r Q q => by
  cases r
  exact ⟨rfl, q _ _ O B H p (Evl.Ex.refl B) hs e⟩
theorem gs_cons' {g : TG} {u : TGs} {d : D} {ds : List D} {P : Rho → Store → Prop} (h : wG K g d ρ O fun ρ1 O1 => wGs K u ds ρ1 O1 P) : wGs K (gCons g u) (d :: ds) ρ O P := fun F v σ B H e hs r Q q => by
  cases r with
  | cons rv rr => exact ⟨_, _, rfl, h F _ σ B H e hs rv _ fun σ1 ρ1 O1 B1 H1 p1 e1 hs1 r1 => p1 F _ σ1 B1 H1 r1 hs1 (rr.mono e1) Q fun σ2 ρ2 O2 B2 H2 p2 e2 => q σ2 ρ2 O2 B2 H2 p2 (e1.trans e2)⟩
theorem g_tup {n : Nat} {u : TGs} {ds : List D} {P : Rho → Store → Prop} (hl : ds.length = n) (h : wGs K u ds ρ O P) : wG K (gTup K n u) (.tup ds) ρ O P := fun F v σ B H e hs r Q q => by
  cases r with
  | tup hb rr => exact ⟨_, _, rfl, Evl.ex_t hs.ex hb, by rw [rr.length]; exact hl, h F _ σ B H e hs rr Q q⟩
theorem g_lst {n : Nat} {u : TGs} {ds : List D} {P : Rho → Store → Prop} (hl : ds.length = n) (h : wGs K u ds ρ O P) : wG K (gLst K n u) (.lst ds) ρ O P := fun F v σ B H e hs r Q q => by
  cases r with
  | lst hb rr => exact ⟨_, _, rfl, Evl.sq_of (hs.ex _ _ hb), by rw [rr.length]; exact hl, h F _ σ B H e hs rr Q q⟩
theorem s_asgG {te : TE} {g : TG} {PS : Out → Store → Prop} (h : wE K te ρ O fun d O1 => wG K g d ρ O1 fun ρ2 O2 => PS (.nx ρ2) O2) : wS K (tAsg te g) ρ O PS := fun F σ B H e hs Dn q =>
  h F σ B H e hs _ fun v d O1 B1 H1 p1 e1 hs1 r => p1 F v σ B1 H1 (e.mono e1) hs1 r _ fun σ2 ρ2 O2 B2 H2 p2 e2 hs2 r2 => q _ O2 B2 H2 p2 (e1.trans e2) hs2 σ2 r2
/-- a, b = e1, e2 -/
theorem s_par {i j : Nat} {ta : TA} {PS : Out → Store → Prop} (h : wA K ta ρ O fun ds O1 => ∃ x y, ds = [x, y] ∧ PS (.nx ((ρ.set i (some x)).set j (some y))) O1) : wS K (tPar i j ta) ρ O PS := fun F σ B H e hs Dn q =>
  h F σ B H e hs _ fun vs ds O1 B1 H1 p1 e1 hs1 r => by
    obtain ⟨x, y, rfl, p⟩ := p1
    cases r with
    | cons r1 r =>
      cases r with
      | cons r2 r =>
        cases r
        exact ⟨_, _, rfl, q _ O1 B1 H1 p e1 hs1 _ (((e.mono e1).set i r1).set j r2)⟩
end
/-! ### what is walked -/
def ItOk (K : PySem.W.Frag) (B : Hp) (J : It) (ds : List D) : Prop := ∀ B' H' O, Ex B B' → Hs K B' H' O → ∀ i,
  (∀ d, ds[i]? = some d → J.go i H' ∧ ∀ x H2, J.yld i H' x H2 → ∃ B2, Ex B' B2 ∧ Hs K B2 H2 O ∧ Rep K B2 x d) ∧ (ds[i]? = none → J.stop i H')
def wI (K : PySem.W.Frag) (wi : TI) (ρ : Rho) (O : Store) (P : List D → Store → Prop) : Prop :=
  ∀ F σ B H, EnvR K B σ ρ → Hs K B H (O ++ F) → ∀ R : It → Hp → Prop, (∀ J ds O' B2 H2, P ds O' → Ex B B2 → Hs K B2 H2 (O' ++ F) → ItOk K B2 J ds → R J H2) → wi σ H R
section
variable {K : PySem.W.Frag} {ρ : Rho} {O O1 : Store} {P : List D → Store → Prop}
theorem sq_one {a : Addr} {xs ys : List V} {H : Hp} (h : H a = some (.lst xs)) (h' : H a = some (.lst ys)) : xs = ys := by
  rw [h] at h'
  cases h'
  rfl
theorem itOk_list {B : Hp} {a : Addr} {xs : List V} {ds : List D} (h : B a = some (.lst xs)) (r : Reps K B xs ds) : ItOk K B (Itl K a) ds := fun B' H' O e hs i => by
  have h' : SqL K H' a xs := Evl.sq_of (hs.ex _ _ (e _ _ h))
  refine ⟨fun d hd => ?_, fun hd => ⟨xs, h', by rw [r.length]; exact List.getElem?_eq_none_iff.mp hd⟩⟩
  obtain ⟨v, hv, rv⟩ := r.get hd
  refine ⟨⟨xs, v, h', hv⟩, fun x H2 y => ?_⟩
  obtain ⟨rfl, y⟩ := y
  have := y xs h'
  rw [hv] at this
  cases this
  exact ⟨B', Evl.Ex.refl _, hs, rv.mono e⟩
theorem itOk_fz {B : Hp} {a : Addr} {xs : List V} {ds : List D} (h : SqL K B a xs) (r : Reps K B xs ds) : ItOk K B (Itl K a) ds := fun B' H' O e hs i => by
  have h' : SqL K H' a xs := Evl.ex_l hs.ex (Evl.ex_l e h)
  refine ⟨fun d hd => ?_, fun hd => ⟨xs, h', by rw [r.length]; exact List.getElem?_eq_none_iff.mp hd⟩⟩
  obtain ⟨v, hv, rv⟩ := r.get hd
  refine ⟨⟨xs, v, h', hv⟩, fun x H2 y => ?_⟩
  obtain ⟨rfl, y⟩ := y
  have := y xs h'
  rw [hv] at this
  cases this
  exact ⟨B', Evl.Ex.refl _, hs, rv.mono e⟩
theorem itOk_tup {B : Hp} {a : Addr} {xs : List V} {ds : List D} (h : SqT K B a xs) (r : Reps K B xs ds) : ItOk K B (Itt K a) ds := fun B' H' O e hs i => by
  have h' : SqT K H' a xs := Evl.ex_t hs.ex (Evl.ex_t e h)
  refine ⟨fun d hd => ?_, fun hd => ⟨xs, h', by rw [r.length]; exact List.getElem?_eq_none_iff.mp hd⟩⟩
  obtain ⟨v, hv, rv⟩ := r.get hd
  refine ⟨⟨xs, v, h', hv⟩, fun x H2 y => ?_⟩
  obtain ⟨rfl, y⟩ := y
  have := y xs h'
  rw [hv] at this
  cases this
  exact ⟨B', Evl.Ex.refl _, hs, rv.mono e⟩
def rangeD (lo : Int) (n : Nat) : List D := (List.range n).map fun (i : Nat) => D.int (lo + (i : Int))
theorem rangeD_get {lo : Int} {n i : Nat} {d : D} (h : (rangeD lo n)[i]? = some d) : i < n ∧ d = D.int (lo + i) := by
  unfold rangeD at h
  rw [List.getElem?_map] at h
  by_cases hi : i < n
  · rw [List.getElem?_range hi] at h
    simp at h
    exact ⟨hi, h.symm⟩
  · rw [List.getElem?_eq_none (by rw [List.length_range]; omega)] at h
    cases h
theorem rangeD_len {lo : Int} {n : Nat} : (rangeD lo n).length = n := by unfold rangeD; rw [List.length_map, List.length_range]
theorem itOk_range {B : Hp} {lo : Int} {n : Nat} : ItOk K B (Itr lo n) (rangeD lo n) := fun B' H' O e hs i => by
  refine ⟨fun d hd => ?_, fun hd => ?_⟩
  · obtain ⟨h1, rfl⟩ := rangeD_get hd
    refine ⟨h1, fun x H2 y => ?_⟩
    obtain ⟨rfl, rfl⟩ := y
    exact ⟨B', Evl.Ex.refl _, hs, .raw _⟩
  · have := List.getElem?_eq_none_iff.mp hd
    rw [rangeD_len] at this
    exact this
theorem i_list {tl : TE} (h : wE K tl ρ O fun d O1 => ∃ ds, d = .lst ds ∧ P ds O1) : wI K (iList K tl) ρ O P := fun F σ B H e hs R q =>
  h F σ B H e hs _ fun v d O1 B1 H1 p1 e1 hs1 r => by
    obtain ⟨ds, rfl, p⟩ := p1
    cases r with
    | lst hb r => exact ⟨_, rfl, ⟨_, Evl.sq_of (hs1.ex _ _ hb)⟩, q _ ds O1 B1 H1 p e1 hs1 (itOk_list hb r)⟩
theorem i_fz {tl : TE} (h : wE K tl ρ O fun d O1 => ∃ ds, d = .fz ds ∧ P ds O1) : wI K (iList K tl) ρ O P := fun F σ B H e hs R q =>
  h F σ B H e hs _ fun v d O1 B1 H1 p1 e1 hs1 r => by
    obtain ⟨ds, rfl, p⟩ := p1
    cases r with
    | fz hb r => exact ⟨_, rfl, ⟨_, Evl.ex_l hs1.ex hb⟩, q _ ds O1 B1 H1 p e1 hs1 (itOk_fz hb r)⟩
theorem i_tup {tl : TE} (h : wE K tl ρ O fun d O1 => ∃ ds, d = .tup ds ∧ P ds O1) : wI K (iTup K tl) ρ O P := fun F σ B H e hs R q =>
  h F σ B H e hs _ fun v d O1 B1 H1 p1 e1 hs1 r => by
    obtain ⟨ds, rfl, p⟩ := p1
    cases r with
    | tup hb r => exact ⟨_, rfl, ⟨_, Evl.ex_t hs1.ex hb⟩, q _ ds O1 B1 H1 p e1 hs1 (itOk_tup hb r)⟩
theorem i_rng1 {ta : TA} (h : wA K ta ρ O fun ds O1 => ∃ n : Int, ds = [.int n] ∧ -(2 ^ 62) ≤ n ∧ n < 2 ^ 62 ∧ P (rangeD 0 n.toNat) O1) : wI K (iRng1 ta) ρ O P := fun F σ B H e hs R q =>
  h F σ B H e hs _ fun vs ds O1 B1 H1 p1 e1 hs1 r => by
    obtain ⟨n, rfl, h1, h2, p⟩ := p1
    cases r with
    | cons r1 r =>
      cases r; cases r1
      exact ⟨n, rfl, h1, h2, q _ _ O1 B1 H1 p e1 hs1 itOk_range⟩
theorem i_rng2 {ta : TA} (h : wA K ta ρ O fun ds O1 => ∃ lo n : Int, ds = [.int lo, .int n] ∧ (-(2 ^ 62) ≤ lo ∧ lo < 2 ^ 62 ∧ -(2 ^ 62) ≤ n ∧ n < 2 ^ 62) ∧ P (rangeD lo (n - lo).toNat) O1) : wI K (iRng2 ta) ρ O P := fun F σ B H e hs R q =>
  h F σ B H e hs _ fun vs ds O1 B1 H1 p1 e1 hs1 r => by
    obtain ⟨lo, n, rfl, h1, p⟩ := p1
    cases r with
    | cons r1 r =>
      cases r with
      | cons r2 r =>
        cases r; cases r1; cases r2
        exact ⟨lo, n, rfl, h1, q _ _ O1 B1 H1 p e1 hs1 itOk_range⟩
def zipD : List D → List D → List D
  | x :: xs, y :: ys => .tup [x, y] :: zipD xs ys
  | _, _ => []
theorem zipD_len : ∀ (xs ys : List D), (zipD xs ys).length = min xs.length ys.length
  | [], _ => by simp [zipD]
  | _ :: _, [] => by simp [zipD]
  | x :: xs, y :: ys => by
    show (zipD xs ys).length + 1 = _
    rw [zipD_len xs ys, List.length_cons, List.length_cons]
    omega
theorem zipD_get : ∀ {xs ys : List D} {i : Nat} {d : D}, (zipD xs ys)[i]? = some d → ∃ x y, xs[i]? = some x ∧ ys[i]? = some y ∧ d = .tup [x, y]
  | [], _, _, _, h => by simp [zipD] at h
  | _ :: _, [], _, _, h => by simp [zipD] at h
  | x :: xs, y :: ys, 0, d, h => ⟨x, y, rfl, rfl, by simp [zipD] at h; exact h.symm⟩
  | x :: xs, y :: ys, i + 1, d, h => by
    have h' : (zipD xs ys)[i]? = some d := by simpa [zipD] using h
    obtain ⟨a, b, h1, h2, h3⟩ := zipD_get h'
    exact ⟨a, b, by simpa using h1, by simpa using h2, h3⟩
theorem itOk_zipT {B : Hp} {a b : Addr} {xs ys : List V} {ds es : List D} (h : SqT K B a xs) (r : Reps K B xs ds) (h2 : SqT K B b ys) (r2 : Reps K B ys es) : ItOk K B (RZ.ItzT K a b) (zipD ds es) := fun B' H' O e hs i => by
  have h' : SqT K H' a xs := Evl.ex_t hs.ex (Evl.ex_t e h)
  have h2' : SqT K H' b ys := Evl.ex_t hs.ex (Evl.ex_t e h2)
  refine ⟨fun d hd => ?_, fun hd => ⟨xs, ys, h', h2', ?_⟩⟩
  · obtain ⟨x, y, hx, hy, rfl⟩ := zipD_get hd
    obtain ⟨v, hv, rv⟩ := r.get hx
    obtain ⟨u, hu, ru⟩ := r2.get hy
    refine ⟨⟨xs, ys, v, u, h', h2', hv, hu⟩, fun z H2 q => ?_⟩
    obtain ⟨T, v', u', rfl, hT, rfl, q1, q2⟩ := q
    have e1 := q1 xs h'
    have e2 := q2 ys h2'
    rw [hv] at e1
    rw [hu] at e2
    cases e1; cases e2
    obtain ⟨hs2, ex2⟩ := hs.new (o := .tup [v, u]) hT
    exact ⟨_, ex2, hs2, .tup (Evl.st_of upd_same) (.cons ((rv.mono e).mono ex2) (.cons ((ru.mono e).mono ex2) .nil))⟩
  · have := List.getElem?_eq_none_iff.mp hd
    rw [zipD_len] at this
    rw [r.length, r2.length]
    omega
theorem itOk_zipL {B : Hp} {a b : Addr} {xs ys : List V} {ds es : List D} (h : B a = some (.lst xs)) (r : Reps K B xs ds) (h2 : B b = some (.lst ys)) (r2 : Reps K B ys es) : ItOk K B (Itz K a b) (zipD ds es) := fun B' H' O e hs i => by
  have h' : SqL K H' a xs := Evl.sq_of (hs.ex _ _ (e _ _ h))
  have h2' : SqL K H' b ys := Evl.sq_of (hs.ex _ _ (e _ _ h2))
  refine ⟨fun d hd => ?_, fun hd => ⟨xs, ys, h', h2', ?_⟩⟩
  · obtain ⟨x, y, hx, hy, rfl⟩ := zipD_get hd
    obtain ⟨v, hv, rv⟩ := r.get hx
    obtain ⟨u, hu, ru⟩ := r2.get hy
    refine ⟨⟨xs, ys, v, u, h', h2', hv, hu⟩, fun z H2 q => ?_⟩
    obtain ⟨T, v', u', rfl, hT, rfl, q1, q2⟩ := q
    have e1 := q1 xs h'
    have e2 := q2 ys h2'
    rw [hv] at e1
    rw [hu] at e2
    cases e1; cases e2
    obtain ⟨hs2, ex2⟩ := hs.new (o := .tup [v, u]) hT
    exact ⟨_, ex2, hs2, .tup (Evl.st_of upd_same) (.cons ((rv.mono e).mono ex2) (.cons ((ru.mono e).mono ex2) .nil))⟩
  · have := List.getElem?_eq_none_iff.mp hd
    rw [zipD_len] at this
    rw [r.length, r2.length]
    omega
theorem i_zip {ta : TA} (h : wA K ta ρ O fun ds O1 => ∃ xs ys, (ds = [.tup xs, .tup ys] ∨ ds = [.lst xs, .lst ys]) ∧ P (zipD xs ys) O1) : wI K (RZ.iZipA K ta) ρ O P := fun F σ B H e hs R q =>
  h F σ B H e hs _ fun vs ds O1 B1 H1 p1 e1 hs1 r => by
    obtain ⟨xs, ys, hd, p⟩ := p1
    rcases hd with rfl | rfl
    · cases r with
      | cons r1 r =>
        cases r with
        | cons r2 r =>
          cases r
          cases r1 with
          | tup ha ra =>
            cases r2 with
            | tup hb rb => exact ⟨_, _, _, _, rfl, .inr ⟨Evl.ex_t hs1.ex ha, Evl.ex_t hs1.ex hb, q _ _ O1 B1 H1 p e1 hs1 (itOk_zipT ha ra hb rb)⟩⟩
    · cases r with
      | cons r1 r =>
        cases r with
        | cons r2 r =>
          cases r
          cases r1 with
          | lst ha ra =>
            cases r2 with
            | lst hb rb => exact ⟨_, _, _, _, rfl, .inl ⟨Evl.sq_of (hs1.ex _ _ ha), Evl.sq_of (hs1.ex _ _ hb), q _ _ O1 B1 H1 p e1 hs1 (itOk_zipL ha ra hb rb)⟩⟩
/-- over a list or a tuple, whichever it is -/
def iSeq (K : PySem.W.Frag) (tl : TE) : TI := fun σ H R => tl σ H fun x H1 => ∃ a, x = .ref a ∧ (((∃ xs, SqL K H1 a xs) ∧ R (Itl K a) H1) ∨ ((∃ xs, SqT K H1 a xs) ∧ R (Itt K a) H1))
theorem pi_seq {X : Cx} {tg l : Expr} {tl : TE} (hl : PE X l tl) : PI X tg l (iSeq X.K tl) := ⟨fun pins s σ H R I h => by
  refine thn (hl.run pins s σ H _ I h) ?_
  rintro v s1 ⟨x, H1, I1, r1, a, rfl, q1⟩
  cases r1
  have fresh : FpOk X pins H1 s1.heap.objs.size := I1.fpOk (Nat.le_refl _) (I1.hok.fresh (Nat.le_refl _))
  have one : ∀ b ∈ [s1.heap.objs.size], FpOk X pins H1 b := fun b hb => by
    rw [List.mem_singleton.mp hb]
    exact fresh
  rcases q1 with ⟨⟨xs, hq⟩, q⟩ | ⟨⟨xs, hq⟩, q⟩
  · obtain ⟨its, rv, p, hz⟩ := I1.list hq
    exact wpAny_pyIter_list p.isList ⟨_, [_], _, _, H1, rfl, I1.kept (t' := s1.toks) (fun b o e => Heap.get?_push_of_some _ e), turn_list a _, ⟨_, Heap.get?_push_size _ rfl, rfl, rfl⟩, one, q⟩
  · obtain ⟨its, rv, p, hz⟩ := I1.tuple hq
    exact wpAny_pyIter_tuple (show s1.heap.IsTuple a its.toArray from p) ⟨_, [_], _, _, H1, rfl, I1.kept (t' := s1.toks) (fun b o e => Heap.get?_push_of_some _ e), turn_tuple a _, ⟨_, Heap.get?_push_size _ rfl, rfl, rfl⟩, one, q⟩⟩
theorem i_seq {tl : TE} (h : wE K tl ρ O fun d O1 => ∃ ds, (d = .lst ds ∨ d = .tup ds) ∧ P ds O1) : wI K (iSeq K tl) ρ O P := fun F σ B H e hs R q =>
  h F σ B H e hs _ fun v d O1 B1 H1 p1 e1 hs1 r => by
    obtain ⟨ds, hd, p⟩ := p1
    rcases hd with rfl | rfl
    · cases r with
      | lst hb r => exact ⟨_, rfl, .inl ⟨⟨_, Evl.sq_of (hs1.ex _ _ hb)⟩, q _ ds O1 B1 H1 p e1 hs1 (itOk_list hb r)⟩⟩
    · cases r with
      | tup hb r => exact ⟨_, rfl, .inr ⟨⟨_, Evl.ex_t hs1.ex hb⟩, q _ ds O1 B1 H1 p e1 hs1 (itOk_tup hb r)⟩⟩
/-! ### loops -/
variable {PS : Out → Store → Prop} {tb : TS} {wi : TI} {g : TG}
def loopP (I : Nat → Rho → Store → Prop) (n : Nat) (PS : Out → Store → Prop) : Out → Store → Prop
  | .nx ρ, O => I n ρ O
  | .ct ρ, O => I n ρ O
  | .bk ρ, O => PS (.nx ρ) O
  | .ret d, O => PS (.ret d) O
theorem s_for (h : wI K wi ρ O fun ds O1 => ∃ I : Nat → Rho → Store → Prop, I 0 ρ O1 ∧ (∀ i d ρ' O', ds[i]? = some d → I i ρ' O' → wG K g d ρ' O' fun ρ2 O2 => wS K tb ρ2 O2 (loopP I (i + 1) PS)) ∧ ∀ ρ' O', I ds.length ρ' O' → PS (.nx ρ') O') :
    wS K (tFor wi g tb) ρ O PS := fun F σ B H e hs Dn q => by
  refine h F σ B H e hs _ fun J ds O1 B1 H1 p1 e1 hs1 it => ?_
  obtain ⟨I, h0, hstep, hend⟩ := p1
  let W : Nat → L2.St → Hp → Prop := fun i σ' H' => ∃ ρ' O' B', I i ρ' O' ∧ Ex B1 B' ∧ Hs K B' H' (O' ++ F) ∧ EnvR K B' σ' ρ'
  refine ⟨fun i m σ' H' => m = ds.length - i ∧ i ≤ ds.length ∧ W i σ' H', ⟨_, rfl, Nat.zero_le _, ρ, O1, B1, h0, Evl.Ex.refl _, hs1, e.mono e1⟩, ?_⟩
  rintro i m σ' H' ⟨rfl, hi, ρ', O', B', hI, eB, hs', en⟩
  have turn := it B' H' (O' ++ F) eB hs' i
  cases hd : ds[i]? with
  | none =>
    have hle := List.getElem?_eq_none_iff.mp hd
    have hii : i = ds.length := by omega
    subst hii
    exact .inl ⟨turn.2 hd, q (.nx ρ') O' B' H' (hend ρ' O' hI) (e1.trans eB) hs' σ' en⟩
  | some d =>
    have hlt : i < ds.length := (List.getElem?_eq_some_iff.mp hd).1
    obtain ⟨go, hy⟩ := turn.1 d hd
    refine .inr ⟨go, W (i + 1), fun σ2 H2 w2 => ⟨ds.length - (i + 1), by omega, rfl, hlt, w2⟩, fun x H2 y => ?_⟩
    obtain ⟨B2, e2, hs2, rx⟩ := hy x H2 y
    refine hstep i d ρ' O' hd hI F x σ' B2 H2 (en.mono e2) hs2 rx _ fun σ3 ρ3 O3 B3 H3 p3 e3 hs3 en3 => ?_
    refine p3 F σ3 B3 H3 en3 hs3 _ fun o O4 B4 H4 p4 e4 hs4 => ?_
    have eAll : Ex B1 B4 := ((eB.trans e2).trans e3).trans e4
    cases o with
    | nx ρ4 => exact fun σ4 r4 => ⟨ρ4, O4, B4, p4, eAll, hs4, r4⟩
    | ct ρ4 => exact fun σ4 r4 => ⟨ρ4, O4, B4, p4, eAll, hs4, r4⟩
    | bk ρ4 => exact q (.nx ρ4) O4 B4 H4 p4 (e1.trans eAll) hs4
    | ret d4 => exact q (.ret d4) O4 B4 H4 p4 (e1.trans eAll) hs4
/-- while: I by a measure that falls -/
theorem s_while {t : TT} (I : Nat → Rho → Store → Prop) (m0 : Nat) (h0 : I m0 ρ O) (hs0 : ∀ m ρ' O', I m ρ' O' → wT K t ρ' O' fun b O2 => (b = true → wS K tb ρ' O2 (fun o O3 => match o with
      | .nx ρ3 => ∃ m', m' < m ∧ I m' ρ3 O3
      | .ct ρ3 => ∃ m', m' < m ∧ I m' ρ3 O3
      | .bk ρ3 => PS (.nx ρ3) O3
      | .ret d => PS (.ret d) O3)) ∧ (b = false → PS (.nx ρ') O2)) : wS K (tWhile t tb) ρ O PS := fun F σ B H e hs Dn q => by
  let W : Nat → L2.St → Hp → Prop := fun m σ' H' => ∃ ρ' O' B', I m ρ' O' ∧ Ex B B' ∧ Hs K B' H' (O' ++ F) ∧ EnvR K B' σ' ρ'
  refine ⟨W, ⟨m0, ρ, O, B, h0, Evl.Ex.refl _, hs, e⟩, ?_⟩
  rintro m σ' H' ⟨ρ', O', B', hI, eB, hs', en⟩
  refine hs0 m ρ' O' hI F σ' B' H' en hs' _ fun b O2 B2 H2 p2 e2 hs2 => ?_
  cases b with
  | false =>
    show (if false = true then _ else _)
    rw [if_neg Bool.false_ne_true]
    exact q (.nx ρ') O2 B2 H2 (p2.2 rfl) (eB.trans e2) hs2 σ' (en.mono e2)
  | true =>
    show (if true = true then _ else _)
    rw [if_pos rfl]
    refine ⟨fun σ3 H3 => ∃ m', m' < m ∧ W m' σ3 H3, fun _ _ z => z, ?_⟩
    refine p2.1 rfl F σ' B2 H2 (en.mono e2) hs2 _ fun o O4 B4 H4 p4 e4 hs4 => ?_
    have eAll : Ex B B4 := (eB.trans e2).trans e4
    cases o with
    | nx ρ4 =>
      obtain ⟨m', hm, hI4⟩ := p4
      exact fun σ4 r4 => ⟨m', hm, ρ4, O4, B4, hI4, eAll, hs4, r4⟩
    | ct ρ4 =>
      obtain ⟨m', hm, hI4⟩ := p4
      exact fun σ4 r4 => ⟨m', hm, ρ4, O4, B4, hI4, eAll, hs4, r4⟩
    | bk ρ4 => exact q (.nx ρ4) O4 B4 H4 p4 eAll hs4
    | ret d4 => exact q (.ret d4) O4 B4 H4 p4 eAll hs4
/-- [e for g in .. if ..] -/
theorem e_lc {tt : TT} {te : TE} {vs : List Nat} {P : D → Store → Prop} (hg : GOnly g vs) (mg : GMono g) (h : wI K wi ρ O fun ds O1 => ds.length < 90000 ∧ ∃ I : Nat → List D → Store → Prop, I 0 [] O1 ∧
    (∀ i d acc O', ds[i]? = some d → acc.length ≤ i → I i acc O' → wG K g d (wipeR ρ vs) O' fun ρ2 O2 => wT K tt ρ2 O2 fun b O3 => (b = true → wE K te ρ2 O3 fun y O4 => I (i + 1) (acc ++ [y]) O4) ∧ (b = false → I (i + 1) acc O3)) ∧
    ∀ acc O', I ds.length acc O' → P (.lst acc) O') : wE K (tLc wi g tt te vs) ρ O P := fun F σ B H e hs Q q => by
  refine h F σ B H e hs _ fun J ds O1 B1 H1 p1 e1 hs1 it => ?_
  obtain ⟨hlen, I, h0, hstep, hend⟩ := p1
  intro Dl hDl
  let W : Nat → Hp → Prop := fun i H' => ∃ acc O' B', I i acc O' ∧ acc.length ≤ i ∧ Ex B1 B' ∧ Hs K B' H' ((Dl, Own.lst acc) :: (O' ++ F))
  refine ⟨fun i m H' => m = ds.length - i ∧ i ≤ ds.length ∧ W i H', ⟨_, rfl, Nat.zero_le _, [], O1, B1, h0, Nat.le_refl _, Evl.Ex.refl _, hs1.newOwn (w := .lst []) hDl ⟨[], upd_same, .nil⟩⟩, ?_⟩
  rintro i m H' ⟨rfl, hi, acc, O', B', hI, hal, eB, hs'⟩
  have turn := it B' H' _ eB hs' i
  cases hd : ds[i]? with
  | none =>
    have hle := List.getElem?_eq_none_iff.mp hd
    have hii : i = ds.length := by omega
    subst hii
    refine .inl ⟨turn.2 hd, ?_⟩
    obtain ⟨ws, hw, rw_⟩ := (hs'.own _ List.mem_cons_self).2
    obtain ⟨hs2, e2⟩ := hs'.freeze hw
    exact q _ _ O' _ H' (hend acc O' hI) ((e1.trans eB).trans e2) hs2 (.lst upd_same (rw_.mono e2))
  | some d =>
    have hlt : i < ds.length := (List.getElem?_eq_some_iff.mp hd).1
    obtain ⟨go, hy⟩ := turn.1 d hd
    refine .inr ⟨go, W (i + 1), fun H2 w2 => ⟨ds.length - (i + 1), by omega, rfl, hlt, w2⟩, fun x H2 y => ?_⟩
    obtain ⟨B2, e2, hs2, rx⟩ := hy x H2 y
    have hs2' : Hs K B2 H2 (O' ++ (F ++ [(Dl, Own.lst acc)])) := hs2.perm (by rw [← List.append_assoc]; exact (List.perm_append_singleton _ _).symm)
    have en0 : EnvR K B2 (L2.wipe σ vs) (wipeR ρ vs) := ((((e.mono e1).mono eB).mono e2)).wipe vs
    refine mg _ _ _ _ _ (fun σ3 H3 z => ⟨wipe_same z.1, z.2⟩) (hg _ _ _ _ ?_)
    refine hstep i d acc O' hd hal hI (F ++ [(Dl, Own.lst acc)]) x (L2.wipe σ vs) B2 H2 en0 hs2' rx _ fun σ3 ρ3 O3 B3 H3 p3 e3 hs3 en3 => ?_
    refine p3 _ σ3 B3 H3 en3 hs3 _ fun b O4 B4 H4 p4 e4 hs4 => ?_
    have back : ∀ {B5 H5 : Hp} {O5 : Store}, Hs K B5 H5 (O5 ++ (F ++ [(Dl, Own.lst acc)])) → Hs K B5 H5 ((Dl, Own.lst acc) :: (O5 ++ F)) := fun hz => hz.perm (by rw [← List.append_assoc]; exact List.perm_append_singleton _ _)
    cases b with
    | false =>
      show (if false = true then _ else _)
      rw [if_neg Bool.false_ne_true]
      exact ⟨acc, O4, B4, p4.2 rfl, by omega, ((eB.trans e2).trans e3).trans e4, back hs4⟩
    | true =>
      show (if true = true then _ else _)
      rw [if_pos rfl]
      refine p4.1 rfl _ σ3 B4 H4 (en3.mono e4) hs4 _ fun u y O5 B5 H5 p5 e5 hs5 ry => ?_
      have hs6 := back hs5
      obtain ⟨ws, hw, rws⟩ := (hs6.own _ List.mem_cons_self).2
      refine ⟨ws, hw, Evl.sz_lt (by rw [rws.length]; omega), acc ++ [y], O5, B5, p5, by rw [List.length_append]; simp; omega, (((eB.trans e2).trans e3).trans e4).trans e5, ?_⟩
      exact hs6.write (o := .lst (ws ++ [u])) .here ⟨_, upd_same, rws.append (.cons ry .nil)⟩
theorem t_yes {P : Bool → Store → Prop} (p : P true O) : wT K tYes ρ O P := fun F σ B H e hs Q q => q true O B H p (Evl.Ex.refl B) hs
end
end G
namespace G
open PySem L2 PySem.Spec PyProof.Rows
/-! ### promises over data -/
/-- a def that changes nothing of its caller's -/
def spP (K : PySem.W.Frag) (n : Nat) (W : List D → (D → Prop) → Prop) : Sp := fun vs H Q _ => ∃ F B ds P, Hs K B H F ∧ Reps K B vs ds ∧ ds.length = n ∧ W ds P ∧ ∀ v d B2 H2, P d → Ex B B2 → Hs K B2 H2 F → Rep K B2 v d → Q v H2
/-- a def that changes what is owned -/
def spW (K : PySem.W.Frag) (n : Nat) (W : List D → Store → (D → Store → Prop) → Prop) : Sp := fun vs H Q _ => ∃ F O B ds P, Hs K B H (O ++ F) ∧ Reps K B vs ds ∧ ds.length = n ∧ W ds O P ∧ ∀ v d O2 B2 H2, P d O2 → Ex B B2 → Hs K B2 H2 (O2 ++ F) → Rep K B2 v d → Q v H2
/-- an __init__; PX: the classes of the errors that leave it -/
def spI (K : PySem.W.Frag) (C : Addr) (n : Nat) (W : List D → (List (Str × D) → Prop) → (Addr → Prop) → Prop) : Sp := fun vs H Q E => ∃ x dx ws F B ds P PX, vs = V.ref x :: ws ∧ H x = some (.ins C dx []) ∧ Hs K B H ((x, .ins C []) :: F) ∧ Reps K B ws ds ∧ ds.length = n ∧ W ds P PX ∧
  (∀ fs B2 H2, P fs → Ex B B2 → Hs K B2 H2 ((x, .ins C fs) :: F) → Q .non H2) ∧ ∀ c B2 H2, PX c → Ex B B2 → Hs K B2 H2 F → E (.ref c) none H2
/-- a def that may raise -/
def spX (K : PySem.W.Frag) (n : Nat) (W : List D → (D → Prop) → (Addr → Prop) → Prop) : Sp := fun vs H Q E => ∃ F B ds P PX, Hs K B H F ∧ Reps K B vs ds ∧ ds.length = n ∧ W ds P PX ∧ (∀ v d B2 H2, P d → Ex B B2 → Hs K B2 H2 F → Rep K B2 v d → Q v H2) ∧ ∀ c B2 H2, PX c → Ex B B2 → Hs K B2 H2 F → E (.ref c) none H2
section
variable {K : PySem.W.Frag} {ρ : Rho} {O O1 : Store} {P : D → Store → Prop} {n : Nat} {E : XK}
theorem e_call {W : List D → (D → Prop) → Prop} {t : TA} (h : wA K t ρ O fun ds O1 => ds.length = n ∧ W ds fun d => P d O1) : wE K (tCall (spP K n W) [] E t) ρ O P := fun F σ B H e hs Q q =>
  h F σ B H e hs _ fun vs ds O1 B1 H1 p1 e1 hs1 r => ⟨O1 ++ F, B1, ds, _, hs1, by rw [List.append_nil]; exact r, p1.1, p1.2, fun v d B2 H2 p e2 hs2 rv => q v d O1 B2 H2 p (e1.trans e2) hs2 rv⟩
theorem e_callW {W : List D → Store → (D → Store → Prop) → Prop} {t : TA} (h : wA K t ρ O fun ds O1 => ds.length = n ∧ W ds O1 P) : wE K (tCall (spW K n W) [] E t) ρ O P := fun F σ B H e hs Q q =>
  h F σ B H e hs _ fun vs ds O1 B1 H1 p1 e1 hs1 r => ⟨F, O1, B1, ds, P, hs1, by rw [List.append_nil]; exact r, p1.1, p1.2, fun v d O2 B2 H2 p e2 hs2 rv => q v d O2 B2 H2 p (e1.trans e2) hs2 rv⟩
theorem e_callX {W : List D → (D → Prop) → (Addr → Prop) → Prop} {t : TA} (h : wA K t ρ O fun ds O1 => ds.length = n ∧ W ds (fun d => P d O1) fun _ => False) : wE K (tCall (spX K n W) [] E t) ρ O P := fun F σ B H e hs Q q =>
  h F σ B H e hs _ fun vs ds O1 B1 H1 p1 e1 hs1 r => ⟨O1 ++ F, B1, ds, _, _, hs1, by rw [List.append_nil]; exact r, p1.1, p1.2, fun v d B2 H2 p e2 hs2 rv => q v d O1 B2 H2 p (e1.trans e2) hs2 rv, fun _ _ _ z => z.elim⟩
/-- what a new instance's __init__ is handed -/
theorem init_pre {C : Addr} {W : List D → (List (Str × D) → Prop) → (Addr → Prop) → Prop} {B1 H1 : Hp} {F1 : Store} {vs : List V} {ds : List D} {PF : List (Str × D) → Prop} {PX : Addr → Prop} {Q : VK} (hs1 : Hs K B1 H1 F1) (r : Reps K B1 vs ds) (hn : ds.length = n) (hw : W ds PF PX)
    (q : ∀ v fs B2 H2, PF fs → Ex B1 B2 → Hs K B2 H2 F1 → Rep K B2 v (.ins C fs) → Q v H2) (qx : ∀ c B2 H2, PX c → Ex B1 B2 → Hs K B2 H2 F1 → E (.ref c) none H2) :
    ∀ x dx, H1 x = none → H1 dx = none → dx ≠ x → spI K C n W (V.ref x :: (vs ++ [])) (upd (upd H1 dx (.own x)) x (.ins C dx [])) (fun v H2 => v = .non ∧ Q (.ref x) H2) E := by
  intro x dx hx hdx hne
  have hs2 : Hs K B1 (upd H1 dx (.own x)) F1 := hs1.other hdx
  have hx2 : upd H1 dx (.own x) x = none := by rw [upd_ne (fun e => hne e.symm)]; exact hx
  have hs3 := hs2.newOwn (o := .ins C dx []) (w := .ins C []) hx2 ⟨dx, [], upd_same, .nil⟩
  refine ⟨x, dx, vs, F1, B1, ds, PF, PX, by rw [List.append_nil], upd_same, hs3, r, hn, hw, fun fs B2 H2 p e2 hs4 => ⟨rfl, ?_⟩, qx⟩
  obtain ⟨dx', us, hu, ru⟩ := (hs4.own _ List.mem_cons_self).2
  obtain ⟨hs5, e5⟩ := hs4.freeze hu
  exact q _ fs _ H2 p (e2.trans e5) hs5 (.ins upd_same (ru.mono e5))
theorem e_make {C : Addr} {W : List D → (List (Str × D) → Prop) → (Addr → Prop) → Prop} {t : TA} (h : wA K t ρ O fun ds O1 => ds.length = n ∧ W ds (fun fs => P (.ins C fs) O1) fun _ => False) : wE K (tMake C (spI K C n W) [] E t) ρ O P := fun F σ B H e hs Q q =>
  h F σ B H e hs _ fun vs ds O1 B1 H1 p1 e1 hs1 r => init_pre hs1 r p1.1 p1.2 (fun v fs B2 H2 p e2 hs2 rv => q v _ O1 B2 H2 p (e1.trans e2) hs2 rv) fun _ _ _ z => z.elim
end
section
variable {K : PySem.W.Frag} {n : Nat} {E : XK}
/-- C(..) whose __init__ may raise, with the state in hand -/
theorem makeX {C : Addr} {W : List D → (List (Str × D) → Prop) → (Addr → Prop) → Prop} {t : TA} {ρ : Rho} {σ : L2.St} {B H : Hp} {F : Store} {Q : VK} {P : D → Prop} {PX : Addr → Prop}
    (h : wA K t ρ [] fun ds O => O = [] ∧ ds.length = n ∧ W ds (fun fs => P (.ins C fs)) PX) (e : EnvR K B σ ρ) (hs : Hs K B H F)
    (q : ∀ v d B2 H2, P d → Ex B B2 → Hs K B2 H2 F → Rep K B2 v d → Q v H2) (qx : ∀ c B2 H2, PX c → Ex B B2 → Hs K B2 H2 F → E (.ref c) none H2) : tMake C (spI K C n W) [] E t σ H Q := by
  refine h F σ B H e hs _ fun vs ds O1 B1 H1 p1 e1 hs1 r => ?_
  obtain ⟨rfl, hn, hw⟩ := p1
  exact init_pre hs1 r hn hw (fun v fs B2 H2 p e2 hs2 rv => q v _ B2 H2 p (e1.trans e2) hs2 rv) fun c B2 H2 p e2 hs2 => qx c B2 H2 p (e1.trans e2) hs2
end
/-! ### a def holds its promise -/
def retP (P : D → Prop) : Out → Store → Prop
  | .ret d, _ => P d
  | .nx _, _ => P .non
  | _, _ => False
def retW (P : D → Store → Prop) : Out → Store → Prop
  | .ret d, O => P d O
  | .nx _, O => P .non O
  | _, _ => False
/-- the ends of an __init__: the instance at x -/
def retI (x C : Addr) (PF : List (Str × D) → Prop) : Out → Store → Prop
  | .nx _, O => ∃ fs, O = [(x, .ins C fs)] ∧ PF fs
  | _, _ => False
section
variable {Pr : Program} {w : World} {K : PySem.W.Frag} {mg : Str → Option Value} {base : Heap} {x qual : Str} {st : Stmt} {f : Addr} {fd : FuncData} {N ps : List Str} {k n : Nat}
theorem Reps.len2 {B : Hp} {vs : List V} {ds : List D} (r : Reps K B vs ds) (h : ds.length = n) : vs.length = n := r.length.trans h
theorem okP {W : List D → (D → Prop) → Prop} (F : Fun K x qual st f fd) (S : FnScope N ps (defScope st)) (hn : ps.length = n)
    (hb : ∀ (cdv : Value) (A : Around) (outer : List Env) (s : Shared) (H : Hp) (E : XK), Room k (A.deeper (envOfC qual (defScope st) s.heap.objs.size f cdv)) → ∃ t, PSs (cxOf CX0 Pr w K mg base N qual (defScope st) f cdv A outer s H E).nox (defBody st) t ∧
      ∀ ds P, ds.length = n → W ds P → wS K t (rho0 N.length ds) [] (retP P)) : FnOk Pr w K mg base CX0 (k + 1) f fd ps (spP K n W) := by
  refine F.ok S (fun vs H Q E h => ?_) (fun cdv A outer s H vs Q E hr h => ?_)
  · obtain ⟨F1, B, ds, P, _, r, hl, _⟩ := h
    rw [r.length, hl, hn]
  · obtain ⟨t, ht, hw⟩ := hb cdv A outer s H E hr
    refine ⟨t, ht, ?_⟩
    obtain ⟨F1, B, ds, P, hs, r, hl, hW, q⟩ := h
    refine hw ds P hl hW F1 _ B H (envR_start r) hs _ fun o O2 B2 H2 p e2 hs2 => ?_
    cases o with
    | nx ρ => exact fun σ _ => q _ _ B2 H2 p e2 hs2.dropL (.raw _)
    | ret d => exact fun v rv => q v d B2 H2 p e2 hs2.dropL rv
    | bk ρ => exact False.elim p
    | ct ρ => exact False.elim p
theorem okW {W : List D → Store → (D → Store → Prop) → Prop} (F : Fun K x qual st f fd) (S : FnScope N ps (defScope st)) (hn : ps.length = n)
    (hb : ∀ (cdv : Value) (A : Around) (outer : List Env) (s : Shared) (H : Hp) (E : XK), Room k (A.deeper (envOfC qual (defScope st) s.heap.objs.size f cdv)) → ∃ t, PSs (cxOf CX0 Pr w K mg base N qual (defScope st) f cdv A outer s H E).nox (defBody st) t ∧
      ∀ ds O P, ds.length = n → W ds O P → wS K t (rho0 N.length ds) O (retW P)) : FnOk Pr w K mg base CX0 (k + 1) f fd ps (spW K n W) := by
  refine F.ok S (fun vs H Q E h => ?_) (fun cdv A outer s H vs Q E hr h => ?_)
  · obtain ⟨F1, O1, B, ds, P, _, r, hl, _⟩ := h
    rw [r.length, hl, hn]
  · obtain ⟨t, ht, hw⟩ := hb cdv A outer s H E hr
    refine ⟨t, ht, ?_⟩
    obtain ⟨F1, O1, B, ds, P, hs, r, hl, hW, q⟩ := h
    refine hw ds O1 P hl hW F1 _ B H (envR_start r) hs _ fun o O2 B2 H2 p e2 hs2 => ?_
    cases o with
    | nx ρ => exact fun σ _ => q _ _ O2 B2 H2 p e2 hs2 (.raw _)
    | ret d => exact fun v rv => q v d O2 B2 H2 p e2 hs2 rv
    | bk ρ => exact False.elim p
    | ct ρ => exact False.elim p
/-- an __init__ that may raise -/
theorem okI {C : Addr} {W : List D → (List (Str × D) → Prop) → (Addr → Prop) → Prop} (F : Fun K x qual st f fd) (S : FnScope N ps (defScope st)) (hn : ps.length = n + 1)
    (hb : ∀ (cdv : Value) (A : Around) (outer : List Env) (s : Shared) (H0 : Hp) (E : XK), Room k (A.deeper (envOfC qual (defScope st) s.heap.objs.size f cdv)) → ∃ t, PSs (cxOf (L2.CX Pr w) Pr w K mg base N qual (defScope st) f cdv A outer s H0 E) (defBody st) t ∧
      ∀ ds PF PX, ds.length = n → W ds PF PX → ∀ (xa : Addr) (F1 : Store) (B H : Hp) (σ : L2.St) (Q : VK), EnvR K B σ (rho0 N.length (.loc xa :: ds)) → Hs K B H ((xa, .ins C []) :: F1) →
      (∀ fs B2 H2, PF fs → Ex B B2 → Hs K B2 H2 ((xa, .ins C fs) :: F1) → Q .non H2) → (∀ c B2 H2, PX c → Ex B B2 → Hs K B2 H2 F1 → E (.ref c) none H2) → t { nx := fun _ H' => Q .non H', rt := Q } σ H) :
    FnOk Pr w K mg base (L2.CX Pr w) (k + 1) f fd ps (spI K C n W) := by
  refine F.okX S (fun vs H Q E h => ?_) (fun cdv A outer s H vs Q E hr h => ?_)
  · obtain ⟨xa, dx, ws, F1, B, ds, PF, PX, rfl, _, _, r, hl, _⟩ := h
    rw [List.length_cons, r.length, hl, hn]
  · obtain ⟨t, ht, hw⟩ := hb cdv A outer s H E hr
    refine ⟨t, ht, ?_⟩
    obtain ⟨xa, dx, ws, F1, B, ds, PF, PX, rfl, hx, hs, r, hl, hW, q, qx⟩ := h
    exact hw ds PF PX hl hW xa F1 B H _ Q (envR_start (.cons (.raw _) r)) hs q qx
/-- the rest of an __init__ -/
theorem init_rest {C xa : Addr} {PF : List (Str × D) → Prop} {t : TS} {ρ : Rho} {B0 B H : Hp} {σ : L2.St} {F1 : Store} {Q : VK} (h : wS K t ρ [(xa, .ins C [])] (retI xa C PF)) (e : EnvR K B σ ρ) (hs : Hs K B H ((xa, .ins C []) :: F1)) (e0 : Ex B0 B)
    (q : ∀ fs B2 H2, PF fs → Ex B0 B2 → Hs K B2 H2 ((xa, .ins C fs) :: F1) → Q .non H2) : t { nx := fun _ H' => Q .non H', rt := Q } σ H := by
  refine h F1 σ B H e hs _ fun o O2 B2 H2 p e2 hs2 => ?_
  cases o with
  | nx ρ =>
    obtain ⟨fs, rfl, pf⟩ := p
    exact fun _ _ => q fs B2 H2 pf (e0.trans e2) hs2
  | ret d => exact False.elim p
  | bk ρ => exact False.elim p
  | ct ρ => exact False.elim p
theorem okX {W : List D → (D → Prop) → (Addr → Prop) → Prop} (F : Fun K x qual st f fd) (S : FnScope N ps (defScope st)) (hn : ps.length = n)
    (hb : ∀ (cdv : Value) (A : Around) (outer : List Env) (s : Shared) (H0 : Hp) (E : XK), Room k (A.deeper (envOfC qual (defScope st) s.heap.objs.size f cdv)) → ∃ t, PSs (cxOf (L2.CX Pr w) Pr w K mg base N qual (defScope st) f cdv A outer s H0 E) (defBody st) t ∧
      ∀ ds P PX, ds.length = n → W ds P PX → ∀ (F1 : Store) (B H : Hp) (σ : L2.St) (Q : VK), EnvR K B σ (rho0 N.length ds) → Hs K B H F1 →
      (∀ v d B2 H2, P d → Ex B B2 → Hs K B2 H2 F1 → Rep K B2 v d → Q v H2) → (∀ c B2 H2, PX c → Ex B B2 → Hs K B2 H2 F1 → E (.ref c) none H2) → t { nx := fun _ H' => Q .non H', rt := Q } σ H) :
    FnOk Pr w K mg base (L2.CX Pr w) (k + 1) f fd ps (spX K n W) := by
  refine F.okX S (fun vs H Q E h => ?_) (fun cdv A outer s H vs Q E hr h => ?_)
  · obtain ⟨F1, B, ds, P, PX, _, r, hl, _⟩ := h
    rw [r.length, hl, hn]
  · obtain ⟨t, ht, hw⟩ := hb cdv A outer s H E hr
    refine ⟨t, ht, ?_⟩
    obtain ⟨F1, B, ds, P, PX, hs, r, hl, hW, q, qx⟩ := h
    exact hw ds P PX hl hW F1 B H _ Q (envR_start r) hs q qx
/-- tests ahead of the rest, with the state in hand -/
theorem t_run {K : PySem.W.Frag} {tt : TT} {ρ : Rho} {O F : Store} {P : Bool → Store → Prop} {σ : L2.St} {B H : Hp} {Q : Bool → Hp → Prop} (h : wT K tt ρ O P) (e : EnvR K B σ ρ) (hs : Hs K B H (O ++ F)) (q : FinT K B F P Q) : tt σ H Q := h F σ B H e hs Q q
end
/-! ### an own class, its operators -/
structure KC (K : PySem.W.Frag) (C : Addr) : Prop where
  cl : Cls K C
  ha : PySem.W.findIn K (.ref C) "__class__" = some (some (.builtin "object.__class__"))
  hn : PySem.W.specialIn K (.builtin "object.__class__") "__get__" = some (some (.builtin "getset_descriptor.__get__"))
  htk : PySem.W.takesIn K (.builtin "object.__class__") = some true
  hm : PySem.W.mroIn K C (.type "object") = some true
/-- an operator of an own class: x of the class, y of the class too -/
def rOwn (C : Addr) (sp : Sp) (E : XK) : R2 := fun x y H Q => ∃ a b dx dy fs gs, x = .ref a ∧ y = .ref b ∧ H a = some (.ins C dx fs) ∧ H b = some (.ins C dy gs) ∧ sp [x, y] H Q E
def rOwn1 (C : Addr) (sp : Sp) (E : XK) : V → Hp → VK → Prop := fun x H Q => ∃ a dx fs, x = .ref a ∧ H a = some (.ins C dx fs) ∧ sp [x] H Q E
theorem back_of {X : Cx} {pins : List (Addr × Obj)} {σ : L2.St} {Q : VK} {u : Value} {s' : Shared} (h : EP X pins σ Q u s') : PySem.W.CmpBack (EP X pins σ Q) u s' := by
  obtain ⟨v, H', I, r, q⟩ := id h
  cases v with
  | non => cases (show u = Value.none from r); exact h
  | bl b => cases (show u = Value.bool b from r); exact h
  | int i => obtain ⟨t, rfl⟩ := (show ∃ t, u = Value.int i t from r); exact h
  | str z => obtain ⟨t, rfl⟩ := (show ∃ t, u = Value.str z t from r); exact h
  | byt z => obtain ⟨t, rfl⟩ := (show ∃ t, u = Value.bytes z t from r); exact h
  | flt z => obtain ⟨t, rfl⟩ := (show ∃ t, u = Value.float z t from r); exact h
  | ref a => cases (show u = Value.ref a from r); exact h
  | ty n => cases (show u = Value.type n from r); exact h
section
variable {X : Cx} {CX : CXT} {k : Nat} {f C : Addr} {fd : FuncData} {ps : List Str} {sp : Sp} {E : XK}
theorem op_own {op : Operator} (F : FnOk X.prog X.w X.K X.mg X.base CX k f fd ps sp) (hr : Room k X.A) (hb : Binds X.K fd ps []) (hx : Passes CX X E) (hc : PySem.W.selfFirst X.K C = true) (hs : PySem.W.findIn X.K (.ref C) (PySem.dunder op.info.2) = some (some (.ref f))) (hf : PySem.W.isFn X.K (.ref f) = true) :
    OpR X (binaryOp op) (rOwn C sp E) := by
  intro pins s σ H x y v u Q I rx ry h
  obtain ⟨a, b, dx, dy, fs, gs, rfl, rfl, ha, hb', q⟩ := h
  cases rx; cases ry
  obtain ⟨mA, J, _⟩ := ins_get I.hok ha
  obtain ⟨mB, J', _⟩ := ins_get I.hok hb'
  obtain ⟨od, J, _⟩ := J.look
  obtain ⟨od', J', _⟩ := J'.look
  obtain ⟨m, hF⟩ := I.fr
  refine PySem.W.binop_K hF I.ok.mod.kin J J'.type hc hs hf ?_
  exact thn (run_fn (vs := [.ref a, .ref b]) (us := [.ref a, .ref b]) F hr hb .nil hx I (.cons rfl (.cons rfl .nil)) q) fun _ _ z => back_of z
theorem op_cmpOwn {op : CmpOp} (F : FnOk X.prog X.w X.K X.mg X.base CX k f fd ps sp) (hr : Room k X.A) (hb : Binds X.K fd ps []) (hx : Passes CX X E) (hs : PySem.W.findIn X.K (.ref C) (cmpInfo op).2.1 = some (some (.ref f))) (hf : PySem.W.isFn X.K (.ref f) = true)
    (hop : ∀ v u, compareOp op v u = richCompare op v u) : OpR X (compareOp op) (rOwn C sp E) := by
  intro pins s σ H x y v u Q I rx ry h
  obtain ⟨a, b, dx, dy, fs, gs, rfl, rfl, ha, hb', q⟩ := h
  cases rx; cases ry
  rw [hop]
  obtain ⟨mA, J, _⟩ := ins_get I.hok ha
  obtain ⟨mB, J', _⟩ := ins_get I.hok hb'
  obtain ⟨od, J, _⟩ := J.look
  obtain ⟨od', J', _⟩ := J'.look
  obtain ⟨m, hF⟩ := I.fr
  refine PySem.W.cmp_K hr.units0 hF I.ok.mod.kin J J'.type (by simp [PySem.W.notFirst]) hs hf ?_
  exact thn (run_fn (vs := [.ref a, .ref b]) (us := [.ref a, .ref b]) F hr hb .nil hx I (.cons rfl (.cons rfl .nil)) q) fun _ _ z => back_of z
theorem un_own (F : FnOk X.prog X.w X.K X.mg X.base CX k f fd ps sp) (hr : Room k X.A) (hb : Binds X.K fd ps []) (hx : Passes CX X E) (hs : PySem.W.findIn X.K (.ref C) "__neg__" = some (some (.ref f))) (hf : PySem.W.isFn X.K (.ref f) = true) :
    UnR X (unaryOp .USub) (rOwn1 C sp E) := by
  intro pins s σ H x v Q I rx h
  obtain ⟨a, dx, fs, rfl, ha, q⟩ := h
  cases rx
  obtain ⟨mA, J, _⟩ := ins_get I.hok ha
  obtain ⟨od, J, _⟩ := J.look
  obtain ⟨m, hF⟩ := I.fr
  refine PySem.W.ksp_neg hF I.ok.mod.kin J hs hf ?_
  exact run_fn (vs := [.ref a]) (us := [.ref a]) F hr hb .nil hx I (.cons rfl .nil) q
end
section
variable {K : PySem.W.Frag} {O O1 : Store} {P : D → Store → Prop} {C : Addr} {E : XK}
theorem r_own {W : List D → (D → Prop) → Prop} {fs gs : List (Str × D)} (h : W [.ins C fs, .ins C gs] fun d => P d O) : wR K (rOwn C (spP K 2 W) E) (.ins C fs) (.ins C gs) O P := fun F v u B H rx ry hs Q q => by
  have rx' := rx
  have ry' := ry
  cases rx with
  | ins h1 r1 =>
    cases ry with
    | ins h2 r2 => exact ⟨_, _, _, _, _, _, rfl, rfl, hs.ex _ _ h1, hs.ex _ _ h2, O ++ F, B, _, _, hs, .cons rx' (.cons ry' .nil), rfl, h, fun v d B2 H2 p e hs2 rv => q v d O B2 H2 p e hs2 rv⟩
theorem r_own1 {W : List D → (D → Prop) → Prop} {fs : List (Str × D)} (h : W [.ins C fs] fun d => P d O) : wU K (rOwn1 C (spP K 1 W) E) (.ins C fs) O P := fun F v B H rx hs Q q => by
  have rx' := rx
  cases rx with
  | ins h1 r1 => exact ⟨_, _, _, rfl, hs.ex _ _ h1, O ++ F, B, _, _, hs, .cons rx' .nil, rfl, h, fun v d B2 H2 p e hs2 rv => q v d O B2 H2 p e hs2 rv⟩
end
/-! ### a method of an own class; built-ins -/
section
variable {K : PySem.W.Frag} {ρ : Rho} {O O1 : Store} {P : D → Store → Prop} {C : Addr} {E : XK} {n : Nat}
theorem e_meth {m : Str} {W : List D → (D → Prop) → Prop} {to : TE} {t : TA} (h : wE K to ρ O fun x O1 => ∃ fs, x = .ins C fs ∧ fs.lookup m = none ∧ wA K t ρ O1 fun ds O2 => ds.length + 1 = n ∧ W (x :: ds) fun d => P d O2) : wE K (tMeth C m (spP K n W) [] E to t) ρ O P := fun F σ B H e hs Q q =>
  h F σ B H e hs _ fun v x O1 B1 H1 p1 e1 hs1 rx => by
    obtain ⟨fs, rfl, hl, p⟩ := p1
    have rx' := rx
    cases rx with
    | ins h1 r1 =>
      refine ⟨_, _, _, rfl, hs1.ex _ _ h1, r1.look0 hl, p F σ B1 H1 (e.mono e1) hs1 _ fun vs ds O2 B2 H2 p2 e2 hs2 rs => ?_⟩
      exact ⟨O2 ++ F, B2, _ :: ds, _, hs2, by rw [List.append_nil]; exact .cons (rx'.mono e2) rs, p2.1, p2.2, fun v d B3 H3 p3 e3 hs3 rv => q v d O2 B3 H3 p3 ((e1.trans e2).trans e3) hs3 rv⟩
theorem e_methX {m : Str} {W : List D → (D → Prop) → (Addr → Prop) → Prop} {to : TE} {t : TA} (h : wE K to ρ O fun x O1 => ∃ fs, x = .ins C fs ∧ fs.lookup m = none ∧ wA K t ρ O1 fun ds O2 => ds.length + 1 = n ∧ W (x :: ds) (fun d => P d O2) fun _ => False) : wE K (tMeth C m (spX K n W) [] E to t) ρ O P := fun F σ B H e hs Q q =>
  h F σ B H e hs _ fun v x O1 B1 H1 p1 e1 hs1 rx => by
    obtain ⟨fs, rfl, hl, p⟩ := p1
    have rx' := rx
    cases rx with
    | ins h1 r1 =>
      refine ⟨_, _, _, rfl, hs1.ex _ _ h1, r1.look0 hl, p F σ B1 H1 (e.mono e1) hs1 _ fun vs ds O2 B2 H2 p2 e2 hs2 rs => ?_⟩
      exact ⟨O2 ++ F, B2, _ :: ds, _, _, hs2, by rw [List.append_nil]; exact .cons (rx'.mono e2) rs, p2.1, p2.2, fun v d B3 H3 p3 e3 hs3 rv => q v d O2 B3 H3 p3 ((e1.trans e2).trans e3) hs3 rv, fun _ _ _ z => z.elim⟩
theorem c_len {d : D} {ds : List D} (hd : d = .lst ds ∨ d = .tup ds ∨ d = .fz ds) (p : P (.int ds.length) O) : wC K (Evl.rLenS K) [d] O P := fun F vs B H r hs Q q => by
  cases r with
  | cons r1 r =>
    cases r
    rcases hd with rfl | rfl | rfl
    · cases r1 with
      | lst h r => exact ⟨_, _, rfl, .inl (Evl.sq_of (hs.ex _ _ h)), by rw [r.length]; exact q.here hs (.raw _) p⟩
    · cases r1 with
      | tup h r => exact ⟨_, _, rfl, .inr (Evl.ex_t hs.ex h), by rw [r.length]; exact q.here hs (.raw _) p⟩
    · cases r1 with
      | fz h r => exact ⟨_, _, rfl, .inl (Evl.ex_l hs.ex h), by rw [r.length]; exact q.here hs (.raw _) p⟩
def rInt1 : List V → Hp → VK → Prop := fun xs H Q => (∃ i, xs = [.int i] ∧ Q (.int i) H) ∨ ∃ k, xs = [.bl k] ∧ Q (.int (if k then 1 else 0)) H
theorem c_int {i : Int} (p : P (.int i) O) : wC K rInt1 [.int i] O P := fun F vs B H r hs Q q => by
  cases r with
  | cons r1 r =>
    cases r; cases r1
    exact .inl ⟨i, rfl, q.here hs (.raw _) p⟩
theorem c_intB {b : Bool} (p : P (.int (if b then 1 else 0)) O) : wC K rInt1 [.bl b] O P := fun F vs B H r hs Q q => by
  cases r with
  | cons r1 r =>
    cases r; cases r1
    exact .inr ⟨b, rfl, q.here hs (.raw _) p⟩
def rAbs : List V → Hp → VK → Prop := fun xs H Q => ∃ i, xs = [.int i] ∧ Q (.int (if i < 0 then -i else i)) H
theorem c_abs {i : Int} (p : P (.int (if i < 0 then -i else i)) O) : wC K rAbs [.int i] O P := fun F vs B H r hs Q q => by
  cases r with
  | cons r1 r =>
    cases r; cases r1
    exact ⟨i, rfl, q.here hs (.raw _) p⟩
theorem c_gcd {i j : Int} (p : P (.int ((Nat.gcd i.natAbs j.natAbs : Nat) : Int)) O) : wC K rGcd [.int i, .int j] O P := fun F vs B H r hs Q q => by
  cases r with
  | cons r1 r =>
    cases r with
    | cons r2 r =>
      cases r; cases r1; cases r2
      exact ⟨i, j, rfl, q.here hs (.raw _) p⟩
/-- tuple(xs), list(xs) -/
def rTupOf (K : PySem.W.Frag) : List V → Hp → VK → Prop := fun xs H Q => ∃ p ys, xs = [.ref p] ∧ ((SqL K H p ys ∧ ∀ l, H l = none → Q (.ref l) (upd H l (.tup ys))) ∨ (SqT K H p ys ∧ Q (.ref p) H))
theorem c_tup {ds : List D} (p : P (.tup ds) O) : wC K (rTupOf K) [.lst ds] O P := fun F vs B H r hs Q q => by
  cases r with
  | cons r1 r =>
    cases r
    cases r1 with
    | lst h r =>
      refine ⟨_, _, rfl, .inl ⟨Evl.sq_of (hs.ex _ _ h), fun l hl => ?_⟩⟩
      obtain ⟨hs2, e2⟩ := hs.new (o := .tup _) hl
      exact q _ _ O _ _ p e2 hs2 (.tup (Evl.st_of upd_same) (r.mono e2))
/-- the class of a datum -/
inductive TyD (K : PySem.W.Frag) : D → Value → Prop where
  | non : TyD K .non (.type "NoneType")
  | bl (b : Bool) : TyD K (.bl b) (.type "bool")
  | int (i : Int) : TyD K (.int i) (.type "int")
  | str (z : Str) : TyD K (.str z) (.type "str")
  | tup (ds : List D) : TyD K (.tup ds) (.type "tuple")
  | lst (ds : List D) : TyD K (.lst ds) (.type "list")
  | ins (C : Addr) (fs : List (Str × D)) (k : KC K C) : TyD K (.ins C fs) (.ref C)
theorem TyD.ok {B H : Hp} {v : V} {d : D} {t : Value} (y : TyD K d t) (r : Rep K B v d) (e : Ex B H) : TyX K H v t := by
  cases y with
  | non => cases r; exact .base .non
  | bl b => cases r; exact .base (.bl b)
  | int i => cases r; exact .base (.int i)
  | str z => cases r; exact .base (.str z)
  | tup ds =>
    cases r with
    | tup h r =>
      rcases h with (h | ⟨o, h⟩) | ⟨o, its, n, h1, h2, _⟩
      · exact .base (.tup (e _ _ h))
      · exact .fTuple (e _ _ h)
      · exact .kTuple h1 h2
  | lst ds =>
    cases r with
    | lst h r => exact .base (.lst (e _ _ h))
  | ins C fs k =>
    cases r with
    | ins h r => exact .base (.ins (e _ _ h) k.cl k.ha k.hn k.htk k.hm)
theorem c_isi {d : D} {c : V} {t u : Value} {b : Bool} (y : TyD K d t) (hc : ClsV c u) (hk : PySem.W.kitOne K t u = some b) (p : P (.bl b) O) : wC K (rIsi K) [d, .raw c] O P := fun F vs B H r hs Q q => by
  cases r with
  | cons r1 r =>
    cases r with
    | cons r2 r =>
      cases r; cases r2
      exact ⟨_, c, t, u, b, rfl, hc, y.ok r1 hs.ex, hk, q.here hs (.raw _) p⟩
end
end G
/-! Quotients: the rational numbers of core Lean. -/
namespace G
open PySem L2
/-- a quotient of the class at C -/
def dQ (C : Addr) (q : Rat) : D := .ins C [("top", .int q.num), ("bottom", .int (q.den : Int))]
theorem gcd_nat (t b : Int) : ((Nat.gcd t.natAbs b.natAbs : Nat) : Int) = ((b.gcd t : Nat) : Int) := by
  rw [Int.gcd_comm]
  rfl
/-- lowest terms as the program reckons them -/
def common (t b : Int) : Int := if b < 0 then -((Nat.gcd t.natAbs b.natAbs : Nat) : Int) else ((Nat.gcd t.natAbs b.natAbs : Nat) : Int)
theorem gcd_pos' {t b : Int} (hb : b ≠ 0) : 0 < Nat.gcd t.natAbs b.natAbs := Nat.gcd_pos_of_pos_right _ (by omega)
theorem common_ne {t b : Int} (hb : b ≠ 0) : common t b ≠ 0 := by
  have := gcd_pos' (t := t) hb
  unfold common
  split <;> omega
theorem common_le {t b : Int} (hb : b ≠ 0) : (common t b).natAbs ≤ b.natAbs := by
  have h1 : Nat.gcd t.natAbs b.natAbs ≤ b.natAbs := Nat.gcd_le_right _ (by omega)
  unfold common
  split <;> omega
theorem dvd_top (t b : Int) : ((Nat.gcd t.natAbs b.natAbs : Nat) : Int) ∣ t := by
  have := Nat.gcd_dvd_left t.natAbs b.natAbs
  exact Int.ofNat_dvd_left.mpr this
theorem dvd_bot (t b : Int) : ((Nat.gcd t.natAbs b.natAbs : Nat) : Int) ∣ b := by
  have := Nat.gcd_dvd_right t.natAbs b.natAbs
  exact Int.ofNat_dvd_left.mpr this
theorem quo_num {t b : Int} (hb : b ≠ 0) : t.fdiv (common t b) = (Rat.divInt t b).num := by
  rw [Rat.num_divInt, ← gcd_nat]
  have hd := dvd_top t b
  unfold common
  split
  · rename_i h
    rw [Int.fdiv_eq_ediv_of_dvd (Int.neg_dvd.mpr hd), Int.sign_eq_neg_one_of_neg h, Int.ediv_neg, Int.neg_mul, Int.one_mul, Int.neg_ediv_of_dvd hd]
  · rename_i h
    rw [Int.fdiv_eq_ediv_of_dvd hd, Int.sign_eq_one_of_pos (by omega), Int.one_mul]
theorem quo_den {t b : Int} (hb : b ≠ 0) : b.fdiv (common t b) = ((Rat.divInt t b).den : Int) := by
  rw [Rat.den_divInt, if_neg hb]
  have hg : b.gcd t = Nat.gcd t.natAbs b.natAbs := by rw [Int.gcd_comm]; rfl
  rw [hg]
  have hd := dvd_bot t b
  unfold common
  split
  · rename_i h
    rw [Int.fdiv_eq_ediv_of_dvd (Int.neg_dvd.mpr hd), Int.ediv_neg]
    have e : b = -(b.natAbs : Int) := by omega
    rw [Int.natCast_ediv]
    conv => lhs; rw [e]
    rw [Int.neg_ediv_of_dvd (by rw [← Int.dvd_neg, ← e]; exact hd), Int.neg_neg]
    simp
  · rename_i h
    rw [Int.fdiv_eq_ediv_of_dvd hd]
    have e : b = (b.natAbs : Int) := by omega
    rw [Int.natCast_ediv]
    conv => lhs; rw [e]
    simp
theorem den_ne (x : Rat) : (x.den : Int) ≠ 0 := by have := x.den_nz; omega
theorem den_mul_ne (x y : Rat) : (x.den : Int) * (y.den : Int) ≠ 0 := Int.mul_ne_zero (den_ne x) (den_ne y)
theorem q_add (x y : Rat) : Rat.divInt (x.num * (y.den : Int) + y.num * (x.den : Int)) ((x.den : Int) * (y.den : Int)) = x + y := by
  rw [← Rat.divInt_add_divInt _ _ (den_ne x) (den_ne y), Rat.num_divInt_den, Rat.num_divInt_den]
theorem q_sub (x y : Rat) : Rat.divInt (x.num * (y.den : Int) - y.num * (x.den : Int)) ((x.den : Int) * (y.den : Int)) = x - y := by
  rw [← Rat.divInt_sub_divInt _ _ (den_ne x) (den_ne y), Rat.num_divInt_den, Rat.num_divInt_den]
theorem q_mul (x y : Rat) : Rat.divInt (x.num * y.num) ((x.den : Int) * (y.den : Int)) = x * y := by
  rw [← Rat.divInt_mul_divInt _ _, Rat.num_divInt_den, Rat.num_divInt_den]
theorem q_neg (x : Rat) : Rat.divInt (-x.num) (x.den : Int) = -x := by
  rw [← Rat.neg_divInt, Rat.num_divInt_den]
theorem q_over (x y : Rat) : Rat.divInt (x.num * (y.den : Int)) ((x.den : Int) * y.num) = x / y := by
  rw [← Rat.divInt_mul_divInt, Rat.num_divInt_den, Rat.div_def, Rat.inv_def]
theorem q_whole (n : Int) : Rat.divInt n 1 = (n : Rat) := by
  rw [Rat.divInt_eq_div, Rat.intCast_one]
  grind
theorem q_eq (x y : Rat) : (decide (x.num = y.num) && decide ((x.den : Int) = (y.den : Int))) = decide (x = y) := by
  rw [Bool.eq_iff_iff]
  simp
  constructor
  · rintro ⟨h1, h2⟩
    exact Rat.ext h1 (by omega)
  · rintro rfl
    exact ⟨rfl, rfl⟩
theorem q_lt (x y : Rat) : decide (x.num * (y.den : Int) < y.num * (x.den : Int)) = decide (x < y) := by
  rw [Bool.eq_iff_iff]
  simp only [decide_eq_true_eq]
  exact (Rat.lt_iff x y).symm
theorem q_le (x y : Rat) : decide (x.num * (y.den : Int) ≤ y.num * (x.den : Int)) = decide (x ≤ y) := by
  rw [Bool.eq_iff_iff]
  simp only [decide_eq_true_eq]
  exact (Rat.le_iff x y).symm
/-! ### sizes -/
def bits (q : Rat) (n : Nat) : Prop := q.num.natAbs < 2 ^ n ∧ q.den < 2 ^ n
theorem divInt_le {t b : Int} (h : b ≠ 0) : (Rat.divInt t b).num.natAbs ≤ t.natAbs ∧ (Rat.divInt t b).den ≤ b.natAbs := by
  constructor
  · rw [← quo_num h]
    have hd := dvd_top t b
    have hc : common t b ∣ t := by
      unfold common
      split
      · exact Int.neg_dvd.mpr hd
      · exact hd
    rw [Int.fdiv_eq_ediv_of_dvd hc]
    have hn := common_ne (t := t) h
    generalize common t b = c at hc hn
    obtain ⟨k, rfl⟩ := hc
    rw [Int.mul_ediv_cancel_left _ hn, Int.natAbs_mul]
    exact Nat.le_mul_of_pos_left _ (by omega)
  · rw [Rat.den_divInt, if_neg h]
    exact Nat.div_le_self _ _
theorem bits_divInt {t b : Int} {n : Nat} (h : b ≠ 0) (h1 : t.natAbs < 2 ^ n) (h2 : b.natAbs < 2 ^ n) : bits (Rat.divInt t b) n := by
  have := divInt_le (t := t) h
  exact ⟨Nat.lt_of_le_of_lt this.1 h1, Nat.lt_of_le_of_lt this.2 h2⟩
theorem bits_mono {q : Rat} {m n : Nat} (h : bits q m) (k : m ≤ n) : bits q n := by
  have : 2 ^ m ≤ 2 ^ n := Nat.pow_le_pow_right (by omega) k
  exact ⟨Nat.lt_of_lt_of_le h.1 this, Nat.lt_of_lt_of_le h.2 this⟩
theorem mul_lt' {a b m n : Nat} (h1 : a < 2 ^ m) (h2 : b < 2 ^ n) : a * b < 2 ^ (m + n) := by
  rw [Nat.pow_add]
  exact Nat.mul_lt_mul'' h1 h2
theorem natAbs_mul_lt {a b : Int} {m n : Nat} (h1 : a.natAbs < 2 ^ m) (h2 : b.natAbs < 2 ^ n) : (a * b).natAbs < 2 ^ (m + n) := by
  rw [Int.natAbs_mul]
  exact mul_lt' h1 h2
theorem natAbs_add_lt {a b : Int} {n : Nat} (h1 : a.natAbs < 2 ^ n) (h2 : b.natAbs < 2 ^ n) : (a + b).natAbs < 2 ^ (n + 1) := by
  have : 2 ^ (n + 1) = 2 ^ n + 2 ^ n := by rw [Nat.pow_succ]; omega
  omega
theorem natAbs_sub_lt {a b : Int} {n : Nat} (h1 : a.natAbs < 2 ^ n) (h2 : b.natAbs < 2 ^ n) : (a - b).natAbs < 2 ^ (n + 1) := by
  have : 2 ^ (n + 1) = 2 ^ n + 2 ^ n := by rw [Nat.pow_succ]; omega
  omega
theorem bits_den {x : Rat} {m : Nat} (h : bits x m) : ((x.den : Int)).natAbs < 2 ^ m := by
  have := h.2
  simpa using this
theorem lt_succ {a n : Nat} (h : a < 2 ^ n) : a < 2 ^ (n + 1) := Nat.lt_of_lt_of_le h (Nat.pow_le_pow_right (by omega) (by omega))
theorem bits_add {x y : Rat} {m n : Nat} (h : bits x m) (k : bits y n) : bits (x + y) (m + n + 1) := by
  rw [← q_add]
  refine bits_divInt (den_mul_ne x y) ?_ (lt_succ (natAbs_mul_lt (bits_den h) (bits_den k)))
  refine natAbs_add_lt (natAbs_mul_lt h.1 (bits_den k)) ?_
  rw [Nat.add_comm]
  exact natAbs_mul_lt k.1 (bits_den h)
theorem bits_sub {x y : Rat} {m n : Nat} (h : bits x m) (k : bits y n) : bits (x - y) (m + n + 1) := by
  rw [← q_sub]
  refine bits_divInt (den_mul_ne x y) ?_ (lt_succ (natAbs_mul_lt (bits_den h) (bits_den k)))
  refine natAbs_sub_lt (natAbs_mul_lt h.1 (bits_den k)) ?_
  rw [Nat.add_comm]
  exact natAbs_mul_lt k.1 (bits_den h)
theorem bits_mul {x y : Rat} {m n : Nat} (h : bits x m) (k : bits y n) : bits (x * y) (m + n) := by
  rw [← q_mul]
  exact bits_divInt (den_mul_ne x y) (natAbs_mul_lt h.1 k.1) (natAbs_mul_lt (bits_den h) (bits_den k))
theorem bits_neg {x : Rat} {m : Nat} (h : bits x m) : bits (-x) m := by
  unfold bits
  rw [Rat.neg_num, Rat.neg_den, Int.natAbs_neg]
  exact h
theorem bits_over {x y : Rat} {m n : Nat} (hy : y ≠ 0) (h : bits x m) (k : bits y n) : bits (x / y) (m + n) := by
  rw [← q_over]
  have : y.num ≠ 0 := fun e => hy (Rat.num_eq_zero.mp e)
  exact bits_divInt (Int.mul_ne_zero (den_ne x) this) (natAbs_mul_lt h.1 (bits_den k)) (natAbs_mul_lt (bits_den h) k.1)
theorem bits_whole {n : Int} {m : Nat} (h : n.natAbs < 2 ^ m) (hm : 0 < m) : bits (n : Rat) m := by
  refine ⟨by simpa using h, ?_⟩
  have : (2 : Nat) ^ 1 ≤ 2 ^ m := Nat.pow_le_pow_right (by omega) hm
  simp
  omega
theorem bits_zero : bits 0 1 := ⟨by decide, by decide⟩
theorem bits_one : bits 1 1 := ⟨by decide, by decide⟩
/-- what products of a quotient's parts ask -/
theorem wide_q {a b : Int} {m n : Nat} (h1 : a.natAbs < 2 ^ m) (h2 : b.natAbs < 2 ^ n) (h : m + n ≤ 900000) : CMulW a b :=
  wide_mul (lt_succ h1) (lt_succ h2) (by omega) (by omega) (by omega)
theorem small_of {a n : Nat} (h : a < 2 ^ n) (hn : n ≤ 8990) : a < 2 ^ 8990 := Nat.lt_of_lt_of_le h (Nat.pow_le_pow_right (by omega) hn)
theorem one_small : (1 : Int).natAbs < 2 ^ 8990 := small_of (n := 1) (by decide) (by decide)
theorem dec_ints {i j : Int} : decide (V.int i = V.int j) = decide (i = j) := by
  rw [Bool.eq_iff_iff]
  simp
/-- // by a number other than 0 -/
def CDivG (_ j : Int) : Prop := j ≠ 0 ∧ j.natAbs.log2 < 9000
theorem op_fdivG {X : Cx} : OpR X (binaryOp .FloorDiv) (rI CDivG fun i j => .int (i.fdiv j)) := opI fun _ _ _ _ _ _ _ hc q => PyProof.Rows.floordiv_int hc.1 q (.inl (PyProof.noPylong_of_log2 hc.2))
theorem cdivG {i j : Int} (h : j ≠ 0) {n : Nat} (hb : j.natAbs < 2 ^ n) (hn : n ≤ 8999) : CDivG i j := by
  refine ⟨h, ?_⟩
  have := PySem.Flt.log2_lt_of (by omega) (lt_succ hb)
  omega
end G
/-! The law's own ends; the script's cells. -/
namespace G
open PySem L2 PySem.Spec PyProof.Rows
def spLaw (K : PySem.W.Frag) : Sp := fun vs H Q _ => ∃ (a : Addr) (ns : List Int), vs = [.ref a] ∧ SqL K H a (ns.map V.int) ∧ ns.length ≤ 63 ∧ ∀ H', Q (.bl true) H'
def scr (ns : List Int) : D := .fz ((ns.map V.int).map D.raw)
section
variable {Pr : Program} {w : World} {K : PySem.W.Frag} {mg : Str → Option Value} {base : Heap} {x qual : Str} {st : Stmt} {f : Addr} {fd : FuncData} {N ps : List Str} {k n : Nat}
theorem okLaw (F : Fun K x qual st f fd) (S : FnScope N ps (defScope st)) (hn : ps.length = 1)
    (hb : ∀ (cdv : Value) (A : Around) (outer : List Env) (s : Shared) (H : Hp) (E : XK), Room k (A.deeper (envOfC qual (defScope st) s.heap.objs.size f cdv)) → ∃ t, PSs (cxOf CX0 Pr w K mg base N qual (defScope st) f cdv A outer s H E).nox (defBody st) t ∧
      ∀ ns : List Int, ns.length ≤ 63 → wS K t (rho0 N.length [scr ns]) [] (retP fun d => d = .bl true)) : FnOk Pr w K mg base CX0 (k + 1) f fd ps (spLaw K) := by
  refine F.ok S (fun vs H Q E h => ?_) (fun cdv A outer s H vs Q E hr h => ?_)
  · obtain ⟨a, ns, rfl, _⟩ := h
    exact hn.symm
  · obtain ⟨t, ht, hw⟩ := hb cdv A outer s H E hr
    refine ⟨t, ht, ?_⟩
    obtain ⟨a, ns, rfl, hS, hl, q⟩ := h
    have hs : Hs K H H ([] ++ []) := ⟨Evl.Ex.refl H, (fun p hp => absurd hp (by simp)), List.nodup_nil⟩
    refine hw ns hl [] _ H H (envR_start (.cons (.fz hS (Reps.raws _)) .nil)) hs _ fun o O2 B2 H2 p e2 hs2 => ?_
    cases o with
    | nx ρ => exact absurd p (by intro z; cases z)
    | ret d =>
      intro v rv
      have p' : d = .bl true := p
      subst p'
      cases rv
      exact q H2
    | bk ρ => exact False.elim p
    | ct ρ => exact False.elim p
end
/-- the cell of the script -/
def cell (ns : List Int) (k : Int) : Int := ns.getD k.toNat 0
def W_cell (ds : List D) (P : D → Prop) : Prop := ∃ (ns : List Int) (k : Int), ds = [scr ns, .int k] ∧ 0 ≤ k ∧ P (.int (cell ns k))
theorem atI_nat' {α : Type} {xs : List α} {k : Int} (h0 : 0 ≤ k) (h : k < xs.length) : atI xs k = xs[k.toNat]? := by
  unfold atI ixN
  rw [if_pos h0, if_pos (by omega)]
  rfl
theorem cell_lt {ns : List Int} {k : Int} (h0 : 0 ≤ k) (h : k < ns.length) : atI ((ns.map V.int).map D.raw) k = some (.int (cell ns k)) := by
  rw [atI_nat' h0 (by simpa using h)]
  unfold cell
  rw [List.getElem?_map, List.getElem?_map]
  have : k.toNat < ns.length := by omega
  rw [List.getElem?_eq_getElem this]
  simp [this]
theorem cell_ge {ns : List Int} {k : Int} (h : ¬ k < ns.length) (h0 : 0 ≤ k) : cell ns k = 0 := by
  unfold cell
  have : ns.length ≤ k.toNat := by omega
  simp [List.getD, List.getElem?_eq_none this]
theorem scr_len (ns : List Int) : ((ns.map V.int).map D.raw).length = ns.length := by simp
/-- numbers up to 10 ** 24 -/
def number (ns : List Int) (k : Int) : Int := cell ns k % (2 * 10 ^ 24 + 1) - 10 ^ 24
theorem number_lt (ns : List Int) (k : Int) : (number ns k).natAbs < 2 ^ 80 := by
  unfold number
  have h1 := Int.emod_nonneg (cell ns k) (show (2 * 10 ^ 24 + 1 : Int) ≠ 0 by decide)
  have h2 := Int.emod_lt_of_pos (cell ns k) (show (0 : Int) < 2 * 10 ^ 24 + 1 by decide)
  have e : (10 : Int) ^ 24 = 1000000000000000000000000 := by decide
  have e2 : (2 : Nat) ^ 80 = 1208925819614629174706176 := by decide
  rw [e] at *
  rw [e2]
  omega
def W_number (ds : List D) (P : D → Prop) : Prop := ∃ (ns : List Int) (k : Int), ds = [scr ns, .int k] ∧ 0 ≤ k ∧ P (.int (number ns k))
theorem cpow24 : CPow 10 24 := by unfold CPow; decide
theorem cmul24 : CMulW 2 (10 ^ Int.toNat 24) := by unfold CMulW; decide +kernel
def W_sameB (ds : List D) (P : D → Prop) : Prop := ∃ x y : Bool, ds = [.bl x, .bl y] ∧ P (.bl (decide (x = y)))
/-! ### tests that hold -/
theorem or_step {p : Prop} [Decidable p] {A B : Prop} (hp : p) (h : A) : ((!decide p) = false → A) ∧ ((!decide p) = true → B) := ⟨fun _ => h, fun z => by simp [hp] at z⟩
theorem or_last {p : Prop} [Decidable p] {A B : Prop} (hp : p) (h : B) : ((!decide p) = true → A) ∧ ((!decide p) = false → B) := ⟨fun z => by simp [hp] at z, fun _ => h⟩
theorem small_wide {a b : Int} (h1 : a.natAbs < 2 ^ 64) (h2 : b.natAbs < 2 ^ 64) : CMulW a b := wide_q h1 h2 (by omega)
/-! ### the quotients' own promises -/
def W_Qinit (CB : Addr) (ds : List D) (PF : List (Str × D) → Prop) (PX : Addr → Prop) : Prop := ∃ t b : Int, ds = [.int t, .int b] ∧ (b = 0 → PX CB) ∧ (b ≠ 0 → b.natAbs < 2 ^ 8990 ∧ PF [("top", .int (Rat.divInt t b).num), ("bottom", .int ((Rat.divInt t b).den : Int))])
def W_q2 (C : Addr) (f : Rat → Rat → D) (ds : List D) (P : D → Prop) : Prop := ∃ (x y : Rat) (m n : Nat), ds = [dQ C x, dQ C y] ∧ bits x m ∧ bits y n ∧ m + n ≤ 8900 ∧ P (f x y)
def W_q1 (C : Addr) (f : Rat → D) (ds : List D) (P : D → Prop) : Prop := ∃ (x : Rat) (m : Nat), ds = [dQ C x] ∧ bits x m ∧ m ≤ 8900 ∧ P (f x)
def W_over (C CB : Addr) (ds : List D) (P : D → Prop) (PX : Addr → Prop) : Prop := ∃ (x y : Rat) (m n : Nat), ds = [dQ C x, dQ C y] ∧ bits x m ∧ bits y n ∧ m + n ≤ 8900 ∧ (y = 0 → PX CB) ∧ (y ≠ 0 → P (dQ C (x / y)))
def W_whole (C : Addr) (ds : List D) (P : D → Prop) : Prop := ∃ n : Int, ds = [.int n] ∧ P (dQ C (n : Rat))
def W_q0 (C : Addr) (q : Rat) (ds : List D) (P : D → Prop) : Prop := ds = [] ∧ P (dQ C q)
/-- a sum of quotients, from the left; its size -/
def sumQ (qs : List Rat) : Rat := qs.foldl (· + ·) 0
def W_total (C : Addr) (ds : List D) (P : D → Prop) : Prop := ∃ (qs : List Rat) (m : Nat), (ds = [.lst (qs.map (dQ C))] ∨ ds = [.tup (qs.map (dQ C))]) ∧ (∀ q ∈ qs, bits q m) ∧ (m + 1) * (qs.length + 1) ≤ 8000 ∧ P (dQ C (sumQ qs))
theorem sumQ_take {qs : List Rat} {i : Nat} {q : Rat} (h : qs[i]? = some q) : sumQ (qs.take (i + 1)) = sumQ (qs.take i) + q := by
  unfold sumQ
  have hi := (List.getElem?_eq_some_iff.mp h).1
  have e : qs.take (i + 1) = qs.take i ++ [q] := by
    rw [List.take_succ, h]
    rfl
  rw [e, List.foldl_append]
  rfl
theorem bits_sumQ {m : Nat} : ∀ (qs : List Rat) (i : Nat), (∀ q ∈ qs, bits q m) → i ≤ qs.length → bits (sumQ (qs.take i)) ((m + 1) * i + 1)
  | qs, 0, _, _ => bits_zero
  | qs, i + 1, h, hi => by
    have hlt : i < qs.length := by omega
    rw [sumQ_take (List.getElem?_eq_getElem hlt)]
    refine bits_mono (bits_add (bits_sumQ qs i h (by omega)) (h _ (List.getElem_mem hlt))) ?_
    rw [Nat.mul_add]
    omega
end G
namespace My
open PySem L2 PySem.Spec PyProof.Rows G
def topS (i : Nat) : Stmt := PySem.Challenge.pw_colormatch_k01_quotients_are_a_field.main.body.getD i (.Pass ⟨0, 0, 0, 0⟩)
abbrev s_Quotient_init : Stmt := inClass (topS 7) 0
abbrev N_Quotient_init : List Str := ["self", "top", "bottom", "common"]
theorem sc_Quotient_init : FnScope N_Quotient_init ["self", "top", "bottom"] (defScope s_Quotient_init) := ⟨rfl, rfl, rfl, by decide +kernel, rfl, by decide +kernel, by decide +kernel⟩
abbrev s_Quotient_add : Stmt := inClass (topS 7) 1
abbrev N_Quotient_add : List Str := ["self", "other"]
theorem sc_Quotient_add : FnScope N_Quotient_add ["self", "other"] (defScope s_Quotient_add) := ⟨rfl, rfl, rfl, by decide +kernel, rfl, by decide +kernel, by decide +kernel⟩
abbrev s_Quotient_sub : Stmt := inClass (topS 7) 2
abbrev N_Quotient_sub : List Str := ["self", "other"]
theorem sc_Quotient_sub : FnScope N_Quotient_sub ["self", "other"] (defScope s_Quotient_sub) := ⟨rfl, rfl, rfl, by decide +kernel, rfl, by decide +kernel, by decide +kernel⟩
abbrev s_Quotient_mul : Stmt := inClass (topS 7) 3
abbrev N_Quotient_mul : List Str := ["self", "other"]
theorem sc_Quotient_mul : FnScope N_Quotient_mul ["self", "other"] (defScope s_Quotient_mul) := ⟨rfl, rfl, rfl, by decide +kernel, rfl, by decide +kernel, by decide +kernel⟩
abbrev s_Quotient_neg : Stmt := inClass (topS 7) 4
abbrev N_Quotient_neg : List Str := ["self"]
theorem sc_Quotient_neg : FnScope N_Quotient_neg ["self"] (defScope s_Quotient_neg) := ⟨rfl, rfl, rfl, by decide +kernel, rfl, by decide +kernel, by decide +kernel⟩
abbrev s_Quotient_eq : Stmt := inClass (topS 7) 5
abbrev N_Quotient_eq : List Str := ["self", "other"]
theorem sc_Quotient_eq : FnScope N_Quotient_eq ["self", "other"] (defScope s_Quotient_eq) := ⟨rfl, rfl, rfl, by decide +kernel, rfl, by decide +kernel, by decide +kernel⟩
abbrev s_Quotient_lt : Stmt := inClass (topS 7) 6
abbrev N_Quotient_lt : List Str := ["self", "other"]
theorem sc_Quotient_lt : FnScope N_Quotient_lt ["self", "other"] (defScope s_Quotient_lt) := ⟨rfl, rfl, rfl, by decide +kernel, rfl, by decide +kernel, by decide +kernel⟩
abbrev s_Quotient_le : Stmt := inClass (topS 7) 7
abbrev N_Quotient_le : List Str := ["self", "other"]
theorem sc_Quotient_le : FnScope N_Quotient_le ["self", "other"] (defScope s_Quotient_le) := ⟨rfl, rfl, rfl, by decide +kernel, rfl, by decide +kernel, by decide +kernel⟩
abbrev s_Quotient_over : Stmt := inClass (topS 7) 9
abbrev N_Quotient_over : List Str := ["self", "other"]
theorem sc_Quotient_over : FnScope N_Quotient_over ["self", "other"] (defScope s_Quotient_over) := ⟨rfl, rfl, rfl, by decide +kernel, rfl, by decide +kernel, by decide +kernel⟩
abbrev s_whole : Stmt := topS 8
abbrev N_whole : List Str := ["number"]
theorem sc_whole : FnScope N_whole ["number"] (defScope s_whole) := ⟨rfl, rfl, rfl, by decide +kernel, rfl, by decide +kernel, by decide +kernel⟩
abbrev s_zero : Stmt := topS 9
abbrev N_zero : List Str := []
theorem sc_zero : FnScope N_zero [] (defScope s_zero) := ⟨rfl, rfl, rfl, by decide +kernel, rfl, by decide +kernel, by decide +kernel⟩
abbrev s_one : Stmt := topS 10
abbrev N_one : List Str := []
theorem sc_one : FnScope N_one [] (defScope s_one) := ⟨rfl, rfl, rfl, by decide +kernel, rfl, by decide +kernel, by decide +kernel⟩
abbrev s_total : Stmt := topS 11
abbrev N_total : List Str := ["quotients", "result", "quotient"]
theorem sc_total : FnScope N_total ["quotients"] (defScope s_total) := ⟨rfl, rfl, rfl, by decide +kernel, rfl, by decide +kernel, by decide +kernel⟩
abbrev s_law_cell : Stmt := topS 14
abbrev N_law_cell : List Str := ["script", "k"]
theorem sc_law_cell : FnScope N_law_cell ["script", "k"] (defScope s_law_cell) := ⟨rfl, rfl, rfl, by decide +kernel, rfl, by decide +kernel, by decide +kernel⟩
abbrev s_law_same : Stmt := topS 16
abbrev N_law_same : List Str := ["actual", "expected", "k"]
theorem sc_law_same : FnScope N_law_same ["actual", "expected"] (defScope s_law_same) := ⟨rfl, rfl, rfl, by decide +kernel, rfl, by decide +kernel, by decide +kernel⟩
abbrev s_law_number : Stmt := topS 17
abbrev N_law_number : List Str := ["script", "k"]
theorem sc_law_number : FnScope N_law_number ["script", "k"] (defScope s_law_number) := ⟨rfl, rfl, rfl, by decide +kernel, rfl, by decide +kernel, by decide +kernel⟩
abbrev s_law : Stmt := topS 18
abbrev N_law : List Str := ["script", "drawn", "k", "bottom", "a", "b", "c", "less"]
theorem sc_law : FnScope N_law ["script"] (defScope s_law) := ⟨rfl, rfl, rfl, by decide +kernel, rfl, by decide +kernel, by decide +kernel⟩
structure Lay where
  C_ColorError : Addr
  C_BadQuotient : Addr
  C_Quotient : Addr
  f_Quotient_init : Addr
  d_Quotient_init : FuncData
  f_Quotient_add : Addr
  d_Quotient_add : FuncData
  f_Quotient_sub : Addr
  d_Quotient_sub : FuncData
  f_Quotient_mul : Addr
  d_Quotient_mul : FuncData
  f_Quotient_neg : Addr
  d_Quotient_neg : FuncData
  f_Quotient_eq : Addr
  d_Quotient_eq : FuncData
  f_Quotient_lt : Addr
  d_Quotient_lt : FuncData
  f_Quotient_le : Addr
  d_Quotient_le : FuncData
  f_Quotient_over : Addr
  d_Quotient_over : FuncData
  f_whole : Addr
  d_whole : FuncData
  f_zero : Addr
  d_zero : FuncData
  f_one : Addr
  d_one : FuncData
  f_total : Addr
  d_total : FuncData
  f_law_cell : Addr
  d_law_cell : FuncData
  f_law_same : Addr
  d_law_same : FuncData
  f_law_number : Addr
  d_law_number : FuncData
  f_law : Addr
  d_law : FuncData
structure Txt (K : PySem.W.Frag) (mg : Str → Option Value) (L : Lay) : Prop where
  F_Quotient_init : Fun K "__init__" "Quotient.__init__" s_Quotient_init L.f_Quotient_init L.d_Quotient_init
  b_Quotient_init : Binds K L.d_Quotient_init ["self", "top", "bottom"] []
  fi_Quotient_init : PySem.W.findIn K (.ref L.C_Quotient) "__init__" = some (some (.ref L.f_Quotient_init))
  fn_Quotient_init : PySem.W.isFn K (.ref L.f_Quotient_init) = true
  me_Quotient_init : Meth K L.C_Quotient "__init__" L.f_Quotient_init
  F_Quotient_add : Fun K "__add__" "Quotient.__add__" s_Quotient_add L.f_Quotient_add L.d_Quotient_add
  b_Quotient_add : Binds K L.d_Quotient_add ["self", "other"] []
  fi_Quotient_add : PySem.W.findIn K (.ref L.C_Quotient) "__add__" = some (some (.ref L.f_Quotient_add))
  fn_Quotient_add : PySem.W.isFn K (.ref L.f_Quotient_add) = true
  me_Quotient_add : Meth K L.C_Quotient "__add__" L.f_Quotient_add
  F_Quotient_sub : Fun K "__sub__" "Quotient.__sub__" s_Quotient_sub L.f_Quotient_sub L.d_Quotient_sub
  b_Quotient_sub : Binds K L.d_Quotient_sub ["self", "other"] []
  fi_Quotient_sub : PySem.W.findIn K (.ref L.C_Quotient) "__sub__" = some (some (.ref L.f_Quotient_sub))
  fn_Quotient_sub : PySem.W.isFn K (.ref L.f_Quotient_sub) = true
  me_Quotient_sub : Meth K L.C_Quotient "__sub__" L.f_Quotient_sub
  F_Quotient_mul : Fun K "__mul__" "Quotient.__mul__" s_Quotient_mul L.f_Quotient_mul L.d_Quotient_mul
  b_Quotient_mul : Binds K L.d_Quotient_mul ["self", "other"] []
  fi_Quotient_mul : PySem.W.findIn K (.ref L.C_Quotient) "__mul__" = some (some (.ref L.f_Quotient_mul))
  fn_Quotient_mul : PySem.W.isFn K (.ref L.f_Quotient_mul) = true
  me_Quotient_mul : Meth K L.C_Quotient "__mul__" L.f_Quotient_mul
  F_Quotient_neg : Fun K "__neg__" "Quotient.__neg__" s_Quotient_neg L.f_Quotient_neg L.d_Quotient_neg
  b_Quotient_neg : Binds K L.d_Quotient_neg ["self"] []
  fi_Quotient_neg : PySem.W.findIn K (.ref L.C_Quotient) "__neg__" = some (some (.ref L.f_Quotient_neg))
  fn_Quotient_neg : PySem.W.isFn K (.ref L.f_Quotient_neg) = true
  me_Quotient_neg : Meth K L.C_Quotient "__neg__" L.f_Quotient_neg
  F_Quotient_eq : Fun K "__eq__" "Quotient.__eq__" s_Quotient_eq L.f_Quotient_eq L.d_Quotient_eq
  b_Quotient_eq : Binds K L.d_Quotient_eq ["self", "other"] []
  fi_Quotient_eq : PySem.W.findIn K (.ref L.C_Quotient) "__eq__" = some (some (.ref L.f_Quotient_eq))
  fn_Quotient_eq : PySem.W.isFn K (.ref L.f_Quotient_eq) = true
  me_Quotient_eq : Meth K L.C_Quotient "__eq__" L.f_Quotient_eq
  F_Quotient_lt : Fun K "__lt__" "Quotient.__lt__" s_Quotient_lt L.f_Quotient_lt L.d_Quotient_lt
  b_Quotient_lt : Binds K L.d_Quotient_lt ["self", "other"] []
  fi_Quotient_lt : PySem.W.findIn K (.ref L.C_Quotient) "__lt__" = some (some (.ref L.f_Quotient_lt))
  fn_Quotient_lt : PySem.W.isFn K (.ref L.f_Quotient_lt) = true
  me_Quotient_lt : Meth K L.C_Quotient "__lt__" L.f_Quotient_lt
  F_Quotient_le : Fun K "__le__" "Quotient.__le__" s_Quotient_le L.f_Quotient_le L.d_Quotient_le
  b_Quotient_le : Binds K L.d_Quotient_le ["self", "other"] []
  fi_Quotient_le : PySem.W.findIn K (.ref L.C_Quotient) "__le__" = some (some (.ref L.f_Quotient_le))
  fn_Quotient_le : PySem.W.isFn K (.ref L.f_Quotient_le) = true
  me_Quotient_le : Meth K L.C_Quotient "__le__" L.f_Quotient_le
  F_Quotient_over : Fun K "over" "Quotient.over" s_Quotient_over L.f_Quotient_over L.d_Quotient_over
  b_Quotient_over : Binds K L.d_Quotient_over ["self", "other"] []
  fi_Quotient_over : PySem.W.findIn K (.ref L.C_Quotient) "over" = some (some (.ref L.f_Quotient_over))
  fn_Quotient_over : PySem.W.isFn K (.ref L.f_Quotient_over) = true
  me_Quotient_over : Meth K L.C_Quotient "over" L.f_Quotient_over
  F_whole : Fun K "whole" "whole" s_whole L.f_whole L.d_whole
  b_whole : Binds K L.d_whole ["number"] []
  m_whole : mg "whole" = some (.ref L.f_whole)
  F_zero : Fun K "zero" "zero" s_zero L.f_zero L.d_zero
  b_zero : Binds K L.d_zero [] []
  m_zero : mg "zero" = some (.ref L.f_zero)
  F_one : Fun K "one" "one" s_one L.f_one L.d_one
  b_one : Binds K L.d_one [] []
  m_one : mg "one" = some (.ref L.f_one)
  F_total : Fun K "total" "total" s_total L.f_total L.d_total
  b_total : Binds K L.d_total ["quotients"] []
  m_total : mg "total" = some (.ref L.f_total)
  F_law_cell : Fun K "_law_cell" "_law_cell" s_law_cell L.f_law_cell L.d_law_cell
  b_law_cell : Binds K L.d_law_cell ["script", "k"] []
  m_law_cell : mg "_law_cell" = some (.ref L.f_law_cell)
  F_law_same : Fun K "_law_same" "_law_same" s_law_same L.f_law_same L.d_law_same
  b_law_same : Binds K L.d_law_same ["actual", "expected"] []
  m_law_same : mg "_law_same" = some (.ref L.f_law_same)
  F_law_number : Fun K "_law_number" "_law_number" s_law_number L.f_law_number L.d_law_number
  b_law_number : Binds K L.d_law_number ["script", "k"] []
  m_law_number : mg "_law_number" = some (.ref L.f_law_number)
  F_law : Fun K "law" "law" s_law L.f_law L.d_law
  b_law : Binds K L.d_law ["script"] []
  m_law : mg "law" = some (.ref L.f_law)
  mg_ColorError : mg "ColorError" = some (.ref L.C_ColorError)
  mg_BadQuotient : mg "BadQuotient" = some (.ref L.C_BadQuotient)
  mg_Quotient : mg "Quotient" = some (.ref L.C_Quotient)
  k_Quotient : KC K L.C_Quotient
  sf_Quotient : PySem.W.selfFirst K L.C_Quotient = true
  mk_Quotient : Mk K L.C_Quotient L.f_Quotient_init
  na_Quotient_top : NoAttr K L.C_Quotient "top"
  na_Quotient_bottom : NoAttr K L.C_Quotient "bottom"
  kit_Quotient_Quotient : PySem.W.kitOne K (.ref L.C_Quotient) (.ref L.C_Quotient) = some true
  kit_bool_bool : PySem.W.kitOne K (.type "bool") (.type "bool") = some true
  x_BadQuotient : PySem.W.excIn K L.C_BadQuotient [.type "ValueError", .type "Exception", .type "BaseException", .type "object"] "ValueError.__new__" = true
  kc_BadQuotient : PySem.W.keepIn K (.ref L.C_BadQuotient) = true
  xb_BadQuotient : PySem.W.subIn K (.ref L.C_BadQuotient) (.type "BaseException") = some true
  xt_BadQuotient : PySem.W.typeIn K (.ref L.C_BadQuotient) = some (.type "type")
  xi_BadQuotient : PySem.W.isClsIn K L.C_BadQuotient = true
  xs_BadQuotient : PySem.W.subIn K (.ref L.C_BadQuotient) (.ref L.C_BadQuotient) = some true
  n_abs : mg "abs" = none
  n_bool : mg "bool" = none
  n_divmod : mg "divmod" = none
  n_int : mg "int" = none
  n_isinstance : mg "isinstance" = none
  n_len : mg "len" = none
  n_list : mg "list" = none
  n_range : mg "range" = none
  n_str : mg "str" = none
  n_tuple : mg "tuple" = none
  n_ValueError : mg "ValueError" = none
  i_gcd : mg "gcd" = some (.builtin "math.gcd")
  c_PIECE_DIGITS : ∃ u, mg "PIECE_DIGITS" = some u ∧ RelV (.int 18) u
  c_PIECE : ∃ u, mg "PIECE" = some u ∧ RelV (.int 1000000000000000000) u
section
variable {Pr : Program} {w : World} {K : PySem.W.Frag} {mg : Str → Option Value} {base : Heap} {L : Lay}
theorem e_top {te : TE} {ρ : Rho} {O : Store} {P : D → Store → Prop} (T : Txt K mg L) (h : wE K te ρ O fun x O1 => ∃ q, x = dQ L.C_Quotient q ∧ P (.int q.num) O1) : wE K (tFld K te "top") ρ O P :=
  e_fld (h.mono fun d O' z => by obtain ⟨q, rfl, p⟩ := z; exact ⟨_, _, _, rfl, T.k_Quotient.cl, T.na_Quotient_top, rfl, p⟩)
theorem e_bot {te : TE} {ρ : Rho} {O : Store} {P : D → Store → Prop} (T : Txt K mg L) (h : wE K te ρ O fun x O1 => ∃ q, x = dQ L.C_Quotient q ∧ P (.int (q.den : Int)) O1) : wE K (tFld K te "bottom") ρ O P :=
  e_fld (h.mono fun d O' z => by obtain ⟨q, rfl, p⟩ := z; exact ⟨_, _, _, rfl, T.k_Quotient.cl, T.na_Quotient_bottom, rfl, p⟩)
theorem e_topv {ρ : Rho} {O : Store} {P : D → Store → Prop} {i : Nat} {q : Rat} (T : Txt K mg L) (h : ρ[i]? = some (some (dQ L.C_Quotient q))) (p : P (.int q.num) O) : wE K (tFld K (tVar i) "top") ρ O P := e_top T (e_var h ⟨q, rfl, p⟩)
theorem e_botv {ρ : Rho} {O : Store} {P : D → Store → Prop} {i : Nat} {q : Rat} (T : Txt K mg L) (h : ρ[i]? = some (some (dQ L.C_Quotient q))) (p : P (.int (q.den : Int)) O) : wE K (tFld K (tVar i) "bottom") ρ O P := e_bot T (e_var h ⟨q, rfl, p⟩)
theorem ok_Quotient_init (T : Txt K mg L) : FnOk Pr w K mg base (L2.CX Pr w) 1 L.f_Quotient_init L.d_Quotient_init ["self", "top", "bottom"] (spI K L.C_Quotient 2 (W_Qinit L.C_BadQuotient)) := by
  refine okI T.F_Quotient_init sc_Quotient_init rfl (fun cdv A outer s H0 E hr => ⟨_, (pss_cons (ps_if (pt_cmpR op_eq (pv 2) pe_int (nomark _)) (pss_one (ps_raise rfl (takes_of rfl rfl rfl rfl) (pmk_own PySem.F.excBase_ValueError T.x_BadQuotient T.mg_BadQuotient T.kc_BadQuotient (raises_own T.xb_BadQuotient T.xt_BadQuotient) (by rfl)))) pss_nil)
    (pss_cons (ps_set (i := 3) sc_Quotient_init.nd rfl (by first | exact Or.inl rfl | exact Or.inr rfl) (pe_callBfun cr_gcd (by rfl) T.i_gcd (pa_cons (pv 1) (pa_cons (pv 2) pa_nil))))
    (pss_cons (ps_if (pt_cmpR op_lt (pv 2) pe_int (nomark _)) (pss_one (ps_set (i := 3) sc_Quotient_init.nd rfl (by first | exact Or.inl rfl | exact Or.inr rfl) (pe_un un_neg (pv 3)))) pss_nil)
    (pss_cons (ps_fld (pv 0) (pe_op op_fdivG (pv 1) (pv 3)) rfl)
    (pss_one (ps_fld (pv 0) (pe_op op_fdivG (pv 2) (pv 3)) rfl)))))), ?_⟩)
  rintro ds PF PX hl ⟨t, b, rfl, h0, h1⟩ xa F1 B H σ Q e hs q qx
  refine t_run (P := fun bb O' => bb = decide (b = 0) ∧ O' = [(xa, .ins L.C_Quotient [])]) (O := [(xa, .ins L.C_Quotient [])]) ?_ e hs ?_
  · refine t_test (e_op (e_var rfl (e_c (r_eq rfl ⟨_, rfl, ?_, rfl⟩))))
    rw [Bool.eq_iff_iff]
    simp
  · rintro bb O' B2 H2 ⟨rfl, rfl⟩ e2 hs2
    by_cases hb : b = 0
    · rw [decide_eq_true hb]
      exact qx _ B2 H2 (h0 hb) e2 hs2.tail
    · obtain ⟨hbits, hPF⟩ := h1 hb
      rw [decide_eq_false hb]
      refine iteF ?_
      dsimp only [tNext]
      refine init_rest (C := L.C_Quotient) (PF := PF) ?_ (e.mono e2) hs2 e2 q
      refine s_seq (s_asg (e_cb (a_cons (e_var rfl (a_cons (e_var rfl (a_nil (c_gcd ?_))))))))
      refine s_seq (wS.mono (PS := fun o O' => o = .nx [some (.loc xa), some (.int t), some (.int b), some (.int (common t b))] ∧ O' = [(xa, .ins L.C_Quotient [])]) ?_ ?_)
      · refine s_if (t_test (e_op (e_var rfl (e_c (r_rI0 ⟨_, rfl, fun hn => ?_, fun hn => ?_⟩)))))
        · refine s_asg (e_un (e_var rfl (r_rU ⟨?_, rfl⟩)))
          unfold common
          rw [if_pos (of_decide_eq_true hn)]
          rfl
        · refine s_next ⟨?_, rfl⟩
          unfold common
          rw [if_neg (of_decide_eq_false hn)]
          rfl
      · rintro o O' ⟨rfl, rfl⟩
        have hc := common_ne (t := t) hb
        have hcb : (common t b).natAbs < 2 ^ 8990 := Nat.lt_of_le_of_lt (common_le hb) hbits
        refine s_seq (s_fld (e_op (e_var rfl (e_var rfl (r_rI (cdivG hc hcb (by decide)) (e_var rfl ⟨xa, L.C_Quotient, [], _, rfl, .here, T.k_Quotient.cl, T.na_Quotient_top, by decide, ?_⟩))))))
        refine s_fld (e_op (e_var rfl (e_var rfl (r_rI (cdivG hc hcb (by decide)) (e_var rfl ⟨xa, L.C_Quotient, _, _, rfl, .here, T.k_Quotient.cl, T.na_Quotient_bottom, (by show 1 < 1000; decide), ?_⟩)))))
        refine ⟨_, rfl, ?_⟩
        rw [quo_num hb, quo_den hb]
        exact hPF
theorem ok_whole (T : Txt K mg L) : FnOk Pr w K mg base CX0 3 L.f_whole L.d_whole ["number"] (spP K 1 (W_whole L.C_Quotient)) := by
  refine okP T.F_whole sc_whole rfl (fun cdv A outer s H E hr => ⟨_, (pss_one (ps_ret (pe_make T.mk_Quotient (ok_Quotient_init T) (hr.mono (by decide)) (by rfl) T.mg_Quotient T.b_Quotient_init .nil passL (pa_cons (pv 0) (pa_cons pe_int pa_nil))))), ?_⟩)
  rintro ds P hl ⟨n, rfl, p⟩
  refine s_ret (e_make (a_cons (e_var rfl (a_cons (e_c (a_nil ⟨rfl, n, 1, rfl, fun z => absurd z (by decide), fun _ => ⟨one_small, ?_⟩⟩))))))
  rw [q_whole]
  exact p
theorem ok_zero (T : Txt K mg L) : FnOk Pr w K mg base CX0 4 L.f_zero L.d_zero [] (spP K 0 (W_q0 L.C_Quotient 0)) := by
  refine okP T.F_zero sc_zero rfl (fun cdv A outer s H E hr => ⟨_, (pss_one (ps_ret (pe_call (ok_whole T) (hr.mono (by decide)) (by rfl) T.m_whole T.F_whole.kp T.b_whole .nil pass0 (pa_cons pe_int pa_nil)))), ?_⟩)
  rintro ds P hl ⟨rfl, p⟩
  exact s_ret (e_call (a_cons (e_c (a_nil ⟨rfl, 0, rfl, p⟩))))
theorem ok_one (T : Txt K mg L) : FnOk Pr w K mg base CX0 4 L.f_one L.d_one [] (spP K 0 (W_q0 L.C_Quotient 1)) := by
  refine okP T.F_one sc_one rfl (fun cdv A outer s H E hr => ⟨_, (pss_one (ps_ret (pe_call (ok_whole T) (hr.mono (by decide)) (by rfl) T.m_whole T.F_whole.kp T.b_whole .nil pass0 (pa_cons pe_int pa_nil)))), ?_⟩)
  rintro ds P hl ⟨rfl, p⟩
  exact s_ret (e_call (a_cons (e_c (a_nil ⟨rfl, 1, rfl, p⟩))))
/-- a quotient made of two parts -/
theorem e_quo {ta tb : TE} {ρ : Rho} {O : Store} {P : D → Store → Prop} {C CB : Addr} {E : XK} (h : wE K ta ρ O fun x O1 => wE K tb ρ O1 fun y O2 => ∃ t b : Int, x = .int t ∧ y = .int b ∧ b ≠ 0 ∧ b.natAbs < 2 ^ 8990 ∧ P (dQ C (Rat.divInt t b)) O2) :
    wE K (tMake C (spI K C 2 (W_Qinit CB)) [] E (tCons ta (tCons tb tNil))) ρ O P :=
  e_make (a_cons (h.mono fun x O1 h1 => a_cons (h1.mono fun y O2 h2 => a_nil (by
    obtain ⟨t, b, rfl, rfl, hb, hz, p⟩ := h2
    exact ⟨rfl, t, b, rfl, fun z => absurd z hb, fun _ => ⟨hz, p⟩⟩))))
theorem ok_Quotient_add (T : Txt K mg L) : FnOk Pr w K mg base CX0 3 L.f_Quotient_add L.d_Quotient_add ["self", "other"] (spP K 2 (W_q2 L.C_Quotient fun x y => dQ L.C_Quotient (x + y))) := by
  refine okP T.F_Quotient_add sc_Quotient_add rfl (fun cdv A outer s H E hr => ⟨_, (pss_one (ps_ret (pe_make T.mk_Quotient (ok_Quotient_init T) (hr.mono (by decide)) (by rfl) T.mg_Quotient T.b_Quotient_init .nil passL (pa_cons (pe_op op_add (pe_op op_mulW (pe_fld (pv 0) rfl) (pe_fld (pv 1) rfl)) (pe_op op_mulW (pe_fld (pv 1) rfl) (pe_fld (pv 0) rfl))) (pa_cons (pe_op op_mulW (pe_fld (pv 0) rfl) (pe_fld (pv 1) rfl)) pa_nil))))), ?_⟩)
  rintro ds P hl ⟨x, y, m, n, rfl, hx, hy, hmn, p⟩
  refine s_ret (e_quo (e_op (e_op (e_topv T (q := x) rfl (e_botv T (q := y) rfl (r_rI (wide_q hx.1 (bits_den hy) (by omega)) ?_))))))
  refine e_op (e_topv T (q := y) rfl (e_botv T (q := x) rfl (r_rI (wide_q hy.1 (bits_den hx) (by omega)) (r_rI0 ?_))))
  refine e_op (e_botv T (q := x) rfl (e_botv T (q := y) rfl (r_rI (wide_q (bits_den hx) (bits_den hy) (by omega)) ⟨_, _, rfl, rfl, den_mul_ne x y, small_of (natAbs_mul_lt (bits_den hx) (bits_den hy)) (by omega), ?_⟩)))
  rw [q_add]
  exact p
theorem ok_Quotient_sub (T : Txt K mg L) : FnOk Pr w K mg base CX0 3 L.f_Quotient_sub L.d_Quotient_sub ["self", "other"] (spP K 2 (W_q2 L.C_Quotient fun x y => dQ L.C_Quotient (x - y))) := by
  refine okP T.F_Quotient_sub sc_Quotient_sub rfl (fun cdv A outer s H E hr => ⟨_, (pss_one (ps_ret (pe_make T.mk_Quotient (ok_Quotient_init T) (hr.mono (by decide)) (by rfl) T.mg_Quotient T.b_Quotient_init .nil passL (pa_cons (pe_op op_sub (pe_op op_mulW (pe_fld (pv 0) rfl) (pe_fld (pv 1) rfl)) (pe_op op_mulW (pe_fld (pv 1) rfl) (pe_fld (pv 0) rfl))) (pa_cons (pe_op op_mulW (pe_fld (pv 0) rfl) (pe_fld (pv 1) rfl)) pa_nil))))), ?_⟩)
  rintro ds P hl ⟨x, y, m, n, rfl, hx, hy, hmn, p⟩
  refine s_ret (e_quo (e_op (e_op (e_topv T (q := x) rfl (e_botv T (q := y) rfl (r_rI (wide_q hx.1 (bits_den hy) (by omega)) ?_))))))
  refine e_op (e_topv T (q := y) rfl (e_botv T (q := x) rfl (r_rI (wide_q hy.1 (bits_den hx) (by omega)) (r_rI0 ?_))))
  refine e_op (e_botv T (q := x) rfl (e_botv T (q := y) rfl (r_rI (wide_q (bits_den hx) (bits_den hy) (by omega)) ⟨_, _, rfl, rfl, den_mul_ne x y, small_of (natAbs_mul_lt (bits_den hx) (bits_den hy)) (by omega), ?_⟩)))
  rw [q_sub]
  exact p
theorem ok_Quotient_mul (T : Txt K mg L) : FnOk Pr w K mg base CX0 3 L.f_Quotient_mul L.d_Quotient_mul ["self", "other"] (spP K 2 (W_q2 L.C_Quotient fun x y => dQ L.C_Quotient (x * y))) := by
  refine okP T.F_Quotient_mul sc_Quotient_mul rfl (fun cdv A outer s H E hr => ⟨_, (pss_one (ps_ret (pe_make T.mk_Quotient (ok_Quotient_init T) (hr.mono (by decide)) (by rfl) T.mg_Quotient T.b_Quotient_init .nil passL (pa_cons (pe_op op_mulW (pe_fld (pv 0) rfl) (pe_fld (pv 1) rfl)) (pa_cons (pe_op op_mulW (pe_fld (pv 0) rfl) (pe_fld (pv 1) rfl)) pa_nil))))), ?_⟩)
  rintro ds P hl ⟨x, y, m, n, rfl, hx, hy, hmn, p⟩
  refine s_ret (e_quo (e_op (e_topv T (q := x) rfl (e_topv T (q := y) rfl (r_rI (wide_q hx.1 hy.1 (by omega)) ?_)))))
  refine e_op (e_botv T (q := x) rfl (e_botv T (q := y) rfl (r_rI (wide_q (bits_den hx) (bits_den hy) (by omega)) ⟨_, _, rfl, rfl, den_mul_ne x y, small_of (natAbs_mul_lt (bits_den hx) (bits_den hy)) (by omega), ?_⟩)))
  rw [q_mul]
  exact p
theorem ok_Quotient_neg (T : Txt K mg L) : FnOk Pr w K mg base CX0 3 L.f_Quotient_neg L.d_Quotient_neg ["self"] (spP K 1 (W_q1 L.C_Quotient fun x => dQ L.C_Quotient (-x))) := by
  refine okP T.F_Quotient_neg sc_Quotient_neg rfl (fun cdv A outer s H E hr => ⟨_, (pss_one (ps_ret (pe_make T.mk_Quotient (ok_Quotient_init T) (hr.mono (by decide)) (by rfl) T.mg_Quotient T.b_Quotient_init .nil passL (pa_cons (pe_un un_neg (pe_fld (pv 0) rfl)) (pa_cons (pe_fld (pv 0) rfl) pa_nil))))), ?_⟩)
  rintro ds P hl ⟨x, m, rfl, hx, hm, p⟩
  refine s_ret (e_quo (e_un (e_topv T (q := x) rfl (r_rU ?_))))
  refine e_botv T (q := x) rfl ⟨_, _, rfl, rfl, den_ne x, small_of (bits_den hx) (by omega), ?_⟩
  rw [q_neg]
  exact p
theorem ok_Quotient_eq (T : Txt K mg L) : FnOk Pr w K mg base CX0 1 L.f_Quotient_eq L.d_Quotient_eq ["self", "other"] (spP K 2 (W_q2 L.C_Quotient fun x y => .bl (decide (x = y)))) := by
  refine okP T.F_Quotient_eq sc_Quotient_eq rfl (fun cdv A outer s H E hr => ⟨_, (pss_one (ps_ret (pe_and (pe_callB call_isi (by rfl) T.n_isinstance (by decide +kernel) (pa_cons (pv 1) (pa_cons (pe_glob (v := .ref L.C_Quotient) (by rfl) T.mg_Quotient rfl) pa_nil))) (pe_and (pe_cmpR op_eq (pe_fld (pv 0) rfl) (pe_fld (pv 1) rfl) (nomark _)) (pe_one (pe_cmpR op_eq (pe_fld (pv 0) rfl) (pe_fld (pv 1) rfl) (nomark _))))))), ?_⟩)
  rintro ds P hl ⟨x, y, m, n, rfl, hx, hy, hmn, p⟩
  dsimp only at p
  rw [← q_eq] at p
  refine s_ret (e_and (e_cb (a_cons (e_var rfl (a_cons (e_c (a_nil (c_isi (.ins _ _ T.k_Quotient) (.own _) T.kit_Quotient_Quotient ⟨true, rfl, fun _ => ?_, fun z => nomatch z⟩))))))))
  refine e_and (e_op (e_topv T (q := x) rfl (e_topv T (q := y) rfl (r_eq rfl ⟨_, rfl, fun h1 => ?_, fun h1 => ?_⟩))))
  · refine e_op (e_botv T (q := x) rfl (e_botv T (q := y) rfl (r_eq rfl ?_)))
    rw [dec_ints] at h1 ⊢
    rw [h1] at p
    exact p
  · rw [dec_ints] at h1
    rw [h1] at p
    exact p
theorem ok_Quotient_lt (T : Txt K mg L) : FnOk Pr w K mg base CX0 1 L.f_Quotient_lt L.d_Quotient_lt ["self", "other"] (spP K 2 (W_q2 L.C_Quotient fun x y => .bl (decide (x < y)))) := by
  refine okP T.F_Quotient_lt sc_Quotient_lt rfl (fun cdv A outer s H E hr => ⟨_, (pss_one (ps_ret (pe_cmpR op_lt (pe_op op_mulW (pe_fld (pv 0) rfl) (pe_fld (pv 1) rfl)) (pe_op op_mulW (pe_fld (pv 1) rfl) (pe_fld (pv 0) rfl)) (nomark _)))), ?_⟩)
  rintro ds P hl ⟨x, y, m, n, rfl, hx, hy, hmn, p⟩
  dsimp only at p
  rw [← q_lt] at p
  refine s_ret (e_op (e_op (e_topv T (q := x) rfl (e_botv T (q := y) rfl (r_rI (wide_q hx.1 (bits_den hy) (by omega)) ?_)))))
  exact e_op (e_topv T (q := y) rfl (e_botv T (q := x) rfl (r_rI (wide_q hy.1 (bits_den hx) (by omega)) (r_rI0 p))))
theorem ok_Quotient_le (T : Txt K mg L) : FnOk Pr w K mg base CX0 1 L.f_Quotient_le L.d_Quotient_le ["self", "other"] (spP K 2 (W_q2 L.C_Quotient fun x y => .bl (decide (x ≤ y)))) := by
  refine okP T.F_Quotient_le sc_Quotient_le rfl (fun cdv A outer s H E hr => ⟨_, (pss_one (ps_ret (pe_cmpR op_le (pe_op op_mulW (pe_fld (pv 0) rfl) (pe_fld (pv 1) rfl)) (pe_op op_mulW (pe_fld (pv 1) rfl) (pe_fld (pv 0) rfl)) (nomark _)))), ?_⟩)
  rintro ds P hl ⟨x, y, m, n, rfl, hx, hy, hmn, p⟩
  dsimp only at p
  rw [← q_le] at p
  refine s_ret (e_op (e_op (e_topv T (q := x) rfl (e_botv T (q := y) rfl (r_rI (wide_q hx.1 (bits_den hy) (by omega)) ?_)))))
  exact e_op (e_topv T (q := y) rfl (e_botv T (q := x) rfl (r_rI (wide_q hy.1 (bits_den hx) (by omega)) (r_rI0 p))))
theorem ok_Quotient_over (T : Txt K mg L) : FnOk Pr w K mg base (L2.CX Pr w) 3 L.f_Quotient_over L.d_Quotient_over ["self", "other"] (spX K 2 (W_over L.C_Quotient L.C_BadQuotient)) := by
  refine okX T.F_Quotient_over sc_Quotient_over rfl (fun cdv A outer s H0 E hr => ⟨_, (pss_one (ps_ret (pe_make T.mk_Quotient (ok_Quotient_init T) (hr.mono (by decide)) (by rfl) T.mg_Quotient T.b_Quotient_init .nil (passes_call (takes_of rfl rfl rfl rfl) (fun _ _ _ _ h => h)) (pa_cons (pe_op op_mulW (pe_fld (pv 0) rfl) (pe_fld (pv 1) rfl)) (pa_cons (pe_op op_mulW (pe_fld (pv 0) rfl) (pe_fld (pv 1) rfl)) pa_nil))))), ?_⟩)
  rintro ds P PX hl ⟨x, y, m, n, rfl, hx, hy, hmn, h0, h1⟩ F1 B H σ Q e hs q qx
  refine makeX (P := P) (PX := PX) ?_ e hs q qx
  refine a_cons (e_op (e_topv T (q := x) rfl (e_botv T (q := y) rfl (r_rI (wide_q hx.1 (bits_den hy) (by omega)) ?_))))
  refine a_cons (e_op (e_botv T (q := x) rfl (e_topv T (q := y) rfl (r_rI (wide_q (bits_den hx) hy.1 (by omega)) (a_nil ⟨rfl, rfl, _, _, rfl, ?_, ?_⟩)))))
  · intro z
    refine h0 ?_
    rcases Int.mul_eq_zero.mp z with h | h
    · exact absurd h (den_ne x)
    · exact Rat.num_eq_zero.mp h
  · intro z
    refine ⟨small_of (natAbs_mul_lt (bits_den hx) hy.1) (by omega), ?_⟩
    rw [q_over]
    refine h1 fun hy0 => z ?_
    rw [hy0]
    simp
theorem ok_total (T : Txt K mg L) : FnOk Pr w K mg base CX0 5 L.f_total L.d_total ["quotients"] (spP K 1 (W_total L.C_Quotient)) := by
  refine okP T.F_total sc_total rfl (fun cdv A outer s H E hr => ⟨_, (pss_cons (ps_set (i := 1) sc_total.nd rfl (by first | exact Or.inl rfl | exact Or.inr rfl) (pe_call0 (ok_zero T) (hr.mono (by decide)) (by rfl) T.m_zero T.F_zero.kp T.b_zero .nil pass0))
    (pss_cons (ps_for PassesOwn.never rfl (pi_seq (pv 0)) (pg_name (i := 2) sc_total.nd rfl (by first | exact Or.inl rfl | exact Or.inr rfl)) (pss_one (ps_set (i := 1) sc_total.nd rfl (by first | exact Or.inl rfl | exact Or.inr rfl) (pe_op (op_own (ok_Quotient_add T) (hr.mono (by decide)) T.b_Quotient_add pass0 T.sf_Quotient T.fi_Quotient_add T.fn_Quotient_add) (pv 1) (pv 2)))))
    (pss_one (ps_ret (pv 1))))), ?_⟩)
  rintro ds P hl ⟨qs, m, hds, hb, hm, p⟩
  have hd : ∃ d, ds = [d] ∧ (d = .lst (qs.map (dQ L.C_Quotient)) ∨ d = .tup (qs.map (dQ L.C_Quotient))) := by
    rcases hds with rfl | rfl
    · exact ⟨_, rfl, .inl rfl⟩
    · exact ⟨_, rfl, .inr rfl⟩
  obtain ⟨d, rfl, hd⟩ := hd
  refine s_seq (s_asg (e_call (a_nil ⟨rfl, rfl, ?_⟩)))
  refine s_seq (s_for (i_seq (e_var rfl ⟨_, hd, ?_⟩)))
  refine ⟨fun i ρ O => (∃ x, ρ = [some d, some (dQ L.C_Quotient (sumQ (qs.take i))), x]) ∧ O = [], ⟨⟨_, rfl⟩, rfl⟩, ?_, ?_⟩
  · rintro i x ρ' O' hi ⟨⟨y, rfl⟩, rfl⟩
    rw [List.getElem?_map] at hi
    cases hq : qs[i]? with
    | none => rw [hq] at hi; cases hi
    | some q =>
      rw [hq] at hi
      cases hi
      have hlt := (List.getElem?_eq_some_iff.mp hq).1
      refine g_name (s_asg (e_op (e_var rfl (e_var rfl (r_own ⟨_, _, _, _, rfl, bits_sumQ qs i hb (by omega), hb q (List.mem_of_getElem? hq), ?_, ?_⟩)))))
      · have : (m + 1) * i ≤ (m + 1) * qs.length := Nat.mul_le_mul_left _ (by omega)
        rw [Nat.mul_succ] at hm
        omega
      · refine ⟨⟨some (dQ L.C_Quotient q), ?_⟩, rfl⟩
        rw [sumQ_take hq]
        rfl
  · rintro ρ' O' ⟨⟨y, rfl⟩, rfl⟩
    rw [List.length_map, List.take_length]
    exact s_ret (e_var rfl p)
theorem ok_law_cell (T : Txt K mg L) : FnOk Pr w K mg base CX0 1 L.f_law_cell L.d_law_cell ["script", "k"] (spP K 2 W_cell) := by
  refine okP T.F_law_cell sc_law_cell rfl (fun cdv A outer s H E hr => ⟨_, (pss_cons (ps_if (pt_cmpR op_lt (pv 1) (pe_callB (show CallR _ _ (Evl.rLenS _) from call_len_seq) (by rfl) T.n_len (by decide +kernel) (pa_cons (pv 0) pa_nil)) (nomark _)) (pss_one (ps_ret (pe_callTy (show CallR _ _ rInt1 from call_int1) (by rfl) T.n_int (by decide +kernel) (pa_cons (pe_ix ix_list (pv 0) (pv 1) (fun _ _ => rfl)) pa_nil)))) pss_nil)
    (pss_one (ps_ret pe_int))), ?_⟩)
  rintro ds P hl ⟨ns, k, rfl, h0, p⟩
  refine s_seq (s_if (t_test (e_op (e_var rfl (e_cb (a_cons (e_var rfl (a_nil (c_len (.inr (.inr rfl)) (r_rI0 ⟨_, rfl, fun h => ?_, fun h => ?_⟩))))))))))
  · have h' : k < ns.length := by have := of_decide_eq_true h; rwa [scr_len] at this
    exact s_ret (e_cb (a_cons (e_op (e_var rfl (e_var rfl (r_ixZ (cell_lt h0 h') (a_nil (c_int p))))))))
  · have h' : ¬ k < ns.length := by have := of_decide_eq_false h; rwa [scr_len] at this
    refine s_next (s_ret (e_c ?_))
    rw [cell_ge h' h0] at p
    exact p
theorem ok_law_number (T : Txt K mg L) : FnOk Pr w K mg base CX0 2 L.f_law_number L.d_law_number ["script", "k"] (spP K 2 W_number) := by
  refine okP T.F_law_number sc_law_number rfl (fun cdv A outer s H E hr => ⟨_, (pss_one (ps_ret (pe_op op_sub (pe_op op_mod (pe_call (ok_law_cell T) (hr.mono (by decide)) (by rfl) T.m_law_cell T.F_law_cell.kp T.b_law_cell .nil pass0 (pa_cons (pv 0) (pa_cons (pv 1) pa_nil))) (pe_op op_add (pe_op op_mulW pe_int (pe_op op_pow pe_int pe_int)) pe_int)) (pe_op op_pow pe_int pe_int)))), ?_⟩)
  rintro ds P hl ⟨ns, k, rfl, h0, p⟩
  refine s_ret (e_op (e_op (e_call (a_cons (e_var rfl (a_cons (e_var rfl (a_nil ⟨rfl, ns, k, rfl, h0, ?_⟩))))))))
  refine e_op (e_op (e_c (e_op (e_c (e_c (r_rI cpow24 ?_))))))
  refine r_rI cmul24 (e_c (r_rI0 (r_rI (by decide +kernel) ?_)))
  exact e_op (e_c (e_c (r_rI cpow24 (r_rI0 p))))
theorem ok_law_same (T : Txt K mg L) : FnOk Pr w K mg base CX0 1 L.f_law_same L.d_law_same ["actual", "expected"] (spP K 2 W_sameB) := by
  refine okP T.F_law_same sc_law_same rfl (fun cdv A outer s H E hr => ⟨_, (pss_cons (ps_if (pt_cmp (pc_isN (pv 1)) rfl) (pss_one (ps_ret (pe_cmp (pc_isN (pv 0)) rfl))) pss_nil)
    (pss_cons (ps_if (pt_val (pe_callB call_isi (by rfl) T.n_isinstance (by decide +kernel) (pa_cons (pv 1) (pa_cons (pe_bltn (v := .ty "bool") (by rfl) T.n_bool (by decide +kernel) rfl) pa_nil)))) (pss_one (ps_ret (pe_and (pe_callB call_isi (by rfl) T.n_isinstance (by decide +kernel) (pa_cons (pv 0) (pa_cons (pe_bltn (v := .ty "bool") (by rfl) T.n_bool (by decide +kernel) rfl) pa_nil))) (pe_one (pe_cmpR op_eq (pv 0) (pv 1) (nomark _)))))) pss_nil)
    pss_never)), ?_⟩)
  rintro ds P hl ⟨x, y, rfl, p⟩
  refine s_seq (s_if (t_B (e_isN (e_var rfl ⟨fun z => ?_, fun _ => ⟨false, rfl, fun z => ?_, fun _ => s_next ?_⟩⟩))))
  · cases z
  · cases z
  refine s_seq (s_if (t_B (e_cb (a_cons (e_var rfl (a_cons (e_c (a_nil (c_isi (.bl _) (.ty _) T.kit_bool_bool ⟨true, rfl, fun _ => ?_, fun z => ?_⟩)))))))))
  rotate_left
  · cases z
  refine s_ret (e_and (e_cb (a_cons (e_var rfl (a_cons (e_c (a_nil (c_isi (.bl _) (.ty _) T.kit_bool_bool ⟨true, rfl, fun _ => ?_, fun z => ?_⟩))))))))
  rotate_left
  · cases z
  refine e_op (e_var rfl (e_var rfl (r_eq rfl ?_)))
  have e : decide (V.bl x = V.bl y) = decide (x = y) := by
    rw [Bool.eq_iff_iff]
    simp
  rw [e]
  exact p
/-- what the law draws -/
def botK (ns : List Int) (j : Nat) : Int := if number ns (2 * (0 + (j : Int)) + 1) = 0 then 5 else number ns (2 * (0 + (j : Int)) + 1)
def qK (ns : List Int) (j : Nat) : Rat := Rat.divInt (number ns (2 * (0 + (j : Int)))) (botK ns j)
theorem botK_ne (ns : List Int) (j : Nat) : botK ns j ≠ 0 := by
  unfold botK
  split
  · decide
  · assumption
theorem botK_lt (ns : List Int) (j : Nat) : (botK ns j).natAbs < 2 ^ 80 := by
  unfold botK
  split
  · decide
  · exact number_lt ns _
theorem qK_bits (ns : List Int) (j : Nat) : bits (qK ns j) 80 := bits_divInt (botK_ne ns j) (number_lt ns _) (botK_lt ns j)
local macro_rules | `(tactic| walk_at "bz") => `(tactic| first
  | assumption
  | exact bits_zero
  | exact bits_one
  | exact bits_add (by walk_at "bz") (by walk_at "bz")
  | exact bits_sub (by walk_at "bz") (by walk_at "bz")
  | exact bits_mul (by walk_at "bz") (by walk_at "bz")
  | exact bits_neg (by walk_at "bz"))
local macro_rules | `(tactic| walk_at "qq") => `(tactic| first
  | refine e_var rfl ?_
  | refine e_c ?_
  | refine r_own ⟨_, _, _, _, rfl, by walk_at "bz", by walk_at "bz", by decide, ?_⟩
  | refine r_own1 ⟨_, _, rfl, by walk_at "bz", by decide, ?_⟩
  | refine e_op ?_
  | refine e_un ?_
  | refine t_test ?_
  | refine t_not ?_
  | refine t_or ?_
  | refine t_and ?_
  | refine e_call (a_nil ⟨rfl, rfl, ?_⟩))
theorem ok_law (T : Txt K mg L) : FnOk Pr w K mg base CX0 6 L.f_law L.d_law ["script"] (spLaw K) := by
  refine okLaw T.F_law sc_law rfl (fun cdv A outer s H E hr => ⟨_, (pss_cons (ps_set (i := 1) sc_law.nd rfl (by first | exact Or.inl rfl | exact Or.inr rfl) (pe_lst pa_nil))
    (pss_cons (ps_for PassesOwn.never rfl (pi_range1 (by rfl) T.n_range (pa_cons pe_int pa_nil)) (pg_name (i := 2) sc_law.nd rfl (by first | exact Or.inl rfl | exact Or.inr rfl)) (pss_cons (ps_set (i := 3) sc_law.nd rfl (by first | exact Or.inl rfl | exact Or.inr rfl) (pe_call (ok_law_number T) (hr.mono (by decide)) (by rfl) T.m_law_number T.F_law_number.kp T.b_law_number .nil pass0 (pa_cons (pv 0) (pa_cons (pe_op op_add (pe_op op_mulW pe_int (pv 2)) pe_int) pa_nil))))
    (pss_cons (ps_if (pt_cmpR op_eq (pv 3) pe_int (nomark _)) (pss_one (ps_set (i := 3) sc_law.nd rfl (by first | exact Or.inl rfl | exact Or.inr rfl) pe_int)) pss_nil)
    (pss_one (ps_expr (pe_bm PySem.F.plainAttrs_list PySem.F.slot_list_append PySem.F.type_list_append mt_append (pv 1) (pa_cons (pe_make T.mk_Quotient (ok_Quotient_init T) (hr.mono (by decide)) (by rfl) T.mg_Quotient T.b_Quotient_init .nil passL (pa_cons (pe_call (ok_law_number T) (hr.mono (by decide)) (by rfl) T.m_law_number T.F_law_number.kp T.b_law_number .nil pass0 (pa_cons (pv 0) (pa_cons (pe_op op_mulW pe_int (pv 2)) pa_nil))) (pa_cons (pv 3) pa_nil))) pa_nil)))))))
    (pss_cons (ps_asg (pv 1) (pg_lst (by rfl) (pgs_cons (pg_name (i := 4) sc_law.nd rfl (by first | exact Or.inl rfl | exact Or.inr rfl)) (pgs_cons (pg_name (i := 5) sc_law.nd rfl (by first | exact Or.inl rfl | exact Or.inr rfl)) (pgs_cons (pg_name (i := 6) sc_law.nd rfl (by first | exact Or.inl rfl | exact Or.inr rfl)) pgs_nil)))))
    (pss_cons (ps_if (PW.pt (pw_or (pt_not (pt_cmpR (op_cmpOwn (op := .Eq) (ok_Quotient_eq T) (hr.mono (by decide)) T.b_Quotient_eq pass0 T.fi_Quotient_eq T.fn_Quotient_eq (fun _ _ => rfl)) (pe_op (op_own (ok_Quotient_add T) (hr.mono (by decide)) T.b_Quotient_add pass0 T.sf_Quotient T.fi_Quotient_add T.fn_Quotient_add) (pv 4) (pv 5)) (pe_op (op_own (ok_Quotient_add T) (hr.mono (by decide)) T.b_Quotient_add pass0 T.sf_Quotient T.fi_Quotient_add T.fn_Quotient_add) (pv 5) (pv 4)) (nomark _))) (pw_or (pt_not (pt_cmpR (op_cmpOwn (op := .Eq) (ok_Quotient_eq T) (hr.mono (by decide)) T.b_Quotient_eq pass0 T.fi_Quotient_eq T.fn_Quotient_eq (fun _ _ => rfl)) (pe_op (op_own (ok_Quotient_add T) (hr.mono (by decide)) T.b_Quotient_add pass0 T.sf_Quotient T.fi_Quotient_add T.fn_Quotient_add) (pe_op (op_own (ok_Quotient_add T) (hr.mono (by decide)) T.b_Quotient_add pass0 T.sf_Quotient T.fi_Quotient_add T.fn_Quotient_add) (pv 4) (pv 5)) (pv 6)) (pe_op (op_own (ok_Quotient_add T) (hr.mono (by decide)) T.b_Quotient_add pass0 T.sf_Quotient T.fi_Quotient_add T.fn_Quotient_add) (pv 4) (pe_op (op_own (ok_Quotient_add T) (hr.mono (by decide)) T.b_Quotient_add pass0 T.sf_Quotient T.fi_Quotient_add T.fn_Quotient_add) (pv 5) (pv 6))) (nomark _))) (pw_or (pt_not (pt_cmpR (op_cmpOwn (op := .Eq) (ok_Quotient_eq T) (hr.mono (by decide)) T.b_Quotient_eq pass0 T.fi_Quotient_eq T.fn_Quotient_eq (fun _ _ => rfl)) (pe_op (op_own (ok_Quotient_mul T) (hr.mono (by decide)) T.b_Quotient_mul pass0 T.sf_Quotient T.fi_Quotient_mul T.fn_Quotient_mul) (pv 4) (pv 5)) (pe_op (op_own (ok_Quotient_mul T) (hr.mono (by decide)) T.b_Quotient_mul pass0 T.sf_Quotient T.fi_Quotient_mul T.fn_Quotient_mul) (pv 5) (pv 4)) (nomark _))) (pw_or1 (pt_not (pt_cmpR (op_cmpOwn (op := .Eq) (ok_Quotient_eq T) (hr.mono (by decide)) T.b_Quotient_eq pass0 T.fi_Quotient_eq T.fn_Quotient_eq (fun _ _ => rfl)) (pe_op (op_own (ok_Quotient_mul T) (hr.mono (by decide)) T.b_Quotient_mul pass0 T.sf_Quotient T.fi_Quotient_mul T.fn_Quotient_mul) (pe_op (op_own (ok_Quotient_mul T) (hr.mono (by decide)) T.b_Quotient_mul pass0 T.sf_Quotient T.fi_Quotient_mul T.fn_Quotient_mul) (pv 4) (pv 5)) (pv 6)) (pe_op (op_own (ok_Quotient_mul T) (hr.mono (by decide)) T.b_Quotient_mul pass0 T.sf_Quotient T.fi_Quotient_mul T.fn_Quotient_mul) (pv 4) (pe_op (op_own (ok_Quotient_mul T) (hr.mono (by decide)) T.b_Quotient_mul pass0 T.sf_Quotient T.fi_Quotient_mul T.fn_Quotient_mul) (pv 5) (pv 6))) (nomark _)))))))) (pss_one (ps_ret pe_bl)) pss_nil)
    (pss_cons (ps_if (PW.pt (pw_or (pt_not (pt_cmpR (op_cmpOwn (op := .Eq) (ok_Quotient_eq T) (hr.mono (by decide)) T.b_Quotient_eq pass0 T.fi_Quotient_eq T.fn_Quotient_eq (fun _ _ => rfl)) (pe_op (op_own (ok_Quotient_mul T) (hr.mono (by decide)) T.b_Quotient_mul pass0 T.sf_Quotient T.fi_Quotient_mul T.fn_Quotient_mul) (pv 4) (pe_op (op_own (ok_Quotient_add T) (hr.mono (by decide)) T.b_Quotient_add pass0 T.sf_Quotient T.fi_Quotient_add T.fn_Quotient_add) (pv 5) (pv 6))) (pe_op (op_own (ok_Quotient_add T) (hr.mono (by decide)) T.b_Quotient_add pass0 T.sf_Quotient T.fi_Quotient_add T.fn_Quotient_add) (pe_op (op_own (ok_Quotient_mul T) (hr.mono (by decide)) T.b_Quotient_mul pass0 T.sf_Quotient T.fi_Quotient_mul T.fn_Quotient_mul) (pv 4) (pv 5)) (pe_op (op_own (ok_Quotient_mul T) (hr.mono (by decide)) T.b_Quotient_mul pass0 T.sf_Quotient T.fi_Quotient_mul T.fn_Quotient_mul) (pv 4) (pv 6))) (nomark _))) (pw_or (pt_not (pt_cmpR (op_cmpOwn (op := .Eq) (ok_Quotient_eq T) (hr.mono (by decide)) T.b_Quotient_eq pass0 T.fi_Quotient_eq T.fn_Quotient_eq (fun _ _ => rfl)) (pe_op (op_own (ok_Quotient_sub T) (hr.mono (by decide)) T.b_Quotient_sub pass0 T.sf_Quotient T.fi_Quotient_sub T.fn_Quotient_sub) (pe_op (op_own (ok_Quotient_add T) (hr.mono (by decide)) T.b_Quotient_add pass0 T.sf_Quotient T.fi_Quotient_add T.fn_Quotient_add) (pv 4) (pv 5)) (pv 5)) (pv 4) (nomark _))) (pw_or (pt_not (pt_cmpR (op_cmpOwn (op := .Eq) (ok_Quotient_eq T) (hr.mono (by decide)) T.b_Quotient_eq pass0 T.fi_Quotient_eq T.fn_Quotient_eq (fun _ _ => rfl)) (pe_op (op_own (ok_Quotient_sub T) (hr.mono (by decide)) T.b_Quotient_sub pass0 T.sf_Quotient T.fi_Quotient_sub T.fn_Quotient_sub) (pv 4) (pv 5)) (pe_op (op_own (ok_Quotient_add T) (hr.mono (by decide)) T.b_Quotient_add pass0 T.sf_Quotient T.fi_Quotient_add T.fn_Quotient_add) (pv 4) (pe_un (un_own (ok_Quotient_neg T) (hr.mono (by decide)) T.b_Quotient_neg pass0 T.fi_Quotient_neg T.fn_Quotient_neg) (pv 5))) (nomark _))) (pw_or1 (pt_not (pt_cmpR (op_cmpOwn (op := .Eq) (ok_Quotient_eq T) (hr.mono (by decide)) T.b_Quotient_eq pass0 T.fi_Quotient_eq T.fn_Quotient_eq (fun _ _ => rfl)) (pe_un (un_own (ok_Quotient_neg T) (hr.mono (by decide)) T.b_Quotient_neg pass0 T.fi_Quotient_neg T.fn_Quotient_neg) (pe_un (un_own (ok_Quotient_neg T) (hr.mono (by decide)) T.b_Quotient_neg pass0 T.fi_Quotient_neg T.fn_Quotient_neg) (pv 4))) (pv 4) (nomark _)))))))) (pss_one (ps_ret pe_bl)) pss_nil)
    (pss_cons (ps_if (PW.pt (pw_or (pt_not (pt_cmpR (op_cmpOwn (op := .Eq) (ok_Quotient_eq T) (hr.mono (by decide)) T.b_Quotient_eq pass0 T.fi_Quotient_eq T.fn_Quotient_eq (fun _ _ => rfl)) (pe_op (op_own (ok_Quotient_add T) (hr.mono (by decide)) T.b_Quotient_add pass0 T.sf_Quotient T.fi_Quotient_add T.fn_Quotient_add) (pv 4) (pe_call0 (ok_zero T) (hr.mono (by decide)) (by rfl) T.m_zero T.F_zero.kp T.b_zero .nil pass0)) (pv 4) (nomark _))) (pw_or (pt_not (pt_cmpR (op_cmpOwn (op := .Eq) (ok_Quotient_eq T) (hr.mono (by decide)) T.b_Quotient_eq pass0 T.fi_Quotient_eq T.fn_Quotient_eq (fun _ _ => rfl)) (pe_op (op_own (ok_Quotient_mul T) (hr.mono (by decide)) T.b_Quotient_mul pass0 T.sf_Quotient T.fi_Quotient_mul T.fn_Quotient_mul) (pv 4) (pe_call0 (ok_one T) (hr.mono (by decide)) (by rfl) T.m_one T.F_one.kp T.b_one .nil pass0)) (pv 4) (nomark _))) (pw_or (pt_not (pt_cmpR (op_cmpOwn (op := .Eq) (ok_Quotient_eq T) (hr.mono (by decide)) T.b_Quotient_eq pass0 T.fi_Quotient_eq T.fn_Quotient_eq (fun _ _ => rfl)) (pe_call (ok_total T) (hr.mono (by decide)) (by rfl) T.m_total T.F_total.kp T.b_total .nil pass0 (pa_cons (pe_lst (pa_cons (pv 4) (pa_cons (pv 5) (pa_cons (pv 6) pa_nil)))) pa_nil)) (pe_op (op_own (ok_Quotient_add T) (hr.mono (by decide)) T.b_Quotient_add pass0 T.sf_Quotient T.fi_Quotient_add T.fn_Quotient_add) (pe_op (op_own (ok_Quotient_add T) (hr.mono (by decide)) T.b_Quotient_add pass0 T.sf_Quotient T.fi_Quotient_add T.fn_Quotient_add) (pv 4) (pv 5)) (pv 6)) (nomark _))) (pw_or (pt_not (pt_cmpR (op_cmpOwn (op := .Eq) (ok_Quotient_eq T) (hr.mono (by decide)) T.b_Quotient_eq pass0 T.fi_Quotient_eq T.fn_Quotient_eq (fun _ _ => rfl)) (pe_call (ok_total T) (hr.mono (by decide)) (by rfl) T.m_total T.F_total.kp T.b_total .nil pass0 (pa_cons (pe_tup (pa_cons (pv 4) (pa_cons (pv 5) (pa_cons (pv 6) pa_nil)))) pa_nil)) (pe_op (op_own (ok_Quotient_add T) (hr.mono (by decide)) T.b_Quotient_add pass0 T.sf_Quotient T.fi_Quotient_add T.fn_Quotient_add) (pe_op (op_own (ok_Quotient_add T) (hr.mono (by decide)) T.b_Quotient_add pass0 T.sf_Quotient T.fi_Quotient_add T.fn_Quotient_add) (pv 4) (pv 5)) (pv 6)) (nomark _))) (pw_or1 (pt_not (pt_cmpR (op_cmpOwn (op := .Eq) (ok_Quotient_eq T) (hr.mono (by decide)) T.b_Quotient_eq pass0 T.fi_Quotient_eq T.fn_Quotient_eq (fun _ _ => rfl)) (pe_call (ok_total T) (hr.mono (by decide)) (by rfl) T.m_total T.F_total.kp T.b_total .nil pass0 (pa_cons (pe_lst pa_nil) pa_nil)) (pe_call0 (ok_zero T) (hr.mono (by decide)) (by rfl) T.m_zero T.F_zero.kp T.b_zero .nil pass0) (nomark _))))))))) (pss_one (ps_ret pe_bl)) pss_nil)
    (pss_cons (ps_if (PW.pt (pw_and (pt_not (pt_cmpR (op_cmpOwn (op := .Eq) (ok_Quotient_eq T) (hr.mono (by decide)) T.b_Quotient_eq pass0 T.fi_Quotient_eq T.fn_Quotient_eq (fun _ _ => rfl)) (pv 5) (pe_call0 (ok_zero T) (hr.mono (by decide)) (by rfl) T.m_zero T.F_zero.kp T.b_zero .nil pass0) (nomark _))) (pw_and1 (pt_not (pt_cmpR (op_cmpOwn (op := .Eq) (ok_Quotient_eq T) (hr.mono (by decide)) T.b_Quotient_eq pass0 T.fi_Quotient_eq T.fn_Quotient_eq (fun _ _ => rfl)) (pe_meth (pe_op (op_own (ok_Quotient_mul T) (hr.mono (by decide)) T.b_Quotient_mul pass0 T.sf_Quotient T.fi_Quotient_mul T.fn_Quotient_mul) (pv 4) (pv 5)) T.k_Quotient.cl T.me_Quotient_over (ok_Quotient_over T) (hr.mono (by decide)) T.b_Quotient_over .nil passL (pa_cons (pv 5) pa_nil)) (pv 4) (nomark _)))))) (pss_one (ps_ret pe_bl)) pss_nil)
    (pss_cons (ps_set (i := 7) sc_law.nd rfl (by first | exact Or.inl rfl | exact Or.inr rfl) (pe_cmpR (op_cmpOwn (op := .Lt) (ok_Quotient_lt T) (hr.mono (by decide)) T.b_Quotient_lt pass0 T.fi_Quotient_lt T.fn_Quotient_lt (fun _ _ => rfl)) (pv 4) (pv 5) (nomark _)))
    (pss_cons (ps_if (PW.pt (pw_or (pt_not (pt_val (pe_call (ok_law_same T) (hr.mono (by decide)) (by rfl) T.m_law_same T.F_law_same.kp T.b_law_same .nil pass0 (pa_cons (pe_cmpR (op_cmpOwn (op := .Lt) (ok_Quotient_lt T) (hr.mono (by decide)) T.b_Quotient_lt pass0 T.fi_Quotient_lt T.fn_Quotient_lt (fun _ _ => rfl)) (pe_op (op_own (ok_Quotient_add T) (hr.mono (by decide)) T.b_Quotient_add pass0 T.sf_Quotient T.fi_Quotient_add T.fn_Quotient_add) (pv 4) (pv 6)) (pe_op (op_own (ok_Quotient_add T) (hr.mono (by decide)) T.b_Quotient_add pass0 T.sf_Quotient T.fi_Quotient_add T.fn_Quotient_add) (pv 5) (pv 6)) (nomark _)) (pa_cons (pv 7) pa_nil))))) (pw_or1 (pt_not (pt_val (pe_call (ok_law_same T) (hr.mono (by decide)) (by rfl) T.m_law_same T.F_law_same.kp T.b_law_same .nil pass0 (pa_cons (pe_cmpR (op_cmpOwn (op := .LtE) (ok_Quotient_le T) (hr.mono (by decide)) T.b_Quotient_le pass0 T.fi_Quotient_le T.fn_Quotient_le (fun _ _ => rfl)) (pv 5) (pv 4) (nomark _)) (pa_cons (pe_not (pv 7)) pa_nil)))))))) (pss_one (ps_ret pe_bl)) pss_nil)
    (pss_cons (ps_if (PW.pt (pw_and (pt_cmpR (op_cmpOwn (op := .Lt) (ok_Quotient_lt T) (hr.mono (by decide)) T.b_Quotient_lt pass0 T.fi_Quotient_lt T.fn_Quotient_lt (fun _ _ => rfl)) (pe_call0 (ok_zero T) (hr.mono (by decide)) (by rfl) T.m_zero T.F_zero.kp T.b_zero .nil pass0) (pv 6) (nomark _)) (pw_and1 (pt_not (pt_val (pe_call (ok_law_same T) (hr.mono (by decide)) (by rfl) T.m_law_same T.F_law_same.kp T.b_law_same .nil pass0 (pa_cons (pe_cmpR (op_cmpOwn (op := .Lt) (ok_Quotient_lt T) (hr.mono (by decide)) T.b_Quotient_lt pass0 T.fi_Quotient_lt T.fn_Quotient_lt (fun _ _ => rfl)) (pe_op (op_own (ok_Quotient_mul T) (hr.mono (by decide)) T.b_Quotient_mul pass0 T.sf_Quotient T.fi_Quotient_mul T.fn_Quotient_mul) (pv 4) (pv 6)) (pe_op (op_own (ok_Quotient_mul T) (hr.mono (by decide)) T.b_Quotient_mul pass0 T.sf_Quotient T.fi_Quotient_mul T.fn_Quotient_mul) (pv 5) (pv 6)) (nomark _)) (pa_cons (pv 7) pa_nil)))))))) (pss_one (ps_ret pe_bl)) pss_nil)
    (pss_one (ps_ret (pe_call (ok_law_same T) (hr.mono (by decide)) (by rfl) T.m_law_same T.F_law_same.kp T.b_law_same .nil pass0 (pa_cons (pv 7) (pa_cons (pe_cmpR (op_cmpOwn (op := .Lt) (ok_Quotient_lt T) (hr.mono (by decide)) T.b_Quotient_lt pass0 T.fi_Quotient_lt T.fn_Quotient_lt (fun _ _ => rfl)) (pe_call0 (ok_zero T) (hr.mono (by decide)) (by rfl) T.m_zero T.F_zero.kp T.b_zero .nil pass0) (pe_op (op_own (ok_Quotient_sub T) (hr.mono (by decide)) T.b_Quotient_sub pass0 T.sf_Quotient T.fi_Quotient_sub T.fn_Quotient_sub) (pv 5) (pv 4)) (nomark _)) pa_nil))))))))))))))), ?_⟩)
  intro ns hns
  refine s_seq (s_asg (e_lstO (a_nil ⟨by decide, fun p => ?_⟩)))
  refine s_seq (s_for (i_rng1 (a_cons (e_c (a_nil ⟨3, rfl, by decide, by decide, ?_⟩)))))
  refine ⟨fun i ρ O => (∃ k b, ρ = [some (scr ns), some (.loc p), k, b, none, none, none, none]) ∧ O = [(p, .lst ((List.range i).map fun j => dQ L.C_Quotient (qK ns j)))], ⟨⟨_, _, rfl⟩, rfl⟩, ?_, ?_⟩
  · rintro i d ρ' O' hi ⟨⟨k, b, rfl⟩, rfl⟩
    obtain ⟨hi3, rfl⟩ := rangeD_get hi
    have hi3' : i < 3 := hi3
    refine g_name ?_
    refine s_seq (s_asg (e_call (a_cons (e_var rfl (a_cons (e_op (e_op (e_c (e_var rfl (r_rI ?_ (e_c (r_rI0 (a_nil ⟨rfl, ns, _, rfl, ?_, ?_⟩)))))))))))))
    · exact small_wide (by decide) (by omega)
    · omega
    refine s_seq (wS.mono (PS := fun o O' => o = .nx [some (scr ns), some (.loc p), some (.int (0 + (i : Int))), some (.int (botK ns i)), none, none, none, none] ∧ O' = [(p, .lst ((List.range i).map fun j => dQ L.C_Quotient (qK ns j)))]) ?_ ?_)
    · refine s_if (t_test (e_op (e_var rfl (e_c (r_eq rfl ⟨_, rfl, fun h => ?_, fun h => ?_⟩)))))
      · rw [dec_ints] at h
        refine s_asg (e_c ⟨?_, rfl⟩)
        unfold botK
        rw [if_pos (of_decide_eq_true h)]
        rfl
      · rw [dec_ints] at h
        refine s_next ⟨?_, rfl⟩
        unfold botK
        rw [if_neg (of_decide_eq_false h)]
        rfl
    · rintro o O' ⟨rfl, rfl⟩
      refine s_drop (e_append (e_var rfl ⟨p, _, rfl, List.mem_cons_self, ?_⟩))
      refine e_quo (e_call (a_cons (e_var rfl (a_cons (e_op (e_c (e_var rfl (r_rI ?_ (a_nil ⟨rfl, ns, _, rfl, ?_, ?_⟩)))))))))
      · exact small_wide (by decide) (by omega)
      · omega
      refine e_var rfl ⟨_, _, rfl, rfl, botK_ne ns i, small_of (botK_lt ns i) (by omega), ?_⟩
      refine ⟨_, _, ?_, .here, ⟨_, _, rfl⟩, ?_⟩
      · rw [List.length_map, List.length_range]
        omega
      · rw [List.range_succ, List.map_append]
        rfl
  · rintro ρ' O' ⟨⟨k, b, rfl⟩, rfl⟩
    refine s_seq (s_sub (ρ' := [some (scr ns), some (.loc p), none, none, none, none, none, none]) (.same (.same (.drop (.drop (.same (.same (.same (.same .nil)))))))) (s_frz (ρ' := [some (scr ns), some (.lst [dQ L.C_Quotient (qK ns 0), dQ L.C_Quotient (qK ns 1), dQ L.C_Quotient (qK ns 2)]), none, none, none, none, none, none]) .here ?_ ?_))
    · simp [frz, scr]
      rfl
    refine s_asgG (e_var rfl (g_lst rfl (gs_cons' (g_name (gs_cons' (g_name (gs_cons' (g_name (gs_nil' ?_)))))))))
    have ha := qK_bits ns 0
    have hb := qK_bits ns 1
    have hc := qK_bits ns 2
    generalize qK ns 0 = qa at *
    generalize qK ns 1 = qb at *
    generalize qK ns 2 = qc at *
    refine s_seq (s_if ?_)
    repeat walk_at "qq"
    refine ⟨_, rfl, or_step (by grind) ?_⟩
    repeat walk_at "qq"
    refine ⟨_, rfl, or_step (by grind) ?_⟩
    repeat walk_at "qq"
    refine ⟨_, rfl, or_step (by grind) ?_⟩
    repeat walk_at "qq"
    refine ⟨_, rfl, or_last (by grind) (s_next ?_)⟩
    refine s_seq (s_if ?_)
    repeat walk_at "qq"
    refine ⟨_, rfl, or_step (by grind) ?_⟩
    repeat walk_at "qq"
    refine ⟨_, rfl, or_step (by grind) ?_⟩
    repeat walk_at "qq"
    refine ⟨_, rfl, or_step (by grind) ?_⟩
    repeat walk_at "qq"
    refine ⟨_, rfl, or_last (by grind) (s_next ?_)⟩
    refine s_seq (s_if ?_)
    repeat walk_at "qq"
    refine ⟨_, rfl, or_step (by grind) ?_⟩
    repeat walk_at "qq"
    refine ⟨_, rfl, or_step (by grind) ?_⟩
    have three : ∀ q ∈ [qa, qb, qc], bits q 80 := by
      intro q hq
      simp at hq
      rcases hq with rfl | rfl | rfl <;> assumption
    have s3 : sumQ [qa, qb, qc] = qa + qb + qc := by
      show 0 + qa + qb + qc = qa + qb + qc
      grind
    refine t_or (t_not (t_test (e_op (e_call (a_cons (e_lst (a_cons (e_var rfl (a_cons (e_var rfl (a_cons (e_var rfl (a_nil ⟨(by show 3 ≤ 100000; decide), a_nil ⟨rfl, [qa, qb, qc], 80, .inl rfl, three, (by show 81 * 4 ≤ 8000; decide), ?_⟩⟩)))))))))))))
    rw [s3]
    repeat walk_at "qq"
    refine ⟨_, rfl, or_step rfl ?_⟩
    refine t_or (t_not (t_test (e_op (e_call (a_cons (e_tup (a_cons (e_var rfl (a_cons (e_var rfl (a_cons (e_var rfl (a_nil ⟨(by show 3 ≤ 100000; decide), a_nil ⟨rfl, [qa, qb, qc], 80, .inr rfl, three, (by show 81 * 4 ≤ 8000; decide), ?_⟩⟩)))))))))))))
    rw [s3]
    repeat walk_at "qq"
    refine ⟨_, rfl, or_step rfl ?_⟩
    refine t_not (t_test (e_op (e_call (a_cons (e_lst (a_nil ⟨by decide, a_nil ⟨rfl, [], 80, .inl rfl, by simp, by decide, ?_⟩⟩))))))
    repeat walk_at "qq"
    refine ⟨_, rfl, or_last rfl (s_next ?_)⟩
    -- (a * b).over(b)
    refine s_seq (wS.mono (PS := fun o O' => o = .nx [some (scr ns), some (.lst [dQ L.C_Quotient qa, dQ L.C_Quotient qb, dQ L.C_Quotient qc]), none, none, some (dQ L.C_Quotient qa), some (dQ L.C_Quotient qb), some (dQ L.C_Quotient qc), none] ∧ O' = []) (s_if ?_) ?_)
    · repeat walk_at "qq"
      refine ⟨_, rfl, fun hne => ?_, fun _ => ⟨fun z => ?_, fun _ => s_next ⟨rfl, rfl⟩⟩⟩
      · have hb0 : qb ≠ 0 := by
          intro z
          rw [z] at hne
          simp at hne
        refine t_not (t_test (e_op (e_methX (e_op (e_var rfl (e_var rfl (r_own ⟨_, _, _, _, rfl, ha, hb, by decide, ⟨_, rfl, rfl, a_cons (e_var rfl (a_nil ⟨rfl, _, _, _, _, rfl, bits_mul ha hb, hb, by decide, fun z => absurd z hb0, fun _ => ?_⟩))⟩⟩)))))))
        have hd : qa * qb / qb = qa := by grind
        rw [hd]
        repeat walk_at "qq"
        exact ⟨_, rfl, or_last rfl (s_next ⟨rfl, rfl⟩)⟩
      · cases z
    rintro o O' ⟨rfl, rfl⟩
    refine s_seq (s_asg ?_)
    repeat walk_at "qq"
    refine s_seq (s_if (t_or (t_not (t_B (e_call (a_cons ?_))))))
    repeat walk_at "qq"
    refine a_cons (e_var rfl (a_nil ⟨rfl, _, _, rfl, _, rfl, or_step ?_ (t_not (t_B (e_call (a_cons ?_))))⟩))
    · have : (qa + qc < qb + qc) ↔ (qa < qb) := by constructor <;> intro _ <;> grind
      rw [Bool.eq_iff_iff]
      simp [this]
    repeat walk_at "qq"
    refine a_cons (e_not (e_var rfl ⟨_, rfl, a_nil ⟨rfl, _, _, rfl, _, rfl, or_last ?_ (s_next ?_)⟩⟩))
    · have : (qb ≤ qa) ↔ ¬ (qa < qb) := by constructor <;> intro _ <;> grind
      rw [Bool.eq_iff_iff]
      simp [this]
    refine s_seq (wS.mono (PS := fun o O' => o = .nx [some (scr ns), some (.lst [dQ L.C_Quotient qa, dQ L.C_Quotient qb, dQ L.C_Quotient qc]), none, none, some (dQ L.C_Quotient qa), some (dQ L.C_Quotient qb), some (dQ L.C_Quotient qc), some (.bl (decide (qa < qb)))] ∧ O' = []) (s_if ?_) ?_)
    · repeat walk_at "qq"
      refine ⟨_, rfl, fun hpos => ?_, fun _ => ⟨fun z => ?_, fun _ => s_next ⟨rfl, rfl⟩⟩⟩
      · have hc0 : 0 < qc := of_decide_eq_true hpos
        refine t_not (t_B (e_call (a_cons ?_)))
        repeat walk_at "qq"
        refine a_cons (e_var rfl (a_nil ⟨rfl, _, _, rfl, _, rfl, or_last ?_ (s_next ⟨rfl, rfl⟩)⟩))
        have : (qa * qc < qb * qc) ↔ (qa < qb) := Rat.mul_lt_mul_right hc0
        rw [Bool.eq_iff_iff]
        simp [this]
      · cases z
    rintro o O' ⟨rfl, rfl⟩
    refine s_ret (e_call (a_cons (e_var rfl (a_cons ?_))))
    repeat walk_at "qq"
    refine a_nil ⟨rfl, _, _, rfl, ?_⟩
    have : (0 < qb - qa) ↔ (qa < qb) := by constructor <;> intro _ <;> grind
    have e : decide (qa < qb) = decide (0 < qb - qa) := by
      rw [Bool.eq_iff_iff]
      simp [this]
    show D.bl (decide (decide (qa < qb) = decide (0 < qb - qa))) = D.bl true
    rw [decide_eq_true e]
end
theorem all_mk {Pr : Program} {w : World} {K : PySem.W.Frag} {h : Heap} {mg : Str → Option Value} {fa C_ColorError C_BadQuotient C_Quotient f_Quotient_init f_Quotient_add f_Quotient_sub f_Quotient_mul f_Quotient_neg f_Quotient_eq f_Quotient_lt f_Quotient_le f_Quotient_over f_whole f_zero f_one f_total f_law_cell f_law_same f_law_number f_law : Addr} (X : K.In h) (G : h.Ns mainGlobals mg) (hfa : mg "law" = some (.ref fa))
    {oc_Quotient_init kV_Quotient_init dc_Quotient_init pm_Quotient_init cd_Quotient_init ct_Quotient_init oc_Quotient_add kV_Quotient_add dc_Quotient_add pm_Quotient_add cd_Quotient_add ct_Quotient_add oc_Quotient_sub kV_Quotient_sub dc_Quotient_sub pm_Quotient_sub cd_Quotient_sub ct_Quotient_sub oc_Quotient_mul kV_Quotient_mul dc_Quotient_mul pm_Quotient_mul cd_Quotient_mul ct_Quotient_mul oc_Quotient_neg kV_Quotient_neg dc_Quotient_neg pm_Quotient_neg cd_Quotient_neg ct_Quotient_neg oc_Quotient_eq kV_Quotient_eq dc_Quotient_eq pm_Quotient_eq cd_Quotient_eq ct_Quotient_eq oc_Quotient_lt kV_Quotient_lt dc_Quotient_lt pm_Quotient_lt cd_Quotient_lt ct_Quotient_lt oc_Quotient_le kV_Quotient_le dc_Quotient_le pm_Quotient_le cd_Quotient_le ct_Quotient_le oc_Quotient_over kV_Quotient_over dc_Quotient_over pm_Quotient_over cd_Quotient_over ct_Quotient_over oc_whole kV_whole dc_whole pm_whole cd_whole ct_whole oc_zero kV_zero dc_zero pm_zero cd_zero ct_zero oc_one kV_one dc_one pm_one cd_one ct_one oc_total kV_total dc_total pm_total cd_total ct_total oc_law_cell kV_law_cell dc_law_cell pm_law_cell cd_law_cell ct_law_cell oc_law_same kV_law_same dc_law_same pm_law_same cd_law_same ct_law_same oc_law_number kV_law_number dc_law_number pm_law_number cd_law_number ct_law_number oc_law kV_law dc_law pm_law cd_law ct_law : Value} {od_Quotient_init an_Quotient_init od_Quotient_add an_Quotient_add od_Quotient_sub an_Quotient_sub od_Quotient_mul an_Quotient_mul od_Quotient_neg an_Quotient_neg od_Quotient_eq an_Quotient_eq od_Quotient_lt an_Quotient_lt od_Quotient_le an_Quotient_le od_Quotient_over an_Quotient_over od_whole an_whole od_zero an_zero od_one an_one od_total an_total od_law_cell an_law_cell od_law_same an_law_same od_law_number an_law_number od_law an_law : Option Addr} {sl_Quotient_init sl_Quotient_add sl_Quotient_sub sl_Quotient_mul sl_Quotient_neg sl_Quotient_eq sl_Quotient_lt sl_Quotient_le sl_Quotient_over sl_whole sl_zero sl_one sl_total sl_law_cell sl_law_same sl_law_number sl_law : Array (Option Value)} {t_PIECE_DIGITS t_PIECE : Tok}
    (a_C_ColorError : PySem.W.nsIn K mainGlobals "ColorError" = some (some (.ref C_ColorError)))
    (a_C_BadQuotient : PySem.W.nsIn K mainGlobals "BadQuotient" = some (some (.ref C_BadQuotient)))
    (a_C_Quotient : PySem.W.nsIn K mainGlobals "Quotient" = some (some (.ref C_Quotient)))
    (a_Quotient_init : PySem.W.findIn K (.ref C_Quotient) "__init__" = some (some (.ref f_Quotient_init)))
    (is_Quotient_init : PySem.W.isFn K (.ref f_Quotient_init) = true)
    (l_Quotient_init : K.lookup f_Quotient_init = some ⟨oc_Quotient_init, od_Quotient_init, .func (PySem.W.fnOf "__init__" "Quotient.__init__" (defArgs s_Quotient_init) (defBody s_Quotient_init) (defScope s_Quotient_init) .none kV_Quotient_init dc_Quotient_init pm_Quotient_init an_Quotient_init cd_Quotient_init ct_Quotient_init), sl_Quotient_init⟩)
    (cd2_Quotient_init : PySem.W.codeIn K cd_Quotient_init "Quotient.__init__" = true)
    (kp_Quotient_init : PySem.W.keepIn K (.ref f_Quotient_init) = true)
    (a_Quotient_add : PySem.W.findIn K (.ref C_Quotient) "__add__" = some (some (.ref f_Quotient_add)))
    (is_Quotient_add : PySem.W.isFn K (.ref f_Quotient_add) = true)
    (l_Quotient_add : K.lookup f_Quotient_add = some ⟨oc_Quotient_add, od_Quotient_add, .func (PySem.W.fnOf "__add__" "Quotient.__add__" (defArgs s_Quotient_add) (defBody s_Quotient_add) (defScope s_Quotient_add) .none kV_Quotient_add dc_Quotient_add pm_Quotient_add an_Quotient_add cd_Quotient_add ct_Quotient_add), sl_Quotient_add⟩)
    (cd2_Quotient_add : PySem.W.codeIn K cd_Quotient_add "Quotient.__add__" = true)
    (kp_Quotient_add : PySem.W.keepIn K (.ref f_Quotient_add) = true)
    (a_Quotient_sub : PySem.W.findIn K (.ref C_Quotient) "__sub__" = some (some (.ref f_Quotient_sub)))
    (is_Quotient_sub : PySem.W.isFn K (.ref f_Quotient_sub) = true)
    (l_Quotient_sub : K.lookup f_Quotient_sub = some ⟨oc_Quotient_sub, od_Quotient_sub, .func (PySem.W.fnOf "__sub__" "Quotient.__sub__" (defArgs s_Quotient_sub) (defBody s_Quotient_sub) (defScope s_Quotient_sub) .none kV_Quotient_sub dc_Quotient_sub pm_Quotient_sub an_Quotient_sub cd_Quotient_sub ct_Quotient_sub), sl_Quotient_sub⟩)
    (cd2_Quotient_sub : PySem.W.codeIn K cd_Quotient_sub "Quotient.__sub__" = true)
    (kp_Quotient_sub : PySem.W.keepIn K (.ref f_Quotient_sub) = true)
    (a_Quotient_mul : PySem.W.findIn K (.ref C_Quotient) "__mul__" = some (some (.ref f_Quotient_mul)))
    (is_Quotient_mul : PySem.W.isFn K (.ref f_Quotient_mul) = true)
    (l_Quotient_mul : K.lookup f_Quotient_mul = some ⟨oc_Quotient_mul, od_Quotient_mul, .func (PySem.W.fnOf "__mul__" "Quotient.__mul__" (defArgs s_Quotient_mul) (defBody s_Quotient_mul) (defScope s_Quotient_mul) .none kV_Quotient_mul dc_Quotient_mul pm_Quotient_mul an_Quotient_mul cd_Quotient_mul ct_Quotient_mul), sl_Quotient_mul⟩)
    (cd2_Quotient_mul : PySem.W.codeIn K cd_Quotient_mul "Quotient.__mul__" = true)
    (kp_Quotient_mul : PySem.W.keepIn K (.ref f_Quotient_mul) = true)
    (a_Quotient_neg : PySem.W.findIn K (.ref C_Quotient) "__neg__" = some (some (.ref f_Quotient_neg)))
    (is_Quotient_neg : PySem.W.isFn K (.ref f_Quotient_neg) = true)
    (l_Quotient_neg : K.lookup f_Quotient_neg = some ⟨oc_Quotient_neg, od_Quotient_neg, .func (PySem.W.fnOf "__neg__" "Quotient.__neg__" (defArgs s_Quotient_neg) (defBody s_Quotient_neg) (defScope s_Quotient_neg) .none kV_Quotient_neg dc_Quotient_neg pm_Quotient_neg an_Quotient_neg cd_Quotient_neg ct_Quotient_neg), sl_Quotient_neg⟩)
    (cd2_Quotient_neg : PySem.W.codeIn K cd_Quotient_neg "Quotient.__neg__" = true)
    (kp_Quotient_neg : PySem.W.keepIn K (.ref f_Quotient_neg) = true)
    (a_Quotient_eq : PySem.W.findIn K (.ref C_Quotient) "__eq__" = some (some (.ref f_Quotient_eq)))
    (is_Quotient_eq : PySem.W.isFn K (.ref f_Quotient_eq) = true)
    (l_Quotient_eq : K.lookup f_Quotient_eq = some ⟨oc_Quotient_eq, od_Quotient_eq, .func (PySem.W.fnOf "__eq__" "Quotient.__eq__" (defArgs s_Quotient_eq) (defBody s_Quotient_eq) (defScope s_Quotient_eq) .none kV_Quotient_eq dc_Quotient_eq pm_Quotient_eq an_Quotient_eq cd_Quotient_eq ct_Quotient_eq), sl_Quotient_eq⟩)
    (cd2_Quotient_eq : PySem.W.codeIn K cd_Quotient_eq "Quotient.__eq__" = true)
    (kp_Quotient_eq : PySem.W.keepIn K (.ref f_Quotient_eq) = true)
    (a_Quotient_lt : PySem.W.findIn K (.ref C_Quotient) "__lt__" = some (some (.ref f_Quotient_lt)))
    (is_Quotient_lt : PySem.W.isFn K (.ref f_Quotient_lt) = true)
    (l_Quotient_lt : K.lookup f_Quotient_lt = some ⟨oc_Quotient_lt, od_Quotient_lt, .func (PySem.W.fnOf "__lt__" "Quotient.__lt__" (defArgs s_Quotient_lt) (defBody s_Quotient_lt) (defScope s_Quotient_lt) .none kV_Quotient_lt dc_Quotient_lt pm_Quotient_lt an_Quotient_lt cd_Quotient_lt ct_Quotient_lt), sl_Quotient_lt⟩)
    (cd2_Quotient_lt : PySem.W.codeIn K cd_Quotient_lt "Quotient.__lt__" = true)
    (kp_Quotient_lt : PySem.W.keepIn K (.ref f_Quotient_lt) = true)
    (a_Quotient_le : PySem.W.findIn K (.ref C_Quotient) "__le__" = some (some (.ref f_Quotient_le)))
    (is_Quotient_le : PySem.W.isFn K (.ref f_Quotient_le) = true)
    (l_Quotient_le : K.lookup f_Quotient_le = some ⟨oc_Quotient_le, od_Quotient_le, .func (PySem.W.fnOf "__le__" "Quotient.__le__" (defArgs s_Quotient_le) (defBody s_Quotient_le) (defScope s_Quotient_le) .none kV_Quotient_le dc_Quotient_le pm_Quotient_le an_Quotient_le cd_Quotient_le ct_Quotient_le), sl_Quotient_le⟩)
    (cd2_Quotient_le : PySem.W.codeIn K cd_Quotient_le "Quotient.__le__" = true)
    (kp_Quotient_le : PySem.W.keepIn K (.ref f_Quotient_le) = true)
    (a_Quotient_over : PySem.W.findIn K (.ref C_Quotient) "over" = some (some (.ref f_Quotient_over)))
    (is_Quotient_over : PySem.W.isFn K (.ref f_Quotient_over) = true)
    (l_Quotient_over : K.lookup f_Quotient_over = some ⟨oc_Quotient_over, od_Quotient_over, .func (PySem.W.fnOf "over" "Quotient.over" (defArgs s_Quotient_over) (defBody s_Quotient_over) (defScope s_Quotient_over) .none kV_Quotient_over dc_Quotient_over pm_Quotient_over an_Quotient_over cd_Quotient_over ct_Quotient_over), sl_Quotient_over⟩)
    (cd2_Quotient_over : PySem.W.codeIn K cd_Quotient_over "Quotient.over" = true)
    (kp_Quotient_over : PySem.W.keepIn K (.ref f_Quotient_over) = true)
    (a_whole : PySem.W.nsIn K mainGlobals "whole" = some (some (.ref f_whole)))
    (l_whole : K.lookup f_whole = some ⟨oc_whole, od_whole, .func (PySem.W.fnOf "whole" "whole" (defArgs s_whole) (defBody s_whole) (defScope s_whole) .none kV_whole dc_whole pm_whole an_whole cd_whole ct_whole), sl_whole⟩)
    (cd2_whole : PySem.W.codeIn K cd_whole "whole" = true)
    (kp_whole : PySem.W.keepIn K (.ref f_whole) = true)
    (a_zero : PySem.W.nsIn K mainGlobals "zero" = some (some (.ref f_zero)))
    (l_zero : K.lookup f_zero = some ⟨oc_zero, od_zero, .func (PySem.W.fnOf "zero" "zero" (defArgs s_zero) (defBody s_zero) (defScope s_zero) .none kV_zero dc_zero pm_zero an_zero cd_zero ct_zero), sl_zero⟩)
    (cd2_zero : PySem.W.codeIn K cd_zero "zero" = true)
    (kp_zero : PySem.W.keepIn K (.ref f_zero) = true)
    (a_one : PySem.W.nsIn K mainGlobals "one" = some (some (.ref f_one)))
    (l_one : K.lookup f_one = some ⟨oc_one, od_one, .func (PySem.W.fnOf "one" "one" (defArgs s_one) (defBody s_one) (defScope s_one) .none kV_one dc_one pm_one an_one cd_one ct_one), sl_one⟩)
    (cd2_one : PySem.W.codeIn K cd_one "one" = true)
    (kp_one : PySem.W.keepIn K (.ref f_one) = true)
    (a_total : PySem.W.nsIn K mainGlobals "total" = some (some (.ref f_total)))
    (l_total : K.lookup f_total = some ⟨oc_total, od_total, .func (PySem.W.fnOf "total" "total" (defArgs s_total) (defBody s_total) (defScope s_total) .none kV_total dc_total pm_total an_total cd_total ct_total), sl_total⟩)
    (cd2_total : PySem.W.codeIn K cd_total "total" = true)
    (kp_total : PySem.W.keepIn K (.ref f_total) = true)
    (a_law_cell : PySem.W.nsIn K mainGlobals "_law_cell" = some (some (.ref f_law_cell)))
    (l_law_cell : K.lookup f_law_cell = some ⟨oc_law_cell, od_law_cell, .func (PySem.W.fnOf "_law_cell" "_law_cell" (defArgs s_law_cell) (defBody s_law_cell) (defScope s_law_cell) .none kV_law_cell dc_law_cell pm_law_cell an_law_cell cd_law_cell ct_law_cell), sl_law_cell⟩)
    (cd2_law_cell : PySem.W.codeIn K cd_law_cell "_law_cell" = true)
    (kp_law_cell : PySem.W.keepIn K (.ref f_law_cell) = true)
    (a_law_same : PySem.W.nsIn K mainGlobals "_law_same" = some (some (.ref f_law_same)))
    (l_law_same : K.lookup f_law_same = some ⟨oc_law_same, od_law_same, .func (PySem.W.fnOf "_law_same" "_law_same" (defArgs s_law_same) (defBody s_law_same) (defScope s_law_same) .none kV_law_same dc_law_same pm_law_same an_law_same cd_law_same ct_law_same), sl_law_same⟩)
    (cd2_law_same : PySem.W.codeIn K cd_law_same "_law_same" = true)
    (kp_law_same : PySem.W.keepIn K (.ref f_law_same) = true)
    (a_law_number : PySem.W.nsIn K mainGlobals "_law_number" = some (some (.ref f_law_number)))
    (l_law_number : K.lookup f_law_number = some ⟨oc_law_number, od_law_number, .func (PySem.W.fnOf "_law_number" "_law_number" (defArgs s_law_number) (defBody s_law_number) (defScope s_law_number) .none kV_law_number dc_law_number pm_law_number an_law_number cd_law_number ct_law_number), sl_law_number⟩)
    (cd2_law_number : PySem.W.codeIn K cd_law_number "_law_number" = true)
    (kp_law_number : PySem.W.keepIn K (.ref f_law_number) = true)
    (a_law : PySem.W.nsIn K mainGlobals "law" = some (some (.ref f_law)))
    (l_law : K.lookup f_law = some ⟨oc_law, od_law, .func (PySem.W.fnOf "law" "law" (defArgs s_law) (defBody s_law) (defScope s_law) .none kV_law dc_law pm_law an_law cd_law ct_law), sl_law⟩)
    (cd2_law : PySem.W.codeIn K cd_law "law" = true)
    (kp_law : PySem.W.keepIn K (.ref f_law) = true)
    (pg_Quotient : PySem.W.plainGet K C_Quotient Str.empty = true)
    (hd_Quotient : PySem.W.hasDictIn K C_Quotient = true)
    (po_Quotient : PySem.W.plainOver K C_Quotient = true)
    (sa_Quotient : PySem.W.findIn K (.ref C_Quotient) "__setattr__" = some (some (.builtin "object.__setattr__")))
    (mi_Quotient : PySem.W.makesIn K C_Quotient = true)
    (kc_Quotient : PySem.W.keepIn K (.ref C_Quotient) = true)
    (ha_Quotient : PySem.W.findIn K (.ref C_Quotient) "__class__" = some (some (.builtin "object.__class__")))
    (hn_Quotient : PySem.W.specialIn K (.builtin "object.__class__") "__get__" = some (some (.builtin "getset_descriptor.__get__")))
    (ht_Quotient : PySem.W.takesIn K (.builtin "object.__class__") = some true)
    (hm_Quotient : PySem.W.mroIn K C_Quotient (.type "object") = some true)
    (sf_Quotient : PySem.W.selfFirst K C_Quotient = true)
    (na_Quotient_top : PySem.W.findIn K (.ref C_Quotient) "top" = some none)
    (na_Quotient_bottom : PySem.W.findIn K (.ref C_Quotient) "bottom" = some none)
    (kit_Quotient_Quotient : PySem.W.kitOne K (.ref C_Quotient) (.ref C_Quotient) = some true)
    (kit_bool_bool : PySem.W.kitOne K (.type "bool") (.type "bool") = some true)
    (x_BadQuotient : PySem.W.excIn K C_BadQuotient [.type "ValueError", .type "Exception", .type "BaseException", .type "object"] "ValueError.__new__" = true)
    (kc_BadQuotient : PySem.W.keepIn K (.ref C_BadQuotient) = true)
    (xb_BadQuotient : PySem.W.subIn K (.ref C_BadQuotient) (.type "BaseException") = some true)
    (xt_BadQuotient : PySem.W.typeIn K (.ref C_BadQuotient) = some (.type "type"))
    (xi_BadQuotient : PySem.W.isClsIn K C_BadQuotient = true)
    (xs_BadQuotient : PySem.W.subIn K (.ref C_BadQuotient) (.ref C_BadQuotient) = some true)
    (n_abs : PySem.W.nsIn K mainGlobals "abs" = some none)
    (n_bool : PySem.W.nsIn K mainGlobals "bool" = some none)
    (n_divmod : PySem.W.nsIn K mainGlobals "divmod" = some none)
    (n_int : PySem.W.nsIn K mainGlobals "int" = some none)
    (n_isinstance : PySem.W.nsIn K mainGlobals "isinstance" = some none)
    (n_len : PySem.W.nsIn K mainGlobals "len" = some none)
    (n_list : PySem.W.nsIn K mainGlobals "list" = some none)
    (n_range : PySem.W.nsIn K mainGlobals "range" = some none)
    (n_str : PySem.W.nsIn K mainGlobals "str" = some none)
    (n_tuple : PySem.W.nsIn K mainGlobals "tuple" = some none)
    (n_ValueError : PySem.W.nsIn K mainGlobals "ValueError" = some none)
    (i_gcd : PySem.W.nsIn K mainGlobals "gcd" = some (some (.builtin "math.gcd")))
    (c_PIECE_DIGITS : PySem.W.nsIn K mainGlobals "PIECE_DIGITS" = some (some (.int 18 t_PIECE_DIGITS)))
    (c_PIECE : PySem.W.nsIn K mainGlobals "PIECE" = some (some (.int 1000000000000000000 t_PIECE))) :
    ∃ fd : FuncData, (∀ (s : Shared) (v : Value), BindsTo s fd ⟨[v], []⟩ [("script", v)]) ∧ ∀ base : Heap, K.In base → base.Ns mainGlobals mg → FnOk Pr w K mg base CX0 6 fa fd ["script"] (spLaw K) := by
  have e : f_law = fa := by
    have e0 := hfa.symm.trans (PySem.W.mg_of X G a_law)
    cases e0
    rfl
  subst e
  have F_Quotient_init := fun_mk (st := s_Quotient_init) l_Quotient_init cd2_Quotient_init kp_Quotient_init
  have b_Quotient_init := F_Quotient_init.binds (ps := ["self", "top", "bottom"]) fun _ _ _ _ _ _ us hl => match us, hl with | [_, _, _], _ => rfl
  have F_Quotient_add := fun_mk (st := s_Quotient_add) l_Quotient_add cd2_Quotient_add kp_Quotient_add
  have b_Quotient_add := F_Quotient_add.binds (ps := ["self", "other"]) fun _ _ _ _ _ _ us hl => match us, hl with | [_, _], _ => rfl
  have F_Quotient_sub := fun_mk (st := s_Quotient_sub) l_Quotient_sub cd2_Quotient_sub kp_Quotient_sub
  have b_Quotient_sub := F_Quotient_sub.binds (ps := ["self", "other"]) fun _ _ _ _ _ _ us hl => match us, hl with | [_, _], _ => rfl
  have F_Quotient_mul := fun_mk (st := s_Quotient_mul) l_Quotient_mul cd2_Quotient_mul kp_Quotient_mul
  have b_Quotient_mul := F_Quotient_mul.binds (ps := ["self", "other"]) fun _ _ _ _ _ _ us hl => match us, hl with | [_, _], _ => rfl
  have F_Quotient_neg := fun_mk (st := s_Quotient_neg) l_Quotient_neg cd2_Quotient_neg kp_Quotient_neg
  have b_Quotient_neg := F_Quotient_neg.binds (ps := ["self"]) fun _ _ _ _ _ _ us hl => match us, hl with | [_], _ => rfl
  have F_Quotient_eq := fun_mk (st := s_Quotient_eq) l_Quotient_eq cd2_Quotient_eq kp_Quotient_eq
  have b_Quotient_eq := F_Quotient_eq.binds (ps := ["self", "other"]) fun _ _ _ _ _ _ us hl => match us, hl with | [_, _], _ => rfl
  have F_Quotient_lt := fun_mk (st := s_Quotient_lt) l_Quotient_lt cd2_Quotient_lt kp_Quotient_lt
  have b_Quotient_lt := F_Quotient_lt.binds (ps := ["self", "other"]) fun _ _ _ _ _ _ us hl => match us, hl with | [_, _], _ => rfl
  have F_Quotient_le := fun_mk (st := s_Quotient_le) l_Quotient_le cd2_Quotient_le kp_Quotient_le
  have b_Quotient_le := F_Quotient_le.binds (ps := ["self", "other"]) fun _ _ _ _ _ _ us hl => match us, hl with | [_, _], _ => rfl
  have F_Quotient_over := fun_mk (st := s_Quotient_over) l_Quotient_over cd2_Quotient_over kp_Quotient_over
  have b_Quotient_over := F_Quotient_over.binds (ps := ["self", "other"]) fun _ _ _ _ _ _ us hl => match us, hl with | [_, _], _ => rfl
  have F_whole := fun_mk (st := s_whole) l_whole cd2_whole kp_whole
  have b_whole := F_whole.binds (ps := ["number"]) fun _ _ _ _ _ _ us hl => match us, hl with | [_], _ => rfl
  have F_zero := fun_mk (st := s_zero) l_zero cd2_zero kp_zero
  have b_zero := F_zero.binds (ps := []) fun _ _ _ _ _ _ us hl => match us, hl with | [], _ => rfl
  have F_one := fun_mk (st := s_one) l_one cd2_one kp_one
  have b_one := F_one.binds (ps := []) fun _ _ _ _ _ _ us hl => match us, hl with | [], _ => rfl
  have F_total := fun_mk (st := s_total) l_total cd2_total kp_total
  have b_total := F_total.binds (ps := ["quotients"]) fun _ _ _ _ _ _ us hl => match us, hl with | [_], _ => rfl
  have F_law_cell := fun_mk (st := s_law_cell) l_law_cell cd2_law_cell kp_law_cell
  have b_law_cell := F_law_cell.binds (ps := ["script", "k"]) fun _ _ _ _ _ _ us hl => match us, hl with | [_, _], _ => rfl
  have F_law_same := fun_mk (st := s_law_same) l_law_same cd2_law_same kp_law_same
  have b_law_same := F_law_same.binds (ps := ["actual", "expected"]) fun _ _ _ _ _ _ us hl => match us, hl with | [_, _], _ => rfl
  have F_law_number := fun_mk (st := s_law_number) l_law_number cd2_law_number kp_law_number
  have b_law_number := F_law_number.binds (ps := ["script", "k"]) fun _ _ _ _ _ _ us hl => match us, hl with | [_, _], _ => rfl
  have F_law := fun_mk (st := s_law) l_law cd2_law kp_law
  have b_law := F_law.binds (ps := ["script"]) fun _ _ _ _ _ _ us hl => match us, hl with | [_], _ => rfl
  have T : Txt K mg {
      C_ColorError := C_ColorError,
      C_BadQuotient := C_BadQuotient,
      C_Quotient := C_Quotient,
      f_Quotient_init := f_Quotient_init,
      d_Quotient_init := PySem.W.fnOf "__init__" "Quotient.__init__" (defArgs s_Quotient_init) (defBody s_Quotient_init) (defScope s_Quotient_init) .none kV_Quotient_init dc_Quotient_init pm_Quotient_init an_Quotient_init cd_Quotient_init ct_Quotient_init,
      f_Quotient_add := f_Quotient_add,
      d_Quotient_add := PySem.W.fnOf "__add__" "Quotient.__add__" (defArgs s_Quotient_add) (defBody s_Quotient_add) (defScope s_Quotient_add) .none kV_Quotient_add dc_Quotient_add pm_Quotient_add an_Quotient_add cd_Quotient_add ct_Quotient_add,
      f_Quotient_sub := f_Quotient_sub,
      d_Quotient_sub := PySem.W.fnOf "__sub__" "Quotient.__sub__" (defArgs s_Quotient_sub) (defBody s_Quotient_sub) (defScope s_Quotient_sub) .none kV_Quotient_sub dc_Quotient_sub pm_Quotient_sub an_Quotient_sub cd_Quotient_sub ct_Quotient_sub,
      f_Quotient_mul := f_Quotient_mul,
      d_Quotient_mul := PySem.W.fnOf "__mul__" "Quotient.__mul__" (defArgs s_Quotient_mul) (defBody s_Quotient_mul) (defScope s_Quotient_mul) .none kV_Quotient_mul dc_Quotient_mul pm_Quotient_mul an_Quotient_mul cd_Quotient_mul ct_Quotient_mul,
      f_Quotient_neg := f_Quotient_neg,
      d_Quotient_neg := PySem.W.fnOf "__neg__" "Quotient.__neg__" (defArgs s_Quotient_neg) (defBody s_Quotient_neg) (defScope s_Quotient_neg) .none kV_Quotient_neg dc_Quotient_neg pm_Quotient_neg an_Quotient_neg cd_Quotient_neg ct_Quotient_neg,
      f_Quotient_eq := f_Quotient_eq,
      d_Quotient_eq := PySem.W.fnOf "__eq__" "Quotient.__eq__" (defArgs s_Quotient_eq) (defBody s_Quotient_eq) (defScope s_Quotient_eq) .none kV_Quotient_eq dc_Quotient_eq pm_Quotient_eq an_Quotient_eq cd_Quotient_eq ct_Quotient_eq,
      f_Quotient_lt := f_Quotient_lt,
      d_Quotient_lt := PySem.W.fnOf "__lt__" "Quotient.__lt__" (defArgs s_Quotient_lt) (defBody s_Quotient_lt) (defScope s_Quotient_lt) .none kV_Quotient_lt dc_Quotient_lt pm_Quotient_lt an_Quotient_lt cd_Quotient_lt ct_Quotient_lt,
      f_Quotient_le := f_Quotient_le,
      d_Quotient_le := PySem.W.fnOf "__le__" "Quotient.__le__" (defArgs s_Quotient_le) (defBody s_Quotient_le) (defScope s_Quotient_le) .none kV_Quotient_le dc_Quotient_le pm_Quotient_le an_Quotient_le cd_Quotient_le ct_Quotient_le,
      f_Quotient_over := f_Quotient_over,
      d_Quotient_over := PySem.W.fnOf "over" "Quotient.over" (defArgs s_Quotient_over) (defBody s_Quotient_over) (defScope s_Quotient_over) .none kV_Quotient_over dc_Quotient_over pm_Quotient_over an_Quotient_over cd_Quotient_over ct_Quotient_over,
      f_whole := f_whole,
      d_whole := PySem.W.fnOf "whole" "whole" (defArgs s_whole) (defBody s_whole) (defScope s_whole) .none kV_whole dc_whole pm_whole an_whole cd_whole ct_whole,
      f_zero := f_zero,
      d_zero := PySem.W.fnOf "zero" "zero" (defArgs s_zero) (defBody s_zero) (defScope s_zero) .none kV_zero dc_zero pm_zero an_zero cd_zero ct_zero,
      f_one := f_one,
      d_one := PySem.W.fnOf "one" "one" (defArgs s_one) (defBody s_one) (defScope s_one) .none kV_one dc_one pm_one an_one cd_one ct_one,
      f_total := f_total,
      d_total := PySem.W.fnOf "total" "total" (defArgs s_total) (defBody s_total) (defScope s_total) .none kV_total dc_total pm_total an_total cd_total ct_total,
      f_law_cell := f_law_cell,
      d_law_cell := PySem.W.fnOf "_law_cell" "_law_cell" (defArgs s_law_cell) (defBody s_law_cell) (defScope s_law_cell) .none kV_law_cell dc_law_cell pm_law_cell an_law_cell cd_law_cell ct_law_cell,
      f_law_same := f_law_same,
      d_law_same := PySem.W.fnOf "_law_same" "_law_same" (defArgs s_law_same) (defBody s_law_same) (defScope s_law_same) .none kV_law_same dc_law_same pm_law_same an_law_same cd_law_same ct_law_same,
      f_law_number := f_law_number,
      d_law_number := PySem.W.fnOf "_law_number" "_law_number" (defArgs s_law_number) (defBody s_law_number) (defScope s_law_number) .none kV_law_number dc_law_number pm_law_number an_law_number cd_law_number ct_law_number,
      f_law := f_law,
      d_law := PySem.W.fnOf "law" "law" (defArgs s_law) (defBody s_law) (defScope s_law) .none kV_law dc_law pm_law an_law cd_law ct_law } := {
      F_Quotient_init := F_Quotient_init,
      b_Quotient_init := b_Quotient_init,
      fi_Quotient_init := a_Quotient_init,
      fn_Quotient_init := is_Quotient_init,
      me_Quotient_init := ⟨a_Quotient_init, is_Quotient_init, kp_Quotient_init⟩,
      F_Quotient_add := F_Quotient_add,
      b_Quotient_add := b_Quotient_add,
      fi_Quotient_add := a_Quotient_add,
      fn_Quotient_add := is_Quotient_add,
      me_Quotient_add := ⟨a_Quotient_add, is_Quotient_add, kp_Quotient_add⟩,
      F_Quotient_sub := F_Quotient_sub,
      b_Quotient_sub := b_Quotient_sub,
      fi_Quotient_sub := a_Quotient_sub,
      fn_Quotient_sub := is_Quotient_sub,
      me_Quotient_sub := ⟨a_Quotient_sub, is_Quotient_sub, kp_Quotient_sub⟩,
      F_Quotient_mul := F_Quotient_mul,
      b_Quotient_mul := b_Quotient_mul,
      fi_Quotient_mul := a_Quotient_mul,
      fn_Quotient_mul := is_Quotient_mul,
      me_Quotient_mul := ⟨a_Quotient_mul, is_Quotient_mul, kp_Quotient_mul⟩,
      F_Quotient_neg := F_Quotient_neg,
      b_Quotient_neg := b_Quotient_neg,
      fi_Quotient_neg := a_Quotient_neg,
      fn_Quotient_neg := is_Quotient_neg,
      me_Quotient_neg := ⟨a_Quotient_neg, is_Quotient_neg, kp_Quotient_neg⟩,
      F_Quotient_eq := F_Quotient_eq,
      b_Quotient_eq := b_Quotient_eq,
      fi_Quotient_eq := a_Quotient_eq,
      fn_Quotient_eq := is_Quotient_eq,
      me_Quotient_eq := ⟨a_Quotient_eq, is_Quotient_eq, kp_Quotient_eq⟩,
      F_Quotient_lt := F_Quotient_lt,
      b_Quotient_lt := b_Quotient_lt,
      fi_Quotient_lt := a_Quotient_lt,
      fn_Quotient_lt := is_Quotient_lt,
      me_Quotient_lt := ⟨a_Quotient_lt, is_Quotient_lt, kp_Quotient_lt⟩,
      F_Quotient_le := F_Quotient_le,
      b_Quotient_le := b_Quotient_le,
      fi_Quotient_le := a_Quotient_le,
      fn_Quotient_le := is_Quotient_le,
      me_Quotient_le := ⟨a_Quotient_le, is_Quotient_le, kp_Quotient_le⟩,
      F_Quotient_over := F_Quotient_over,
      b_Quotient_over := b_Quotient_over,
      fi_Quotient_over := a_Quotient_over,
      fn_Quotient_over := is_Quotient_over,
      me_Quotient_over := ⟨a_Quotient_over, is_Quotient_over, kp_Quotient_over⟩,
      F_whole := F_whole,
      b_whole := b_whole,
      m_whole := PySem.W.mg_of X G a_whole,
      F_zero := F_zero,
      b_zero := b_zero,
      m_zero := PySem.W.mg_of X G a_zero,
      F_one := F_one,
      b_one := b_one,
      m_one := PySem.W.mg_of X G a_one,
      F_total := F_total,
      b_total := b_total,
      m_total := PySem.W.mg_of X G a_total,
      F_law_cell := F_law_cell,
      b_law_cell := b_law_cell,
      m_law_cell := PySem.W.mg_of X G a_law_cell,
      F_law_same := F_law_same,
      b_law_same := b_law_same,
      m_law_same := PySem.W.mg_of X G a_law_same,
      F_law_number := F_law_number,
      b_law_number := b_law_number,
      m_law_number := PySem.W.mg_of X G a_law_number,
      F_law := F_law,
      b_law := b_law,
      m_law := PySem.W.mg_of X G a_law,
      mg_ColorError := PySem.W.mg_of X G a_C_ColorError,
      mg_BadQuotient := PySem.W.mg_of X G a_C_BadQuotient,
      mg_Quotient := PySem.W.mg_of X G a_C_Quotient,
      k_Quotient := ⟨⟨pg_Quotient, hd_Quotient, po_Quotient, sa_Quotient⟩, ha_Quotient, hn_Quotient, ht_Quotient, hm_Quotient⟩,
      sf_Quotient := sf_Quotient,
      mk_Quotient := ⟨mi_Quotient, a_Quotient_init, is_Quotient_init, kc_Quotient⟩,
      na_Quotient_top := na_Quotient_top,
      na_Quotient_bottom := na_Quotient_bottom,
      kit_Quotient_Quotient := kit_Quotient_Quotient,
      kit_bool_bool := kit_bool_bool,
      x_BadQuotient := x_BadQuotient,
      kc_BadQuotient := kc_BadQuotient,
      xb_BadQuotient := xb_BadQuotient,
      xt_BadQuotient := xt_BadQuotient,
      xi_BadQuotient := xi_BadQuotient,
      xs_BadQuotient := xs_BadQuotient,
      n_abs := PySem.W.mg_none_of X G n_abs,
      n_bool := PySem.W.mg_none_of X G n_bool,
      n_divmod := PySem.W.mg_none_of X G n_divmod,
      n_int := PySem.W.mg_none_of X G n_int,
      n_isinstance := PySem.W.mg_none_of X G n_isinstance,
      n_len := PySem.W.mg_none_of X G n_len,
      n_list := PySem.W.mg_none_of X G n_list,
      n_range := PySem.W.mg_none_of X G n_range,
      n_str := PySem.W.mg_none_of X G n_str,
      n_tuple := PySem.W.mg_none_of X G n_tuple,
      n_ValueError := PySem.W.mg_none_of X G n_ValueError,
      i_gcd := PySem.W.mg_of X G i_gcd,
      c_PIECE_DIGITS := ⟨_, PySem.W.mg_of X G c_PIECE_DIGITS, _, rfl⟩,
      c_PIECE := ⟨_, PySem.W.mg_of X G c_PIECE, _, rfl⟩ }
  exact ⟨_, fun s v => .of_eq rfl, fun base _ _ => ok_law T⟩
theorem walk {l : PySem.W.OpenLaw} {qq : Program} {loose : List Str} {XP : (Str → Option Value) → Heap → Prop} {YP : World → Heap → Prop} {d : DefRec} {K : Params → PySem.W.Frag} (hn : l.most = some 63) (hdf : d.params.defaults = [])
    (hY : ∀ (w : World) (h : Heap), YP w h → (K w.params).In h)
    (F : ∀ (w : World) (mg : Str → Option Value) (fa : Addr) (h : Heap), (K w.params).In h → h.Ns mainGlobals mg → mg d.name = some (.ref fa) →
      ∃ fd : FuncData, (∀ (s : Shared) (u : Value), BindsTo s fd ⟨[u], []⟩ [("script", u)]) ∧ ∀ base : Heap, (K w.params).In base → base.Ns mainGlobals mg → FnOk l.prog w (K w.params) mg base CX0 6 fa fd ["script"] (spLaw (K w.params))) :
    PySem.W.WalkO qq loose XP YP l.row.toRowW d [] (fun f vs => PySem.call f vs) :=
  L2.walk_of (n := 63) (k := 6) (x := "script") (CX := fun _ => CX0) (sp := fun w => spLaw (K w.params)) hn (by decide) hdf ⟨rfl, by decide, by decide⟩ hY F (fun _ _ a ns hl _ hS => ⟨a, ns, rfl, hS, hl, fun _ => rfl⟩) fun _ _ _ _ _ z => z
end My
open PySem PySem.W PyProof.Rows
set_option maxRecDepth 100000 in
set_option maxHeartbeats 0 in
theorem PySem.Challenge.cw_colormatch_k01_quotients_are_a_field_holds : PySem.Challenge.rw_colormatch_k01_quotients_are_a_field.Holds := by
  w_on; o_law; k_head; (case hw => w_witness2)
  k_fill
  refine My.walk (l := PySem.Challenge.rw_colormatch_k01_quotients_are_a_field) rfl rfl (fun w h Y => PySem.W.kIn_of Y) ?F
  case F =>
    intro w mg fa h KX G hmg
    refine' My.all_mk KX G hmg ?a_C_ColorError ?a_C_BadQuotient ?a_C_Quotient ?a_Quotient_init ?is_Quotient_init ?l_Quotient_init ?cd2_Quotient_init ?kp_Quotient_init ?a_Quotient_add ?is_Quotient_add ?l_Quotient_add ?cd2_Quotient_add ?kp_Quotient_add ?a_Quotient_sub ?is_Quotient_sub ?l_Quotient_sub ?cd2_Quotient_sub ?kp_Quotient_sub ?a_Quotient_mul ?is_Quotient_mul ?l_Quotient_mul ?cd2_Quotient_mul ?kp_Quotient_mul ?a_Quotient_neg ?is_Quotient_neg ?l_Quotient_neg ?cd2_Quotient_neg ?kp_Quotient_neg ?a_Quotient_eq ?is_Quotient_eq ?l_Quotient_eq ?cd2_Quotient_eq ?kp_Quotient_eq ?a_Quotient_lt ?is_Quotient_lt ?l_Quotient_lt ?cd2_Quotient_lt ?kp_Quotient_lt ?a_Quotient_le ?is_Quotient_le ?l_Quotient_le ?cd2_Quotient_le ?kp_Quotient_le ?a_Quotient_over ?is_Quotient_over ?l_Quotient_over ?cd2_Quotient_over ?kp_Quotient_over ?a_whole ?l_whole ?cd2_whole ?kp_whole ?a_zero ?l_zero ?cd2_zero ?kp_zero ?a_one ?l_one ?cd2_one ?kp_one ?a_total ?l_total ?cd2_total ?kp_total ?a_law_cell ?l_law_cell ?cd2_law_cell ?kp_law_cell ?a_law_same ?l_law_same ?cd2_law_same ?kp_law_same ?a_law_number ?l_law_number ?cd2_law_number ?kp_law_number ?a_law ?l_law ?cd2_law ?kp_law ?pg_Quotient ?hd_Quotient ?po_Quotient ?sa_Quotient ?mi_Quotient ?kc_Quotient ?ha_Quotient ?hn_Quotient ?ht_Quotient ?hm_Quotient ?sf_Quotient ?na_Quotient_top ?na_Quotient_bottom ?kit_Quotient_Quotient ?kit_bool_bool ?x_BadQuotient ?kc_BadQuotient ?xb_BadQuotient ?xt_BadQuotient ?xi_BadQuotient ?xs_BadQuotient ?n_abs ?n_bool ?n_divmod ?n_int ?n_isinstance ?n_len ?n_list ?n_range ?n_str ?n_tuple ?n_ValueError ?i_gcd ?c_PIECE_DIGITS ?c_PIECE
    (case a_C_ColorError => k_is)
    (case a_C_BadQuotient => k_is)
    (case a_C_Quotient => k_is)
    (case a_Quotient_init => k_is)
    (case is_Quotient_init => k_is)
    (case l_Quotient_init => k_is)
    (case cd2_Quotient_init => k_is)
    (case kp_Quotient_init => k_is)
    (case a_Quotient_add => k_is)
    (case is_Quotient_add => k_is)
    (case l_Quotient_add => k_is)
    (case cd2_Quotient_add => k_is)
    (case kp_Quotient_add => k_is)
    (case a_Quotient_sub => k_is)
    (case is_Quotient_sub => k_is)
    (case l_Quotient_sub => k_is)
    (case cd2_Quotient_sub => k_is)
    (case kp_Quotient_sub => k_is)
    (case a_Quotient_mul => k_is)
    (case is_Quotient_mul => k_is)
    (case l_Quotient_mul => k_is)
    (case cd2_Quotient_mul => k_is)
    (case kp_Quotient_mul => k_is)
    (case a_Quotient_neg => k_is)
    (case is_Quotient_neg => k_is)
    (case l_Quotient_neg => k_is)
    (case cd2_Quotient_neg => k_is)
    (case kp_Quotient_neg => k_is)
    (case a_Quotient_eq => k_is)
    (case is_Quotient_eq => k_is)
    (case l_Quotient_eq => k_is)
    (case cd2_Quotient_eq => k_is)
    (case kp_Quotient_eq => k_is)
    (case a_Quotient_lt => k_is)
    (case is_Quotient_lt => k_is)
    (case l_Quotient_lt => k_is)
    (case cd2_Quotient_lt => k_is)
    (case kp_Quotient_lt => k_is)
    (case a_Quotient_le => k_is)
    (case is_Quotient_le => k_is)
    (case l_Quotient_le => k_is)
    (case cd2_Quotient_le => k_is)
    (case kp_Quotient_le => k_is)
    (case a_Quotient_over => k_is)
    (case is_Quotient_over => k_is)
    (case l_Quotient_over => k_is)
    (case cd2_Quotient_over => k_is)
    (case kp_Quotient_over => k_is)
    (case a_whole => k_is)
    (case l_whole => k_is)
    (case cd2_whole => k_is)
    (case kp_whole => k_is)
    (case a_zero => k_is)
    (case l_zero => k_is)
    (case cd2_zero => k_is)
    (case kp_zero => k_is)
    (case a_one => k_is)
    (case l_one => k_is)
    (case cd2_one => k_is)
    (case kp_one => k_is)
    (case a_total => k_is)
    (case l_total => k_is)
    (case cd2_total => k_is)
    (case kp_total => k_is)
    (case a_law_cell => k_is)
    (case l_law_cell => k_is)
    (case cd2_law_cell => k_is)
    (case kp_law_cell => k_is)
    (case a_law_same => k_is)
    (case l_law_same => k_is)
    (case cd2_law_same => k_is)
    (case kp_law_same => k_is)
    (case a_law_number => k_is)
    (case l_law_number => k_is)
    (case cd2_law_number => k_is)
    (case kp_law_number => k_is)
    (case a_law => k_is)
    (case l_law => k_is)
    (case cd2_law => k_is)
    (case kp_law => k_is)
    (case pg_Quotient => k_is)
    (case hd_Quotient => k_is)
    (case po_Quotient => k_is)
    (case sa_Quotient => k_is)
    (case mi_Quotient => k_is)
    (case kc_Quotient => k_is)
    (case ha_Quotient => k_is)
    (case hn_Quotient => k_is)
    (case ht_Quotient => k_is)
    (case hm_Quotient => k_is)
    (case sf_Quotient => k_is)
    (case na_Quotient_top => k_is)
    (case na_Quotient_bottom => k_is)
    (case kit_Quotient_Quotient => first | rfl | k_is)
    (case kit_bool_bool => first | rfl | k_is)
    (case x_BadQuotient => k_exc)
    (case kc_BadQuotient => k_is)
    (case xb_BadQuotient => k_is)
    (case xt_BadQuotient => k_is)
    (case xi_BadQuotient => k_is)
    (case xs_BadQuotient => first | rfl | k_is)
    (case n_abs => k_is)
    (case n_bool => k_is)
    (case n_divmod => k_is)
    (case n_int => k_is)
    (case n_isinstance => k_is)
    (case n_len => k_is)
    (case n_list => k_is)
    (case n_range => k_is)
    (case n_str => k_is)
    (case n_tuple => k_is)
    (case n_ValueError => k_is)
    (case i_gcd => k_is)
    (case c_PIECE_DIGITS => k_is)
    (case c_PIECE => k_is)

