import PyProof.Rows.All
import Wide.All
import OpenK.AllK
import Wide.FinOn
import HandS.ForMost
import HandS.Evl
import HandS.Gcd
import HandS.Wide
import HandS.FStr
import HandS.IsInst
import HandS.Zip
import HandS.Codes
import HandS.OwnEq
import HandS.TryOnly
import HandS.TryMany
import HandS.ExcOwn
import HandS.WordsExc
import HandS.ExcIs
import HandS.TupAny
import HandS.TupMul
import HandS.Style
import HandS.Iter
import KE.GoesMore
import PyProof.EnumMake
import OpenK.KCls
import OpenK.KMake
import PyProof.FactsLen
import HandS.Strs
import HandS.TupLe
import HandS.Conv
import HandS.Comp
import PySem.Challenge.RW_colormatch_k13_band_patterns
set_option Elab.async false
set_option linter.all false
set_option maxRecDepth 100000
set_option maxHeartbeats 4000000
/-! My own layer: a program over data trees, without the heap. -/
namespace G
open PySem L2
/-! ### data -/
inductive D where
  | raw (v : V) | tup (ds : List D) | lst (ds : List D) | fz (ds : List D) | ins (C : Addr) (fs : List (Str × D))
abbrev D.int (i : Int) : D := .raw (.int i)
abbrev D.bl (b : Bool) : D := .raw (.bl b)
abbrev D.str (z : Str) : D := .raw (.str z)
abbrev D.non : D := .raw .non
abbrev D.loc (a : Addr) : D := .raw (.ref a)
abbrev Ex := Evl.Ex
mutual
inductive Rep (K : PySem.W.Frag) (B : Hp) : V → D → Prop where
  | raw (v : V) : Rep K B v (.raw v)
  | tup {a : Addr} {xs : List V} {ds : List D} (h : SqT K B a xs) (r : Reps K B xs ds) : Rep K B (.ref a) (.tup ds)
  | lst {a : Addr} {xs : List V} {ds : List D} (h : B a = some (.lst xs)) (r : Reps K B xs ds) : Rep K B (.ref a) (.lst ds)
  | fz {a : Addr} {xs : List V} {ds : List D} (h : SqL K B a xs) (r : Reps K B xs ds) : Rep K B (.ref a) (.fz ds)
  | ins {a C dx : Addr} {fs : List (Str × V)} {gs : List (Str × D)} (h : B a = some (.ins C dx fs)) (r : RepF K B fs gs) : Rep K B (.ref a) (.ins C gs)
inductive Reps (K : PySem.W.Frag) (B : Hp) : List V → List D → Prop where
  | nil : Reps K B [] []
  | cons {v : V} {d : D} {vs : List V} {ds : List D} (h : Rep K B v d) (r : Reps K B vs ds) : Reps K B (v :: vs) (d :: ds)
inductive RepF (K : PySem.W.Frag) (B : Hp) : List (Str × V) → List (Str × D) → Prop where
  | nil : RepF K B [] []
  | cons {f : Str} {v : V} {d : D} {vs : List (Str × V)} {ds : List (Str × D)} (h : Rep K B v d) (r : RepF K B vs ds) : RepF K B ((f, v) :: vs) ((f, d) :: ds)
end
section
variable {K : PySem.W.Frag} {B B2 H H2 : Hp}
mutual
theorem Rep.mono (e : Ex B B2) : ∀ {v : V} {d : D}, Rep K B v d → Rep K B2 v d
  | _, _, .raw v => .raw v
  | _, _, .tup h r => .tup (Evl.ex_t e h) (Reps.mono e r)
  | _, _, .lst h r => .lst (e _ _ h) (Reps.mono e r)
  | _, _, .fz h r => .fz (Evl.ex_l e h) (Reps.mono e r)
  | _, _, .ins h r => .ins (e _ _ h) (RepF.mono e r)
theorem Reps.mono (e : Ex B B2) : ∀ {vs : List V} {ds : List D}, Reps K B vs ds → Reps K B2 vs ds
  | _, _, .nil => .nil
  | _, _, .cons h r => .cons (Rep.mono e h) (Reps.mono e r)
theorem RepF.mono (e : Ex B B2) : ∀ {vs : List (Str × V)} {ds : List (Str × D)}, RepF K B vs ds → RepF K B2 vs ds
  | _, _, .nil => .nil
  | _, _, .cons h r => .cons (Rep.mono e h) (RepF.mono e r)
end
theorem Reps.length : ∀ {vs : List V} {ds : List D}, Reps K B vs ds → vs.length = ds.length
  | _, _, .nil => rfl
  | _, _, .cons _ r => by rw [List.length_cons, List.length_cons, Reps.length r]
theorem Reps.get : ∀ {vs : List V} {ds : List D} {i : Nat} {d : D}, Reps K B vs ds → ds[i]? = some d → ∃ v, vs[i]? = some v ∧ Rep K B v d
  | _, _, _, _, .nil, h => by simp at h
  | _, _, 0, _, .cons h _, e => ⟨_, rfl, by simp at e; subst e; exact h⟩
  | _, _, i + 1, _, .cons _ r, e => by
    obtain ⟨v, h1, h2⟩ := Reps.get (i := i) r (by simpa using e)
    exact ⟨v, by simpa using h1, h2⟩
theorem Reps.get' : ∀ {vs : List V} {ds : List D} {i : Nat} {v : V}, Reps K B vs ds → vs[i]? = some v → ∃ d, ds[i]? = some d ∧ Rep K B v d
  | _, _, _, _, .nil, h => by simp at h
  | _, _, 0, _, .cons h _, e => ⟨_, rfl, by simp at e; subst e; exact h⟩
  | _, _, i + 1, _, .cons _ r, e => by
    obtain ⟨v, h1, h2⟩ := Reps.get' (i := i) r (by simpa using e)
    exact ⟨v, by simpa using h1, h2⟩
theorem Reps.append : ∀ {vs ws : List V} {ds es : List D}, Reps K B vs ds → Reps K B ws es → Reps K B (vs ++ ws) (ds ++ es)
  | _, _, _, _, .nil, s => s
  | _, _, _, _, .cons h r, s => .cons h (Reps.append r s)
theorem Reps.set : ∀ {vs : List V} {ds : List D} {v : V} {d : D} (i : Nat), Reps K B vs ds → Rep K B v d → Reps K B (vs.set i v) (ds.set i d)
  | _, _, _, _, _, .nil, _ => .nil
  | _, _, _, _, 0, .cons _ r, h => .cons h r
  | _, _, _, _, i + 1, .cons g r, h => .cons g (Reps.set i r h)
theorem Reps.take : ∀ {vs : List V} {ds : List D} (n : Nat), Reps K B vs ds → Reps K B (vs.take n) (ds.take n)
  | _, _, 0, _ => by simp; exact .nil
  | _, _, n + 1, .nil => .nil
  | _, _, n + 1, .cons h r => .cons h (Reps.take n r)
theorem Reps.drop : ∀ {vs : List V} {ds : List D} (n : Nat), Reps K B vs ds → Reps K B (vs.drop n) (ds.drop n)
  | _, _, 0, r => r
  | _, _, n + 1, .nil => .nil
  | _, _, n + 1, .cons h r => Reps.drop n r
theorem Reps.raws : ∀ (vs : List V), Reps K B vs (vs.map D.raw)
  | [] => .nil
  | v :: vs => .cons (.raw v) (Reps.raws vs)
/-- data that are plain are the values -/
theorem Reps.unraw : ∀ {ws vs : List V}, Reps K B ws (vs.map D.raw) → ws = vs
  | _, [], .nil => rfl
  | _, v :: vs, .cons h r => by
    cases h
    rw [Reps.unraw r]
theorem RepF.length : ∀ {vs : List (Str × V)} {ds : List (Str × D)}, RepF K B vs ds → vs.length = ds.length
  | _, _, .nil => rfl
  | _, _, .cons _ r => by rw [List.length_cons, List.length_cons, RepF.length r]
theorem RepF.look : ∀ {vs : List (Str × V)} {ds : List (Str × D)} {f : Str} {d : D}, RepF K B vs ds → ds.lookup f = some d → ∃ v, vs.lookup f = some v ∧ Rep K B v d
  | _, _, _, _, .nil, h => by simp at h
  | _, _, f, d, .cons (f := g) h r, e => by
    rw [List.lookup_cons] at e ⊢
    cases q : (f == g) with
    | true =>
      rw [q] at e
      simp at e
      subst e
      exact ⟨_, rfl, h⟩
    | false =>
      rw [q] at e
      exact RepF.look r (by simpa using e)
theorem RepF.look0 : ∀ {vs : List (Str × V)} {ds : List (Str × D)} {f : Str}, RepF K B vs ds → ds.lookup f = none → vs.lookup f = none
  | _, _, _, .nil, _ => rfl
  | _, _, f, .cons (f := g) h r, e => by
    rw [List.lookup_cons] at e ⊢
    cases q : (f == g) with
    | true => rw [q] at e; simp at e
    | false =>
      rw [q] at e
      exact RepF.look0 r (by simpa using e)
/-- a field put -/
def putD (f : Str) (d : D) : List (Str × D) → List (Str × D)
  | [] => [(f, d)]
  | (g, x) :: r => if g = f then (g, d) :: r else (g, x) :: putD f d r
theorem RepF.put : ∀ {vs : List (Str × V)} {ds : List (Str × D)} {f : Str} {v : V} {d : D}, RepF K B vs ds → Rep K B v d → RepF K B (putF f v vs) (putD f d ds)
  | _, _, _, _, _, .nil, h => .cons h .nil
  | _, _, f, v, d, .cons (f := g) (v := x) (vs := vs) (ds := ds) q r, h => by
    show RepF K B (if g = f then (g, v) :: vs else (g, x) :: putF f v vs) (if g = f then (g, d) :: ds else _)
    by_cases e : g = f
    · rw [if_pos e, if_pos e]
      exact .cons h r
    · rw [if_neg e, if_neg e]
      exact .cons q (RepF.put r h)
end
/-! ### what is owned: lists and instances that still change -/
inductive Own where
  | lst (ds : List D) | ins (C : Addr) (fs : List (Str × D))
abbrev Store := List (Addr × Own)
def OwnAt (K : PySem.W.Frag) (B H : Hp) (a : Addr) : Own → Prop
  | .lst ds => ∃ vs, H a = some (.lst vs) ∧ Reps K B vs ds
  | .ins C fs => ∃ dx vs, H a = some (.ins C dx vs) ∧ RepF K B vs fs
structure Hs (K : PySem.W.Frag) (B H : Hp) (O : Store) : Prop where
  ex : Ex B H
  own : ∀ p ∈ O, B p.1 = none ∧ OwnAt K B H p.1 p.2
  nd : (O.map Prod.fst).Nodup
section
variable {K : PySem.W.Frag} {B B2 H H2 : Hp} {O F : Store}
theorem OwnAt.mono {a : Addr} {o : Own} (e : Ex B B2) (eq : H2 a = H a) (h : OwnAt K B H a o) : OwnAt K B2 H2 a o := by
  cases o with
  | lst ds =>
    obtain ⟨vs, h1, r⟩ := h
    exact ⟨vs, by rw [eq]; exact h1, r.mono e⟩
  | ins C fs =>
    obtain ⟨dx, vs, h1, r⟩ := h
    exact ⟨dx, vs, by rw [eq]; exact h1, r.mono e⟩
theorem OwnAt.some {a : Addr} {o : Own} (h : OwnAt K B H a o) : ∃ u, H a = some u := by
  cases o with
  | lst ds => obtain ⟨vs, h1, _⟩ := h; exact ⟨_, h1⟩
  | ins C fs => obtain ⟨dx, vs, h1, _⟩ := h; exact ⟨_, h1⟩
/-- a new object, known from now on -/
theorem Hs.new {p : Addr} {o : HO} (h : Hs K B H O) (hp : H p = none) : Hs K (upd B p o) (upd H p o) O ∧ Ex B (upd B p o) := by
  have hb : B p = none := by
    cases q : B p with
    | none => rfl
    | some u => have := h.ex p u q; rw [hp] at this; cases this
  have eb : Ex B (upd B p o) := Evl.Ex.new hb
  refine ⟨⟨fun a u e => ?_, fun q hq => ?_, h.nd⟩, eb⟩
  · by_cases ha : a = p
    · subst ha
      rw [upd_same] at e ⊢
      exact e
    · rw [upd_ne ha] at e ⊢
      exact h.ex a u e
  · obtain ⟨h1, h2⟩ := h.own q hq
    obtain ⟨u, hu⟩ := h2.some
    have hne : q.1 ≠ p := ne_of_none hu hp
    exact ⟨by rw [upd_ne hne]; exact h1, h2.mono eb (upd_ne hne)⟩
/-- a new object, owned -/
theorem Hs.newOwn {p : Addr} {o : HO} {w : Own} (h : Hs K B H O) (hp : H p = none) (hw : OwnAt K B (upd H p o) p w) : Hs K B (upd H p o) ((p, w) :: O) := by
  have hb : B p = none := by
    cases q : B p with
    | none => rfl
    | some u => have := h.ex p u q; rw [hp] at this; cases this
  refine ⟨fun a u e => by rw [upd_ne (ne_of_none e hb)]; exact h.ex a u e, fun q hq => ?_, ?_⟩
  · rcases List.mem_cons.mp hq with rfl | hq
    · exact ⟨hb, hw⟩
    · obtain ⟨h1, h2⟩ := h.own q hq
      obtain ⟨u, hu⟩ := h2.some
      exact ⟨h1, h2.mono (Evl.Ex.refl B) (upd_ne (ne_of_none hu hp))⟩
  · refine List.nodup_cons.mpr ⟨fun hm => ?_, h.nd⟩
    obtain ⟨q, hq, e⟩ := List.mem_map.mp hm
    obtain ⟨u, hu⟩ := (h.own q hq).2.some
    rw [e, hp] at hu
    cases hu
/-- an object that is neither known nor owned may come or change -/
theorem Hs.other {p : Addr} {o : HO} (h : Hs K B H O) (hp : H p = none) : Hs K B (upd H p o) O := by
  have hb : B p = none := by
    cases q : B p with
    | none => rfl
    | some u => have := h.ex p u q; rw [hp] at this; cases this
  refine ⟨fun a u e => by rw [upd_ne (ne_of_none e hb)]; exact h.ex a u e, fun q hq => ?_, h.nd⟩
  obtain ⟨h1, h2⟩ := h.own q hq
  obtain ⟨u, hu⟩ := h2.some
  exact ⟨h1, h2.mono (Evl.Ex.refl B) (upd_ne (ne_of_none hu hp))⟩
theorem Hs.tail {q : Addr × Own} (h : Hs K B H (q :: O)) : Hs K B H O := ⟨h.ex, fun p hp => h.own p (List.mem_cons_of_mem _ hp), (List.nodup_cons.mp h.nd).2⟩
theorem Hs.dropL : ∀ {O : Store}, Hs K B H (O ++ F) → Hs K B H F
  | [], h => h
  | _ :: O, h => Hs.dropL (O := O) h.tail
/-- one of the owned, taken out: (a, w) stands in O, O' is the rest -/
inductive Pick (a : Addr) (w : Own) : Store → Store → Prop where
  | here {O : Store} : Pick a w ((a, w) :: O) O
  | there {q : Addr × Own} {O O' : Store} (h : Pick a w O O') : Pick a w (q :: O) (q :: O')
theorem Pick.perm {a : Addr} {w : Own} : ∀ {O O' : Store}, Pick a w O O' → O.Perm ((a, w) :: O')
  | _, _, .here => List.Perm.refl _
  | _, _, .there h => (List.Perm.cons _ (Pick.perm h)).trans (List.Perm.swap _ _ _)
theorem Hs.perm {O' : Store} (h : Hs K B H O) (p : O.Perm O') : Hs K B H O' := ⟨h.ex, fun q hq => h.own q (p.mem_iff.mpr hq), (p.map Prod.fst).nodup_iff.mp h.nd⟩
/-- put back with another content -/
inductive Put (a : Addr) (w w' : Own) : Store → Store → Prop where
  | here {O : Store} : Put a w w' ((a, w) :: O) ((a, w') :: O)
  | there {q : Addr × Own} {O O' : Store} (h : Put a w w' O O') : Put a w w' (q :: O) (q :: O')
theorem Put.pick {a : Addr} {w w' : Own} : ∀ {O O' : Store}, Put a w w' O O' → ∃ R, O.Perm ((a, w) :: R) ∧ O'.Perm ((a, w') :: R)
  | _, _, .here => ⟨_, List.Perm.refl _, List.Perm.refl _⟩
  | _, _, .there h => by
    obtain ⟨R, h1, h2⟩ := Put.pick h
    exact ⟨_ :: R, (List.Perm.cons _ h1).trans (List.Perm.swap _ _ _), (List.Perm.cons _ h2).trans (List.Perm.swap _ _ _)⟩
theorem Put.appR {a : Addr} {w w' : Own} : ∀ {O O' : Store}, Put a w w' O O' → Put a w w' (O ++ F) (O' ++ F)
  | _, _, .here => .here
  | _, _, .there h => .there (Put.appR h)
theorem Put.mem {a : Addr} {w w' : Own} : ∀ {O O' : Store}, Put a w w' O O' → (a, w) ∈ O
  | _, _, .here => List.mem_cons_self
  | _, _, .there h => List.mem_cons_of_mem _ (Put.mem h)
theorem Hs.write {a : Addr} {w w' : Own} {O' : Store} {o : HO} (h : Hs K B H O) (p : Put a w w' O O') (hw : OwnAt K B (upd H a o) a w') : Hs K B (upd H a o) O' := by
  obtain ⟨R, p1, p2⟩ := p.pick
  have g := h.perm p1
  have hb : B a = none := (g.own _ List.mem_cons_self).1
  refine Hs.perm ?_ p2.symm
  refine ⟨fun c u e => by rw [upd_ne (ne_of_none e hb)]; exact h.ex c u e, fun q hq => ?_, g.nd⟩
  rcases List.mem_cons.mp hq with rfl | hq
  · exact ⟨hb, hw⟩
  · obtain ⟨h1, h2⟩ := g.own q (List.mem_cons_of_mem _ hq)
    have hne : q.1 ≠ a := fun e => (List.nodup_cons.mp g.nd).1 (by rw [← e]; exact List.mem_map.mpr ⟨q, hq, rfl⟩)
    exact ⟨h1, h2.mono (Evl.Ex.refl B) (upd_ne hne)⟩
/-- known from now on -/
theorem Hs.freeze {a : Addr} {w : Own} {o : HO} (h : Hs K B H ((a, w) :: O)) (ho : H a = some o) : Hs K (upd B a o) H O ∧ Ex B (upd B a o) := by
  have hb : B a = none := (h.own _ List.mem_cons_self).1
  have eb : Ex B (upd B a o) := Evl.Ex.new hb
  refine ⟨⟨fun c u e => ?_, fun q hq => ?_, h.tail.nd⟩, eb⟩
  · by_cases hc : c = a
    · subst hc
      rw [upd_same] at e
      rw [ho]
      exact e
    · rw [upd_ne hc] at e
      exact h.ex c u e
  · obtain ⟨h1, h2⟩ := h.own q (List.mem_cons_of_mem _ hq)
    have hne : q.1 ≠ a := fun e => (List.nodup_cons.mp h.nd).1 (by rw [← e]; exact List.mem_map.mpr ⟨q, hq, rfl⟩)
    exact ⟨by rw [upd_ne hne]; exact h1, h2.mono eb rfl⟩
end
/-! ### the names' data -/
abbrev Rho := List (Option D)
structure EnvR (K : PySem.W.Frag) (B : Hp) (σ : L2.St) (ρ : Rho) : Prop where
  len : σ.length = ρ.length
  get : ∀ (i : Nat) (d : D), ρ[i]? = some (some d) → ∃ v, σ[i]? = some (some v) ∧ Rep K B v d
section
variable {K : PySem.W.Frag} {B B2 : Hp} {σ : L2.St} {ρ : Rho}
theorem EnvR.mono (h : EnvR K B σ ρ) (e : Ex B B2) : EnvR K B2 σ ρ := ⟨h.len, fun i d q => by
  obtain ⟨v, h1, h2⟩ := h.get i d q
  exact ⟨v, h1, h2.mono e⟩⟩
theorem EnvR.set {v : V} {d : D} (h : EnvR K B σ ρ) (i : Nat) (r : Rep K B v d) : EnvR K B (σ.set i (some v)) (ρ.set i (some d)) := by
  refine ⟨by rw [List.length_set, List.length_set, h.len], fun j e q => ?_⟩
  by_cases hij : i = j
  · subst hij
    by_cases hl : i < ρ.length
    · rw [List.getElem?_set_self hl] at q
      simp at q
      subst q
      exact ⟨v, by rw [List.getElem?_set_self (by rw [h.len]; exact hl)], r⟩
    · rw [List.getElem?_eq_none (by rw [List.length_set]; omega)] at q
      cases q
  · rw [List.getElem?_set_ne hij] at q
    obtain ⟨w, h1, h2⟩ := h.get j e q
    exact ⟨w, by rw [List.getElem?_set_ne hij]; exact h1, h2⟩
/-- a name whose value is forgotten -/
theorem EnvR.forget (h : EnvR K B σ ρ) (i : Nat) : EnvR K B σ (ρ.set i none) := by
  refine ⟨by rw [List.length_set, h.len], fun j e q => ?_⟩
  by_cases hij : i = j
  · subst hij
    by_cases hl : i < ρ.length
    · rw [List.getElem?_set_self hl] at q
      cases q
    · rw [List.getElem?_eq_none (by rw [List.length_set]; omega)] at q
      cases q
  · rw [List.getElem?_set_ne hij] at q
    exact h.get j e q
/-- less is known -/
def Sub (ρ' ρ : Rho) : Prop := ρ'.length = ρ.length ∧ ∀ (i : Nat) (d : D), ρ'[i]? = some (some d) → ρ[i]? = some (some d)
theorem Sub.nil : Sub [] [] := ⟨rfl, fun _ _ h => h⟩
theorem Sub.same {x : Option D} {r' r : Rho} (h : Sub r' r) : Sub (x :: r') (x :: r) := ⟨by rw [List.length_cons, List.length_cons, h.1], fun i d q => match i, q with
  | 0, q => q
  | i + 1, q => h.2 i d q⟩
theorem Sub.drop {x : Option D} {r' r : Rho} (h : Sub r' r) : Sub (none :: r') (x :: r) := ⟨by rw [List.length_cons, List.length_cons, h.1], fun i d q => match i, q with
  | 0, q => nomatch q
  | i + 1, q => h.2 i d q⟩
theorem EnvR.sub {ρ' : Rho} (h : EnvR K B σ ρ) (s : Sub ρ' ρ) : EnvR K B σ ρ' := ⟨by rw [h.len, s.1], fun i d q => h.get i d (s.2 i d q)⟩
def wipeR (ρ : Rho) : List Nat → Rho
  | [] => ρ
  | v :: vs => (wipeR ρ vs).set v none
theorem EnvR.clear (h : EnvR K B σ ρ) (i : Nat) : EnvR K B (σ.set i none) (ρ.set i none) := by
  refine ⟨by rw [List.length_set, List.length_set, h.len], fun j e q => ?_⟩
  by_cases hij : i = j
  · subst hij
    by_cases hl : i < ρ.length
    · rw [List.getElem?_set_self hl] at q
      cases q
    · rw [List.getElem?_eq_none (by rw [List.length_set]; omega)] at q
      cases q
  · rw [List.getElem?_set_ne hij] at q
    obtain ⟨w, h1, h2⟩ := h.get j e q
    exact ⟨w, by rw [List.getElem?_set_ne hij]; exact h1, h2⟩
theorem EnvR.wipe (h : EnvR K B σ ρ) : ∀ (vs : List Nat), EnvR K B (L2.wipe σ vs) (wipeR ρ vs)
  | [] => h
  | v :: vs => (EnvR.wipe h vs).clear v
/-- at a def's entry -/
def rho0 (n : Nat) (ds : List D) : Rho := ds.map some ++ List.replicate (n - ds.length) none
theorem envR_start {N : List Str} {vs : List V} {ds : List D} (r : Reps K B vs ds) : EnvR K B (start N vs) (rho0 N.length ds) := by
  refine ⟨?_, fun i d q => ?_⟩
  · show (vs.map some ++ List.replicate (N.length - vs.length) none).length = (ds.map some ++ List.replicate (N.length - ds.length) none).length
    rw [List.length_append, List.length_append, List.length_map, List.length_map, List.length_replicate, List.length_replicate, r.length]
  · have q' : (ds.map some ++ List.replicate (N.length - ds.length) none)[i]? = some (some d) := q
    by_cases hi : i < ds.length
    · rw [List.getElem?_append_left (by rw [List.length_map]; exact hi), List.getElem?_map] at q'
      cases e : ds[i]? with
      | none => rw [e] at q'; cases q'
      | some d' =>
        rw [e] at q'
        simp at q'
        subst q'
        obtain ⟨v, h1, h2⟩ := r.get e
        refine ⟨v, ?_, h2⟩
        show (vs.map some ++ List.replicate (N.length - vs.length) none)[i]? = some (some v)
        rw [List.getElem?_append_left (by rw [List.length_map, r.length]; exact hi), List.getElem?_map, h1]
        rfl
    · rw [List.getElem?_append_right (by rw [List.length_map]; omega), List.getElem?_replicate] at q'
      split at q' <;> simp at q'
end
end G
namespace G
open PySem L2
/-! ### readings over data -/
/-- what is wanted behind an expression -/
def Fin (K : PySem.W.Frag) (B : Hp) (F : Store) (P : D → Store → Prop) (Q : VK) : Prop := ∀ v d O' B2 H2, P d O' → Ex B B2 → Hs K B2 H2 (O' ++ F) → Rep K B2 v d → Q v H2
def wE (K : PySem.W.Frag) (te : TE) (ρ : Rho) (O : Store) (P : D → Store → Prop) : Prop :=
  ∀ F σ B H, EnvR K B σ ρ → Hs K B H (O ++ F) → ∀ Q : VK, Fin K B F P Q → te σ H Q
def FinT (K : PySem.W.Frag) (B : Hp) (F : Store) (P : Bool → Store → Prop) (Q : Bool → Hp → Prop) : Prop := ∀ b O' B2 H2, P b O' → Ex B B2 → Hs K B2 H2 (O' ++ F) → Q b H2
def wT (K : PySem.W.Frag) (tt : TT) (ρ : Rho) (O : Store) (P : Bool → Store → Prop) : Prop :=
  ∀ F σ B H, EnvR K B σ ρ → Hs K B H (O ++ F) → ∀ Q : Bool → Hp → Prop, FinT K B F P Q → tt σ H Q
def FinA (K : PySem.W.Frag) (B : Hp) (F : Store) (P : List D → Store → Prop) (Q : List V → Hp → Prop) : Prop := ∀ vs ds O' B2 H2, P ds O' → Ex B B2 → Hs K B2 H2 (O' ++ F) → Reps K B2 vs ds → Q vs H2
def wA (K : PySem.W.Frag) (ta : TA) (ρ : Rho) (O : Store) (P : List D → Store → Prop) : Prop :=
  ∀ F σ B H, EnvR K B σ ρ → Hs K B H (O ++ F) → ∀ Q : List V → Hp → Prop, FinA K B F P Q → ta σ H Q
/-- two-place, one-place operations, calls of built-ins, by data -/
def wR (K : PySem.W.Frag) (r : R2) (x y : D) (O : Store) (P : D → Store → Prop) : Prop :=
  ∀ F v u B H, Rep K B v x → Rep K B u y → Hs K B H (O ++ F) → ∀ Q : VK, Fin K B F P Q → r v u H Q
def wU (K : PySem.W.Frag) (r : V → Hp → VK → Prop) (x : D) (O : Store) (P : D → Store → Prop) : Prop :=
  ∀ F v B H, Rep K B v x → Hs K B H (O ++ F) → ∀ Q : VK, Fin K B F P Q → r v H Q
def wC (K : PySem.W.Frag) (r : List V → Hp → VK → Prop) (xs : List D) (O : Store) (P : D → Store → Prop) : Prop :=
  ∀ F vs B H, Reps K B vs xs → Hs K B H (O ++ F) → ∀ Q : VK, Fin K B F P Q → r vs H Q
/-- a statement's ways out -/
inductive Out where
  | nx (ρ : Rho) | ret (d : D) | bk (ρ : Rho) | ct (ρ : Rho)
def OutOk (K : PySem.W.Frag) (Dn : Ends) (B : Hp) (H : Hp) : Out → Prop
  | .nx ρ => ∀ σ, EnvR K B σ ρ → Dn.nx σ H
  | .ret d => ∀ v, Rep K B v d → Dn.rt v H
  | .bk ρ => ∀ σ, EnvR K B σ ρ → Dn.bk σ H
  | .ct ρ => ∀ σ, EnvR K B σ ρ → Dn.ct σ H
def FinS (K : PySem.W.Frag) (B : Hp) (F : Store) (P : Out → Store → Prop) (Dn : Ends) : Prop := ∀ o O' B2 H2, P o O' → Ex B B2 → Hs K B2 H2 (O' ++ F) → OutOk K Dn B2 H2 o
def wS (K : PySem.W.Frag) (ts : TS) (ρ : Rho) (O : Store) (P : Out → Store → Prop) : Prop :=
  ∀ F σ B H, EnvR K B σ ρ → Hs K B H (O ++ F) → ∀ Dn : Ends, FinS K B F P Dn → ts Dn σ H
section
variable {K : PySem.W.Frag} {ρ : Rho} {O O1 : Store} {P : D → Store → Prop} {ta tb te : TE}
theorem Fin.ex {B B2 : Hp} {F : Store} {Q : VK} (h : Fin K B F P Q) (e : Ex B B2) : Fin K B2 F P Q := fun v d O' B3 H3 p e3 => h v d O' B3 H3 p (e.trans e3)
theorem FinT.ex {B B2 : Hp} {F : Store} {P : Bool → Store → Prop} {Q : Bool → Hp → Prop} (h : FinT K B F P Q) (e : Ex B B2) : FinT K B2 F P Q := fun b O' B3 H3 p e3 => h b O' B3 H3 p (e.trans e3)
theorem FinA.ex {B B2 : Hp} {F : Store} {P : List D → Store → Prop} {Q : List V → Hp → Prop} (h : FinA K B F P Q) (e : Ex B B2) : FinA K B2 F P Q := fun v d O' B3 H3 p e3 => h v d O' B3 H3 p (e.trans e3)
theorem FinS.ex {B B2 : Hp} {F : Store} {P : Out → Store → Prop} {Dn : Ends} (h : FinS K B F P Dn) (e : Ex B B2) : FinS K B2 F P Dn := fun o O' B3 H3 p e3 => h o O' B3 H3 p (e.trans e3)
theorem Fin.here {B H : Hp} {F : Store} {Q : VK} {v : V} {d : D} {O : Store} (h : Fin K B F P Q) (hs : Hs K B H (O ++ F)) (r : Rep K B v d) (p : P d O) : Q v H := h v d O B H p (Evl.Ex.refl B) hs r
/-! ### expressions -/
theorem e_var {i : Nat} {d : D} (h : ρ[i]? = some (some d)) (p : P d O) : wE K (tVar i) ρ O P := fun F σ B H e hs Q q => by
  obtain ⟨v, h1, r⟩ := e.get i d h
  exact ⟨v, h1, q.here hs r p⟩
theorem e_c {v : V} (p : P (.raw v) O) : wE K (tC v) ρ O P := fun F σ B H e hs Q q => q.here hs (.raw v) p
theorem e_op {r : R2} (h : wE K ta ρ O fun x O1 => wE K tb ρ O1 fun y O2 => wR K r x y O2 P) : wE K (tOp r ta tb) ρ O P := fun F σ B H e hs Q q =>
  h F σ B H e hs _ fun v x O1 B1 H1 p1 e1 hs1 rx => p1 F σ B1 H1 (e.mono e1) hs1 _ fun u y O2 B2 H2 p2 e2 hs2 ry => p2 F v u B2 H2 (rx.mono e2) ry hs2 Q (q.ex (e1.trans e2))
theorem e_un {r : V → Hp → VK → Prop} (h : wE K ta ρ O fun x O1 => wU K r x O1 P) : wE K (tUn r ta) ρ O P := fun F σ B H e hs Q q =>
  h F σ B H e hs _ fun v x O1 B1 H1 p1 e1 hs1 rx => p1 F v B1 H1 rx hs1 Q (q.ex e1)
theorem e_cb {r : List V → Hp → VK → Prop} {t : TA} (h : wA K t ρ O fun ds O1 => wC K r ds O1 P) : wE K (tCB r t) ρ O P := fun F σ B H e hs Q q =>
  h F σ B H e hs _ fun vs ds O1 B1 H1 p1 e1 hs1 rs => p1 F vs B1 H1 rs hs1 Q (q.ex e1)
theorem a_nil {P : List D → Store → Prop} (p : P [] O) : wA K tNil ρ O P := fun F σ B H e hs Q q => q [] [] O B H p (Evl.Ex.refl B) hs .nil
theorem a_cons {tr : TA} {P : List D → Store → Prop} (h : wE K ta ρ O fun x O1 => wA K tr ρ O1 fun ds O2 => P (x :: ds) O2) : wA K (tCons ta tr) ρ O P := fun F σ B H e hs Q q =>
  h F σ B H e hs _ fun v x O1 B1 H1 p1 e1 hs1 rx => p1 F σ B1 H1 (e.mono e1) hs1 _ fun vs ds O2 B2 H2 p2 e2 hs2 rs => q (v :: vs) (x :: ds) O2 B2 H2 p2 (e1.trans e2) hs2 (.cons (rx.mono e2) rs)
theorem e_tup {t : TA} (h : wA K t ρ O fun ds O1 => ds.length ≤ 100000 ∧ P (.tup ds) O1) : wE K (tTup t) ρ O P := fun F σ B H e hs Q q =>
  h F σ B H e hs _ fun vs ds O1 B1 H1 p1 e1 hs1 rs => ⟨Evl.sz_of (by rw [rs.length]; exact p1.1), fun p hp => by
    obtain ⟨hs2, e2⟩ := hs1.new (o := .tup vs) hp
    exact q _ _ O1 _ _ p1.2 (e1.trans e2) hs2 (.tup (Evl.st_of upd_same) (rs.mono e2))⟩
/-- a list that never changes -/
theorem e_lst {t : TA} (h : wA K t ρ O fun ds O1 => ds.length ≤ 100000 ∧ P (.lst ds) O1) : wE K (tLst t) ρ O P := fun F σ B H e hs Q q =>
  h F σ B H e hs _ fun vs ds O1 B1 H1 p1 e1 hs1 rs => ⟨Evl.sz_of (by rw [rs.length]; exact p1.1), fun p hp => by
    obtain ⟨hs2, e2⟩ := hs1.new (o := .lst vs) hp
    exact q _ _ O1 _ _ p1.2 (e1.trans e2) hs2 (.lst upd_same (rs.mono e2))⟩
/-- a list that will change -/
theorem e_lstO {t : TA} (h : wA K t ρ O fun ds O1 => ds.length ≤ 100000 ∧ ∀ p, P (.loc p) ((p, .lst ds) :: O1)) : wE K (tLst t) ρ O P := fun F σ B H e hs Q q =>
  h F σ B H e hs _ fun vs ds O1 B1 H1 p1 e1 hs1 rs => ⟨Evl.sz_of (by rw [rs.length]; exact p1.1), fun p hp => by
    refine q _ _ _ _ _ (p1.2 p) e1 (hs1.newOwn (w := .lst ds) hp ⟨vs, upd_same, rs⟩) (.raw _)⟩
theorem e_fld {f : Str} (h : wE K ta ρ O fun x O1 => ∃ C fs d, x = .ins C fs ∧ Cls K C ∧ NoAttr K C f ∧ fs.lookup f = some d ∧ P d O1) : wE K (tFld K ta f) ρ O P := fun F σ B H e hs Q q =>
  h F σ B H e hs _ fun v x O1 B1 H1 p1 e1 hs1 rx => by
    obtain ⟨C, fs, d, rfl, hc, hn, hl, p⟩ := p1
    cases rx with
    | ins hb r =>
      obtain ⟨u, h1, h2⟩ := r.look hl
      exact ⟨_, C, _, _, u, rfl, hs1.ex _ _ hb, hc, hn, h1, (q.ex e1).here hs1 h2 p⟩
/-- a field of an owned instance -/
theorem e_fldO {f : Str} (h : wE K ta ρ O fun x O1 => ∃ a C fs d, x = .loc a ∧ (a, Own.ins C fs) ∈ O1 ∧ Cls K C ∧ NoAttr K C f ∧ fs.lookup f = some d ∧ P d O1) : wE K (tFld K ta f) ρ O P := fun F σ B H e hs Q q =>
  h F σ B H e hs _ fun v x O1 B1 H1 p1 e1 hs1 rx => by
    obtain ⟨a, C, fs, d, rfl, hm, hc, hn, hl, p⟩ := p1
    cases rx
    obtain ⟨dx, vs, h1, r⟩ := (hs1.own _ (List.mem_append_left _ hm)).2
    obtain ⟨u, h2, h3⟩ := r.look hl
    exact ⟨a, C, dx, vs, u, rfl, h1, hc, hn, h2, (q.ex e1).here hs1 h3 p⟩
theorem e_if {t : TT} (h : wT K t ρ O fun b O1 => (b = true → wE K ta ρ O1 P) ∧ (b = false → wE K tb ρ O1 P)) : wE K (tIf t ta tb) ρ O P := fun F σ B H e hs Q q =>
  h F σ B H e hs _ fun b O1 B1 H1 p1 e1 hs1 => by
    cases b with
    | true => exact (if_pos rfl : (if true = true then ta σ H1 Q else tb σ H1 Q) = _) ▸ p1.1 rfl F σ B1 H1 (e.mono e1) hs1 Q (q.ex e1)
    | false => exact (if_neg Bool.false_ne_true : (if false = true then ta σ H1 Q else tb σ H1 Q) = _) ▸ p1.2 rfl F σ B1 H1 (e.mono e1) hs1 Q (q.ex e1)
/-- a and b, a or b, not a, as values -/
theorem e_and (h : wE K ta ρ O fun x O1 => ∃ b, x = .bl b ∧ (b = true → wE K tb ρ O1 P) ∧ (b = false → P (.bl false) O1)) : wE K (tAndV ta tb) ρ O P := fun F σ B H e hs Q q =>
  h F σ B H e hs _ fun v x O1 B1 H1 p1 e1 hs1 rx => by
    obtain ⟨b, rfl, h1, h2⟩ := p1
    cases rx
    refine ⟨b, rfl, ?_⟩
    cases b with
    | true =>
      rw [if_pos rfl]
      exact h1 rfl F σ B1 H1 (e.mono e1) hs1 Q (q.ex e1)
    | false =>
      rw [if_neg Bool.false_ne_true]
      exact (q.ex e1).here hs1 (.raw _) (h2 rfl)
theorem e_or (h : wE K ta ρ O fun x O1 => ∃ b, x = .bl b ∧ (b = false → wE K tb ρ O1 P) ∧ (b = true → P (.bl true) O1)) : wE K (tOrV ta tb) ρ O P := fun F σ B H e hs Q q =>
  h F σ B H e hs _ fun v x O1 B1 H1 p1 e1 hs1 rx => by
    obtain ⟨b, rfl, h1, h2⟩ := p1
    cases rx
    refine ⟨b, rfl, ?_⟩
    cases b with
    | false =>
      rw [if_neg Bool.false_ne_true]
      exact h1 rfl F σ B1 H1 (e.mono e1) hs1 Q (q.ex e1)
    | true =>
      rw [if_pos rfl]
      exact (q.ex e1).here hs1 (.raw _) (h2 rfl)
theorem e_not (h : wE K ta ρ O fun x O1 => ∃ b, x = .bl b ∧ P (.bl (!b)) O1) : wE K (tNotV ta) ρ O P := fun F σ B H e hs Q q =>
  h F σ B H e hs _ fun v x O1 B1 H1 p1 e1 hs1 rx => by
    obtain ⟨b, rfl, p⟩ := p1
    cases rx
    exact ⟨b, rfl, (q.ex e1).here hs1 (.raw _) p⟩
theorem e_isN (h : wE K ta ρ O fun x O1 => (x = .non → P (.bl true) O1) ∧ (x ≠ .non → P (.bl false) O1)) : wE K (tIsN ta) ρ O P := fun F σ B H e hs Q q =>
  h F σ B H e hs _ fun v x O1 B1 H1 p1 e1 hs1 rx => by
    by_cases hx : x = .non
    · subst hx
      cases rx
      have e0 : decide ((V.non : V) = .non) = true := rfl
      exact (q.ex e1).here hs1 (.raw _) (p1.1 rfl)
    · have hv : v ≠ .non := fun z => by
        subst z
        cases rx
        exact hx rfl
      rw [decide_eq_false hv]
      exact (q.ex e1).here hs1 (.raw _) (p1.2 hx)
/-! ### tests -/
variable {PT : Bool → Store → Prop} {t u : TT}
theorem t_test (h : wE K te ρ O fun x O1 => ∃ b, x = .bl b ∧ PT b O1) : wT K (tTest te) ρ O PT := fun F σ B H e hs Q q =>
  h F σ B H e hs _ fun v x O1 B1 H1 p1 e1 hs1 rx => by
    obtain ⟨b, rfl, p⟩ := p1
    cases rx
    exact ⟨b, rfl, q b O1 B1 H1 p e1 hs1⟩
theorem t_B (h : wE K te ρ O fun x O1 => ∃ b, x = .bl b ∧ PT b O1) : wT K (tB te) ρ O PT := fun F σ B H e hs Q q =>
  h F σ B H e hs _ fun v x O1 B1 H1 p1 e1 hs1 rx => by
    obtain ⟨b, rfl, p⟩ := p1
    cases rx
    exact ⟨b, rfl, q b O1 B1 H1 p e1 hs1⟩
theorem t_and (h : wT K t ρ O fun b O1 => (b = true → wT K u ρ O1 PT) ∧ (b = false → PT false O1)) : wT K (tAnd t u) ρ O PT := fun F σ B H e hs Q q =>
  h F σ B H e hs _ fun b O1 B1 H1 p1 e1 hs1 => by
    cases b with
    | true =>
      rw [if_pos rfl]
      exact p1.1 rfl F σ B1 H1 (e.mono e1) hs1 Q (q.ex e1)
    | false =>
      rw [if_neg Bool.false_ne_true]
      exact q false O1 B1 H1 (p1.2 rfl) e1 hs1
theorem t_or (h : wT K t ρ O fun b O1 => (b = false → wT K u ρ O1 PT) ∧ (b = true → PT true O1)) : wT K (tOr t u) ρ O PT := fun F σ B H e hs Q q =>
  h F σ B H e hs _ fun b O1 B1 H1 p1 e1 hs1 => by
    cases b with
    | false =>
      rw [if_neg Bool.false_ne_true]
      exact p1.1 rfl F σ B1 H1 (e.mono e1) hs1 Q (q.ex e1)
    | true =>
      rw [if_pos rfl]
      exact q true O1 B1 H1 (p1.2 rfl) e1 hs1
theorem t_not (h : wT K t ρ O fun b O1 => PT (!b) O1) : wT K (tNot t) ρ O PT := fun F σ B H e hs Q q =>
  h F σ B H e hs _ fun b O1 B1 H1 p1 e1 hs1 => q (!b) O1 B1 H1 p1 e1 hs1
/-! ### operations on plain data -/
theorem r_rI0 {g : Int → Int → V} {i j : Int} (p : P (.raw (g i j)) O) : wR K (rI0 g) (.int i) (.int j) O P := fun F v u B H rx ry hs Q q => by
  cases rx; cases ry
  exact ⟨i, j, rfl, rfl, q.here hs (.raw _) p⟩
theorem r_rI {C : Int → Int → Prop} {g : Int → Int → V} {i j : Int} (hc : C i j) (p : P (.raw (g i j)) O) : wR K (rI C g) (.int i) (.int j) O P := fun F v u B H rx ry hs Q q => by
  cases rx; cases ry
  exact ⟨i, j, rfl, rfl, hc, q.here hs (.raw _) p⟩
theorem r_rU {g : Int → V} {i : Int} (p : P (.raw (g i)) O) : wU K (rU g) (.int i) O P := fun F v B H rx hs Q q => by
  cases rx
  exact ⟨i, rfl, q.here hs (.raw _) p⟩
theorem r_eq {x y : V} (hs : scal x y = true) (p : P (.bl (decide (x = y))) O) : wR K rEq (.raw x) (.raw y) O P := fun F v u B H rx ry h Q q => by
  cases rx; cases ry
  exact ⟨hs, q.here h (.raw _) p⟩
theorem r_ne {x y : V} (hs : scal x y = true) (p : P (.bl (!decide (x = y))) O) : wR K rNe (.raw x) (.raw y) O P := fun F v u B H rx ry h Q q => by
  cases rx; cases ry
  exact ⟨hs, q.here h (.raw _) p⟩
/-- an item of a list, of a tuple -/
theorem atI_map {α β : Type} {xs : List α} {ys : List β} {i : Int} {y : β} (hl : xs.length = ys.length) (h : atI ys i = some y) : ∃ n : Nat, ys[n]? = some y ∧ ∀ x, xs[n]? = some x → atI xs i = some x := by
  unfold atI at h ⊢
  rw [hl]
  cases e : ixN ys.length i with
  | none => rw [e] at h; cases h
  | some n =>
    rw [e] at h
    exact ⟨n, h, fun x hx => hx⟩
theorem r_ixT {ds : List D} {i : Int} {d : D} (h : atI ds i = some d) (p : P d O) : wR K (rIxT K) (.tup ds) (.int i) O P := fun F v u B H rx ry hs Q q => by
  cases ry
  cases rx with
  | tup hb r =>
    obtain ⟨n, h1, h2⟩ := atI_map r.length h
    obtain ⟨x, h3, h4⟩ := r.get h1
    exact ⟨_, _, i, x, rfl, rfl, Evl.ex_t hs.ex hb, h2 x h3, q.here hs h4 p⟩
theorem r_ixL {ds : List D} {i : Int} {d : D} (h : atI ds i = some d) (p : P d O) : wR K (rIxL K) (.lst ds) (.int i) O P := fun F v u B H rx ry hs Q q => by
  cases ry
  cases rx with
  | lst hb r =>
    obtain ⟨n, h1, h2⟩ := atI_map r.length h
    obtain ⟨x, h3, h4⟩ := r.get h1
    exact ⟨_, _, i, x, rfl, rfl, Evl.sq_of (hs.ex _ _ hb), h2 x h3, q.here hs h4 p⟩
theorem r_ixZ {ds : List D} {i : Int} {d : D} (h : atI ds i = some d) (p : P d O) : wR K (rIxL K) (.fz ds) (.int i) O P := fun F v u B H rx ry hs Q q => by
  cases ry
  cases rx with
  | fz hb r =>
    obtain ⟨n, h1, h2⟩ := atI_map r.length h
    obtain ⟨x, h3, h4⟩ := r.get h1
    exact ⟨_, _, i, x, rfl, rfl, Evl.ex_l hs.ex hb, h2 x h3, q.here hs h4 p⟩
/-- an item of an owned list -/
theorem r_ixO {a : Addr} {ds : List D} {i : Int} {d : D} (hm : (a, Own.lst ds) ∈ O) (h : atI ds i = some d) (p : P d O) : wR K (rIxL K) (.loc a) (.int i) O P := fun F v u B H rx ry hs Q q => by
  cases ry; cases rx
  obtain ⟨vs, hb, r⟩ := (hs.own _ (List.mem_append_left _ hm)).2
  obtain ⟨n, h1, h2⟩ := atI_map r.length h
  obtain ⟨x, h3, h4⟩ := r.get h1
  exact ⟨_, _, i, x, rfl, rfl, Evl.sq_of hb, h2 x h3, q.here hs h4 p⟩
theorem r_ixOr1 {x y : D} (h : wR K (rIxL K) x y O P) : wR K (rIx K) x y O P := fun F v u B H rx ry hs Q q => .inl (h F v u B H rx ry hs Q q)
theorem r_ixOr2 {x y : D} (h : wR K (rIxT K) x y O P) : wR K (rIx K) x y O P := fun F v u B H rx ry hs Q q => .inr (.inl (h F v u B H rx ry hs Q q))
/-! ### statements -/
variable {PS : Out → Store → Prop} {ts tu : TS}
def thenP (K : PySem.W.Frag) (tu : TS) (PS : Out → Store → Prop) : Out → Store → Prop
  | .nx ρ, O => wS K tu ρ O PS
  | .ret d, O => PS (.ret d) O
  | .bk ρ, O => PS (.bk ρ) O
  | .ct ρ, O => PS (.ct ρ) O
theorem s_seq (h : wS K ts ρ O (thenP K tu PS)) : wS K (tSeq ts tu) ρ O PS := fun F σ B H e hs Dn q =>
  h F σ B H e hs _ fun o O1 B1 H1 p1 e1 hs1 => by
    cases o with
    | nx ρ1 => exact fun σ1 r1 => p1 F σ1 B1 H1 r1 hs1 Dn (q.ex e1)
    | ret d => exact q (.ret d) O1 B1 H1 p1 e1 hs1
    | bk ρ1 => exact q (.bk ρ1) O1 B1 H1 p1 e1 hs1
    | ct ρ1 => exact q (.ct ρ1) O1 B1 H1 p1 e1 hs1
theorem s_next (p : PS (.nx ρ) O) : wS K tNext ρ O PS := fun F σ B H e hs Dn q => q (.nx ρ) O B H p (Evl.Ex.refl B) hs σ e
theorem s_break (p : PS (.bk ρ) O) : wS K tBreak ρ O PS := fun F σ B H e hs Dn q => q (.bk ρ) O B H p (Evl.Ex.refl B) hs σ e
theorem s_cont (p : PS (.ct ρ) O) : wS K tCont ρ O PS := fun F σ B H e hs Dn q => q (.ct ρ) O B H p (Evl.Ex.refl B) hs σ e
theorem s_asg {i : Nat} (h : wE K te ρ O fun d O1 => PS (.nx (ρ.set i (some d))) O1) : wS K (tAsg te (gName i)) ρ O PS := fun F σ B H e hs Dn q =>
  h F σ B H e hs _ fun v d O1 B1 H1 p1 e1 hs1 r => q _ O1 B1 H1 p1 e1 hs1 _ ((e.mono e1).set i r)
theorem s_drop (h : wE K te ρ O fun _ O1 => PS (.nx ρ) O1) : wS K (tDrop te) ρ O PS := fun F σ B H e hs Dn q =>
  h F σ B H e hs _ fun v d O1 B1 H1 p1 e1 hs1 r => q _ O1 B1 H1 p1 e1 hs1 _ (e.mono e1)
theorem s_ret (h : wE K te ρ O fun d O1 => PS (.ret d) O1) : wS K (tRet te) ρ O PS := fun F σ B H e hs Dn q =>
  h F σ B H e hs _ fun v d O1 B1 H1 p1 e1 hs1 r => q _ O1 B1 H1 p1 e1 hs1 v r
theorem s_retN (p : PS (.ret .non) O) : wS K tRetN ρ O PS := fun F σ B H e hs Dn q => q _ O B H p (Evl.Ex.refl B) hs _ (.raw _)
theorem s_if (h : wT K t ρ O fun b O1 => (b = true → wS K ts ρ O1 PS) ∧ (b = false → wS K tu ρ O1 PS)) : wS K (tIfS t ts tu) ρ O PS := fun F σ B H e hs Dn q =>
  h F σ B H e hs _ fun b O1 B1 H1 p1 e1 hs1 => by
    cases b with
    | true =>
      rw [if_pos rfl]
      exact p1.1 rfl F σ B1 H1 (e.mono e1) hs1 Dn (q.ex e1)
    | false =>
      rw [if_neg Bool.false_ne_true]
      exact p1.2 rfl F σ B1 H1 (e.mono e1) hs1 Dn (q.ex e1)
theorem s_fld {f : Str} {tv : TE} (h : wE K tv ρ O fun y O1 => wE K ta ρ O1 fun x O2 => ∃ a C fs O3, x = .loc a ∧ Put a (.ins C fs) (.ins C (putD f y fs)) O2 O3 ∧ Cls K C ∧ NoAttr K C f ∧ fs.length < 1000 ∧ PS (.nx ρ) O3) :
    wS K (sFld K ta tv f) ρ O PS := fun F σ B H e hs Dn q =>
  h F σ B H e hs _ fun v y O1 B1 H1 p1 e1 hs1 ry => p1 F σ B1 H1 (e.mono e1) hs1 _ fun u x O2 B2 H2 p2 e2 hs2 rx => by
    obtain ⟨a, C, fs, O3, rfl, hp, hc, hn, hl, p⟩ := p2
    cases rx
    obtain ⟨dx, vs, h1, r⟩ := (hs2.own _ (List.mem_append_left _ hp.mem)).2
    refine ⟨a, C, dx, vs, rfl, h1, hc, hn, by rw [r.length]; exact hl, ?_⟩
    have hs3 := hs2.write (o := .ins C dx (putF f v vs)) (hp.appR (F := F)) ⟨dx, _, upd_same, r.put (ry.mono e2)⟩
    exact q (.nx ρ) O3 B2 _ p (e1.trans e2) hs3 σ ((e.mono e1).mono e2)
/-- an owned list is known from now on: its slots hold a list that never changes -/
def frz (a : Addr) (ds : List D) : Rho → Rho := List.map fun o => match o with
  | some (.raw (.ref b)) => if b = a then some (.lst ds) else some (.loc b)
  | o => o
theorem s_freeze {a : Addr} {ds : List D} {O' : Store} (hp : Pick a (.lst ds) O O') (h : wS K ts (frz a ds ρ) O' PS) : wS K ts ρ O PS := fun F σ B H e hs Dn q => by
  have p1 : (O ++ F).Perm ((a, Own.lst ds) :: (O' ++ F)) := hp.perm.append_right F
  have hs1 := hs.perm p1
  obtain ⟨vs, h1, r⟩ := (hs1.own _ List.mem_cons_self).2
  obtain ⟨hs2, e2⟩ := hs1.freeze h1
  refine h F σ _ H ⟨by rw [e.len]; unfold frz; rw [List.length_map], fun i d hd => ?_⟩ hs2 Dn (q.ex e2)
  unfold frz at hd
  rw [List.getElem?_map] at hd
  cases hi : ρ[i]? with
  | none => rw [hi] at hd; cases hd
  | some o =>
    rw [hi] at hd
    cases o with
    | none => cases hd
    | some x =>
      obtain ⟨v, hv, rv⟩ := e.get i x hi
      refine ⟨v, hv, ?_⟩
      have done : d = x → Rep K (upd B a (.lst vs)) v d := fun z => by rw [z]; exact rv.mono e2
      cases x with
      | tup l => exact done (by simp at hd; exact hd.symm)
      | lst l => exact done (by simp at hd; exact hd.symm)
      | fz l => exact done (by simp at hd; exact hd.symm)
      | ins C l => exact done (by simp at hd; exact hd.symm)
      | raw w =>
        cases w with
        | ref b =>
          by_cases hb : b = a
          · subst hb
            simp at hd
            subst hd
            cases rv
            exact .lst upd_same (r.mono e2)
          · simp [hb] at hd
            exact done hd.symm
        | non => exact done (by simp at hd; exact hd.symm)
        | bl _ => exact done (by simp at hd; exact hd.symm)
        | int _ => exact done (by simp at hd; exact hd.symm)
        | str _ => exact done (by simp at hd; exact hd.symm)
        | byt _ => exact done (by simp at hd; exact hd.symm)
        | flt _ => exact done (by simp at hd; exact hd.symm)
        | ty _ => exact done (by simp at hd; exact hd.symm)
theorem s_frz {a : Addr} {ds : List D} {O' : Store} {ρ' : Rho} (hp : Pick a (.lst ds) O O') (hρ : frz a ds ρ = ρ') (h : wS K ts ρ' O' PS) : wS K ts ρ O PS := s_freeze hp (by rw [hρ]; exact h)
theorem s_rho {ρ' : Rho} (e : ρ = ρ') (h : wS K ts ρ' O PS) : wS K ts ρ O PS := by rw [e]; exact h
theorem s_sub {ρ' : Rho} (s : Sub ρ' ρ) (h : wS K ts ρ' O PS) : wS K ts ρ O PS := fun F σ B H e hs Dn q => h F σ B H (e.sub s) hs Dn q
theorem wS.mono {PS' : Out → Store → Prop} (h : wS K ts ρ O PS) (m : ∀ o O', PS o O' → PS' o O') : wS K ts ρ O PS' := fun F σ B H e hs Dn q => h F σ B H e hs Dn fun o O' B2 H2 p => q o O' B2 H2 (m _ _ p)
theorem wE.mono {P' : D → Store → Prop} (h : wE K te ρ O P) (m : ∀ d O', P d O' → P' d O') : wE K te ρ O P' := fun F σ B H e hs Q q => h F σ B H e hs Q fun v d O' B2 H2 p => q v d O' B2 H2 (m _ _ p)
/-- xs.append(e), xs owned -/
theorem e_append (h : wE K ta ρ O fun x O1 => ∃ a ds0, x = .loc a ∧ (a, Own.lst ds0) ∈ O1 ∧ wE K te ρ O1 fun y O2 => ∃ ds O3, ds.length < 100000 ∧ Put a (.lst ds) (.lst (ds ++ [y])) O2 O3 ∧ P .non O3) :
    wE K (tBM K "list" rAppend ta (tCons te tNil)) ρ O P := fun F σ B H e hs Q q => by
  refine h F σ B H e hs _ fun v x O1 B1 H1 p1 e1 hs1 rx => ?_
  obtain ⟨a, ds0, rfl, hm, p1⟩ := p1
  cases rx
  obtain ⟨vs0, h0, _⟩ := (hs1.own _ (List.mem_append_left _ hm)).2
  refine ⟨Or.inl ⟨rfl, vs0, Evl.sq_of h0⟩, ?_⟩
  refine p1 F σ B1 H1 (e.mono e1) hs1 _ fun u y O2 B2 H2 p2 e2 hs2 ry => ?_
  obtain ⟨ds, O3, hl, hp, p⟩ := p2
  obtain ⟨vs, h1, r⟩ := (hs2.own _ (List.mem_append_left _ hp.mem)).2
  refine ⟨a, vs, u, rfl, rfl, h1, Evl.sz_lt (by rw [r.length]; exact hl), ?_⟩
  have hs3 := hs2.write (o := .lst (vs ++ [u])) (hp.appR (F := F)) ⟨_, upd_same, r.append (.cons ry .nil)⟩
  exact q _ _ O3 B2 _ p (e1.trans e2) hs3 (.raw _)
/-- xs.extend(ys), xs owned, ys a list that never changes -/
theorem e_extend (h : wE K ta ρ O fun x O1 => ∃ a ds0, x = .loc a ∧ (a, Own.lst ds0) ∈ O1 ∧ wE K te ρ O1 fun y O2 => ∃ ds es O3, y = .lst es ∧ ds.length + es.length ≤ 100000 ∧ Put a (.lst ds) (.lst (ds ++ es)) O2 O3 ∧ P .non O3) :
    wE K (tBM K "list" rExtend ta (tCons te tNil)) ρ O P := fun F σ B H e hs Q q => by
  refine h F σ B H e hs _ fun v x O1 B1 H1 p1 e1 hs1 rx => ?_
  obtain ⟨a, ds0, rfl, hm, p1⟩ := p1
  cases rx
  obtain ⟨vs0, h0, _⟩ := (hs1.own _ (List.mem_append_left _ hm)).2
  refine ⟨Or.inl ⟨rfl, vs0, Evl.sq_of h0⟩, ?_⟩
  refine p1 F σ B1 H1 (e.mono e1) hs1 _ fun u y O2 B2 H2 p2 e2 hs2 ry => ?_
  obtain ⟨ds, es, O3, rfl, hl, hp, p⟩ := p2
  obtain ⟨vs, h1, r⟩ := (hs2.own _ (List.mem_append_left _ hp.mem)).2
  cases ry with
  | lst hb rb =>
    refine ⟨a, _, vs, _, rfl, rfl, h1, hs2.ex _ _ hb, Evl.sz_of (by rw [r.length, rb.length]; exact hl), ?_⟩
    have hs3 := hs2.write (o := .lst (vs ++ _)) (hp.appR (F := F)) ⟨_, upd_same, r.append rb⟩
    exact q _ _ O3 B2 _ p (e1.trans e2) hs3 (.raw _)
/-- xs[i] = e, xs owned -/
theorem s_setL {ti : TE} (h : wE K te ρ O fun y O1 => wE K ta ρ O1 fun x O2 => wE K ti ρ O2 fun z O3 => ∃ a i ds n O4, x = .loc a ∧ z = .int i ∧ ixN ds.length i = some n ∧ Put a (.lst ds) (.lst (ds.set n y)) O3 O4 ∧ PS (.nx ρ) O4) :
    wS K (tAsg te (gSub ta ti rSetL)) ρ O PS := fun F σ B H e hs Dn q => by
  refine h F σ B H e hs _ fun v y O1 B1 H1 p1 e1 hs1 ry => ?_
  refine p1 F σ B1 H1 (e.mono e1) hs1 _ fun u x O2 B2 H2 p2 e2 hs2 rx => ?_
  refine p2 F σ B2 H2 ((e.mono e1).mono e2) hs2 _ fun w z O3 B3 H3 p3 e3 hs3 rz => ?_
  obtain ⟨a, i, ds, n, O4, rfl, rfl, hi, hp, p⟩ := p3
  cases rx; cases rz
  obtain ⟨vs, h1, r⟩ := (hs3.own _ (List.mem_append_left _ hp.mem)).2
  refine ⟨a, vs, i, n, rfl, rfl, h1, by rw [r.length]; exact hi, ?_⟩
  have hs4 := hs3.write (o := .lst (vs.set n v)) (hp.appR (F := F)) ⟨_, upd_same, r.set n ((ry.mono e2).mono e3)⟩
  exact q (.nx ρ) O4 B3 _ p ((e1.trans e2).trans e3) hs4 σ (((e.mono e1).mono e2).mono e3)
end
end G
namespace G
open PySem L2 PySem.Spec PyProof.Rows
/-! ### targets -/
def wG (K : PySem.W.Frag) (g : TG) (d : D) (ρ : Rho) (O : Store) (P : Rho → Store → Prop) : Prop :=
  ∀ F v σ B H, EnvR K B σ ρ → Hs K B H (O ++ F) → Rep K B v d → ∀ Q : L2.St → Hp → Prop, (∀ σ' ρ' O' B2 H2, P ρ' O' → Ex B B2 → Hs K B2 H2 (O' ++ F) → EnvR K B2 σ' ρ' → Q σ' H2) → g v σ H Q
def wGs (K : PySem.W.Frag) (g : TGs) (ds : List D) (ρ : Rho) (O : Store) (P : Rho → Store → Prop) : Prop :=
  ∀ F vs σ B H, EnvR K B σ ρ → Hs K B H (O ++ F) → Reps K B vs ds → ∀ Q : L2.St → Hp → Prop, (∀ σ' ρ' O' B2 H2, P ρ' O' → Ex B B2 → Hs K B2 H2 (O' ++ F) → EnvR K B2 σ' ρ' → Q σ' H2) → g vs σ H Q
/-- only the slots vs are turned -/
def Outside (vs : List Nat) (σ σ' : L2.St) : Prop := σ'.length = σ.length ∧ ∀ i, i ∉ vs → σ'[i]? = σ[i]?
def GOnly (g : TG) (vs : List Nat) : Prop := ∀ v σ H Q, g v σ H Q → g v σ H fun σ' H' => Outside vs σ σ' ∧ Q σ' H'
def GsOnly (g : TGs) (vs : List Nat) : Prop := ∀ v σ H Q, g v σ H Q → g v σ H fun σ' H' => Outside vs σ σ' ∧ Q σ' H'
theorem Outside.refl (vs : List Nat) (σ : L2.St) : Outside vs σ σ := ⟨rfl, fun _ _ => rfl⟩
theorem Outside.trans {vs : List Nat} {σ σ1 σ2 : L2.St} (a : Outside vs σ σ1) (b : Outside vs σ1 σ2) : Outside vs σ σ2 := ⟨b.1.trans a.1, fun i h => (b.2 i h).trans (a.2 i h)⟩
theorem Outside.set {vs : List Nat} {σ : L2.St} {i : Nat} {o : Option V} (h : i ∈ vs) : Outside vs σ (σ.set i o) := ⟨List.length_set, fun j hj => List.getElem?_set_ne (fun e => hj (by rw [← e]; exact h))⟩
theorem wipe_get {σ : L2.St} : ∀ {vs : List Nat} {i : Nat}, (L2.wipe σ vs)[i]? = if i ∈ vs then (σ[i]?).map (fun _ => none) else σ[i]?
  | [], i => by simp [L2.wipe]
  | v :: vs, i => by
    show ((L2.wipe σ vs).set v none)[i]? = _
    by_cases h : v = i
    · subst h
      rw [List.getElem?_set, if_pos rfl]
      have hl : (L2.wipe σ vs).length = σ.length := L2.wipe_length σ vs
      by_cases h2 : v < σ.length
      · rw [if_pos (by rw [hl]; exact h2), if_pos (List.mem_cons_self), List.getElem?_eq_getElem h2]
        rfl
      · rw [if_neg (by rw [hl]; exact h2), if_pos (List.mem_cons_self), List.getElem?_eq_none (by omega)]
        rfl
    · rw [List.getElem?_set_ne h, wipe_get]
      have : (i ∈ v :: vs) ↔ i ∈ vs := by
        rw [List.mem_cons]
        constructor
        · rintro (e | e)
          · exact absurd e.symm h
          · exact e
        · exact .inr
      by_cases h3 : i ∈ vs
      · rw [if_pos h3, if_pos (this.mpr h3)]
      · rw [if_neg h3, if_neg (fun z => h3 (this.mp z))]
theorem wipe_same {σ σ' : L2.St} {vs : List Nat} (h : Outside vs (L2.wipe σ vs) σ') : L2.wipe σ' vs = L2.wipe σ vs := by
  apply List.ext_getElem?
  intro i
  rw [wipe_get, wipe_get]
  by_cases hi : i ∈ vs
  · rw [if_pos hi, if_pos hi]
    have hl : σ'.length = σ.length := by rw [h.1, L2.wipe_length]
    by_cases h2 : i < σ.length
    · rw [List.getElem?_eq_getElem h2, List.getElem?_eq_getElem (by omega)]
      rfl
    · rw [List.getElem?_eq_none (by omega), List.getElem?_eq_none (by omega)]
  · rw [if_neg hi, if_neg hi, h.2 i hi, wipe_get, if_neg hi]
theorem go_name {i : Nat} {vs : List Nat} (h : i ∈ vs) : GOnly (gName i) vs := fun v σ H Q q => ⟨Outside.set h, q⟩
theorem gs_nil {vs : List Nat} : GsOnly gNil vs := fun v σ H Q q => ⟨q.1, Outside.refl _ _, q.2⟩
section
variable {K : PySem.W.Frag} {ρ : Rho} {O O1 : Store} {vs : List Nat}
/-- a target's reading goes on under a weaker end -/
def GMono (g : TG) : Prop := ∀ v σ H Q Q', (∀ σ' H', Q σ' H' → Q' σ' H') → g v σ H Q → g v σ H Q'
def GsMono (g : TGs) : Prop := ∀ v σ H Q Q', (∀ σ' H', Q σ' H' → Q' σ' H') → g v σ H Q → g v σ H Q'
theorem gm_name {i : Nat} : GMono (gName i) := fun v σ H Q Q' m q => m _ _ q
theorem gms_nil : GsMono gNil := fun v σ H Q Q' m q => ⟨q.1, m _ _ q.2⟩
theorem gms_cons {g : TG} {u : TGs} (hg : GMono g) (hu : GsMono u) : GsMono (gCons g u) := fun v σ H Q Q' m q => by
  obtain ⟨x, r, e, q⟩ := q
  exact ⟨x, r, e, hg _ _ _ _ _ (fun σ' H' z => hu _ _ _ _ _ m z) q⟩
theorem gs_cons {g : TG} {u : TGs} (hg : GOnly g vs) (mg : GMono g) (hu : GsOnly u vs) (mu : GsMono u) : GsOnly (gCons g u) vs := fun v σ H Q q => by
  obtain ⟨x, r, e, q⟩ := q
  refine ⟨x, r, e, mg _ _ _ _ _ (fun σ' H' z => ?_) (hg _ _ _ _ q)⟩
  refine mu _ _ _ _ _ (fun σ2 H2 z2 => ⟨z.1.trans z2.1, z2.2⟩) (hu _ _ _ _ z.2)
theorem go_tup {n : Nat} {u : TGs} (hu : GsOnly u vs) : GOnly (gTup K n u) vs := fun v σ H Q q => by
  obtain ⟨a, xs, e, h, l, q⟩ := q
  exact ⟨a, xs, e, h, l, hu _ _ _ _ q⟩
theorem g_name {i : Nat} {d : D} {P : Rho → Store → Prop} (p : P (ρ.set i (some d)) O) : wG K (gName i) d ρ O P := fun F v σ B H e hs r Q q => q _ _ O B H p (Evl.Ex.refl B) hs (e.set i r)
theorem gs_nil' {P : Rho → Store → Prop} (p : P ρ O) : wGs K gNil [] ρ O P := fun F v σ B H e hs r Q q => by
  cases r
  exact ⟨rfl, q _ _ O B H p (Evl.Ex.refl B) hs e⟩
theorem gs_cons' {g : TG} {u : TGs} {d : D} {ds : List D} {P : Rho → Store → Prop} (h : wG K g d ρ O fun ρ1 O1 => wGs K u ds ρ1 O1 P) : wGs K (gCons g u) (d :: ds) ρ O P := fun F v σ B H e hs r Q q => by
  cases r with
  | cons rv rr => exact ⟨_, _, rfl, h F _ σ B H e hs rv _ fun σ1 ρ1 O1 B1 H1 p1 e1 hs1 r1 => p1 F _ σ1 B1 H1 r1 hs1 (rr.mono e1) Q fun σ2 ρ2 O2 B2 H2 p2 e2 => q σ2 ρ2 O2 B2 H2 p2 (e1.trans e2)⟩
theorem g_tup {n : Nat} {u : TGs} {ds : List D} {P : Rho → Store → Prop} (hl : ds.length = n) (h : wGs K u ds ρ O P) : wG K (gTup K n u) (.tup ds) ρ O P := fun F v σ B H e hs r Q q => by
  cases r with
  | tup hb rr => exact ⟨_, _, rfl, Evl.ex_t hs.ex hb, by rw [rr.length]; exact hl, h F _ σ B H e hs rr Q q⟩
theorem g_lst {n : Nat} {u : TGs} {ds : List D} {P : Rho → Store → Prop} (hl : ds.length = n) (h : wGs K u ds ρ O P) : wG K (gLst K n u) (.lst ds) ρ O P := fun F v σ B H e hs r Q q => by
  cases r with
  | lst hb rr => exact ⟨_, _, rfl, Evl.sq_of (hs.ex _ _ hb), by rw [rr.length]; exact hl, h F _ σ B H e hs rr Q q⟩
theorem s_asgG {te : TE} {g : TG} {PS : Out → Store → Prop} (h : wE K te ρ O fun d O1 => wG K g d ρ O1 fun ρ2 O2 => PS (.nx ρ2) O2) : wS K (tAsg te g) ρ O PS := fun F σ B H e hs Dn q =>
  h F σ B H e hs _ fun v d O1 B1 H1 p1 e1 hs1 r => p1 F v σ B1 H1 (e.mono e1) hs1 r _ fun σ2 ρ2 O2 B2 H2 p2 e2 hs2 r2 => q _ O2 B2 H2 p2 (e1.trans e2) hs2 σ2 r2
/-- a, b = e1, e2 -/
theorem s_par {i j : Nat} {ta : TA} {PS : Out → Store → Prop} (h : wA K ta ρ O fun ds O1 => ∃ x y, ds = [x, y] ∧ PS (.nx ((ρ.set i (some x)).set j (some y))) O1) : wS K (tPar i j ta) ρ O PS := fun F σ B H e hs Dn q =>
  h F σ B H e hs _ fun vs ds O1 B1 H1 p1 e1 hs1 r => by
    obtain ⟨x, y, rfl, p⟩ := p1
    cases r with
    | cons r1 r =>
      cases r with
      | cons r2 r =>
        cases r
        exact ⟨_, _, rfl, q _ O1 B1 H1 p e1 hs1 _ (((e.mono e1).set i r1).set j r2)⟩
end
/-! ### what is walked -/
def ItOk (K : PySem.W.Frag) (B : Hp) (J : It) (ds : List D) : Prop := ∀ B' H' O, Ex B B' → Hs K B' H' O → ∀ i,
  (∀ d, ds[i]? = some d → J.go i H' ∧ ∀ x H2, J.yld i H' x H2 → ∃ B2, Ex B' B2 ∧ Hs K B2 H2 O ∧ Rep K B2 x d) ∧ (ds[i]? = none → J.stop i H')
def wI (K : PySem.W.Frag) (wi : TI) (ρ : Rho) (O : Store) (P : List D → Store → Prop) : Prop :=
  ∀ F σ B H, EnvR K B σ ρ → Hs K B H (O ++ F) → ∀ R : It → Hp → Prop, (∀ J ds O' B2 H2, P ds O' → Ex B B2 → Hs K B2 H2 (O' ++ F) → ItOk K B2 J ds → R J H2) → wi σ H R
section
variable {K : PySem.W.Frag} {ρ : Rho} {O O1 : Store} {P : List D → Store → Prop}
theorem sq_one {a : Addr} {xs ys : List V} {H : Hp} (h : H a = some (.lst xs)) (h' : H a = some (.lst ys)) : xs = ys := by
  rw [h] at h'
  cases h'
  rfl
theorem itOk_list {B : Hp} {a : Addr} {xs : List V} {ds : List D} (h : B a = some (.lst xs)) (r : Reps K B xs ds) : ItOk K B (Itl K a) ds := fun B' H' O e hs i => by
  have h' : SqL K H' a xs := Evl.sq_of (hs.ex _ _ (e _ _ h))
  refine ⟨fun d hd => ?_, fun hd => ⟨xs, h', by rw [r.length]; exact List.getElem?_eq_none_iff.mp hd⟩⟩
  obtain ⟨v, hv, rv⟩ := r.get hd
  refine ⟨⟨xs, v, h', hv⟩, fun x H2 y => ?_⟩
  obtain ⟨rfl, y⟩ := y
  have := y xs h'
  rw [hv] at this
  cases this
  exact ⟨B', Evl.Ex.refl _, hs, rv.mono e⟩
theorem itOk_fz {B : Hp} {a : Addr} {xs : List V} {ds : List D} (h : SqL K B a xs) (r : Reps K B xs ds) : ItOk K B (Itl K a) ds := fun B' H' O e hs i => by
  have h' : SqL K H' a xs := Evl.ex_l hs.ex (Evl.ex_l e h)
  refine ⟨fun d hd => ?_, fun hd => ⟨xs, h', by rw [r.length]; exact List.getElem?_eq_none_iff.mp hd⟩⟩
  obtain ⟨v, hv, rv⟩ := r.get hd
  refine ⟨⟨xs, v, h', hv⟩, fun x H2 y => ?_⟩
  obtain ⟨rfl, y⟩ := y
  have := y xs h'
  rw [hv] at this
  cases this
  exact ⟨B', Evl.Ex.refl _, hs, rv.mono e⟩
theorem itOk_tup {B : Hp} {a : Addr} {xs : List V} {ds : List D} (h : SqT K B a xs) (r : Reps K B xs ds) : ItOk K B (Itt K a) ds := fun B' H' O e hs i => by
  have h' : SqT K H' a xs := Evl.ex_t hs.ex (Evl.ex_t e h)
  refine ⟨fun d hd => ?_, fun hd => ⟨xs, h', by rw [r.length]; exact List.getElem?_eq_none_iff.mp hd⟩⟩
  obtain ⟨v, hv, rv⟩ := r.get hd
  refine ⟨⟨xs, v, h', hv⟩, fun x H2 y => ?_⟩
  obtain ⟨rfl, y⟩ := y
  have := y xs h'
  rw [hv] at this
  cases this
  exact ⟨B', Evl.Ex.refl _, hs, rv.mono e⟩
def rangeD (lo : Int) (n : Nat) : List D := (List.range n).map fun (i : Nat) => D.int (lo + (i : Int))
theorem rangeD_get {lo : Int} {n i : Nat} {d : D} (h : (rangeD lo n)[i]? = some d) : i < n ∧ d = D.int (lo + i) := by
  unfold rangeD at h
  rw [List.getElem?_map] at h
  by_cases hi : i < n
  · rw [List.getElem?_range hi] at h
    simp at h
    exact ⟨hi, h.symm⟩
  · rw [List.getElem?_eq_none (by rw [List.length_range]; omega)] at h
    cases h
theorem rangeD_len {lo : Int} {n : Nat} : (rangeD lo n).length = n := by unfold rangeD; rw [List.length_map, List.length_range]
theorem itOk_range {B : Hp} {lo : Int} {n : Nat} : ItOk K B (Itr lo n) (rangeD lo n) := fun B' H' O e hs i => by
  refine ⟨fun d hd => ?_, fun hd => ?_⟩
  · obtain ⟨h1, rfl⟩ := rangeD_get hd
    refine ⟨h1, fun x H2 y => ?_⟩
    obtain ⟨rfl, rfl⟩ := y
    exact ⟨B', Evl.Ex.refl _, hs, .raw _⟩
  · have := List.getElem?_eq_none_iff.mp hd
    rw [rangeD_len] at this
    exact this
theorem i_list {tl : TE} (h : wE K tl ρ O fun d O1 => ∃ ds, d = .lst ds ∧ P ds O1) : wI K (iList K tl) ρ O P := fun F σ B H e hs R q =>
  h F σ B H e hs _ fun v d O1 B1 H1 p1 e1 hs1 r => by
    obtain ⟨ds, rfl, p⟩ := p1
    cases r with
    | lst hb r => exact ⟨_, rfl, ⟨_, Evl.sq_of (hs1.ex _ _ hb)⟩, q _ ds O1 B1 H1 p e1 hs1 (itOk_list hb r)⟩
theorem i_fz {tl : TE} (h : wE K tl ρ O fun d O1 => ∃ ds, d = .fz ds ∧ P ds O1) : wI K (iList K tl) ρ O P := fun F σ B H e hs R q =>
  h F σ B H e hs _ fun v d O1 B1 H1 p1 e1 hs1 r => by
    obtain ⟨ds, rfl, p⟩ := p1
    cases r with
    | fz hb r => exact ⟨_, rfl, ⟨_, Evl.ex_l hs1.ex hb⟩, q _ ds O1 B1 H1 p e1 hs1 (itOk_fz hb r)⟩
theorem i_tup {tl : TE} (h : wE K tl ρ O fun d O1 => ∃ ds, d = .tup ds ∧ P ds O1) : wI K (iTup K tl) ρ O P := fun F σ B H e hs R q =>
  h F σ B H e hs _ fun v d O1 B1 H1 p1 e1 hs1 r => by
    obtain ⟨ds, rfl, p⟩ := p1
    cases r with
    | tup hb r => exact ⟨_, rfl, ⟨_, Evl.ex_t hs1.ex hb⟩, q _ ds O1 B1 H1 p e1 hs1 (itOk_tup hb r)⟩
theorem i_rng1 {ta : TA} (h : wA K ta ρ O fun ds O1 => ∃ n : Int, ds = [.int n] ∧ -(2 ^ 62) ≤ n ∧ n < 2 ^ 62 ∧ P (rangeD 0 n.toNat) O1) : wI K (iRng1 ta) ρ O P := fun F σ B H e hs R q =>
  h F σ B H e hs _ fun vs ds O1 B1 H1 p1 e1 hs1 r => by
    obtain ⟨n, rfl, h1, h2, p⟩ := p1
    cases r with
    | cons r1 r =>
      cases r; cases r1
      exact ⟨n, rfl, h1, h2, q _ _ O1 B1 H1 p e1 hs1 itOk_range⟩
theorem i_rng2 {ta : TA} (h : wA K ta ρ O fun ds O1 => ∃ lo n : Int, ds = [.int lo, .int n] ∧ (-(2 ^ 62) ≤ lo ∧ lo < 2 ^ 62 ∧ -(2 ^ 62) ≤ n ∧ n < 2 ^ 62) ∧ P (rangeD lo (n - lo).toNat) O1) : wI K (iRng2 ta) ρ O P := fun F σ B H e hs R q =>
  h F σ B H e hs _ fun vs ds O1 B1 H1 p1 e1 hs1 r => by
    obtain ⟨lo, n, rfl, h1, p⟩ := p1
    cases r with
    | cons r1 r =>
      cases r with
      | cons r2 r =>
        cases r; cases r1; cases r2
        exact ⟨lo, n, rfl, h1, q _ _ O1 B1 H1 p e1 hs1 itOk_range⟩
def zipD : List D → List D → List D
  | x :: xs, y :: ys => .tup [x, y] :: zipD xs ys
  | _, _ => []
theorem zipD_len : ∀ (xs ys : List D), (zipD xs ys).length = min xs.length ys.length
  | [], _ => by simp [zipD]
  | _ :: _, [] => by simp [zipD]
  | x :: xs, y :: ys => by
    show (zipD xs ys).length + 1 = _
    rw [zipD_len xs ys, List.length_cons, List.length_cons]
    omega
theorem zipD_get : ∀ {xs ys : List D} {i : Nat} {d : D}, (zipD xs ys)[i]? = some d → ∃ x y, xs[i]? = some x ∧ ys[i]? = some y ∧ d = .tup [x, y]
  | [], _, _, _, h => by simp [zipD] at h
  | _ :: _, [], _, _, h => by simp [zipD] at h
  | x :: xs, y :: ys, 0, d, h => ⟨x, y, rfl, rfl, by simp [zipD] at h; exact h.symm⟩
  | x :: xs, y :: ys, i + 1, d, h => by
    have h' : (zipD xs ys)[i]? = some d := by simpa [zipD] using h
    obtain ⟨a, b, h1, h2, h3⟩ := zipD_get h'
    exact ⟨a, b, by simpa using h1, by simpa using h2, h3⟩
theorem itOk_zipT {B : Hp} {a b : Addr} {xs ys : List V} {ds es : List D} (h : SqT K B a xs) (r : Reps K B xs ds) (h2 : SqT K B b ys) (r2 : Reps K B ys es) : ItOk K B (RZ.ItzT K a b) (zipD ds es) := fun B' H' O e hs i => by
  have h' : SqT K H' a xs := Evl.ex_t hs.ex (Evl.ex_t e h)
  have h2' : SqT K H' b ys := Evl.ex_t hs.ex (Evl.ex_t e h2)
  refine ⟨fun d hd => ?_, fun hd => ⟨xs, ys, h', h2', ?_⟩⟩
  · obtain ⟨x, y, hx, hy, rfl⟩ := zipD_get hd
    obtain ⟨v, hv, rv⟩ := r.get hx
    obtain ⟨u, hu, ru⟩ := r2.get hy
    refine ⟨⟨xs, ys, v, u, h', h2', hv, hu⟩, fun z H2 q => ?_⟩
    obtain ⟨T, v', u', rfl, hT, rfl, q1, q2⟩ := q
    have e1 := q1 xs h'
    have e2 := q2 ys h2'
    rw [hv] at e1
    rw [hu] at e2
    cases e1; cases e2
    obtain ⟨hs2, ex2⟩ := hs.new (o := .tup [v, u]) hT
    exact ⟨_, ex2, hs2, .tup (Evl.st_of upd_same) (.cons ((rv.mono e).mono ex2) (.cons ((ru.mono e).mono ex2) .nil))⟩
  · have := List.getElem?_eq_none_iff.mp hd
    rw [zipD_len] at this
    rw [r.length, r2.length]
    omega
theorem itOk_zipL {B : Hp} {a b : Addr} {xs ys : List V} {ds es : List D} (h : B a = some (.lst xs)) (r : Reps K B xs ds) (h2 : B b = some (.lst ys)) (r2 : Reps K B ys es) : ItOk K B (Itz K a b) (zipD ds es) := fun B' H' O e hs i => by
  have h' : SqL K H' a xs := Evl.sq_of (hs.ex _ _ (e _ _ h))
  have h2' : SqL K H' b ys := Evl.sq_of (hs.ex _ _ (e _ _ h2))
  refine ⟨fun d hd => ?_, fun hd => ⟨xs, ys, h', h2', ?_⟩⟩
  · obtain ⟨x, y, hx, hy, rfl⟩ := zipD_get hd
    obtain ⟨v, hv, rv⟩ := r.get hx
    obtain ⟨u, hu, ru⟩ := r2.get hy
    refine ⟨⟨xs, ys, v, u, h', h2', hv, hu⟩, fun z H2 q => ?_⟩
    obtain ⟨T, v', u', rfl, hT, rfl, q1, q2⟩ := q
    have e1 := q1 xs h'
    have e2 := q2 ys h2'
    rw [hv] at e1
    rw [hu] at e2
    cases e1; cases e2
    obtain ⟨hs2, ex2⟩ := hs.new (o := .tup [v, u]) hT
    exact ⟨_, ex2, hs2, .tup (Evl.st_of upd_same) (.cons ((rv.mono e).mono ex2) (.cons ((ru.mono e).mono ex2) .nil))⟩
  · have := List.getElem?_eq_none_iff.mp hd
    rw [zipD_len] at this
    rw [r.length, r2.length]
    omega
theorem i_zip {ta : TA} (h : wA K ta ρ O fun ds O1 => ∃ xs ys, (ds = [.tup xs, .tup ys] ∨ ds = [.lst xs, .lst ys]) ∧ P (zipD xs ys) O1) : wI K (RZ.iZipA K ta) ρ O P := fun F σ B H e hs R q =>
  h F σ B H e hs _ fun vs ds O1 B1 H1 p1 e1 hs1 r => by
    obtain ⟨xs, ys, hd, p⟩ := p1
    rcases hd with rfl | rfl
    · cases r with
      | cons r1 r =>
        cases r with
        | cons r2 r =>
          cases r
          cases r1 with
          | tup ha ra =>
            cases r2 with
            | tup hb rb => exact ⟨_, _, _, _, rfl, .inr ⟨Evl.ex_t hs1.ex ha, Evl.ex_t hs1.ex hb, q _ _ O1 B1 H1 p e1 hs1 (itOk_zipT ha ra hb rb)⟩⟩
    · cases r with
      | cons r1 r =>
        cases r with
        | cons r2 r =>
          cases r
          cases r1 with
          | lst ha ra =>
            cases r2 with
            | lst hb rb => exact ⟨_, _, _, _, rfl, .inl ⟨Evl.sq_of (hs1.ex _ _ ha), Evl.sq_of (hs1.ex _ _ hb), q _ _ O1 B1 H1 p e1 hs1 (itOk_zipL ha ra hb rb)⟩⟩
/-- over a list or a tuple, whichever it is -/
def iSeq (K : PySem.W.Frag) (tl : TE) : TI := fun σ H R => tl σ H fun x H1 => ∃ a, x = .ref a ∧ (((∃ xs, SqL K H1 a xs) ∧ R (Itl K a) H1) ∨ ((∃ xs, SqT K H1 a xs) ∧ R (Itt K a) H1))
theorem pi_seq {X : Cx} {tg l : Expr} {tl : TE} (hl : PE X l tl) : PI X tg l (iSeq X.K tl) := ⟨fun pins s σ H R I h => by
  refine thn (hl.run pins s σ H _ I h) ?_
  rintro v s1 ⟨x, H1, I1, r1, a, rfl, q1⟩
  cases r1
  have fresh : FpOk X pins H1 s1.heap.objs.size := I1.fpOk (Nat.le_refl _) (I1.hok.fresh (Nat.le_refl _))
  have one : ∀ b ∈ [s1.heap.objs.size], FpOk X pins H1 b := fun b hb => by
    rw [List.mem_singleton.mp hb]
    exact fresh
  rcases q1 with ⟨⟨xs, hq⟩, q⟩ | ⟨⟨xs, hq⟩, q⟩
  · obtain ⟨its, rv, p, hz⟩ := I1.list hq
    exact wpAny_pyIter_list p.isList ⟨_, [_], _, _, H1, rfl, I1.kept (t' := s1.toks) (fun b o e => Heap.get?_push_of_some _ e), turn_list a _, ⟨_, Heap.get?_push_size _ rfl, rfl, rfl⟩, one, q⟩
  · obtain ⟨its, rv, p, hz⟩ := I1.tuple hq
    exact wpAny_pyIter_tuple (show s1.heap.IsTuple a its.toArray from p) ⟨_, [_], _, _, H1, rfl, I1.kept (t' := s1.toks) (fun b o e => Heap.get?_push_of_some _ e), turn_tuple a _, ⟨_, Heap.get?_push_size _ rfl, rfl, rfl⟩, one, q⟩⟩
theorem i_seq {tl : TE} (h : wE K tl ρ O fun d O1 => ∃ ds, (d = .lst ds ∨ d = .tup ds) ∧ P ds O1) : wI K (iSeq K tl) ρ O P := fun F σ B H e hs R q =>
  h F σ B H e hs _ fun v d O1 B1 H1 p1 e1 hs1 r => by
    obtain ⟨ds, hd, p⟩ := p1
    rcases hd with rfl | rfl
    · cases r with
      | lst hb r => exact ⟨_, rfl, .inl ⟨⟨_, Evl.sq_of (hs1.ex _ _ hb)⟩, q _ ds O1 B1 H1 p e1 hs1 (itOk_list hb r)⟩⟩
    · cases r with
      | tup hb r => exact ⟨_, rfl, .inr ⟨⟨_, Evl.ex_t hs1.ex hb⟩, q _ ds O1 B1 H1 p e1 hs1 (itOk_tup hb r)⟩⟩
/-! ### loops -/
variable {PS : Out → Store → Prop} {tb : TS} {wi : TI} {g : TG}
def loopP (I : Nat → Rho → Store → Prop) (n : Nat) (PS : Out → Store → Prop) : Out → Store → Prop
  | .nx ρ, O => I n ρ O
  | .ct ρ, O => I n ρ O
  | .bk ρ, O => PS (.nx ρ) O
  | .ret d, O => PS (.ret d) O
theorem s_for (h : wI K wi ρ O fun ds O1 => ∃ I : Nat → Rho → Store → Prop, I 0 ρ O1 ∧ (∀ i d ρ' O', ds[i]? = some d → I i ρ' O' → wG K g d ρ' O' fun ρ2 O2 => wS K tb ρ2 O2 (loopP I (i + 1) PS)) ∧ ∀ ρ' O', I ds.length ρ' O' → PS (.nx ρ') O') :
    wS K (tFor wi g tb) ρ O PS := fun F σ B H e hs Dn q => by
  refine h F σ B H e hs _ fun J ds O1 B1 H1 p1 e1 hs1 it => ?_
  obtain ⟨I, h0, hstep, hend⟩ := p1
  let W : Nat → L2.St → Hp → Prop := fun i σ' H' => ∃ ρ' O' B', I i ρ' O' ∧ Ex B1 B' ∧ Hs K B' H' (O' ++ F) ∧ EnvR K B' σ' ρ'
  refine ⟨fun i m σ' H' => m = ds.length - i ∧ i ≤ ds.length ∧ W i σ' H', ⟨_, rfl, Nat.zero_le _, ρ, O1, B1, h0, Evl.Ex.refl _, hs1, e.mono e1⟩, ?_⟩
  rintro i m σ' H' ⟨rfl, hi, ρ', O', B', hI, eB, hs', en⟩
  have turn := it B' H' (O' ++ F) eB hs' i
  cases hd : ds[i]? with
  | none =>
    have hle := List.getElem?_eq_none_iff.mp hd
    have hii : i = ds.length := by omega
    subst hii
    exact .inl ⟨turn.2 hd, q (.nx ρ') O' B' H' (hend ρ' O' hI) (e1.trans eB) hs' σ' en⟩
  | some d =>
    have hlt : i < ds.length := (List.getElem?_eq_some_iff.mp hd).1
    obtain ⟨go, hy⟩ := turn.1 d hd
    refine .inr ⟨go, W (i + 1), fun σ2 H2 w2 => ⟨ds.length - (i + 1), by omega, rfl, hlt, w2⟩, fun x H2 y => ?_⟩
    obtain ⟨B2, e2, hs2, rx⟩ := hy x H2 y
    refine hstep i d ρ' O' hd hI F x σ' B2 H2 (en.mono e2) hs2 rx _ fun σ3 ρ3 O3 B3 H3 p3 e3 hs3 en3 => ?_
    refine p3 F σ3 B3 H3 en3 hs3 _ fun o O4 B4 H4 p4 e4 hs4 => ?_
    have eAll : Ex B1 B4 := ((eB.trans e2).trans e3).trans e4
    cases o with
    | nx ρ4 => exact fun σ4 r4 => ⟨ρ4, O4, B4, p4, eAll, hs4, r4⟩
    | ct ρ4 => exact fun σ4 r4 => ⟨ρ4, O4, B4, p4, eAll, hs4, r4⟩
    | bk ρ4 => exact q (.nx ρ4) O4 B4 H4 p4 (e1.trans eAll) hs4
    | ret d4 => exact q (.ret d4) O4 B4 H4 p4 (e1.trans eAll) hs4
/-- while: I by a measure that falls -/
theorem s_while {t : TT} (I : Nat → Rho → Store → Prop) (m0 : Nat) (h0 : I m0 ρ O) (hs0 : ∀ m ρ' O', I m ρ' O' → wT K t ρ' O' fun b O2 => (b = true → wS K tb ρ' O2 (fun o O3 => match o with
      | .nx ρ3 => ∃ m', m' < m ∧ I m' ρ3 O3
      | .ct ρ3 => ∃ m', m' < m ∧ I m' ρ3 O3
      | .bk ρ3 => PS (.nx ρ3) O3
      | .ret d => PS (.ret d) O3)) ∧ (b = false → PS (.nx ρ') O2)) : wS K (tWhile t tb) ρ O PS := fun F σ B H e hs Dn q => by
  let W : Nat → L2.St → Hp → Prop := fun m σ' H' => ∃ ρ' O' B', I m ρ' O' ∧ Ex B B' ∧ Hs K B' H' (O' ++ F) ∧ EnvR K B' σ' ρ'
  refine ⟨W, ⟨m0, ρ, O, B, h0, Evl.Ex.refl _, hs, e⟩, ?_⟩
  rintro m σ' H' ⟨ρ', O', B', hI, eB, hs', en⟩
  refine hs0 m ρ' O' hI F σ' B' H' en hs' _ fun b O2 B2 H2 p2 e2 hs2 => ?_
  cases b with
  | false =>
    show (if false = true then _ else _)
    rw [if_neg Bool.false_ne_true]
    exact q (.nx ρ') O2 B2 H2 (p2.2 rfl) (eB.trans e2) hs2 σ' (en.mono e2)
  | true =>
    show (if true = true then _ else _)
    rw [if_pos rfl]
    refine ⟨fun σ3 H3 => ∃ m', m' < m ∧ W m' σ3 H3, fun _ _ z => z, ?_⟩
    refine p2.1 rfl F σ' B2 H2 (en.mono e2) hs2 _ fun o O4 B4 H4 p4 e4 hs4 => ?_
    have eAll : Ex B B4 := (eB.trans e2).trans e4
    cases o with
    | nx ρ4 =>
      obtain ⟨m', hm, hI4⟩ := p4
      exact fun σ4 r4 => ⟨m', hm, ρ4, O4, B4, hI4, eAll, hs4, r4⟩
    | ct ρ4 =>
      obtain ⟨m', hm, hI4⟩ := p4
      exact fun σ4 r4 => ⟨m', hm, ρ4, O4, B4, hI4, eAll, hs4, r4⟩
    | bk ρ4 => exact q (.nx ρ4) O4 B4 H4 p4 eAll hs4
    | ret d4 => exact q (.ret d4) O4 B4 H4 p4 eAll hs4
/-- [e for g in .. if ..] -/
theorem e_lc {tt : TT} {te : TE} {vs : List Nat} {P : D → Store → Prop} (hg : GOnly g vs) (mg : GMono g) (h : wI K wi ρ O fun ds O1 => ds.length < 90000 ∧ ∃ I : Nat → List D → Store → Prop, I 0 [] O1 ∧
    (∀ i d acc O', ds[i]? = some d → acc.length ≤ i → I i acc O' → wG K g d (wipeR ρ vs) O' fun ρ2 O2 => wT K tt ρ2 O2 fun b O3 => (b = true → wE K te ρ2 O3 fun y O4 => I (i + 1) (acc ++ [y]) O4) ∧ (b = false → I (i + 1) acc O3)) ∧
    ∀ acc O', I ds.length acc O' → P (.lst acc) O') : wE K (tLc wi g tt te vs) ρ O P := fun F σ B H e hs Q q => by
  refine h F σ B H e hs _ fun J ds O1 B1 H1 p1 e1 hs1 it => ?_
  obtain ⟨hlen, I, h0, hstep, hend⟩ := p1
  intro Dl hDl
  let W : Nat → Hp → Prop := fun i H' => ∃ acc O' B', I i acc O' ∧ acc.length ≤ i ∧ Ex B1 B' ∧ Hs K B' H' ((Dl, Own.lst acc) :: (O' ++ F))
  refine ⟨fun i m H' => m = ds.length - i ∧ i ≤ ds.length ∧ W i H', ⟨_, rfl, Nat.zero_le _, [], O1, B1, h0, Nat.le_refl _, Evl.Ex.refl _, hs1.newOwn (w := .lst []) hDl ⟨[], upd_same, .nil⟩⟩, ?_⟩
  rintro i m H' ⟨rfl, hi, acc, O', B', hI, hal, eB, hs'⟩
  have turn := it B' H' _ eB hs' i
  cases hd : ds[i]? with
  | none =>
    have hle := List.getElem?_eq_none_iff.mp hd
    have hii : i = ds.length := by omega
    subst hii
    refine .inl ⟨turn.2 hd, ?_⟩
    obtain ⟨ws, hw, rw_⟩ := (hs'.own _ List.mem_cons_self).2
    obtain ⟨hs2, e2⟩ := hs'.freeze hw
    exact q _ _ O' _ H' (hend acc O' hI) ((e1.trans eB).trans e2) hs2 (.lst upd_same (rw_.mono e2))
  | some d =>
    have hlt : i < ds.length := (List.getElem?_eq_some_iff.mp hd).1
    obtain ⟨go, hy⟩ := turn.1 d hd
    refine .inr ⟨go, W (i + 1), fun H2 w2 => ⟨ds.length - (i + 1), by omega, rfl, hlt, w2⟩, fun x H2 y => ?_⟩
    obtain ⟨B2, e2, hs2, rx⟩ := hy x H2 y
    have hs2' : Hs K B2 H2 (O' ++ (F ++ [(Dl, Own.lst acc)])) := hs2.perm (by rw [← List.append_assoc]; exact (List.perm_append_singleton _ _).symm)
    have en0 : EnvR K B2 (L2.wipe σ vs) (wipeR ρ vs) := ((((e.mono e1).mono eB).mono e2)).wipe vs
    refine mg _ _ _ _ _ (fun σ3 H3 z => ⟨wipe_same z.1, z.2⟩) (hg _ _ _ _ ?_)
    refine hstep i d acc O' hd hal hI (F ++ [(Dl, Own.lst acc)]) x (L2.wipe σ vs) B2 H2 en0 hs2' rx _ fun σ3 ρ3 O3 B3 H3 p3 e3 hs3 en3 => ?_
    refine p3 _ σ3 B3 H3 en3 hs3 _ fun b O4 B4 H4 p4 e4 hs4 => ?_
    have back : ∀ {B5 H5 : Hp} {O5 : Store}, Hs K B5 H5 (O5 ++ (F ++ [(Dl, Own.lst acc)])) → Hs K B5 H5 ((Dl, Own.lst acc) :: (O5 ++ F)) := fun hz => hz.perm (by rw [← List.append_assoc]; exact List.perm_append_singleton _ _)
    cases b with
    | false =>
      show (if false = true then _ else _)
      rw [if_neg Bool.false_ne_true]
      exact ⟨acc, O4, B4, p4.2 rfl, by omega, ((eB.trans e2).trans e3).trans e4, back hs4⟩
    | true =>
      show (if true = true then _ else _)
      rw [if_pos rfl]
      refine p4.1 rfl _ σ3 B4 H4 (en3.mono e4) hs4 _ fun u y O5 B5 H5 p5 e5 hs5 ry => ?_
      have hs6 := back hs5
      obtain ⟨ws, hw, rws⟩ := (hs6.own _ List.mem_cons_self).2
      refine ⟨ws, hw, Evl.sz_lt (by rw [rws.length]; omega), acc ++ [y], O5, B5, p5, by rw [List.length_append]; simp; omega, (((eB.trans e2).trans e3).trans e4).trans e5, ?_⟩
      exact hs6.write (o := .lst (ws ++ [u])) .here ⟨_, upd_same, rws.append (.cons ry .nil)⟩
theorem t_yes {P : Bool → Store → Prop} (p : P true O) : wT K tYes ρ O P := fun F σ B H e hs Q q => q true O B H p (Evl.Ex.refl B) hs
end
end G
namespace G
open PySem L2 PySem.Spec PyProof.Rows
/-! ### promises over data -/
/-- a def that changes nothing of its caller's -/
def spP (K : PySem.W.Frag) (n : Nat) (W : List D → (D → Prop) → Prop) : Sp := fun vs H Q _ => ∃ F B ds P, Hs K B H F ∧ Reps K B vs ds ∧ ds.length = n ∧ W ds P ∧ ∀ v d B2 H2, P d → Ex B B2 → Hs K B2 H2 F → Rep K B2 v d → Q v H2
/-- a def that changes what is owned -/
def spW (K : PySem.W.Frag) (n : Nat) (W : List D → Store → (D → Store → Prop) → Prop) : Sp := fun vs H Q _ => ∃ F O B ds P, Hs K B H (O ++ F) ∧ Reps K B vs ds ∧ ds.length = n ∧ W ds O P ∧ ∀ v d O2 B2 H2, P d O2 → Ex B B2 → Hs K B2 H2 (O2 ++ F) → Rep K B2 v d → Q v H2
/-- an __init__; PX: the classes of the errors that leave it -/
def spI (K : PySem.W.Frag) (C : Addr) (n : Nat) (W : List D → (List (Str × D) → Prop) → (Addr → Prop) → Prop) : Sp := fun vs H Q E => ∃ x dx ws F B ds P PX, vs = V.ref x :: ws ∧ H x = some (.ins C dx []) ∧ Hs K B H ((x, .ins C []) :: F) ∧ Reps K B ws ds ∧ ds.length = n ∧ W ds P PX ∧
  (∀ fs B2 H2, P fs → Ex B B2 → Hs K B2 H2 ((x, .ins C fs) :: F) → Q .non H2) ∧ ∀ c B2 H2, PX c → Ex B B2 → Hs K B2 H2 F → E (.ref c) none H2
/-- a def that may raise -/
def spX (K : PySem.W.Frag) (n : Nat) (W : List D → (D → Prop) → (Addr → Prop) → Prop) : Sp := fun vs H Q E => ∃ F B ds P PX, Hs K B H F ∧ Reps K B vs ds ∧ ds.length = n ∧ W ds P PX ∧ (∀ v d B2 H2, P d → Ex B B2 → Hs K B2 H2 F → Rep K B2 v d → Q v H2) ∧ ∀ c B2 H2, PX c → Ex B B2 → Hs K B2 H2 F → E (.ref c) none H2
section
variable {K : PySem.W.Frag} {ρ : Rho} {O O1 : Store} {P : D → Store → Prop} {n : Nat} {E : XK}
theorem e_call {W : List D → (D → Prop) → Prop} {t : TA} (h : wA K t ρ O fun ds O1 => ds.length = n ∧ W ds fun d => P d O1) : wE K (tCall (spP K n W) [] E t) ρ O P := fun F σ B H e hs Q q =>
  h F σ B H e hs _ fun vs ds O1 B1 H1 p1 e1 hs1 r => ⟨O1 ++ F, B1, ds, _, hs1, by rw [List.append_nil]; exact r, p1.1, p1.2, fun v d B2 H2 p e2 hs2 rv => q v d O1 B2 H2 p (e1.trans e2) hs2 rv⟩
theorem e_callW {W : List D → Store → (D → Store → Prop) → Prop} {t : TA} (h : wA K t ρ O fun ds O1 => ds.length = n ∧ W ds O1 P) : wE K (tCall (spW K n W) [] E t) ρ O P := fun F σ B H e hs Q q =>
  h F σ B H e hs _ fun vs ds O1 B1 H1 p1 e1 hs1 r => ⟨F, O1, B1, ds, P, hs1, by rw [List.append_nil]; exact r, p1.1, p1.2, fun v d O2 B2 H2 p e2 hs2 rv => q v d O2 B2 H2 p (e1.trans e2) hs2 rv⟩
theorem e_callX {W : List D → (D → Prop) → (Addr → Prop) → Prop} {t : TA} (h : wA K t ρ O fun ds O1 => ds.length = n ∧ W ds (fun d => P d O1) fun _ => False) : wE K (tCall (spX K n W) [] E t) ρ O P := fun F σ B H e hs Q q =>
  h F σ B H e hs _ fun vs ds O1 B1 H1 p1 e1 hs1 r => ⟨O1 ++ F, B1, ds, _, _, hs1, by rw [List.append_nil]; exact r, p1.1, p1.2, fun v d B2 H2 p e2 hs2 rv => q v d O1 B2 H2 p (e1.trans e2) hs2 rv, fun _ _ _ z => z.elim⟩
/-- what a new instance's __init__ is handed -/
theorem init_pre {C : Addr} {W : List D → (List (Str × D) → Prop) → (Addr → Prop) → Prop} {B1 H1 : Hp} {F1 : Store} {vs : List V} {ds : List D} {PF : List (Str × D) → Prop} {PX : Addr → Prop} {Q : VK} (hs1 : Hs K B1 H1 F1) (r : Reps K B1 vs ds) (hn : ds.length = n) (hw : W ds PF PX)
    (q : ∀ v fs B2 H2, PF fs → Ex B1 B2 → Hs K B2 H2 F1 → Rep K B2 v (.ins C fs) → Q v H2) (qx : ∀ c B2 H2, PX c → Ex B1 B2 → Hs K B2 H2 F1 → E (.ref c) none H2) :
    ∀ x dx, H1 x = none → H1 dx = none → dx ≠ x → spI K C n W (V.ref x :: (vs ++ [])) (upd (upd H1 dx (.own x)) x (.ins C dx [])) (fun v H2 => v = .non ∧ Q (.ref x) H2) E := by
  intro x dx hx hdx hne
  have hs2 : Hs K B1 (upd H1 dx (.own x)) F1 := hs1.other hdx
  have hx2 : upd H1 dx (.own x) x = none := by rw [upd_ne (fun e => hne e.symm)]; exact hx
  have hs3 := hs2.newOwn (o := .ins C dx []) (w := .ins C []) hx2 ⟨dx, [], upd_same, .nil⟩
  refine ⟨x, dx, vs, F1, B1, ds, PF, PX, by rw [List.append_nil], upd_same, hs3, r, hn, hw, fun fs B2 H2 p e2 hs4 => ⟨rfl, ?_⟩, qx⟩
  obtain ⟨dx', us, hu, ru⟩ := (hs4.own _ List.mem_cons_self).2
  obtain ⟨hs5, e5⟩ := hs4.freeze hu
  exact q _ fs _ H2 p (e2.trans e5) hs5 (.ins upd_same (ru.mono e5))
theorem e_make {C : Addr} {W : List D → (List (Str × D) → Prop) → (Addr → Prop) → Prop} {t : TA} (h : wA K t ρ O fun ds O1 => ds.length = n ∧ W ds (fun fs => P (.ins C fs) O1) fun _ => False) : wE K (tMake C (spI K C n W) [] E t) ρ O P := fun F σ B H e hs Q q =>
  h F σ B H e hs _ fun vs ds O1 B1 H1 p1 e1 hs1 r => init_pre hs1 r p1.1 p1.2 (fun v fs B2 H2 p e2 hs2 rv => q v _ O1 B2 H2 p (e1.trans e2) hs2 rv) fun _ _ _ z => z.elim
end
section
variable {K : PySem.W.Frag} {n : Nat} {E : XK}
/-- C(..) whose __init__ may raise, with the state in hand -/
theorem makeX {C : Addr} {W : List D → (List (Str × D) → Prop) → (Addr → Prop) → Prop} {t : TA} {ρ : Rho} {σ : L2.St} {B H : Hp} {F : Store} {Q : VK} {P : D → Prop} {PX : Addr → Prop}
    (h : wA K t ρ [] fun ds O => O = [] ∧ ds.length = n ∧ W ds (fun fs => P (.ins C fs)) PX) (e : EnvR K B σ ρ) (hs : Hs K B H F)
    (q : ∀ v d B2 H2, P d → Ex B B2 → Hs K B2 H2 F → Rep K B2 v d → Q v H2) (qx : ∀ c B2 H2, PX c → Ex B B2 → Hs K B2 H2 F → E (.ref c) none H2) : tMake C (spI K C n W) [] E t σ H Q := by
  refine h F σ B H e hs _ fun vs ds O1 B1 H1 p1 e1 hs1 r => ?_
  obtain ⟨rfl, hn, hw⟩ := p1
  exact init_pre hs1 r hn hw (fun v fs B2 H2 p e2 hs2 rv => q v _ B2 H2 p (e1.trans e2) hs2 rv) fun c B2 H2 p e2 hs2 => qx c B2 H2 p (e1.trans e2) hs2
end
/-! ### a def holds its promise -/
def retP (P : D → Prop) : Out → Store → Prop
  | .ret d, _ => P d
  | .nx _, _ => P .non
  | _, _ => False
def retW (P : D → Store → Prop) : Out → Store → Prop
  | .ret d, O => P d O
  | .nx _, O => P .non O
  | _, _ => False
/-- the ends of an __init__: the instance at x -/
def retI (x C : Addr) (PF : List (Str × D) → Prop) : Out → Store → Prop
  | .nx _, O => ∃ fs, O = [(x, .ins C fs)] ∧ PF fs
  | _, _ => False
section
variable {Pr : Program} {w : World} {K : PySem.W.Frag} {mg : Str → Option Value} {base : Heap} {x qual : Str} {st : Stmt} {f : Addr} {fd : FuncData} {N ps : List Str} {k n : Nat}
theorem Reps.len2 {B : Hp} {vs : List V} {ds : List D} (r : Reps K B vs ds) (h : ds.length = n) : vs.length = n := r.length.trans h
theorem okP {W : List D → (D → Prop) → Prop} (F : Fun K x qual st f fd) (S : FnScope N ps (defScope st)) (hn : ps.length = n)
    (hb : ∀ (cdv : Value) (A : Around) (outer : List Env) (s : Shared) (H : Hp) (E : XK), Room k (A.deeper (envOfC qual (defScope st) s.heap.objs.size f cdv)) → ∃ t, PSs (cxOf CX0 Pr w K mg base N qual (defScope st) f cdv A outer s H E).nox (defBody st) t ∧
      ∀ ds P, ds.length = n → W ds P → wS K t (rho0 N.length ds) [] (retP P)) : FnOk Pr w K mg base CX0 (k + 1) f fd ps (spP K n W) := by
  refine F.ok S (fun vs H Q E h => ?_) (fun cdv A outer s H vs Q E hr h => ?_)
  · obtain ⟨F1, B, ds, P, _, r, hl, _⟩ := h
    rw [r.length, hl, hn]
  · obtain ⟨t, ht, hw⟩ := hb cdv A outer s H E hr
    refine ⟨t, ht, ?_⟩
    obtain ⟨F1, B, ds, P, hs, r, hl, hW, q⟩ := h
    refine hw ds P hl hW F1 _ B H (envR_start r) hs _ fun o O2 B2 H2 p e2 hs2 => ?_
    cases o with
    | nx ρ => exact fun σ _ => q _ _ B2 H2 p e2 hs2.dropL (.raw _)
    | ret d => exact fun v rv => q v d B2 H2 p e2 hs2.dropL rv
    | bk ρ => exact False.elim p
    | ct ρ => exact False.elim p
theorem okW {W : List D → Store → (D → Store → Prop) → Prop} (F : Fun K x qual st f fd) (S : FnScope N ps (defScope st)) (hn : ps.length = n)
    (hb : ∀ (cdv : Value) (A : Around) (outer : List Env) (s : Shared) (H : Hp) (E : XK), Room k (A.deeper (envOfC qual (defScope st) s.heap.objs.size f cdv)) → ∃ t, PSs (cxOf CX0 Pr w K mg base N qual (defScope st) f cdv A outer s H E).nox (defBody st) t ∧
      ∀ ds O P, ds.length = n → W ds O P → wS K t (rho0 N.length ds) O (retW P)) : FnOk Pr w K mg base CX0 (k + 1) f fd ps (spW K n W) := by
  refine F.ok S (fun vs H Q E h => ?_) (fun cdv A outer s H vs Q E hr h => ?_)
  · obtain ⟨F1, O1, B, ds, P, _, r, hl, _⟩ := h
    rw [r.length, hl, hn]
  · obtain ⟨t, ht, hw⟩ := hb cdv A outer s H E hr
    refine ⟨t, ht, ?_⟩
    obtain ⟨F1, O1, B, ds, P, hs, r, hl, hW, q⟩ := h
    refine hw ds O1 P hl hW F1 _ B H (envR_start r) hs _ fun o O2 B2 H2 p e2 hs2 => ?_
    cases o with
    | nx ρ => exact fun σ _ => q _ _ O2 B2 H2 p e2 hs2 (.raw _)
    | ret d => exact fun v rv => q v d O2 B2 H2 p e2 hs2 rv
    | bk ρ => exact False.elim p
    | ct ρ => exact False.elim p
/-- an __init__ that may raise -/
theorem okI {C : Addr} {W : List D → (List (Str × D) → Prop) → (Addr → Prop) → Prop} (F : Fun K x qual st f fd) (S : FnScope N ps (defScope st)) (hn : ps.length = n + 1)
    (hb : ∀ (cdv : Value) (A : Around) (outer : List Env) (s : Shared) (H0 : Hp) (E : XK), Room k (A.deeper (envOfC qual (defScope st) s.heap.objs.size f cdv)) → ∃ t, PSs (cxOf (L2.CX Pr w) Pr w K mg base N qual (defScope st) f cdv A outer s H0 E) (defBody st) t ∧
      ∀ ds PF PX, ds.length = n → W ds PF PX → ∀ (xa : Addr) (F1 : Store) (B H : Hp) (σ : L2.St) (Q : VK), EnvR K B σ (rho0 N.length (.loc xa :: ds)) → Hs K B H ((xa, .ins C []) :: F1) →
      (∀ fs B2 H2, PF fs → Ex B B2 → Hs K B2 H2 ((xa, .ins C fs) :: F1) → Q .non H2) → (∀ c B2 H2, PX c → Ex B B2 → Hs K B2 H2 F1 → E (.ref c) none H2) → t { nx := fun _ H' => Q .non H', rt := Q } σ H) :
    FnOk Pr w K mg base (L2.CX Pr w) (k + 1) f fd ps (spI K C n W) := by
  refine F.okX S (fun vs H Q E h => ?_) (fun cdv A outer s H vs Q E hr h => ?_)
  · obtain ⟨xa, dx, ws, F1, B, ds, PF, PX, rfl, _, _, r, hl, _⟩ := h
    rw [List.length_cons, r.length, hl, hn]
  · obtain ⟨t, ht, hw⟩ := hb cdv A outer s H E hr
    refine ⟨t, ht, ?_⟩
    obtain ⟨xa, dx, ws, F1, B, ds, PF, PX, rfl, hx, hs, r, hl, hW, q, qx⟩ := h
    exact hw ds PF PX hl hW xa F1 B H _ Q (envR_start (.cons (.raw _) r)) hs q qx
/-- the rest of an __init__ -/
theorem init_rest {C xa : Addr} {PF : List (Str × D) → Prop} {t : TS} {ρ : Rho} {B0 B H : Hp} {σ : L2.St} {F1 : Store} {Q : VK} (h : wS K t ρ [(xa, .ins C [])] (retI xa C PF)) (e : EnvR K B σ ρ) (hs : Hs K B H ((xa, .ins C []) :: F1)) (e0 : Ex B0 B)
    (q : ∀ fs B2 H2, PF fs → Ex B0 B2 → Hs K B2 H2 ((xa, .ins C fs) :: F1) → Q .non H2) : t { nx := fun _ H' => Q .non H', rt := Q } σ H := by
  refine h F1 σ B H e hs _ fun o O2 B2 H2 p e2 hs2 => ?_
  cases o with
  | nx ρ =>
    obtain ⟨fs, rfl, pf⟩ := p
    exact fun _ _ => q fs B2 H2 pf (e0.trans e2) hs2
  | ret d => exact False.elim p
  | bk ρ => exact False.elim p
  | ct ρ => exact False.elim p
theorem okX {W : List D → (D → Prop) → (Addr → Prop) → Prop} (F : Fun K x qual st f fd) (S : FnScope N ps (defScope st)) (hn : ps.length = n)
    (hb : ∀ (cdv : Value) (A : Around) (outer : List Env) (s : Shared) (H0 : Hp) (E : XK), Room k (A.deeper (envOfC qual (defScope st) s.heap.objs.size f cdv)) → ∃ t, PSs (cxOf (L2.CX Pr w) Pr w K mg base N qual (defScope st) f cdv A outer s H0 E) (defBody st) t ∧
      ∀ ds P PX, ds.length = n → W ds P PX → ∀ (F1 : Store) (B H : Hp) (σ : L2.St) (Q : VK), EnvR K B σ (rho0 N.length ds) → Hs K B H F1 →
      (∀ v d B2 H2, P d → Ex B B2 → Hs K B2 H2 F1 → Rep K B2 v d → Q v H2) → (∀ c B2 H2, PX c → Ex B B2 → Hs K B2 H2 F1 → E (.ref c) none H2) → t { nx := fun _ H' => Q .non H', rt := Q } σ H) :
    FnOk Pr w K mg base (L2.CX Pr w) (k + 1) f fd ps (spX K n W) := by
  refine F.okX S (fun vs H Q E h => ?_) (fun cdv A outer s H vs Q E hr h => ?_)
  · obtain ⟨F1, B, ds, P, PX, _, r, hl, _⟩ := h
    rw [r.length, hl, hn]
  · obtain ⟨t, ht, hw⟩ := hb cdv A outer s H E hr
    refine ⟨t, ht, ?_⟩
    obtain ⟨F1, B, ds, P, PX, hs, r, hl, hW, q, qx⟩ := h
    exact hw ds P PX hl hW F1 B H _ Q (envR_start r) hs q qx
/-- tests ahead of the rest, with the state in hand -/
theorem t_run {K : PySem.W.Frag} {tt : TT} {ρ : Rho} {O F : Store} {P : Bool → Store → Prop} {σ : L2.St} {B H : Hp} {Q : Bool → Hp → Prop} (h : wT K tt ρ O P) (e : EnvR K B σ ρ) (hs : Hs K B H (O ++ F)) (q : FinT K B F P Q) : tt σ H Q := h F σ B H e hs Q q
end
/-! ### an own class, its operators -/
structure KC (K : PySem.W.Frag) (C : Addr) : Prop where
  cl : Cls K C
  ha : PySem.W.findIn K (.ref C) "__class__" = some (some (.builtin "object.__class__"))
  hn : PySem.W.specialIn K (.builtin "object.__class__") "__get__" = some (some (.builtin "getset_descriptor.__get__"))
  htk : PySem.W.takesIn K (.builtin "object.__class__") = some true
  hm : PySem.W.mroIn K C (.type "object") = some true
/-- an operator of an own class: x of the class, y of the class too -/
def rOwn (C : Addr) (sp : Sp) (E : XK) : R2 := fun x y H Q => ∃ a b dx dy fs gs, x = .ref a ∧ y = .ref b ∧ H a = some (.ins C dx fs) ∧ H b = some (.ins C dy gs) ∧ sp [x, y] H Q E
def rOwn1 (C : Addr) (sp : Sp) (E : XK) : V → Hp → VK → Prop := fun x H Q => ∃ a dx fs, x = .ref a ∧ H a = some (.ins C dx fs) ∧ sp [x] H Q E
theorem back_of {X : Cx} {pins : List (Addr × Obj)} {σ : L2.St} {Q : VK} {u : Value} {s' : Shared} (h : EP X pins σ Q u s') : PySem.W.CmpBack (EP X pins σ Q) u s' := by
  obtain ⟨v, H', I, r, q⟩ := id h
  cases v with
  | non => cases (show u = Value.none from r); exact h
  | bl b => cases (show u = Value.bool b from r); exact h
  | int i => obtain ⟨t, rfl⟩ := (show ∃ t, u = Value.int i t from r); exact h
  | str z => obtain ⟨t, rfl⟩ := (show ∃ t, u = Value.str z t from r); exact h
  | byt z => obtain ⟨t, rfl⟩ := (show ∃ t, u = Value.bytes z t from r); exact h
  | flt z => obtain ⟨t, rfl⟩ := (show ∃ t, u = Value.float z t from r); exact h
  | ref a => cases (show u = Value.ref a from r); exact h
  | ty n => cases (show u = Value.type n from r); exact h
section
variable {X : Cx} {CX : CXT} {k : Nat} {f C : Addr} {fd : FuncData} {ps : List Str} {sp : Sp} {E : XK}
theorem op_own {op : Operator} (F : FnOk X.prog X.w X.K X.mg X.base CX k f fd ps sp) (hr : Room k X.A) (hb : Binds X.K fd ps []) (hx : Passes CX X E) (hc : PySem.W.selfFirst X.K C = true) (hs : PySem.W.findIn X.K (.ref C) (PySem.dunder op.info.2) = some (some (.ref f))) (hf : PySem.W.isFn X.K (.ref f) = true) :
    OpR X (binaryOp op) (rOwn C sp E) := by
  intro pins s σ H x y v u Q I rx ry h
  obtain ⟨a, b, dx, dy, fs, gs, rfl, rfl, ha, hb', q⟩ := h
  cases rx; cases ry
  obtain ⟨mA, J, _⟩ := ins_get I.hok ha
  obtain ⟨mB, J', _⟩ := ins_get I.hok hb'
  obtain ⟨od, J, _⟩ := J.look
  obtain ⟨od', J', _⟩ := J'.look
  obtain ⟨m, hF⟩ := I.fr
  refine PySem.W.binop_K hF I.ok.mod.kin J J'.type hc hs hf ?_
  exact thn (run_fn (vs := [.ref a, .ref b]) (us := [.ref a, .ref b]) F hr hb .nil hx I (.cons rfl (.cons rfl .nil)) q) fun _ _ z => back_of z
theorem op_cmpOwn {op : CmpOp} (F : FnOk X.prog X.w X.K X.mg X.base CX k f fd ps sp) (hr : Room k X.A) (hb : Binds X.K fd ps []) (hx : Passes CX X E) (hs : PySem.W.findIn X.K (.ref C) (cmpInfo op).2.1 = some (some (.ref f))) (hf : PySem.W.isFn X.K (.ref f) = true)
    (hop : ∀ v u, compareOp op v u = richCompare op v u) : OpR X (compareOp op) (rOwn C sp E) := by
  intro pins s σ H x y v u Q I rx ry h
  obtain ⟨a, b, dx, dy, fs, gs, rfl, rfl, ha, hb', q⟩ := h
  cases rx; cases ry
  rw [hop]
  obtain ⟨mA, J, _⟩ := ins_get I.hok ha
  obtain ⟨mB, J', _⟩ := ins_get I.hok hb'
  obtain ⟨od, J, _⟩ := J.look
  obtain ⟨od', J', _⟩ := J'.look
  obtain ⟨m, hF⟩ := I.fr
  refine PySem.W.cmp_K hr.units0 hF I.ok.mod.kin J J'.type (by simp [PySem.W.notFirst]) hs hf ?_
  exact thn (run_fn (vs := [.ref a, .ref b]) (us := [.ref a, .ref b]) F hr hb .nil hx I (.cons rfl (.cons rfl .nil)) q) fun _ _ z => back_of z
theorem un_own (F : FnOk X.prog X.w X.K X.mg X.base CX k f fd ps sp) (hr : Room k X.A) (hb : Binds X.K fd ps []) (hx : Passes CX X E) (hs : PySem.W.findIn X.K (.ref C) "__neg__" = some (some (.ref f))) (hf : PySem.W.isFn X.K (.ref f) = true) :
    UnR X (unaryOp .USub) (rOwn1 C sp E) := by
  intro pins s σ H x v Q I rx h
  obtain ⟨a, dx, fs, rfl, ha, q⟩ := h
  cases rx
  obtain ⟨mA, J, _⟩ := ins_get I.hok ha
  obtain ⟨od, J, _⟩ := J.look
  obtain ⟨m, hF⟩ := I.fr
  refine PySem.W.ksp_neg hF I.ok.mod.kin J hs hf ?_
  exact run_fn (vs := [.ref a]) (us := [.ref a]) F hr hb .nil hx I (.cons rfl .nil) q
end
section
variable {K : PySem.W.Frag} {O O1 : Store} {P : D → Store → Prop} {C : Addr} {E : XK}
theorem r_own {W : List D → (D → Prop) → Prop} {fs gs : List (Str × D)} (h : W [.ins C fs, .ins C gs] fun d => P d O) : wR K (rOwn C (spP K 2 W) E) (.ins C fs) (.ins C gs) O P := fun F v u B H rx ry hs Q q => by
  have rx' := rx
  have ry' := ry
  cases rx with
  | ins h1 r1 =>
    cases ry with
    | ins h2 r2 => exact ⟨_, _, _, _, _, _, rfl, rfl, hs.ex _ _ h1, hs.ex _ _ h2, O ++ F, B, _, _, hs, .cons rx' (.cons ry' .nil), rfl, h, fun v d B2 H2 p e hs2 rv => q v d O B2 H2 p e hs2 rv⟩
theorem r_own1 {W : List D → (D → Prop) → Prop} {fs : List (Str × D)} (h : W [.ins C fs] fun d => P d O) : wU K (rOwn1 C (spP K 1 W) E) (.ins C fs) O P := fun F v B H rx hs Q q => by
  have rx' := rx
  cases rx with
  | ins h1 r1 => exact ⟨_, _, _, rfl, hs.ex _ _ h1, O ++ F, B, _, _, hs, .cons rx' .nil, rfl, h, fun v d B2 H2 p e hs2 rv => q v d O B2 H2 p e hs2 rv⟩
end
/-! ### a method of an own class; built-ins -/
section
variable {K : PySem.W.Frag} {ρ : Rho} {O O1 : Store} {P : D → Store → Prop} {C : Addr} {E : XK} {n : Nat}
theorem e_meth {m : Str} {W : List D → (D → Prop) → Prop} {to : TE} {t : TA} (h : wE K to ρ O fun x O1 => ∃ fs, x = .ins C fs ∧ fs.lookup m = none ∧ wA K t ρ O1 fun ds O2 => ds.length + 1 = n ∧ W (x :: ds) fun d => P d O2) : wE K (tMeth C m (spP K n W) [] E to t) ρ O P := fun F σ B H e hs Q q =>
  h F σ B H e hs _ fun v x O1 B1 H1 p1 e1 hs1 rx => by
    obtain ⟨fs, rfl, hl, p⟩ := p1
    have rx' := rx
    cases rx with
    | ins h1 r1 =>
      refine ⟨_, _, _, rfl, hs1.ex _ _ h1, r1.look0 hl, p F σ B1 H1 (e.mono e1) hs1 _ fun vs ds O2 B2 H2 p2 e2 hs2 rs => ?_⟩
      exact ⟨O2 ++ F, B2, _ :: ds, _, hs2, by rw [List.append_nil]; exact .cons (rx'.mono e2) rs, p2.1, p2.2, fun v d B3 H3 p3 e3 hs3 rv => q v d O2 B3 H3 p3 ((e1.trans e2).trans e3) hs3 rv⟩
theorem e_methX {m : Str} {W : List D → (D → Prop) → (Addr → Prop) → Prop} {to : TE} {t : TA} (h : wE K to ρ O fun x O1 => ∃ fs, x = .ins C fs ∧ fs.lookup m = none ∧ wA K t ρ O1 fun ds O2 => ds.length + 1 = n ∧ W (x :: ds) (fun d => P d O2) fun _ => False) : wE K (tMeth C m (spX K n W) [] E to t) ρ O P := fun F σ B H e hs Q q =>
  h F σ B H e hs _ fun v x O1 B1 H1 p1 e1 hs1 rx => by
    obtain ⟨fs, rfl, hl, p⟩ := p1
    have rx' := rx
    cases rx with
    | ins h1 r1 =>
      refine ⟨_, _, _, rfl, hs1.ex _ _ h1, r1.look0 hl, p F σ B1 H1 (e.mono e1) hs1 _ fun vs ds O2 B2 H2 p2 e2 hs2 rs => ?_⟩
      exact ⟨O2 ++ F, B2, _ :: ds, _, _, hs2, by rw [List.append_nil]; exact .cons (rx'.mono e2) rs, p2.1, p2.2, fun v d B3 H3 p3 e3 hs3 rv => q v d O2 B3 H3 p3 ((e1.trans e2).trans e3) hs3 rv, fun _ _ _ z => z.elim⟩
theorem c_len {d : D} {ds : List D} (hd : d = .lst ds ∨ d = .tup ds ∨ d = .fz ds) (p : P (.int ds.length) O) : wC K (Evl.rLenS K) [d] O P := fun F vs B H r hs Q q => by
  cases r with
  | cons r1 r =>
    cases r
    rcases hd with rfl | rfl | rfl
    · cases r1 with
      | lst h r => exact ⟨_, _, rfl, .inl (Evl.sq_of (hs.ex _ _ h)), by rw [r.length]; exact q.here hs (.raw _) p⟩
    · cases r1 with
      | tup h r => exact ⟨_, _, rfl, .inr (Evl.ex_t hs.ex h), by rw [r.length]; exact q.here hs (.raw _) p⟩
    · cases r1 with
      | fz h r => exact ⟨_, _, rfl, .inl (Evl.ex_l hs.ex h), by rw [r.length]; exact q.here hs (.raw _) p⟩
def rInt1 : List V → Hp → VK → Prop := fun xs H Q => (∃ i, xs = [.int i] ∧ Q (.int i) H) ∨ ∃ k, xs = [.bl k] ∧ Q (.int (if k then 1 else 0)) H
theorem c_int {i : Int} (p : P (.int i) O) : wC K rInt1 [.int i] O P := fun F vs B H r hs Q q => by
  cases r with
  | cons r1 r =>
    cases r; cases r1
    exact .inl ⟨i, rfl, q.here hs (.raw _) p⟩
theorem c_intB {b : Bool} (p : P (.int (if b then 1 else 0)) O) : wC K rInt1 [.bl b] O P := fun F vs B H r hs Q q => by
  cases r with
  | cons r1 r =>
    cases r; cases r1
    exact .inr ⟨b, rfl, q.here hs (.raw _) p⟩
def rAbs : List V → Hp → VK → Prop := fun xs H Q => ∃ i, xs = [.int i] ∧ Q (.int (if i < 0 then -i else i)) H
theorem c_abs {i : Int} (p : P (.int (if i < 0 then -i else i)) O) : wC K rAbs [.int i] O P := fun F vs B H r hs Q q => by
  cases r with
  | cons r1 r =>
    cases r; cases r1
    exact ⟨i, rfl, q.here hs (.raw _) p⟩
theorem c_gcd {i j : Int} (p : P (.int ((Nat.gcd i.natAbs j.natAbs : Nat) : Int)) O) : wC K rGcd [.int i, .int j] O P := fun F vs B H r hs Q q => by
  cases r with
  | cons r1 r =>
    cases r with
    | cons r2 r =>
      cases r; cases r1; cases r2
      exact ⟨i, j, rfl, q.here hs (.raw _) p⟩
/-- tuple(xs), list(xs) -/
def rTupOf (K : PySem.W.Frag) : List V → Hp → VK → Prop := fun xs H Q => ∃ p ys, xs = [.ref p] ∧ ((SqL K H p ys ∧ ∀ l, H l = none → Q (.ref l) (upd H l (.tup ys))) ∨ (SqT K H p ys ∧ Q (.ref p) H))
theorem c_tup {ds : List D} (p : P (.tup ds) O) : wC K (rTupOf K) [.lst ds] O P := fun F vs B H r hs Q q => by
  cases r with
  | cons r1 r =>
    cases r
    cases r1 with
    | lst h r =>
      refine ⟨_, _, rfl, .inl ⟨Evl.sq_of (hs.ex _ _ h), fun l hl => ?_⟩⟩
      obtain ⟨hs2, e2⟩ := hs.new (o := .tup _) hl
      exact q _ _ O _ _ p e2 hs2 (.tup (Evl.st_of upd_same) (r.mono e2))
/-- the class of a datum -/
inductive TyD (K : PySem.W.Frag) : D → Value → Prop where
  | non : TyD K .non (.type "NoneType")
  | bl (b : Bool) : TyD K (.bl b) (.type "bool")
  | int (i : Int) : TyD K (.int i) (.type "int")
  | str (z : Str) : TyD K (.str z) (.type "str")
  | tup (ds : List D) : TyD K (.tup ds) (.type "tuple")
  | lst (ds : List D) : TyD K (.lst ds) (.type "list")
  | ins (C : Addr) (fs : List (Str × D)) (k : KC K C) : TyD K (.ins C fs) (.ref C)
theorem TyD.ok {B H : Hp} {v : V} {d : D} {t : Value} (y : TyD K d t) (r : Rep K B v d) (e : Ex B H) : TyX K H v t := by
  cases y with
  | non => cases r; exact .base .non
  | bl b => cases r; exact .base (.bl b)
  | int i => cases r; exact .base (.int i)
  | str z => cases r; exact .base (.str z)
  | tup ds =>
    cases r with
    | tup h r =>
      rcases h with (h | ⟨o, h⟩) | ⟨o, its, n, h1, h2, _⟩
      · exact .base (.tup (e _ _ h))
      · exact .fTuple (e _ _ h)
      · exact .kTuple h1 h2
  | lst ds =>
    cases r with
    | lst h r => exact .base (.lst (e _ _ h))
  | ins C fs k =>
    cases r with
    | ins h r => exact .base (.ins (e _ _ h) k.cl k.ha k.hn k.htk k.hm)
theorem c_isi {d : D} {c : V} {t u : Value} {b : Bool} (y : TyD K d t) (hc : ClsV c u) (hk : PySem.W.kitOne K t u = some b) (p : P (.bl b) O) : wC K (rIsi K) [d, .raw c] O P := fun F vs B H r hs Q q => by
  cases r with
  | cons r1 r =>
    cases r with
    | cons r2 r =>
      cases r; cases r2
      exact ⟨_, c, t, u, b, rfl, hc, y.ok r1 hs.ex, hk, q.here hs (.raw _) p⟩
end
end G
/-! Quotients: the rational numbers of core Lean. -/
namespace G
open PySem L2
/-- a quotient of the class at C -/
abbrev dQ (C : Addr) (q : Rat) : D := .ins C [("top", .int q.num), ("bottom", .int (q.den : Int))]
theorem gcd_nat (t b : Int) : ((Nat.gcd t.natAbs b.natAbs : Nat) : Int) = ((b.gcd t : Nat) : Int) := by
  rw [Int.gcd_comm]
  rfl
/-- lowest terms as the program reckons them -/
def common (t b : Int) : Int := if b < 0 then -((Nat.gcd t.natAbs b.natAbs : Nat) : Int) else ((Nat.gcd t.natAbs b.natAbs : Nat) : Int)
theorem gcd_pos' {t b : Int} (hb : b ≠ 0) : 0 < Nat.gcd t.natAbs b.natAbs := Nat.gcd_pos_of_pos_right _ (by omega)
theorem common_ne {t b : Int} (hb : b ≠ 0) : common t b ≠ 0 := by
  have := gcd_pos' (t := t) hb
  unfold common
  split <;> omega
theorem common_le {t b : Int} (hb : b ≠ 0) : (common t b).natAbs ≤ b.natAbs := by
  have h1 : Nat.gcd t.natAbs b.natAbs ≤ b.natAbs := Nat.gcd_le_right _ (by omega)
  unfold common
  split <;> omega
theorem dvd_top (t b : Int) : ((Nat.gcd t.natAbs b.natAbs : Nat) : Int) ∣ t := by
  have := Nat.gcd_dvd_left t.natAbs b.natAbs
  exact Int.ofNat_dvd_left.mpr this
theorem dvd_bot (t b : Int) : ((Nat.gcd t.natAbs b.natAbs : Nat) : Int) ∣ b := by
  have := Nat.gcd_dvd_right t.natAbs b.natAbs
  exact Int.ofNat_dvd_left.mpr this
theorem quo_num {t b : Int} (hb : b ≠ 0) : t.fdiv (common t b) = (Rat.divInt t b).num := by
  rw [Rat.num_divInt, ← gcd_nat]
  have hd := dvd_top t b
  unfold common
  split
  · rename_i h
    rw [Int.fdiv_eq_ediv_of_dvd (Int.neg_dvd.mpr hd), Int.sign_eq_neg_one_of_neg h, Int.ediv_neg, Int.neg_mul, Int.one_mul, Int.neg_ediv_of_dvd hd]
  · rename_i h
    rw [Int.fdiv_eq_ediv_of_dvd hd, Int.sign_eq_one_of_pos (by omega), Int.one_mul]
theorem quo_den {t b : Int} (hb : b ≠ 0) : b.fdiv (common t b) = ((Rat.divInt t b).den : Int) := by
  rw [Rat.den_divInt, if_neg hb]
  have hg : b.gcd t = Nat.gcd t.natAbs b.natAbs := by rw [Int.gcd_comm]; rfl
  rw [hg]
  have hd := dvd_bot t b
  unfold common
  split
  · rename_i h
    rw [Int.fdiv_eq_ediv_of_dvd (Int.neg_dvd.mpr hd), Int.ediv_neg]
    have e : b = -(b.natAbs : Int) := by omega
    rw [Int.natCast_ediv]
    conv => lhs; rw [e]
    rw [Int.neg_ediv_of_dvd (by rw [← Int.dvd_neg, ← e]; exact hd), Int.neg_neg]
    simp
  · rename_i h
    rw [Int.fdiv_eq_ediv_of_dvd hd]
    have e : b = (b.natAbs : Int) := by omega
    rw [Int.natCast_ediv]
    conv => lhs; rw [e]
    simp
theorem den_ne (x : Rat) : (x.den : Int) ≠ 0 := by have := x.den_nz; omega
theorem den_mul_ne (x y : Rat) : (x.den : Int) * (y.den : Int) ≠ 0 := Int.mul_ne_zero (den_ne x) (den_ne y)
theorem q_add (x y : Rat) : Rat.divInt (x.num * (y.den : Int) + y.num * (x.den : Int)) ((x.den : Int) * (y.den : Int)) = x + y := by
  rw [← Rat.divInt_add_divInt _ _ (den_ne x) (den_ne y), Rat.num_divInt_den, Rat.num_divInt_den]
theorem q_sub (x y : Rat) : Rat.divInt (x.num * (y.den : Int) - y.num * (x.den : Int)) ((x.den : Int) * (y.den : Int)) = x - y := by
  rw [← Rat.divInt_sub_divInt _ _ (den_ne x) (den_ne y), Rat.num_divInt_den, Rat.num_divInt_den]
theorem q_mul (x y : Rat) : Rat.divInt (x.num * y.num) ((x.den : Int) * (y.den : Int)) = x * y := by
  rw [← Rat.divInt_mul_divInt _ _, Rat.num_divInt_den, Rat.num_divInt_den]
theorem q_neg (x : Rat) : Rat.divInt (-x.num) (x.den : Int) = -x := by
  rw [← Rat.neg_divInt, Rat.num_divInt_den]
theorem q_over (x y : Rat) : Rat.divInt (x.num * (y.den : Int)) ((x.den : Int) * y.num) = x / y := by
  rw [← Rat.divInt_mul_divInt, Rat.num_divInt_den, Rat.div_def, Rat.inv_def]
theorem q_whole (n : Int) : Rat.divInt n 1 = (n : Rat) := by
  rw [Rat.divInt_eq_div, Rat.intCast_one]
  grind
theorem q_eq (x y : Rat) : (decide (x.num = y.num) && decide ((x.den : Int) = (y.den : Int))) = decide (x = y) := by
  rw [Bool.eq_iff_iff]
  simp
  constructor
  · rintro ⟨h1, h2⟩
    exact Rat.ext h1 (by omega)
  · rintro rfl
    exact ⟨rfl, rfl⟩
theorem q_lt (x y : Rat) : decide (x.num * (y.den : Int) < y.num * (x.den : Int)) = decide (x < y) := by
  rw [Bool.eq_iff_iff]
  simp only [decide_eq_true_eq]
  exact (Rat.lt_iff x y).symm
theorem q_le (x y : Rat) : decide (x.num * (y.den : Int) ≤ y.num * (x.den : Int)) = decide (x ≤ y) := by
  rw [Bool.eq_iff_iff]
  simp only [decide_eq_true_eq]
  exact (Rat.le_iff x y).symm
/-! ### sizes -/
def bits (q : Rat) (n : Nat) : Prop := q.num.natAbs < 2 ^ n ∧ q.den < 2 ^ n
theorem divInt_le {t b : Int} (h : b ≠ 0) : (Rat.divInt t b).num.natAbs ≤ t.natAbs ∧ (Rat.divInt t b).den ≤ b.natAbs := by
  constructor
  · rw [← quo_num h]
    have hd := dvd_top t b
    have hc : common t b ∣ t := by
      unfold common
      split
      · exact Int.neg_dvd.mpr hd
      · exact hd
    rw [Int.fdiv_eq_ediv_of_dvd hc]
    have hn := common_ne (t := t) h
    generalize common t b = c at hc hn
    obtain ⟨k, rfl⟩ := hc
    rw [Int.mul_ediv_cancel_left _ hn, Int.natAbs_mul]
    exact Nat.le_mul_of_pos_left _ (by omega)
  · rw [Rat.den_divInt, if_neg h]
    exact Nat.div_le_self _ _
theorem bits_divInt {t b : Int} {n : Nat} (h : b ≠ 0) (h1 : t.natAbs < 2 ^ n) (h2 : b.natAbs < 2 ^ n) : bits (Rat.divInt t b) n := by
  have := divInt_le (t := t) h
  exact ⟨Nat.lt_of_le_of_lt this.1 h1, Nat.lt_of_le_of_lt this.2 h2⟩
theorem bits_mono {q : Rat} {m n : Nat} (h : bits q m) (k : m ≤ n) : bits q n := by
  have : 2 ^ m ≤ 2 ^ n := Nat.pow_le_pow_right (by omega) k
  exact ⟨Nat.lt_of_lt_of_le h.1 this, Nat.lt_of_lt_of_le h.2 this⟩
theorem mul_lt' {a b m n : Nat} (h1 : a < 2 ^ m) (h2 : b < 2 ^ n) : a * b < 2 ^ (m + n) := by
  rw [Nat.pow_add]
  exact Nat.mul_lt_mul'' h1 h2
theorem natAbs_mul_lt {a b : Int} {m n : Nat} (h1 : a.natAbs < 2 ^ m) (h2 : b.natAbs < 2 ^ n) : (a * b).natAbs < 2 ^ (m + n) := by
  rw [Int.natAbs_mul]
  exact mul_lt' h1 h2
theorem natAbs_add_lt {a b : Int} {n : Nat} (h1 : a.natAbs < 2 ^ n) (h2 : b.natAbs < 2 ^ n) : (a + b).natAbs < 2 ^ (n + 1) := by
  have : 2 ^ (n + 1) = 2 ^ n + 2 ^ n := by rw [Nat.pow_succ]; omega
  omega
theorem natAbs_sub_lt {a b : Int} {n : Nat} (h1 : a.natAbs < 2 ^ n) (h2 : b.natAbs < 2 ^ n) : (a - b).natAbs < 2 ^ (n + 1) := by
  have : 2 ^ (n + 1) = 2 ^ n + 2 ^ n := by rw [Nat.pow_succ]; omega
  omega
theorem bits_den {x : Rat} {m : Nat} (h : bits x m) : ((x.den : Int)).natAbs < 2 ^ m := by
  have := h.2
  simpa using this
theorem lt_succ {a n : Nat} (h : a < 2 ^ n) : a < 2 ^ (n + 1) := Nat.lt_of_lt_of_le h (Nat.pow_le_pow_right (by omega) (by omega))
theorem bits_add {x y : Rat} {m n : Nat} (h : bits x m) (k : bits y n) : bits (x + y) (m + n + 1) := by
  rw [← q_add]
  refine bits_divInt (den_mul_ne x y) ?_ (lt_succ (natAbs_mul_lt (bits_den h) (bits_den k)))
  refine natAbs_add_lt (natAbs_mul_lt h.1 (bits_den k)) ?_
  rw [Nat.add_comm]
  exact natAbs_mul_lt k.1 (bits_den h)
theorem bits_sub {x y : Rat} {m n : Nat} (h : bits x m) (k : bits y n) : bits (x - y) (m + n + 1) := by
  rw [← q_sub]
  refine bits_divInt (den_mul_ne x y) ?_ (lt_succ (natAbs_mul_lt (bits_den h) (bits_den k)))
  refine natAbs_sub_lt (natAbs_mul_lt h.1 (bits_den k)) ?_
  rw [Nat.add_comm]
  exact natAbs_mul_lt k.1 (bits_den h)
theorem bits_mul {x y : Rat} {m n : Nat} (h : bits x m) (k : bits y n) : bits (x * y) (m + n) := by
  rw [← q_mul]
  exact bits_divInt (den_mul_ne x y) (natAbs_mul_lt h.1 k.1) (natAbs_mul_lt (bits_den h) (bits_den k))
theorem bits_neg {x : Rat} {m : Nat} (h : bits x m) : bits (-x) m := by
  unfold bits
  rw [Rat.neg_num, Rat.neg_den, Int.natAbs_neg]
  exact h
theorem bits_over {x y : Rat} {m n : Nat} (hy : y ≠ 0) (h : bits x m) (k : bits y n) : bits (x / y) (m + n) := by
  rw [← q_over]
  have : y.num ≠ 0 := fun e => hy (Rat.num_eq_zero.mp e)
  exact bits_divInt (Int.mul_ne_zero (den_ne x) this) (natAbs_mul_lt h.1 (bits_den k)) (natAbs_mul_lt (bits_den h) k.1)
theorem bits_whole {n : Int} {m : Nat} (h : n.natAbs < 2 ^ m) (hm : 0 < m) : bits (n : Rat) m := by
  refine ⟨by simpa using h, ?_⟩
  have : (2 : Nat) ^ 1 ≤ 2 ^ m := Nat.pow_le_pow_right (by omega) hm
  simp
  omega
theorem bits_zero : bits 0 1 := ⟨by decide, by decide⟩
theorem bits_one : bits 1 1 := ⟨by decide, by decide⟩
/-- what products of a quotient's parts ask -/
theorem wide_q {a b : Int} {m n : Nat} (h1 : a.natAbs < 2 ^ m) (h2 : b.natAbs < 2 ^ n) (h : m + n ≤ 900000) : CMulW a b :=
  wide_mul (lt_succ h1) (lt_succ h2) (by omega) (by omega) (by omega)
theorem small_of {a n : Nat} (h : a < 2 ^ n) (hn : n ≤ 8990) : a < 2 ^ 8990 := Nat.lt_of_lt_of_le h (Nat.pow_le_pow_right (by omega) hn)
theorem one_small : (1 : Int).natAbs < 2 ^ 8990 := small_of (n := 1) (by decide) (by decide)
theorem dec_ints {i j : Int} : decide (V.int i = V.int j) = decide (i = j) := by
  rw [Bool.eq_iff_iff]
  simp
/-- // by a number other than 0 -/
def CDivG (_ j : Int) : Prop := j ≠ 0 ∧ j.natAbs.log2 < 9000
theorem op_fdivG {X : Cx} : OpR X (binaryOp .FloorDiv) (rI CDivG fun i j => .int (i.fdiv j)) := opI fun _ _ _ _ _ _ _ hc q => PyProof.Rows.floordiv_int hc.1 q (.inl (PyProof.noPylong_of_log2 hc.2))
theorem cdivG {i j : Int} (h : j ≠ 0) {n : Nat} (hb : j.natAbs < 2 ^ n) (hn : n ≤ 8999) : CDivG i j := by
  refine ⟨h, ?_⟩
  have := PySem.Flt.log2_lt_of (by omega) (lt_succ hb)
  omega
end G
/-! The law's own ends; the script's cells. -/
namespace G
open PySem L2 PySem.Spec PyProof.Rows
def spLaw (K : PySem.W.Frag) : Sp := fun vs H Q _ => ∃ (a : Addr) (ns : List Int), vs = [.ref a] ∧ SqL K H a (ns.map V.int) ∧ ns.length ≤ 63 ∧ ∀ H', Q (.bl true) H'
def scr (ns : List Int) : D := .fz ((ns.map V.int).map D.raw)
section
variable {Pr : Program} {w : World} {K : PySem.W.Frag} {mg : Str → Option Value} {base : Heap} {x qual : Str} {st : Stmt} {f : Addr} {fd : FuncData} {N ps : List Str} {k n : Nat}
theorem okLaw (F : Fun K x qual st f fd) (S : FnScope N ps (defScope st)) (hn : ps.length = 1)
    (hb : ∀ (cdv : Value) (A : Around) (outer : List Env) (s : Shared) (H : Hp) (E : XK), Room k (A.deeper (envOfC qual (defScope st) s.heap.objs.size f cdv)) → ∃ t, PSs (cxOf CX0 Pr w K mg base N qual (defScope st) f cdv A outer s H E).nox (defBody st) t ∧
      ∀ ns : List Int, ns.length ≤ 63 → wS K t (rho0 N.length [scr ns]) [] (retP fun d => d = .bl true)) : FnOk Pr w K mg base CX0 (k + 1) f fd ps (spLaw K) := by
  refine F.ok S (fun vs H Q E h => ?_) (fun cdv A outer s H vs Q E hr h => ?_)
  · obtain ⟨a, ns, rfl, _⟩ := h
    exact hn.symm
  · obtain ⟨t, ht, hw⟩ := hb cdv A outer s H E hr
    refine ⟨t, ht, ?_⟩
    obtain ⟨a, ns, rfl, hS, hl, q⟩ := h
    have hs : Hs K H H ([] ++ []) := ⟨Evl.Ex.refl H, (fun p hp => absurd hp (by simp)), List.nodup_nil⟩
    refine hw ns hl [] _ H H (envR_start (.cons (.fz hS (Reps.raws _)) .nil)) hs _ fun o O2 B2 H2 p e2 hs2 => ?_
    cases o with
    | nx ρ => exact absurd p (by intro z; cases z)
    | ret d =>
      intro v rv
      have p' : d = .bl true := p
      subst p'
      cases rv
      exact q H2
    | bk ρ => exact False.elim p
    | ct ρ => exact False.elim p
end
/-- the cell of the script -/
def cell (ns : List Int) (k : Int) : Int := ns.getD k.toNat 0
def W_cell (ds : List D) (P : D → Prop) : Prop := ∃ (ns : List Int) (k : Int), ds = [scr ns, .int k] ∧ 0 ≤ k ∧ P (.int (cell ns k))
theorem atI_nat' {α : Type} {xs : List α} {k : Int} (h0 : 0 ≤ k) (h : k < xs.length) : atI xs k = xs[k.toNat]? := by
  unfold atI ixN
  rw [if_pos h0, if_pos (by omega)]
  rfl
theorem cell_lt {ns : List Int} {k : Int} (h0 : 0 ≤ k) (h : k < ns.length) : atI ((ns.map V.int).map D.raw) k = some (.int (cell ns k)) := by
  rw [atI_nat' h0 (by simpa using h)]
  unfold cell
  rw [List.getElem?_map, List.getElem?_map]
  have : k.toNat < ns.length := by omega
  rw [List.getElem?_eq_getElem this]
  simp [this]
theorem cell_ge {ns : List Int} {k : Int} (h : ¬ k < ns.length) (h0 : 0 ≤ k) : cell ns k = 0 := by
  unfold cell
  have : ns.length ≤ k.toNat := by omega
  simp [List.getD, List.getElem?_eq_none this]
theorem scr_len (ns : List Int) : ((ns.map V.int).map D.raw).length = ns.length := by simp
/-- numbers up to 10 ** 24 -/
def number (ns : List Int) (k : Int) : Int := cell ns k % (2 * 10 ^ 24 + 1) - 10 ^ 24
theorem number_lt (ns : List Int) (k : Int) : (number ns k).natAbs < 2 ^ 80 := by
  unfold number
  have h1 := Int.emod_nonneg (cell ns k) (show (2 * 10 ^ 24 + 1 : Int) ≠ 0 by decide)
  have h2 := Int.emod_lt_of_pos (cell ns k) (show (0 : Int) < 2 * 10 ^ 24 + 1 by decide)
  have e : (10 : Int) ^ 24 = 1000000000000000000000000 := by decide
  have e2 : (2 : Nat) ^ 80 = 1208925819614629174706176 := by decide
  rw [e] at *
  rw [e2]
  omega
def W_number (ds : List D) (P : D → Prop) : Prop := ∃ (ns : List Int) (k : Int), ds = [scr ns, .int k] ∧ 0 ≤ k ∧ P (.int (number ns k))
theorem cpow24 : CPow 10 24 := by unfold CPow; decide
theorem cpow18 : CPow 10 18 := by unfold CPow; decide
theorem cmul24 : CMulW 2 (10 ^ Int.toNat 24) := by unfold CMulW; decide +kernel
def W_sameB (ds : List D) (P : D → Prop) : Prop := ∃ x y : Bool, ds = [.bl x, .bl y] ∧ P (.bl (decide (x = y)))
/-! ### tests that hold -/
theorem or_step {p : Prop} [Decidable p] {A B : Prop} (hp : p) (h : A) : ((!decide p) = false → A) ∧ ((!decide p) = true → B) := ⟨fun _ => h, fun z => by simp [hp] at z⟩
theorem or_last {p : Prop} [Decidable p] {A B : Prop} (hp : p) (h : B) : ((!decide p) = true → A) ∧ ((!decide p) = false → B) := ⟨fun z => by simp [hp] at z, fun _ => h⟩
theorem small_wide {a b : Int} (h1 : a.natAbs < 2 ^ 64) (h2 : b.natAbs < 2 ^ 64) : CMulW a b := wide_q h1 h2 (by omega)
/-! ### the quotients' own promises -/
def W_Qinit (CB : Addr) (ds : List D) (PF : List (Str × D) → Prop) (PX : Addr → Prop) : Prop := ∃ t b : Int, ds = [.int t, .int b] ∧ (b = 0 → PX CB) ∧ (b ≠ 0 → b.natAbs < 2 ^ 8990 ∧ PF [("top", .int (Rat.divInt t b).num), ("bottom", .int ((Rat.divInt t b).den : Int))])
def W_q2 (C : Addr) (f : Rat → Rat → D) (ds : List D) (P : D → Prop) : Prop := ∃ (x y : Rat) (m n : Nat), ds = [dQ C x, dQ C y] ∧ bits x m ∧ bits y n ∧ m + n ≤ 8900 ∧ P (f x y)
def W_q1 (C : Addr) (f : Rat → D) (ds : List D) (P : D → Prop) : Prop := ∃ (x : Rat) (m : Nat), ds = [dQ C x] ∧ bits x m ∧ m ≤ 8900 ∧ P (f x)
def W_over (C CB : Addr) (ds : List D) (P : D → Prop) (PX : Addr → Prop) : Prop := ∃ (x y : Rat) (m n : Nat), ds = [dQ C x, dQ C y] ∧ bits x m ∧ bits y n ∧ m + n ≤ 8900 ∧ (y = 0 → PX CB) ∧ (y ≠ 0 → P (dQ C (x / y)))
def W_whole (C : Addr) (ds : List D) (P : D → Prop) : Prop := ∃ n : Int, ds = [.int n] ∧ P (dQ C (n : Rat))
def W_q0 (C : Addr) (q : Rat) (ds : List D) (P : D → Prop) : Prop := ds = [] ∧ P (dQ C q)
/-- a sum of quotients, from the left; its size -/
def sumQ (qs : List Rat) : Rat := qs.foldl (· + ·) 0
def W_total (C : Addr) (ds : List D) (P : D → Prop) : Prop := ∃ (qs : List Rat) (m : Nat), (ds = [.lst (qs.map (dQ C))] ∨ ds = [.tup (qs.map (dQ C))]) ∧ (∀ q ∈ qs, bits q m) ∧ (m + 1) * (qs.length + 1) ≤ 8000 ∧ P (dQ C (sumQ qs))
theorem sumQ_take {qs : List Rat} {i : Nat} {q : Rat} (h : qs[i]? = some q) : sumQ (qs.take (i + 1)) = sumQ (qs.take i) + q := by
  unfold sumQ
  have hi := (List.getElem?_eq_some_iff.mp h).1
  have e : qs.take (i + 1) = qs.take i ++ [q] := by
    rw [List.take_succ, h]
    rfl
  rw [e, List.foldl_append]
  rfl
theorem bits_sumQ {m : Nat} : ∀ (qs : List Rat) (i : Nat), (∀ q ∈ qs, bits q m) → i ≤ qs.length → bits (sumQ (qs.take i)) ((m + 1) * i + 1)
  | qs, 0, _, _ => bits_zero
  | qs, i + 1, h, hi => by
    have hlt : i < qs.length := by omega
    rw [sumQ_take (List.getElem?_eq_getElem hlt)]
    refine bits_mono (bits_add (bits_sumQ qs i h (by omega)) (h _ (List.getElem_mem hlt))) ?_
    rw [Nat.mul_add]
    omega
end G
/-! Euclid, lowest terms, equal tuples, streams of digits, comprehensions that map. -/
namespace G
open PySem L2 PySem.Spec PyProof.Rows
/-! ### Euclid in 600 turns -/
def euc (s : Nat × Nat) : Nat × Nat := if 0 < s.2 then (s.2, s.1 % s.2) else s
def eucs : Nat → Nat × Nat → Nat × Nat
  | 0, s => s
  | n + 1, s => euc (eucs n s)
theorem euc_gcd (s : Nat × Nat) : Nat.gcd (euc s).1 (euc s).2 = Nat.gcd s.1 s.2 := by
  unfold euc
  split
  · show Nat.gcd s.2 (s.1 % s.2) = _
    rw [Nat.gcd_comm s.1 s.2, Nat.gcd_rec s.2 s.1, Nat.gcd_comm]
  · rfl
theorem eucs_gcd (s : Nat × Nat) : ∀ n, Nat.gcd (eucs n s).1 (eucs n s).2 = Nat.gcd s.1 s.2
  | 0 => rfl
  | n + 1 => (euc_gcd _).trans (eucs_gcd s n)
/-- two turns halve the second number -/
theorem euc_half {s : Nat × Nat} {m : Nat} (h : s.2 < 2 ^ (m + 1)) : (euc (euc s)).2 < 2 ^ m := by
  have h2 : 2 ^ (m + 1) = 2 * 2 ^ m := by rw [Nat.pow_succ]; omega
  have hp : 0 < 2 ^ m := Nat.pow_pos (by decide)
  obtain ⟨a, b⟩ := s
  simp only at h
  by_cases hb : 0 < b
  · have e1 : euc (a, b) = (b, a % b) := if_pos hb
    rw [e1]
    have hr : a % b < b := Nat.mod_lt _ hb
    by_cases hr0 : 0 < a % b
    · have e2 : euc (b, a % b) = (a % b, b % (a % b)) := if_pos hr0
      rw [e2]
      show b % (a % b) < 2 ^ m
      have h3 : b % (a % b) < a % b := Nat.mod_lt _ hr0
      have h4 : b % (a % b) ≤ b - a % b := by
        rw [Nat.mod_eq_sub_mod (Nat.le_of_lt hr)]
        exact Nat.mod_le _ _
      omega
    · have e2 : euc (b, a % b) = (b, a % b) := if_neg hr0
      rw [e2]
      show a % b < 2 ^ m
      omega
  · have e1 : euc (a, b) = (a, b) := if_neg hb
    rw [e1, e1]
    show b < 2 ^ m
    omega
theorem eucs_small (s : Nat × Nat) : ∀ (k m : Nat), s.2 < 2 ^ (m + k) → (eucs (2 * k) s).2 < 2 ^ m
  | 0, m, h => h
  | k + 1, m, h => by
    have e : eucs (2 * (k + 1)) s = euc (euc (eucs (2 * k) s)) := rfl
    rw [e]
    exact euc_half (eucs_small s k (m + 1) (by rw [show m + 1 + k = m + (k + 1) by omega]; exact h))
theorem eucs_end {a b : Nat} (h : b < 2 ^ 300) : (eucs 600 (a, b)).1 = Nat.gcd a b := by
  have h1 := eucs_small (a, b) 300 0 (by simpa using h)
  have h2 := eucs_gcd (a, b) 600
  have h3 : (eucs 600 (a, b)).2 = 0 := by
    have : (eucs (2 * 300) (a, b)).2 < 1 := h1
    have e : 2 * 300 = 600 := rfl
    rw [e] at this
    omega
  rw [h3, Nat.gcd_zero_right] at h2
  exact h2
def W_part (ds : List D) (P : D → Prop) : Prop := ∃ a b : Int, ds = [.int a, .int b] ∧ b.natAbs < 2 ^ 300 ∧ P (.int ((Nat.gcd a.natAbs b.natAbs : Nat) : Int))
def W_least (ds : List D) (P : D → Prop) : Prop := ∃ t b : Int, ds = [.int t, .int b] ∧ b ≠ 0 ∧ b.natAbs < 2 ^ 300 ∧ P (.tup [.int (Rat.divInt t b).num, .int ((Rat.divInt t b).den : Int)])
def W_is (C : Addr) (ds : List D) (P : D → Prop) : Prop := ∃ (q : Rat) (t b : Int), ds = [dQ C q, .int t, .int b] ∧ b ≠ 0 ∧ b.natAbs < 2 ^ 300 ∧ P (.bl (decide (q = Rat.divInt t b)))
def W_isInt (ds : List D) (P : D → Prop) : Prop := ∃ i : Int, ds = [.int i] ∧ P (.bl true)
theorem abs_cast (i : Int) : (if i < 0 then -i else i) = ((i.natAbs : Nat) : Int) := by omega
theorem lt300 {a n : Nat} (h : a < 2 ^ n) (hn : n ≤ 300) : a < 2 ^ 300 := Nat.lt_of_lt_of_le h (Nat.pow_le_pow_right (by omega) hn)
/-! ### tuples of two ints -/
theorem eqv2 (a b c d : Int) : PyData.eqv (.tuple [.int a, .int b]) (.tuple [.int c, .int d]) = (decide (a = c) && decide (b = d)) := by
  simp [PyData.eqv, PyData.eqvAll, Bool.beq_eq_decide_eq]
theorem shaped2 (a b : Int) : SeqAt.shaped (.tuple [.int a, .int b]) = true := by
  simp [SeqAt.shaped, PyData.canLay0, PyData.depth, PyData.canLayAll0, PyData.depthAll]
section
variable {K : PySem.W.Frag} {ρ : Rho} {O O1 : Store} {P : D → Store → Prop}
theorem dp2 {B H : Hp} {v : V} {a b : Int} (r : Rep K B v (.tup [.int a, .int b])) (e : Ex B H) : Dp K H v (.tuple [.int a, .int b]) := by
  cases r with
  | tup h r =>
    cases r with
    | cons r1 r =>
      cases r with
      | cons r2 r =>
        cases r; cases r1; cases r2
        exact .tup (Evl.ex_t e h) (.cons (.int _) (.cons (.int _) .nil))
theorem r_eqT2 {a b c d : Int} (p : P (.bl (decide (a = c) && decide (b = d))) O) : wR K (rEqD K) (.tup [.int a, .int b]) (.tup [.int c, .int d]) O P := fun F v u B H rx ry hs Q q =>
  ⟨_, _, dp2 rx hs.ex, dp2 ry hs.ex, shaped2 a b, shaped2 c d, by rw [eqv2]; exact q.here hs (.raw _) p⟩
/-! ### a comprehension that maps -/
theorem e_lcM {wi : TI} {g : TG} {te : TE} {vs : List Nat} (hg : GOnly g vs) (mg : GMono g) (h : wI K wi ρ O fun ds O1 => ds.length < 90000 ∧ ∃ es : List D, es.length = ds.length ∧
    (∀ (i : Nat) (d e : D), ds[i]? = some d → es[i]? = some e → wG K g d (wipeR ρ vs) O1 fun ρ2 O2 => O2 = O1 ∧ wE K te ρ2 O1 fun y O4 => y = e ∧ O4 = O1) ∧ P (.lst es) O1) : wE K (tLc wi g tYes te vs) ρ O P := by
  refine e_lc hg mg fun F σ B H e hs R q => h F σ B H e hs R fun J ds O' B2 H2 p e2 hs2 it => ?_
  obtain ⟨hl, es, hes, step, fin⟩ := p
  refine q J ds O' B2 H2 ⟨hl, fun i acc O3 => acc = es.take i ∧ O3 = O', ⟨rfl, rfl⟩, ?_, ?_⟩ e2 hs2 it
  · rintro i d acc O3 hd hal ⟨rfl, rfl⟩
    have hi := (List.getElem?_eq_some_iff.mp hd).1
    have he : es[i]? = some es[i] := List.getElem?_eq_getElem (by omega)
    intro F1 v σ1 B1 H1 e1 hs1 r1 Q1 q1
    refine step i d _ hd he F1 v σ1 B1 H1 e1 hs1 r1 Q1 fun σ' ρ' O4 B3 H3 p3 => ?_
    obtain ⟨rfl, p3⟩ := p3
    refine q1 σ' ρ' _ B3 H3 (t_yes ⟨fun _ => p3.mono fun y O5 z => ?_, fun z => nomatch z⟩)
    obtain ⟨rfl, rfl⟩ := z
    refine ⟨?_, rfl⟩
    rw [List.take_succ, he]
    rfl
  · rintro acc O3 ⟨rfl, rfl⟩
    rw [← hes, List.take_length]
    exact fin
end
/-! ### streams of digits -/
def digs (l : List Int) : Prop := ∀ d ∈ l, 0 ≤ d ∧ d < 60
def W_draws (ds : List D) (P : D → Prop) : Prop := ∃ c n : Int, ds = [.int c, .int n] ∧ 0 ≤ n ∧ n ≤ 60 ∧ ∀ l : List Int, (l.length : Int) = n → digs l → P (.lst (l.map fun i => D.int i))
def dStream (l : List Int) (p : Addr) : D := .lst [.lst (l.map fun i => D.int i), .loc p]
def W_stream (ds : List D) (O : Store) (P : D → Store → Prop) : Prop := ∃ (ns : List Int) (f n : Int), ds = [scr ns, .int f, .int n] ∧ 0 ≤ f ∧ 0 ≤ n ∧ n ≤ 1000 ∧ ∀ (l : List Int) (p : Addr), (l.length : Int) = 12 * n → digs l → P (dStream l p) ((p, .lst [.int 0]) :: O)
def W_next (ds : List D) (O : Store) (P : D → Store → Prop) : Prop := ∃ (l : List Int) (p : Addr) (many n : Int) (O' : Int → Store), ds = [dStream l p, .int many] ∧ l ≠ [] ∧ digs l ∧ 0 < many ∧ (∀ n', Put p (.lst [.int n]) (.lst [.int n']) O (O' n')) ∧ ∀ v n' : Int, 0 ≤ v → v < many → v < 60 → P (.int v) (O' n')
theorem atI_emod {l : List Int} (hl : l ≠ []) (i : Int) : ∃ d, d ∈ l ∧ atI (l.map fun i => D.int i) (i % (l.length : Int)) = some (.int d) := by
  have hp : 0 < l.length := List.length_pos_iff.mpr hl
  have h0 := Int.emod_nonneg i (show (l.length : Int) ≠ 0 by omega)
  have h1 := Int.emod_lt_of_pos i (show (0 : Int) < l.length by omega)
  have hk : (i % (l.length : Int)).toNat < l.length := by omega
  refine ⟨l[(i % (l.length : Int)).toNat], List.getElem_mem hk, ?_⟩
  rw [atI_nat' h0 (by rw [List.length_map]; exact h1), List.getElem?_map, List.getElem?_eq_getElem hk]
  rfl
end G
/-! Vectors of three quotients. -/
namespace G
open PySem L2 PySem.Spec PyProof.Rows
structure V3 where
  x : Rat
  y : Rat
  z : Rat
theorem V3.ext' {a b : V3} (h1 : a.x = b.x) (h2 : a.y = b.y) (h3 : a.z = b.z) : a = b := by
  cases a; cases b; simp_all
def dV (C : Addr) (v : V3) : D := .tup [dQ C v.x, dQ C v.y, dQ C v.z]
def bitsV (v : V3) (n : Nat) : Prop := bits v.x n ∧ bits v.y n ∧ bits v.z n
def zV : V3 := ⟨0, 0, 0⟩
def addV (a b : V3) : V3 := ⟨a.x + b.x, a.y + b.y, a.z + b.z⟩
def subV (a b : V3) : V3 := ⟨a.x - b.x, a.y - b.y, a.z - b.z⟩
def mulV (q : Rat) (a : V3) : V3 := ⟨q * a.x, q * a.y, q * a.z⟩
def detV (a b c : V3) : Rat := a.x * (b.y * c.z - b.z * c.y) - a.y * (b.x * c.z - b.z * c.x) + a.z * (b.x * c.y - b.y * c.x)
def sumV (vs : List V3) : V3 := vs.foldl addV zV
theorem bitsV_mono {v : V3} {m n : Nat} (h : bitsV v m) (k : m ≤ n) : bitsV v n := ⟨bits_mono h.1 k, bits_mono h.2.1 k, bits_mono h.2.2 k⟩
theorem bitsV_zero : bitsV zV 1 := ⟨bits_zero, bits_zero, bits_zero⟩
theorem bitsV_add {a b : V3} {m n : Nat} (h : bitsV a m) (k : bitsV b n) : bitsV (addV a b) (m + n + 1) := ⟨bits_add h.1 k.1, bits_add h.2.1 k.2.1, bits_add h.2.2 k.2.2⟩
theorem bitsV_sub {a b : V3} {m n : Nat} (h : bitsV a m) (k : bitsV b n) : bitsV (subV a b) (m + n + 1) := ⟨bits_sub h.1 k.1, bits_sub h.2.1 k.2.1, bits_sub h.2.2 k.2.2⟩
theorem bitsV_mul {q : Rat} {a : V3} {m n : Nat} (h : bits q m) (k : bitsV a n) : bitsV (mulV q a) (m + n) := ⟨bits_mul h k.1, bits_mul h k.2.1, bits_mul h k.2.2⟩
theorem bits_det {a b c : V3} {m : Nat} (ha : bitsV a m) (hb : bitsV b m) (hc : bitsV c m) : bits (detV a b c) (15 * m + 5) := by
  obtain ⟨a1, a2, a3⟩ := ha
  obtain ⟨b1, b2, b3⟩ := hb
  obtain ⟨c1, c2, c3⟩ := hc
  refine bits_mono (bits_add (bits_sub (bits_mul a1 (bits_sub (bits_mul b2 c3) (bits_mul b3 c2))) (bits_mul a2 (bits_sub (bits_mul b1 c3) (bits_mul b3 c1)))) (bits_mul a3 (bits_sub (bits_mul b1 c2) (bits_mul b2 c1)))) ?_
  omega
theorem sumV_take {vs : List V3} {i : Nat} {v : V3} (h : vs[i]? = some v) : sumV (vs.take (i + 1)) = addV (sumV (vs.take i)) v := by
  unfold sumV
  have e : vs.take (i + 1) = vs.take i ++ [v] := by
    rw [List.take_succ, h]
    rfl
  rw [e, List.foldl_append]
  rfl
theorem bitsV_sum {m : Nat} : ∀ (vs : List V3) (i : Nat), (∀ v ∈ vs, bitsV v m) → i ≤ vs.length → bitsV (sumV (vs.take i)) ((m + 1) * i + 1)
  | vs, 0, _, _ => bitsV_zero
  | vs, i + 1, h, hi => by
    have hlt : i < vs.length := by omega
    rw [sumV_take (List.getElem?_eq_getElem hlt)]
    refine bitsV_mono (bitsV_add (bitsV_sum vs i h (by omega)) (h _ (List.getElem_mem hlt))) ?_
    rw [Nat.mul_add]
    omega
def W_v0 (C : Addr) (ds : List D) (P : D → Prop) : Prop := ds = [] ∧ P (dV C zV)
def W_v2 (C : Addr) (f : V3 → V3 → V3) (ds : List D) (P : D → Prop) : Prop := ∃ (a b : V3) (m n : Nat), ds = [dV C a, dV C b] ∧ bitsV a m ∧ bitsV b n ∧ m + n ≤ 8900 ∧ P (dV C (f a b))
def W_scaled (C : Addr) (ds : List D) (P : D → Prop) : Prop := ∃ (q : Rat) (a : V3) (m n : Nat), ds = [dQ C q, dV C a] ∧ bits q m ∧ bitsV a n ∧ m + n ≤ 8900 ∧ P (dV C (mulV q a))
def W_det (C : Addr) (ds : List D) (P : D → Prop) : Prop := ∃ (a b c : V3) (m : Nat), ds = [dV C a, dV C b, dV C c] ∧ bitsV a m ∧ bitsV b m ∧ bitsV c m ∧ 15 * m + 5 ≤ 8900 ∧ P (dQ C (detV a b c))
def W_sumV (C : Addr) (ds : List D) (P : D → Prop) : Prop := ∃ (vs : List V3) (m : Nat), (ds = [.lst (vs.map (dV C))] ∨ ds = [.tup (vs.map (dV C))]) ∧ (∀ v ∈ vs, bitsV v m) ∧ (m + 1) * (vs.length + 1) ≤ 8000 ∧ P (dV C (sumV vs))
section
variable {K : PySem.W.Frag}
theorem gm_tup {n : Nat} {u : TGs} (hu : GsMono u) : GMono (gTup K n u) := fun v σ H Q Q' m q => by
  obtain ⟨a, xs, e, h, l, q⟩ := q
  exact ⟨a, xs, e, h, l, hu _ _ _ _ _ m q⟩
theorem go_two {i j n : Nat} {vs : List Nat} (hi : i ∈ vs) (hj : j ∈ vs) : GOnly (gTup K n (gCons (gName i) (gCons (gName j) gNil))) vs :=
  go_tup (gs_cons (go_name hi) gm_name (gs_cons (go_name hj) gm_name gs_nil gms_nil) (gms_cons gm_name gms_nil))
theorem gm_two {i j n : Nat} : GMono (gTup K n (gCons (gName i) (gCons (gName j) gNil))) := gm_tup (gms_cons gm_name (gms_cons gm_name gms_nil))
theorem step3 {A : D → D → Prop} {d0 d1 d2 e0 e1 e2 : D} (h0 : A d0 e0) (h1 : A d1 e1) (h2 : A d2 e2) : ∀ (i : Nat) (d e : D), [d0, d1, d2][i]? = some d → [e0, e1, e2][i]? = some e → A d e
  | 0, d, e, hd, he => by cases hd; cases he; exact h0
  | 1, d, e, hd, he => by cases hd; cases he; exact h1
  | 2, d, e, hd, he => by cases hd; cases he; exact h2
  | i + 3, d, e, hd, he => by simp at hd
end
structure I3 where
  x : Int
  y : Int
  z : Int
def detI (a b c : I3) : Int := a.x * (b.y * c.z - b.z * c.y) - a.y * (b.x * c.z - b.z * c.x) + a.z * (b.x * c.y - b.y * c.x)
def vecI (n : Int) (r : I3) : V3 := ⟨Rat.divInt r.x n, Rat.divInt r.y n, Rat.divInt r.z n⟩
theorem rc_ne {n : Int} (h : n ≠ 0) : (n : Rat) ≠ 0 := by
  intro z
  exact h (by simpa using z)
theorem det_vecI {n : Int} (h : n ≠ 0) (a b c : I3) : detV (vecI n a) (vecI n b) (vecI n c) = Rat.divInt (detI a b c) (n * n * n) := by
  have hn := rc_ne h
  simp only [detV, vecI, detI, Rat.divInt_eq_div, Rat.intCast_mul, Rat.intCast_add, Rat.intCast_sub]
  grind
theorem det_swap (a b c : V3) : detV b a c = -detV a b c := by
  simp only [detV]
  grind
theorem det_rot (a b c : V3) : detV b c a = detV a b c := by
  simp only [detV]
  grind
theorem det_two (a b : V3) : detV a b a = Rat.divInt 0 1 := by
  have : Rat.divInt 0 1 = 0 := by decide
  rw [this]
  simp only [detV]
  grind
theorem det_sum (a d b c : V3) : detV (addV a d) b c = detV a b c + detV d b c := by
  simp only [detV, addV]
  grind
theorem add_divI {n : Int} (h : n ≠ 0) (x y : Int) : Rat.divInt x n + Rat.divInt y n = Rat.divInt (x + y) n := by
  have hn := rc_ne h
  simp only [Rat.divInt_eq_div, Rat.intCast_add]
  grind
theorem sub_divI {n : Int} (h : n ≠ 0) (x y : Int) : Rat.divInt x n - Rat.divInt y n = Rat.divInt (x - y) n := by
  have hn := rc_ne h
  simp only [Rat.divInt_eq_div, Rat.intCast_sub]
  grind
theorem two_thirds {n : Int} (x : Int) : Rat.divInt 2 3 * Rat.divInt x n = Rat.divInt (2 * x) (3 * n) := by
  exact Rat.divInt_mul_divInt _ _
/-! ### rows of three ints -/
def bI (r : I3) (n : Nat) : Prop := r.x.natAbs < 2 ^ n ∧ r.y.natAbs < 2 ^ n ∧ r.z.natAbs < 2 ^ n
def lRow (r : I3) : D := .lst [.int r.x, .int r.y, .int r.z]
abbrev tRow (r : I3) : D := .tup [.int r.x, .int r.y, .int r.z]
def W_ldet (mk : I3 → D) (ds : List D) (P : D → Prop) : Prop := ∃ (a b c : I3), ds = [mk a, mk b, mk c] ∧ bI a 20 ∧ bI b 20 ∧ bI c 20 ∧ P (.int (detI a b c))
theorem two_mul_lt {a b c d : Int} {n : Nat} (h1 : a.natAbs < 2 ^ n) (h2 : b.natAbs < 2 ^ n) (h3 : c.natAbs < 2 ^ n) (h4 : d.natAbs < 2 ^ n) : (a * b - c * d).natAbs < 2 ^ (n + n + 1) := natAbs_sub_lt (natAbs_mul_lt h1 h2) (natAbs_mul_lt h3 h4)
theorem bits_vecI {n : Int} {m : Nat} {r : I3} (h : n ≠ 0) (hr : bI r m) (hn : n.natAbs < 2 ^ m) : bitsV (vecI n r) m := ⟨bits_divInt h hr.1 hn, bits_divInt h hr.2.1 hn, bits_divInt h hr.2.2 hn⟩
/-! ### == of tuples of quotients that are equal -/
def RQ (K : PySem.W.Frag) (C : Addr) (a b : Addr) (H : Hp) : Prop := ∃ (q : Rat) (m : Nat), Rep K H (.ref a) (dQ C q) ∧ Rep K H (.ref b) (dQ C q) ∧ bits q m ∧ m + m ≤ 8900
def rEqTQ (K : PySem.W.Frag) (C : Addr) : R2 := rEqG (DTup K (DIns C (RQ K C)))
theorem op_eqTup {X : Cx} {k : Nat} {f C : Addr} {fd : FuncData} {ps : List Str} (F : FnOk X.prog X.w X.K X.mg X.base CX0 k f fd ps (spP X.K 2 (W_q2 C fun x y => .bl (decide (x = y)))))
    (hs : PySem.W.findIn X.K (.ref C) "__eq__" = some (some (.ref f))) (hf : PySem.W.isFn X.K (.ref f) = true) (hb : Binds X.K fd ps []) (hr : Room (k + 1) X.A) : OpR X (compareOp .Eq) (rEqTQ X.K C) := by
  have F2 : FnOk X.prog X.w X.K X.mg X.base CX0 k f fd ps (spEq (RQ X.K C)) := F.imp fun vs H Q E h => by
    obtain ⟨a, b, rfl, ⟨q, m, r1, r2, hq, hm⟩, w⟩ := h
    refine ⟨[], H, [dQ C q, dQ C q], fun d => d = .bl true, ⟨Evl.Ex.refl H, (fun p hp => absurd hp (by simp)), List.nodup_nil⟩, .cons r1 (.cons r2 .nil), rfl, ⟨q, q, m, m, rfl, hq, hq, hm, by simp⟩, ?_⟩
    rintro v d B2 H2 rfl e hs2 rv
    cases rv
    exact w H2 (e.trans hs2.ex)
  exact op_eqG (rcG_tup (mon_ins fun a b H H' e h => by
    obtain ⟨q, m, r1, r2, hq, hm⟩ := h
    exact ⟨q, m, r1.mono e, r2.mono e, hq, hm⟩) (eqG_ins (E := E0) F2 hs hf hb pass0)) hr
theorem prs_q {K : PySem.W.Frag} {C : Addr} {B H : Hp} {m : Nat} (e : Ex B H) : ∀ {qs : List Rat} {vs us : List V}, (∀ q ∈ qs, bits q m) → m + m ≤ 8900 → Reps K B vs (qs.map (dQ C)) → Reps K B us (qs.map (dQ C)) → Prs (DIns C (RQ K C)) vs us H
  | [], _, _, _, _, .nil, .nil => .nil
  | q :: qs, _, _, hq, hm, .cons r1 t1, .cons r2 t2 => by
    refine .cons ?_ (prs_q e (fun x hx => hq x (List.mem_cons_of_mem _ hx)) hm t1 t2)
    have r1' := r1.mono e
    have r2' := r2.mono e
    cases r1 with
    | ins h1 _ =>
      cases r2 with
      | ins h2 _ => exact ⟨_, _, _, _, _, _, rfl, rfl, e _ _ h1, e _ _ h2, q, m, r1', r2', hq q List.mem_cons_self, hm⟩
theorem r_eqTQ {K : PySem.W.Frag} {C : Addr} {O : Store} {P : D → Store → Prop} {qs : List Rat} {m : Nat} (hq : ∀ q ∈ qs, bits q m) (hm : m + m ≤ 8900) (p : P (.bl true) O) : wR K (rEqTQ K C) (.tup (qs.map (dQ C))) (.tup (qs.map (dQ C))) O P := fun F v u B H rx ry hs Q q => by
  cases rx with
  | tup h1 r1 =>
    cases ry with
    | tup h2 r2 =>
      refine ⟨⟨_, _, _, _, rfl, rfl, Evl.ex_t hs.ex h1, Evl.ex_t hs.ex h2, prs_q hs.ex hq hm r1 r2⟩, fun H' e => ?_⟩
      have hs' : Hs K B H' (O ++ F) := ⟨hs.ex.trans e, fun p hp => by
        obtain ⟨g1, g2⟩ := hs.own p hp
        obtain ⟨o, ho⟩ := g2.some
        exact ⟨g1, g2.mono (Evl.Ex.refl B) ((e _ _ ho).trans ho.symm)⟩, hs.nd⟩
      exact q _ _ O B H' p (Evl.Ex.refl B) hs' (.raw _)
end G
/-! Rows and vectors by their index. -/
namespace G
open PySem L2 PySem.Spec PyProof.Rows
section
variable {K : PySem.W.Frag} {ρ : Rho} {O : Store}
theorem reps_ints {B : Hp} : ∀ {vs : List V} {ns : List Int}, Reps K B vs (ns.map fun i => D.int i) → vs = ns.map V.int
  | [], [], .nil => rfl
  | v :: vs, n :: ns, .cons h r => by
    cases h
    rw [reps_ints r]
    rfl
theorem c_sum {ns : List Int} {P : D → Store → Prop} (p : P (.int ns.sum) O) : wC K (rSum K) [.lst (ns.map fun i => D.int i)] O P := fun F vs B H r hs Q q => by
  cases r with
  | cons r1 r =>
    cases r
    cases r1 with
    | lst h r =>
      refine ⟨_, ns, rfl, ?_, q.here hs (.raw _) p⟩
      rw [← reps_ints r]
      exact Evl.sq_of (hs.ex _ _ h)
def V3.at (v : V3) : Nat → Rat
  | 0 => v.x
  | 1 => v.y
  | _ => v.z
def I3.at (v : I3) : Nat → Int
  | 0 => v.x
  | 1 => v.y
  | _ => v.z
theorem at_dV {C : Addr} {v : V3} : ∀ {i : Nat}, i < 3 → atI [dQ C v.x, dQ C v.y, dQ C v.z] (0 + (i : Int)) = some (dQ C (v.at i))
  | 0, _ => rfl
  | 1, _ => rfl
  | 2, _ => rfl
  | n + 3, h => by omega
theorem at_row {v : I3} : ∀ {i : Nat}, i < 3 → atI [D.int v.x, D.int v.y, D.int v.z] (0 + (i : Int)) = some (.int (v.at i))
  | 0, _ => rfl
  | 1, _ => rfl
  | 2, _ => rfl
  | n + 3, h => by omega
theorem at_bI {v : I3} {m i : Nat} (h : bI v m) : (v.at i).natAbs < 2 ^ m := by
  obtain ⟨h1, h2, h3⟩ := h
  match i with
  | 0 => exact h1
  | 1 => exact h2
  | _ + 2 => exact h3
theorem at_bV {v : V3} {m i : Nat} (h : bitsV v m) : bits (v.at i) m := by
  obtain ⟨h1, h2, h3⟩ := h
  match i with
  | 0 => exact h1
  | 1 => exact h2
  | _ + 2 => exact h3
theorem at_add (a b : V3) (i : Nat) : (addV a b).at i = a.at i + b.at i := by
  match i with
  | 0 => rfl
  | 1 => rfl
  | _ + 2 => rfl
theorem at_sub (a b : V3) (i : Nat) : (subV a b).at i = a.at i - b.at i := by
  match i with
  | 0 => rfl
  | 1 => rfl
  | _ + 2 => rfl
theorem at_mul (q : Rat) (b : V3) (i : Nat) : (mulV q b).at i = q * b.at i := by
  match i with
  | 0 => rfl
  | 1 => rfl
  | _ + 2 => rfl
theorem at_zV (i : Nat) : zV.at i = Rat.divInt 0 1 := by
  have : Rat.divInt 0 1 = 0 := by decide
  rw [this]
  match i with
  | 0 => rfl
  | 1 => rfl
  | _ + 2 => rfl
theorem at_vec (n : Int) (b : I3) (i : Nat) : (vecI n b).at i = Rat.divInt (b.at i) n := by
  match i with
  | 0 => rfl
  | 1 => rfl
  | _ + 2 => rfl
theorem zero_divI (n : Int) : Rat.divInt 0 n = 0 := by
  exact Rat.zero_divInt n
theorem step4 {A : D → D → Prop} {d0 d1 d2 d3 e0 e1 e2 e3 : D} (h0 : A d0 e0) (h1 : A d1 e1) (h2 : A d2 e2) (h3 : A d3 e3) : ∀ (i : Nat) (d e : D), [d0, d1, d2, d3][i]? = some d → [e0, e1, e2, e3][i]? = some e → A d e
  | 0, d, e, hd, he => by cases hd; cases he; exact h0
  | 1, d, e, hd, he => by cases hd; cases he; exact h1
  | 2, d, e, hd, he => by cases hd; cases he; exact h2
  | 3, d, e, hd, he => by cases hd; cases he; exact h3
  | i + 4, d, e, hd, he => by simp at hd
/-- tuple([Quotient(value, bottom) for value in row]) -/
theorem row_of {tq : TE} {C : Addr} {bot : Int} {r : I3} {i j : Nat} (hρ : ρ[i]? = some (some (lRow r))) (h : ∀ x : Int, wE K tq ((wipeR ρ [j]).set j (some (.int x))) O fun y O4 => y = dQ C (Rat.divInt x bot) ∧ O4 = O) :
    wE K (tCB (rTupOf K) (tCons (tLc (iList K (tVar i)) (gName j) tYes tq [j]) tNil)) ρ O fun y O4 => y = dV C (vecI bot r) ∧ O4 = O :=
  e_cb (a_cons (e_lcM (go_name (by simp)) gm_name (i_list (e_var hρ ⟨_, rfl, (by show 3 < 90000; decide), [dQ C (Rat.divInt r.x bot), dQ C (Rat.divInt r.y bot), dQ C (Rat.divInt r.z bot)], rfl,
    step3 (g_name ⟨rfl, h r.x⟩) (g_name ⟨rfl, h r.y⟩) (g_name ⟨rfl, h r.z⟩), a_nil (c_tup ⟨rfl, rfl⟩)⟩))))
end
end G
/-! Pairs of ints in lowest terms, as the laws reckon. -/
namespace G
open PySem L2 PySem.Spec PyProof.Rows
section
variable {K : PySem.W.Frag} {ρ : Rho} {O O1 : Store} {wi : TI} {g : TG}
/-- .. whose list may still change -/
theorem e_lcO {tt : TT} {te : TE} {vs : List Nat} {P : D → Store → Prop} (hg : GOnly g vs) (mg : GMono g) (h : wI K wi ρ O fun ds O1 => ds.length < 90000 ∧ ∃ I : Nat → List D → Store → Prop, I 0 [] O1 ∧
    (∀ i d acc O', ds[i]? = some d → acc.length ≤ i → I i acc O' → wG K g d (wipeR ρ vs) O' fun ρ2 O2 => wT K tt ρ2 O2 fun b O3 => (b = true → wE K te ρ2 O3 fun y O4 => I (i + 1) (acc ++ [y]) O4) ∧ (b = false → I (i + 1) acc O3)) ∧
    ∀ a acc O', I ds.length acc O' → P (.loc a) ((a, Own.lst acc) :: O')) : wE K (tLc wi g tt te vs) ρ O P := fun F σ B H e hs Q q => by
  refine h F σ B H e hs _ fun J ds O1 B1 H1 p1 e1 hs1 it => ?_
  obtain ⟨hlen, I, h0, hstep, hend⟩ := p1
  intro Dl hDl
  let W : Nat → Hp → Prop := fun i H' => ∃ acc O' B', I i acc O' ∧ acc.length ≤ i ∧ Ex B1 B' ∧ Hs K B' H' ((Dl, Own.lst acc) :: (O' ++ F))
  refine ⟨fun i m H' => m = ds.length - i ∧ i ≤ ds.length ∧ W i H', ⟨_, rfl, Nat.zero_le _, [], O1, B1, h0, Nat.le_refl _, Evl.Ex.refl _, hs1.newOwn (w := .lst []) hDl ⟨[], upd_same, .nil⟩⟩, ?_⟩
  rintro i m H' ⟨rfl, hi, acc, O', B', hI, hal, eB, hs'⟩
  have turn := it B' H' _ eB hs' i
  cases hd : ds[i]? with
  | none =>
    have hle := List.getElem?_eq_none_iff.mp hd
    have hii : i = ds.length := by omega
    subst hii
    refine .inl ⟨turn.2 hd, ?_⟩
    exact q _ _ _ B' H' (hend Dl acc O' hI) (e1.trans eB) hs' (.raw _)
  | some d =>
    have hlt : i < ds.length := (List.getElem?_eq_some_iff.mp hd).1
    obtain ⟨go, hy⟩ := turn.1 d hd
    refine .inr ⟨go, W (i + 1), fun H2 w2 => ⟨ds.length - (i + 1), by omega, rfl, hlt, w2⟩, fun x H2 y => ?_⟩
    obtain ⟨B2, e2, hs2, rx⟩ := hy x H2 y
    have hs2' : Hs K B2 H2 (O' ++ (F ++ [(Dl, Own.lst acc)])) := hs2.perm (by rw [← List.append_assoc]; exact (List.perm_append_singleton _ _).symm)
    have en0 : EnvR K B2 (L2.wipe σ vs) (wipeR ρ vs) := ((((e.mono e1).mono eB).mono e2)).wipe vs
    refine mg _ _ _ _ _ (fun σ3 H3 z => ⟨wipe_same z.1, z.2⟩) (hg _ _ _ _ ?_)
    refine hstep i d acc O' hd hal hI (F ++ [(Dl, Own.lst acc)]) x (L2.wipe σ vs) B2 H2 en0 hs2' rx _ fun σ3 ρ3 O3 B3 H3 p3 e3 hs3 en3 => ?_
    refine p3 _ σ3 B3 H3 en3 hs3 _ fun b O4 B4 H4 p4 e4 hs4 => ?_
    have back : ∀ {B5 H5 : Hp} {O5 : Store}, Hs K B5 H5 (O5 ++ (F ++ [(Dl, Own.lst acc)])) → Hs K B5 H5 ((Dl, Own.lst acc) :: (O5 ++ F)) := fun hz => hz.perm (by rw [← List.append_assoc]; exact List.perm_append_singleton _ _)
    cases b with
    | false =>
      show (if false = true then _ else _)
      rw [if_neg Bool.false_ne_true]
      exact ⟨acc, O4, B4, p4.2 rfl, by omega, ((eB.trans e2).trans e3).trans e4, back hs4⟩
    | true =>
      show (if true = true then _ else _)
      rw [if_pos rfl]
      refine p4.1 rfl _ σ3 B4 H4 (en3.mono e4) hs4 _ fun u y O5 B5 H5 p5 e5 hs5 ry => ?_
      have hs6 := back hs5
      obtain ⟨ws, hw, rws⟩ := (hs6.own _ List.mem_cons_self).2
      refine ⟨ws, hw, Evl.sz_lt (by rw [rws.length]; omega), acc ++ [y], O5, B5, p5, by rw [List.length_append]; simp; omega, (((eB.trans e2).trans e3).trans e4).trans e5, ?_⟩
      exact hs6.write (o := .lst (ws ++ [u])) .here ⟨_, upd_same, rws.append (.cons ry .nil)⟩
end
/-- num and den, bounded apart -/
def bn (q : Rat) (m n : Nat) : Prop := q.num.natAbs < 2 ^ m ∧ q.den < 2 ^ n
theorem bn_bits {q : Rat} {m n k : Nat} (h : bn q m n) (h1 : m ≤ k) (h2 : n ≤ k) : bits q k :=
  ⟨Nat.lt_of_lt_of_le h.1 (Nat.pow_le_pow_right (by omega) h1), Nat.lt_of_lt_of_le h.2 (Nat.pow_le_pow_right (by omega) h2)⟩
theorem bn_divInt {t b : Int} {m n : Nat} (h : b ≠ 0) (h1 : t.natAbs < 2 ^ m) (h2 : b.natAbs < 2 ^ n) : bn (Rat.divInt t b) m n := by
  have := divInt_le (t := t) h
  exact ⟨Nat.lt_of_le_of_lt this.1 h1, Nat.lt_of_le_of_lt this.2 h2⟩
theorem bn_mono {q : Rat} {m n m' n' : Nat} (h : bn q m n) (h1 : m ≤ m') (h2 : n ≤ n') : bn q m' n' :=
  ⟨Nat.lt_of_lt_of_le h.1 (Nat.pow_le_pow_right (by omega) h1), Nat.lt_of_lt_of_le h.2 (Nat.pow_le_pow_right (by omega) h2)⟩
theorem bn_den {q : Rat} {m n : Nat} (h : bn q m n) : ((q.den : Int)).natAbs < 2 ^ n := by
  have := h.2
  simpa using this
theorem natAbs_mono {a : Int} {m n : Nat} (h : a.natAbs < 2 ^ m) (k : m ≤ n) : a.natAbs < 2 ^ n := Nat.lt_of_lt_of_le h (Nat.pow_le_pow_right (by omega) k)
theorem bn_add {x y : Rat} {m n m' n' k : Nat} (h : bn x m n) (h' : bn y m' n') (h1 : m + n' ≤ k) (h2 : m' + n ≤ k) : bn (x + y) (k + 1) (n + n') := by
  rw [← q_add]
  exact bn_divInt (den_mul_ne x y) (natAbs_add_lt (natAbs_mono (natAbs_mul_lt h.1 (bn_den h')) h1) (natAbs_mono (natAbs_mul_lt h'.1 (bn_den h)) h2)) (natAbs_mul_lt (bn_den h) (bn_den h'))
theorem bn_sub {x y : Rat} {m n m' n' k : Nat} (h : bn x m n) (h' : bn y m' n') (h1 : m + n' ≤ k) (h2 : m' + n ≤ k) : bn (x - y) (k + 1) (n + n') := by
  rw [← q_sub]
  exact bn_divInt (den_mul_ne x y) (natAbs_sub_lt (natAbs_mono (natAbs_mul_lt h.1 (bn_den h')) h1) (natAbs_mono (natAbs_mul_lt h'.1 (bn_den h)) h2)) (natAbs_mul_lt (bn_den h) (bn_den h'))
theorem bn_mul {x y : Rat} {m n m' n' : Nat} (h : bn x m n) (h' : bn y m' n') : bn (x * y) (m + m') (n + n') := by
  rw [← q_mul]
  exact bn_divInt (den_mul_ne x y) (natAbs_mul_lt h.1 h'.1) (natAbs_mul_lt (bn_den h) (bn_den h'))
theorem bn_over {x y : Rat} {m n m' n' : Nat} (hy : y ≠ 0) (h : bn x m n) (h' : bn y m' n') : bn (x / y) (m + n') (n + m') := by
  rw [← q_over]
  have : y.num ≠ 0 := fun e => hy (Rat.num_eq_zero.mp e)
  exact bn_divInt (Int.mul_ne_zero (den_ne x) this) (natAbs_mul_lt h.1 (bn_den h')) (natAbs_mul_lt (bn_den h) h'.1)
/-- a pair of ints in lowest terms -/
abbrev dP (q : Rat) : D := .tup [.int q.num, .int (q.den : Int)]
def W_p2 (f : Rat → Rat → Rat) (ds : List D) (P : D → Prop) : Prop := ∃ (x y : Rat) (m n m' n' : Nat), ds = [dP x, dP y] ∧ bn x m n ∧ bn y m' n' ∧ m + n' ≤ 5000 ∧ m' + n ≤ 5000 ∧ n + n' ≤ 300 ∧ P (dP (f x y))
def W_pBy (ds : List D) (P : D → Prop) : Prop := ∃ (x y : Rat) (m n m' n' : Nat), ds = [dP x, dP y] ∧ y ≠ 0 ∧ bn x m n ∧ bn y m' n' ∧ m + n' ≤ 5000 ∧ n + m' ≤ 300 ∧ P (dP (x / y))
def W_isPair (C : Addr) (ds : List D) (P : D → Prop) : Prop := ∃ (q x : Rat) (m : Nat), ds = [dQ C q, dP x] ∧ bits x m ∧ m ≤ 300 ∧ P (.bl (decide (q = x)))
theorem divInt_self (x : Rat) : Rat.divInt x.num (x.den : Int) = x := Rat.num_divInt_den x
theorem allEq_len {α β : Type} [DecidableEq α] {xs ys : List α} : xs = ys → xs.length = ys.length := fun h => by rw [h]
/-- tuples of quotients against lists of pairs -/
def W_are (C : Addr) (ds : List D) (P : D → Prop) : Prop := ∃ (qs xs : List Rat) (m : Nat), ds = [.tup (qs.map (dQ C)), .lst (xs.map dP)] ∧ qs.length = xs.length ∧ qs.length ≤ 1000 ∧ (∀ x ∈ xs, bits x m) ∧ m ≤ 300 ∧ (qs = xs → P (.bl true)) ∧ (qs ≠ xs → P (.bl false))
def W_quots (C : Addr) (ds : List D) (P : D → Prop) : Prop := ∃ (xs : List Rat) (m : Nat), ds = [.lst (xs.map dP)] ∧ xs.length ≤ 1000 ∧ (∀ x ∈ xs, bits x m) ∧ m ≤ 8000 ∧ P (.tup (xs.map (dQ C)))
/-- a drawn small quotient -/
def W_quot (ds : List D) (O : Store) (P : D → Store → Prop) : Prop := ∃ (l : List Int) (p : Addr) (n : Int) (O' : Int → Store), ds = [dStream l p] ∧ l ≠ [] ∧ digs l ∧ (∀ a b : Int, Put p (.lst [.int a]) (.lst [.int b]) (O' a) (O' b)) ∧ O = O' n ∧ ∀ (x : Rat) (n' : Int), bn x 10 4 → P (dP x) (O' n')
def bnV (v : V3) (m n : Nat) : Prop := bn v.x m n ∧ bn v.y m n ∧ bn v.z m n
def lV (v : V3) : D := .lst [dP v.x, dP v.y, dP v.z]
/-- a drawn color: a list of three pairs; W_colorO: that may still change -/
def W_color (ds : List D) (O : Store) (P : D → Store → Prop) : Prop := ∃ (l : List Int) (p : Addr) (n : Int) (O' : Int → Store), ds = [dStream l p] ∧ l ≠ [] ∧ digs l ∧ (∀ a b : Int, Put p (.lst [.int a]) (.lst [.int b]) (O' a) (O' b)) ∧ O = O' n ∧ ∀ (v : V3) (n' : Int), bnV v 10 4 → P (lV v) (O' n')
def W_colorO (ds : List D) (O : Store) (P : D → Store → Prop) : Prop := ∃ (l : List Int) (p : Addr) (n : Int) (O' : Int → Store), ds = [dStream l p] ∧ l ≠ [] ∧ digs l ∧ (∀ a b : Int, Put p (.lst [.int a]) (.lst [.int b]) (O' a) (O' b)) ∧ O = O' n ∧ ∀ (a : Addr) (v : V3) (n' : Int), bnV v 10 4 → P (.loc a) ((a, .lst [dP v.x, dP v.y, dP v.z]) :: O' n')
theorem three_of {xs : List Rat} (h : xs.length = 3) : ∃ v : V3, xs = [v.x, v.y, v.z] := by
  match xs, h with
  | [a, b, c], _ => exact ⟨⟨a, b, c⟩, rfl⟩
end G
/-! == and != of tuples of quotients, whatever comes out. -/
namespace G
open PySem L2 PySem.Spec PyProof.Rows
section
variable {prog : Program} {w : World} {A : Around} {R : Result → Shared → Prop}
theorem zip_at {xs ys : Array Value} {i : Nat} {y x : Value} {rest : List (Value × Value)} (z : (y, x) :: rest = (xs.toList.zip ys.toList).drop i) (hsz : xs.size = ys.size) :
    ∃ (h1 : i < xs.size) (h2 : i < ys.size), y = xs[i] ∧ x = ys[i] ∧ rest = (xs.toList.zip ys.toList).drop (i + 1) := by
  have hz : (xs.toList.zip ys.toList).length = xs.size := by simp [hsz]
  by_cases hl : i < (xs.toList.zip ys.toList).length
  · rw [List.drop_eq_getElem_cons hl] at z
    injection z with e1 e2
    have g1 := congrArg Prod.fst e1
    have g2 := congrArg Prod.snd e1
    exact ⟨by omega, by omega, by simpa using g1, by simpa using g2, e2⟩
  · rw [List.drop_of_length_le (by omega)] at z
    cases z
theorem zip_end {xs ys : Array Value} {i : Nat} (z : [] = (xs.toList.zip ys.toList).drop i) (hsz : xs.size = ys.size) : xs.size ≤ i := by
  have hz : (xs.toList.zip ys.toList).length = xs.size := by simp [hsz]
  by_cases hl : i < (xs.toList.zip ys.toList).length
  · rw [List.drop_eq_getElem_cons hl] at z
    cases z
  · omega
def allB (e : Nat → Bool) (n : Nat) : Bool := (List.range n).all e
theorem allB_false {e : Nat → Bool} {n i : Nat} (hi : i < n) (h : e i = false) : allB e n = false := by
  unfold allB
  rw [List.all_eq_false]
  exact ⟨i, List.mem_range.mpr hi, by rw [h]; simp⟩
theorem allB_true {e : Nat → Bool} {n : Nat} (h : ∀ j, j < n → e j = true) : allB e n = true := by
  unfold allB
  rw [List.all_eq_true]
  exact fun j hj => h j (List.mem_range.mp hj)
theorem tuple_eqB {l b : Addr} {xs ys : Array Value} {n n2 : Nat} {dd dd2 : Option Addr} {sl sl2 : Array (Option Value)} {e : Nat → Bool} {I : Shared → Prop} (hsz : xs.size = ys.size)
    (turn : ∀ i (h1 : i < xs.size) (h2 : i < ys.size) s, I s → wpAny (model prog w) A.in1 (eqBool xs[i] ys[i]) (fun r s' => r = e i ∧ I s') (fun u s' => R (.error u) s') s)
    (fin : ∀ s, I s → R (.ok (.ret (.bool (allB e xs.size)))) s) {s : Shared} (ha : s.heap.get? l = some { cls := .type "tuple", dict := dd, data := .seq xs n, slots := sl })
    (hb : s.heap.get? b = some { cls := .type "tuple", dict := dd2, data := .seq ys n2, slots := sl2 }) (h : I s) :
    wpAny (model prog w) A.in1 (Builtin.«tuple.__eq__» ⟨[.ref l, .ref b], []⟩) (GQ.FinOf prog w A R) (fun u s' => R (.error u) s') s := by
  have f2 := AutoSeq1.sub_tuple_tuple
  have h0 := h
  obtain ⟨hp, g, d, tk, os⟩ := s
  wp_walk using wpAny_loadPart' ha, wpAny_loadPart' hb, wpAny_forIn_list _ (fun rest c s' => c.1 = none ∧ I s' ∧ ∃ i, rest = (xs.toList.zip ys.toList).drop i ∧ ∀ j, j < i → e j = true) _
  case turn =>
    rintro ⟨y, x⟩ rest c s' ⟨hc, hI, i, hz, hall⟩
    obtain ⟨h1, h2, rfl, rfl, hr⟩ := zip_at hz hsz
    refine wpAny_bind (wpAny_mono (turn i h1 h2 s' hI) (fun r s2 q => ?_) fun _ _ x => x)
    obtain ⟨rfl, q⟩ := q
    cases hy : e i with
    | true =>
      wp_walk
      refine ⟨rfl, q, i + 1, hr, fun j hj => ?_⟩
      rcases Nat.lt_succ_iff_lt_or_eq.mp hj with h | rfl
      · exact hall j h
      · exact hy
    | false =>
      have := fin s2 q
      rw [allB_false h1 hy] at this
      wp_walk
      exact this
  case fin =>
    rintro ⟨c1, c2⟩ s' ⟨hc, hI, i, hz, hall⟩
    simp only at hc
    subst hc
    have hi := zip_end hz hsz
    have := fin s' hI
    rw [allB_true fun j hj => hall j (by omega)] at this
    wp_walk
    simpa [Builtin.Tuple.tupleCompareSizes, hsz] using this
  case h => exact ⟨rfl, h0, 0, rfl, fun j hj => absurd hj (by omega)⟩
theorem tuple_neB {l b : Addr} {xs ys : Array Value} {n n2 : Nat} {dd dd2 : Option Addr} {sl sl2 : Array (Option Value)} {e : Nat → Bool} {I : Shared → Prop} (hsz : xs.size = ys.size)
    (turn : ∀ i (h1 : i < xs.size) (h2 : i < ys.size) s, I s → wpAny (model prog w) A.in1 (eqBool xs[i] ys[i]) (fun r s' => r = e i ∧ I s') (fun u s' => R (.error u) s') s)
    (fin : ∀ s, I s → R (.ok (.ret (.bool (!allB e xs.size)))) s) {s : Shared} (ha : s.heap.get? l = some { cls := .type "tuple", dict := dd, data := .seq xs n, slots := sl })
    (hb : s.heap.get? b = some { cls := .type "tuple", dict := dd2, data := .seq ys n2, slots := sl2 }) (h : I s) :
    wpAny (model prog w) A.in1 (Builtin.«tuple.__ne__» ⟨[.ref l, .ref b], []⟩) (GQ.FinOf prog w A R) (fun u s' => R (.error u) s') s := by
  have f2 := AutoSeq1.sub_tuple_tuple
  have h0 := h
  obtain ⟨hp, g, d, tk, os⟩ := s
  wp_walk using wpAny_loadPart' ha, wpAny_loadPart' hb, wpAny_forIn_list _ (fun rest c s' => c.1 = none ∧ I s' ∧ ∃ i, rest = (xs.toList.zip ys.toList).drop i ∧ ∀ j, j < i → e j = true) _
  case turn =>
    rintro ⟨y, x⟩ rest c s' ⟨hc, hI, i, hz, hall⟩
    obtain ⟨h1, h2, rfl, rfl, hr⟩ := zip_at hz hsz
    refine wpAny_bind (wpAny_mono (turn i h1 h2 s' hI) (fun r s2 q => ?_) fun _ _ x => x)
    obtain ⟨rfl, q⟩ := q
    cases hy : e i with
    | true =>
      wp_walk
      refine ⟨rfl, q, i + 1, hr, fun j hj => ?_⟩
      rcases Nat.lt_succ_iff_lt_or_eq.mp hj with h | rfl
      · exact hall j h
      · exact hy
    | false =>
      have := fin s2 q
      rw [allB_false h1 hy] at this
      wp_walk
      exact this
  case fin =>
    rintro ⟨c1, c2⟩ s' ⟨hc, hI, i, hz, hall⟩
    simp only at hc
    subst hc
    have hi := zip_end hz hsz
    have := fin s' hI
    rw [allB_true fun j hj => hall j (by omega)] at this
    wp_walk
    simpa [Builtin.Tuple.tupleCompareSizes, hsz] using this
  case h => exact ⟨rfl, h0, 0, rfl, fun j hj => absurd hj (by omega)⟩
end
/-! ### what == says of two values, by the abstract heap -/
abbrev Bqv := V → V → Hp → Bool → Prop
def EqB (X : Cx) (n : Nat) (D : Bqv) : Prop :=
  ∀ (A : Around) (pins : List (Addr × Obj)) (s : Shared) (σ : L2.St) (H : Hp) (x y : V) (u v : Value) (b : Bool), L2.Sub X n A → Inv X pins σ H s → RelV x u → RelV y v → D x y H b →
    wpAny (model X.prog X.w) A (eqBool u v) (fun r s' => r = b ∧ LoopI X pins σ H s') X.xe s
def BTup (K : PySem.W.Frag) (D : Bqv) : Bqv := fun x y H b => ∃ a c xs ys e, x = .ref a ∧ y = .ref c ∧ SqT K H a xs ∧ SqT K H c ys ∧ xs.length = ys.length ∧ (∀ (i : Nat) u v, xs[i]? = some u → ys[i]? = some v → ∀ H', Ext H H' → D u v H' (e i)) ∧ b = allB e xs.length
section
variable {X : Cx} {n : Nat} {D : Bqv}
theorem turnB (h : EqB X n D) {A : Around} (sb : L2.Sub X (n + 1) A) {pins : List (Addr × Obj)} {σ : L2.St} {H : Hp} {xs ys : List V} {us vs : List Value} {e : Nat → Bool}
    (p : ∀ (i : Nat) u v, xs[i]? = some u → ys[i]? = some v → ∀ H', Ext H H' → D u v H' (e i)) (r : Vals xs us) (r2 : Vals ys vs)
    (i : Nat) (h1 : i < us.toArray.size) (h2 : i < vs.toArray.size) (s : Shared) (l : LoopI X pins σ H s) :
    wpAny (model X.prog X.w) A.in1 (eqBool us.toArray[i] vs.toArray[i]) (fun b s2 => b = e i ∧ LoopI X pins σ H s2) X.xe s := by
  obtain ⟨H1, I1, x1⟩ := l
  have i1 : i < us.length := by simpa using h1
  have i2 : i < vs.length := by simpa using h2
  have j1 : i < xs.length := by rw [r.length]; exact i1
  have j2 : i < ys.length := by rw [r2.length]; exact i2
  obtain ⟨u, hu, ru⟩ := r.get (List.getElem?_eq_getElem j1)
  obtain ⟨v, hv, rv⟩ := r2.get (List.getElem?_eq_getElem j2)
  have eu : us.toArray[i] = u := by
    rw [List.getElem?_eq_getElem i1] at hu
    simpa using hu
  have ev : vs.toArray[i] = v := by
    rw [List.getElem?_eq_getElem i2] at hv
    simpa using hv
  rw [eu, ev]
  refine wpAny_mono (h A.in1 pins s σ H1 _ _ u v _ sb.in1 I1 ru rv (p i _ _ (List.getElem?_eq_getElem j1) (List.getElem?_eq_getElem j2) H1 x1)) (fun c s2 q => ?_) fun _ _ x => x
  obtain ⟨hc, H2, I2, x2⟩ := q
  exact ⟨hc, H2, I2, x1.trans x2⟩
/-- x == y, x != y of tuples -/
def rEqB (D : Bqv) : R2 := fun x y H Q => ∃ b, D x y H b ∧ ∀ H', Ext H H' → Q (.bl b) H'
def rNeB (D : Bqv) : R2 := fun x y H Q => ∃ b, D x y H b ∧ ∀ H', Ext H H' → Q (.bl (!b)) H'
theorem rc_eqTup (h : EqB X n D) {A : Around} (sb : L2.Sub X (n + 1) A) {pins : List (Addr × Obj)} {σ : L2.St} {H : Hp} {s : Shared} {x y : V} {u v : Value} {b : Bool} (I : Inv X pins σ H s) (rx : RelV x u) (ry : RelV y v) (d : BTup X.K D x y H b) :
    wpAny (model X.prog X.w) A (richCompare .Eq u v) (fun r s' => r = .bool b ∧ LoopI X pins σ H s') X.xe s := by
  obtain ⟨a, c, xs, ys, e, rfl, rfl, ha, hc, hl, p, rfl⟩ := d
  cases rx
  cases ry
  obtain ⟨us, r, e1, _⟩ := I.tuple ha
  obtain ⟨vs, r2, e2, _⟩ := I.tuple hc
  have hsz : us.toArray.size = vs.toArray.size := by
    rw [List.size_toArray, List.size_toArray, ← r.length, ← r2.length]
    exact hl
  obtain ⟨⟨k1, d1, t1, z1⟩, o1, q1, m1, w1⟩ := e1
  obtain ⟨⟨k2, d2, t2, z2⟩, o2, q2, m2, w2⟩ := e2
  simp only at q1 w1 q2 w2
  subst q1 w1 q2 w2
  refine wpAny_richCompare_same_room (op := .Eq) ⟨_, o1, rfl⟩ ⟨_, o2, rfl⟩ F.slot_tuple_eq (GQ.call_here F.slot_tuple_eq ⟨_, o1, rfl⟩ F.entry_tuple_eq (F.args_tuple_eq_2 _ _) ?_) sb.room.units0
  refine tuple_eqB (I := fun s' => LoopI X pins σ H s') (e := e) hsz (fun i h1 h2 s' q => turnB h sb p r r2 i h1 h2 s' q) (fun s' q => ?_) o1 o2 ⟨H, I, Ext.rfl'⟩
  refine ⟨(fun x => nomatch x), ?_, q⟩
  rw [List.size_toArray, ← r.length]
theorem rc_neTup (h : EqB X n D) {A : Around} (sb : L2.Sub X (n + 1) A) {pins : List (Addr × Obj)} {σ : L2.St} {H : Hp} {s : Shared} {x y : V} {u v : Value} {b : Bool} (I : Inv X pins σ H s) (rx : RelV x u) (ry : RelV y v) (d : BTup X.K D x y H b) :
    wpAny (model X.prog X.w) A (richCompare .NotEq u v) (fun r s' => r = .bool (!b) ∧ LoopI X pins σ H s') X.xe s := by
  obtain ⟨a, c, xs, ys, e, rfl, rfl, ha, hc, hl, p, rfl⟩ := d
  cases rx
  cases ry
  obtain ⟨us, r, e1, _⟩ := I.tuple ha
  obtain ⟨vs, r2, e2, _⟩ := I.tuple hc
  have hsz : us.toArray.size = vs.toArray.size := by
    rw [List.size_toArray, List.size_toArray, ← r.length, ← r2.length]
    exact hl
  obtain ⟨⟨k1, d1, t1, z1⟩, o1, q1, m1, w1⟩ := e1
  obtain ⟨⟨k2, d2, t2, z2⟩, o2, q2, m2, w2⟩ := e2
  simp only at q1 w1 q2 w2
  subst q1 w1 q2 w2
  refine wpAny_richCompare_same_room (op := .NotEq) ⟨_, o1, rfl⟩ ⟨_, o2, rfl⟩ F.slot_tuple_ne (GQ.call_here F.slot_tuple_ne ⟨_, o1, rfl⟩ F.entry_tuple_ne (F.args_tuple_ne_2 _ _) ?_) sb.room.units0
  refine tuple_neB (I := fun s' => LoopI X pins σ H s') (e := e) hsz (fun i h1 h2 s' q => turnB h sb p r r2 i h1 h2 s' q) (fun s' q => ?_) o1 o2 ⟨H, I, Ext.rfl'⟩
  refine ⟨(fun x => nomatch x), ?_, q⟩
  rw [List.size_toArray, ← r.length]
theorem op_eqTB (h : EqB X n D) (hr : Room (n + 1) X.A) : OpR X (compareOp .Eq) (rEqB (BTup X.K D)) := fun pins s σ H x y v u Q I rx ry ⟨b, d, q⟩ =>
  wpAny_mono (rc_eqTup h ⟨hr, rfl⟩ I rx ry d) (fun _ _ ⟨hr', H', I', e⟩ => by subst hr'; exact ⟨.bl b, H', I', rfl, q H' e⟩) fun _ _ x => x
theorem op_neTB (h : EqB X n D) (hr : Room (n + 1) X.A) : OpR X (compareOp .NotEq) (rNeB (BTup X.K D)) := fun pins s σ H x y v u Q I rx ry ⟨b, d, q⟩ =>
  wpAny_mono (rc_neTup h ⟨hr, rfl⟩ I rx ry d) (fun _ _ ⟨hr', H', I', e⟩ => by subst hr'; exact ⟨.bl (!b), H', I', rfl, q H' e⟩) fun _ _ x => x
end
/-! ### quotients -/
def BQ (K : PySem.W.Frag) (C : Addr) : Bqv := fun u v H b => ∃ (a c : Addr) (x y : Rat) (m n : Nat), u = .ref a ∧ v = .ref c ∧ Rep K H u (dQ C x) ∧ Rep K H v (dQ C y) ∧ bits x m ∧ bits y n ∧ m + n ≤ 8900 ∧ b = decide (x = y)
theorem rep_int {K : PySem.W.Frag} {H : Hp} {v : V} {i : Int} (h : Rep K H v (.int i)) : v = .int i := by
  cases h
  rfl
theorem rep_inj {K : PySem.W.Frag} {H : Hp} {C a : Addr} {x y : Rat} (h : Rep K H (.ref a) (dQ C x)) (k : Rep K H (.ref a) (dQ C y)) : x = y := by
  cases h with
  | ins h1 r1 =>
    cases k with
    | ins k1 s1 =>
      rw [h1] at k1
      cases k1
      cases r1 with
      | cons a1 r1 =>
        cases r1 with
        | cons a2 r1 =>
          cases s1 with
          | cons b1 s1 =>
            cases s1 with
            | cons b2 s1 =>
              have e1 := (rep_int a1).symm.trans (rep_int b1)
              have e2 := (rep_int a2).symm.trans (rep_int b2)
              injection e1 with e1
              injection e2 with e2
              exact Rat.ext e1 (by omega)
theorem eqB_q {X : Cx} {k : Nat} {f C : Addr} {fd : FuncData} {ps : List Str} (F : FnOk X.prog X.w X.K X.mg X.base CX0 k f fd ps (spP X.K 2 (W_q2 C fun x y => .bl (decide (x = y)))))
    (hs : PySem.W.findIn X.K (.ref C) "__eq__" = some (some (.ref f))) (hf : PySem.W.isFn X.K (.ref f) = true) (hb : Binds X.K fd ps []) : EqB X k (BQ X.K C) := by
  rintro A pins s σ H u v p q b sb I ru rv ⟨a, c, x, y, m, n, rfl, rfl, r1, r2, hx, hy, hm, rfl⟩
  cases ru
  cases rv
  by_cases hac : a = c
  · subst hac
    have e := rep_inj r1 r2
    exact SeqAt.EqAt.same (A := A) (s := s) (.ref a) X.prog X.w X.xe _ ⟨by rw [decide_eq_true e], H, I, Ext.rfl'⟩
  refine GQ.eqBool_refG hac ?_
  have r1' := r1
  have r2' := r2
  cases r1' with
  | ins g1 _ =>
    cases r2' with
    | ins g2 _ =>
      obtain ⟨_, J1, _⟩ := ins_get I.hok g1
      obtain ⟨_, J2, _⟩ := ins_get I.hok g2
      obtain ⟨_, J1, _⟩ := J1.look
      obtain ⟨_, J2, _⟩ := J2.look
      obtain ⟨_, hF⟩ := I.fr
      refine PySem.W.cmp_K (tb := .ref C) (op := .Eq) sb.room.units0 hF I.ok.mod.kin J1 J2.type (by simp [PySem.W.notFirst]) hs hf ?_
      have hsp : spP X.K 2 (W_q2 C fun x y => .bl (decide (x = y))) [.ref a, .ref c] H (fun v H' => v = .bl (decide (x = y)) ∧ Ext H H') E0 := by
        refine ⟨[], H, [dQ C x, dQ C y], fun d => d = .bl (decide (x = y)), ⟨Evl.Ex.refl H, (fun p hp => absurd hp (by simp)), List.nodup_nil⟩, .cons r1 (.cons r2 .nil), rfl, ⟨x, y, m, n, rfl, hx, hy, hm, rfl⟩, ?_⟩
        rintro v d B2 H2 rfl e hs2 rv
        cases rv
        exact ⟨rfl, e.trans hs2.ex⟩
      have e0 : Env0 X.prog X.w X.K X.mg X.base A X.stack s H := ⟨by rw [sb.fr]; exact I.env0.frames, I.env0.mod, I.env0.bs, I.env0.bsz, I.env0.funs, I.env0.frf, I.env0.hok, I.env0.bare⟩
      have hl := F.len _ _ _ _ hsp
      have hbd := hb s [.ref a, .ref c] I.kIn (by simpa using hl)
      refine wpAny_call (codeAny_mono (F.run A X.stack s H ⟨[.ref a, .ref c], []⟩ [.ref a, .ref c] [.ref a, .ref c] _ E0 sb.room e0 (by simpa using hbd) (.cons rfl (.cons rfl .nil)) hsp) fun r s' hq => ?_)
      cases r with
      | error e => exact hq.elim
      | ok fl =>
        cases fl with
        | ret w =>
          obtain ⟨z, H', I', rz, ez, ex⟩ := I.after hq
          subst ez
          cases rz
          exact ⟨_, rfl, rfl, H', I', ex⟩
        | next => exact hq.elim
        | brk => exact hq.elim
        | cont => exact hq.elim
section
variable {K : PySem.W.Frag} {C : Addr} {O : Store} {P : D → Store → Prop} {xs ys : List Rat} {m : Nat}
def nthEq (xs ys : List Rat) (i : Nat) : Bool := decide (xs[i]? = ys[i]?)
theorem allB_eq (h : xs.length = ys.length) : allB (nthEq xs ys) xs.length = decide (xs = ys) := by
  by_cases e : xs = ys
  · subst e
    rw [decide_eq_true rfl]
    exact allB_true fun j _ => decide_eq_true rfl
  · rw [decide_eq_false e]
    apply Bool.eq_false_iff.mpr
    intro z
    apply e
    apply List.ext_getElem?
    intro i
    by_cases hi : i < xs.length
    · unfold allB at z
      rw [List.all_eq_true] at z
      exact of_decide_eq_true (z i (List.mem_range.mpr hi))
    · rw [List.getElem?_eq_none (by omega), List.getElem?_eq_none (by omega)]
theorem btup_q {B H : Hp} {v u : V} (hl : xs.length = ys.length) (hx : ∀ q ∈ xs, bits q m) (hy : ∀ q ∈ ys, bits q m) (hm : m + m ≤ 8900) (e : Ex B H) (rx : Rep K B v (.tup (xs.map (dQ C)))) (ry : Rep K B u (.tup (ys.map (dQ C)))) :
    BTup K (BQ K C) v u H (decide (xs = ys)) := by
  cases rx with
  | tup h1 r1 =>
    cases ry with
    | tup h2 r2 =>
      have l1 := r1.length
      have l2 := r2.length
      rw [List.length_map] at l1 l2
      refine ⟨_, _, _, _, nthEq xs ys, rfl, rfl, Evl.ex_t e h1, Evl.ex_t e h2, by omega, fun i a b ha hb H' e' => ?_, by rw [l1, allB_eq hl]⟩
      have hi : i < xs.length := by
        have := (List.getElem?_eq_some_iff.mp ha).1
        omega
      obtain ⟨d1, g1, q1⟩ := r1.get' ha
      obtain ⟨d2, g2, q2⟩ := r2.get' hb
      rw [List.getElem?_map, List.getElem?_eq_getElem hi] at g1
      rw [List.getElem?_map, List.getElem?_eq_getElem (show i < ys.length by omega)] at g2
      cases g1
      cases g2
      have w1 := q1.mono (e.trans e')
      have w2 := q2.mono (e.trans e')
      have k1 := w1
      have k2 := w2
      cases k1 with
      | ins _ _ =>
        cases k2 with
        | ins _ _ =>
          refine ⟨_, _, xs[i], ys[i], m, m, rfl, rfl, w1, w2, hx _ (List.getElem_mem hi), hy _ (List.getElem_mem _), hm, ?_⟩
          unfold nthEq
          rw [List.getElem?_eq_getElem hi, List.getElem?_eq_getElem (show i < ys.length by omega)]
          simp
theorem hs_keep {B H H' : Hp} {F : Store} (hs : Hs K B H F) (e : Ext H H') : Hs K B H' F := ⟨hs.ex.trans e, fun p hp => by
  obtain ⟨g1, g2⟩ := hs.own p hp
  obtain ⟨o, ho⟩ := g2.some
  exact ⟨g1, g2.mono (Evl.Ex.refl B) ((e _ _ ho).trans ho.symm)⟩, hs.nd⟩
theorem r_eqTB (hl : xs.length = ys.length) (hx : ∀ q ∈ xs, bits q m) (hy : ∀ q ∈ ys, bits q m) (hm : m + m ≤ 8900) (p : P (.bl (decide (xs = ys))) O) : wR K (rEqB (BTup K (BQ K C))) (.tup (xs.map (dQ C))) (.tup (ys.map (dQ C))) O P :=
  fun F v u B H rx ry hs Q q => ⟨_, btup_q hl hx hy hm hs.ex rx ry, fun H' e => q _ _ O B H' p (Evl.Ex.refl B) (hs_keep hs e) (.raw _)⟩
theorem r_neTB (hl : xs.length = ys.length) (hx : ∀ q ∈ xs, bits q m) (hy : ∀ q ∈ ys, bits q m) (hm : m + m ≤ 8900) (p : P (.bl (!decide (xs = ys))) O) : wR K (rNeB (BTup K (BQ K C))) (.tup (xs.map (dQ C))) (.tup (ys.map (dQ C))) O P :=
  fun F v u B H rx ry hs Q q => ⟨_, btup_q hl hx hy hm hs.ex rx ry, fun H' e => q _ _ O B H' p (Evl.Ex.refl B) (hs_keep hs e) (.raw _)⟩
end
section
variable {K : PySem.W.Frag} {ρ : Rho} {O : Store} {P : D → Store → Prop} {ta : TE}
theorem e_notN (h : wE K ta ρ O fun x O1 => (x = .non → P (.bl false) O1) ∧ (x ≠ .non → P (.bl true) O1)) : wE K (tNotN ta) ρ O P := fun F σ B H e hs Q q =>
  h F σ B H e hs _ fun v x O1 B1 H1 p1 e1 hs1 rx => by
    by_cases hx : x = .non
    · subst hx
      cases rx
      exact (q.ex e1).here hs1 (.raw _) (p1.1 rfl)
    · have hv : v ≠ .non := by
        rintro rfl
        cases rx
        exact hx rfl
      rw [decide_eq_false hv]
      exact (q.ex e1).here hs1 (.raw _) (p1.2 hx)
end
/-! ### chromaticities -/
def sV (v : V3) : Rat := v.x + v.y + v.z
def cD (C : Addr) (v : V3) : D := if sV v = 0 then .non else .tup [dQ C (v.x / sV v), dQ C (v.y / sV v)]
theorem cD_0 {C : Addr} {v : V3} (h : sV v = 0) : cD C v = .non := if_pos h
theorem cD_1 {C : Addr} {v : V3} (h : sV v ≠ 0) : cD C v = .tup [dQ C (v.x / sV v), dQ C (v.y / sV v)] := if_neg h
def W_chrom (C : Addr) (ds : List D) (P : D → Prop) : Prop := ∃ (v : V3) (m : Nat), ds = [dV C v] ∧ bitsV v m ∧ 10 * m + 10 ≤ 8900 ∧ P (cD C v)
theorem bits_sV {v : V3} {m : Nat} (h : bitsV v m) : bits (sV v) (m + m + 1 + m + 1) := bits_add (bits_add h.1 h.2.1) h.2.2
theorem over_mul {f x s : Rat} (hf : f ≠ 0) (hs : s ≠ 0) : f * x / (f * s) = x / s := by
  grind
theorem mul_ne {f s : Rat} (hf : f ≠ 0) (hs : s ≠ 0) : f * s ≠ 0 := by grind
theorem num_ne {q : Rat} (h : q.num ≠ 0) : q ≠ 0 := fun e => h (by rw [e]; rfl)
theorem sV_mul (q : Rat) (v : V3) : sV (mulV q v) = q * sV v := by
  simp only [sV, mulV]
  grind
/-! ### minors, determinants, mixtures of pairs -/
def W_minor (ds : List D) (P : D → Prop) : Prop := ∃ (a b : V3) (i j m n m' n' : Nat), ds = [lV a, lV b, .int (0 + (i : Int)), .int (0 + (j : Int))] ∧ i < 3 ∧ j < 3 ∧ bnV a m n ∧ bnV b m' n' ∧ m + m' + n + n' ≤ 4000 ∧ 2 * (n + n') ≤ 300 ∧ P (dP (a.at i * b.at j - a.at j * b.at i))
def W_fdet (ds : List D) (P : D → Prop) : Prop := ∃ (a b c : V3) (m n m' n' m2 n2 : Nat), ds = [lV a, lV b, lV c] ∧ bnV a m n ∧ bnV b m' n' ∧ bnV c m2 n2 ∧ m + m' + m2 + 10 * (n + n' + n2) ≤ 4000 ∧ 3 * (n + 2 * (n' + n2)) ≤ 300 ∧ P (dP (detV a b c))
theorem at_bn {v : V3} {m n i : Nat} (h : bnV v m n) : bn (v.at i) m n := by
  obtain ⟨h1, h2, h3⟩ := h
  match i with
  | 0 => exact h1
  | 1 => exact h2
  | _ + 2 => exact h3
theorem at_lV {v : V3} : ∀ {i : Nat}, i < 3 → atI [dP v.x, dP v.y, dP v.z] (0 + (i : Int)) = some (dP (v.at i))
  | 0, _ => rfl
  | 1, _ => rfl
  | 2, _ => rfl
  | n + 3, h => by omega
theorem bn_minor {a b : V3} {i j m n m' n' : Nat} (ha : bnV a m n) (hb : bnV b m' n') : bn (a.at i * b.at j - a.at j * b.at i) (m + m' + n + n' + 1) (2 * (n + n')) := by
  refine bn_mono (bn_sub (bn_mul (at_bn ha) (at_bn hb)) (bn_mul (at_bn ha) (at_bn hb)) (k := m + m' + n + n') (by omega) (by omega)) (Nat.le_refl _) (by omega)
theorem bn_det {a b c : V3} {m n m' n' m2 n2 : Nat} (ha : bnV a m n) (hb : bnV b m' n') (hc : bnV c m2 n2) : bn (detV a b c) (m + (m' + m2 + n' + n2 + 1) + 2 * (n + 2 * (n' + n2)) + 2) (3 * (n + 2 * (n' + n2))) := by
  have e : detV a b c = a.x * (b.at 1 * c.at 2 - b.at 2 * c.at 1) + a.y * (b.at 2 * c.at 0 - b.at 0 * c.at 2) + a.z * (b.at 0 * c.at 1 - b.at 1 * c.at 0) := by
    simp only [detV, V3.at]
    grind
  rw [e]
  have t1 := bn_mul ha.1 (bn_minor (i := 1) (j := 2) hb hc)
  have t2 := bn_mul ha.2.1 (bn_minor (i := 2) (j := 0) hb hc)
  have t3 := bn_mul ha.2.2 (bn_minor (i := 0) (j := 1) hb hc)
  have s1 := bn_add t1 t2 (k := m + (m' + m2 + n' + n2 + 1) + (n + 2 * (n' + n2))) (by omega) (by omega)
  refine bn_mono (bn_add s1 t3 (k := m + (m' + m2 + n' + n2 + 1) + 2 * (n + 2 * (n' + n2)) + 1) (by omega) (by omega)) (by omega) (by omega)
def dk (m n m' n' m2 n2 : Nat) : Nat := m + (m' + m2 + n' + n2 + 1) + 2 * (n + 2 * (n' + n2)) + 2
def dn (n n' n2 : Nat) : Nat := 3 * (n + 2 * (n' + n2))
def crD (a b c d : V3) : D := if detV a b c = 0 then .lst [] else .lst [dP (detV d b c / detV a b c), dP (detV a d c / detV a b c), dP (detV a b d / detV a b c)]
def W_cramer (ds : List D) (P : D → Prop) : Prop := ∃ (a b c d : V3) (m1 n1 m2 n2 m3 n3 m4 n4 : Nat), ds = [lV a, lV b, lV c, lV d] ∧ bnV a m1 n1 ∧ bnV b m2 n2 ∧ bnV c m3 n3 ∧ bnV d m4 n4 ∧
  dn n4 n2 n3 + dk m1 n1 m2 n2 m3 n3 ≤ 300 ∧ dn n1 n4 n3 + dk m1 n1 m2 n2 m3 n3 ≤ 300 ∧ dn n1 n2 n4 + dk m1 n1 m2 n2 m3 n3 ≤ 300 ∧ dn n1 n2 n3 ≤ 300 ∧ m4 + dk m1 n1 m2 n2 m3 n3 ≤ 500 ∧ P (crD a b c d)
def mixP (ps : List (V3 × Rat)) : V3 := ps.foldl (fun v c => addV v (mulV c.2 c.1)) zV
theorem mixP_take {ps : List (V3 × Rat)} {i : Nat} (hi : i < ps.length) : mixP (ps.take (i + 1)) = addV (mixP (ps.take i)) (mulV ps[i].2 ps[i].1) := by
  unfold mixP
  have e : ps.take (i + 1) = ps.take i ++ [ps[i]] := by
    rw [List.take_succ, List.getElem?_eq_getElem hi]
    rfl
  rw [e, List.foldl_append]
  rfl
def W_mixed (ds : List D) (P : D → Prop) : Prop := ∃ (ps : List (V3 × Rat)) (m n m' n' : Nat), ds = [.lst (ps.map fun c => lV c.1), .lst (ps.map fun c => dP c.2)] ∧ ps.length ≤ 100 ∧ (∀ c ∈ ps, bnV c.1 m n ∧ bn c.2 m' n') ∧ 0 < m + m' ∧ 0 < n + n' ∧ ps.length * (n + n') + 1 ≤ 300 ∧ m + m' ≤ 2000 ∧ P (lV (mixP ps))
theorem zero_addV (v : V3) : addV zV v = v := by
  apply V3.ext'
  · exact Rat.zero_add _
  · exact Rat.zero_add _
  · exact Rat.zero_add _
/-- the bounds of a mixture that has begun -/
theorem bn_mixP {ps : List (V3 × Rat)} {m n m' n' : Nat} (h : ∀ c ∈ ps, bnV c.1 m n ∧ bn c.2 m' n') : ∀ i, i < ps.length → bnV (mixP (ps.take (i + 1))) (m + m' + i * (n + n' + 1)) ((i + 1) * (n + n'))
  | 0, hi => by
    obtain ⟨⟨c1, c2, c3⟩, ha⟩ := h _ (List.getElem_mem hi)
    rw [mixP_take hi]
    show bnV (addV zV (mulV ps[0].2 ps[0].1)) _ _
    rw [zero_addV]
    exact ⟨bn_mono (bn_mul ha c1) (by omega) (by omega), bn_mono (bn_mul ha c2) (by omega) (by omega), bn_mono (bn_mul ha c3) (by omega) (by omega)⟩
  | i + 1, hi => by
    obtain ⟨⟨c1, c2, c3⟩, ha⟩ := h _ (List.getElem_mem hi)
    obtain ⟨b1, b2, b3⟩ := bn_mixP h i (by omega)
    rw [mixP_take hi]
    have e1 : (i + 1) * (n + n' + 1) = i * (n + n' + 1) + (n + n' + 1) := Nat.succ_mul _ _
    have e2 : (i + 1 + 1) * (n + n') = (i + 1) * (n + n') + (n + n') := Nat.succ_mul _ _
    have e3 : (i + 1) * (n + n') = i * (n + n') + (n + n') := Nat.succ_mul _ _
    have e4 : i * (n + n' + 1) = i * (n + n') + i := Nat.mul_succ _ _
    exact ⟨bn_mono (bn_add b1 (bn_mul ha c1) (k := m + m' + i * (n + n' + 1) + (n + n')) (by omega) (by omega)) (by omega) (by omega),
      bn_mono (bn_add b2 (bn_mul ha c2) (k := m + m' + i * (n + n' + 1) + (n + n')) (by omega) (by omega)) (by omega) (by omega),
      bn_mono (bn_add b3 (bn_mul ha c3) (k := m + m' + i * (n + n' + 1) + (n + n')) (by omega) (by omega)) (by omega) (by omega)⟩
theorem bn_mixP0 {ps : List (V3 × Rat)} {m n m' n' i : Nat} (h : ∀ c ∈ ps, bnV c.1 m n ∧ bn c.2 m' n') (hi : i < ps.length) (hn : 0 < n + n') (h100 : ps.length ≤ 100) (h3 : ps.length * (n + n') + 1 ≤ 300) (hm : m + m' ≤ 2000) :
    ∃ M N, bnV (mixP (ps.take i)) M N ∧ M + (n + n') ≤ 5000 ∧ m + m' + N ≤ 5000 ∧ N + (n + n') ≤ 300 := by
  have e : (i + 1) * (n + n') ≤ ps.length * (n + n') := Nat.mul_le_mul_right _ (by omega)
  have e1 : (i + 1) * (n + n') = i * (n + n') + (n + n') := Nat.succ_mul _ _
  match i, hi with
  | 0, _ =>
    have z : bnV zV 1 1 := ⟨⟨by decide, by decide⟩, ⟨by decide, by decide⟩, ⟨by decide, by decide⟩⟩
    exact ⟨1, 1, z, by omega, by omega, by omega⟩
  | i + 1, hi =>
    have e4 : i * (n + n' + 1) = i * (n + n') + i := Nat.mul_succ _ _
    have e5 : (i + 1) * (n + n') = i * (n + n') + (n + n') := Nat.succ_mul _ _
    exact ⟨_, _, bn_mixP h i (by omega), by omega, by omega, by omega⟩
theorem at_three {v : V3} {e : D} : ∀ {i : Nat}, i < 3 → [dP v.x, dP v.y, dP v.z][i]? = some e → e = dP (v.at i)
  | 0, _, h => by cases h; rfl
  | 1, _, h => by cases h; rfl
  | 2, _, h => by cases h; rfl
  | n + 3, h, _ => by omega
theorem atI_map' {α : Type} {xs : List α} {f : α → D} {i : Nat} (hi : i < xs.length) : atI (xs.map f) (0 + (i : Int)) = some (f xs[i]) := by
  rw [atI_nat' (by omega) (by rw [List.length_map]; omega), List.getElem?_map, show (0 + (i : Int)).toNat = i by omega, List.getElem?_eq_getElem hi]
  rfl
end G
/-! try .. except: what is asked of the body's one call. -/
namespace G
open PySem L2 PySem.Spec PyProof.Rows
section
variable {K : PySem.W.Frag} {ρ : Rho} {n : Nat} {W : List D → (D → Prop) → (Addr → Prop) → Prop} {t : TA} {c : Value} {ts : Addr → Value → Option Addr → TS} {PS : Out → Store → Prop} {P : D → Prop} {PX : Addr → Prop} {i : Nat}
def retOnly (PS : Out → Store → Prop) : Out → Store → Prop
  | .ret d, O => PS (.ret d) O
  | _, _ => False
/-- try: return f(..) except X: .. -/
theorem s_tryRet (h : wA K t ρ [] fun ds O => O = [] ∧ ds.length = n ∧ W ds P PX) (hn : ∀ d, P d → PS (.ret d) []) (hx : ∀ x, PX x → PySem.W.exmOne K (.ref x) c = some true ∧ ∀ a, wS K (ts a (.ref x) none) ρ [] PS) :
    wS K (fun D σ H => tRet (tCallS (spX K n W) (WE (wOnly K c ts (fun _ _ _ _ => False) D)) t) D σ H) ρ [] PS := fun F σ B H e hs Dn q =>
  h F σ B H e hs _ fun vs ds O1 B1 H1 p1 e1 hs1 r => by
    obtain ⟨rfl, hl, hw⟩ := p1
    refine ⟨F, B1, ds, P, PX, hs1, r, hl, hw, fun v d B2 H2 p e2 hs2 rv => q (.ret d) [] B2 H2 (hn d p) (e1.trans e2) hs2 v rv, fun x B2 H2 p e2 hs2 => ⟨true, (hx x p).1, fun _ a ha => ?_, fun z => nomatch z⟩⟩
    exact (hx x p).2 a F σ B2 H2 (e.mono (e1.trans e2)) hs2 Dn fun o O' B3 H3 p3 e3 hs3 => q o O' B3 H3 p3 ((e1.trans e2).trans e3) hs3
/-- try: f(..) except X: .. -/
theorem s_tryDrop (h : wA K t ρ [] fun ds O => O = [] ∧ ds.length = n ∧ W ds P PX) (hn : ∀ d, P d → PS (.nx ρ) []) (hx : ∀ x, PX x → PySem.W.exmOne K (.ref x) c = some true ∧ ∀ a, wS K (ts a (.ref x) none) ρ [] PS) :
    wS K (fun D σ H => tDrop (tCallS (spX K n W) (WE (wOnly K c ts (fun _ _ _ _ => False) D)) t) D σ H) ρ [] PS := fun F σ B H e hs Dn q =>
  h F σ B H e hs _ fun vs ds O1 B1 H1 p1 e1 hs1 r => by
    obtain ⟨rfl, hl, hw⟩ := p1
    refine ⟨F, B1, ds, P, PX, hs1, r, hl, hw, fun v d B2 H2 p e2 hs2 rv => q (.nx ρ) [] B2 H2 (hn d p) (e1.trans e2) hs2 σ (e.mono (e1.trans e2)), fun x B2 H2 p e2 hs2 => ⟨true, (hx x p).1, fun _ a ha => ?_, fun z => nomatch z⟩⟩
    exact (hx x p).2 a F σ B2 H2 (e.mono (e1.trans e2)) hs2 Dn fun o O' B3 H3 p3 e3 hs3 => q o O' B3 H3 p3 ((e1.trans e2).trans e3) hs3
/-- try: return f(..) except X as e: .. return .. -/
theorem s_tryRetAs (h : wA K t ρ [] fun ds O => O = [] ∧ ds.length = n ∧ W ds P PX) (hn : ∀ d, P d → PS (.ret d) [])
    (hx : ∀ x, PX x → PySem.W.exmOne K (.ref x) c = some true ∧ ∀ a, wS K (ts a (.ref x) none) (ρ.set i (some (.loc a))) [] (retOnly PS)) :
    wS K (fun D σ H => tRet (tCallS (spX K n W) (WE (wAs K c i ts (fun _ _ _ _ => False) D)) t) D σ H) ρ [] PS := fun F σ B H e hs Dn q =>
  h F σ B H e hs _ fun vs ds O1 B1 H1 p1 e1 hs1 r => by
    obtain ⟨rfl, hl, hw⟩ := p1
    refine ⟨F, B1, ds, P, PX, hs1, r, hl, hw, fun v d B2 H2 p e2 hs2 rv => q (.ret d) [] B2 H2 (hn d p) (e1.trans e2) hs2 v rv, fun x B2 H2 p e2 hs2 => ⟨true, (hx x p).1, fun _ a ha => ?_, fun z => nomatch z⟩⟩
    refine (hx x p).2 a F _ B2 H2 ((e.mono (e1.trans e2)).set i (.raw _)) hs2 _ fun o O' B3 H3 p3 e3 hs3 => ?_
    cases o with
    | ret d => exact q (.ret d) O' B3 H3 p3 ((e1.trans e2).trans e3) hs3
    | nx ρ => exact False.elim p3
    | bk ρ => exact False.elim p3
    | ct ρ => exact False.elim p3
end
end G
/-! A method's call, and the making of an instance, inside try. -/
namespace G
open PySem L2 PySem.Spec PyProof.Rows
section
variable {X : Cx} {CX : CXT} {k : Nat} {f C : Addr} {fd : FuncData} {ps : List Str} {sp : Sp} {E : L2.St → XK} {x m : Str} {p pos apos : Pos} {e o : Expr} {es : List Expr} {to : TE} {t : TA}
def tMethS (C : Addr) (m : Str) (sp : Sp) (E : L2.St → XK) (to : TE) (t : TA) : TE := fun σ H Q => tMeth C m sp [] (E σ) to t σ H Q
def tMakeS (C : Addr) (sp : Sp) (E : L2.St → XK) (t : TA) : TE := fun σ H Q => tMake C sp [] (E σ) t σ H Q
theorem pe_methS {pl : Sem Bool} (ho : PE X o to) (c : Cls X.K C) (hm : Meth X.K C m f) (F : FnOk X.prog X.w X.K X.mg X.base CX k f fd ps sp) (hr : Room k X.A) (hb : Binds X.K fd ps []) (hx : ∀ σ, PassesAt CX X σ (E σ)) (ha : PA X (e :: es) t)
    (h1 : starEach (e :: es) X.env = (false, eval e X.env) :: starEach es X.env := by rfl) (h2 : (backTo pos (starEach es X.env)).any (·.1) = false := by rfl)
    (h3 : eval (.Call (.Attribute o m apos) (e :: es) [] pos) X.env = (do
      let ov ← eval o X.env; standAt apos.atName
      let (g, first) ← holding [ov] (getMethod ov m pl); callWith pos g first (backTo pos (starEach (e :: es) X.env)) (backToKw pos (keywordEach [] X.env))) := by rfl) :
    PE X (.Call (.Attribute o m apos) (e :: es) [] pos) (tMethS C m sp E to t) :=
  ⟨fun pins s σ H Q I h => PySem.W.methodCall_KW (pl := pl) (thn (ho.run pins s σ H _ I h) fun u s1 z => by
    obtain ⟨_, H1, I1, ru, a, dx, fs, rfl, hi, hl, q⟩ := z
    cases ru
    exact getmeth_ok I1 hi c hm hl (PySem.W.callWith_K (h₀ := X.base) (first := [.ref a]) I.ok.mod.kin hm.kp (thn (ha.run pos pins s1 σ H1 _ I1 q) fun us s2 y => by
      obtain ⟨vs, H2, I2, r, q2⟩ := y
      rw [List.append_nil] at q2
      exact ⟨I2.kIn, run_fnS (us := .ref a :: us) (vs := .ref a :: vs) F hr hb (hx σ) I2 (.cons rfl r) q2⟩) h1 h2)) h3⟩
theorem pe_makeS (M : Mk X.K C f) (F : FnOk X.prog X.w X.K X.mg X.base CX k f fd ps sp) (hr : Room (k + 1) X.A) (hg : Gl X x) (hm : X.mg x = some (.ref C)) (hb : Binds X.K fd ps []) (hx : ∀ σ, PassesAt CX X σ (E σ)) (ha : PA X (e :: es) t)
    (h0 : (x == ("__debug__" : Str)) = false := by decide) (h1 : starEach (e :: es) X.env = (false, eval e X.env) :: starEach es X.env := by rfl) (h2 : (backTo pos (starEach es X.env)).any (·.1) = false := by rfl) :
    PE X (.Call (.Name x p) (e :: es) [] pos) (tMakeS C sp E t) :=
  ⟨fun pins s σ H Q I h => wpAny_Call_Name_kw (ld_glob I hg hm (PySem.W.callWith_K (h₀ := X.base) I.ok.mod.kin M.kp (thn (ha.run pos pins s σ H _ I h) fun us s1 y => by
    obtain ⟨vs, H1, I1, r, q⟩ := y
    refine ⟨I1.kIn, ?_⟩
    have z := q (s1.heap.objs.size + 1) s1.heap.objs.size (I1.hok.fresh (Nat.le_succ _)) (I1.hok.fresh (Nat.le_refl _)) (Nat.ne_of_lt (Nat.lt_succ_self s1.heap.objs.size))
    rw [List.append_nil] at z
    have J := Inv.made (C := C) I1
    have r2 : Vals (V.ref (s1.heap.objs.size + 1) :: vs) (Value.ref (s1.heap.objs.size + 1) :: us) := .cons rfl r
    have hl : (Value.ref (s1.heap.objs.size + 1) :: us ++ []).length = ps.length := by
      rw [List.append_nil, ← r2.length]
      exact F.len _ _ _ _ z
    have bd := hb _ (Value.ref (s1.heap.objs.size + 1) :: us) J.kIn hl
    rw [List.append_nil] at bd
    refine wpAny_call (make_map (f := f) I1.kIn M.makes M.init (beq_iff_eq.mp M.fn) (codeAny_mono (F.run _ X.stack _ _ ⟨_, []⟩ _ _ _ (E σ) (hr.make C us []) (J.env0.make C us []) bd r2 z) fun w s' hq => ?_))
    match w, hq with
    | .error u, hq => exact hx σ pins _ _ u s' J hq
    | .ok (.ret u), hq =>
      obtain ⟨v, H', J', rv, ev, q3⟩ := J.after hq
      subst ev
      exact ⟨rv, V.ref (s1.heap.objs.size + 1), H', J', rfl, q3⟩
    | .ok .next, hq => exact hq.elim
    | .ok .brk, hq => exact hq.elim
    | .ok .cont, hq => exact hq.elim) h1 h2) h0)⟩
end
section
variable {K : PySem.W.Frag} {ρ : Rho} {n : Nat} {t : TA} {to : TE} {c : Value} {ts : Addr → Value → Option Addr → TS} {PS : Out → Store → Prop} {P : D → Prop} {PX : Addr → Prop} {i : Nat} {C : Addr} {m : Str}
/-- try: C(..) except X: .. -/
theorem s_tryMake {W : List D → (List (Str × D) → Prop) → (Addr → Prop) → Prop} (h : wA K t ρ [] fun ds O => O = [] ∧ ds.length = n ∧ W ds (fun fs => P (.ins C fs)) PX) (hn : ∀ d, P d → PS (.nx ρ) [])
    (hx : ∀ x, PX x → PySem.W.exmOne K (.ref x) c = some true ∧ ∀ a, wS K (ts a (.ref x) none) ρ [] PS) : wS K (fun D σ H => tDrop (tMakeS C (spI K C n W) (WE (wOnly K c ts (fun _ _ _ _ => False) D)) t) D σ H) ρ [] PS := fun F σ B H e hs Dn q =>
  makeX (F := F) (B := B) h e hs (fun v d B2 H2 p e2 hs2 rv => q (.nx ρ) [] B2 H2 (hn d p) e2 hs2 σ (e.mono e2)) fun x B2 H2 p e2 hs2 => ⟨true, (hx x p).1, fun _ a ha => (hx x p).2 a F σ B2 H2 (e.mono e2) hs2 Dn fun o O' B3 H3 p3 e3 hs3 => q o O' B3 H3 p3 (e2.trans e3) hs3, fun z => nomatch z⟩
/-- try: o.m(..) except X as e: .. return .. -/
theorem s_tryMethAs {W : List D → (D → Prop) → (Addr → Prop) → Prop} (h : wE K to ρ [] fun x O1 => ∃ fs, x = .ins C fs ∧ fs.lookup m = none ∧ wA K t ρ O1 fun ds O2 => O2 = [] ∧ ds.length + 1 = n ∧ W (x :: ds) P PX) (hn : ∀ d, P d → PS (.nx ρ) [])
    (hx : ∀ x, PX x → PySem.W.exmOne K (.ref x) c = some true ∧ ∀ a, wS K (ts a (.ref x) none) (ρ.set i (some (.loc a))) [] (retOnly PS)) :
    wS K (fun D σ H => tDrop (tMethS C m (spX K n W) (WE (wAs K c i ts (fun _ _ _ _ => False) D)) to t) D σ H) ρ [] PS := fun F σ B H e hs Dn q =>
  h F σ B H e hs _ fun v x O1 B1 H1 p1 e1 hs1 rx => by
    obtain ⟨fs, rfl, hl, p⟩ := p1
    have rx' := rx
    cases rx with
    | ins h1 r1 =>
      refine ⟨_, _, _, rfl, hs1.ex _ _ h1, r1.look0 hl, p F σ B1 H1 (e.mono e1) hs1 _ fun vs ds O2 B2 H2 p2 e2 hs2 rs => ?_⟩
      obtain ⟨rfl, hlen, hw⟩ := p2
      refine ⟨F, B2, _ :: ds, P, PX, hs2, by rw [List.append_nil]; exact .cons (rx'.mono e2) rs, hlen, hw, fun v d B3 H3 p3 e3 hs3 rv => q (.nx ρ) [] B3 H3 (hn d p3) ((e1.trans e2).trans e3) hs3 σ (e.mono ((e1.trans e2).trans e3)), fun x B3 H3 p3 e3 hs3 => ⟨true, (hx x p3).1, fun _ a ha => ?_, fun z => nomatch z⟩⟩
      refine (hx x p3).2 a F _ B3 H3 ((e.mono ((e1.trans e2).trans e3)).set i (.raw _)) hs3 _ fun o O' B4 H4 p4 e4 hs4 => ?_
      cases o with
      | ret d => exact q (.ret d) O' B4 H4 p4 (((e1.trans e2).trans e3).trans e4) hs4
      | nx ρ => exact False.elim p4
      | bk ρ => exact False.elim p4
      | ct ρ => exact False.elim p4
end
/-! ### isinstance of the exception in hand -/
def tGuard (h : Prop) (t : TS) : TS := fun D σ H => h ∧ t D σ H
theorem pss_guard {X : Cx} {ss : List Stmt} {h : Prop} {t : TS} (k : h → PSs X ss t) : PSs X ss (tGuard h t) := ⟨fun pins s σ H D I w => (k w.1).run pins s σ H D I w.2⟩
theorem zc_of {cls : Value} {d : Option Addr} {oe : Obj} {D : Addr} (z : Zc cls d oe) (h : cls = .ref D ∧ d = none) : Zc (.ref D) none oe := by
  obtain ⟨rfl, rfl⟩ := h
  exact z
section
variable {K : PySem.W.Frag} {ρ : Rho} {O : Store} {P : D → Store → Prop} {PS : Out → Store → Prop} {D' a C : Addr} {b : Bool}
theorem s_guard {h : Prop} {t : TS} (k : h) (w : wS K t ρ O PS) : wS K (tGuard h t) ρ O PS := fun F σ B H e hs Dn q => ⟨k, w F σ B H e hs Dn q⟩
theorem c_isE {t : String} (hk : PySem.W.kitOne K (.ref D') (.type t) = some b) (p : P (.bl b) O) : wC K (rIsE K D' a) [.loc a, .raw (.ty t)] O P := fun F vs B H r hs Q q => by
  cases r with
  | cons r1 r =>
    cases r with
    | cons r2 r =>
      cases r; cases r1; cases r2
      exact ⟨_, _, b, rfl, fun u h => by cases h; rfl, hk, q.here hs (.raw _) p⟩
theorem c_isEC (hk : PySem.W.kitOne K (.ref D') (.ref C) = some b) (p : P (.bl b) O) : wC K (rIsE K D' a) [.loc a, .raw (.ref C)] O P := fun F vs B H r hs Q q => by
  cases r with
  | cons r1 r =>
    cases r with
    | cons r2 r =>
      cases r; cases r1; cases r2
      exact ⟨_, _, b, rfl, fun u h => by cases h; rfl, hk, q.here hs (.raw _) p⟩
end
end G
/-! Rules in the form that a walk takes by their heads: slots by number, ends, splits. -/
namespace G
open PySem L2 PySem.Spec PyProof.Rows
instance : DecidableEq V3 := fun a b => if h : a.x = b.x ∧ a.y = b.y ∧ a.z = b.z then .isTrue (V3.ext' h.1 h.2.1 h.2.2) else .isFalse fun e => h (by rw [e]; exact ⟨rfl, rfl, rfl⟩)
section
variable {K : PySem.W.Frag} {O O1 : Store} {P : D → Store → Prop} {PS : Out → Store → Prop} {te : TE} {PR : Rho → Store → Prop} {r : Rho} {d : D}
theorem ev0 (p : P d O) : wE K (tVar 0) (some d :: r) O P := e_var rfl p
theorem sa0 {y : Option D} (h : wE K te (y :: r) O fun d O1 => PS (.nx (some d :: r)) O1) : wS K (tAsg te (gName 0)) (y :: r) O PS := s_asg h
theorem gn0 {y : Option D} (p : PR (some d :: r) O) : wG K (gName 0) d (y :: r) O PR := g_name p
theorem ev1 {x0 : Option D} (p : P d O) : wE K (tVar 1) (x0 :: some d :: r) O P := e_var rfl p
theorem sa1 {x0 y : Option D} (h : wE K te (x0 :: y :: r) O fun d O1 => PS (.nx (x0 :: some d :: r)) O1) : wS K (tAsg te (gName 1)) (x0 :: y :: r) O PS := s_asg h
theorem gn1 {x0 y : Option D} (p : PR (x0 :: some d :: r) O) : wG K (gName 1) d (x0 :: y :: r) O PR := g_name p
theorem ev2 {x0 x1 : Option D} (p : P d O) : wE K (tVar 2) (x0 :: x1 :: some d :: r) O P := e_var rfl p
theorem sa2 {x0 x1 y : Option D} (h : wE K te (x0 :: x1 :: y :: r) O fun d O1 => PS (.nx (x0 :: x1 :: some d :: r)) O1) : wS K (tAsg te (gName 2)) (x0 :: x1 :: y :: r) O PS := s_asg h
theorem gn2 {x0 x1 y : Option D} (p : PR (x0 :: x1 :: some d :: r) O) : wG K (gName 2) d (x0 :: x1 :: y :: r) O PR := g_name p
theorem ev3 {x0 x1 x2 : Option D} (p : P d O) : wE K (tVar 3) (x0 :: x1 :: x2 :: some d :: r) O P := e_var rfl p
theorem sa3 {x0 x1 x2 y : Option D} (h : wE K te (x0 :: x1 :: x2 :: y :: r) O fun d O1 => PS (.nx (x0 :: x1 :: x2 :: some d :: r)) O1) : wS K (tAsg te (gName 3)) (x0 :: x1 :: x2 :: y :: r) O PS := s_asg h
theorem gn3 {x0 x1 x2 y : Option D} (p : PR (x0 :: x1 :: x2 :: some d :: r) O) : wG K (gName 3) d (x0 :: x1 :: x2 :: y :: r) O PR := g_name p
theorem ev4 {x0 x1 x2 x3 : Option D} (p : P d O) : wE K (tVar 4) (x0 :: x1 :: x2 :: x3 :: some d :: r) O P := e_var rfl p
theorem sa4 {x0 x1 x2 x3 y : Option D} (h : wE K te (x0 :: x1 :: x2 :: x3 :: y :: r) O fun d O1 => PS (.nx (x0 :: x1 :: x2 :: x3 :: some d :: r)) O1) : wS K (tAsg te (gName 4)) (x0 :: x1 :: x2 :: x3 :: y :: r) O PS := s_asg h
theorem gn4 {x0 x1 x2 x3 y : Option D} (p : PR (x0 :: x1 :: x2 :: x3 :: some d :: r) O) : wG K (gName 4) d (x0 :: x1 :: x2 :: x3 :: y :: r) O PR := g_name p
theorem ev5 {x0 x1 x2 x3 x4 : Option D} (p : P d O) : wE K (tVar 5) (x0 :: x1 :: x2 :: x3 :: x4 :: some d :: r) O P := e_var rfl p
theorem sa5 {x0 x1 x2 x3 x4 y : Option D} (h : wE K te (x0 :: x1 :: x2 :: x3 :: x4 :: y :: r) O fun d O1 => PS (.nx (x0 :: x1 :: x2 :: x3 :: x4 :: some d :: r)) O1) : wS K (tAsg te (gName 5)) (x0 :: x1 :: x2 :: x3 :: x4 :: y :: r) O PS := s_asg h
theorem gn5 {x0 x1 x2 x3 x4 y : Option D} (p : PR (x0 :: x1 :: x2 :: x3 :: x4 :: some d :: r) O) : wG K (gName 5) d (x0 :: x1 :: x2 :: x3 :: x4 :: y :: r) O PR := g_name p
theorem ev6 {x0 x1 x2 x3 x4 x5 : Option D} (p : P d O) : wE K (tVar 6) (x0 :: x1 :: x2 :: x3 :: x4 :: x5 :: some d :: r) O P := e_var rfl p
theorem sa6 {x0 x1 x2 x3 x4 x5 y : Option D} (h : wE K te (x0 :: x1 :: x2 :: x3 :: x4 :: x5 :: y :: r) O fun d O1 => PS (.nx (x0 :: x1 :: x2 :: x3 :: x4 :: x5 :: some d :: r)) O1) : wS K (tAsg te (gName 6)) (x0 :: x1 :: x2 :: x3 :: x4 :: x5 :: y :: r) O PS := s_asg h
theorem gn6 {x0 x1 x2 x3 x4 x5 y : Option D} (p : PR (x0 :: x1 :: x2 :: x3 :: x4 :: x5 :: some d :: r) O) : wG K (gName 6) d (x0 :: x1 :: x2 :: x3 :: x4 :: x5 :: y :: r) O PR := g_name p
theorem ev7 {x0 x1 x2 x3 x4 x5 x6 : Option D} (p : P d O) : wE K (tVar 7) (x0 :: x1 :: x2 :: x3 :: x4 :: x5 :: x6 :: some d :: r) O P := e_var rfl p
theorem sa7 {x0 x1 x2 x3 x4 x5 x6 y : Option D} (h : wE K te (x0 :: x1 :: x2 :: x3 :: x4 :: x5 :: x6 :: y :: r) O fun d O1 => PS (.nx (x0 :: x1 :: x2 :: x3 :: x4 :: x5 :: x6 :: some d :: r)) O1) : wS K (tAsg te (gName 7)) (x0 :: x1 :: x2 :: x3 :: x4 :: x5 :: x6 :: y :: r) O PS := s_asg h
theorem gn7 {x0 x1 x2 x3 x4 x5 x6 y : Option D} (p : PR (x0 :: x1 :: x2 :: x3 :: x4 :: x5 :: x6 :: some d :: r) O) : wG K (gName 7) d (x0 :: x1 :: x2 :: x3 :: x4 :: x5 :: x6 :: y :: r) O PR := g_name p
theorem ev8 {x0 x1 x2 x3 x4 x5 x6 x7 : Option D} (p : P d O) : wE K (tVar 8) (x0 :: x1 :: x2 :: x3 :: x4 :: x5 :: x6 :: x7 :: some d :: r) O P := e_var rfl p
theorem sa8 {x0 x1 x2 x3 x4 x5 x6 x7 y : Option D} (h : wE K te (x0 :: x1 :: x2 :: x3 :: x4 :: x5 :: x6 :: x7 :: y :: r) O fun d O1 => PS (.nx (x0 :: x1 :: x2 :: x3 :: x4 :: x5 :: x6 :: x7 :: some d :: r)) O1) : wS K (tAsg te (gName 8)) (x0 :: x1 :: x2 :: x3 :: x4 :: x5 :: x6 :: x7 :: y :: r) O PS := s_asg h
theorem gn8 {x0 x1 x2 x3 x4 x5 x6 x7 y : Option D} (p : PR (x0 :: x1 :: x2 :: x3 :: x4 :: x5 :: x6 :: x7 :: some d :: r) O) : wG K (gName 8) d (x0 :: x1 :: x2 :: x3 :: x4 :: x5 :: x6 :: x7 :: y :: r) O PR := g_name p
theorem ev9 {x0 x1 x2 x3 x4 x5 x6 x7 x8 : Option D} (p : P d O) : wE K (tVar 9) (x0 :: x1 :: x2 :: x3 :: x4 :: x5 :: x6 :: x7 :: x8 :: some d :: r) O P := e_var rfl p
theorem sa9 {x0 x1 x2 x3 x4 x5 x6 x7 x8 y : Option D} (h : wE K te (x0 :: x1 :: x2 :: x3 :: x4 :: x5 :: x6 :: x7 :: x8 :: y :: r) O fun d O1 => PS (.nx (x0 :: x1 :: x2 :: x3 :: x4 :: x5 :: x6 :: x7 :: x8 :: some d :: r)) O1) : wS K (tAsg te (gName 9)) (x0 :: x1 :: x2 :: x3 :: x4 :: x5 :: x6 :: x7 :: x8 :: y :: r) O PS := s_asg h
theorem gn9 {x0 x1 x2 x3 x4 x5 x6 x7 x8 y : Option D} (p : PR (x0 :: x1 :: x2 :: x3 :: x4 :: x5 :: x6 :: x7 :: x8 :: some d :: r) O) : wG K (gName 9) d (x0 :: x1 :: x2 :: x3 :: x4 :: x5 :: x6 :: x7 :: x8 :: y :: r) O PR := g_name p
theorem ev10 {x0 x1 x2 x3 x4 x5 x6 x7 x8 x9 : Option D} (p : P d O) : wE K (tVar 10) (x0 :: x1 :: x2 :: x3 :: x4 :: x5 :: x6 :: x7 :: x8 :: x9 :: some d :: r) O P := e_var rfl p
theorem sa10 {x0 x1 x2 x3 x4 x5 x6 x7 x8 x9 y : Option D} (h : wE K te (x0 :: x1 :: x2 :: x3 :: x4 :: x5 :: x6 :: x7 :: x8 :: x9 :: y :: r) O fun d O1 => PS (.nx (x0 :: x1 :: x2 :: x3 :: x4 :: x5 :: x6 :: x7 :: x8 :: x9 :: some d :: r)) O1) : wS K (tAsg te (gName 10)) (x0 :: x1 :: x2 :: x3 :: x4 :: x5 :: x6 :: x7 :: x8 :: x9 :: y :: r) O PS := s_asg h
theorem gn10 {x0 x1 x2 x3 x4 x5 x6 x7 x8 x9 y : Option D} (p : PR (x0 :: x1 :: x2 :: x3 :: x4 :: x5 :: x6 :: x7 :: x8 :: x9 :: some d :: r) O) : wG K (gName 10) d (x0 :: x1 :: x2 :: x3 :: x4 :: x5 :: x6 :: x7 :: x8 :: x9 :: y :: r) O PR := g_name p
theorem ev11 {x0 x1 x2 x3 x4 x5 x6 x7 x8 x9 x10 : Option D} (p : P d O) : wE K (tVar 11) (x0 :: x1 :: x2 :: x3 :: x4 :: x5 :: x6 :: x7 :: x8 :: x9 :: x10 :: some d :: r) O P := e_var rfl p
theorem sa11 {x0 x1 x2 x3 x4 x5 x6 x7 x8 x9 x10 y : Option D} (h : wE K te (x0 :: x1 :: x2 :: x3 :: x4 :: x5 :: x6 :: x7 :: x8 :: x9 :: x10 :: y :: r) O fun d O1 => PS (.nx (x0 :: x1 :: x2 :: x3 :: x4 :: x5 :: x6 :: x7 :: x8 :: x9 :: x10 :: some d :: r)) O1) : wS K (tAsg te (gName 11)) (x0 :: x1 :: x2 :: x3 :: x4 :: x5 :: x6 :: x7 :: x8 :: x9 :: x10 :: y :: r) O PS := s_asg h
theorem gn11 {x0 x1 x2 x3 x4 x5 x6 x7 x8 x9 x10 y : Option D} (p : PR (x0 :: x1 :: x2 :: x3 :: x4 :: x5 :: x6 :: x7 :: x8 :: x9 :: x10 :: some d :: r) O) : wG K (gName 11) d (x0 :: x1 :: x2 :: x3 :: x4 :: x5 :: x6 :: x7 :: x8 :: x9 :: x10 :: y :: r) O PR := g_name p
theorem ev12 {x0 x1 x2 x3 x4 x5 x6 x7 x8 x9 x10 x11 : Option D} (p : P d O) : wE K (tVar 12) (x0 :: x1 :: x2 :: x3 :: x4 :: x5 :: x6 :: x7 :: x8 :: x9 :: x10 :: x11 :: some d :: r) O P := e_var rfl p
theorem sa12 {x0 x1 x2 x3 x4 x5 x6 x7 x8 x9 x10 x11 y : Option D} (h : wE K te (x0 :: x1 :: x2 :: x3 :: x4 :: x5 :: x6 :: x7 :: x8 :: x9 :: x10 :: x11 :: y :: r) O fun d O1 => PS (.nx (x0 :: x1 :: x2 :: x3 :: x4 :: x5 :: x6 :: x7 :: x8 :: x9 :: x10 :: x11 :: some d :: r)) O1) : wS K (tAsg te (gName 12)) (x0 :: x1 :: x2 :: x3 :: x4 :: x5 :: x6 :: x7 :: x8 :: x9 :: x10 :: x11 :: y :: r) O PS := s_asg h
theorem gn12 {x0 x1 x2 x3 x4 x5 x6 x7 x8 x9 x10 x11 y : Option D} (p : PR (x0 :: x1 :: x2 :: x3 :: x4 :: x5 :: x6 :: x7 :: x8 :: x9 :: x10 :: x11 :: some d :: r) O) : wG K (gName 12) d (x0 :: x1 :: x2 :: x3 :: x4 :: x5 :: x6 :: x7 :: x8 :: x9 :: x10 :: x11 :: y :: r) O PR := g_name p
theorem ev13 {x0 x1 x2 x3 x4 x5 x6 x7 x8 x9 x10 x11 x12 : Option D} (p : P d O) : wE K (tVar 13) (x0 :: x1 :: x2 :: x3 :: x4 :: x5 :: x6 :: x7 :: x8 :: x9 :: x10 :: x11 :: x12 :: some d :: r) O P := e_var rfl p
theorem sa13 {x0 x1 x2 x3 x4 x5 x6 x7 x8 x9 x10 x11 x12 y : Option D} (h : wE K te (x0 :: x1 :: x2 :: x3 :: x4 :: x5 :: x6 :: x7 :: x8 :: x9 :: x10 :: x11 :: x12 :: y :: r) O fun d O1 => PS (.nx (x0 :: x1 :: x2 :: x3 :: x4 :: x5 :: x6 :: x7 :: x8 :: x9 :: x10 :: x11 :: x12 :: some d :: r)) O1) : wS K (tAsg te (gName 13)) (x0 :: x1 :: x2 :: x3 :: x4 :: x5 :: x6 :: x7 :: x8 :: x9 :: x10 :: x11 :: x12 :: y :: r) O PS := s_asg h
theorem gn13 {x0 x1 x2 x3 x4 x5 x6 x7 x8 x9 x10 x11 x12 y : Option D} (p : PR (x0 :: x1 :: x2 :: x3 :: x4 :: x5 :: x6 :: x7 :: x8 :: x9 :: x10 :: x11 :: x12 :: some d :: r) O) : wG K (gName 13) d (x0 :: x1 :: x2 :: x3 :: x4 :: x5 :: x6 :: x7 :: x8 :: x9 :: x10 :: x11 :: x12 :: y :: r) O PR := g_name p
theorem ev14 {x0 x1 x2 x3 x4 x5 x6 x7 x8 x9 x10 x11 x12 x13 : Option D} (p : P d O) : wE K (tVar 14) (x0 :: x1 :: x2 :: x3 :: x4 :: x5 :: x6 :: x7 :: x8 :: x9 :: x10 :: x11 :: x12 :: x13 :: some d :: r) O P := e_var rfl p
theorem sa14 {x0 x1 x2 x3 x4 x5 x6 x7 x8 x9 x10 x11 x12 x13 y : Option D} (h : wE K te (x0 :: x1 :: x2 :: x3 :: x4 :: x5 :: x6 :: x7 :: x8 :: x9 :: x10 :: x11 :: x12 :: x13 :: y :: r) O fun d O1 => PS (.nx (x0 :: x1 :: x2 :: x3 :: x4 :: x5 :: x6 :: x7 :: x8 :: x9 :: x10 :: x11 :: x12 :: x13 :: some d :: r)) O1) : wS K (tAsg te (gName 14)) (x0 :: x1 :: x2 :: x3 :: x4 :: x5 :: x6 :: x7 :: x8 :: x9 :: x10 :: x11 :: x12 :: x13 :: y :: r) O PS := s_asg h
theorem gn14 {x0 x1 x2 x3 x4 x5 x6 x7 x8 x9 x10 x11 x12 x13 y : Option D} (p : PR (x0 :: x1 :: x2 :: x3 :: x4 :: x5 :: x6 :: x7 :: x8 :: x9 :: x10 :: x11 :: x12 :: x13 :: some d :: r) O) : wG K (gName 14) d (x0 :: x1 :: x2 :: x3 :: x4 :: x5 :: x6 :: x7 :: x8 :: x9 :: x10 :: x11 :: x12 :: x13 :: y :: r) O PR := g_name p
theorem ev15 {x0 x1 x2 x3 x4 x5 x6 x7 x8 x9 x10 x11 x12 x13 x14 : Option D} (p : P d O) : wE K (tVar 15) (x0 :: x1 :: x2 :: x3 :: x4 :: x5 :: x6 :: x7 :: x8 :: x9 :: x10 :: x11 :: x12 :: x13 :: x14 :: some d :: r) O P := e_var rfl p
theorem sa15 {x0 x1 x2 x3 x4 x5 x6 x7 x8 x9 x10 x11 x12 x13 x14 y : Option D} (h : wE K te (x0 :: x1 :: x2 :: x3 :: x4 :: x5 :: x6 :: x7 :: x8 :: x9 :: x10 :: x11 :: x12 :: x13 :: x14 :: y :: r) O fun d O1 => PS (.nx (x0 :: x1 :: x2 :: x3 :: x4 :: x5 :: x6 :: x7 :: x8 :: x9 :: x10 :: x11 :: x12 :: x13 :: x14 :: some d :: r)) O1) : wS K (tAsg te (gName 15)) (x0 :: x1 :: x2 :: x3 :: x4 :: x5 :: x6 :: x7 :: x8 :: x9 :: x10 :: x11 :: x12 :: x13 :: x14 :: y :: r) O PS := s_asg h
theorem gn15 {x0 x1 x2 x3 x4 x5 x6 x7 x8 x9 x10 x11 x12 x13 x14 y : Option D} (p : PR (x0 :: x1 :: x2 :: x3 :: x4 :: x5 :: x6 :: x7 :: x8 :: x9 :: x10 :: x11 :: x12 :: x13 :: x14 :: some d :: r) O) : wG K (gName 15) d (x0 :: x1 :: x2 :: x3 :: x4 :: x5 :: x6 :: x7 :: x8 :: x9 :: x10 :: x11 :: x12 :: x13 :: x14 :: y :: r) O PR := g_name p
theorem ev16 {x0 x1 x2 x3 x4 x5 x6 x7 x8 x9 x10 x11 x12 x13 x14 x15 : Option D} (p : P d O) : wE K (tVar 16) (x0 :: x1 :: x2 :: x3 :: x4 :: x5 :: x6 :: x7 :: x8 :: x9 :: x10 :: x11 :: x12 :: x13 :: x14 :: x15 :: some d :: r) O P := e_var rfl p
theorem sa16 {x0 x1 x2 x3 x4 x5 x6 x7 x8 x9 x10 x11 x12 x13 x14 x15 y : Option D} (h : wE K te (x0 :: x1 :: x2 :: x3 :: x4 :: x5 :: x6 :: x7 :: x8 :: x9 :: x10 :: x11 :: x12 :: x13 :: x14 :: x15 :: y :: r) O fun d O1 => PS (.nx (x0 :: x1 :: x2 :: x3 :: x4 :: x5 :: x6 :: x7 :: x8 :: x9 :: x10 :: x11 :: x12 :: x13 :: x14 :: x15 :: some d :: r)) O1) : wS K (tAsg te (gName 16)) (x0 :: x1 :: x2 :: x3 :: x4 :: x5 :: x6 :: x7 :: x8 :: x9 :: x10 :: x11 :: x12 :: x13 :: x14 :: x15 :: y :: r) O PS := s_asg h
theorem gn16 {x0 x1 x2 x3 x4 x5 x6 x7 x8 x9 x10 x11 x12 x13 x14 x15 y : Option D} (p : PR (x0 :: x1 :: x2 :: x3 :: x4 :: x5 :: x6 :: x7 :: x8 :: x9 :: x10 :: x11 :: x12 :: x13 :: x14 :: x15 :: some d :: r) O) : wG K (gName 16) d (x0 :: x1 :: x2 :: x3 :: x4 :: x5 :: x6 :: x7 :: x8 :: x9 :: x10 :: x11 :: x12 :: x13 :: x14 :: x15 :: y :: r) O PR := g_name p
theorem ev17 {x0 x1 x2 x3 x4 x5 x6 x7 x8 x9 x10 x11 x12 x13 x14 x15 x16 : Option D} (p : P d O) : wE K (tVar 17) (x0 :: x1 :: x2 :: x3 :: x4 :: x5 :: x6 :: x7 :: x8 :: x9 :: x10 :: x11 :: x12 :: x13 :: x14 :: x15 :: x16 :: some d :: r) O P := e_var rfl p
theorem sa17 {x0 x1 x2 x3 x4 x5 x6 x7 x8 x9 x10 x11 x12 x13 x14 x15 x16 y : Option D} (h : wE K te (x0 :: x1 :: x2 :: x3 :: x4 :: x5 :: x6 :: x7 :: x8 :: x9 :: x10 :: x11 :: x12 :: x13 :: x14 :: x15 :: x16 :: y :: r) O fun d O1 => PS (.nx (x0 :: x1 :: x2 :: x3 :: x4 :: x5 :: x6 :: x7 :: x8 :: x9 :: x10 :: x11 :: x12 :: x13 :: x14 :: x15 :: x16 :: some d :: r)) O1) : wS K (tAsg te (gName 17)) (x0 :: x1 :: x2 :: x3 :: x4 :: x5 :: x6 :: x7 :: x8 :: x9 :: x10 :: x11 :: x12 :: x13 :: x14 :: x15 :: x16 :: y :: r) O PS := s_asg h
theorem gn17 {x0 x1 x2 x3 x4 x5 x6 x7 x8 x9 x10 x11 x12 x13 x14 x15 x16 y : Option D} (p : PR (x0 :: x1 :: x2 :: x3 :: x4 :: x5 :: x6 :: x7 :: x8 :: x9 :: x10 :: x11 :: x12 :: x13 :: x14 :: x15 :: x16 :: some d :: r) O) : wG K (gName 17) d (x0 :: x1 :: x2 :: x3 :: x4 :: x5 :: x6 :: x7 :: x8 :: x9 :: x10 :: x11 :: x12 :: x13 :: x14 :: x15 :: x16 :: y :: r) O PR := g_name p
theorem ev18 {x0 x1 x2 x3 x4 x5 x6 x7 x8 x9 x10 x11 x12 x13 x14 x15 x16 x17 : Option D} (p : P d O) : wE K (tVar 18) (x0 :: x1 :: x2 :: x3 :: x4 :: x5 :: x6 :: x7 :: x8 :: x9 :: x10 :: x11 :: x12 :: x13 :: x14 :: x15 :: x16 :: x17 :: some d :: r) O P := e_var rfl p
theorem sa18 {x0 x1 x2 x3 x4 x5 x6 x7 x8 x9 x10 x11 x12 x13 x14 x15 x16 x17 y : Option D} (h : wE K te (x0 :: x1 :: x2 :: x3 :: x4 :: x5 :: x6 :: x7 :: x8 :: x9 :: x10 :: x11 :: x12 :: x13 :: x14 :: x15 :: x16 :: x17 :: y :: r) O fun d O1 => PS (.nx (x0 :: x1 :: x2 :: x3 :: x4 :: x5 :: x6 :: x7 :: x8 :: x9 :: x10 :: x11 :: x12 :: x13 :: x14 :: x15 :: x16 :: x17 :: some d :: r)) O1) : wS K (tAsg te (gName 18)) (x0 :: x1 :: x2 :: x3 :: x4 :: x5 :: x6 :: x7 :: x8 :: x9 :: x10 :: x11 :: x12 :: x13 :: x14 :: x15 :: x16 :: x17 :: y :: r) O PS := s_asg h
theorem gn18 {x0 x1 x2 x3 x4 x5 x6 x7 x8 x9 x10 x11 x12 x13 x14 x15 x16 x17 y : Option D} (p : PR (x0 :: x1 :: x2 :: x3 :: x4 :: x5 :: x6 :: x7 :: x8 :: x9 :: x10 :: x11 :: x12 :: x13 :: x14 :: x15 :: x16 :: x17 :: some d :: r) O) : wG K (gName 18) d (x0 :: x1 :: x2 :: x3 :: x4 :: x5 :: x6 :: x7 :: x8 :: x9 :: x10 :: x11 :: x12 :: x13 :: x14 :: x15 :: x16 :: x17 :: y :: r) O PR := g_name p
theorem ev19 {x0 x1 x2 x3 x4 x5 x6 x7 x8 x9 x10 x11 x12 x13 x14 x15 x16 x17 x18 : Option D} (p : P d O) : wE K (tVar 19) (x0 :: x1 :: x2 :: x3 :: x4 :: x5 :: x6 :: x7 :: x8 :: x9 :: x10 :: x11 :: x12 :: x13 :: x14 :: x15 :: x16 :: x17 :: x18 :: some d :: r) O P := e_var rfl p
theorem sa19 {x0 x1 x2 x3 x4 x5 x6 x7 x8 x9 x10 x11 x12 x13 x14 x15 x16 x17 x18 y : Option D} (h : wE K te (x0 :: x1 :: x2 :: x3 :: x4 :: x5 :: x6 :: x7 :: x8 :: x9 :: x10 :: x11 :: x12 :: x13 :: x14 :: x15 :: x16 :: x17 :: x18 :: y :: r) O fun d O1 => PS (.nx (x0 :: x1 :: x2 :: x3 :: x4 :: x5 :: x6 :: x7 :: x8 :: x9 :: x10 :: x11 :: x12 :: x13 :: x14 :: x15 :: x16 :: x17 :: x18 :: some d :: r)) O1) : wS K (tAsg te (gName 19)) (x0 :: x1 :: x2 :: x3 :: x4 :: x5 :: x6 :: x7 :: x8 :: x9 :: x10 :: x11 :: x12 :: x13 :: x14 :: x15 :: x16 :: x17 :: x18 :: y :: r) O PS := s_asg h
theorem gn19 {x0 x1 x2 x3 x4 x5 x6 x7 x8 x9 x10 x11 x12 x13 x14 x15 x16 x17 x18 y : Option D} (p : PR (x0 :: x1 :: x2 :: x3 :: x4 :: x5 :: x6 :: x7 :: x8 :: x9 :: x10 :: x11 :: x12 :: x13 :: x14 :: x15 :: x16 :: x17 :: x18 :: some d :: r) O) : wG K (gName 19) d (x0 :: x1 :: x2 :: x3 :: x4 :: x5 :: x6 :: x7 :: x8 :: x9 :: x10 :: x11 :: x12 :: x13 :: x14 :: x15 :: x16 :: x17 :: x18 :: y :: r) O PR := g_name p
theorem ev20 {x0 x1 x2 x3 x4 x5 x6 x7 x8 x9 x10 x11 x12 x13 x14 x15 x16 x17 x18 x19 : Option D} (p : P d O) : wE K (tVar 20) (x0 :: x1 :: x2 :: x3 :: x4 :: x5 :: x6 :: x7 :: x8 :: x9 :: x10 :: x11 :: x12 :: x13 :: x14 :: x15 :: x16 :: x17 :: x18 :: x19 :: some d :: r) O P := e_var rfl p
theorem sa20 {x0 x1 x2 x3 x4 x5 x6 x7 x8 x9 x10 x11 x12 x13 x14 x15 x16 x17 x18 x19 y : Option D} (h : wE K te (x0 :: x1 :: x2 :: x3 :: x4 :: x5 :: x6 :: x7 :: x8 :: x9 :: x10 :: x11 :: x12 :: x13 :: x14 :: x15 :: x16 :: x17 :: x18 :: x19 :: y :: r) O fun d O1 => PS (.nx (x0 :: x1 :: x2 :: x3 :: x4 :: x5 :: x6 :: x7 :: x8 :: x9 :: x10 :: x11 :: x12 :: x13 :: x14 :: x15 :: x16 :: x17 :: x18 :: x19 :: some d :: r)) O1) : wS K (tAsg te (gName 20)) (x0 :: x1 :: x2 :: x3 :: x4 :: x5 :: x6 :: x7 :: x8 :: x9 :: x10 :: x11 :: x12 :: x13 :: x14 :: x15 :: x16 :: x17 :: x18 :: x19 :: y :: r) O PS := s_asg h
theorem gn20 {x0 x1 x2 x3 x4 x5 x6 x7 x8 x9 x10 x11 x12 x13 x14 x15 x16 x17 x18 x19 y : Option D} (p : PR (x0 :: x1 :: x2 :: x3 :: x4 :: x5 :: x6 :: x7 :: x8 :: x9 :: x10 :: x11 :: x12 :: x13 :: x14 :: x15 :: x16 :: x17 :: x18 :: x19 :: some d :: r) O) : wG K (gName 20) d (x0 :: x1 :: x2 :: x3 :: x4 :: x5 :: x6 :: x7 :: x8 :: x9 :: x10 :: x11 :: x12 :: x13 :: x14 :: x15 :: x16 :: x17 :: x18 :: x19 :: y :: r) O PR := g_name p
theorem ev21 {x0 x1 x2 x3 x4 x5 x6 x7 x8 x9 x10 x11 x12 x13 x14 x15 x16 x17 x18 x19 x20 : Option D} (p : P d O) : wE K (tVar 21) (x0 :: x1 :: x2 :: x3 :: x4 :: x5 :: x6 :: x7 :: x8 :: x9 :: x10 :: x11 :: x12 :: x13 :: x14 :: x15 :: x16 :: x17 :: x18 :: x19 :: x20 :: some d :: r) O P := e_var rfl p
theorem sa21 {x0 x1 x2 x3 x4 x5 x6 x7 x8 x9 x10 x11 x12 x13 x14 x15 x16 x17 x18 x19 x20 y : Option D} (h : wE K te (x0 :: x1 :: x2 :: x3 :: x4 :: x5 :: x6 :: x7 :: x8 :: x9 :: x10 :: x11 :: x12 :: x13 :: x14 :: x15 :: x16 :: x17 :: x18 :: x19 :: x20 :: y :: r) O fun d O1 => PS (.nx (x0 :: x1 :: x2 :: x3 :: x4 :: x5 :: x6 :: x7 :: x8 :: x9 :: x10 :: x11 :: x12 :: x13 :: x14 :: x15 :: x16 :: x17 :: x18 :: x19 :: x20 :: some d :: r)) O1) : wS K (tAsg te (gName 21)) (x0 :: x1 :: x2 :: x3 :: x4 :: x5 :: x6 :: x7 :: x8 :: x9 :: x10 :: x11 :: x12 :: x13 :: x14 :: x15 :: x16 :: x17 :: x18 :: x19 :: x20 :: y :: r) O PS := s_asg h
theorem gn21 {x0 x1 x2 x3 x4 x5 x6 x7 x8 x9 x10 x11 x12 x13 x14 x15 x16 x17 x18 x19 x20 y : Option D} (p : PR (x0 :: x1 :: x2 :: x3 :: x4 :: x5 :: x6 :: x7 :: x8 :: x9 :: x10 :: x11 :: x12 :: x13 :: x14 :: x15 :: x16 :: x17 :: x18 :: x19 :: x20 :: some d :: r) O) : wG K (gName 21) d (x0 :: x1 :: x2 :: x3 :: x4 :: x5 :: x6 :: x7 :: x8 :: x9 :: x10 :: x11 :: x12 :: x13 :: x14 :: x15 :: x16 :: x17 :: x18 :: x19 :: x20 :: y :: r) O PR := g_name p
theorem ev22 {x0 x1 x2 x3 x4 x5 x6 x7 x8 x9 x10 x11 x12 x13 x14 x15 x16 x17 x18 x19 x20 x21 : Option D} (p : P d O) : wE K (tVar 22) (x0 :: x1 :: x2 :: x3 :: x4 :: x5 :: x6 :: x7 :: x8 :: x9 :: x10 :: x11 :: x12 :: x13 :: x14 :: x15 :: x16 :: x17 :: x18 :: x19 :: x20 :: x21 :: some d :: r) O P := e_var rfl p
theorem sa22 {x0 x1 x2 x3 x4 x5 x6 x7 x8 x9 x10 x11 x12 x13 x14 x15 x16 x17 x18 x19 x20 x21 y : Option D} (h : wE K te (x0 :: x1 :: x2 :: x3 :: x4 :: x5 :: x6 :: x7 :: x8 :: x9 :: x10 :: x11 :: x12 :: x13 :: x14 :: x15 :: x16 :: x17 :: x18 :: x19 :: x20 :: x21 :: y :: r) O fun d O1 => PS (.nx (x0 :: x1 :: x2 :: x3 :: x4 :: x5 :: x6 :: x7 :: x8 :: x9 :: x10 :: x11 :: x12 :: x13 :: x14 :: x15 :: x16 :: x17 :: x18 :: x19 :: x20 :: x21 :: some d :: r)) O1) : wS K (tAsg te (gName 22)) (x0 :: x1 :: x2 :: x3 :: x4 :: x5 :: x6 :: x7 :: x8 :: x9 :: x10 :: x11 :: x12 :: x13 :: x14 :: x15 :: x16 :: x17 :: x18 :: x19 :: x20 :: x21 :: y :: r) O PS := s_asg h
theorem gn22 {x0 x1 x2 x3 x4 x5 x6 x7 x8 x9 x10 x11 x12 x13 x14 x15 x16 x17 x18 x19 x20 x21 y : Option D} (p : PR (x0 :: x1 :: x2 :: x3 :: x4 :: x5 :: x6 :: x7 :: x8 :: x9 :: x10 :: x11 :: x12 :: x13 :: x14 :: x15 :: x16 :: x17 :: x18 :: x19 :: x20 :: x21 :: some d :: r) O) : wG K (gName 22) d (x0 :: x1 :: x2 :: x3 :: x4 :: x5 :: x6 :: x7 :: x8 :: x9 :: x10 :: x11 :: x12 :: x13 :: x14 :: x15 :: x16 :: x17 :: x18 :: x19 :: x20 :: x21 :: y :: r) O PR := g_name p
theorem ev23 {x0 x1 x2 x3 x4 x5 x6 x7 x8 x9 x10 x11 x12 x13 x14 x15 x16 x17 x18 x19 x20 x21 x22 : Option D} (p : P d O) : wE K (tVar 23) (x0 :: x1 :: x2 :: x3 :: x4 :: x5 :: x6 :: x7 :: x8 :: x9 :: x10 :: x11 :: x12 :: x13 :: x14 :: x15 :: x16 :: x17 :: x18 :: x19 :: x20 :: x21 :: x22 :: some d :: r) O P := e_var rfl p
theorem sa23 {x0 x1 x2 x3 x4 x5 x6 x7 x8 x9 x10 x11 x12 x13 x14 x15 x16 x17 x18 x19 x20 x21 x22 y : Option D} (h : wE K te (x0 :: x1 :: x2 :: x3 :: x4 :: x5 :: x6 :: x7 :: x8 :: x9 :: x10 :: x11 :: x12 :: x13 :: x14 :: x15 :: x16 :: x17 :: x18 :: x19 :: x20 :: x21 :: x22 :: y :: r) O fun d O1 => PS (.nx (x0 :: x1 :: x2 :: x3 :: x4 :: x5 :: x6 :: x7 :: x8 :: x9 :: x10 :: x11 :: x12 :: x13 :: x14 :: x15 :: x16 :: x17 :: x18 :: x19 :: x20 :: x21 :: x22 :: some d :: r)) O1) : wS K (tAsg te (gName 23)) (x0 :: x1 :: x2 :: x3 :: x4 :: x5 :: x6 :: x7 :: x8 :: x9 :: x10 :: x11 :: x12 :: x13 :: x14 :: x15 :: x16 :: x17 :: x18 :: x19 :: x20 :: x21 :: x22 :: y :: r) O PS := s_asg h
theorem gn23 {x0 x1 x2 x3 x4 x5 x6 x7 x8 x9 x10 x11 x12 x13 x14 x15 x16 x17 x18 x19 x20 x21 x22 y : Option D} (p : PR (x0 :: x1 :: x2 :: x3 :: x4 :: x5 :: x6 :: x7 :: x8 :: x9 :: x10 :: x11 :: x12 :: x13 :: x14 :: x15 :: x16 :: x17 :: x18 :: x19 :: x20 :: x21 :: x22 :: some d :: r) O) : wG K (gName 23) d (x0 :: x1 :: x2 :: x3 :: x4 :: x5 :: x6 :: x7 :: x8 :: x9 :: x10 :: x11 :: x12 :: x13 :: x14 :: x15 :: x16 :: x17 :: x18 :: x19 :: x20 :: x21 :: x22 :: y :: r) O PR := g_name p
variable {ρ : Rho} {tu : TS}
theorem th_nx (h : wS K tu ρ O PS) : thenP K tu PS (.nx ρ) O := h
theorem th_ret (h : PS (.ret d) O) : thenP K tu PS (.ret d) O := h
theorem th_bk (h : PS (.bk ρ) O) : thenP K tu PS (.bk ρ) O := h
theorem th_ct (h : PS (.ct ρ) O) : thenP K tu PS (.ct ρ) O := h
variable {I : Nat → Rho → Store → Prop} {n : Nat}
theorem lp_nx (h : I n ρ O) : loopP I n PS (.nx ρ) O := h
theorem lp_ct (h : I n ρ O) : loopP I n PS (.ct ρ) O := h
theorem lp_bk (h : PS (.nx ρ) O) : loopP I n PS (.bk ρ) O := h
theorem lp_ret (h : PS (.ret d) O) : loopP I n PS (.ret d) O := h
theorem rp_ret {P : D → Prop} (h : P d) : retP P (.ret d) O := h
theorem rp_nx {P : D → Prop} (h : P .non) : retP P (.nx ρ) O := h
theorem rw_ret {P : D → Store → Prop} (h : P d O) : retW P (.ret d) O := h
theorem rw_nx {P : D → Store → Prop} (h : P .non O) : retW P (.nx ρ) O := h
theorem ro_ret (h : PS (.ret d) O) : retOnly PS (.ret d) O := h
end
/-! lengths -/
section
variable {a b c d e f g h : D} {p : Prop}
theorem le0 (k : p) : ([] : List D).length = 0 ∧ p := ⟨rfl, k⟩
theorem ll0 (k : p) : ([] : List D).length ≤ 100000 ∧ p := ⟨by show 0 ≤ 100000; decide, k⟩
theorem le1 (k : p) : ([a] : List D).length = 1 ∧ p := ⟨rfl, k⟩
theorem ll1 (k : p) : ([a] : List D).length ≤ 100000 ∧ p := ⟨by show 1 ≤ 100000; decide, k⟩
theorem lm1 (k : p) : ([a] : List D).length + 1 = 2 ∧ p := ⟨rfl, k⟩
theorem le2 (k : p) : ([a, b] : List D).length = 2 ∧ p := ⟨rfl, k⟩
theorem ll2 (k : p) : ([a, b] : List D).length ≤ 100000 ∧ p := ⟨by show 2 ≤ 100000; decide, k⟩
theorem lm2 (k : p) : ([a, b] : List D).length + 1 = 3 ∧ p := ⟨rfl, k⟩
theorem le3 (k : p) : ([a, b, c] : List D).length = 3 ∧ p := ⟨rfl, k⟩
theorem ll3 (k : p) : ([a, b, c] : List D).length ≤ 100000 ∧ p := ⟨by show 3 ≤ 100000; decide, k⟩
theorem lm3 (k : p) : ([a, b, c] : List D).length + 1 = 4 ∧ p := ⟨rfl, k⟩
theorem le4 (k : p) : ([a, b, c, d] : List D).length = 4 ∧ p := ⟨rfl, k⟩
theorem ll4 (k : p) : ([a, b, c, d] : List D).length ≤ 100000 ∧ p := ⟨by show 4 ≤ 100000; decide, k⟩
theorem lm4 (k : p) : ([a, b, c, d] : List D).length + 1 = 5 ∧ p := ⟨rfl, k⟩
theorem le5 (k : p) : ([a, b, c, d, e] : List D).length = 5 ∧ p := ⟨rfl, k⟩
theorem ll5 (k : p) : ([a, b, c, d, e] : List D).length ≤ 100000 ∧ p := ⟨by show 5 ≤ 100000; decide, k⟩
theorem lm5 (k : p) : ([a, b, c, d, e] : List D).length + 1 = 6 ∧ p := ⟨rfl, k⟩
theorem le6 (k : p) : ([a, b, c, d, e, f] : List D).length = 6 ∧ p := ⟨rfl, k⟩
theorem ll6 (k : p) : ([a, b, c, d, e, f] : List D).length ≤ 100000 ∧ p := ⟨by show 6 ≤ 100000; decide, k⟩
theorem lm6 (k : p) : ([a, b, c, d, e, f] : List D).length + 1 = 7 ∧ p := ⟨rfl, k⟩
theorem le7 (k : p) : ([a, b, c, d, e, f, g] : List D).length = 7 ∧ p := ⟨rfl, k⟩
theorem ll7 (k : p) : ([a, b, c, d, e, f, g] : List D).length ≤ 100000 ∧ p := ⟨by show 7 ≤ 100000; decide, k⟩
theorem lm7 (k : p) : ([a, b, c, d, e, f, g] : List D).length + 1 = 8 ∧ p := ⟨rfl, k⟩
theorem le8 (k : p) : ([a, b, c, d, e, f, g, h] : List D).length = 8 ∧ p := ⟨rfl, k⟩
theorem ll8 (k : p) : ([a, b, c, d, e, f, g, h] : List D).length ≤ 100000 ∧ p := ⟨by show 8 ≤ 100000; decide, k⟩
theorem lm8 (k : p) : ([a, b, c, d, e, f, g, h] : List D).length + 1 = 9 ∧ p := ⟨rfl, k⟩
theorem lm0 (k : p) : ([] : List D).length + 1 = 1 ∧ p := ⟨rfl, k⟩
end
/-! tests -/
section
variable {A B : Prop} {q : Prop} [Decidable q]
theorem sp_d (h1 : q → A) (h2 : ¬ q → B) : ∃ b, D.bl (decide q) = .bl b ∧ (b = true → A) ∧ (b = false → B) := ⟨_, rfl, fun h => h1 (of_decide_eq_true h), fun h => h2 (of_decide_eq_false h)⟩
theorem sp_y (hq : q) (h1 : A) : ∃ b, D.bl (decide q) = .bl b ∧ (b = true → A) ∧ (b = false → B) := sp_d (fun _ => h1) fun z => absurd hq z
theorem sp_n (hq : ¬ q) (h1 : B) : ∃ b, D.bl (decide q) = .bl b ∧ (b = true → A) ∧ (b = false → B) := sp_d (fun z => absurd z hq) fun _ => h1
theorem sp_nd (h1 : q → A) (h2 : ¬ q → B) : ∃ b, D.bl (decide q) = .bl b ∧ (b = false → B) ∧ (b = true → A) := ⟨_, rfl, fun h => h2 (of_decide_eq_false h), fun h => h1 (of_decide_eq_true h)⟩
/-- behind not -/
theorem sn_d (h1 : q → A) (h2 : ¬ q → B) : ∃ b, D.bl (decide q) = .bl b ∧ ((!b) = true → B) ∧ ((!b) = false → A) := ⟨_, rfl, fun h => h2 (of_decide_eq_false (by simpa using h)), fun h => h1 (of_decide_eq_true (by simpa using h))⟩
theorem sn_nd (h1 : q → A) (h2 : ¬ q → B) : ∃ b, D.bl (decide q) = .bl b ∧ ((!b) = false → A) ∧ ((!b) = true → B) := ⟨_, rfl, fun h => h1 (of_decide_eq_true (by simpa using h)), fun h => h2 (of_decide_eq_false (by simpa using h))⟩
/-- written with ! -/
theorem sm_d (h1 : q → B) (h2 : ¬ q → A) : ∃ b, D.bl (!decide q) = .bl b ∧ (b = true → A) ∧ (b = false → B) := ⟨_, rfl, fun h => h2 (of_decide_eq_false (by simpa using h)), fun h => h1 (of_decide_eq_true (by simpa using h))⟩
theorem sm_nd (h1 : q → B) (h2 : ¬ q → A) : ∃ b, D.bl (!decide q) = .bl b ∧ (b = false → B) ∧ (b = true → A) := ⟨_, rfl, fun h => h1 (of_decide_eq_true (by simpa using h)), fun h => h2 (of_decide_eq_false (by simpa using h))⟩
theorem sb_t (h : A) : ∃ b, D.bl true = .bl b ∧ (b = true → A) ∧ (b = false → B) := ⟨_, rfl, fun _ => h, fun z => nomatch z⟩
theorem sb_f (h : B) : ∃ b, D.bl false = .bl b ∧ (b = true → A) ∧ (b = false → B) := ⟨_, rfl, (fun z => nomatch z), fun _ => h⟩
theorem sb_ot (h : A) : ∃ b, D.bl true = .bl b ∧ (b = false → B) ∧ (b = true → A) := ⟨_, rfl, (fun z => nomatch z), fun _ => h⟩
theorem sb_of (h : B) : ∃ b, D.bl false = .bl b ∧ (b = false → B) ∧ (b = true → A) := ⟨_, rfl, fun _ => h, fun z => nomatch z⟩
theorem sbn_t (h : B) : ∃ b, D.bl true = .bl b ∧ ((!b) = true → A) ∧ ((!b) = false → B) := ⟨_, rfl, (fun z => nomatch z), fun _ => h⟩
theorem sbn_f (h : A) : ∃ b, D.bl false = .bl b ∧ ((!b) = true → A) ∧ ((!b) = false → B) := ⟨_, rfl, fun _ => h, fun z => nomatch z⟩
theorem sbn_ot (h : B) : ∃ b, D.bl true = .bl b ∧ ((!b) = false → B) ∧ ((!b) = true → A) := ⟨_, rfl, fun _ => h, fun z => nomatch z⟩
theorem sbn_of (h : A) : ∃ b, D.bl false = .bl b ∧ ((!b) = false → B) ∧ ((!b) = true → A) := ⟨_, rfl, (fun z => nomatch z), fun _ => h⟩
/-- the nested ends of and, or -/
theorem tt_t (h : A) : (true = true → A) ∧ (true = false → B) := ⟨fun _ => h, fun z => nomatch z⟩
theorem tt_f (h : B) : (false = true → A) ∧ (false = false → B) := ⟨(fun z => nomatch z), fun _ => h⟩
end
/-! operations on plain data -/
section
variable {K : PySem.W.Frag} {O : Store} {P : D → Store → Prop}
theorem r_eqI {i j : Int} (p : P (.bl (decide (i = j))) O) : wR K rEq (.int i) (.int j) O P := r_eq rfl (by rw [dec_ints]; exact p)
theorem r_neI {i j : Int} (p : P (.bl (!decide (i = j))) O) : wR K rNe (.int i) (.int j) O P := r_ne rfl (by rw [dec_ints]; exact p)
theorem r_P0 {q : Rat} (p : P (.int q.num) O) : wR K (rIxT K) (dP q) (.int 0) O P := r_ixT rfl p
theorem r_P1 {q : Rat} (p : P (.int (q.den : Int)) O) : wR K (rIxT K) (dP q) (.int 1) O P := r_ixT rfl p
theorem r_lV0 {v : V3} (p : P (dP v.x) O) : wR K (rIxL K) (lV v) (.int 0) O P := r_ixL rfl p
theorem r_lV1 {v : V3} (p : P (dP v.y) O) : wR K (rIxL K) (lV v) (.int 1) O P := r_ixL rfl p
theorem r_lV2 {v : V3} (p : P (dP v.z) O) : wR K (rIxL K) (lV v) (.int 2) O P := r_ixL rfl p
theorem r_dV0 {C : Addr} {v : V3} (p : P (dQ C v.x) O) : wR K (rIxT K) (dV C v) (.int 0) O P := r_ixT rfl p
theorem r_dV1 {C : Addr} {v : V3} (p : P (dQ C v.y) O) : wR K (rIxT K) (dV C v) (.int 1) O P := r_ixT rfl p
theorem r_dV2 {C : Addr} {v : V3} (p : P (dQ C v.z) O) : wR K (rIxT K) (dV C v) (.int 2) O P := r_ixT rfl p
theorem r_t0 {a : D} {l : List D} (p : P a O) : wR K (rIxT K) (.tup (a :: l)) (.int 0) O P := r_ixT (atI_nat' (by decide) (by simp only [List.length_cons]; omega)) p
theorem r_t1 {a b : D} {l : List D} (p : P b O) : wR K (rIxT K) (.tup (a :: b :: l)) (.int 1) O P := r_ixT (atI_nat' (by decide) (by simp only [List.length_cons]; omega)) p
theorem r_t2 {a b c : D} {l : List D} (p : P c O) : wR K (rIxT K) (.tup (a :: b :: c :: l)) (.int 2) O P := r_ixT (atI_nat' (by decide) (by simp only [List.length_cons]; omega)) p
theorem r_l0 {a : D} {l : List D} (p : P a O) : wR K (rIxL K) (.lst (a :: l)) (.int 0) O P := r_ixL (atI_nat' (by decide) (by simp only [List.length_cons]; omega)) p
theorem r_l1 {a b : D} {l : List D} (p : P b O) : wR K (rIxL K) (.lst (a :: b :: l)) (.int 1) O P := r_ixL (atI_nat' (by decide) (by simp only [List.length_cons]; omega)) p
theorem r_l2 {a b c : D} {l : List D} (p : P c O) : wR K (rIxL K) (.lst (a :: b :: c :: l)) (.int 2) O P := r_ixL (atI_nat' (by decide) (by simp only [List.length_cons]; omega)) p
theorem r_wide {g : Int → Int → V} {i j : Int} {m n : Nat} (h1 : i.natAbs < 2 ^ m) (h2 : j.natAbs < 2 ^ n) (h : m + n ≤ 900000) (p : P (.raw (g i j)) O) : wR K (rI CMulW g) (.int i) (.int j) O P := r_rI (wide_q h1 h2 h) p
theorem r_q2 {C : Addr} {E : XK} {f : Rat → Rat → D} {x y : Rat} {m n : Nat} (hx : bits x m) (hy : bits y n) (h : m + n ≤ 8900) (p : P (f x y) O) : wR K (rOwn C (spP K 2 (W_q2 C f)) E) (dQ C x) (dQ C y) O P := r_own ⟨x, y, m, n, rfl, hx, hy, h, p⟩
theorem r_q1 {C : Addr} {E : XK} {f : Rat → D} {x : Rat} {m : Nat} (hx : bits x m) (h : m ≤ 8900) (p : P (f x) O) : wU K (rOwn1 C (spP K 1 (W_q1 C f)) E) (dQ C x) O P := r_own1 ⟨x, m, rfl, hx, h, p⟩
end
/-! promises, each to be shown at its arguments -/
section
variable {P : D → Prop} {C : Addr}
theorem k_q0 {q : Rat} (p : P (dQ C q)) : W_q0 C q [] P := ⟨rfl, p⟩
theorem k_v0 (p : P (dV C zV)) : W_v0 C [] P := ⟨rfl, p⟩
theorem k_whole {n : Int} (p : P (dQ C (n : Rat))) : W_whole C [.int n] P := ⟨n, rfl, p⟩
theorem k_v2 {f : V3 → V3 → V3} {a b : V3} {m n : Nat} (ha : bitsV a m) (hb : bitsV b n) (h : m + n ≤ 8900) (p : P (dV C (f a b))) : W_v2 C f [dV C a, dV C b] P := ⟨a, b, m, n, rfl, ha, hb, h, p⟩
theorem k_scaled {q : Rat} {a : V3} {m n : Nat} (hq : bits q m) (ha : bitsV a n) (h : m + n ≤ 8900) (p : P (dV C (mulV q a))) : W_scaled C [dQ C q, dV C a] P := ⟨q, a, m, n, rfl, hq, ha, h, p⟩
theorem k_det {a b c : V3} {m1 m2 m3 : Nat} (ha : bitsV a m1) (hb : bitsV b m2) (hc : bitsV c m3) (h : 15 * max m1 (max m2 m3) + 5 ≤ 8900) (p : P (dQ C (detV a b c))) : W_det C [dV C a, dV C b, dV C c] P :=
  ⟨a, b, c, max m1 (max m2 m3), rfl, bitsV_mono ha (by omega), bitsV_mono hb (by omega), bitsV_mono hc (by omega), h, p⟩
theorem k_p2 {f : Rat → Rat → Rat} {x y : Rat} {m n m' n' : Nat} (hx : bn x m n) (hy : bn y m' n') (h : m + n' ≤ 5000 ∧ m' + n ≤ 5000 ∧ n + n' ≤ 300) (p : P (dP (f x y))) : W_p2 f [dP x, dP y] P := ⟨x, y, m, n, m', n', rfl, hx, hy, h.1, h.2.1, h.2.2, p⟩
theorem k_pBy {x y : Rat} {m n m' n' : Nat} (h0 : y ≠ 0) (hx : bn x m n) (hy : bn y m' n') (h : m + n' ≤ 5000 ∧ n + m' ≤ 300) (p : P (dP (x / y))) : W_pBy [dP x, dP y] P := ⟨x, y, m, n, m', n', rfl, h0, hx, hy, h.1, h.2, p⟩
theorem k_p2' {f : Rat → Rat → Rat} {a b : Int} {x y : Rat} {m n m' n' : Nat} (e : D.tup [.int a, .int b] = dP x) (hx : bn x m n) (hy : bn y m' n') (h : m + n' ≤ 5000 ∧ m' + n ≤ 5000 ∧ n + n' ≤ 300) (p : P (dP (f x y))) : W_p2 f [.tup [.int a, .int b], dP y] P := ⟨x, y, m, n, m', n', by rw [e], hx, hy, h.1, h.2.1, h.2.2, p⟩
theorem k_p2r {f : Rat → Rat → Rat} {a b : Int} {x y : Rat} {m n m' n' : Nat} (e : D.tup [.int a, .int b] = dP y) (hx : bn x m n) (hy : bn y m' n') (h : m + n' ≤ 5000 ∧ m' + n ≤ 5000 ∧ n + n' ≤ 300) (p : P (dP (f x y))) : W_p2 f [dP x, .tup [.int a, .int b]] P := ⟨x, y, m, n, m', n', by rw [e], hx, hy, h.1, h.2.1, h.2.2, p⟩
theorem k_least {t b : Int} {n : Nat} (h0 : b ≠ 0) (hb : b.natAbs < 2 ^ n) (h : n ≤ 300) (p : P (dP (Rat.divInt t b))) : W_least [.int t, .int b] P := ⟨t, b, rfl, h0, lt300 hb h, p⟩
theorem k_totalV {v : V3} {m : Nat} (hv : bitsV v m) (h : m ≤ 1900) (p : P (dQ C (sV v))) : W_total C [dV C v] P := ⟨[v.x, v.y, v.z], m, .inr rfl, (by
  intro q hq
  obtain ⟨b1, b2, b3⟩ := hv
  simp at hq
  rcases hq with rfl | rfl | rfl <;> assumption), (by show (m + 1) * 4 ≤ 8000; omega), (by
  have e : sumQ [v.x, v.y, v.z] = sV v := by
    show ((0 + v.x) + v.y) + v.z = _
    rw [Rat.zero_add]
    rfl
  rw [e]
  exact p)⟩
theorem k_is {q : Rat} {t b : Int} {n : Nat} (h0 : b ≠ 0) (hb : b.natAbs < 2 ^ n) (h : n ≤ 300) (p : P (.bl (decide (q = Rat.divInt t b)))) : W_is C [dQ C q, .int t, .int b] P := ⟨q, t, b, rfl, h0, lt300 hb h, p⟩
theorem k_isPair {q x : Rat} {m n : Nat} (hx : bn x m n) (h : max m n ≤ 300) (p : P (.bl (decide (q = x)))) : W_isPair C [dQ C q, dP x] P := ⟨q, x, max m n, rfl, bn_bits hx (by omega) (by omega), h, p⟩
theorem k_isInt {i : Int} (p : P (.bl true)) : W_isInt [.int i] P := ⟨i, rfl, p⟩
/-- quotients of a color; tuples against lists of pairs, all known -/
theorem k_quotsV {v : V3} {m n : Nat} (hv : bnV v m n) (h : max m n ≤ 8000) (p : P (dV C v)) : W_quots C [lV v] P := ⟨[v.x, v.y, v.z], max m n, rfl, (by show 3 ≤ 1000; decide), (by
  intro q hq
  obtain ⟨b1, b2, b3⟩ := hv
  simp at hq
  rcases hq with rfl | rfl | rfl
  · exact bn_bits b1 (by omega) (by omega)
  · exact bn_bits b2 (by omega) (by omega)
  · exact bn_bits b3 (by omega) (by omega)), h, p⟩
theorem k_areV {v u : V3} {m n : Nat} (hu : bnV u m n) (h : max m n ≤ 300) (p : P (.bl (decide (v = u)))) : W_are C [dV C v, lV u] P := ⟨[v.x, v.y, v.z], [u.x, u.y, u.z], max m n, rfl, rfl, (by show 3 ≤ 1000; decide), (by
  intro q hq
  obtain ⟨b1, b2, b3⟩ := hu
  simp at hq
  rcases hq with rfl | rfl | rfl
  · exact bn_bits b1 (by omega) (by omega)
  · exact bn_bits b2 (by omega) (by omega)
  · exact bn_bits b3 (by omega) (by omega)), h, fun e => by
    have e' : v = u := by
      simp at e
      exact V3.ext' e.1 e.2.1 e.2.2
    rw [decide_eq_true e'] at p
    exact p, fun e => by
    have e' : ¬ v = u := fun z => e (by rw [z])
    rw [decide_eq_false e'] at p
    exact p⟩
end
section
variable {K : PySem.W.Frag} {P : D → Store → Prop}
/-- the next digit, the stream's place first or second among the owned -/
theorem k_next {l : List Int} {p : Addr} {many n : Int} {R : Store} (hl : l ≠ []) (hd : digs l) (hm : 0 < many) (h : ∀ v n' : Int, 0 ≤ v → v < many → v < 60 → P (.int v) ((p, .lst [.int n']) :: R)) : W_next [dStream l p, .int many] ((p, .lst [.int n]) :: R) P :=
  ⟨l, p, many, n, fun n' => (p, .lst [.int n']) :: R, rfl, hl, hd, hm, fun _ => .here, h⟩
theorem k_next2 {l : List Int} {p : Addr} {many n : Int} {q : Addr × Own} {R : Store} (hl : l ≠ []) (hd : digs l) (hm : 0 < many) (h : ∀ v n' : Int, 0 ≤ v → v < many → v < 60 → P (.int v) (q :: (p, .lst [.int n']) :: R)) : W_next [dStream l p, .int many] (q :: (p, .lst [.int n]) :: R) P :=
  ⟨l, p, many, n, fun n' => q :: (p, .lst [.int n']) :: R, rfl, hl, hd, hm, fun _ => .there .here, h⟩
theorem k_next3 {l : List Int} {p : Addr} {many n : Int} {q q2 : Addr × Own} {R : Store} (hl : l ≠ []) (hd : digs l) (hm : 0 < many) (h : ∀ v n' : Int, 0 ≤ v → v < many → v < 60 → P (.int v) (q :: q2 :: (p, .lst [.int n']) :: R)) : W_next [dStream l p, .int many] (q :: q2 :: (p, .lst [.int n]) :: R) P :=
  ⟨l, p, many, n, fun n' => q :: q2 :: (p, .lst [.int n']) :: R, rfl, hl, hd, hm, fun _ => .there (.there .here), h⟩
theorem k_quot {l : List Int} {p : Addr} {n : Int} {R : Store} (hl : l ≠ []) (hd : digs l) (h : ∀ (x : Rat) (n' : Int), bn x 10 4 → P (dP x) ((p, .lst [.int n']) :: R)) : W_quot [dStream l p] ((p, .lst [.int n]) :: R) P :=
  ⟨l, p, n, fun n' => (p, .lst [.int n']) :: R, rfl, hl, hd, fun _ _ => .here, rfl, h⟩
theorem k_quot2 {l : List Int} {p : Addr} {n : Int} {q : Addr × Own} {R : Store} (hl : l ≠ []) (hd : digs l) (h : ∀ (x : Rat) (n' : Int), bn x 10 4 → P (dP x) (q :: (p, .lst [.int n']) :: R)) : W_quot [dStream l p] (q :: (p, .lst [.int n]) :: R) P :=
  ⟨l, p, n, fun n' => q :: (p, .lst [.int n']) :: R, rfl, hl, hd, fun _ _ => .there .here, rfl, h⟩
theorem k_color {l : List Int} {p : Addr} {n : Int} {R : Store} (hl : l ≠ []) (hd : digs l) (h : ∀ (v : V3) (n' : Int), bnV v 10 4 → P (lV v) ((p, .lst [.int n']) :: R)) : W_color [dStream l p] ((p, .lst [.int n]) :: R) P :=
  ⟨l, p, n, fun n' => (p, .lst [.int n']) :: R, rfl, hl, hd, fun _ _ => .here, rfl, h⟩
theorem k_color2 {l : List Int} {p : Addr} {n : Int} {q : Addr × Own} {R : Store} (hl : l ≠ []) (hd : digs l) (h : ∀ (v : V3) (n' : Int), bnV v 10 4 → P (lV v) (q :: (p, .lst [.int n']) :: R)) : W_color [dStream l p] (q :: (p, .lst [.int n]) :: R) P :=
  ⟨l, p, n, fun n' => q :: (p, .lst [.int n']) :: R, rfl, hl, hd, fun _ _ => .there .here, rfl, h⟩
theorem k_colorO {l : List Int} {p : Addr} {n : Int} {R : Store} (hl : l ≠ []) (hd : digs l) (h : ∀ (a : Addr) (v : V3) (n' : Int), bnV v 10 4 → P (.loc a) ((a, .lst [dP v.x, dP v.y, dP v.z]) :: (p, .lst [.int n']) :: R)) : W_colorO [dStream l p] ((p, .lst [.int n]) :: R) P :=
  ⟨l, p, n, fun n' => (p, .lst [.int n']) :: R, rfl, hl, hd, fun _ _ => .here, rfl, h⟩
theorem k_stream {ns : List Int} {f n : Int} {O : Store} (h0 : 0 ≤ f) (h1 : 0 ≤ n) (h2 : n ≤ 1000) (hn : 0 < n) (h : ∀ (l : List Int) (p : Addr), l ≠ [] → digs l → P (dStream l p) ((p, .lst [.int 0]) :: O)) : W_stream [scr ns, .int f, .int n] O P :=
  ⟨ns, f, n, rfl, h0, h1, h2, fun l p hl hd => h l p (fun z => by rw [z] at hl; simp at hl; omega) hd⟩
/-- an own method of a quotient -/
theorem mt_q {C : Addr} {q : Rat} {m : Str} {A : Prop} (hm : List.lookup m [("top", D.int q.num), ("bottom", .int (q.den : Int))] = none) (h : A) : ∃ fs, dQ C q = .ins C fs ∧ fs.lookup m = none ∧ A := ⟨_, rfl, hm, h⟩
theorem k_over {C CB : Addr} {P : D → Prop} {x y : Rat} {m n : Nat} (h0 : y ≠ 0) (hx : bits x m) (hy : bits y n) (h : m + n ≤ 8900) (p : P (dQ C (x / y))) : W_over C CB [dQ C x, dQ C y] P fun _ => False := ⟨x, y, m, n, rfl, hx, hy, h, fun z => absurd z h0, fun _ => p⟩
theorem k_init {CB : Addr} {P : List (Str × D) → Prop} {t b : Int} {n : Nat} (h0 : b ≠ 0) (hb : b.natAbs < 2 ^ n) (h : n ≤ 8990) (p : P [("top", .int (Rat.divInt t b).num), ("bottom", .int ((Rat.divInt t b).den : Int))]) : W_Qinit CB [.int t, .int b] P fun _ => False := ⟨t, b, rfl, fun z => absurd z h0, fun _ => ⟨small_of hb h, p⟩⟩
end
/-! bounds -/
theorem bn_addM {x y : Rat} {m n m' n' : Nat} (h : bn x m n) (h' : bn y m' n') : bn (x + y) (max (m + n') (m' + n) + 1) (n + n') := bn_add h h' (by omega) (by omega)
theorem bn_subM {x y : Rat} {m n m' n' : Nat} (h : bn x m n) (h' : bn y m' n') : bn (x - y) (max (m + n') (m' + n) + 1) (n + n') := bn_sub h h' (by omega) (by omega)
theorem bn_one : bn 1 1 1 := ⟨by decide, by decide⟩
theorem bn_zero : bn 0 1 1 := ⟨by decide, by decide⟩
theorem bn_0 : bn 0 0 1 := ⟨by decide, by decide⟩
theorem bits_bn {x : Rat} {m n : Nat} (h : bn x m n) : bits x (max m n) := bn_bits h (by omega) (by omega)
theorem bitsV_bn {v : V3} {m n : Nat} (h : bnV v m n) : bitsV v (max m n) := ⟨bits_bn h.1, bits_bn h.2.1, bits_bn h.2.2⟩
theorem bnV_add {a b : V3} {m n m' n' : Nat} (h : bnV a m n) (k : bnV b m' n') : bnV (addV a b) (max (m + n') (m' + n) + 1) (n + n') := ⟨bn_addM h.1 k.1, bn_addM h.2.1 k.2.1, bn_addM h.2.2 k.2.2⟩
theorem bnV_sub {a b : V3} {m n m' n' : Nat} (h : bnV a m n) (k : bnV b m' n') : bnV (subV a b) (max (m + n') (m' + n) + 1) (n + n') := ⟨bn_subM h.1 k.1, bn_subM h.2.1 k.2.1, bn_subM h.2.2 k.2.2⟩
theorem bnV_mul {q : Rat} {a : V3} {m n m' n' : Nat} (h : bn q m n) (k : bnV a m' n') : bnV (mulV q a) (m + m') (n + n') := ⟨bn_mul h k.1, bn_mul h k.2.1, bn_mul h k.2.2⟩
theorem bnV_zero : bnV zV 1 1 := ⟨bn_zero, bn_zero, bn_zero⟩
theorem bn_detM {a b c : V3} {m n m' n' m2 n2 : Nat} (ha : bnV a m n) (hb : bnV b m' n') (hc : bnV c m2 n2) : bn (detV a b c) (m + (m' + m2 + n' + n2 + 1) + 2 * (n + 2 * (n' + n2)) + 2) (3 * (n + 2 * (n' + n2))) := bn_det ha hb hc
theorem num_lt {x : Rat} {m n : Nat} (h : bn x m n) : x.num.natAbs < 2 ^ m := h.1
theorem bnV_x {v : V3} {m n : Nat} (h : bnV v m n) : bn v.x m n := h.1
theorem bnV_y {v : V3} {m n : Nat} (h : bnV v m n) : bn v.y m n := h.2.1
theorem bnV_z {v : V3} {m n : Nat} (h : bnV v m n) : bn v.z m n := h.2.2
theorem bitsV_x {v : V3} {m : Nat} (h : bitsV v m) : bits v.x m := h.1
theorem bitsV_y {v : V3} {m : Nat} (h : bitsV v m) : bits v.y m := h.2.1
theorem bitsV_z {v : V3} {m : Nat} (h : bitsV v m) : bits v.z m := h.2.2
section
variable {K : PySem.W.Frag} {ρ : Rho} {O : Store} {P : Rho → Store → Prop} {u : TGs} {a b c d : D}
variable {n : Nat}
theorem g_dV {C : Addr} {v : V3} (hn : 3 = n) (h : wGs K u [dQ C v.x, dQ C v.y, dQ C v.z] ρ O P) : wG K (gTup K n u) (dV C v) ρ O P := g_tup hn h
theorem g_dP {q : Rat} (hn : 2 = n) (h : wGs K u [.int q.num, .int (q.den : Int)] ρ O P) : wG K (gTup K n u) (dP q) ρ O P := g_tup hn h
theorem g_tup2 (hn : 2 = n) (h : wGs K u [a, b] ρ O P) : wG K (gTup K n u) (.tup [a, b]) ρ O P := g_tup hn h
theorem g_tup3 (hn : 3 = n) (h : wGs K u [a, b, c] ρ O P) : wG K (gTup K n u) (.tup [a, b, c]) ρ O P := g_tup hn h
theorem g_tup4 (hn : 4 = n) (h : wGs K u [a, b, c, d] ρ O P) : wG K (gTup K n u) (.tup [a, b, c, d]) ρ O P := g_tup hn h
end
end G
/-! Statements that may let an error out: the frame behind is fixed. -/
namespace G
open PySem L2 PySem.Spec PyProof.Rows
def wSx (K : PySem.W.Frag) (F : Store) (B0 : Hp) (ts : TS) (ρ : Rho) (O : Store) (P : Out → Store → Prop) : Prop :=
  ∀ σ B H, Ex B0 B → EnvR K B σ ρ → Hs K B H (O ++ F) → ∀ Dn : Ends, FinS K B F P Dn → ts Dn σ H
def thenX (K : PySem.W.Frag) (F : Store) (B0 : Hp) (tu : TS) (PS : Out → Store → Prop) : Out → Store → Prop
  | .nx ρ, O => wSx K F B0 tu ρ O PS
  | .ret d, O => PS (.ret d) O
  | .bk ρ, O => PS (.bk ρ) O
  | .ct ρ, O => PS (.ct ρ) O
/-- what leaves by an error -/
def Lets (K : PySem.W.Frag) (F : Store) (B0 : Hp) (E : XK) (PX : Addr → Prop) : Prop := ∀ c B2 H2, PX c → Ex B0 B2 → Hs K B2 H2 F → E (.ref c) none H2
section
variable {K : PySem.W.Frag} {F : Store} {B0 : Hp} {ts tu : TS} {ρ : Rho} {O : Store} {PS : Out → Store → Prop} {t : TT} {te : TE} {E : XK} {PX : Addr → Prop} {n : Nat}
theorem xs_lift (h : wS K ts ρ O PS) : wSx K F B0 ts ρ O PS := fun σ B H _ e hs Dn q => h F σ B H e hs Dn q
theorem xs_liftA {i : Nat} (h : wS K (tAsg te (gName i)) ρ O PS) : wSx K F B0 (tAsg te (gName i)) ρ O PS := xs_lift h
theorem xs_liftG {g : TGs} {n : Nat} (h : wS K (tAsg te (gTup K n g)) ρ O PS) : wSx K F B0 (tAsg te (gTup K n g)) ρ O PS := xs_lift h
theorem xs_liftN (h : wS K tNext ρ O PS) : wSx K F B0 tNext ρ O PS := xs_lift h
theorem thx_nx (h : wSx K F B0 tu ρ O PS) : thenX K F B0 tu PS (.nx ρ) O := h
theorem xs_seq (h : wSx K F B0 ts ρ O (thenX K F B0 tu PS)) : wSx K F B0 (tSeq ts tu) ρ O PS := fun σ B H e0 e hs Dn q =>
  h σ B H e0 e hs _ fun o O1 B1 H1 p1 e1 hs1 => by
    cases o with
    | nx ρ1 => exact fun σ1 r1 => p1 σ1 B1 H1 (e0.trans e1) r1 hs1 Dn (q.ex e1)
    | ret d => exact q (.ret d) O1 B1 H1 p1 e1 hs1
    | bk ρ1 => exact q (.bk ρ1) O1 B1 H1 p1 e1 hs1
    | ct ρ1 => exact q (.ct ρ1) O1 B1 H1 p1 e1 hs1
theorem xs_if (h : wT K t ρ O fun b O1 => (b = true → wSx K F B0 ts ρ O1 PS) ∧ (b = false → wSx K F B0 tu ρ O1 PS)) : wSx K F B0 (tIfS t ts tu) ρ O PS := fun σ B H e0 e hs Dn q =>
  h F σ B H e hs _ fun b O1 B1 H1 p1 e1 hs1 => by
    cases b with
    | true =>
      rw [if_pos rfl]
      exact p1.1 rfl σ B1 H1 (e0.trans e1) (e.mono e1) hs1 Dn (q.ex e1)
    | false =>
      rw [if_neg Bool.false_ne_true]
      exact p1.2 rfl σ B1 H1 (e0.trans e1) (e.mono e1) hs1 Dn (q.ex e1)
theorem xs_raise {c : Addr} (l : Lets K F B0 E PX) (p : PX c) : wSx K F B0 (fun _ _ H => E (.ref c) none H) ρ O PS := fun σ B H e0 e hs Dn q => l c B H p e0 hs.dropL
/-- f(..), whose error goes on -/
theorem xs_dropX {W : List D → (D → Prop) → (Addr → Prop) → Prop} {ta : TA} {P' : D → Prop} (l : Lets K F B0 E PX) (h : wA K ta ρ O fun ds O1 => ds.length = n ∧ W ds (fun _ => PS (.nx ρ) O1) PX) : wSx K F B0 (tDrop (tCall (spX K n W) [] E ta)) ρ O PS := fun σ B H e0 e hs Dn q =>
  h F σ B H e hs _ fun vs ds O1 B1 H1 p1 e1 hs1 r => ⟨O1 ++ F, B1, ds, _, _, hs1, by rw [List.append_nil]; exact r, p1.1, p1.2, fun v d B2 H2 p e2 hs2 rv => q (.nx ρ) O1 B2 H2 p (e1.trans e2) hs2 σ (e.mono (e1.trans e2)), fun c B2 H2 p e2 hs2 => l c B2 H2 p ((e0.trans e1).trans e2) hs2.dropL⟩
theorem xs_retX {W : List D → (D → Prop) → (Addr → Prop) → Prop} {ta : TA} (l : Lets K F B0 E PX) (h : wA K ta ρ O fun ds O1 => ds.length = n ∧ W ds (fun d => PS (.ret d) O1) PX) : wSx K F B0 (tRet (tCall (spX K n W) [] E ta)) ρ O PS := fun σ B H e0 e hs Dn q =>
  h F σ B H e hs _ fun vs ds O1 B1 H1 p1 e1 hs1 r => ⟨O1 ++ F, B1, ds, _, _, hs1, by rw [List.append_nil]; exact r, p1.1, p1.2, fun v d B2 H2 p e2 hs2 rv => q (.ret d) O1 B2 H2 p (e1.trans e2) hs2 v rv, fun c B2 H2 p e2 hs2 => l c B2 H2 p ((e0.trans e1).trans e2) hs2.dropL⟩
theorem xs_asgX {W : List D → (D → Prop) → (Addr → Prop) → Prop} {ta : TA} {i : Nat} (l : Lets K F B0 E PX) (h : wA K ta ρ O fun ds O1 => ds.length = n ∧ W ds (fun d => PS (.nx (ρ.set i (some d))) O1) PX) : wSx K F B0 (tAsg (tCall (spX K n W) [] E ta) (gName i)) ρ O PS := fun σ B H e0 e hs Dn q =>
  h F σ B H e hs _ fun vs ds O1 B1 H1 p1 e1 hs1 r => ⟨O1 ++ F, B1, ds, _, _, hs1, by rw [List.append_nil]; exact r, p1.1, p1.2, fun v d B2 H2 p e2 hs2 rv => q _ O1 B2 H2 p (e1.trans e2) hs2 _ ((e.mono (e1.trans e2)).set i rv), fun c B2 H2 p e2 hs2 => l c B2 H2 p ((e0.trans e1).trans e2) hs2.dropL⟩
theorem xs_rho {ρ' : Rho} (e : ρ = ρ') (h : wSx K F B0 ts ρ' O PS) : wSx K F B0 ts ρ O PS := by rw [e]; exact h
end
section
variable {Pr : Program} {w : World} {K : PySem.W.Frag} {mg : Str → Option Value} {base : Heap} {x qual : Str} {st : Stmt} {f : Addr} {fd : FuncData} {N ps : List Str} {k n : Nat}
/-- a def that may raise, by statements -/
theorem okY {W : List D → (D → Prop) → (Addr → Prop) → Prop} (F : Fun K x qual st f fd) (S : FnScope N ps (defScope st)) (hn : ps.length = n)
    (hb : ∀ (cdv : Value) (A : Around) (outer : List Env) (s : Shared) (H0 : Hp) (E : XK), Room k (A.deeper (envOfC qual (defScope st) s.heap.objs.size f cdv)) → ∃ t, PSs (cxOf (L2.CX Pr w) Pr w K mg base N qual (defScope st) f cdv A outer s H0 E) (defBody st) t ∧
      ∀ ds P PX, ds.length = n → W ds P PX → ∀ (F1 : Store) (B0 : Hp), Lets K F1 B0 E PX → wSx K F1 B0 t (rho0 N.length ds) [] (retP P)) : FnOk Pr w K mg base (L2.CX Pr w) (k + 1) f fd ps (spX K n W) :=
  okX F S hn fun cdv A outer s H0 E hr => by
    obtain ⟨t, ht, hw⟩ := hb cdv A outer s H0 E hr
    refine ⟨t, ht, fun ds P PX hl hW F1 B H σ Q e hs q qx => ?_⟩
    refine hw ds P PX hl hW F1 B qx σ B H (Evl.Ex.refl _) e hs _ fun o O2 B2 H2 p e2 hs2 => ?_
    cases o with
    | nx ρ => exact fun σ _ => q _ _ B2 H2 p e2 hs2.dropL (.raw _)
    | ret d => exact fun v rv => q v d B2 H2 p e2 hs2.dropL rv
    | bk ρ => exact False.elim p
    | ct ρ => exact False.elim p
end
end G
/-! Comprehensions and loops over written lists, turn by turn; drawn lists; slices, sums of lists and tuples. -/
namespace G
open PySem L2 PySem.Spec PyProof.Rows
section
variable {K : PySem.W.Frag} {ρ : Rho} {O O1 : Store} {P : D → Store → Prop} {PS : Out → Store → Prop} {te : TE} {tb : TS} {PR : Rho → Store → Prop} {r : Rho} {d : D} {wi : TI} {g : TG} {vs : List Nat}
theorem gw0 {y : Option D} (p : PR (some d :: r) O) : wG K (gName 0) d (wipeR (y :: r) [0]) O PR := g_name p
theorem gx0 {y z : Option D} {n : Nat} {a b : D} (hn : 2 = n) (p : PR (some a :: some b :: r) O) : wG K (gTup K n (gCons (gName 0) (gCons (gName 1) gNil))) (.tup [a, b]) (wipeR (y :: z :: r) [0, 1]) O PR := g_tup hn (gs_cons' (g_name (gs_cons' (g_name (gs_nil' p)))))
theorem gz0 {y z : Option D} {n : Nat} {q : Rat} (hn : 2 = n) (p : PR (some (.int q.num) :: some (.int (q.den : Int)) :: r) O) : wG K (gTup K n (gCons (gName 0) (gCons (gName 1) gNil))) (dP q) (wipeR (y :: z :: r) [0, 1]) O PR := gx0 hn p
theorem gw1 {x0 y : Option D} (p : PR (x0 :: some d :: r) O) : wG K (gName 1) d (wipeR (x0 :: y :: r) [1]) O PR := g_name p
theorem gx1 {x0 y z : Option D} {n : Nat} {a b : D} (hn : 2 = n) (p : PR (x0 :: some a :: some b :: r) O) : wG K (gTup K n (gCons (gName 1) (gCons (gName 2) gNil))) (.tup [a, b]) (wipeR (x0 :: y :: z :: r) [1, 2]) O PR := g_tup hn (gs_cons' (g_name (gs_cons' (g_name (gs_nil' p)))))
theorem gz1 {x0 y z : Option D} {n : Nat} {q : Rat} (hn : 2 = n) (p : PR (x0 :: some (.int q.num) :: some (.int (q.den : Int)) :: r) O) : wG K (gTup K n (gCons (gName 1) (gCons (gName 2) gNil))) (dP q) (wipeR (x0 :: y :: z :: r) [1, 2]) O PR := gx1 hn p
theorem gw2 {x0 x1 y : Option D} (p : PR (x0 :: x1 :: some d :: r) O) : wG K (gName 2) d (wipeR (x0 :: x1 :: y :: r) [2]) O PR := g_name p
theorem gx2 {x0 x1 y z : Option D} {n : Nat} {a b : D} (hn : 2 = n) (p : PR (x0 :: x1 :: some a :: some b :: r) O) : wG K (gTup K n (gCons (gName 2) (gCons (gName 3) gNil))) (.tup [a, b]) (wipeR (x0 :: x1 :: y :: z :: r) [2, 3]) O PR := g_tup hn (gs_cons' (g_name (gs_cons' (g_name (gs_nil' p)))))
theorem gz2 {x0 x1 y z : Option D} {n : Nat} {q : Rat} (hn : 2 = n) (p : PR (x0 :: x1 :: some (.int q.num) :: some (.int (q.den : Int)) :: r) O) : wG K (gTup K n (gCons (gName 2) (gCons (gName 3) gNil))) (dP q) (wipeR (x0 :: x1 :: y :: z :: r) [2, 3]) O PR := gx2 hn p
theorem gw3 {x0 x1 x2 y : Option D} (p : PR (x0 :: x1 :: x2 :: some d :: r) O) : wG K (gName 3) d (wipeR (x0 :: x1 :: x2 :: y :: r) [3]) O PR := g_name p
theorem gx3 {x0 x1 x2 y z : Option D} {n : Nat} {a b : D} (hn : 2 = n) (p : PR (x0 :: x1 :: x2 :: some a :: some b :: r) O) : wG K (gTup K n (gCons (gName 3) (gCons (gName 4) gNil))) (.tup [a, b]) (wipeR (x0 :: x1 :: x2 :: y :: z :: r) [3, 4]) O PR := g_tup hn (gs_cons' (g_name (gs_cons' (g_name (gs_nil' p)))))
theorem gz3 {x0 x1 x2 y z : Option D} {n : Nat} {q : Rat} (hn : 2 = n) (p : PR (x0 :: x1 :: x2 :: some (.int q.num) :: some (.int (q.den : Int)) :: r) O) : wG K (gTup K n (gCons (gName 3) (gCons (gName 4) gNil))) (dP q) (wipeR (x0 :: x1 :: x2 :: y :: z :: r) [3, 4]) O PR := gx3 hn p
theorem gw4 {x0 x1 x2 x3 y : Option D} (p : PR (x0 :: x1 :: x2 :: x3 :: some d :: r) O) : wG K (gName 4) d (wipeR (x0 :: x1 :: x2 :: x3 :: y :: r) [4]) O PR := g_name p
theorem gx4 {x0 x1 x2 x3 y z : Option D} {n : Nat} {a b : D} (hn : 2 = n) (p : PR (x0 :: x1 :: x2 :: x3 :: some a :: some b :: r) O) : wG K (gTup K n (gCons (gName 4) (gCons (gName 5) gNil))) (.tup [a, b]) (wipeR (x0 :: x1 :: x2 :: x3 :: y :: z :: r) [4, 5]) O PR := g_tup hn (gs_cons' (g_name (gs_cons' (g_name (gs_nil' p)))))
theorem gz4 {x0 x1 x2 x3 y z : Option D} {n : Nat} {q : Rat} (hn : 2 = n) (p : PR (x0 :: x1 :: x2 :: x3 :: some (.int q.num) :: some (.int (q.den : Int)) :: r) O) : wG K (gTup K n (gCons (gName 4) (gCons (gName 5) gNil))) (dP q) (wipeR (x0 :: x1 :: x2 :: x3 :: y :: z :: r) [4, 5]) O PR := gx4 hn p
theorem gw5 {x0 x1 x2 x3 x4 y : Option D} (p : PR (x0 :: x1 :: x2 :: x3 :: x4 :: some d :: r) O) : wG K (gName 5) d (wipeR (x0 :: x1 :: x2 :: x3 :: x4 :: y :: r) [5]) O PR := g_name p
theorem gx5 {x0 x1 x2 x3 x4 y z : Option D} {n : Nat} {a b : D} (hn : 2 = n) (p : PR (x0 :: x1 :: x2 :: x3 :: x4 :: some a :: some b :: r) O) : wG K (gTup K n (gCons (gName 5) (gCons (gName 6) gNil))) (.tup [a, b]) (wipeR (x0 :: x1 :: x2 :: x3 :: x4 :: y :: z :: r) [5, 6]) O PR := g_tup hn (gs_cons' (g_name (gs_cons' (g_name (gs_nil' p)))))
theorem gz5 {x0 x1 x2 x3 x4 y z : Option D} {n : Nat} {q : Rat} (hn : 2 = n) (p : PR (x0 :: x1 :: x2 :: x3 :: x4 :: some (.int q.num) :: some (.int (q.den : Int)) :: r) O) : wG K (gTup K n (gCons (gName 5) (gCons (gName 6) gNil))) (dP q) (wipeR (x0 :: x1 :: x2 :: x3 :: x4 :: y :: z :: r) [5, 6]) O PR := gx5 hn p
theorem gw6 {x0 x1 x2 x3 x4 x5 y : Option D} (p : PR (x0 :: x1 :: x2 :: x3 :: x4 :: x5 :: some d :: r) O) : wG K (gName 6) d (wipeR (x0 :: x1 :: x2 :: x3 :: x4 :: x5 :: y :: r) [6]) O PR := g_name p
theorem gx6 {x0 x1 x2 x3 x4 x5 y z : Option D} {n : Nat} {a b : D} (hn : 2 = n) (p : PR (x0 :: x1 :: x2 :: x3 :: x4 :: x5 :: some a :: some b :: r) O) : wG K (gTup K n (gCons (gName 6) (gCons (gName 7) gNil))) (.tup [a, b]) (wipeR (x0 :: x1 :: x2 :: x3 :: x4 :: x5 :: y :: z :: r) [6, 7]) O PR := g_tup hn (gs_cons' (g_name (gs_cons' (g_name (gs_nil' p)))))
theorem gz6 {x0 x1 x2 x3 x4 x5 y z : Option D} {n : Nat} {q : Rat} (hn : 2 = n) (p : PR (x0 :: x1 :: x2 :: x3 :: x4 :: x5 :: some (.int q.num) :: some (.int (q.den : Int)) :: r) O) : wG K (gTup K n (gCons (gName 6) (gCons (gName 7) gNil))) (dP q) (wipeR (x0 :: x1 :: x2 :: x3 :: x4 :: x5 :: y :: z :: r) [6, 7]) O PR := gx6 hn p
theorem gw7 {x0 x1 x2 x3 x4 x5 x6 y : Option D} (p : PR (x0 :: x1 :: x2 :: x3 :: x4 :: x5 :: x6 :: some d :: r) O) : wG K (gName 7) d (wipeR (x0 :: x1 :: x2 :: x3 :: x4 :: x5 :: x6 :: y :: r) [7]) O PR := g_name p
theorem gx7 {x0 x1 x2 x3 x4 x5 x6 y z : Option D} {n : Nat} {a b : D} (hn : 2 = n) (p : PR (x0 :: x1 :: x2 :: x3 :: x4 :: x5 :: x6 :: some a :: some b :: r) O) : wG K (gTup K n (gCons (gName 7) (gCons (gName 8) gNil))) (.tup [a, b]) (wipeR (x0 :: x1 :: x2 :: x3 :: x4 :: x5 :: x6 :: y :: z :: r) [7, 8]) O PR := g_tup hn (gs_cons' (g_name (gs_cons' (g_name (gs_nil' p)))))
theorem gz7 {x0 x1 x2 x3 x4 x5 x6 y z : Option D} {n : Nat} {q : Rat} (hn : 2 = n) (p : PR (x0 :: x1 :: x2 :: x3 :: x4 :: x5 :: x6 :: some (.int q.num) :: some (.int (q.den : Int)) :: r) O) : wG K (gTup K n (gCons (gName 7) (gCons (gName 8) gNil))) (dP q) (wipeR (x0 :: x1 :: x2 :: x3 :: x4 :: x5 :: x6 :: y :: z :: r) [7, 8]) O PR := gx7 hn p
theorem gw8 {x0 x1 x2 x3 x4 x5 x6 x7 y : Option D} (p : PR (x0 :: x1 :: x2 :: x3 :: x4 :: x5 :: x6 :: x7 :: some d :: r) O) : wG K (gName 8) d (wipeR (x0 :: x1 :: x2 :: x3 :: x4 :: x5 :: x6 :: x7 :: y :: r) [8]) O PR := g_name p
theorem gx8 {x0 x1 x2 x3 x4 x5 x6 x7 y z : Option D} {n : Nat} {a b : D} (hn : 2 = n) (p : PR (x0 :: x1 :: x2 :: x3 :: x4 :: x5 :: x6 :: x7 :: some a :: some b :: r) O) : wG K (gTup K n (gCons (gName 8) (gCons (gName 9) gNil))) (.tup [a, b]) (wipeR (x0 :: x1 :: x2 :: x3 :: x4 :: x5 :: x6 :: x7 :: y :: z :: r) [8, 9]) O PR := g_tup hn (gs_cons' (g_name (gs_cons' (g_name (gs_nil' p)))))
theorem gz8 {x0 x1 x2 x3 x4 x5 x6 x7 y z : Option D} {n : Nat} {q : Rat} (hn : 2 = n) (p : PR (x0 :: x1 :: x2 :: x3 :: x4 :: x5 :: x6 :: x7 :: some (.int q.num) :: some (.int (q.den : Int)) :: r) O) : wG K (gTup K n (gCons (gName 8) (gCons (gName 9) gNil))) (dP q) (wipeR (x0 :: x1 :: x2 :: x3 :: x4 :: x5 :: x6 :: x7 :: y :: z :: r) [8, 9]) O PR := gx8 hn p
theorem gw9 {x0 x1 x2 x3 x4 x5 x6 x7 x8 y : Option D} (p : PR (x0 :: x1 :: x2 :: x3 :: x4 :: x5 :: x6 :: x7 :: x8 :: some d :: r) O) : wG K (gName 9) d (wipeR (x0 :: x1 :: x2 :: x3 :: x4 :: x5 :: x6 :: x7 :: x8 :: y :: r) [9]) O PR := g_name p
theorem gx9 {x0 x1 x2 x3 x4 x5 x6 x7 x8 y z : Option D} {n : Nat} {a b : D} (hn : 2 = n) (p : PR (x0 :: x1 :: x2 :: x3 :: x4 :: x5 :: x6 :: x7 :: x8 :: some a :: some b :: r) O) : wG K (gTup K n (gCons (gName 9) (gCons (gName 10) gNil))) (.tup [a, b]) (wipeR (x0 :: x1 :: x2 :: x3 :: x4 :: x5 :: x6 :: x7 :: x8 :: y :: z :: r) [9, 10]) O PR := g_tup hn (gs_cons' (g_name (gs_cons' (g_name (gs_nil' p)))))
theorem gz9 {x0 x1 x2 x3 x4 x5 x6 x7 x8 y z : Option D} {n : Nat} {q : Rat} (hn : 2 = n) (p : PR (x0 :: x1 :: x2 :: x3 :: x4 :: x5 :: x6 :: x7 :: x8 :: some (.int q.num) :: some (.int (q.den : Int)) :: r) O) : wG K (gTup K n (gCons (gName 9) (gCons (gName 10) gNil))) (dP q) (wipeR (x0 :: x1 :: x2 :: x3 :: x4 :: x5 :: x6 :: x7 :: x8 :: y :: z :: r) [9, 10]) O PR := gx9 hn p
theorem gw10 {x0 x1 x2 x3 x4 x5 x6 x7 x8 x9 y : Option D} (p : PR (x0 :: x1 :: x2 :: x3 :: x4 :: x5 :: x6 :: x7 :: x8 :: x9 :: some d :: r) O) : wG K (gName 10) d (wipeR (x0 :: x1 :: x2 :: x3 :: x4 :: x5 :: x6 :: x7 :: x8 :: x9 :: y :: r) [10]) O PR := g_name p
theorem gx10 {x0 x1 x2 x3 x4 x5 x6 x7 x8 x9 y z : Option D} {n : Nat} {a b : D} (hn : 2 = n) (p : PR (x0 :: x1 :: x2 :: x3 :: x4 :: x5 :: x6 :: x7 :: x8 :: x9 :: some a :: some b :: r) O) : wG K (gTup K n (gCons (gName 10) (gCons (gName 11) gNil))) (.tup [a, b]) (wipeR (x0 :: x1 :: x2 :: x3 :: x4 :: x5 :: x6 :: x7 :: x8 :: x9 :: y :: z :: r) [10, 11]) O PR := g_tup hn (gs_cons' (g_name (gs_cons' (g_name (gs_nil' p)))))
theorem gz10 {x0 x1 x2 x3 x4 x5 x6 x7 x8 x9 y z : Option D} {n : Nat} {q : Rat} (hn : 2 = n) (p : PR (x0 :: x1 :: x2 :: x3 :: x4 :: x5 :: x6 :: x7 :: x8 :: x9 :: some (.int q.num) :: some (.int (q.den : Int)) :: r) O) : wG K (gTup K n (gCons (gName 10) (gCons (gName 11) gNil))) (dP q) (wipeR (x0 :: x1 :: x2 :: x3 :: x4 :: x5 :: x6 :: x7 :: x8 :: x9 :: y :: z :: r) [10, 11]) O PR := gx10 hn p
theorem gw11 {x0 x1 x2 x3 x4 x5 x6 x7 x8 x9 x10 y : Option D} (p : PR (x0 :: x1 :: x2 :: x3 :: x4 :: x5 :: x6 :: x7 :: x8 :: x9 :: x10 :: some d :: r) O) : wG K (gName 11) d (wipeR (x0 :: x1 :: x2 :: x3 :: x4 :: x5 :: x6 :: x7 :: x8 :: x9 :: x10 :: y :: r) [11]) O PR := g_name p
theorem gx11 {x0 x1 x2 x3 x4 x5 x6 x7 x8 x9 x10 y z : Option D} {n : Nat} {a b : D} (hn : 2 = n) (p : PR (x0 :: x1 :: x2 :: x3 :: x4 :: x5 :: x6 :: x7 :: x8 :: x9 :: x10 :: some a :: some b :: r) O) : wG K (gTup K n (gCons (gName 11) (gCons (gName 12) gNil))) (.tup [a, b]) (wipeR (x0 :: x1 :: x2 :: x3 :: x4 :: x5 :: x6 :: x7 :: x8 :: x9 :: x10 :: y :: z :: r) [11, 12]) O PR := g_tup hn (gs_cons' (g_name (gs_cons' (g_name (gs_nil' p)))))
theorem gz11 {x0 x1 x2 x3 x4 x5 x6 x7 x8 x9 x10 y z : Option D} {n : Nat} {q : Rat} (hn : 2 = n) (p : PR (x0 :: x1 :: x2 :: x3 :: x4 :: x5 :: x6 :: x7 :: x8 :: x9 :: x10 :: some (.int q.num) :: some (.int (q.den : Int)) :: r) O) : wG K (gTup K n (gCons (gName 11) (gCons (gName 12) gNil))) (dP q) (wipeR (x0 :: x1 :: x2 :: x3 :: x4 :: x5 :: x6 :: x7 :: x8 :: x9 :: x10 :: y :: z :: r) [11, 12]) O PR := gx11 hn p
theorem gw12 {x0 x1 x2 x3 x4 x5 x6 x7 x8 x9 x10 x11 y : Option D} (p : PR (x0 :: x1 :: x2 :: x3 :: x4 :: x5 :: x6 :: x7 :: x8 :: x9 :: x10 :: x11 :: some d :: r) O) : wG K (gName 12) d (wipeR (x0 :: x1 :: x2 :: x3 :: x4 :: x5 :: x6 :: x7 :: x8 :: x9 :: x10 :: x11 :: y :: r) [12]) O PR := g_name p
theorem gx12 {x0 x1 x2 x3 x4 x5 x6 x7 x8 x9 x10 x11 y z : Option D} {n : Nat} {a b : D} (hn : 2 = n) (p : PR (x0 :: x1 :: x2 :: x3 :: x4 :: x5 :: x6 :: x7 :: x8 :: x9 :: x10 :: x11 :: some a :: some b :: r) O) : wG K (gTup K n (gCons (gName 12) (gCons (gName 13) gNil))) (.tup [a, b]) (wipeR (x0 :: x1 :: x2 :: x3 :: x4 :: x5 :: x6 :: x7 :: x8 :: x9 :: x10 :: x11 :: y :: z :: r) [12, 13]) O PR := g_tup hn (gs_cons' (g_name (gs_cons' (g_name (gs_nil' p)))))
theorem gz12 {x0 x1 x2 x3 x4 x5 x6 x7 x8 x9 x10 x11 y z : Option D} {n : Nat} {q : Rat} (hn : 2 = n) (p : PR (x0 :: x1 :: x2 :: x3 :: x4 :: x5 :: x6 :: x7 :: x8 :: x9 :: x10 :: x11 :: some (.int q.num) :: some (.int (q.den : Int)) :: r) O) : wG K (gTup K n (gCons (gName 12) (gCons (gName 13) gNil))) (dP q) (wipeR (x0 :: x1 :: x2 :: x3 :: x4 :: x5 :: x6 :: x7 :: x8 :: x9 :: x10 :: x11 :: y :: z :: r) [12, 13]) O PR := gx12 hn p
theorem gw13 {x0 x1 x2 x3 x4 x5 x6 x7 x8 x9 x10 x11 x12 y : Option D} (p : PR (x0 :: x1 :: x2 :: x3 :: x4 :: x5 :: x6 :: x7 :: x8 :: x9 :: x10 :: x11 :: x12 :: some d :: r) O) : wG K (gName 13) d (wipeR (x0 :: x1 :: x2 :: x3 :: x4 :: x5 :: x6 :: x7 :: x8 :: x9 :: x10 :: x11 :: x12 :: y :: r) [13]) O PR := g_name p
theorem gx13 {x0 x1 x2 x3 x4 x5 x6 x7 x8 x9 x10 x11 x12 y z : Option D} {n : Nat} {a b : D} (hn : 2 = n) (p : PR (x0 :: x1 :: x2 :: x3 :: x4 :: x5 :: x6 :: x7 :: x8 :: x9 :: x10 :: x11 :: x12 :: some a :: some b :: r) O) : wG K (gTup K n (gCons (gName 13) (gCons (gName 14) gNil))) (.tup [a, b]) (wipeR (x0 :: x1 :: x2 :: x3 :: x4 :: x5 :: x6 :: x7 :: x8 :: x9 :: x10 :: x11 :: x12 :: y :: z :: r) [13, 14]) O PR := g_tup hn (gs_cons' (g_name (gs_cons' (g_name (gs_nil' p)))))
theorem gz13 {x0 x1 x2 x3 x4 x5 x6 x7 x8 x9 x10 x11 x12 y z : Option D} {n : Nat} {q : Rat} (hn : 2 = n) (p : PR (x0 :: x1 :: x2 :: x3 :: x4 :: x5 :: x6 :: x7 :: x8 :: x9 :: x10 :: x11 :: x12 :: some (.int q.num) :: some (.int (q.den : Int)) :: r) O) : wG K (gTup K n (gCons (gName 13) (gCons (gName 14) gNil))) (dP q) (wipeR (x0 :: x1 :: x2 :: x3 :: x4 :: x5 :: x6 :: x7 :: x8 :: x9 :: x10 :: x11 :: x12 :: y :: z :: r) [13, 14]) O PR := gx13 hn p
theorem gw14 {x0 x1 x2 x3 x4 x5 x6 x7 x8 x9 x10 x11 x12 x13 y : Option D} (p : PR (x0 :: x1 :: x2 :: x3 :: x4 :: x5 :: x6 :: x7 :: x8 :: x9 :: x10 :: x11 :: x12 :: x13 :: some d :: r) O) : wG K (gName 14) d (wipeR (x0 :: x1 :: x2 :: x3 :: x4 :: x5 :: x6 :: x7 :: x8 :: x9 :: x10 :: x11 :: x12 :: x13 :: y :: r) [14]) O PR := g_name p
theorem gx14 {x0 x1 x2 x3 x4 x5 x6 x7 x8 x9 x10 x11 x12 x13 y z : Option D} {n : Nat} {a b : D} (hn : 2 = n) (p : PR (x0 :: x1 :: x2 :: x3 :: x4 :: x5 :: x6 :: x7 :: x8 :: x9 :: x10 :: x11 :: x12 :: x13 :: some a :: some b :: r) O) : wG K (gTup K n (gCons (gName 14) (gCons (gName 15) gNil))) (.tup [a, b]) (wipeR (x0 :: x1 :: x2 :: x3 :: x4 :: x5 :: x6 :: x7 :: x8 :: x9 :: x10 :: x11 :: x12 :: x13 :: y :: z :: r) [14, 15]) O PR := g_tup hn (gs_cons' (g_name (gs_cons' (g_name (gs_nil' p)))))
theorem gz14 {x0 x1 x2 x3 x4 x5 x6 x7 x8 x9 x10 x11 x12 x13 y z : Option D} {n : Nat} {q : Rat} (hn : 2 = n) (p : PR (x0 :: x1 :: x2 :: x3 :: x4 :: x5 :: x6 :: x7 :: x8 :: x9 :: x10 :: x11 :: x12 :: x13 :: some (.int q.num) :: some (.int (q.den : Int)) :: r) O) : wG K (gTup K n (gCons (gName 14) (gCons (gName 15) gNil))) (dP q) (wipeR (x0 :: x1 :: x2 :: x3 :: x4 :: x5 :: x6 :: x7 :: x8 :: x9 :: x10 :: x11 :: x12 :: x13 :: y :: z :: r) [14, 15]) O PR := gx14 hn p
theorem gw15 {x0 x1 x2 x3 x4 x5 x6 x7 x8 x9 x10 x11 x12 x13 x14 y : Option D} (p : PR (x0 :: x1 :: x2 :: x3 :: x4 :: x5 :: x6 :: x7 :: x8 :: x9 :: x10 :: x11 :: x12 :: x13 :: x14 :: some d :: r) O) : wG K (gName 15) d (wipeR (x0 :: x1 :: x2 :: x3 :: x4 :: x5 :: x6 :: x7 :: x8 :: x9 :: x10 :: x11 :: x12 :: x13 :: x14 :: y :: r) [15]) O PR := g_name p
theorem gx15 {x0 x1 x2 x3 x4 x5 x6 x7 x8 x9 x10 x11 x12 x13 x14 y z : Option D} {n : Nat} {a b : D} (hn : 2 = n) (p : PR (x0 :: x1 :: x2 :: x3 :: x4 :: x5 :: x6 :: x7 :: x8 :: x9 :: x10 :: x11 :: x12 :: x13 :: x14 :: some a :: some b :: r) O) : wG K (gTup K n (gCons (gName 15) (gCons (gName 16) gNil))) (.tup [a, b]) (wipeR (x0 :: x1 :: x2 :: x3 :: x4 :: x5 :: x6 :: x7 :: x8 :: x9 :: x10 :: x11 :: x12 :: x13 :: x14 :: y :: z :: r) [15, 16]) O PR := g_tup hn (gs_cons' (g_name (gs_cons' (g_name (gs_nil' p)))))
theorem gz15 {x0 x1 x2 x3 x4 x5 x6 x7 x8 x9 x10 x11 x12 x13 x14 y z : Option D} {n : Nat} {q : Rat} (hn : 2 = n) (p : PR (x0 :: x1 :: x2 :: x3 :: x4 :: x5 :: x6 :: x7 :: x8 :: x9 :: x10 :: x11 :: x12 :: x13 :: x14 :: some (.int q.num) :: some (.int (q.den : Int)) :: r) O) : wG K (gTup K n (gCons (gName 15) (gCons (gName 16) gNil))) (dP q) (wipeR (x0 :: x1 :: x2 :: x3 :: x4 :: x5 :: x6 :: x7 :: x8 :: x9 :: x10 :: x11 :: x12 :: x13 :: x14 :: y :: z :: r) [15, 16]) O PR := gx15 hn p
theorem gw16 {x0 x1 x2 x3 x4 x5 x6 x7 x8 x9 x10 x11 x12 x13 x14 x15 y : Option D} (p : PR (x0 :: x1 :: x2 :: x3 :: x4 :: x5 :: x6 :: x7 :: x8 :: x9 :: x10 :: x11 :: x12 :: x13 :: x14 :: x15 :: some d :: r) O) : wG K (gName 16) d (wipeR (x0 :: x1 :: x2 :: x3 :: x4 :: x5 :: x6 :: x7 :: x8 :: x9 :: x10 :: x11 :: x12 :: x13 :: x14 :: x15 :: y :: r) [16]) O PR := g_name p
theorem gx16 {x0 x1 x2 x3 x4 x5 x6 x7 x8 x9 x10 x11 x12 x13 x14 x15 y z : Option D} {n : Nat} {a b : D} (hn : 2 = n) (p : PR (x0 :: x1 :: x2 :: x3 :: x4 :: x5 :: x6 :: x7 :: x8 :: x9 :: x10 :: x11 :: x12 :: x13 :: x14 :: x15 :: some a :: some b :: r) O) : wG K (gTup K n (gCons (gName 16) (gCons (gName 17) gNil))) (.tup [a, b]) (wipeR (x0 :: x1 :: x2 :: x3 :: x4 :: x5 :: x6 :: x7 :: x8 :: x9 :: x10 :: x11 :: x12 :: x13 :: x14 :: x15 :: y :: z :: r) [16, 17]) O PR := g_tup hn (gs_cons' (g_name (gs_cons' (g_name (gs_nil' p)))))
theorem gz16 {x0 x1 x2 x3 x4 x5 x6 x7 x8 x9 x10 x11 x12 x13 x14 x15 y z : Option D} {n : Nat} {q : Rat} (hn : 2 = n) (p : PR (x0 :: x1 :: x2 :: x3 :: x4 :: x5 :: x6 :: x7 :: x8 :: x9 :: x10 :: x11 :: x12 :: x13 :: x14 :: x15 :: some (.int q.num) :: some (.int (q.den : Int)) :: r) O) : wG K (gTup K n (gCons (gName 16) (gCons (gName 17) gNil))) (dP q) (wipeR (x0 :: x1 :: x2 :: x3 :: x4 :: x5 :: x6 :: x7 :: x8 :: x9 :: x10 :: x11 :: x12 :: x13 :: x14 :: x15 :: y :: z :: r) [16, 17]) O PR := gx16 hn p
theorem gw17 {x0 x1 x2 x3 x4 x5 x6 x7 x8 x9 x10 x11 x12 x13 x14 x15 x16 y : Option D} (p : PR (x0 :: x1 :: x2 :: x3 :: x4 :: x5 :: x6 :: x7 :: x8 :: x9 :: x10 :: x11 :: x12 :: x13 :: x14 :: x15 :: x16 :: some d :: r) O) : wG K (gName 17) d (wipeR (x0 :: x1 :: x2 :: x3 :: x4 :: x5 :: x6 :: x7 :: x8 :: x9 :: x10 :: x11 :: x12 :: x13 :: x14 :: x15 :: x16 :: y :: r) [17]) O PR := g_name p
theorem gx17 {x0 x1 x2 x3 x4 x5 x6 x7 x8 x9 x10 x11 x12 x13 x14 x15 x16 y z : Option D} {n : Nat} {a b : D} (hn : 2 = n) (p : PR (x0 :: x1 :: x2 :: x3 :: x4 :: x5 :: x6 :: x7 :: x8 :: x9 :: x10 :: x11 :: x12 :: x13 :: x14 :: x15 :: x16 :: some a :: some b :: r) O) : wG K (gTup K n (gCons (gName 17) (gCons (gName 18) gNil))) (.tup [a, b]) (wipeR (x0 :: x1 :: x2 :: x3 :: x4 :: x5 :: x6 :: x7 :: x8 :: x9 :: x10 :: x11 :: x12 :: x13 :: x14 :: x15 :: x16 :: y :: z :: r) [17, 18]) O PR := g_tup hn (gs_cons' (g_name (gs_cons' (g_name (gs_nil' p)))))
theorem gz17 {x0 x1 x2 x3 x4 x5 x6 x7 x8 x9 x10 x11 x12 x13 x14 x15 x16 y z : Option D} {n : Nat} {q : Rat} (hn : 2 = n) (p : PR (x0 :: x1 :: x2 :: x3 :: x4 :: x5 :: x6 :: x7 :: x8 :: x9 :: x10 :: x11 :: x12 :: x13 :: x14 :: x15 :: x16 :: some (.int q.num) :: some (.int (q.den : Int)) :: r) O) : wG K (gTup K n (gCons (gName 17) (gCons (gName 18) gNil))) (dP q) (wipeR (x0 :: x1 :: x2 :: x3 :: x4 :: x5 :: x6 :: x7 :: x8 :: x9 :: x10 :: x11 :: x12 :: x13 :: x14 :: x15 :: x16 :: y :: z :: r) [17, 18]) O PR := gx17 hn p
theorem gw18 {x0 x1 x2 x3 x4 x5 x6 x7 x8 x9 x10 x11 x12 x13 x14 x15 x16 x17 y : Option D} (p : PR (x0 :: x1 :: x2 :: x3 :: x4 :: x5 :: x6 :: x7 :: x8 :: x9 :: x10 :: x11 :: x12 :: x13 :: x14 :: x15 :: x16 :: x17 :: some d :: r) O) : wG K (gName 18) d (wipeR (x0 :: x1 :: x2 :: x3 :: x4 :: x5 :: x6 :: x7 :: x8 :: x9 :: x10 :: x11 :: x12 :: x13 :: x14 :: x15 :: x16 :: x17 :: y :: r) [18]) O PR := g_name p
theorem gx18 {x0 x1 x2 x3 x4 x5 x6 x7 x8 x9 x10 x11 x12 x13 x14 x15 x16 x17 y z : Option D} {n : Nat} {a b : D} (hn : 2 = n) (p : PR (x0 :: x1 :: x2 :: x3 :: x4 :: x5 :: x6 :: x7 :: x8 :: x9 :: x10 :: x11 :: x12 :: x13 :: x14 :: x15 :: x16 :: x17 :: some a :: some b :: r) O) : wG K (gTup K n (gCons (gName 18) (gCons (gName 19) gNil))) (.tup [a, b]) (wipeR (x0 :: x1 :: x2 :: x3 :: x4 :: x5 :: x6 :: x7 :: x8 :: x9 :: x10 :: x11 :: x12 :: x13 :: x14 :: x15 :: x16 :: x17 :: y :: z :: r) [18, 19]) O PR := g_tup hn (gs_cons' (g_name (gs_cons' (g_name (gs_nil' p)))))
theorem gz18 {x0 x1 x2 x3 x4 x5 x6 x7 x8 x9 x10 x11 x12 x13 x14 x15 x16 x17 y z : Option D} {n : Nat} {q : Rat} (hn : 2 = n) (p : PR (x0 :: x1 :: x2 :: x3 :: x4 :: x5 :: x6 :: x7 :: x8 :: x9 :: x10 :: x11 :: x12 :: x13 :: x14 :: x15 :: x16 :: x17 :: some (.int q.num) :: some (.int (q.den : Int)) :: r) O) : wG K (gTup K n (gCons (gName 18) (gCons (gName 19) gNil))) (dP q) (wipeR (x0 :: x1 :: x2 :: x3 :: x4 :: x5 :: x6 :: x7 :: x8 :: x9 :: x10 :: x11 :: x12 :: x13 :: x14 :: x15 :: x16 :: x17 :: y :: z :: r) [18, 19]) O PR := gx18 hn p
theorem gw19 {x0 x1 x2 x3 x4 x5 x6 x7 x8 x9 x10 x11 x12 x13 x14 x15 x16 x17 x18 y : Option D} (p : PR (x0 :: x1 :: x2 :: x3 :: x4 :: x5 :: x6 :: x7 :: x8 :: x9 :: x10 :: x11 :: x12 :: x13 :: x14 :: x15 :: x16 :: x17 :: x18 :: some d :: r) O) : wG K (gName 19) d (wipeR (x0 :: x1 :: x2 :: x3 :: x4 :: x5 :: x6 :: x7 :: x8 :: x9 :: x10 :: x11 :: x12 :: x13 :: x14 :: x15 :: x16 :: x17 :: x18 :: y :: r) [19]) O PR := g_name p
theorem gx19 {x0 x1 x2 x3 x4 x5 x6 x7 x8 x9 x10 x11 x12 x13 x14 x15 x16 x17 x18 y z : Option D} {n : Nat} {a b : D} (hn : 2 = n) (p : PR (x0 :: x1 :: x2 :: x3 :: x4 :: x5 :: x6 :: x7 :: x8 :: x9 :: x10 :: x11 :: x12 :: x13 :: x14 :: x15 :: x16 :: x17 :: x18 :: some a :: some b :: r) O) : wG K (gTup K n (gCons (gName 19) (gCons (gName 20) gNil))) (.tup [a, b]) (wipeR (x0 :: x1 :: x2 :: x3 :: x4 :: x5 :: x6 :: x7 :: x8 :: x9 :: x10 :: x11 :: x12 :: x13 :: x14 :: x15 :: x16 :: x17 :: x18 :: y :: z :: r) [19, 20]) O PR := g_tup hn (gs_cons' (g_name (gs_cons' (g_name (gs_nil' p)))))
theorem gz19 {x0 x1 x2 x3 x4 x5 x6 x7 x8 x9 x10 x11 x12 x13 x14 x15 x16 x17 x18 y z : Option D} {n : Nat} {q : Rat} (hn : 2 = n) (p : PR (x0 :: x1 :: x2 :: x3 :: x4 :: x5 :: x6 :: x7 :: x8 :: x9 :: x10 :: x11 :: x12 :: x13 :: x14 :: x15 :: x16 :: x17 :: x18 :: some (.int q.num) :: some (.int (q.den : Int)) :: r) O) : wG K (gTup K n (gCons (gName 19) (gCons (gName 20) gNil))) (dP q) (wipeR (x0 :: x1 :: x2 :: x3 :: x4 :: x5 :: x6 :: x7 :: x8 :: x9 :: x10 :: x11 :: x12 :: x13 :: x14 :: x15 :: x16 :: x17 :: x18 :: y :: z :: r) [19, 20]) O PR := gx19 hn p
theorem gw20 {x0 x1 x2 x3 x4 x5 x6 x7 x8 x9 x10 x11 x12 x13 x14 x15 x16 x17 x18 x19 y : Option D} (p : PR (x0 :: x1 :: x2 :: x3 :: x4 :: x5 :: x6 :: x7 :: x8 :: x9 :: x10 :: x11 :: x12 :: x13 :: x14 :: x15 :: x16 :: x17 :: x18 :: x19 :: some d :: r) O) : wG K (gName 20) d (wipeR (x0 :: x1 :: x2 :: x3 :: x4 :: x5 :: x6 :: x7 :: x8 :: x9 :: x10 :: x11 :: x12 :: x13 :: x14 :: x15 :: x16 :: x17 :: x18 :: x19 :: y :: r) [20]) O PR := g_name p
theorem gx20 {x0 x1 x2 x3 x4 x5 x6 x7 x8 x9 x10 x11 x12 x13 x14 x15 x16 x17 x18 x19 y z : Option D} {n : Nat} {a b : D} (hn : 2 = n) (p : PR (x0 :: x1 :: x2 :: x3 :: x4 :: x5 :: x6 :: x7 :: x8 :: x9 :: x10 :: x11 :: x12 :: x13 :: x14 :: x15 :: x16 :: x17 :: x18 :: x19 :: some a :: some b :: r) O) : wG K (gTup K n (gCons (gName 20) (gCons (gName 21) gNil))) (.tup [a, b]) (wipeR (x0 :: x1 :: x2 :: x3 :: x4 :: x5 :: x6 :: x7 :: x8 :: x9 :: x10 :: x11 :: x12 :: x13 :: x14 :: x15 :: x16 :: x17 :: x18 :: x19 :: y :: z :: r) [20, 21]) O PR := g_tup hn (gs_cons' (g_name (gs_cons' (g_name (gs_nil' p)))))
theorem gz20 {x0 x1 x2 x3 x4 x5 x6 x7 x8 x9 x10 x11 x12 x13 x14 x15 x16 x17 x18 x19 y z : Option D} {n : Nat} {q : Rat} (hn : 2 = n) (p : PR (x0 :: x1 :: x2 :: x3 :: x4 :: x5 :: x6 :: x7 :: x8 :: x9 :: x10 :: x11 :: x12 :: x13 :: x14 :: x15 :: x16 :: x17 :: x18 :: x19 :: some (.int q.num) :: some (.int (q.den : Int)) :: r) O) : wG K (gTup K n (gCons (gName 20) (gCons (gName 21) gNil))) (dP q) (wipeR (x0 :: x1 :: x2 :: x3 :: x4 :: x5 :: x6 :: x7 :: x8 :: x9 :: x10 :: x11 :: x12 :: x13 :: x14 :: x15 :: x16 :: x17 :: x18 :: x19 :: y :: z :: r) [20, 21]) O PR := gx20 hn p
theorem gw21 {x0 x1 x2 x3 x4 x5 x6 x7 x8 x9 x10 x11 x12 x13 x14 x15 x16 x17 x18 x19 x20 y : Option D} (p : PR (x0 :: x1 :: x2 :: x3 :: x4 :: x5 :: x6 :: x7 :: x8 :: x9 :: x10 :: x11 :: x12 :: x13 :: x14 :: x15 :: x16 :: x17 :: x18 :: x19 :: x20 :: some d :: r) O) : wG K (gName 21) d (wipeR (x0 :: x1 :: x2 :: x3 :: x4 :: x5 :: x6 :: x7 :: x8 :: x9 :: x10 :: x11 :: x12 :: x13 :: x14 :: x15 :: x16 :: x17 :: x18 :: x19 :: x20 :: y :: r) [21]) O PR := g_name p
theorem gx21 {x0 x1 x2 x3 x4 x5 x6 x7 x8 x9 x10 x11 x12 x13 x14 x15 x16 x17 x18 x19 x20 y z : Option D} {n : Nat} {a b : D} (hn : 2 = n) (p : PR (x0 :: x1 :: x2 :: x3 :: x4 :: x5 :: x6 :: x7 :: x8 :: x9 :: x10 :: x11 :: x12 :: x13 :: x14 :: x15 :: x16 :: x17 :: x18 :: x19 :: x20 :: some a :: some b :: r) O) : wG K (gTup K n (gCons (gName 21) (gCons (gName 22) gNil))) (.tup [a, b]) (wipeR (x0 :: x1 :: x2 :: x3 :: x4 :: x5 :: x6 :: x7 :: x8 :: x9 :: x10 :: x11 :: x12 :: x13 :: x14 :: x15 :: x16 :: x17 :: x18 :: x19 :: x20 :: y :: z :: r) [21, 22]) O PR := g_tup hn (gs_cons' (g_name (gs_cons' (g_name (gs_nil' p)))))
theorem gz21 {x0 x1 x2 x3 x4 x5 x6 x7 x8 x9 x10 x11 x12 x13 x14 x15 x16 x17 x18 x19 x20 y z : Option D} {n : Nat} {q : Rat} (hn : 2 = n) (p : PR (x0 :: x1 :: x2 :: x3 :: x4 :: x5 :: x6 :: x7 :: x8 :: x9 :: x10 :: x11 :: x12 :: x13 :: x14 :: x15 :: x16 :: x17 :: x18 :: x19 :: x20 :: some (.int q.num) :: some (.int (q.den : Int)) :: r) O) : wG K (gTup K n (gCons (gName 21) (gCons (gName 22) gNil))) (dP q) (wipeR (x0 :: x1 :: x2 :: x3 :: x4 :: x5 :: x6 :: x7 :: x8 :: x9 :: x10 :: x11 :: x12 :: x13 :: x14 :: x15 :: x16 :: x17 :: x18 :: x19 :: x20 :: y :: z :: r) [21, 22]) O PR := gx21 hn p
theorem gw22 {x0 x1 x2 x3 x4 x5 x6 x7 x8 x9 x10 x11 x12 x13 x14 x15 x16 x17 x18 x19 x20 x21 y : Option D} (p : PR (x0 :: x1 :: x2 :: x3 :: x4 :: x5 :: x6 :: x7 :: x8 :: x9 :: x10 :: x11 :: x12 :: x13 :: x14 :: x15 :: x16 :: x17 :: x18 :: x19 :: x20 :: x21 :: some d :: r) O) : wG K (gName 22) d (wipeR (x0 :: x1 :: x2 :: x3 :: x4 :: x5 :: x6 :: x7 :: x8 :: x9 :: x10 :: x11 :: x12 :: x13 :: x14 :: x15 :: x16 :: x17 :: x18 :: x19 :: x20 :: x21 :: y :: r) [22]) O PR := g_name p
theorem gx22 {x0 x1 x2 x3 x4 x5 x6 x7 x8 x9 x10 x11 x12 x13 x14 x15 x16 x17 x18 x19 x20 x21 y z : Option D} {n : Nat} {a b : D} (hn : 2 = n) (p : PR (x0 :: x1 :: x2 :: x3 :: x4 :: x5 :: x6 :: x7 :: x8 :: x9 :: x10 :: x11 :: x12 :: x13 :: x14 :: x15 :: x16 :: x17 :: x18 :: x19 :: x20 :: x21 :: some a :: some b :: r) O) : wG K (gTup K n (gCons (gName 22) (gCons (gName 23) gNil))) (.tup [a, b]) (wipeR (x0 :: x1 :: x2 :: x3 :: x4 :: x5 :: x6 :: x7 :: x8 :: x9 :: x10 :: x11 :: x12 :: x13 :: x14 :: x15 :: x16 :: x17 :: x18 :: x19 :: x20 :: x21 :: y :: z :: r) [22, 23]) O PR := g_tup hn (gs_cons' (g_name (gs_cons' (g_name (gs_nil' p)))))
theorem gz22 {x0 x1 x2 x3 x4 x5 x6 x7 x8 x9 x10 x11 x12 x13 x14 x15 x16 x17 x18 x19 x20 x21 y z : Option D} {n : Nat} {q : Rat} (hn : 2 = n) (p : PR (x0 :: x1 :: x2 :: x3 :: x4 :: x5 :: x6 :: x7 :: x8 :: x9 :: x10 :: x11 :: x12 :: x13 :: x14 :: x15 :: x16 :: x17 :: x18 :: x19 :: x20 :: x21 :: some (.int q.num) :: some (.int (q.den : Int)) :: r) O) : wG K (gTup K n (gCons (gName 22) (gCons (gName 23) gNil))) (dP q) (wipeR (x0 :: x1 :: x2 :: x3 :: x4 :: x5 :: x6 :: x7 :: x8 :: x9 :: x10 :: x11 :: x12 :: x13 :: x14 :: x15 :: x16 :: x17 :: x18 :: x19 :: x20 :: x21 :: y :: z :: r) [22, 23]) O PR := gx22 hn p
theorem gw23 {x0 x1 x2 x3 x4 x5 x6 x7 x8 x9 x10 x11 x12 x13 x14 x15 x16 x17 x18 x19 x20 x21 x22 y : Option D} (p : PR (x0 :: x1 :: x2 :: x3 :: x4 :: x5 :: x6 :: x7 :: x8 :: x9 :: x10 :: x11 :: x12 :: x13 :: x14 :: x15 :: x16 :: x17 :: x18 :: x19 :: x20 :: x21 :: x22 :: some d :: r) O) : wG K (gName 23) d (wipeR (x0 :: x1 :: x2 :: x3 :: x4 :: x5 :: x6 :: x7 :: x8 :: x9 :: x10 :: x11 :: x12 :: x13 :: x14 :: x15 :: x16 :: x17 :: x18 :: x19 :: x20 :: x21 :: x22 :: y :: r) [23]) O PR := g_name p
/-- a comprehension's turns, one behind the other -/
def unr (K : PySem.W.Frag) (g : TG) (te : TE) (ρ0 : Rho) (P : D → Store → Prop) : List D → List D → Store → Prop
  | [], acc, O => P (.lst acc) O
  | d :: ds, acc, O => wG K g d ρ0 O fun ρ2 O2 => wE K te ρ2 O2 fun y O3 => unr K g te ρ0 P ds (acc ++ [y]) O3
theorem e_lcU (hg : GOnly g vs) (mg : GMono g) (h : wI K wi ρ O fun ds O1 => ds.length < 90000 ∧ unr K g te (wipeR ρ vs) P ds [] O1) : wE K (tLc wi g tYes te vs) ρ O P := by
  refine e_lc hg mg fun F σ B H e hs R q => h F σ B H e hs R fun J ds O' B2 H2 p e2 hs2 it => ?_
  obtain ⟨hl, p⟩ := p
  refine q J ds O' B2 H2 ⟨hl, fun i acc O3 => unr K g te (wipeR ρ vs) P (ds.drop i) acc O3, p, ?_, ?_⟩ e2 hs2 it
  · intro i d acc O3 hd hal hu
    have hi := (List.getElem?_eq_some_iff.mp hd).1
    rw [List.drop_eq_getElem_cons hi] at hu
    have ed : ds[i] = d := (List.getElem?_eq_some_iff.mp hd).2
    rw [ed] at hu
    intro F1 v σ1 B1 H1 e1 hs1 r1 Q1 q1
    refine hu F1 v σ1 B1 H1 e1 hs1 r1 Q1 fun σ' ρ' O4 B3 H3 p3 => ?_
    exact q1 σ' ρ' _ B3 H3 (t_yes ⟨fun _ => p3, fun z => nomatch z⟩)
  · intro acc O3 hu
    rw [List.drop_length] at hu
    exact hu
theorem un_nil {acc : List D} {ρ0 : Rho} (h : P (.lst acc) O) : unr K g te ρ0 P [] acc O := h
theorem un_0 {ρ0 : Rho} {ds : List D} (h : wG K g d ρ0 O fun ρ2 O2 => wE K te ρ2 O2 fun y O3 => unr K g te ρ0 P ds [y] O3) : unr K g te ρ0 P (d :: ds) [] O := h
theorem un_1 {a0 : D} {ρ0 : Rho} {ds : List D} (h : wG K g d ρ0 O fun ρ2 O2 => wE K te ρ2 O2 fun y O3 => unr K g te ρ0 P ds [a0, y] O3) : unr K g te ρ0 P (d :: ds) [a0] O := h
theorem un_2 {a0 a1 : D} {ρ0 : Rho} {ds : List D} (h : wG K g d ρ0 O fun ρ2 O2 => wE K te ρ2 O2 fun y O3 => unr K g te ρ0 P ds [a0, a1, y] O3) : unr K g te ρ0 P (d :: ds) [a0, a1] O := h
theorem un_3 {a0 a1 a2 : D} {ρ0 : Rho} {ds : List D} (h : wG K g d ρ0 O fun ρ2 O2 => wE K te ρ2 O2 fun y O3 => unr K g te ρ0 P ds [a0, a1, a2, y] O3) : unr K g te ρ0 P (d :: ds) [a0, a1, a2] O := h
theorem un_4 {a0 a1 a2 a3 : D} {ρ0 : Rho} {ds : List D} (h : wG K g d ρ0 O fun ρ2 O2 => wE K te ρ2 O2 fun y O3 => unr K g te ρ0 P ds [a0, a1, a2, a3, y] O3) : unr K g te ρ0 P (d :: ds) [a0, a1, a2, a3] O := h
theorem un_5 {a0 a1 a2 a3 a4 : D} {ρ0 : Rho} {ds : List D} (h : wG K g d ρ0 O fun ρ2 O2 => wE K te ρ2 O2 fun y O3 => unr K g te ρ0 P ds [a0, a1, a2, a3, a4, y] O3) : unr K g te ρ0 P (d :: ds) [a0, a1, a2, a3, a4] O := h
theorem un_6 {a0 a1 a2 a3 a4 a5 : D} {ρ0 : Rho} {ds : List D} (h : wG K g d ρ0 O fun ρ2 O2 => wE K te ρ2 O2 fun y O3 => unr K g te ρ0 P ds [a0, a1, a2, a3, a4, a5, y] O3) : unr K g te ρ0 P (d :: ds) [a0, a1, a2, a3, a4, a5] O := h
theorem un_7 {a0 a1 a2 a3 a4 a5 a6 : D} {ρ0 : Rho} {ds : List D} (h : wG K g d ρ0 O fun ρ2 O2 => wE K te ρ2 O2 fun y O3 => unr K g te ρ0 P ds [a0, a1, a2, a3, a4, a5, a6, y] O3) : unr K g te ρ0 P (d :: ds) [a0, a1, a2, a3, a4, a5, a6] O := h
/-- a loop's turns, one behind the other -/
def ufor (K : PySem.W.Frag) (g : TG) (tb : TS) (PS : Out → Store → Prop) : List D → Rho → Store → Prop
  | [], ρ, O => PS (.nx ρ) O
  | d :: ds, ρ, O => wG K g d ρ O fun ρ2 O2 => wS K tb ρ2 O2 fun o O3 => match o with
    | .nx ρ3 => ufor K g tb PS ds ρ3 O3
    | .ct ρ3 => ufor K g tb PS ds ρ3 O3
    | .bk ρ3 => PS (.nx ρ3) O3
    | .ret d => PS (.ret d) O3
def uforP (K : PySem.W.Frag) (g : TG) (tb : TS) (PS : Out → Store → Prop) (ds : List D) : Out → Store → Prop
  | .nx ρ3, O3 => ufor K g tb PS ds ρ3 O3
  | .ct ρ3, O3 => ufor K g tb PS ds ρ3 O3
  | .bk ρ3, O3 => PS (.nx ρ3) O3
  | .ret d, O3 => PS (.ret d) O3
theorem uf_cons {ds : List D} (h : wG K g d ρ O fun ρ2 O2 => wS K tb ρ2 O2 (uforP K g tb PS ds)) : ufor K g tb PS (d :: ds) ρ O := fun F v σ B H e hs r Q q =>
  h F v σ B H e hs r Q fun σ' ρ' O' B2 H2 p => q σ' ρ' O' B2 H2 (p.mono fun o O3 z => by cases o <;> exact z)
theorem uf_nil (h : PS (.nx ρ) O) : ufor K g tb PS [] ρ O := h
theorem up_nx {ds : List D} (h : ufor K g tb PS ds ρ O) : uforP K g tb PS ds (.nx ρ) O := h
theorem up_ct {ds : List D} (h : ufor K g tb PS ds ρ O) : uforP K g tb PS ds (.ct ρ) O := h
theorem up_bk {ds : List D} (h : PS (.nx ρ) O) : uforP K g tb PS ds (.bk ρ) O := h
theorem up_ret {ds : List D} (h : PS (.ret d) O) : uforP K g tb PS ds (.ret d) O := h
theorem s_forU (h : wI K wi ρ O fun ds O1 => ufor K g tb PS ds ρ O1) : wS K (tFor wi g tb) ρ O PS := by
  refine s_for fun F σ B H e hs R q => h F σ B H e hs R fun J ds O' B2 H2 p e2 hs2 it => ?_
  refine q J ds O' B2 H2 ⟨fun i ρ' O' => ufor K g tb PS (ds.drop i) ρ' O', p, ?_, ?_⟩ e2 hs2 it
  · intro i d ρ' O3 hd hu
    have hi := (List.getElem?_eq_some_iff.mp hd).1
    rw [List.drop_eq_getElem_cons hi] at hu
    have ed : ds[i] = d := (List.getElem?_eq_some_iff.mp hd).2
    rw [ed] at hu
    intro F1 v σ1 B1 H1 e1 hs1 r1 Q1 q1
    refine hu F1 v σ1 B1 H1 e1 hs1 r1 Q1 fun σ' ρ2 O4 B3 H3 p3 => ?_
    refine q1 σ' ρ2 O4 B3 H3 (p3.mono fun o O5 z => ?_)
    cases o <;> exact z
  · intro ρ' O3 hu
    rw [List.drop_length] at hu
    exact hu
/-- what is walked, written -/
theorem ex_lst {ds : List D} {Q : List D → Prop} (h : Q ds) : ∃ ds', D.lst ds = .lst ds' ∧ Q ds' := ⟨_, rfl, h⟩
theorem ex_tup {ds : List D} {Q : List D → Prop} (h : Q ds) : ∃ ds', D.tup ds = .tup ds' ∧ Q ds' := ⟨_, rfl, h⟩
theorem ex_dV {C : Addr} {v : V3} {Q : List D → Prop} (h : Q [dQ C v.x, dQ C v.y, dQ C v.z]) : ∃ ds', dV C v = .tup ds' ∧ Q ds' := ⟨_, rfl, h⟩
theorem ex_lV {v : V3} {Q : List D → Prop} (h : Q [dP v.x, dP v.y, dP v.z]) : ∃ ds', lV v = .lst ds' ∧ Q ds' := ⟨_, rfl, h⟩
theorem i_rngL {ta : TA} {P : List D → Store → Prop} (h : wA K ta ρ O fun ds O1 => ∃ n : Int, ds = [.int n] ∧ -(2 ^ 62) ≤ n ∧ n < 2 ^ 62 ∧ ∃ l, rangeD 0 n.toNat = l ∧ P l O1) : wI K (iRng1 ta) ρ O P := i_rng1 fun F σ B H e hs Q q => h F σ B H e hs Q fun vs ds O' B2 H2 p => q vs ds O' B2 H2 (by
  obtain ⟨n, h1, h2, h3, l, rfl, p⟩ := p
  exact ⟨n, h1, h2, h3, p⟩)
theorem ex_rgI {k : Int} {Q : Int → Prop} (hk : -1000000 < k ∧ k < 1000000) (h : Q k) : ∃ n : Int, [D.int k] = [.int n] ∧ -(2 ^ 62) ≤ n ∧ n < 2 ^ 62 ∧ Q n := ⟨k, rfl, by omega, by omega, h⟩
theorem ex_r2 {Q : List D → Prop} (h : Q [.int 0, .int 1]) : ∃ l, rangeD 0 (Int.toNat 2) = l ∧ Q l := ⟨_, rfl, h⟩
theorem ex_r3 {Q : List D → Prop} (h : Q [.int 0, .int 1, .int 2]) : ∃ l, rangeD 0 (Int.toNat 3) = l ∧ Q l := ⟨_, rfl, h⟩
theorem ex_r4 {Q : List D → Prop} (h : Q [.int 0, .int 1, .int 2, .int 3]) : ∃ l, rangeD 0 (Int.toNat 4) = l ∧ Q l := ⟨_, rfl, h⟩
theorem ex_rl {k : Nat} {Q : List D → Prop} (h : Q (rangeD 0 k)) : ∃ l, rangeD 0 k = l ∧ Q l := ⟨_, rfl, h⟩
theorem l90_0 {p : Prop} (h : p) : ([] : List D).length < 90000 ∧ p := ⟨by decide, h⟩
theorem l90_1 {a : D} {p : Prop} (h : p) : [a].length < 90000 ∧ p := ⟨by show 1 < 90000; decide, h⟩
theorem l90_2 {a b : D} {p : Prop} (h : p) : [a, b].length < 90000 ∧ p := ⟨by show 2 < 90000; decide, h⟩
theorem l90_3 {a b c : D} {p : Prop} (h : p) : [a, b, c].length < 90000 ∧ p := ⟨by show 3 < 90000; decide, h⟩
theorem l90_4 {a b c d : D} {p : Prop} (h : p) : [a, b, c, d].length < 90000 ∧ p := ⟨by show 4 < 90000; decide, h⟩
/-- drawn elements: the stream's place goes on -/
theorem e_lcN {α : Type} (enc : α → D) (good : α → Prop) (S : Int → Store) (hg : GOnly g vs) (mg : GMono g) (h : wI K wi ρ O fun ds O1 => ∃ n0 cnt, O1 = S n0 ∧ ds.length = cnt ∧ cnt < 90000 ∧
    (∀ (i : Nat) (d : D) (n : Int), ds[i]? = some d → wG K g d (wipeR ρ vs) (S n) fun ρ2 O2 => wE K te ρ2 O2 fun y O4 => ∃ x n', y = enc x ∧ good x ∧ O4 = S n') ∧
    ∀ (xs : List α) (n' : Int), xs.length = cnt → (∀ x ∈ xs, good x) → P (.lst (xs.map enc)) (S n')) : wE K (tLc wi g tYes te vs) ρ O P := by
  refine e_lc hg mg fun F σ B H e hs R q => h F σ B H e hs R fun J ds O' B2 H2 p e2 hs2 it => ?_
  obtain ⟨n0, cnt, rfl, rfl, hl, step, fin⟩ := p
  refine q J ds _ B2 H2 ⟨hl, fun i acc O3 => ∃ (xs : List α) (n : Int), acc = xs.map enc ∧ O3 = S n ∧ xs.length = i ∧ ∀ x ∈ xs, good x, ⟨[], n0, rfl, rfl, rfl, fun _ z => absurd z (by simp)⟩, ?_, ?_⟩ e2 hs2 it
  · rintro i d acc O3 hd hal ⟨xs, n, rfl, rfl, hlen, hx⟩
    intro F1 v σ1 B1 H1 e1 hs1 r1 Q1 q1
    refine step i d n hd F1 v σ1 B1 H1 e1 hs1 r1 Q1 fun σ' ρ2 O4 B3 H3 p3 => ?_
    refine q1 σ' ρ2 O4 B3 H3 (t_yes ⟨fun _ => p3.mono fun y O5 z => ?_, fun z => nomatch z⟩)
    obtain ⟨x, n', rfl, hx', rfl⟩ := z
    refine ⟨xs ++ [x], n', by rw [List.map_append]; rfl, rfl, by rw [List.length_append, hlen]; rfl, fun y hy => ?_⟩
    rcases List.mem_append.mp hy with h | h
    · exact hx y h
    · rw [List.mem_singleton.mp h]
      exact hx'
  · rintro acc O3 ⟨xs, n, rfl, rfl, hlen, hx⟩
    exact fin xs n hlen hx
theorem e_lcNO {α : Type} (enc : α → D) (good : α → Prop) (S : Int → Store) (hg : GOnly g vs) (mg : GMono g) (h : wI K wi ρ O fun ds O1 => ∃ n0 cnt, O1 = S n0 ∧ ds.length = cnt ∧ cnt < 90000 ∧
    (∀ (i : Nat) (d : D) (n : Int), ds[i]? = some d → wG K g d (wipeR ρ vs) (S n) fun ρ2 O2 => wE K te ρ2 O2 fun y O4 => ∃ x n', y = enc x ∧ good x ∧ O4 = S n') ∧
    ∀ (a : Addr) (xs : List α) (n' : Int), xs.length = cnt → (∀ x ∈ xs, good x) → P (.loc a) ((a, .lst (xs.map enc)) :: S n')) : wE K (tLc wi g tYes te vs) ρ O P := by
  refine e_lcO hg mg fun F σ B H e hs R q => h F σ B H e hs R fun J ds O' B2 H2 p e2 hs2 it => ?_
  obtain ⟨n0, cnt, rfl, rfl, hl, step, fin⟩ := p
  refine q J ds _ B2 H2 ⟨hl, fun i acc O3 => ∃ (xs : List α) (n : Int), acc = xs.map enc ∧ O3 = S n ∧ xs.length = i ∧ ∀ x ∈ xs, good x, ⟨[], n0, rfl, rfl, rfl, fun _ z => absurd z (by simp)⟩, ?_, ?_⟩ e2 hs2 it
  · rintro i d acc O3 hd hal ⟨xs, n, rfl, rfl, hlen, hx⟩
    intro F1 v σ1 B1 H1 e1 hs1 r1 Q1 q1
    refine step i d n hd F1 v σ1 B1 H1 e1 hs1 r1 Q1 fun σ' ρ2 O4 B3 H3 p3 => ?_
    refine q1 σ' ρ2 O4 B3 H3 (t_yes ⟨fun _ => p3.mono fun y O5 z => ?_, fun z => nomatch z⟩)
    obtain ⟨x, n', rfl, hx', rfl⟩ := z
    refine ⟨xs ++ [x], n', by rw [List.map_append]; rfl, rfl, by rw [List.length_append, hlen]; rfl, fun y hy => ?_⟩
    rcases List.mem_append.mp hy with h | h
    · exact hx y h
    · rw [List.mem_singleton.mp h]
      exact hx'
  · rintro a acc O3 ⟨xs, n, rfl, rfl, hlen, hx⟩
    exact fin a xs n hlen hx
/-! slices -/
def wZ (K : PySem.W.Frag) (r : V → Option Int → Option Int → Hp → VK → Prop) (x : D) (lo hi : Option Int) (O : Store) (P : D → Store → Prop) : Prop :=
  ∀ F v B H, Rep K B v x → Hs K B H (O ++ F) → ∀ Q : VK, Fin K B F P Q → r v lo hi H Q
def wO (K : PySem.W.Frag) (t : TO) (ρ : Rho) (O : Store) (P : Option Int → Store → Prop) : Prop :=
  ∀ F σ B H, EnvR K B σ ρ → Hs K B H (O ++ F) → ∀ Q : Option Int → Hp → Prop, (∀ b O' B2 H2, P b O' → Ex B B2 → Hs K B2 H2 (O' ++ F) → Q b H2) → t σ H Q
theorem o_none {PO : Option Int → Store → Prop} (p : PO none O) : wO K tNoPart ρ O PO := fun F σ B H e hs Q q => q none O B H p (Evl.Ex.refl B) hs
theorem o_some {PO : Option Int → Store → Prop} (h : wE K te ρ O fun d O1 => ∃ i, d = .int i ∧ PO (some i) O1) : wO K (tPart te) ρ O PO := fun F σ B H e hs Q q =>
  h F σ B H e hs _ fun v d O1 B1 H1 p1 e1 hs1 r => by
    obtain ⟨i, rfl, p⟩ := p1
    cases r
    exact ⟨i, rfl, q (some i) O1 B1 H1 p e1 hs1⟩
theorem ex_int {i : Int} {Q : Int → Prop} (h : Q i) : ∃ j, D.int i = .int j ∧ Q j := ⟨i, rfl, h⟩
theorem e_sl {rr : V → Option Int → Option Int → Hp → VK → Prop} {tl th : TO} (h : wE K te ρ O fun x O1 => wO K tl ρ O1 fun lo O2 => wO K th ρ O2 fun hi O3 => wZ K rr x lo hi O3 P) : wE K (tSl rr te tl th) ρ O P := fun F σ B H e hs Q q =>
  h F σ B H e hs _ fun v x O1 B1 H1 p1 e1 hs1 rx => p1 F σ B1 H1 (e.mono e1) hs1 _ fun lo O2 B2 H2 p2 e2 hs2 => p2 F σ B2 H2 ((e.mono e1).mono e2) hs2 _ fun hi O3 B3 H3 p3 e3 hs3 =>
    p3 F v B3 H3 ((rx.mono e2).mono e3) hs3 Q (q.ex ((e1.trans e2).trans e3))
def cutD (ds : List D) (lo hi : Option Int) : List D := (ds.drop (HT.sIx ds.length 0 lo)).take (HT.sIx ds.length ds.length hi - HT.sIx ds.length 0 lo)
theorem reps_cut {B : Hp} {vs : List V} {ds : List D} (r : Reps K B vs ds) (lo hi : Option Int) : Reps K B (cutV vs lo hi) (cutD ds lo hi) := by
  unfold cutV cutD
  rw [r.length]
  exact (r.drop _).take _
theorem z_lst {ds : List D} {lo hi : Option Int} (p : P (.lst (cutD ds lo hi)) O) : wZ K (rSlL K) (.lst ds) lo hi O P := fun F v B H rx hs Q q => by
  cases rx with
  | lst h r =>
    refine ⟨_, _, rfl, Evl.sq_of (hs.ex _ _ h), fun l hl => ?_⟩
    obtain ⟨hs2, e2⟩ := hs.new (o := .lst _) hl
    exact q _ _ O _ _ p e2 hs2 (.lst upd_same ((reps_cut r lo hi).mono e2))
/-- a slice of an owned list: a new one -/
theorem z_own {a : Addr} {ds : List D} {lo hi : Option Int} (hm : (a, Own.lst ds) ∈ O) (p : P (.lst (cutD ds lo hi)) O) : wZ K (rSlL K) (.loc a) lo hi O P := fun F v B H rx hs Q q => by
  cases rx
  obtain ⟨vs, h, r⟩ := (hs.own _ (List.mem_append_left _ hm)).2
  refine ⟨_, _, rfl, Evl.sq_of h, fun l hl => ?_⟩
  obtain ⟨hs2, e2⟩ := hs.new (o := .lst _) hl
  exact q _ _ O _ _ p e2 hs2 (.lst upd_same ((reps_cut r lo hi).mono e2))
theorem cutD_whole {ds : List D} {lo hi : Option Int} (h : HT.sIx ds.length 0 lo = 0 ∧ HT.sIx ds.length ds.length hi = ds.length) : cutD ds lo hi = ds := by
  unfold cutD
  rw [h.1, h.2, List.drop_zero, Nat.sub_zero, List.take_length]
theorem z_tup {ds : List D} {lo hi : Option Int} (p : P (.tup (cutD ds lo hi)) O) : wZ K (rSlA K) (.tup ds) lo hi O P := fun F v B H rx hs Q q => by
  cases rx with
  | tup h r =>
    refine ⟨_, _, rfl, Evl.ex_t hs.ex h, fun hw => ?_, fun _ l hl => ?_⟩
    · rw [r.length] at hw
      rw [cutD_whole hw] at p
      exact q.here hs (.tup h r) p
    · obtain ⟨hs2, e2⟩ := hs.new (o := .tup _) hl
      exact q _ _ O _ _ p e2 hs2 (.tup (Evl.st_of upd_same) ((reps_cut r lo hi).mono e2))
theorem z_dV {C : Addr} {v : V3} {lo hi : Option Int} (p : P (.tup (cutD [dQ C v.x, dQ C v.y, dQ C v.z] lo hi)) O) : wZ K (rSlA K) (dV C v) lo hi O P := z_tup p
theorem z_lV {v : V3} {lo hi : Option Int} (p : P (.lst (cutD [dP v.x, dP v.y, dP v.z] lo hi)) O) : wZ K (rSlL K) (lV v) lo hi O P := z_lst p
/-! sums -/
theorem r_cat {xs ys : List D} (h : xs.length + ys.length ≤ 100000) (p : P (.lst (xs ++ ys)) O) : wR K rCat (.lst xs) (.lst ys) O P := fun F v u B H rx ry hs Q q => by
  cases rx with
  | lst h1 r1 =>
    cases ry with
    | lst h2 r2 =>
      refine ⟨_, _, _, _, rfl, rfl, hs.ex _ _ h1, hs.ex _ _ h2, Evl.sz_of (by rw [r1.length, r2.length]; exact h), fun l hl => ?_⟩
      obtain ⟨hs2, e2⟩ := hs.new (o := .lst _) hl
      exact q _ _ O _ _ p e2 hs2 (.lst upd_same ((r1.append r2).mono e2))
theorem r_catA {xs ys : List D} (h : xs.length + ys.length ≤ 100000) (p : P (.tup (xs ++ ys)) O) : wR K (rCatA K) (.tup xs) (.tup ys) O P := fun F v u B H rx ry hs Q q => by
  cases rx with
  | tup h1 r1 =>
    cases ry with
    | tup h2 r2 =>
      refine ⟨_, _, _, _, rfl, rfl, Evl.ex_t hs.ex h1, Evl.ex_t hs.ex h2, Evl.sz_of (by rw [r1.length, r2.length]; exact h), fun e => ?_, fun _ e => ?_, fun _ _ l hl => ?_⟩
      · subst e
        cases r1
        exact q.here hs (.tup h2 r2) p
      · subst e
        cases r2
        rw [List.append_nil] at p
        exact q.here hs (.tup h1 r1) p
      · obtain ⟨hs2, e2⟩ := hs.new (o := .tup _) hl
        exact q _ _ O _ _ p e2 hs2 (.tup (Evl.st_of upd_same) ((r1.append r2).mono e2))
theorem reps_rep {B : Hp} {vs : List V} {ds : List D} (r : Reps K B vs ds) : ∀ n : Nat, Reps K B (List.replicate n vs).flatten (List.replicate n ds).flatten
  | 0 => .nil
  | n + 1 => by
    rw [List.replicate_succ, List.replicate_succ, List.flatten_cons, List.flatten_cons]
    exact r.append (reps_rep r n)
theorem r_repT {xs : List D} {k : Int} (h0 : xs ≠ []) (h : 2 ≤ k ∧ k ≤ 1000 ∧ xs.length ≤ 1000) (p : P (.tup (List.replicate k.toNat xs).flatten) O) : wR K (rRepT K) (.tup xs) (.int k) O P := fun F v u B H rx ry hs Q q => by
  cases ry
  cases rx with
  | tup h1 r1 =>
    refine ⟨_, k, _, rfl, rfl, Evl.ex_t hs.ex h1, fun z => h0 ?_, h.1, h.2.1, by rw [r1.length]; exact h.2.2, fun l hl => ?_⟩
    · subst z
      cases r1
      rfl
    · obtain ⟨hs2, e2⟩ := hs.new (o := .tup _) hl
      exact q _ _ O _ _ p e2 hs2 (.tup (Evl.st_of upd_same) ((reps_rep r1 _).mono e2))
end
section
variable {A B : Prop} {q : Prop} [Decidable q]
theorem sn_y (hq : q) (h : B) : ∃ b, D.bl (decide q) = .bl b ∧ ((!b) = true → A) ∧ ((!b) = false → B) := by
  rw [decide_eq_true hq]
  exact sbn_t h
theorem sn_n (hq : ¬ q) (h : A) : ∃ b, D.bl (decide q) = .bl b ∧ ((!b) = true → A) ∧ ((!b) = false → B) := by
  rw [decide_eq_false hq]
  exact sbn_f h
theorem sn_oy (hq : q) (h : B) : ∃ b, D.bl (decide q) = .bl b ∧ ((!b) = false → B) ∧ ((!b) = true → A) := by
  rw [decide_eq_true hq]
  exact sbn_ot h
theorem sm_y (hq : q) (h : B) : ∃ b, D.bl (!decide q) = .bl b ∧ (b = true → A) ∧ (b = false → B) := by
  rw [decide_eq_true hq]
  exact sb_f h
theorem sm_n (hq : ¬ q) (h : A) : ∃ b, D.bl (!decide q) = .bl b ∧ (b = true → A) ∧ (b = false → B) := by
  rw [decide_eq_false hq]
  exact sb_t h
theorem sm_oy (hq : q) (h : B) : ∃ b, D.bl (!decide q) = .bl b ∧ (b = false → B) ∧ (b = true → A) := by
  rw [decide_eq_true hq]
  exact sb_of h
end
theorem k_areL {C : Addr} {P : D → Prop} {v : V3} {x y z : Rat} {m1 n1 m2 n2 m3 n3 : Nat} (h1 : bn x m1 n1) (h2 : bn y m2 n2) (h3 : bn z m3 n3) (h : max (max m1 n1) (max (max m2 n2) (max m3 n3)) ≤ 300) (p : P (.bl (decide (v = ⟨x, y, z⟩)))) : W_are C [dV C v, .lst [dP x, dP y, dP z]] P :=
  k_areV (v := v) (u := ⟨x, y, z⟩) (m := max (max m1 n1) (max (max m2 n2) (max m3 n3))) (n := max (max m1 n1) (max (max m2 n2) (max m3 n3))) ⟨bn_mono h1 (by omega) (by omega), bn_mono h2 (by omega) (by omega), bn_mono h3 (by omega) (by omega)⟩ (by omega) p
theorem k_fdet {P : D → Prop} {a b c : V3} {m n m' n' m2 n2 : Nat} (ha : bnV a m n) (hb : bnV b m' n') (hc : bnV c m2 n2) (h : m + m' + m2 + 10 * (n + n' + n2) ≤ 4000 ∧ 3 * (n + 2 * (n' + n2)) ≤ 300) (p : P (dP (detV a b c))) : W_fdet [lV a, lV b, lV c] P :=
  ⟨a, b, c, m, n, m', n', m2, n2, rfl, ha, hb, hc, h.1, h.2, p⟩
/-- cramer's amounts -/
def crV (a b c d : V3) : V3 := ⟨detV d b c / detV a b c, detV a d c / detV a b c, detV a b d / detV a b c⟩
def mix3 (a b c t : V3) : V3 := addV (addV (addV zV (mulV t.x a)) (mulV t.y b)) (mulV t.z c)
theorem three_ofA {α : Type} {xs : List α} (h : xs.length = 3) : ∃ a b c, xs = [a, b, c] := by
  match xs, h with
  | [a, b, c], _ => exact ⟨a, b, c, rfl⟩
end G
/-! mix, mixture; amounts that come back. -/
namespace G
open PySem L2 PySem.Spec PyProof.Rows
def mixV (vs : List V3) (qs : List Rat) : V3 := sumV (List.zipWith (fun v q => mulV q v) vs qs)
def W_mix (C CL : Addr) (ds : List D) (P : D → Prop) (PX : Addr → Prop) : Prop := ∃ (vs : List V3) (qs : List Rat) (m n : Nat), ds = [.tup (vs.map (dV C)), .tup (qs.map (dQ C))] ∧ vs.length ≤ 1000 ∧ qs.length ≤ 1000 ∧ (∀ v ∈ vs, bitsV v m) ∧ (∀ q ∈ qs, bits q n) ∧
  (m + n + 1) * (vs.length + 1) ≤ 8000 ∧ (vs.length ≠ qs.length → PX CL) ∧ (vs.length = qs.length → P (dV C (mixV vs qs)))
abbrev dT3 (C : Addr) (a b c : V3) : D := .tup [dV C a, dV C b, dV C c]
def W_mixture (C CD : Addr) (ds : List D) (P : D → Prop) (PX : Addr → Prop) : Prop := ∃ (a b c d : V3) (m n : Nat), ds = [dT3 C a b c, dV C d] ∧ bitsV a m ∧ bitsV b m ∧ bitsV c m ∧ bitsV d n ∧ 30 * max m n + 10 ≤ 8900 ∧ (detV a b c = 0 → PX CD) ∧ (detV a b c ≠ 0 → P (dV C (crV a b c d)))
theorem zipW_get {α β γ : Type} {f : α → β → γ} {xs : List α} {ys : List β} {i : Nat} {z : γ} (h : (List.zipWith f xs ys)[i]? = some z) : ∃ x y, xs[i]? = some x ∧ ys[i]? = some y ∧ z = f x y := by
  rw [List.getElem?_zipWith] at h
  cases hx : xs[i]? with
  | none => rw [hx] at h; cases h
  | some x =>
    cases hy : ys[i]? with
    | none => rw [hx, hy] at h; cases h
    | some y =>
      rw [hx, hy] at h
      cases h
      exact ⟨x, y, rfl, rfl, rfl⟩
theorem mix3_eq (a b c t : V3) : mixV [a, b, c] [t.x, t.y, t.z] = mix3 a b c t := rfl
theorem bits_detM {a b c : V3} {m1 m2 m3 : Nat} (ha : bitsV a m1) (hb : bitsV b m2) (hc : bitsV c m3) : bits (detV a b c) (15 * max m1 (max m2 m3) + 5) := bits_det (bitsV_mono ha (by omega)) (bitsV_mono hb (by omega)) (bitsV_mono hc (by omega))
/-- what the algebra of three primaries says -/
theorem cr_mix {a b c t : V3} (h : detV a b c ≠ 0) : crV a b c (mix3 a b c t) = t := by
  have e1 : detV (mix3 a b c t) b c = t.x * detV a b c := by simp only [detV, mix3, addV, mulV, zV]; grind
  have e2 : detV a (mix3 a b c t) c = t.y * detV a b c := by simp only [detV, mix3, addV, mulV, zV]; grind
  have e3 : detV a b (mix3 a b c t) = t.z * detV a b c := by simp only [detV, mix3, addV, mulV, zV]; grind
  unfold crV
  rw [e1, e2, e3]
  apply V3.ext' <;> simp only <;> grind
theorem mix_cr {a b c d : V3} (h : detV a b c ≠ 0) : mix3 a b c (crV a b c d) = d := by
  have key : ∀ (X Y Z D u v w e : Rat), D ≠ 0 → X * u + Y * v + Z * w = D * e → 0 + X / D * u + Y / D * v + Z / D * w = e := by
    intro X Y Z D u v w e hD hh
    have : X / D * u + Y / D * v + Z / D * w = (X * u + Y * v + Z * w) / D := by grind
    grind
  apply V3.ext'
  · show 0 + detV d b c / detV a b c * a.x + detV a d c / detV a b c * b.x + detV a b d / detV a b c * c.x = d.x
    refine key _ _ _ _ _ _ _ _ h ?_
    simp only [detV]; grind
  · show 0 + detV d b c / detV a b c * a.y + detV a d c / detV a b c * b.y + detV a b d / detV a b c * c.y = d.y
    refine key _ _ _ _ _ _ _ _ h ?_
    simp only [detV]; grind
  · show 0 + detV d b c / detV a b c * a.z + detV a d c / detV a b c * b.z + detV a b d / detV a b c * c.z = d.z
    refine key _ _ _ _ _ _ _ _ h ?_
    simp only [detV]; grind
theorem cr_add {a b c d e : V3} {f : Rat} (h : detV a b c ≠ 0) : crV a b c (addV d (mulV f e)) = ⟨(crV a b c d).x + f * (crV a b c e).x, (crV a b c d).y + f * (crV a b c e).y, (crV a b c d).z + f * (crV a b c e).z⟩ := by
  have e1 : detV (addV d (mulV f e)) b c = detV d b c + f * detV e b c := by simp only [detV, addV, mulV]; grind
  have e2 : detV a (addV d (mulV f e)) c = detV a d c + f * detV a e c := by simp only [detV, addV, mulV]; grind
  have e3 : detV a b (addV d (mulV f e)) = detV a b d + f * detV a b e := by simp only [detV, addV, mulV]; grind
  unfold crV
  rw [e1, e2, e3]
  apply V3.ext' <;> simp only <;> grind
theorem cr_1 {a b c : V3} (h : detV a b c ≠ 0) : crV a b c a = ⟨1, 0, 0⟩ := by
  have e2 : detV a a c = 0 := by simp only [detV]; grind
  have e3 : detV a b a = 0 := by simp only [detV]; grind
  unfold crV
  rw [e2, e3]
  apply V3.ext' <;> simp only <;> grind
theorem cr_2 {a b c : V3} (h : detV a b c ≠ 0) : crV a b c b = ⟨0, 1, 0⟩ := by
  have e2 : detV b b c = 0 := by simp only [detV]; grind
  have e3 : detV a b b = 0 := by simp only [detV]; grind
  unfold crV
  rw [e2, e3]
  apply V3.ext' <;> simp only <;> grind
theorem cr_3 {a b c : V3} (h : detV a b c ≠ 0) : crV a b c c = ⟨0, 0, 1⟩ := by
  have e2 : detV c b c = 0 := by simp only [detV]; grind
  have e3 : detV a c c = 0 := by simp only [detV]; grind
  unfold crV
  rw [e2, e3]
  apply V3.ext' <;> simp only <;> grind
theorem cr_rot {a b c d : V3} : crV b c a d = ⟨(crV a b c d).y, (crV a b c d).z, (crV a b c d).x⟩ := by
  have e0 : detV b c a = detV a b c := by simp only [detV]; grind
  have e1 : detV d c a = detV a d c := by simp only [detV]; grind
  have e2 : detV b d a = detV a b d := by simp only [detV]; grind
  have e3 : detV b c d = detV d b c := by simp only [detV]; grind
  unfold crV
  rw [e0, e1, e2, e3]
theorem bitsV_cr {a b c d : V3} {m n : Nat} (h : detV a b c ≠ 0) (ha : bitsV a m) (hb : bitsV b m) (hc : bitsV c m) (hd : bitsV d n) : bitsV (crV a b c d) (15 * max m n + 5 + (15 * max m n + 5)) := by
  have ha' := bitsV_mono ha (Nat.le_max_left m n)
  have hb' := bitsV_mono hb (Nat.le_max_left m n)
  have hc' := bitsV_mono hc (Nat.le_max_left m n)
  have hd' := bitsV_mono hd (Nat.le_max_right m n)
  exact ⟨bits_over h (bits_det hd' hb' hc') (bits_det ha' hb' hc'), bits_over h (bits_det ha' hd' hc') (bits_det ha' hb' hc'), bits_over h (bits_det ha' hb' hd') (bits_det ha' hb' hc')⟩
theorem bnV_cr {a b c d : V3} {m1 n1 m2 n2 m3 n3 m4 n4 : Nat} (h : detV a b c ≠ 0) (ha : bnV a m1 n1) (hb : bnV b m2 n2) (hc : bnV c m3 n3) (hd : bnV d m4 n4) (M N : Nat) (hM : max (dk m4 n4 m2 n2 m3 n3) (max (dk m1 n1 m4 n4 m3 n3) (dk m1 n1 m2 n2 m4 n4)) + dn n1 n2 n3 ≤ M)
    (hN : max (dn n4 n2 n3) (max (dn n1 n4 n3) (dn n1 n2 n4)) + dk m1 n1 m2 n2 m3 n3 ≤ N) : bnV (crV a b c d) M N :=
  ⟨bn_mono (bn_over h (bn_det hd hb hc) (bn_det ha hb hc)) (by simp only [dk, dn] at *; omega) (by simp only [dk, dn] at *; omega),
   bn_mono (bn_over h (bn_det ha hd hc) (bn_det ha hb hc)) (by simp only [dk, dn] at *; omega) (by simp only [dk, dn] at *; omega),
   bn_mono (bn_over h (bn_det ha hb hd) (bn_det ha hb hc)) (by simp only [dk, dn] at *; omega) (by simp only [dk, dn] at *; omega)⟩
theorem bitsV_mix3 {a b c t : V3} {m1 m2 m3 n : Nat} (ha : bitsV a m1) (hb : bitsV b m2) (hc : bitsV c m3) (ht : bitsV t n) : bitsV (mix3 a b c t) (1 + (n + m1) + 1 + (n + m2) + 1 + (n + m3) + 1) := bitsV_add (bitsV_add (bitsV_add bitsV_zero (bitsV_mul ht.1 ha)) (bitsV_mul ht.2.1 hb)) (bitsV_mul ht.2.2 hc)
/-- calls at three primaries, the error excluded -/
theorem k_mix3 {C CL : Addr} {P : D → Prop} {a b c t : V3} {m m2 m3 n : Nat} (ha : bitsV a m) (hb : bitsV b m2) (hc : bitsV c m3) (ht : bitsV t n) (h : (max m (max m2 m3) + n + 1) * 4 ≤ 8000) (p : P (dV C (mix3 a b c t))) : W_mix C CL [dT3 C a b c, dV C t] P fun _ => False :=
  ⟨[a, b, c], [t.x, t.y, t.z], max m (max m2 m3), n, rfl, by show 3 ≤ 1000; decide, by show 3 ≤ 1000; decide, (by
    intro v hv
    simp at hv
    rcases hv with rfl | rfl | rfl
    · exact bitsV_mono ha (by omega)
    · exact bitsV_mono hb (by omega)
    · exact bitsV_mono hc (by omega)), (by
    intro v hv
    obtain ⟨t1, t2, t3⟩ := ht
    simp at hv
    rcases hv with rfl | rfl | rfl <;> assumption), h, fun z => absurd rfl z, fun _ => p⟩
theorem k_mixture {C CD : Addr} {P : D → Prop} {a b c d : V3} {m1 m2 m3 n : Nat} (h0 : detV a b c ≠ 0) (ha : bitsV a m1) (hb : bitsV b m2) (hc : bitsV c m3) (hd : bitsV d n) (h : 30 * max (max m1 (max m2 m3)) n + 10 ≤ 8900) (p : P (dV C (crV a b c d))) : W_mixture C CD [dT3 C a b c, dV C d] P fun _ => False :=
  ⟨a, b, c, d, max m1 (max m2 m3), n, rfl, bitsV_mono ha (by omega), bitsV_mono hb (by omega), bitsV_mono hc (by omega), hd, h, fun z => absurd z h0, fun _ => p⟩
/-- Quotient(t, b) -/
def W_mkQ (C : Addr) (ds : List D) (P : D → Prop) : Prop := ∃ t b : Int, ds = [.int t, .int b] ∧ b ≠ 0 ∧ b.natAbs < 2 ^ 8990 ∧ P (dQ C (Rat.divInt t b))
theorem k_mkQ {C : Addr} {t b : Int} {n : Nat} {P : D → Prop} (h0 : b ≠ 0) (hb : b.natAbs < 2 ^ n) (h : n ≤ 8990) (p : P (dQ C (Rat.divInt t b))) : W_mkQ C [.int t, .int b] P := ⟨t, b, rfl, h0, small_of hb h, p⟩
theorem k_mkP {C : Addr} {q : Rat} {m n : Nat} {P : D → Prop} (hb : bn q m n) (h : n ≤ 8990) (p : P (dQ C q)) : W_mkQ C [.int q.num, .int (q.den : Int)] P := ⟨q.num, q.den, rfl, den_ne q, small_of (bn_den hb) h, by rw [divInt_self]; exact p⟩
theorem e_makeQ {K : PySem.W.Frag} {ta : TA} {ρ : Rho} {O : Store} {P : D → Store → Prop} {C CB : Addr} {E : XK} (h : wA K ta ρ O fun ds O1 => ds.length = 2 ∧ W_mkQ C ds fun d => P d O1) : wE K (tMake C (spI K C 2 (W_Qinit CB)) [] E ta) ρ O P := e_make fun F σ B H e hs Q q => h F σ B H e hs Q fun vs ds O' B2 H2 p => q vs ds O' B2 H2 (by
  obtain ⟨h1, t, b, rfl, h2, h3, p⟩ := p
  exact ⟨h1, t, b, rfl, fun z => absurd z h2, fun _ => ⟨h3, p⟩⟩)
theorem ex_dQ {C : Addr} {q0 : Rat} {Q : Rat → Prop} (h : Q q0) : ∃ q, dQ C q0 = dQ C q ∧ Q q := ⟨_, rfl, h⟩
/-- a loop whose turns keep I -/
def loopI (I : Rho → Store → Prop) (PS : Out → Store → Prop) : Out → Store → Prop
  | .nx ρ, O => I ρ O
  | .ct ρ, O => I ρ O
  | .bk ρ, O => PS (.nx ρ) O
  | .ret d, O => PS (.ret d) O
section
variable {K : PySem.W.Frag} {ρ : Rho} {O : Store} {PS : Out → Store → Prop} {tb : TS} {wi : TI} {g : TG} {I : Rho → Store → Prop} {d : D}
theorem s_forI (I : Rho → Store → Prop) (h : wI K wi ρ O fun ds O1 => I ρ O1 ∧ (∀ d ρ' O', d ∈ ds → I ρ' O' → wG K g d ρ' O' fun ρ2 O2 => wS K tb ρ2 O2 (loopI I PS)) ∧ ∀ ρ' O', I ρ' O' → PS (.nx ρ') O') : wS K (tFor wi g tb) ρ O PS := by
  refine s_for fun F σ B H e hs R q => h F σ B H e hs R fun J ds O' B2 H2 p e2 hs2 it => ?_
  obtain ⟨h0, hstep, hend⟩ := p
  refine q J ds O' B2 H2 ⟨fun _ => I, h0, fun i d ρ' O' hi hI F1 v σ1 B1 H1 e1 hs1 r1 Q1 q1 => hstep d ρ' O' (List.mem_of_getElem? hi) hI F1 v σ1 B1 H1 e1 hs1 r1 Q1 fun σ' ρ2 O4 B3 H3 p3 => q1 σ' ρ2 O4 B3 H3 (p3.mono fun o O5 z => by cases o <;> exact z), hend⟩ e2 hs2 it
theorem li_nx (h : I ρ O) : loopI I PS (.nx ρ) O := h
theorem li_ct (h : I ρ O) : loopI I PS (.ct ρ) O := h
theorem li_bk (h : PS (.nx ρ) O) : loopI I PS (.bk ρ) O := h
theorem li_ret (h : PS (.ret d) O) : loopI I PS (.ret d) O := h
end
theorem pe_fldK {X : Cx} {K : PySem.W.Frag} {e : Expr} {ta : TE} {f : Str} {pos : Pos} (hK : X.K = K) (he : PE X e ta) (hb : attributeBase e f X.env (eval e X.env) = eval e X.env) : PE X (.Attribute e f pos) (tFld K ta f) := by
  subst hK
  exact pe_fld he hb
section
variable {K : PySem.W.Frag} {O : Store} {P : D → Store → Prop} {a b c : D}
theorem z_t3a (p : P (.tup [b, c]) O) : wZ K (rSlA K) (.tup [a, b, c]) (some 1) none O P := z_tup p
theorem z_t3b (p : P (.tup [a]) O) : wZ K (rSlA K) (.tup [a, b, c]) none (some 1) O P := z_tup p
theorem z_l3a {v : V3} (p : P (.lst [dP v.y, dP v.z]) O) : wZ K (rSlL K) (lV v) (some 1) none O P := z_lV p
theorem z_l3b {v : V3} (p : P (.lst [dP v.x]) O) : wZ K (rSlL K) (lV v) none (some 1) O P := z_lV p
theorem r_cat21 (p : P (.lst [a, b, c]) O) : wR K rCat (.lst [a, b]) (.lst [c]) O P := r_cat (by show 2 + 1 ≤ 100000; decide) p
theorem r_catA21 (p : P (.tup [a, b, c]) O) : wR K (rCatA K) (.tup [a, b]) (.tup [c]) O P := r_catA (by show 2 + 1 ≤ 100000; decide) p
end
theorem dP_int (a : Int) : D.tup [.int a, .int 1] = dP (a : Rat) := rfl
theorem bn_int {a : Int} {m : Nat} (h : a.natAbs < 2 ^ m) : bn (a : Rat) m 1 := ⟨h, by show 1 < 2 ^ 1; decide⟩
theorem k_areI {C : Addr} {P : D → Prop} {v : V3} {a b c : Int} (h : (a.natAbs < 2 ^ 10 ∧ b.natAbs < 2 ^ 10) ∧ c.natAbs < 2 ^ 10) (p : P (.bl (decide (v = ⟨(a : Rat), (b : Rat), (c : Rat)⟩)))) : W_are C [dV C v, .lst [.tup [.int a, .int 1], .tup [.int b, .int 1], .tup [.int c, .int 1]]] P := by
  rw [dP_int, dP_int, dP_int]
  exact k_areL (bn_int h.1.1) (bn_int h.1.2) (bn_int h.2) (by decide) p
theorem small10 {a : Int} (h : -1024 < a ∧ a < 1024) : a.natAbs < 2 ^ 10 := by omega
end G
/-! == and != of plain data; what a refused call tells. -/
namespace G
open PySem L2 PySem.Spec PyProof.Rows
mutual
def toP : D → PyData
  | .raw (.bl b) => .bool b
  | .raw (.int i) => .int i
  | .raw (.str z) => .str z
  | .tup ds => .tuple (toPs ds)
  | .lst ds => .list (toPs ds)
  | _ => .none
def toPs : List D → List PyData
  | [] => []
  | d :: ds => toP d :: toPs ds
end
mutual
def plD : D → Bool
  | .raw .non => true
  | .raw (.bl _) => true
  | .raw (.int _) => true
  | .raw (.str _) => true
  | .tup ds => plDs ds
  | .lst ds => plDs ds
  | _ => false
def plDs : List D → Bool
  | [] => true
  | d :: ds => plD d && plDs ds
end
section
variable {K : PySem.W.Frag} {B H : Hp}
mutual
theorem dp_of (e : Ex B H) : ∀ {v : V} {d : D}, Rep K B v d → plD d = true → Dp K H v (toP d)
  | _, _, .raw .non, _ => .non
  | _, _, .raw (.bl b), _ => .bl b
  | _, _, .raw (.int i), _ => .int i
  | _, _, .raw (.str z), _ => .str z
  | _, _, .raw (.byt z), h => by simp [plD] at h
  | _, _, .raw (.flt z), h => by simp [plD] at h
  | _, _, .raw (.ref a), h => by simp [plD] at h
  | _, _, .raw (.ty a), h => by simp [plD] at h
  | _, _, .tup h r, p => by
    rw [toP]
    exact .tup (Evl.ex_t e h) (dps_of e r (by simpa [plD] using p))
  | _, _, .lst h r, p => by
    rw [toP]
    exact .lst (Evl.sq_of (e _ _ h)) (dps_of e r (by simpa [plD] using p))
  | _, _, .fz h r, p => by simp [plD] at p
  | _, _, .ins h r, p => by simp [plD] at p
theorem dps_of (e : Ex B H) : ∀ {vs : List V} {ds : List D}, Reps K B vs ds → plDs ds = true → DpAll K H vs (toPs ds)
  | _, _, .nil, _ => by rw [toPs]; exact .nil
  | _, _, .cons h r, p => by
    rw [toPs]
    rw [plDs, Bool.and_eq_true] at p
    exact .cons (dp_of e h p.1) (dps_of e r p.2)
end
end
section
variable {K : PySem.W.Frag} {O : Store} {P : D → Store → Prop} {x y : D}
theorem r_eqDD (hx : plD x = true) (hy : plD y = true) (sx : SeqAt.shaped (toP x) = true) (sy : SeqAt.shaped (toP y) = true) (p : P (.bl (PyData.eqv (toP x) (toP y))) O) : wR K (rEqD K) x y O P := fun F v u B H rx ry hs Q q =>
  ⟨_, _, dp_of hs.ex rx hx, dp_of hs.ex ry hy, sx, sy, q.here hs (.raw _) p⟩
theorem r_neDD (hx : plD x = true) (hy : plD y = true) (sx : SeqAt.shaped (toP x) = true) (sy : SeqAt.shaped (toP y) = true) (p : P (.bl (!PyData.eqv (toP x) (toP y))) O) : wR K (rNeD K) x y O P := fun F v u B H rx ry hs Q q =>
  ⟨_, _, dp_of hs.ex rx hx, dp_of hs.ex ry hy, sx, sy, q.here hs (.raw _) p⟩
end
/-! shapes -/
theorem depthAll_le {n : Nat} : ∀ {ps : List PyData}, (∀ p ∈ ps, p.depth ≤ n) → PyData.depthAll ps ≤ n
  | [], _ => Nat.zero_le _
  | p :: ps, h => by
    simp only [PyData.depthAll]
    have h1 := h p (by simp)
    have h2 := depthAll_le (ps := ps) fun q hq => h q (by simp [hq])
    omega
theorem canLayAll_of : ∀ {ps : List PyData}, (∀ p ∈ ps, p.canLay0 = true) → PyData.canLayAll0 ps = true
  | [], _ => by simp [PyData.canLayAll0]
  | p :: ps, h => by
    simp only [PyData.canLayAll0]
    rw [h p (by simp), canLayAll_of fun q hq => h q (by simp [hq])]
    rfl
abbrev refD : D := .lst [.str "refused", .bl true]
section
variable {K : PySem.W.Frag} {O : Store} {P : D → Store → Prop}
theorem r_neRef (p : P (.bl false) O) : wR K (rNeD K) refD refD O P := r_neDD rfl rfl (by decide +kernel) (by decide +kernel) (by
  have : PyData.eqv (toP refD) (toP refD) = true := by decide +kernel
  rw [this]
  exact p)
theorem r_eqRef (p : P (.bl true) O) : wR K (rEqD K) refD refD O P := r_eqDD rfl rfl (by decide +kernel) (by decide +kernel) (by
  have : PyData.eqv (toP refD) (toP refD) = true := by decide +kernel
  rw [this]
  exact p)
theorem r_eqE0 (p : P (.bl true) O) : wR K (rEqD K) (.lst []) (.lst []) O P := r_eqDD rfl rfl rfl rfl p
theorem shaped_pair (x : Rat) : PyData.canLay0 (toP (dP x)) = true := by
  simp [toP, toPs, PyData.canLay0, PyData.canLayAll0]
theorem depth_pair (x : Rat) : PyData.depth (toP (dP x)) = 1 := by
  simp [toP, toPs, PyData.depth, PyData.depthAll]
theorem r_eqE3 {x y z : Rat} (p : P (.bl false) O) : wR K (rEqD K) (.lst [dP x, dP y, dP z]) (.lst []) O P := r_eqDD (by simp [plD, plDs]) rfl (by
  simp [toP, toPs, SeqAt.shaped, PyData.canLay0, PyData.canLayAll0, PyData.depth, PyData.depthAll]) rfl (by
  have : PyData.eqv (toP (.lst [dP x, dP y, dP z])) (toP (.lst [])) = false := by simp [toP, toPs, PyData.eqv, PyData.eqvAll]
  rw [this]
  exact p)
end
/-- what a law's _law_told tells of mixture -/
def W_told3 (C : Addr) (ds : List D) (P : D → Prop) : Prop := ∃ (a b c d : V3) (m n : Nat), ds = [dT3 C a b c, dV C d] ∧ bitsV a m ∧ bitsV b m ∧ bitsV c m ∧ bitsV d n ∧ 30 * max m n + 10 ≤ 8900 ∧ (detV a b c = 0 → P refD) ∧ (detV a b c ≠ 0 → P (dV C (crV a b c d)))
theorem k_told0 {C : Addr} {P : D → Prop} {a b c d : V3} {m1 m2 m3 n : Nat} (h0 : detV a b c = 0) (ha : bitsV a m1) (hb : bitsV b m2) (hc : bitsV c m3) (hd : bitsV d n) (h : 30 * max (max m1 (max m2 m3)) n + 10 ≤ 8900) (p : P refD) : W_told3 C [dT3 C a b c, dV C d] P :=
  ⟨a, b, c, d, max m1 (max m2 m3), n, rfl, bitsV_mono ha (by omega), bitsV_mono hb (by omega), bitsV_mono hc (by omega), hd, h, fun _ => p, fun z => absurd h0 z⟩
theorem k_told1 {C : Addr} {P : D → Prop} {a b c d : V3} {m1 m2 m3 n : Nat} (h0 : detV a b c ≠ 0) (ha : bitsV a m1) (hb : bitsV b m2) (hc : bitsV c m3) (hd : bitsV d n) (h : 30 * max (max m1 (max m2 m3)) n + 10 ≤ 8900) (p : P (dV C (crV a b c d))) : W_told3 C [dT3 C a b c, dV C d] P :=
  ⟨a, b, c, d, max m1 (max m2 m3), n, rfl, bitsV_mono ha (by omega), bitsV_mono hb (by omega), bitsV_mono hc (by omega), hd, h, fun z => absurd z h0, fun _ => p⟩
theorem k_mixed2 {P : D → Prop} {a b : V3} {x y : Rat} (ha : bnV a 10 4) (hb : bnV b 10 4) (hx : bn x 10 4) (hy : bn y 10 4) (p : ∀ v, bnV v 29 16 → P (lV v)) : W_mixed [.lst [lV a, lV b], .lst [dP x, dP y]] P :=
  have h : ∀ c ∈ [(a, x), (b, y)], bnV c.1 10 4 ∧ bn c.2 10 4 := by
    intro c hc
    simp at hc
    rcases hc with rfl | rfl
    · exact ⟨ha, hx⟩
    · exact ⟨hb, hy⟩
  ⟨[(a, x), (b, y)], 10, 4, 10, 4, rfl, by show 2 ≤ 100; decide, h, by decide, by decide, by show 2 * 8 + 1 ≤ 300; decide, by decide, p _ (bn_mixP h 1 (by show 1 < 2; decide))⟩
theorem k_cramer0 {P : D → Prop} {a b c d : V3} {m1 n1 m2 n2 m3 n3 m4 n4 : Nat} (h0 : detV a b c = 0) (ha : bnV a m1 n1) (hb : bnV b m2 n2) (hc : bnV c m3 n3) (hd : bnV d m4 n4)
    (h : dn n4 n2 n3 + dk m1 n1 m2 n2 m3 n3 ≤ 300 ∧ dn n1 n4 n3 + dk m1 n1 m2 n2 m3 n3 ≤ 300 ∧ dn n1 n2 n4 + dk m1 n1 m2 n2 m3 n3 ≤ 300 ∧ dn n1 n2 n3 ≤ 300 ∧ m4 + dk m1 n1 m2 n2 m3 n3 ≤ 500) (p : P (.lst [])) : W_cramer [lV a, lV b, lV c, lV d] P :=
  ⟨a, b, c, d, m1, n1, m2, n2, m3, n3, m4, n4, rfl, ha, hb, hc, hd, h.1, h.2.1, h.2.2.1, h.2.2.2.1, h.2.2.2.2, by unfold crD; rw [if_pos h0]; exact p⟩
theorem k_cramer1 {P : D → Prop} {a b c d : V3} {m1 n1 m2 n2 m3 n3 m4 n4 : Nat} (h0 : detV a b c ≠ 0) (ha : bnV a m1 n1) (hb : bnV b m2 n2) (hc : bnV c m3 n3) (hd : bnV d m4 n4)
    (h : dn n4 n2 n3 + dk m1 n1 m2 n2 m3 n3 ≤ 300 ∧ dn n1 n4 n3 + dk m1 n1 m2 n2 m3 n3 ≤ 300 ∧ dn n1 n2 n4 + dk m1 n1 m2 n2 m3 n3 ≤ 300 ∧ dn n1 n2 n3 ≤ 300 ∧ m4 + dk m1 n1 m2 n2 m3 n3 ≤ 500) (p : P (.lst [dP (crV a b c d).x, dP (crV a b c d).y, dP (crV a b c d).z])) : W_cramer [lV a, lV b, lV c, lV d] P :=
  ⟨a, b, c, d, m1, n1, m2, n2, m3, n3, m4, n4, rfl, ha, hb, hc, hd, h.1, h.2.1, h.2.2.1, h.2.2.2.1, h.2.2.2.2, by unfold crD; rw [if_neg h0]; exact p⟩
section
variable {A B : Prop}
theorem z_o2 {K : PySem.W.Frag} {O : Store} {P : D → Store → Prop} {x : Addr} {a b c : D} (p : P (.lst [a, b]) ((x, .lst [a, b, c]) :: O)) : wZ K (rSlL K) (.loc x) none (some 2) ((x, .lst [a, b, c]) :: O) P := z_own List.mem_cons_self p
/-- the elements of a drawn list, one changed -/
theorem three_set {Q : List V3 → Prop} {a b c x : V3} {i : Nat} (h : i < 3) (h0 : Q [x, b, c]) (h1 : Q [a, x, c]) (h2 : Q [a, b, x]) : Q ([a, b, c].set i x) := by
  match i, h with
  | 0, _ => exact h0
  | 1, _ => exact h1
  | 2, _ => exact h2
end
end G
/-! A tuple turned round; drawn lists of any length. -/
namespace G
open PySem L2 PySem.Spec PyProof.Rows HT
section
variable {prog : Program} {w : World} {A : Around} {s : Shared} {E : Value → Shared → Prop}
theorem places_rev (n : Nat) : Builtin.Slice.slicePlaces ((n : Int) - 1) (-1) (-1) = n := by
  show (if ((-1 : Int) > 0) then _ else (if (n : Int) - 1 > -1 then ((n : Int) - 1 - -1 - 1) / (- -1) + 1 else 0)).toNat = n
  rw [if_neg (by decide)]
  by_cases h : (n : Int) - 1 > -1
  · rw [if_pos h, show (- -1 : Int) = 1 by decide, Int.ediv_one]
    omega
  · rw [if_neg h]
    have : n = 0 := by omega
    subst this
    rfl
theorem applied_rev {sl : Addr} {vs : Value} {n : Nat} {Q : Int × Int × Nat → Shared → Prop} (hs : s.heap.IsSliceOf sl .none .none vs) (ps : IsPart vs (some (-1))) (h : Q ((n : Int) - 1, -1, n) s) :
    wpAny (model prog w) A (Builtin.Slice.sliceApplied (.ref sl) (pure (n : Int))) Q E s := by
  obtain ⟨os, ho, hc, hf⟩ := id hs
  unfold Builtin.Slice.sliceApplied Builtin.Slice.sliceFields
  refine wpAny_bind (wpAny_bind (wpAny_field ho hf (x := .none) rfl (wpAny_bind (wpAny_field ho hf (x := .none) rfl (wpAny_bind (wpAny_field ho hf (x := vs) rfl (wpAny_pure ?_)))))))
  refine wpAny_bind (slicePart_ ps ?_)
  show wpAny _ _ (if (((-1 : Int)) == 0) = true then _ else _) _ _ s
  rw [if_neg (by decide)]
  refine wpAny_bind (slicePart_none (wpAny_bind (slicePart_none (wpAny_bind (wpAny_pure ?_)))))
  have e := places_rev n
  show wpAny _ _ (pure ((n : Int) - 1, (-1 : Int), Builtin.Slice.slicePlaces ((n : Int) - 1) (-1) (-1))) _ _ s
  rw [e]
  exact wpAny_pure h
theorem pick_rev (xs : Array Value) : ((List.range xs.size).filterMap fun (m : Nat) => xs[(((xs.size : Int) - 1) + (m : Int) * (-1)).toNat]?).toArray = xs.toList.reverse.toArray := by
  congr 1
  apply List.ext_getElem?
  intro i
  have key : ∀ n : Nat, n ≤ xs.size → (List.range n).filterMap (fun (m : Nat) => xs[(((xs.size : Int) - 1) + (m : Int) * (-1)).toNat]?) = (xs.toList.reverse).take n := by
    intro n
    induction n with
    | zero => intro _; simp
    | succ n ih =>
      intro hn
      rw [List.range_succ, List.filterMap_append, ih (by omega), List.take_succ]
      congr 1
      have h1 : (((xs.size : Int) - 1) + (n : Int) * (-1)).toNat = xs.size - 1 - n := by omega
      have h2 : xs.size - 1 - n < xs.size := by omega
      rw [List.filterMap_cons, h1, List.filterMap_nil, Array.getElem?_eq_getElem h2, List.getElem?_reverse (by rw [Array.length_toList]; omega), Array.length_toList]
      simp [h2]
  rw [key xs.size (Nat.le_refl _), List.take_of_length_le (by rw [List.length_reverse, Array.length_toList]; exact Nat.le_refl _)]
theorem get_rev {t sl : Addr} {items : Array Value} {vs : Value} {Q : Value → Shared → Prop} (ht : IsTup s.heap t items) (hs : s.heap.IsSliceOf sl .none .none vs) (ps : IsPart vs (some (-1)))
    (h : Q (.ref s.heap.objs.size) { s with heap := s.heap.push { cls := .type "tuple", data := .seq items.toList.reverse.toArray } }) (hz : items.size ≤ sizeLine) : wpAny (model prog w) A (getItem (.ref t) (.ref sl)) Q E s := by
  have fits : sizeOk (.seq items.toList.reverse.toArray) := by
    show items.toList.reverse.toArray.size ≤ sizeLine
    rw [List.size_toArray, List.length_reverse, Array.length_toList]
    exact hz
  obtain ⟨os, ho, hc, hf⟩ := id hs
  have kind : s.TypeIs (.ref sl) "slice" := ⟨os, ho, hc⟩
  unfold getItem
  first
    | with_reducible refine wpAny_holding ?_
    | skip
  first
    | refine wpAny_bind (wpAny_pure ?_)
    | skip
  refine wpAny_bind (wpAny_sequenceKey ht.typeIs (by decide) (wpAny_bind (wpAny_callSpecial?_slot (name := Str.ofString "__getitem__") ht.typeIs PyProof.Rows.slot_tuple_getitem
    (wpAny_call_entry PyProof.Rows.slot_tuple_getitem ht.typeIs entry_tuple_getitem ?_ (args_tuple_getitem _ _)))))
  show wpAny _ _ (Builtin.Tuple.tupleItemsOf (.ref t) >>= _) _ _ s
  refine wpAny_bind (tupleItemsOf_ ht (wpAny_bind (wpAny_typeOf kind ?_)))
  rw [if_pos (by decide)]
  refine wpAny_bind (applied_rev hs ps ?_)
  have no : ¬ ((((items.size : Int) - 1 == 0) && ((-1 : Int) == 1) && (items.size == items.size)) = true) := by
    simp
  show wpAny _ _ (if ((((items.size : Int) - 1 == 0) && ((-1 : Int) == 1) && (items.size == items.size)) = true) then _ else _) _ _ s
  rw [if_neg no, pick_rev]
  first
    | exact wpAny_bind (m := Builtin.Tuple.tupleExact _) (wpAny_newObj_type (wpAny_pure ⟨_, rfl, wpAny_pure h⟩) fits)
    | exact wpAny_bind (wpAny_bind (m := Builtin.Tuple.tupleExact _) (wpAny_newObj_type (wpAny_pure (wpAny_pure ⟨_, rfl, wpAny_pure h⟩)) fits))
    | exact wpAny_bind (wpAny_bind (m := Builtin.Tuple.tupleExact _) (wpAny_newObj_type (wpAny_pure ⟨_, rfl, wpAny_pure h⟩) fits))
end
/-! t[::-1] -/
def tRevT (K : PySem.W.Frag) (te : TE) : TE := fun σ H Q => te σ H fun x H1 => ∃ a xs, x = .ref a ∧ SqT K H1 a xs ∧ ∀ p, H1 p = none → Q (.ref p) (upd H1 p (.tup xs.reverse))
section
variable {X : Cx}
theorem pe_revT {e : Expr} {te : TE} {k : Nat} {p1 p2 p3 pos : Pos} (he : PE X e te) : PE X (.Subscript e (.Slice none none (some (.UnaryOp .USub (.Constant (.int 1) k p1) p2)) p3) pos) (tRevT X.K te) := by
  refine ⟨fun pins s σ H Q I h => Subscript_ (thn (he.run pins s σ H _ I h) ?_)⟩
  rintro v s1 ⟨x, H1, I1, r1, a, xs, rfl, hx, q⟩
  cases r1
  have minus : PO X (some (.UnaryOp .USub (.Constant (.int 1) k p1) p2)) (tPart (tUn (rU fun i => .int (-i)) (tC (.int 1)))) := po_some (pe_un un_neg pe_int)
  refine wpAny_Slice (thn (po_none.run pins s1 σ H1 (fun o J => o = none ∧ J = H1) I1 ⟨rfl, rfl⟩) ?_)
  rintro vl s2 ⟨l, J, I2, pl, rfl, rfl⟩
  refine thn (po_none.run pins s2 σ J (fun o L => o = none ∧ L = J) I2 ⟨rfl, rfl⟩) ?_
  rintro vu s3 ⟨u, L, I3, pu, rfl, rfl⟩
  refine thn (minus.run pins s3 σ L (fun o M => o = some (-1) ∧ M = L) I3 ⟨1, rfl, -1, rfl, rfl, rfl⟩) ?_
  rintro vs s4 ⟨o, M, I4, ps, rfl, rfl⟩
  cases pl; cases pu
  have I5 : Inv X pins σ M { s4 with heap := s4.heap.push { cls := .type "slice", data := .fields #[.none, .none, vs] } } := I4.kept (t' := s4.toks) fun b ob q => Heap.get?_push_of_some _ q
  obtain ⟨its, r, ht, hz⟩ := I5.tuple hx
  show wpAny (model X.prog X.w) X.A (subscriptTail e _ (.ref a) (.ref s4.heap.objs.size)) (EP X pins σ Q) X.xe _
  refine tail_any (ops := [.ref a, .ref s4.heap.objs.size]) ht.typeIs (PyProof.Rows.slot_tuple_getitem.lookup) ?_ (by with_unfolding_all rfl)
  refine get_rev ht (Heap.IsSliceOf.new _ .none .none vs) ps ?_ (by rw [List.size_toArray, ← r.length]; exact hz)
  refine ⟨.ref _, _, I5.laid (t' := s4.toks) (o := .tup xs.reverse) (fun b ob q => Heap.get?_push_of_some _ q) (Nat.le_refl _) ⟨by rw [List.length_reverse]; exact hz, _, r.reverse, IsTup.new _ _⟩, rfl, q _ (I5.hok.fresh (Nat.le_refl _))⟩
end
section
variable {K : PySem.W.Frag} {ρ : Rho} {O : Store} {P : D → Store → Prop} {te : TE}
theorem Reps.rev {B : Hp} : ∀ {vs : List V} {ds : List D}, Reps K B vs ds → Reps K B vs.reverse ds.reverse
  | _, _, .nil => .nil
  | _, _, .cons h r => by
    rw [List.reverse_cons, List.reverse_cons]
    exact (Reps.rev r).append (.cons h .nil)
theorem e_revT (h : wE K te ρ O fun x O1 => ∃ ds, x = .tup ds ∧ P (.tup ds.reverse) O1) : wE K (tRevT K te) ρ O P := fun F σ B H e hs Q q =>
  h F σ B H e hs _ fun v x O1 B1 H1 p1 e1 hs1 rx => by
    obtain ⟨ds, rfl, p⟩ := p1
    cases rx with
    | tup hb r =>
      refine ⟨_, _, rfl, Evl.ex_t hs1.ex hb, fun p' hp => ?_⟩
      obtain ⟨hs2, e2⟩ := hs1.new (o := .tup _) hp
      exact q _ _ O1 _ _ p (e1.trans e2) hs2 (.tup (Evl.st_of upd_same) ((Reps.rev r).mono e2))
end
/-! slices by their ends -/
theorem sIx_nat' (n d k : Nat) : HT.sIx n d (some (k : Int)) = min k n := HT.sIx_nat n d k
theorem cutD_from (ds : List D) (k : Nat) : cutD ds (some (k : Int)) none = ds.drop k := by
  unfold cutD
  rw [sIx_nat', HT.sIx_none]
  by_cases h : k ≤ ds.length
  · rw [Nat.min_eq_left h, List.take_of_length_le (by rw [List.length_drop]; exact Nat.le_refl _)]
  · rw [Nat.min_eq_right (by omega), Nat.sub_self, List.take_zero, List.drop_of_length_le (by omega)]
theorem cutD_upto (ds : List D) (k : Nat) : cutD ds none (some (k : Int)) = ds.take k := by
  unfold cutD
  rw [sIx_nat', HT.sIx_none, List.drop_zero, Nat.sub_zero]
  by_cases h : k ≤ ds.length
  · rw [Nat.min_eq_left h]
  · rw [Nat.min_eq_right (by omega), List.take_of_length_le (Nat.le_refl _), List.take_of_length_le (by omega)]
section
variable {K : PySem.W.Frag} {ρ : Rho} {O : Store} {P : D → Store → Prop} {te : TE} {wi : TI} {gg : TG} {vs : List Nat}
/-- [e for x in xs], e without any change of what is owned -/
theorem e_lcX {α : Type} (f g : α → D) (hg : GOnly gg vs) (mg : GMono gg) (h : wI K wi ρ O fun ds O1 => ∃ xs : List α, ds = xs.map f ∧ xs.length < 90000 ∧ (∀ x ∈ xs, wG K gg (f x) (wipeR ρ vs) O1 fun ρ2 O2 => wE K te ρ2 O2 fun y O4 => y = g x ∧ O4 = O1) ∧ P (.lst (xs.map g)) O1) : wE K (tLc wi gg tYes te vs) ρ O P := by
  refine e_lc hg mg fun F σ B H e hs R q => h F σ B H e hs R fun J ds O' B2 H2 p e2 hs2 it => ?_
  obtain ⟨xs, rfl, hl, step, fin⟩ := p
  refine q J _ O' B2 H2 ⟨by rw [List.length_map]; exact hl, fun i acc O3 => acc = (xs.map g).take i ∧ O3 = O', ⟨rfl, rfl⟩, ?_, ?_⟩ e2 hs2 it
  · rintro i d acc O3 hd hal ⟨rfl, rfl⟩
    rw [List.getElem?_map] at hd
    cases hx : xs[i]? with
    | none => rw [hx] at hd; cases hd
    | some x =>
      rw [hx] at hd
      cases hd
      intro F1 v σ1 B1 H1 e1 hs1 r1 Q1 q1
      refine step x (List.mem_of_getElem? hx) F1 v σ1 B1 H1 e1 hs1 r1 Q1 fun σ' ρ' O4 B3 H3 p3 => ?_
      refine q1 σ' ρ' _ B3 H3 (t_yes ⟨fun _ => p3.mono fun y O5 z => ?_, fun z => nomatch z⟩)
      obtain ⟨rfl, rfl⟩ := z
      refine ⟨?_, rfl⟩
      rw [List.take_succ, List.getElem?_map, hx]
      rfl
  · rintro acc O3 ⟨rfl, rfl⟩
    rw [List.length_map, List.take_of_length_le (by rw [List.length_map]; exact Nat.le_refl _)]
    exact fin
variable {O2 : Store} {a b : D} {l : List D} {x : Addr}
/-- items of an owned list that stands first -/
theorem r_o0 (p : P a ((x, .lst (a :: l)) :: O)) : wR K (rIxL K) (.loc x) (.int 0) ((x, .lst (a :: l)) :: O) P := r_ixO List.mem_cons_self (atI_nat' (by decide) (by simp only [List.length_cons]; omega)) p
theorem r_o1 (p : P b ((x, .lst (a :: b :: l)) :: O)) : wR K (rIxL K) (.loc x) (.int 1) ((x, .lst (a :: b :: l)) :: O) P := r_ixO List.mem_cons_self (atI_nat' (by decide) (by simp only [List.length_cons]; omega)) p
/-- xs[1] = e of such a list -/
theorem st_o1 {Q : Store → Prop} {y : D} (p : Q ((x, .lst (a :: y :: l)) :: O)) : ∃ a' i ds n O4, D.loc x = .loc a' ∧ D.int 1 = .int i ∧ ixN ds.length i = some n ∧ Put a' (.lst ds) (.lst (ds.set n y)) ((x, Own.lst (a :: b :: l)) :: O) O4 ∧ Q O4 :=
  ⟨x, 1, a :: b :: l, 1, _, rfl, rfl, (by
    unfold ixN
    rw [if_pos (by decide), if_pos (by simp only [List.length_cons]; omega)]
    rfl), .here, p⟩
theorem r_neV {C : Addr} {v u : V3} {m n : Nat} (hv : bitsV v m) (hu : bitsV u n) (hm : max m n + max m n ≤ 8900) (p : P (.bl (!decide (v = u))) O) : wR K (rNeB (BTup K (BQ K C))) (dV C v) (dV C u) O P := by
  have hv' := bitsV_mono hv (Nat.le_max_left m n)
  have hu' := bitsV_mono hu (Nat.le_max_right m n)
  have mem : ∀ {v : V3}, bitsV v (max m n) → ∀ q ∈ [v.x, v.y, v.z], bits q (max m n) := fun h q hq => by
    obtain ⟨h1, h2, h3⟩ := h
    simp at hq
    rcases hq with rfl | rfl | rfl <;> assumption
  refine r_neTB (xs := [v.x, v.y, v.z]) (ys := [u.x, u.y, u.z]) rfl (mem hv') (mem hu') hm ?_
  have e : decide ([v.x, v.y, v.z] = [u.x, u.y, u.z]) = decide (v = u) := by
    rw [Bool.eq_iff_iff, decide_eq_true_iff, decide_eq_true_iff]
    constructor
    · intro h
      simp at h
      exact V3.ext' h.1 h.2.1 h.2.2
    · rintro rfl
      rfl
  rw [e]
  exact p
theorem r_eqV {C : Addr} {v u : V3} {m n : Nat} (hv : bitsV v m) (hu : bitsV u n) (hm : max m n + max m n ≤ 8900) (p : P (.bl (decide (v = u))) O) : wR K (rEqB (BTup K (BQ K C))) (dV C v) (dV C u) O P := by
  have hv' := bitsV_mono hv (Nat.le_max_left m n)
  have hu' := bitsV_mono hu (Nat.le_max_right m n)
  have mem : ∀ {v : V3}, bitsV v (max m n) → ∀ q ∈ [v.x, v.y, v.z], bits q (max m n) := fun h q hq => by
    obtain ⟨h1, h2, h3⟩ := h
    simp at hq
    rcases hq with rfl | rfl | rfl <;> assumption
  refine r_eqTB (xs := [v.x, v.y, v.z]) (ys := [u.x, u.y, u.z]) rfl (mem hv') (mem hu') hm ?_
  have e : decide ([v.x, v.y, v.z] = [u.x, u.y, u.z]) = decide (v = u) := by
    rw [Bool.eq_iff_iff, decide_eq_true_iff, decide_eq_true_iff]
    constructor
    · intro h
      simp at h
      exact V3.ext' h.1 h.2.1 h.2.2
    · rintro rfl
      rfl
  rw [e]
  exact p
end
/-! mixtures of any length -/
theorem mixP_zip (vs : List V3) (qs : List Rat) : mixP (vs.zip qs) = mixV vs qs := by
  unfold mixP mixV sumV
  have : ∀ (vs : List V3) (qs : List Rat) (a : V3), (vs.zip qs).foldl (fun v c => addV v (mulV c.2 c.1)) a = (List.zipWith (fun v q => mulV q v) vs qs).foldl addV a := by
    intro vs
    induction vs with
    | nil => intro qs a; simp
    | cons v vs ih =>
      intro qs a
      cases qs with
      | nil => simp
      | cons q qs => simp only [List.zip_cons_cons, List.zipWith_cons_cons, List.foldl_cons]; exact ih qs _
  exact this vs qs zV
theorem addV_comm (a b : V3) : addV a b = addV b a := by
  apply V3.ext' <;> simp only [addV] <;> grind
theorem addV_assoc (a b c : V3) : addV (addV a b) c = addV a (addV b c) := by
  apply V3.ext' <;> simp only [addV] <;> grind
theorem addV_zV (a : V3) : addV a zV = a := by
  apply V3.ext' <;> simp only [addV, zV] <;> grind
theorem foldl_addV (vs : List V3) : ∀ a, vs.foldl addV a = addV a (sumV vs) := by
  unfold sumV
  induction vs with
  | nil => intro a; exact (addV_zV a).symm
  | cons v vs ih =>
    intro a
    rw [List.foldl_cons, List.foldl_cons, ih, ih (addV zV v), zero_addV, addV_assoc]
theorem sumV_cons (v : V3) (vs : List V3) : sumV (v :: vs) = addV v (sumV vs) := by
  show (v :: vs).foldl addV zV = _
  rw [List.foldl_cons, foldl_addV, zero_addV]
theorem sumV_append (vs us : List V3) : sumV (vs ++ us) = addV (sumV vs) (sumV us) := by
  show (vs ++ us).foldl addV zV = _
  rw [List.foldl_append, foldl_addV us]
  rfl
theorem sumV_reverse (vs : List V3) : sumV vs.reverse = sumV vs := by
  induction vs with
  | nil => rfl
  | cons v vs ih =>
    rw [List.reverse_cons, sumV_append, ih, sumV_cons, addV_comm, sumV_cons]
    congr 1
    exact addV_zV v
theorem mixV_reverse {vs : List V3} {qs : List Rat} (h : vs.length = qs.length) : mixV vs.reverse qs.reverse = mixV vs qs := by
  unfold mixV
  rw [← List.reverse_zipWith h, sumV_reverse]
def toldX (C : Addr) (vs : List V3) (qs : List Rat) : D := if vs.length = qs.length then dV C (mixV vs qs) else refD
def W_toldMix (C : Addr) (ds : List D) (P : D → Prop) : Prop := ∃ (vs : List V3) (qs : List Rat) (m n : Nat), ds = [.tup (vs.map (dV C)), .tup (qs.map (dQ C))] ∧ vs.length ≤ 1000 ∧ qs.length ≤ 1000 ∧ (∀ v ∈ vs, bitsV v m) ∧ (∀ q ∈ qs, bits q n) ∧ (m + n + 1) * (vs.length + 1) ≤ 8000 ∧ P (toldX C vs qs)
theorem bitsV_mixV {vs : List V3} {qs : List Rat} {m n : Nat} (hv : ∀ v ∈ vs, bitsV v m) (hq : ∀ q ∈ qs, bits q n) : bitsV (mixV vs qs) ((m + n + 1) * (min vs.length qs.length) + 1) := by
  have := bitsV_sum (m := m + n) (List.zipWith (fun v q => mulV q v) vs qs) (List.zipWith (fun v q => mulV q v) vs qs).length (fun v hv' => by
    obtain ⟨i, hi⟩ := List.getElem?_of_mem hv'
    obtain ⟨x, y, hx, hy, rfl⟩ := zipW_get hi
    rw [Nat.add_comm]
    exact bitsV_mul (hq y (List.mem_of_getElem? hy)) (hv x (List.mem_of_getElem? hx))) (Nat.le_refl _)
  rw [List.take_length, List.length_zipWith] at this
  exact this
theorem k_mixedN {P : D → Prop} {vs : List V3} {qs : List Rat} (h : vs.length = qs.length) (h7 : vs.length ≤ 7) (hv : ∀ v ∈ vs, bnV v 10 4) (hq : ∀ q ∈ qs, bn q 10 4) (p : P (lV (mixV vs qs))) : W_mixed [.lst (vs.map lV), .lst (qs.map dP)] P := by
  have e1 : (vs.zip qs).map (fun c => lV c.1) = vs.map lV := by
    rw [show (fun c : V3 × Rat => lV c.1) = lV ∘ Prod.fst from rfl, ← List.map_map, List.map_fst_zip (by omega)]
  have e2 : (vs.zip qs).map (fun c => dP c.2) = qs.map dP := by
    rw [show (fun c : V3 × Rat => dP c.2) = dP ∘ Prod.snd from rfl, ← List.map_map, List.map_snd_zip (by omega)]
  have hl : (vs.zip qs).length ≤ 7 := by rw [List.length_zip]; omega
  refine ⟨vs.zip qs, 10, 4, 10, 4, by rw [e1, e2], by omega, ?_, by decide, by decide, ?_, by decide, by rw [mixP_zip]; exact p⟩
  · intro c hc
    obtain ⟨c1, c2⟩ := c
    have := List.of_mem_zip hc
    exact ⟨hv _ this.1, hq _ this.2⟩
  · have : (vs.zip qs).length * (4 + 4) ≤ 7 * 8 := Nat.mul_le_mul_right _ hl
    omega
theorem bnV_mixN {vs : List V3} {qs : List Rat} (h : vs.length = qs.length) (h7 : vs.length ≤ 7) (hv : ∀ v ∈ vs, bnV v 10 4) (hq : ∀ q ∈ qs, bn q 10 4) : bnV (mixV vs qs) 100 100 := by
  rw [← mixP_zip]
  have hc : ∀ c ∈ vs.zip qs, bnV c.1 10 4 ∧ bn c.2 10 4 := by
    rintro ⟨c1, c2⟩ hc
    have := List.of_mem_zip hc
    exact ⟨hv _ this.1, hq _ this.2⟩
  have hl : (vs.zip qs).length ≤ 7 := by rw [List.length_zip]; omega
  cases hn : (vs.zip qs).length with
  | zero =>
    rw [List.length_eq_zero_iff.mp hn]
    exact ⟨⟨by decide, by decide⟩, ⟨by decide, by decide⟩, ⟨by decide, by decide⟩⟩
  | succ i =>
    obtain ⟨b1, b2, b3⟩ := bn_mixP hc i (by omega)
    rw [← hn, List.take_length] at b1 b2 b3
    exact ⟨bn_mono b1 (by omega) (by omega), bn_mono b2 (by omega) (by omega), bn_mono b3 (by omega) (by omega)⟩
/-! a loop whose turns may leave more behind -/
def dropI (I : Rho → Store → Prop) (ρ : Rho) (O : Store) : Prop := ∃ R O', O = R ++ O' ∧ I ρ O'
section
variable {K : PySem.W.Frag} {ρ : Rho} {O : Store} {PS : Out → Store → Prop} {ts tb : TS} {wi : TI} {g : TG} {q : Addr × Own}
theorem wS.drop (h : wS K ts ρ O fun o O1 => ∃ R O', O1 = R ++ O' ∧ PS o O') : wS K ts ρ O PS := fun F σ B H e hs Dn z => h F σ B H e hs Dn fun o O1 B2 H2 p e2 hs2 => by
  obtain ⟨R, O', rfl, p⟩ := p
  rw [List.append_assoc] at hs2
  exact z o O' B2 H2 p e2 hs2.dropL
theorem s_forget (h : wS K ts ρ O PS) : wS K ts ρ (q :: O) PS := fun F σ B H e hs Dn z => h F σ B H e hs.tail Dn z
theorem s_forD (I : Rho → Store → Prop) (h : wI K wi ρ O fun ds O1 => I ρ O1 ∧ (∀ d ρ' O', d ∈ ds → I ρ' O' → wG K g d ρ' O' fun ρ2 O2 => wS K tb ρ2 O2 (loopI (dropI I) PS)) ∧ ∀ ρ' O', I ρ' O' → PS (.nx ρ') O') : wS K (tFor wi g tb) ρ O PS := by
  refine s_forI I fun F σ B H e hs R q => h F σ B H e hs R fun J ds O' B2 H2 p e2 hs2 it => ?_
  obtain ⟨h0, hstep, hend⟩ := p
  refine q J ds O' B2 H2 ⟨h0, fun d ρ' O' hd hI F1 v σ1 B1 H1 e1 hs1 r1 Q1 q1 => hstep d ρ' O' hd hI F1 v σ1 B1 H1 e1 hs1 r1 Q1 fun σ' ρ2 O4 B3 H3 p3 => q1 σ' ρ2 O4 B3 H3 (wS.drop (p3.mono fun o O5 z => ?_)), hend⟩ e2 hs2 it
  cases o with
  | nx ρ => obtain ⟨R, O6, e, z⟩ := z; exact ⟨R, O6, e, z⟩
  | ct ρ => obtain ⟨R, O6, e, z⟩ := z; exact ⟨R, O6, e, z⟩
  | bk ρ => exact ⟨[], _, rfl, z⟩
  | ret d => exact ⟨[], _, rfl, z⟩
end
end G
/-! enumerate of a tuple. -/
namespace G
open PySem L2 PySem.Spec PyProof.Rows
abbrev tupIt (l : Addr) : Obj := { cls := .type "tuple_iterator", data := .fields #[.ref l, .int 0 0] }
abbrev enumAt (it : Addr) : Obj := { cls := .type "enumerate", data := .fields #[.none, .bool false, .ref it, rawInt 0, .none, .none] }
theorem newEnumT (l : Addr) (items : Array Value) :
    Meets (Builtin.«enumerate.__new__» ⟨[.type "enumerate", .ref l], []⟩) (fun _ R s => IsTup s.heap l items ∧
      R (.ok (.ret (.ref (s.heap.push (tupIt l)).objs.size))) { s with heap := (s.heap.push (tupIt l)).push (enumAt s.heap.objs.size) }) :=
  .of_wp fun pr ww AA R s hh => by
    obtain ⟨hp, gg, dr, tk, os⟩ := s
    obtain ⟨ht, fin⟩ := hh
    have f1 := sub_enumerate
    have mk : ∀ {A2 : Around} {E2 Q2 : Value → Shared → Prop}, Q2 (.ref hp.objs.size) ⟨hp.push (tupIt l), gg, dr, tk, os⟩ → wpAny (model pr ww) A2 (pyIter (.ref l)) Q2 E2 ⟨hp, gg, dr, tk, os⟩ :=
      fun z => wpAny_pyIter_tuple (s := ⟨hp, gg, dr, tk, os⟩) (show Heap.IsTuple hp l items from ht) z
    wp_walk using mk
    refine wpAny_stack_any fun _ => wpAny_pure ?_
    split
    · rename_i c _ _ _ _ _
      cases (c == Value.type "enumerate")
      all_goals
        wp_walk using mk
        exact ⟨_, rfl, fin⟩
    · wp_walk using mk
      exact ⟨_, rfl, fin⟩
section
variable {prog : Program} {w : World} {A : Around} {E : Value → Shared → Prop} {s : Shared}
theorem callEnumT {l : Addr} {items : Array Value} {Q : Value → Shared → Prop} (ht : IsTup s.heap l items)
    (fin : ∀ h2, IsEnum h2 (s.heap.objs.size + 1) s.heap.objs.size 0 .none → h2.IsTupleIter s.heap.objs.size l 0 → (∀ b o, s.heap.get? b = some o → h2.get? b = some o) → Q (.ref (s.heap.objs.size + 1)) { s with heap := h2 }) :
    wpAny (model prog w) A (call (.type "enumerate") [.ref l]) Q E s := by
  refine callType_new F.called_enumerate (by decide) (F.typeCall_enumerate_1 _) (F.newCall_enumerate_1 _) (fun ob => F.args_object_init_2 ob _) F.entry_enumerate_new (newEnumT l items) ⟨ht, ?_⟩
  have size1 : (s.heap.push (tupIt l)).objs.size = s.heap.objs.size + 1 := Heap.size_push ..
  have made : ((s.heap.push (tupIt l)).push (enumAt s.heap.objs.size)).get? (s.heap.objs.size + 1) = some (enumAt s.heap.objs.size) := by
    rw [← size1]
    exact Heap.get?_push_size (s.heap.push (tupIt l)) (o := enumAt s.heap.objs.size) rfl
  show _ ∧ _
  rw [size1]
  refine ⟨⟨_, made, rfl⟩, fin _ made ⟨_, Heap.get?_push_of_some _ (Heap.get?_push_size (s.heap) (o := tupIt l) rfl), rfl, rfl⟩ fun b o z => ?_⟩
  exact Heap.get?_push_of_some _ (Heap.get?_push_of_some _ z)
end
/-- the tuple at a as it stands at each turn, its items numbered -/
def IteT (K : PySem.W.Frag) (a : Addr) : It where
  go := fun i H => ∃ (xs : List V) (x : V), SqT K H a xs ∧ xs[i]? = some x
  yld := fun i H v H' => ∃ T x, v = .ref T ∧ H T = none ∧ H' = upd H T (.tup [.int (i : Nat), x]) ∧ ∀ xs, SqT K H a xs → xs[i]? = some x
  stop := fun i H => ∃ xs : List V, SqT K H a xs ∧ xs.length ≤ i
theorem turnEnumT {P : Program} {w : World} {K : PySem.W.Frag} {elts : List Expr} {kk : Nat} {tpos : Pos} (a e it : Addr) (ne1 : e ≠ it) (ne2 : a ≠ it) (ne3 : e ≠ a) :
    Turn P w K (.Tuple elts kk tpos) (IteT K a) [e, it] e (fun i h => (∃ old, IsEnum h e it ((i : Nat) : Int) old) ∧ h.IsTupleIter it a i) where
  mem := List.mem_cons_self
  obj := by
    rintro i h ⟨⟨old, he⟩, o, ho, hc, hd⟩ b hb
    rcases List.mem_cons.mp hb with rfl | hb
    · exact ⟨_, he, by intro v q; cases q⟩
    · rw [List.mem_singleton.mp hb]
      exact ⟨o, ho, by intro v q; rw [hd] at q; cases q⟩
  keep := by
    rintro i h h2 ⟨⟨old, he⟩, hi⟩ k
    exact ⟨⟨old, k e List.mem_cons_self _ he⟩, hi.at fun o q => k it (by simp) o q⟩
  item := by
    intro X eP eW eK calm i pins s σ H E I hf st hg
    subst eP eW eK
    obtain ⟨⟨old, he⟩, hit⟩ := st
    obtain ⟨xs, x, hq, hx⟩ := hg
    obtain ⟨its, rv, p, _⟩ := I.tuple hq
    obtain ⟨u, hu, ru⟩ := rv.get hx
    have eLt : e < s.heap.objs.size := Heap.lt_size he
    have iLt : it < s.heap.objs.size := by
      obtain ⟨o, q, _⟩ := hit
      exact Heap.lt_size q
    have dr := Draws.tuple (prog := X.prog) (w := X.w) (A := X.A.in1) (by exact I.ok.hd calm) it a ne2 its.toArray
    have small : i < its.toArray.size := by
      have := (List.getElem?_eq_some_iff.mp hu).1
      simpa using this
    refine wpAny_pyNext_enum_itemD dr he ⟨hit, p⟩ small ne1 (by simp [ne1, ne3]) fun x2 h2 tk hP ho hst hT hsz hk => ?_
    have ex : x2 = u := by
      have h3 : its[i]? = some x2 := by simpa using hP
      rw [hu] at h3
      exact (Option.some.inj h3).symm
    subst ex
    refine ⟨_, rfl, wpAny_letOwnedTupleGo_enum (s := { s with heap := h2, toks := tk + 1 }) ho fun h3 he3 sb => ?_⟩
    have tupAt : h3.get? s.heap.objs.size = some { cls := .type "tuple", data := .seq #[.int i tk, x2] } := (sb.2 _ (Nat.ne_of_gt eLt)).trans hT
    have kept : ∀ b o, b ∉ [e, it] → s.heap.get? b = some o → h3.get? b = some o := fun b o hb q => by
      rw [sb.2 b (fun z => hb (by simp [z]))]
      exact hk b o (fun z => hb (by simp [z])) (fun z => hb (by simp [z])) q
    have I1 : Inv X pins σ (upd H s.heap.objs.size (.tup [.int (i : Nat), x])) { s with heap := h3, toks := tk + 1 } :=
      I.turnedNew kept hf (Nat.le_refl _) ⟨(by show 2 ≤ sizeLine; decide), [.int i tk, x2], .cons ⟨_, rfl⟩ (.cons ru .nil), ⟨_, tupAt, rfl, _, rfl⟩⟩
    have same : ∀ ys, SqT X.K H a ys → ys[i]? = some x := fun ys hy => by
      rw [I.tuple_inj hy hq]
      exact hx
    refine ⟨.ref s.heap.objs.size, _, I1, rfl, ⟨_, x, rfl, I.hok.fresh (Nat.le_refl _), rfl, same⟩, ⟨⟨x2, ?_⟩, hst.1.at fun o q => (sb.2 it (Ne.symm ne1)).trans q⟩, fun b hb => ?_⟩
    · rw [show ((i + 1 : Nat) : Int) = (i : Int) + 1 by omega]
      exact he3
    · have bLt : b < s.heap.objs.size := by
        rcases List.mem_cons.mp hb with rfl | hb
        · exact eLt
        · rw [List.mem_singleton.mp hb]
          exact iLt
      rw [upd_ne (Nat.ne_of_lt bLt)]
      exact (hf b hb).1
  done := by
    intro X eP eW eK calm i pins s σ H E I hf st hg
    subst eP eW eK
    obtain ⟨⟨old, he⟩, hit⟩ := st
    obtain ⟨xs, hq, hx⟩ := hg
    obtain ⟨its, rv, p, _⟩ := I.tuple hq
    have len := rv.length
    obtain ⟨f0, f1, f2, f3, f4, f5⟩ := hf it (by simp)
    have dr : Draws X.prog X.w X.A.in1 it [it, a] i (fun _ _ => True) (fun j h => j = i ∧ h.IsTupleIter it a i ∧ h.IsTuple a its.toArray) := {
      live := fun _ _ st => by
        obtain ⟨_, ⟨o, ho, _⟩, _⟩ := st
        exact ⟨o, ho⟩
      frame := fun _ _ _ st k => ⟨st.1, st.2.1.at fun o z => k it (by simp) o z, st.2.2.at fun o z => k a (by simp) o z⟩
      item := fun j s Q E hj st _ => by
        obtain ⟨rfl, _⟩ := st
        exact absurd hj (Nat.lt_irrefl _)
      done := fun s Q E st fin => wpAny_nextOf_tuple_end (by exact I.ok.hd calm) st.2.1 st.2.2 (by simp; omega) fin }
    exact wpAny_pyNext_enum_endD dr he ⟨rfl, hit, p⟩ fun h2 eb => ⟨rfl, I.turned (t' := s.toks) (fun b o hb q => eb b o hb q) f0 f1 f3 f4 f5⟩
  self := fun A2 i s2 Q E st fin => by
    obtain ⟨⟨_, he⟩, _⟩ := st
    exact wpAny_pyIter_enum he fin
def iEnumT (K : PySem.W.Frag) (ta : TA) : TI := fun σ H R => ta σ H fun vs H1 => ∃ a xs, vs = [.ref a] ∧ SqT K H1 a xs ∧ R (IteT K a) H1
theorem pi_enumT {X : Cx} {e : Expr} {ta : TA} {p pos tpos : Pos} {elts : List Expr} {kk : Nat} (hg : Gl X "enumerate") (hm : X.mg "enumerate" = none) (ha : PA X [e] ta) (hs : starEach [e] X.env = [(false, eval e X.env)] := by rfl) :
    PI X (.Tuple elts kk tpos) (.Call (.Name "enumerate" p) [e] [] pos) (iEnumT X.K ta) := ⟨fun pins s σ H R I h => by
  refine Call_ (ld_blt I hg hm boot_enumerate (PyProof.Rows.callWith_type1 (thn (ha.run pos pins s σ H _ I h) ?_) hs rfl))
  rintro us s1 ⟨vs, H1, I1, r1, a, xs, rfl, hq, q⟩
  cases r1 with
  | cons r rr =>
    cases rr
    cases r
    obtain ⟨its, rv, tp, _⟩ := I1.tuple hq
    have aLt : a < s1.heap.objs.size := by
      obtain ⟨o, ho, _⟩ := tp
      exact Heap.lt_size ho
    refine callEnumT tp fun h2 he hit hk => wpAny_pyIter_enum he ?_
    have I2 : Inv X pins σ H1 { s1 with heap := h2 } := I1.kept (t' := s1.toks) hk
    refine ⟨s1.heap.objs.size + 1, [s1.heap.objs.size + 1, s1.heap.objs.size], _, _, H1, rfl, I2, turnEnumT a (s1.heap.objs.size + 1) s1.heap.objs.size (Nat.succ_ne_self _) (Nat.ne_of_lt aLt) (Nat.ne_of_gt (Nat.lt_succ_of_lt aLt)), ⟨⟨.none, he⟩, hit⟩, fun b hb => ?_, q⟩
    have low : s1.heap.objs.size ≤ b := by
      rcases List.mem_cons.mp hb with rfl | hb
      · exact Nat.le_succ _
      · rw [List.mem_singleton.mp hb]
        exact Nat.le_refl _
    exact I1.fpOk low (I1.hok.fresh low)⟩
def enumD : Nat → List D → List D
  | _, [] => []
  | k, d :: ds => .tup [.int (k : Int), d] :: enumD (k + 1) ds
theorem enumD_len : ∀ (k : Nat) (ds : List D), (enumD k ds).length = ds.length
  | _, [] => rfl
  | k, d :: ds => by rw [enumD, List.length_cons, List.length_cons, enumD_len]
theorem enumD_get : ∀ (k : Nat) (ds : List D) (i : Nat), (enumD k ds)[i]? = (ds[i]?).map fun d => .tup [.int ((k + i : Nat) : Int), d]
  | _, [], i => by simp [enumD]
  | k, d :: ds, 0 => by simp [enumD]
  | k, d :: ds, i + 1 => by
    have := enumD_get (k + 1) ds i
    rw [show k + 1 + i = k + (i + 1) by omega] at this
    simpa [enumD] using this
theorem itOk_enumT {K : PySem.W.Frag} {B : Hp} {a : Addr} {xs : List V} {ds : List D} (h : SqT K B a xs) (r : Reps K B xs ds) : ItOk K B (IteT K a) (enumD 0 ds) := fun B' H' O e hs i => by
  have h' : SqT K H' a xs := Evl.ex_t hs.ex (Evl.ex_t e h)
  refine ⟨fun d hd => ?_, fun hd => ⟨xs, h', by
    have := List.getElem?_eq_none_iff.mp hd
    rw [enumD_len] at this
    rw [r.length]
    exact this⟩⟩
  rw [enumD_get, Nat.zero_add] at hd
  cases hx : ds[i]? with
  | none => rw [hx] at hd; cases hd
  | some d0 =>
    rw [hx] at hd
    cases hd
    obtain ⟨v, hv, rv⟩ := r.get hx
    refine ⟨⟨xs, v, h', hv⟩, ?_⟩
    rintro x H2 ⟨T, v2, rfl, hT, rfl, q⟩
    have e1 := q xs h'
    rw [hv] at e1
    cases e1
    obtain ⟨hs2, ex2⟩ := hs.new (o := .tup [.int (i : Nat), v]) hT
    exact ⟨_, ex2, hs2, .tup (Evl.st_of upd_same) (.cons (.raw _) (.cons ((rv.mono e).mono ex2) .nil))⟩
theorem i_enumT {K : PySem.W.Frag} {ρ : Rho} {O : Store} {ta : TA} {P : List D → Store → Prop} (h : wA K ta ρ O fun ds O1 => ∃ xs, ds = [.tup xs] ∧ P (enumD 0 xs) O1) : wI K (iEnumT K ta) ρ O P := fun F σ B H e hs R q =>
  h F σ B H e hs _ fun vs ds O1 B1 H1 p1 e1 hs1 r => by
    obtain ⟨xs, rfl, p⟩ := p1
    cases r with
    | cons r1 r =>
      cases r
      cases r1 with
      | tup ha ra => exact ⟨_, _, rfl, Evl.ex_t hs1.ex ha, q _ _ O1 B1 H1 p e1 hs1 (itOk_enumT ha ra)⟩
end G
/-! Palettes: sizes by a common bottom, distances, the nearest color, errors handed on. -/
namespace G
open PySem L2 PySem.Spec PyProof.Rows
/-- x is a fraction over N, at most M in size -/
def rg (x : Rat) (N M : Nat) : Prop := x.den ∣ N ∧ x.num.natAbs ≤ M * x.den
theorem rg_of {t : Int} {b N M : Nat} (hb : b ∣ N) (hN : 0 < N) (h : t.natAbs ≤ M * b) : rg (Rat.divInt t b) N M := by
  have b0 : b ≠ 0 := fun z => by rw [z] at hb; have := Nat.eq_zero_of_zero_dvd hb; omega
  have b1 : (b : Int) ≠ 0 := by omega
  have key : ((Rat.divInt t b).num.natAbs) * b = t.natAbs * (Rat.divInt t b).den := by
    have e : (Rat.divInt t b).num * (b : Int) = t * ((Rat.divInt t b).den : Int) := by
      have h1 := Rat.num_divInt_den (Rat.divInt t b)
      exact (Rat.divInt_eq_divInt_iff (den_ne _) b1).mp h1
    have := congrArg Int.natAbs e
    rw [Int.natAbs_mul, Int.natAbs_mul] at this
    simpa using this
  have dv : (Rat.divInt t b).den ∣ b := by
    rw [Rat.den_divInt, if_neg b1]
    simp only [Int.natAbs_natCast]
    exact Nat.div_dvd_of_dvd (by
      have := Int.gcd_dvd_left (a := (b : Int)) (b := t)
      exact Int.natCast_dvd_natCast.mp this)
  refine ⟨Nat.dvd_trans dv hb, ?_⟩
  have h2 : (Rat.divInt t b).num.natAbs * b ≤ M * (Rat.divInt t b).den * b := by
    rw [key, Nat.mul_right_comm]
    exact Nat.mul_le_mul_right _ h
  exact Nat.le_of_mul_le_mul_right h2 (by omega)
theorem rg_den {x : Rat} {N M : Nat} (hN : 0 < N) (h : rg x N M) : x.den ≤ N := Nat.le_of_dvd hN h.1
theorem rg_num {x : Rat} {N M : Nat} (hN : 0 < N) (h : rg x N M) : x.num.natAbs ≤ M * N := Nat.le_trans h.2 (Nat.mul_le_mul_left _ (rg_den hN h))
theorem rg_mono {x : Rat} {N M M' : Nat} (h : rg x N M) (k : M ≤ M') : rg x N M' := ⟨h.1, Nat.le_trans h.2 (Nat.mul_le_mul_right _ k)⟩
theorem rg_zero {N : Nat} : rg 0 N 0 := ⟨Nat.one_dvd _, by decide⟩
/-- over the common bottom -/
theorem rg_as {x : Rat} {N M : Nat} (hN : 0 < N) (h : rg x N M) : ∃ t : Int, x = Rat.divInt t N ∧ t.natAbs ≤ M * N := by
  obtain ⟨k, hk⟩ := h.1
  have d0 := x.den_nz
  have k0 : k ≠ 0 := fun z => by rw [z] at hk; omega
  refine ⟨x.num * (k : Int), ?_, ?_⟩
  · have e := Rat.num_divInt_den x
    conv => lhs; rw [← e]
    rw [Rat.divInt_eq_divInt_iff (den_ne x) (by omega), hk]
    rw [Int.natCast_mul, Int.mul_assoc, Int.mul_comm (k : Int)]
  · rw [Int.natAbs_mul, hk]
    have := Nat.mul_le_mul_right k h.2
    simp only [Int.natAbs_natCast]
    rw [← Nat.mul_assoc]
    exact this
theorem rg_add {x y : Rat} {N M M' : Nat} (hN : 0 < N) (h : rg x N M) (k : rg y N M') : rg (x + y) N (M + M') := by
  obtain ⟨t, rfl, ht⟩ := rg_as hN h
  obtain ⟨u, rfl, hu⟩ := rg_as hN k
  rw [add_divI (by omega)]
  refine rg_of (Nat.dvd_refl _) hN ?_
  rw [Nat.add_mul]
  have := Int.natAbs_add_le t u
  omega
theorem rg_sub {x y : Rat} {N M M' : Nat} (hN : 0 < N) (h : rg x N M) (k : rg y N M') : rg (x - y) N (M + M') := by
  obtain ⟨t, rfl, ht⟩ := rg_as hN h
  obtain ⟨u, rfl, hu⟩ := rg_as hN k
  rw [sub_divI (by omega)]
  refine rg_of (Nat.dvd_refl _) hN ?_
  rw [Nat.add_mul]
  have := Int.natAbs_sub_le t u
  omega
theorem rg_mul {x y : Rat} {N M N' M' : Nat} (hN : 0 < N) (hN' : 0 < N') (h : rg x N M) (k : rg y N' M') : rg (x * y) (N * N') (M * M') := by
  obtain ⟨t, rfl, ht⟩ := rg_as hN h
  obtain ⟨u, rfl, hu⟩ := rg_as hN' k
  rw [Rat.divInt_mul_divInt, ← Int.natCast_mul]
  refine rg_of (Nat.dvd_refl _) (Nat.mul_pos hN hN') ?_
  rw [Int.natAbs_mul]
  have e := Nat.mul_le_mul ht hu
  have e2 : M * N * (M' * N') = M * M' * (N * N') := by
    rw [Nat.mul_assoc, Nat.mul_assoc, Nat.mul_left_comm N]
  omega
theorem rg_bn {x : Rat} {N M m n : Nat} (hN : 0 < N) (h : rg x N M) (h1 : M * N < 2 ^ m) (h2 : N < 2 ^ n) : bn x m n := ⟨Nat.lt_of_le_of_lt (rg_num hN h) h1, Nat.lt_of_le_of_lt (rg_den hN h) h2⟩
abbrev NN : Nat := 27720
def rgV (v : V3) (M : Nat) : Prop := rg v.x NN M ∧ rg v.y NN M ∧ rg v.z NN M
theorem rgV_mono {v : V3} {M M' : Nat} (h : rgV v M) (k : M ≤ M') : rgV v M' := ⟨rg_mono h.1 k, rg_mono h.2.1 k, rg_mono h.2.2 k⟩
theorem rgV_add {a b : V3} {M M' : Nat} (h : rgV a M) (k : rgV b M') : rgV (addV a b) (M + M') := ⟨rg_add (by decide) h.1 k.1, rg_add (by decide) h.2.1 k.2.1, rg_add (by decide) h.2.2 k.2.2⟩
theorem rgV_sub {a b : V3} {M M' : Nat} (h : rgV a M) (k : rgV b M') : rgV (subV a b) (M + M') := ⟨rg_sub (by decide) h.1 k.1, rg_sub (by decide) h.2.1 k.2.1, rg_sub (by decide) h.2.2 k.2.2⟩
theorem rgV_zero {M : Nat} : rgV zV M := ⟨rg_mono rg_zero (Nat.zero_le _), rg_mono rg_zero (Nat.zero_le _), rg_mono rg_zero (Nat.zero_le _)⟩
theorem rg_bn40 {x : Rat} {M : Nat} (h : rg x NN M) (hM : M ≤ 1000000) : bn x 40 15 := rg_bn (by decide) h (by
  have : M * NN ≤ 1000000 * NN := Nat.mul_le_mul_right _ hM
  exact Nat.lt_of_le_of_lt this (by decide)) (by decide)
theorem rgV_bn {v : V3} {M : Nat} (h : rgV v M) (hM : M ≤ 1000000) : bnV v 40 15 := ⟨rg_bn40 h.1 hM, rg_bn40 h.2.1 hM, rg_bn40 h.2.2 hM⟩
theorem rgV_bits {v : V3} {M : Nat} (h : rgV v M) (hM : M ≤ 1000000) : bitsV v 40 := bitsV_mono (bitsV_bn (rgV_bn h hM)) (by decide)
/-- a drawn quotient -/
theorem rg_drawn {t b : Int} (h1 : 1 ≤ b) (h2 : b ≤ 12) (ht : t.natAbs < 2 ^ 10) : rg (Rat.divInt t b) NN 1024 := by
  have e : b = (b.toNat : Int) := by omega
  rw [e]
  refine rg_of ?_ (by decide) ?_
  · have : b.toNat = 1 ∨ b.toNat = 2 ∨ b.toNat = 3 ∨ b.toNat = 4 ∨ b.toNat = 5 ∨ b.toNat = 6 ∨ b.toNat = 7 ∨ b.toNat = 8 ∨ b.toNat = 9 ∨ b.toNat = 10 ∨ b.toNat = 11 ∨ b.toNat = 12 := by omega
    rcases this with h | h | h | h | h | h | h | h | h | h | h | h <;> rw [h] <;> decide
  · have : 1024 * 1 ≤ 1024 * b.toNat := Nat.mul_le_mul_left _ (by omega)
    omega
theorem neg_of (x : Rat) : 0 - x = -x := by grind
theorem bn_neg0 {x : Rat} {m n : Nat} (h : bn x m n) : bn (0 - x) m n := by
  rw [neg_of]
  unfold bn
  rw [Rat.neg_num, Rat.neg_den, Int.natAbs_neg]
  exact h
theorem rg_neg0 {x : Rat} {N M : Nat} (h : rg x N M) : rg (0 - x) N M := by
  rw [neg_of]
  unfold rg
  rw [Rat.neg_num, Rat.neg_den, Int.natAbs_neg]
  exact h
/-! distances -/
def distV (a b : V3) : Rat := 0 + (a.x - b.x) * (a.x - b.x) + (a.y - b.y) * (a.y - b.y) + (a.z - b.z) * (a.z - b.z)
theorem sq_nn (x : Rat) : 0 ≤ x * x := by
  rcases Rat.le_total (a := 0) (b := x) with h | h
  · exact Rat.mul_nonneg h h
  · have e : x * x = (-x) * (-x) := by grind
    rw [e]
    have : 0 ≤ -x := by grind
    exact Rat.mul_nonneg this this
theorem dist_nn (a b : V3) : 0 ≤ distV a b := by
  have h1 := sq_nn (a.x - b.x)
  have h2 := sq_nn (a.y - b.y)
  have h3 := sq_nn (a.z - b.z)
  unfold distV
  grind
theorem dist_self (a : V3) : distV a a = 0 := by
  unfold distV
  grind
theorem sq_zero {x : Rat} (h : x * x = 0) : x = 0 := by
  rcases Rat.mul_eq_zero.mp h with h | h <;> exact h
theorem dist_zero {a b : V3} (h : distV a b = 0) : a = b := by
  have h1 := sq_nn (a.x - b.x)
  have h2 := sq_nn (a.y - b.y)
  have h3 := sq_nn (a.z - b.z)
  unfold distV at h
  have z1 : (a.x - b.x) * (a.x - b.x) = 0 := by grind
  have z2 : (a.y - b.y) * (a.y - b.y) = 0 := by grind
  have z3 : (a.z - b.z) * (a.z - b.z) = 0 := by grind
  have y1 := sq_zero z1
  have y2 := sq_zero z2
  have y3 := sq_zero z3
  exact V3.ext' (by grind) (by grind) (by grind)
/-! the nearest color -/
def nst (ps : List V3) (c : V3) : Nat → Nat × Rat
  | 0 => (0, distV (ps.getD 0 zV) c)
  | i + 1 => if distV (ps.getD i zV) c < (nst ps c i).2 then (i, distV (ps.getD i zV) c) else nst ps c i
def near (ps : List V3) (c : V3) : Nat := (nst ps c ps.length).1
theorem nst_inv (ps : List V3) (c : V3) : ∀ i, i ≤ ps.length → (nst ps c i).2 = distV (ps.getD (nst ps c i).1 zV) c ∧ ((nst ps c i).1 < i ∨ (nst ps c i).1 = 0) ∧ ∀ j, j < i → (nst ps c i).2 ≤ distV (ps.getD j zV) c
  | 0, _ => ⟨rfl, .inr rfl, fun j hj => absurd hj (by omega)⟩
  | i + 1, h => by
    obtain ⟨h1, h2, h3⟩ := nst_inv ps c i (by omega)
    unfold nst
    by_cases hl : distV (ps.getD i zV) c < (nst ps c i).2
    · rw [if_pos hl]
      refine ⟨rfl, .inl (Nat.lt_succ_self _), fun j hj => ?_⟩
      rcases Nat.lt_succ_iff_lt_or_eq.mp hj with h | rfl
      · exact Rat.le_trans (Rat.le_of_lt hl) (h3 j h)
      · exact Rat.le_refl
    · rw [if_neg hl]
      refine ⟨h1, ?_, fun j hj => ?_⟩
      · rcases h2 with h | h
        · exact .inl (by omega)
        · exact .inr h
      · rcases Nat.lt_succ_iff_lt_or_eq.mp hj with h | rfl
        · exact h3 j h
        · exact Rat.not_lt.mp hl
theorem near_lt {ps : List V3} (h : ps ≠ []) (c : V3) : near ps c < ps.length := by
  have hl := List.length_pos_iff.mpr h
  rcases (nst_inv ps c ps.length (Nat.le_refl _)).2.1 with h | h
  · exact h
  · show (nst ps c ps.length).1 < _
    omega
theorem near_le (ps : List V3) (c : V3) {j : Nat} (hj : j < ps.length) : distV (ps.getD (near ps c) zV) c ≤ distV (ps.getD j zV) c := by
  have := nst_inv ps c ps.length (Nat.le_refl _)
  unfold near
  rw [← this.1]
  exact this.2.2 j hj
theorem near_self {ps : List V3} {j : Nat} (hj : j < ps.length) : ps.getD (near ps (ps.getD j zV)) zV = ps.getD j zV := by
  have h1 := near_le ps (ps.getD j zV) hj
  rw [dist_self] at h1
  have h2 := dist_nn (ps.getD (near ps (ps.getD j zV)) zV) (ps.getD j zV)
  exact dist_zero (by grind)
/-! errors handed on -/
def dstep (ps : List V3) (s : List Nat × V3) (c : V3) : List Nat × V3 := (s.1 ++ [near ps (addV c s.2)], subV (addV c s.2) (ps.getD (near ps (addV c s.2)) zV))
def dif (ps : List V3) (cs : List V3) : List Nat × V3 := cs.foldl (dstep ps) ([], zV)
theorem dstep_fold (ps : List V3) : ∀ (cs : List V3) (is : List Nat) (e : V3), cs.foldl (dstep ps) (is, e) = (is ++ (cs.foldl (dstep ps) ([], e)).1, (cs.foldl (dstep ps) ([], e)).2)
  | [], is, e => by simp
  | c :: cs, is, e => by
    rw [List.foldl_cons, List.foldl_cons]
    have e1 := dstep_fold ps cs (is ++ [near ps (addV c e)]) (subV (addV c e) (ps.getD (near ps (addV c e)) zV))
    have e2 := dstep_fold ps cs [near ps (addV c e)] (subV (addV c e) (ps.getD (near ps (addV c e)) zV))
    show cs.foldl (dstep ps) (is ++ [near ps (addV c e)], subV (addV c e) (ps.getD (near ps (addV c e)) zV)) = (is ++ (cs.foldl (dstep ps) ([near ps (addV c e)], subV (addV c e) (ps.getD (near ps (addV c e)) zV))).1, (cs.foldl (dstep ps) ([near ps (addV c e)], subV (addV c e) (ps.getD (near ps (addV c e)) zV))).2)
    rw [e1, e2, List.append_assoc]
theorem dif_take {ps cs : List V3} {i : Nat} {c : V3} (h : cs[i]? = some c) : dif ps (cs.take (i + 1)) = dstep ps (dif ps (cs.take i)) c := by
  unfold dif
  rw [List.take_succ, h, List.foldl_append]
  rfl
theorem dif_len (ps : List V3) : ∀ (cs : List V3) (s : List Nat × V3), (cs.foldl (dstep ps) s).1.length = s.1.length + cs.length
  | [], s => rfl
  | c :: cs, s => by
    rw [List.foldl_cons, dif_len ps cs]
    simp [dstep]
    omega
theorem dif_rg {ps cs : List V3} {M M' : Nat} (hp : ∀ p ∈ ps, rgV p M) (hc : ∀ c ∈ cs, rgV c M') : ∀ i, i ≤ cs.length → rgV (dif ps (cs.take i)).2 (i * (M + M'))
  | 0, _ => rgV_zero
  | i + 1, h => by
    have hi : i < cs.length := by omega
    rw [dif_take (List.getElem?_eq_getElem hi)]
    have h1 := dif_rg hp hc i (by omega)
    have h2 := hc _ (List.getElem_mem hi)
    have h3 : rgV (ps.getD (near ps (addV cs[i] (dif ps (cs.take i)).2)) zV) M := by
      generalize near ps (addV cs[i] (dif ps (cs.take i)).2) = j
      by_cases hj : j < ps.length
      · rw [List.getD_eq_getElem?_getD, List.getElem?_eq_getElem hj]
        exact hp _ (List.getElem_mem hj)
      · rw [List.getD_eq_getElem?_getD, List.getElem?_eq_none (by omega)]
        exact rgV_zero
    refine rgV_mono (rgV_sub (rgV_add h2 h1) h3) ?_
    rw [Nat.succ_mul]
    omega
theorem dif_all {ps cs : List V3} (h : ps ≠ []) : ∀ (i : Nat), i ≤ cs.length → ∀ j ∈ (dif ps (cs.take i)).1, j < ps.length
  | 0, _ => by simp [dif]
  | i + 1, hi => by
    have hi' : i < cs.length := by omega
    rw [dif_take (List.getElem?_eq_getElem hi')]
    intro j hj
    rcases List.mem_append.mp hj with h1 | h1
    · exact dif_all h i (by omega) j h1
    · rw [List.mem_singleton.mp h1]
      exact near_lt h _
theorem dif_sum (ps : List V3) : ∀ (cs : List V3) (s : List Nat × V3), addV (sumV ((cs.foldl (dstep ps) s).1.map fun j => ps.getD j zV)) (cs.foldl (dstep ps) s).2 = addV (addV (sumV (s.1.map fun j => ps.getD j zV)) s.2) (sumV cs)
  | [], s => (addV_zV _).symm
  | c :: cs, s => by
    rw [List.foldl_cons, dif_sum ps cs, sumV_cons]
    show addV (addV (sumV ((s.1 ++ [near ps (addV c s.2)]).map fun j => ps.getD j zV)) (subV (addV c s.2) (ps.getD (near ps (addV c s.2)) zV))) (sumV cs) = _
    rw [List.map_append, sumV_append]
    generalize sumV (s.1.map fun j => ps.getD j zV) = S
    generalize near ps (addV c s.2) = j
    have e : sumV ([j].map fun j => ps.getD j zV) = ps.getD j zV := zero_addV _
    rw [e]
    generalize ps.getD j zV = q
    generalize sumV cs = R
    apply V3.ext' <;> simp only [addV, subV] <;> grind
/-! promises -/
def W_dist (C : Addr) (ds : List D) (P : D → Prop) : Prop := ∃ (a b : V3) (m n : Nat), ds = [dV C a, dV C b] ∧ bitsV a m ∧ bitsV b n ∧ m + n ≤ 600 ∧ P (dQ C (distV a b))
def W_near (C : Addr) (ds : List D) (P : D → Prop) : Prop := ∃ (ps : List V3) (c : V3) (m n : Nat), ds = [.tup (ps.map (dV C)), dV C c] ∧ ps ≠ [] ∧ ps.length ≤ 1000 ∧ (∀ p ∈ ps, bitsV p m) ∧ bitsV c n ∧ m + n ≤ 500 ∧ P (.int (near ps c : Nat))
def dInts (is : List Nat) : List D := is.map fun (i : Nat) => D.int (i : Int)
def W_dif (C : Addr) (ds : List D) (P : D → Prop) : Prop := ∃ (ps cs : List V3) (M M' : Nat), ds = [.tup (ps.map (dV C)), .tup (cs.map (dV C))] ∧ ps ≠ [] ∧ ps.length ≤ 1000 ∧ cs.length ≤ 10 ∧ (∀ p ∈ ps, rgV p M) ∧ (∀ c ∈ cs, rgV c M') ∧ (M + M') * 12 ≤ 1000000 ∧ P (.tup [.tup (dInts (dif ps cs).1), dV C (dif ps cs).2])
theorem k_dist {C : Addr} {P : D → Prop} {a b : V3} {m n : Nat} (ha : bitsV a m) (hb : bitsV b n) (h : m + n ≤ 600) (p : P (dQ C (distV a b))) : W_dist C [dV C a, dV C b] P := ⟨a, b, m, n, rfl, ha, hb, h, p⟩
theorem k_total3 {C : Addr} {P : D → Prop} {x y z : Rat} {m1 m2 m3 : Nat} (h1 : bits x m1) (h2 : bits y m2) (h3 : bits z m3) (h : max m1 (max m2 m3) ≤ 1900) (p : P (dQ C (0 + x + y + z))) : W_total C [.lst [dQ C x, dQ C y, dQ C z]] P :=
  ⟨[x, y, z], max m1 (max m2 m3), .inl rfl, (by
    intro q hq
    simp at hq
    rcases hq with rfl | rfl | rfl
    · exact bits_mono h1 (by omega)
    · exact bits_mono h2 (by omega)
    · exact bits_mono h3 (by omega)), (by show (max m1 (max m2 m3) + 1) * 4 ≤ 8000; omega), p⟩
theorem bits_dist {a b : V3} {m n : Nat} (ha : bitsV a m) (hb : bitsV b n) : bits (distV a b) (6 * (m + n) + 10) := by
  have hs := bitsV_sub ha hb
  refine bits_mono (bits_add (bits_add (bits_add bits_zero (bits_mul hs.1 hs.1)) (bits_mul hs.2.1 hs.2.1)) (bits_mul hs.2.2 hs.2.2)) ?_
  omega
theorem getD_bits {ps : List V3} {m : Nat} (h : ∀ p ∈ ps, bitsV p m) (j : Nat) (hm : 1 ≤ m) : bitsV (ps.getD j zV) m := by
  by_cases hj : j < ps.length
  · rw [List.getD_eq_getElem?_getD, List.getElem?_eq_getElem hj]
    exact h _ (List.getElem_mem hj)
  · rw [List.getD_eq_getElem?_getD, List.getElem?_eq_none (by omega)]
    exact bitsV_mono bitsV_zero hm
theorem getD_rg {ps : List V3} {M : Nat} (h : ∀ p ∈ ps, rgV p M) (j : Nat) : rgV (ps.getD j zV) M := by
  by_cases hj : j < ps.length
  · rw [List.getD_eq_getElem?_getD, List.getElem?_eq_getElem hj]
    exact h _ (List.getElem_mem hj)
  · rw [List.getD_eq_getElem?_getD, List.getElem?_eq_none (by omega)]
    exact rgV_zero
theorem at_getD {C : Addr} {ps : List V3} {j : Nat} (hj : j < ps.length) : atI (ps.map (dV C)) (j : Int) = some (dV C (ps.getD j zV)) := by
  rw [atI_nat' (by omega) (by rw [List.length_map]; omega), Int.toNat_natCast, List.getElem?_map, List.getD_eq_getElem?_getD, List.getElem?_eq_getElem hj]
  rfl
theorem r_ixG {K : PySem.W.Frag} {O : Store} {P : D → Store → Prop} {C : Addr} {ps : List V3} {j : Nat} (hj : j < ps.length) (p : P (dV C (ps.getD j zV)) O) : wR K (rIxT K) (.tup (ps.map (dV C))) (.int (j : Int)) O P := r_ixT (at_getD hj) p
section
variable {K : PySem.W.Frag} {ρ : Rho} {O : Store} {P : D → Store → Prop} {x : Addr} {ds : List D}
/-- tuple(xs), xs owned and first -/
theorem c_tupO (p : P (.tup ds) ((x, .lst ds) :: O)) : wC K (rTupOf K) [.loc x] ((x, .lst ds) :: O) P := fun F vs B H r hs Q q => by
  cases r with
  | cons r1 r =>
    cases r
    cases r1
    obtain ⟨ws, h, rr⟩ := (hs.own (x, .lst ds) (by simp)).2
    refine ⟨_, _, rfl, .inl ⟨Evl.sq_of h, fun l hl => ?_⟩⟩
    obtain ⟨hs2, e2⟩ := hs.new (o := .tup _) hl
    exact q _ _ _ _ _ p e2 hs2 (.tup (Evl.st_of upd_same) (rr.mono e2))
/-- xs.append(y), xs owned and first -/
theorem st_app {Q : Store → Prop} {y : D} (hl : ds.length < 100000) (p : Q ((x, .lst (ds ++ [y])) :: O)) : ∃ ds' O3, ds'.length < 100000 ∧ Put x (.lst ds') (.lst (ds' ++ [y])) ((x, .lst ds) :: O) O3 ∧ Q O3 := ⟨ds, _, hl, .here, p⟩
theorem ow_1 {A : Addr → List D → Prop} (h : A x ds) : ∃ a ds0, D.loc x = .loc a ∧ (a, Own.lst ds0) ∈ ((x, .lst ds) :: O : Store) ∧ A a ds0 := ⟨x, ds, rfl, by simp, h⟩
/-- list(xs) -/
theorem c_lstL (p : P (.lst ds) O) : wC K (Evl.rListS K) [.lst ds] O P := fun F vs B H r hs Q q => by
  cases r with
  | cons r1 r =>
    cases r
    cases r1 with
    | lst h rr =>
      refine ⟨_, _, rfl, .inl (Evl.sq_of (hs.ex _ _ h)), fun l hl => ?_⟩
      obtain ⟨hs2, e2⟩ := hs.new (o := .lst _) hl
      exact q _ _ O _ _ p e2 hs2 (.lst upd_same (rr.mono e2))
end
/-! draws, with their sizes -/
def W_quotR (ds : List D) (O : Store) (P : D → Store → Prop) : Prop := ∃ (l : List Int) (p : Addr) (n : Int) (O' : Int → Store), ds = [dStream l p] ∧ l ≠ [] ∧ digs l ∧ (∀ a b : Int, Put p (.lst [.int a]) (.lst [.int b]) (O' a) (O' b)) ∧ O = O' n ∧ ∀ (x : Rat) (n' : Int), bn x 10 4 → rg x NN 1024 → P (dP x) (O' n')
def W_colorR (ds : List D) (O : Store) (P : D → Store → Prop) : Prop := ∃ (l : List Int) (p : Addr) (n : Int) (O' : Int → Store), ds = [dStream l p] ∧ l ≠ [] ∧ digs l ∧ (∀ a b : Int, Put p (.lst [.int a]) (.lst [.int b]) (O' a) (O' b)) ∧ O = O' n ∧ ∀ (v : V3) (n' : Int), bnV v 10 4 → rgV v 1024 → P (lV v) (O' n')
def W_colorOR (ds : List D) (O : Store) (P : D → Store → Prop) : Prop := ∃ (l : List Int) (p : Addr) (n : Int) (O' : Int → Store), ds = [dStream l p] ∧ l ≠ [] ∧ digs l ∧ (∀ a b : Int, Put p (.lst [.int a]) (.lst [.int b]) (O' a) (O' b)) ∧ O = O' n ∧ ∀ (a : Addr) (v : V3) (n' : Int), bnV v 10 4 → rgV v 1024 → P (.loc a) ((a, .lst [dP v.x, dP v.y, dP v.z]) :: O' n')
section
variable {P : D → Store → Prop} {l : List Int} {p : Addr} {n : Int} {R : Store} {q : Addr × Own}
theorem k_quotR (hl : l ≠ []) (hd : digs l) (h : ∀ (x : Rat) (n' : Int), bn x 10 4 → rg x NN 1024 → P (dP x) ((p, .lst [.int n']) :: R)) : W_quotR [dStream l p] ((p, .lst [.int n]) :: R) P :=
  ⟨l, p, n, fun n' => (p, .lst [.int n']) :: R, rfl, hl, hd, fun _ _ => .here, rfl, h⟩
theorem k_quotR2 (hl : l ≠ []) (hd : digs l) (h : ∀ (x : Rat) (n' : Int), bn x 10 4 → rg x NN 1024 → P (dP x) (q :: (p, .lst [.int n']) :: R)) : W_quotR [dStream l p] (q :: (p, .lst [.int n]) :: R) P :=
  ⟨l, p, n, fun n' => q :: (p, .lst [.int n']) :: R, rfl, hl, hd, fun _ _ => .there .here, rfl, h⟩
theorem k_colorR (hl : l ≠ []) (hd : digs l) (h : ∀ (v : V3) (n' : Int), bnV v 10 4 → rgV v 1024 → P (lV v) ((p, .lst [.int n']) :: R)) : W_colorR [dStream l p] ((p, .lst [.int n]) :: R) P :=
  ⟨l, p, n, fun n' => (p, .lst [.int n']) :: R, rfl, hl, hd, fun _ _ => .here, rfl, h⟩
theorem k_colorR2 (hl : l ≠ []) (hd : digs l) (h : ∀ (v : V3) (n' : Int), bnV v 10 4 → rgV v 1024 → P (lV v) (q :: (p, .lst [.int n']) :: R)) : W_colorR [dStream l p] (q :: (p, .lst [.int n]) :: R) P :=
  ⟨l, p, n, fun n' => q :: (p, .lst [.int n']) :: R, rfl, hl, hd, fun _ _ => .there .here, rfl, h⟩
end
/-! tuples of ints -/
theorem toPs_ints : ∀ is : List Nat, toPs (dInts is) = is.map fun (i : Nat) => PyData.int (i : Int)
  | [] => rfl
  | i :: is => by
    show toP (.int (i : Int)) :: toPs (dInts is) = _
    rw [toPs_ints is]
    rfl
theorem plDs_ints : ∀ is : List Nat, plDs (dInts is) = true
  | [] => rfl
  | i :: is => by
    show (plD (.int (i : Int)) && plDs (dInts is)) = true
    rw [plDs_ints is]
    rfl
theorem can_ints (is : List Nat) : PyData.canLay0 (toP (.tup (dInts is))) = true := by
  rw [toP, toPs_ints, PyData.canLay0]
  refine canLayAll_of fun p hp => ?_
  obtain ⟨i, _, rfl⟩ := List.mem_map.mp hp
  rfl
theorem shaped_ints (is : List Nat) : SeqAt.shaped (toP (.tup (dInts is))) = true := by
  unfold SeqAt.shaped
  rw [can_ints, Bool.true_and, decide_eq_true_iff, toP, toPs_ints, PyData.depth]
  have : PyData.depthAll (is.map fun (i : Nat) => PyData.int (i : Int)) ≤ 0 := depthAll_le fun p hp => by
    obtain ⟨i, _, rfl⟩ := List.mem_map.mp hp
    exact Nat.le_refl _
  omega
theorem r_neInts {K : PySem.W.Frag} {O : Store} {P : D → Store → Prop} {is : List Nat} (p : P (.bl false) O) : wR K (rNeD K) (.tup (dInts is)) (.tup (dInts is)) O P := r_neDD (by simp only [plD]; exact plDs_ints is) (by simp only [plD]; exact plDs_ints is) (shaped_ints is) (shaped_ints is) (by
  rw [SeqAt.eqv_refl _ (can_ints is)]
  exact p)
theorem r_eqInts {K : PySem.W.Frag} {O : Store} {P : D → Store → Prop} {is : List Nat} (p : P (.bl true) O) : wR K (rEqD K) (.tup (dInts is)) (.tup (dInts is)) O P := r_eqDD (by simp only [plD]; exact plDs_ints is) (by simp only [plD]; exact plDs_ints is) (shaped_ints is) (shaped_ints is) (by
  rw [SeqAt.eqv_refl _ (can_ints is)]
  exact p)
theorem dInts_app (a b : List Nat) : dInts a ++ dInts b = dInts (a ++ b) := by
  unfold dInts
  rw [List.map_append]
theorem dInts_len (a : List Nat) : (dInts a).length = a.length := List.length_map ..
/-! what k27 says -/
theorem dif_length (ps cs : List V3) : (dif ps cs).1.length = cs.length := by
  unfold dif
  rw [dif_len]
  exact Nat.zero_add _
theorem dif_total (ps cs : List V3) : addV (sumV ((dif ps cs).1.map fun j => ps.getD j zV)) (dif ps cs).2 = sumV cs := by
  unfold dif
  rw [dif_sum]
  show addV (addV zV zV) (sumV cs) = _
  rw [zero_addV, zero_addV]
theorem dif_cut {ps cs : List V3} {i : Nat} {c : V3} (h : cs[i]? = some c) : dif ps cs = ((dif ps (cs.take i)).1 ++ (dif ps (addV c (dif ps (cs.take i)).2 :: cs.drop (i + 1))).1, (dif ps (addV c (dif ps (cs.take i)).2 :: cs.drop (i + 1))).2) := by
  have hi := (List.getElem?_eq_some_iff.mp h).1
  have e : cs = cs.take i ++ (c :: cs.drop (i + 1)) := by
    have e1 := (List.getElem?_eq_some_iff.mp h).2
    rw [← e1, ← List.drop_eq_getElem_cons hi, List.take_append_drop]
  have e2 : dif ps cs = (c :: cs.drop (i + 1)).foldl (dstep ps) (dif ps (cs.take i)) := by
    conv => lhs; rw [e]
    unfold dif
    rw [List.foldl_append]
  rw [e2]
  generalize dif ps (cs.take i) = s
  obtain ⟨is, er⟩ := s
  unfold dif
  rw [List.foldl_cons, List.foldl_cons]
  have e3 : dstep ps ([], zV) (addV c er) = ([near ps (addV c er)], subV (addV c er) (ps.getD (near ps (addV c er)) zV)) := by
    unfold dstep
    rw [addV_zV]
    rfl
  have e4 : dstep ps (is, er) c = (is ++ [near ps (addV c er)], subV (addV c er) (ps.getD (near ps (addV c er)) zV)) := rfl
  show List.foldl (dstep ps) (dstep ps (is, er) c) _ = _
  rw [e3, e4, dstep_fold ps _ (is ++ _), dstep_fold ps _ [near ps (addV c er)], List.append_assoc]
theorem dif_at {ps cs : List V3} {i : Nat} {c : V3} (h : cs[i]? = some c) : (dif ps cs).1[i]? = some (near ps (addV c (dif ps (cs.take i)).2)) := by
  have hi := (List.getElem?_eq_some_iff.mp h).1
  rw [dif_cut h]
  have e1 : (dif ps (cs.take i)).1.length = i := by rw [dif_length, List.length_take]; omega
  rw [List.getElem?_append_right (by omega), e1, Nat.sub_self]
  unfold dif
  rw [List.foldl_cons, dstep_fold]
  have e3 : dstep ps ([], zV) (addV c ((cs.take i).foldl (dstep ps) ([], zV)).2) = ([near ps (addV c ((cs.take i).foldl (dstep ps) ([], zV)).2)], subV (addV c ((cs.take i).foldl (dstep ps) ([], zV)).2) (ps.getD (near ps (addV c ((cs.take i).foldl (dstep ps) ([], zV)).2)) zV)) := by
    unfold dstep
    rw [addV_zV]
    rfl
  rw [e3]
  rfl
theorem sub_self (a : V3) : subV a a = zV := by
  apply V3.ext' <;> simp only [subV, zV] <;> grind
theorem dif_same {ps : List V3} {j : Nat} (hj : j < ps.length) : (dif ps [ps.getD j zV, ps.getD j zV, ps.getD j zV]).2 = zV := by
  have e : ∀ is, dstep ps (is, zV) (ps.getD j zV) = (is ++ [near ps (ps.getD j zV)], zV) := fun is => by
    unfold dstep
    rw [addV_zV, near_self hj, sub_self]
  unfold dif
  rw [List.foldl_cons, e, List.foldl_cons, e, List.foldl_cons, e]
  rfl
theorem far_eq (a b : V3) : (subV a b).x * (subV a b).x + (subV a b).y * (subV a b).y + (subV a b).z * (subV a b).z = distV a b := by
  unfold distV
  rw [Rat.zero_add]
  rfl
end G
/-! Palettes as the law k26 reckons them; == of tuples of tuples. -/
namespace G
open PySem L2 PySem.Spec PyProof.Rows
theorem num_lt0 {x y : Rat} : (x - y).num < 0 ↔ x < y := by
  have h1 : (0 ≤ (x - y).num) ↔ 0 ≤ x - y := Rat.num_nonneg
  constructor
  · intro h
    have h2 : ¬ 0 ≤ x - y := fun z => by have := h1.mpr z; omega
    have h3 := Rat.not_le.mp h2
    grind
  · intro h
    have h2 : ¬ 0 ≤ x - y := by
      intro z
      have h3 : x < x := by grind
      exact absurd h3 (Rat.lt_irrefl)
    have : ¬ 0 ≤ (x - y).num := fun z => h2 (h1.mp z)
    omega
theorem rg_dist {a b : V3} {M M' : Nat} (ha : rgV a M) (hb : rgV b M') : rg (distV a b) (NN * NN) (0 + (M + M') * (M + M') + (M + M') * (M + M') + (M + M') * (M + M')) := by
  have h1 := rg_sub (by decide) ha.1 hb.1
  have h2 := rg_sub (by decide) ha.2.1 hb.2.1
  have h3 := rg_sub (by decide) ha.2.2 hb.2.2
  exact rg_add (by decide) (rg_add (by decide) (rg_add (by decide) rg_zero (rg_mul (by decide) (by decide) h1 h1)) (rg_mul (by decide) (by decide) h2 h2)) (rg_mul (by decide) (by decide) h3 h3)
theorem bn_distR {a b : V3} {M M' : Nat} (ha : rgV a M) (hb : rgV b M') (h : M + M' ≤ 100000) : bn (distV a b) 66 30 := by
  refine rg_bn (by decide) (rg_dist ha hb) ?_ (by decide)
  have h1 : (M + M') * (M + M') ≤ 100000 * 100000 := Nat.mul_le_mul h h
  have h2 : (0 + (M + M') * (M + M') + (M + M') * (M + M') + (M + M') * (M + M')) * (NN * NN) ≤ (3 * (100000 * 100000)) * (NN * NN) := Nat.mul_le_mul_right _ (by omega)
  exact Nat.lt_of_le_of_lt h2 (by decide)
def W_ldist (ds : List D) (P : D → Prop) : Prop := ∃ (a b : V3) (M M' : Nat), ds = [lV a, lV b] ∧ rgV a M ∧ rgV b M' ∧ M + M' ≤ 100000 ∧ P (dP (distV a b))
theorem k_ldist {P : D → Prop} {a b : V3} {M M' : Nat} (ha : rgV a M) (hb : rgV b M') (h : M + M' ≤ 100000) (p : P (dP (distV a b))) : W_ldist [lV a, lV b] P := ⟨a, b, M, M', rfl, ha, hb, h, p⟩
def W_lnear (ds : List D) (P : D → Prop) : Prop := ∃ (ps : List V3) (c : V3) (M M' : Nat), ds = [.lst (ps.map lV), lV c] ∧ ps ≠ [] ∧ ps.length ≤ 1000 ∧ (∀ p ∈ ps, rgV p M) ∧ rgV c M' ∧ M + M' ≤ 100000 ∧ P (.int (near ps c : Nat))
def W_pal (ds : List D) (O : Store) (P : D → Store → Prop) : Prop := ∃ (l : List Int) (p : Addr) (n : Int) (R : Store), ds = [dStream l p] ∧ l ≠ [] ∧ digs l ∧ O = (p, .lst [.int n]) :: R ∧ ∀ (ps : List V3) (n' : Int), ps ≠ [] → ps.length ≤ 6 → (∀ q ∈ ps, bnV q 10 4 ∧ rgV q 1024) → P (.lst (ps.map lV)) ((p, .lst [.int n']) :: R)
theorem at_getL {ps : List V3} {j : Nat} (hj : j < ps.length) : atI (ps.map lV) (j : Int) = some (lV (ps.getD j zV)) := by
  rw [atI_nat' (by omega) (by rw [List.length_map]; omega), Int.toNat_natCast, List.getElem?_map, List.getD_eq_getElem?_getD, List.getElem?_eq_getElem hj]
  rfl
section
variable {K : PySem.W.Frag} {O : Store} {P : D → Store → Prop} {ps : List V3} {x : Addr} {ds : List D}
theorem r_ixGL {j : Nat} (hj : j < ps.length) (p : P (lV (ps.getD j zV)) O) : wR K (rIxL K) (.lst (ps.map lV)) (.int (j : Int)) O P := r_ixL (at_getL hj) p
theorem r_ixGO {j : Nat} {R : Store} (hj : j < ps.length) (p : P (lV (ps.getD j zV)) ((x, .lst (ps.map lV)) :: R)) : wR K (rIxL K) (.loc x) (.int (j : Int)) ((x, .lst (ps.map lV)) :: R) P := r_ixO (by simp) (at_getL hj) p
theorem c_lenO {R : Store} (p : P (.int ds.length) ((x, .lst ds) :: R)) : wC K (Evl.rLenS K) [.loc x] ((x, .lst ds) :: R) P := fun F vs B H r hs Q q => by
  cases r with
  | cons r1 r =>
    cases r
    cases r1
    obtain ⟨ws, h, rr⟩ := (hs.own (x, .lst ds) (by simp)).2
    exact ⟨_, _, rfl, .inl (Evl.sq_of h), by rw [rr.length]; exact q.here hs (.raw _) p⟩
theorem c_lstV {v : V3} (p : P (lV v) O) : wC K (Evl.rListS K) [lV v] O P := c_lstL p
theorem r_last {is : List Nat} {j : Nat} {R : Store} (p : P (.int (j : Int)) ((x, .lst (dInts is ++ [.int (j : Int)])) :: R)) : wR K (rIxL K) (.loc x) (.int (-1)) ((x, .lst (dInts is ++ [.int (j : Int)])) :: R) P := r_ixO (ds := dInts is ++ [.int (j : Int)]) List.mem_cons_self (by
  have hl : (dInts is ++ [D.int (j : Int)]).length = is.length + 1 := by
    rw [List.length_append, dInts_len]
    rfl
  unfold atI ixN
  rw [if_neg (by decide), hl, if_pos (by omega)]
  show (dInts is ++ [D.int (j : Int)])[(-1 + ((is.length + 1 : Nat) : Int)).toNat]? = _
  rw [show (-1 + ((is.length + 1 : Nat) : Int)).toNat = is.length by omega, List.getElem?_append_right (by rw [dInts_len]; omega), dInts_len, Nat.sub_self]
  rfl) p
end
theorem k_p20 {f : Rat → Rat → Rat} {P : D → Prop} {y : Rat} {m n : Nat} (hy : bn y m n) (h : m ≤ 4000 ∧ n ≤ 299) (p : P (dP (f 0 y))) : W_p2 f [.tup [.int 0, .int 1], dP y] P := ⟨0, y, 0, 1, m, n, rfl, bn_0, hy, by omega, by omega, by omega, p⟩
/-! == of tuples of tuples -/
theorem eqB_tup {X : Cx} {n : Nat} {D : Bqv} (h : EqB X n D) (refl : ∀ {x : V} {H : Hp} {b : Bool}, D x x H b → b = true) : EqB X (n + 1) (BTup X.K D) := by
  intro A pins s σ H x y u v b sb I ru rv d
  have d' := d
  obtain ⟨a, c, xs, ys, e, rfl, rfl, ha, hc, hl, p, rfl⟩ := d
  have ru' := ru
  have rv' := rv
  cases ru
  cases rv
  by_cases hac : a = c
  · subst hac
    have exy : xs = ys := I.tuple_inj ha hc
    subst exy
    have all : allB e xs.length = true := allB_true fun j hj => refl (p j _ _ (List.getElem?_eq_getElem hj) (List.getElem?_eq_getElem hj) H Ext.rfl')
    exact SeqAt.EqAt.same (A := A) (s := s) (.ref a) X.prog X.w X.xe _ ⟨by rw [all], H, I, Ext.rfl'⟩
  · exact GQ.eqBool_refG hac (wpAny_mono (rc_eqTup h sb I ru' rv' d') (fun r s2 z => ⟨_, z.1, rfl, z.2⟩) fun _ _ z => z)
theorem bq_refl {K : PySem.W.Frag} {C : Addr} {x : V} {H : Hp} {b : Bool} (h : BQ K C x x H b) : b = true := by
  obtain ⟨a, c, p, q, m, n, e1, e2, r1, r2, _, _, _, rfl⟩ := h
  subst e1
  rw [rep_inj r1 r2]
  simp
theorem r_eqNest {K : PySem.W.Frag} {C : Addr} {O : Store} {P : D → Store → Prop} {v : V3} {m : Nat} (hv : bitsV v m) (hm : m + m ≤ 8900) (p : P (.bl true) O) :
    wR K (rEqB (BTup K (BTup K (BQ K C)))) (.tup [.tup [], dV C v]) (.tup [.tup [], dV C v]) O P := fun F w u B H rx ry hs Q q => by
  have mem : ∀ q ∈ [v.x, v.y, v.z], bits q m := fun q hq => by
    obtain ⟨h1, h2, h3⟩ := hv
    simp at hq
    rcases hq with rfl | rfl | rfl <;> assumption
  cases rx with
  | tup h1 r1 =>
    cases ry with
    | tup h2 r2 =>
      cases r1 with
      | cons a1 r1 =>
        cases r1 with
        | cons a2 r1 =>
          cases r1
          cases r2 with
          | cons b1 r2 =>
            cases r2 with
            | cons b2 r2 =>
              cases r2
              refine ⟨_, ⟨_, _, _, _, fun _ => true, rfl, rfl, Evl.ex_t hs.ex h1, Evl.ex_t hs.ex h2, rfl, ?_, rfl⟩, fun H' e => ?_⟩
              · intro i x y hx hy H' e'
                match i with
                | 0 =>
                  cases hx; cases hy
                  have := btup_q (K := K) (C := C) (xs := []) (ys := []) (m := 1) rfl (by simp) (by simp) (by decide) (hs.ex.trans e') a1 b1
                  simpa using this
                | 1 =>
                  cases hx; cases hy
                  have := btup_q (K := K) (C := C) (xs := [v.x, v.y, v.z]) (ys := [v.x, v.y, v.z]) (m := m) rfl mem mem hm (hs.ex.trans e') a2 b2
                  simpa using this
                | i + 2 => simp at hx
              · rw [allB_true fun _ _ => rfl]
                exact q _ _ O B H' p (Evl.Ex.refl B) (hs_keep hs e) (.raw _)
end G
/-! A class's own constant; len of an own instance; all, any. -/
namespace G
open PySem L2 PySem.Spec PyProof.Rows
section
variable {X : Cx}
/-- C.NAME, C the class, NAME an int -/
theorem pe_clsCon {x f : Str} {C : Addr} {i : Int} {t : Tok} {p pos : Pos} (hg : Gl X x) (hm : X.mg x = some (.ref C)) (hr : PySem.W.readsIn X.K C (.type "type") = true) (hf : PySem.W.findCls X.K (.ref C) (.type "type") f = some (.val (.int i t)))
    (hb : attributeBase (.Name x p) f X.env (eval (.Name x p) X.env) = eval (.Name x p) X.env := by rfl) (hd : (x == ("__debug__" : Str)) = false := by decide) : PE X (.Attribute (.Name x p) f pos) (tC (.int i)) := by
  have hn : PE X (.Name x p) (tC (.ref C)) := pe_glob hg hm rfl hd
  refine ⟨fun pins s σ H Q I h => attr_of hb (thn (hn.run pins s σ H (fun v J => v = .ref C ∧ J = H) I ⟨rfl, rfl⟩) ?_)⟩
  rintro u s1 ⟨v, J, I1, r, rfl, rfl⟩
  cases r
  exact PySem.W.cls_value I1.kIn hr hf rfl ⟨.int i, J, I1.tok _, ⟨t, rfl⟩, h⟩
end
section
variable {prog : Program} {w : World} {A : Around} {E : Value → Shared → Prop} {s : Shared} {K : PySem.W.Frag} {x C f : Addr} {ox : Obj} {od : Option Obj}
theorem lenOwn {Q : Value → Shared → Prop} (k : K.In s.heap) (I : PySem.W.InstAt s.heap x ox C od) (hs : PySem.W.findIn K (.ref C) "__len__" = some (some (.ref f))) (hf : PySem.W.isFn K (.ref f) = true)
    (run : wpAny (model prog w) A.in1 (call (.ref f) [.ref x]) (fun r s2 => ∃ n t, r = .int n t ∧ 0 ≤ n ∧ n < 2 ^ 63 ∧ Q (.int n s2.toks) { s2 with toks := s2.toks + 1 }) E s) : wpAny (model prog w) A (call (.builtin "len") [.ref x]) Q E s := by
  refine Calls.call_function_entry kind_len plain_len entry_len (args_len1 _) ?_
  unfold Builtin.«len»
  refine wpAny_bind (m := oneArg "len" _) (wpAny_pure (wpAny_bind (m := callSpecial? (.ref x) (Str.ofString "__len__")) (PySem.W.special_fn k I hs (beq_iff_eq.mp hf) (wpAny_mono run ?_ fun _ _ z => z))))
  rintro r s2 ⟨n, t, rfl, h0, h1, hq⟩
  refine wpAny_bind (wpAny_holding (wpAny_pure (wpAny_bind (wpAny_letGo ?_))))
  have g0 : ¬ n < 0 := by omega
  have g1 : ¬ n ≥ 2 ^ 63 := by omega
  show wpAny _ _ (if n < 0 then _ else _) _ _ s2
  rw [if_neg g0]
  show wpAny _ _ (if n ≥ 2 ^ 63 then _ else _) _ _ s2
  rw [if_neg g1]
  exact wpAny_bind (wpAny_mkInt (wpAny_pure ⟨_, rfl, hq⟩))
end
/-- len(x) of an own instance, by its __len__ -/
def rLenO (C : Addr) (sp : Sp) : List V → Hp → VK → Prop := fun vs H Q => ∃ a dx fs, vs = [.ref a] ∧ H a = some (.ins C dx fs) ∧ sp [.ref a] H (fun v H' => ∃ n : Int, v = .int n ∧ 0 ≤ n ∧ n < 2 ^ 63 ∧ Q (.int n) H') E0
theorem call_lenO {X : Cx} {k : Nat} {f C : Addr} {fd : FuncData} {ps : List Str} {sp : Sp} (F : FnOk X.prog X.w X.K X.mg X.base CX0 k f fd ps sp) (hr : Room (k + 1) X.A) (hb : Binds X.K fd ps []) (hs : PySem.W.findIn X.K (.ref C) "__len__" = some (some (.ref f))) (hf : PySem.W.isFn X.K (.ref f) = true) :
    CallR X (.builtin "len") (rLenO C sp) := by
  rintro pins s σ H xs us Q I r ⟨a, dx, fs, rfl, ha, h⟩
  have sb : L2.Sub X k X.A.in1 := (show L2.Sub X (k + 1) X.A from ⟨hr, rfl⟩).in1
  cases r with
  | cons r1 r =>
    cases r
    cases r1
    obtain ⟨_, J, _⟩ := ins_get I.hok ha
    obtain ⟨od, J, _⟩ := J.look
    refine lenOwn I.kIn J hs hf ?_
    have e0 : Env0 X.prog X.w X.K X.mg X.base X.A.in1 X.stack s H := ⟨by rw [sb.fr]; exact I.env0.frames, I.env0.mod, I.env0.bs, I.env0.bsz, I.env0.funs, I.env0.frf, I.env0.hok, I.env0.bare⟩
    have hl := F.len _ _ _ _ h
    have hbd := hb s [.ref a] I.kIn (by simpa using hl)
    refine wpAny_call (codeAny_mono (F.run X.A.in1 X.stack s H ⟨[.ref a], []⟩ [.ref a] [.ref a] _ E0 sb.room e0 (by simpa using hbd) (.cons rfl .nil) h) fun r s' hq => ?_)
    cases r with
    | error e => exact hq.elim
    | ok fl =>
      cases fl with
      | ret w =>
        obtain ⟨z, H', I', rz, n, ez, h0, h1, q⟩ := I.after hq
        subst ez
        obtain ⟨t, rfl⟩ := rz
        exact ⟨n, t, rfl, h0, h1, .int n, H', I'.tok _, ⟨_, rfl⟩, q⟩
      | next => exact hq.elim
      | brk => exact hq.elim
      | cont => exact hq.elim
section
variable {K : PySem.W.Frag} {O : Store} {P : D → Store → Prop} {C : Addr}
theorem c_lenOI {W : List D → (D → Prop) → Prop} {fs : List (Str × D)} (h : W [.ins C fs] fun d => ∃ n : Int, d = .int n ∧ 0 ≤ n ∧ n < 2 ^ 63 ∧ P (.int n) O) : wC K (rLenO C (spP K 1 W)) [.ins C fs] O P := fun F vs B H r hs Q q => by
  cases r with
  | cons r1 r =>
    cases r
    have r1' := r1
    cases r1 with
    | ins h1 _ =>
      refine ⟨_, _, _, rfl, hs.ex _ _ h1, O ++ F, B, _, _, hs, .cons r1' .nil, rfl, h, ?_⟩
      rintro v d B2 H2 ⟨n, rfl, h0, h1, p⟩ e hs2 rv
      cases rv
      exact ⟨n, rfl, h0, h1, q _ _ O B2 H2 p e hs2 (.raw _)⟩
theorem reps_bools {B : Hp} : ∀ {vs : List V} {bs : List Bool}, Reps K B vs (bs.map fun b => D.bl b) → vs = bs.map V.bl
  | [], [], .nil => rfl
  | v :: vs, b :: bs, .cons h r => by
    cases h
    rw [reps_bools r]
    rfl
theorem c_all {bs : List Bool} (p : P (.bl (bs.all id)) O) : wC K (rAll K) [.lst (bs.map fun b => D.bl b)] O P := fun F vs B H r hs Q q => by
  cases r with
  | cons r1 r =>
    cases r
    cases r1 with
    | lst h rr =>
      refine ⟨_, bs, rfl, ?_, q.here hs (.raw _) p⟩
      rw [← reps_bools rr]
      exact Evl.sq_of (hs.ex _ _ h)
theorem c_allT {α : Type} {xs : List α} (p : P (.bl true) O) : wC K (rAll K) [.lst (xs.map fun _ => D.bl true)] O P := by
  have e : xs.map (fun _ => D.bl true) = (xs.map fun _ => true).map fun b => D.bl b := by rw [List.map_map]; rfl
  rw [e]
  refine c_all ?_
  have : (xs.map fun _ => true).all id = true := by
    rw [List.all_map, List.all_eq_true]
    intro _ _
    rfl
  rw [this]
  exact p
end
end G
/-! Observers and views. -/
namespace G
open PySem L2 PySem.Spec PyProof.Rows
def vI (r : I3) : V3 := ⟨(r.x : Rat), (r.y : Rat), (r.z : Rat)⟩
def zI : I3 := ⟨0, 0, 0⟩
def bD (bs : List I3) : D := .tup (bs.map tRow)
def vD (C : Addr) (bs : List I3) : D := .tup (bs.map fun r => dV C (vI r))
abbrev dObs (CO C : Addr) (bs : List I3) : D := .ins CO [("bands", bD bs), ("vectors", vD C bs)]
def okRow (r : I3) : Prop := (0 ≤ r.x ∧ r.x ≤ 100) ∧ (0 ≤ r.y ∧ r.y ≤ 100) ∧ (0 ≤ r.z ∧ r.z ≤ 100)
def okBands (bs : List I3) : Prop := 4 ≤ bs.length ∧ bs.length ≤ 7 ∧ ∀ r ∈ bs, okRow r
def regular (bs : List I3) : Prop := ∀ i j k, i < j → j < k → k < bs.length → 0 < detI (bs.getD i zI) (bs.getD j zI) (bs.getD k zI)
theorem det_vI (a b c : I3) : detV (vI a) (vI b) (vI c) = ((detI a b c : Int) : Rat) := by
  simp only [detV, vI, detI, Rat.intCast_add, Rat.intCast_sub, Rat.intCast_mul]
theorem cast_pos {n : Int} (h : 0 < n) : (0 : Rat) < (n : Rat) := by
  have := Rat.intCast_lt_intCast.mpr h
  simpa using this
theorem bits_vI {r : I3} (h : okRow r) : bitsV (vI r) 7 := by
  obtain ⟨⟨a, b⟩, ⟨c, d⟩, e, f⟩ := h
  exact ⟨bits_whole (by omega) (by decide), bits_whole (by omega) (by decide), bits_whole (by omega) (by decide)⟩
theorem getD_mem {bs : List I3} {i : Nat} (h : i < bs.length) : bs.getD i zI ∈ bs := by
  rw [List.getD_eq_getElem?_getD, List.getElem?_eq_getElem h]
  exact List.getElem_mem h
def W_isIntT (ds : List D) (P : D → Prop) : Prop := ∃ v a b : Int, ds = [.int v, .int a, .int b] ∧ a ≤ v ∧ v ≤ b ∧ P (.bl true)
def W_isBandT (ds : List D) (P : D → Prop) : Prop := ∃ r : I3, ds = [tRow r] ∧ okRow r ∧ P (.bl true)
def W_areBandsT (ds : List D) (P : D → Prop) : Prop := ∃ bs : List I3, ds = [bD bs] ∧ okBands bs ∧ P (.bl true)
def W_irrT (C : Addr) (ds : List D) (P : D → Prop) : Prop := ∃ bs : List I3, ds = [vD C bs] ∧ okBands bs ∧ regular bs ∧ P .non
def W_ObsT (C : Addr) (ds : List D) (PF : List (Str × D) → Prop) (PX : Addr → Prop) : Prop := ∃ bs : List I3, ds = [bD bs] ∧ okBands bs ∧ regular bs ∧ PF [("bands", bD bs), ("vectors", vD C bs)]
def W_lenObs (CO C : Addr) (ds : List D) (P : D → Prop) : Prop := ∃ bs : List I3, ds = [dObs CO C bs] ∧ P (.int bs.length)
theorem k_isBandT {r : I3} {P : D → Prop} (h : okRow r) (p : P (.bl true)) : W_isBandT [tRow r] P := ⟨r, rfl, h, p⟩
theorem k_isIntT {v a b : Int} {P : D → Prop} (h : a ≤ v ∧ v ≤ b) (p : P (.bl true)) : W_isIntT [.int v, .int a, .int b] P := ⟨v, a, b, rfl, h.1, h.2, p⟩
section
variable {K : PySem.W.Frag} {ρ : Rho} {O : Store} {P : D → Store → Prop} {C : Addr} {bs : List I3}
theorem at_bD {i : Nat} (h : i < bs.length) : atI (bs.map tRow) (i : Int) = some (tRow (bs.getD i zI)) := by
  rw [atI_nat' (by omega) (by rw [List.length_map]; omega), Int.toNat_natCast, List.getElem?_map, List.getD_eq_getElem?_getD, List.getElem?_eq_getElem h]
  rfl
theorem r_bD {i : Nat} (h : i < bs.length) (p : P (tRow (bs.getD i zI)) O) : wR K (rIxT K) (bD bs) (.int (i : Int)) O P := r_ixT (at_bD h) p
theorem at_vD {i : Nat} (h : i < bs.length) : atI (bs.map fun r => dV C (vI r)) (i : Int) = some (dV C (vI (bs.getD i zI))) := by
  rw [atI_nat' (by omega) (by rw [List.length_map]; omega), Int.toNat_natCast, List.getElem?_map, List.getD_eq_getElem?_getD, List.getElem?_eq_getElem h]
  rfl
theorem r_vD {i : Nat} (h : i < bs.length) (p : P (dV C (vI (bs.getD i zI))) O) : wR K (rIxT K) (vD C bs) (.int (i : Int)) O P := r_ixT (at_vD h) p
theorem c_lenB (p : P (.int bs.length) O) : wC K (Evl.rLenS K) [bD bs] O P := c_len (ds := bs.map tRow) (.inr (.inl rfl)) (by rw [List.length_map]; exact p)
theorem c_lenV (p : P (.int bs.length) O) : wC K (Evl.rLenS K) [vD C bs] O P := c_len (ds := bs.map fun r => dV C (vI r)) (.inr (.inl rfl)) (by rw [List.length_map]; exact p)
theorem ex_rg2 {lo n : Int} {Q : Int → Int → Prop} (h : (-1000000 < lo ∧ lo < 1000000) ∧ -1000000 < n ∧ n < 1000000) (p : Q lo n) : ∃ lo' n' : Int, [D.int lo, .int n] = [.int lo', .int n'] ∧ (-(2 ^ 62) ≤ lo' ∧ lo' < 2 ^ 62 ∧ -(2 ^ 62) ≤ n' ∧ n' < 2 ^ 62) ∧ Q lo' n' := ⟨lo, n, rfl, ⟨by omega, by omega, by omega, by omega⟩, p⟩
/-- self.f = e -/
theorem fl_1 {x : Addr} {C : Addr} {fs : List (Str × D)} {f : Str} {y : D} {R : Store} {Q : Store → Prop} (hc : Cls K C) (hn : NoAttr K C f) (hl : fs.length < 1000) (p : Q ((x, .ins C (putD f y fs)) :: R)) :
    ∃ a C' fs' O3, D.loc x = .loc a ∧ Put a (.ins C' fs') (.ins C' (putD f y fs')) ((x, .ins C fs) :: R) O3 ∧ Cls K C' ∧ NoAttr K C' f ∧ fs'.length < 1000 ∧ Q O3 := ⟨x, C, fs, _, rfl, .here, hc, hn, hl, p⟩
end
theorem pe_clsConE {X : Cx} {x f : Str} {C : Addr} {i : Int} {p pos : Pos} (hg : Gl X x) (hm : X.mg x = some (.ref C)) (hr : PySem.W.readsIn X.K C (.type "type") = true) (h : ∃ t : Tok, PySem.W.findCls X.K (.ref C) (.type "type") f = some (.val (.int i t)))
    (hb : attributeBase (.Name x p) f X.env (eval (.Name x p) X.env) = eval (.Name x p) X.env := by rfl) (hd : (x == ("__debug__" : Str)) = false := by decide) : PE X (.Attribute (.Name x p) f pos) (tC (.int i)) := by
  obtain ⟨t, h⟩ := h
  exact pe_clsCon hg hm hr h hb hd
/-! views -/
def mulI (l : Int) (r : I3) : I3 := ⟨l * r.x, l * r.y, l * r.z⟩
def gens (bs : List I3) (ls : List Int) : List I3 := List.zipWith (fun l r => mulI l r) ls bs
def lampD (ls : List Int) : D := .tup (ls.map fun i => D.int i)
abbrev dView (CV CO C : Addr) (bs : List I3) (ls : List Int) : D := .ins CV [("observer", dObs CO C bs), ("lamp", lampD ls), ("generators", vD C (gens bs ls))]
def okLamp (bs : List I3) (ls : List Int) : Prop := ls.length = bs.length ∧ ∀ l ∈ ls, 1 ≤ l ∧ l ≤ 100
theorem mul_vI (l : Int) (r : I3) : mulV (l : Rat) (vI r) = vI (mulI l r) := by
  apply V3.ext' <;> simp only [mulV, vI, mulI, Rat.intCast_mul]
theorem det_mulI (a b c : Int) (r s t : I3) : detI (mulI a r) (mulI b s) (mulI c t) = a * b * c * detI r s t := by
  simp only [detI, mulI]
  grind
theorem gens_len {bs : List I3} {ls : List Int} (h : ls.length = bs.length) : (gens bs ls).length = bs.length := by
  unfold gens
  rw [List.length_zipWith, h, Nat.min_self]
theorem gens_get {bs : List I3} {ls : List Int} {i : Nat} (h : ls.length = bs.length) (hi : i < bs.length) : (gens bs ls).getD i zI = mulI (ls.getD i 0) (bs.getD i zI) := by
  unfold gens
  rw [List.getD_eq_getElem?_getD, List.getElem?_zipWith, List.getElem?_eq_getElem hi, List.getElem?_eq_getElem (by omega : i < ls.length), List.getD_eq_getElem?_getD, List.getD_eq_getElem?_getD, List.getElem?_eq_getElem hi, List.getElem?_eq_getElem (by omega : i < ls.length)]
  rfl
theorem lamp_pos {bs : List I3} {ls : List Int} {i : Nat} (h : okLamp bs ls) (hi : i < bs.length) : 1 ≤ ls.getD i 0 ∧ ls.getD i 0 ≤ 100 := by
  have hi' : i < ls.length := by have := h.1; omega
  rw [List.getD_eq_getElem?_getD, List.getElem?_eq_getElem hi']
  exact h.2 _ (List.getElem_mem hi')
theorem gens_reg {bs : List I3} {ls : List Int} (hr : regular bs) (hl : okLamp bs ls) : regular (gens bs ls) := by
  intro i j k hij hjk hk
  rw [gens_len hl.1] at hk
  rw [gens_get hl.1 (by omega), gens_get hl.1 (by omega), gens_get hl.1 hk, det_mulI]
  have p1 := (lamp_pos hl (show i < bs.length by omega)).1
  have p2 := (lamp_pos hl (show j < bs.length by omega)).1
  have p3 := (lamp_pos hl hk).1
  have p4 := hr i j k hij hjk hk
  have p12 := Int.mul_pos (show 0 < ls.getD i 0 by omega) (show 0 < ls.getD j 0 by omega)
  exact Int.mul_pos (Int.mul_pos p12 (by omega)) p4
def bigRow (r : I3) : Prop := (0 ≤ r.x ∧ r.x ≤ 10000) ∧ (0 ≤ r.y ∧ r.y ≤ 10000) ∧ (0 ≤ r.z ∧ r.z ≤ 10000)
theorem mul_le100 {a b : Int} (ha : 1 ≤ a ∧ a ≤ 100) (hb : 0 ≤ b ∧ b ≤ 100) : 0 ≤ a * b ∧ a * b ≤ 10000 := by
  constructor
  · exact Int.mul_nonneg (by omega) hb.1
  · have h1 : a * b ≤ 100 * b := Int.mul_le_mul_of_nonneg_right ha.2 hb.1
    omega
theorem gens_big {bs : List I3} {ls : List Int} (hb : okBands bs) (hl : okLamp bs ls) : ∀ r ∈ gens bs ls, bigRow r := by
  intro r hr
  obtain ⟨i, hi⟩ := List.getElem?_of_mem hr
  obtain ⟨l, b, h1, h2, rfl⟩ := zipW_get hi
  have hL := hl.2 l (List.mem_of_getElem? h1)
  obtain ⟨bx, by', bz⟩ := hb.2.2 b (List.mem_of_getElem? h2)
  exact ⟨mul_le100 hL bx, mul_le100 hL by', mul_le100 hL bz⟩
theorem bits_big {r : I3} (h : bigRow r) : bitsV (vI r) 14 := by
  obtain ⟨⟨a, b⟩, ⟨c, d⟩, e, f⟩ := h
  exact ⟨bits_whole (by omega) (by decide), bits_whole (by omega) (by decide), bits_whole (by omega) (by decide)⟩
def W_isLampT (CO C : Addr) (ds : List D) (P : D → Prop) : Prop := ∃ (bs : List I3) (ls : List Int), ds = [dObs CO C bs, lampD ls] ∧ okBands bs ∧ okLamp bs ls ∧ P (.bl true)
def W_ViewT (CO C : Addr) (ds : List D) (PF : List (Str × D) → Prop) (PX : Addr → Prop) : Prop := ∃ (bs : List I3) (ls : List Int), ds = [dObs CO C bs, lampD ls] ∧ okBands bs ∧ okLamp bs ls ∧ PF [("observer", dObs CO C bs), ("lamp", lampD ls), ("generators", vD C (gens bs ls))]
def W_lenView (CV CO C : Addr) (ds : List D) (P : D → Prop) : Prop := ∃ (bs : List I3) (ls : List Int), ds = [dView CV CO C bs ls] ∧ P (.int ls.length)
section
variable {K : PySem.W.Frag} {O : Store} {P : D → Store → Prop} {ls : List Int}
theorem c_lenL (p : P (.int ls.length) O) : wC K (Evl.rLenS K) [lampD ls] O P := c_len (ds := ls.map fun i => D.int i) (.inr (.inl rfl)) (by rw [List.length_map]; exact p)
end
end G
/-! Edges, colors taken apart. -/
namespace G
open PySem L2 PySem.Spec PyProof.Rows
/-! t.index(i), ints -/
def rIdxI (K : PySem.W.Frag) : V → List V → Hp → VK → Prop := fun x xs H Q => ∃ (p : Addr) (ns : List Int) (i : Int) (j : Nat), x = .ref p ∧ xs = [.int i] ∧ SqT K H p (ns.map V.int) ∧ ns[j]? = some i ∧ (∀ m, m < j → ns[m]? ≠ some i) ∧ Q (.int (j : Nat)) H
theorem flat_ints (ns : List Int) : (ns.map V.int).all flatV = true := by
  rw [List.all_map, List.all_eq_true]
  intro _ _
  rfl
theorem mt_idxI {X : Cx} : MtR X "tuple.index" (rIdxI X.K) := by
  rintro pins s σ H x xs v us Q I rx rs ⟨p, ns, i, j, rfl, rfl, hq, hi, hno, q⟩
  cases rx
  obtain ⟨u, rfl, t, rfl⟩ := vals1 rs
  obtain ⟨its, r, tp, _⟩ := I.tuple hq
  obtain ⟨⟨cls, dd, dt, sl⟩, ho, hc, n, hd⟩ := tp
  simp only at hc hd
  subst hc hd
  have len : its.toArray.size = ns.length := by rw [List.size_toArray, ← r.length, List.length_map]
  have small : j < its.toArray.size := by rw [len]; exact (List.getElem?_eq_some_iff.mp hi).1
  have each : ∀ (m : Nat) (hm : m < its.toArray.size), ∃ t2, its.toArray[m] = Value.int (ns[m]'(by omega)) t2 := fun m hm => by
    have hm2 : m < ns.length := by omega
    obtain ⟨w, hw, t2, hw2⟩ := r.get (i := m) (x := .int ns[m]) (by simp [hm2])
    refine ⟨t2, ?_⟩
    have e := (List.getElem?_eq_some_iff.mp hw).2
    rw [← hw2, ← e]
    simp
  refine call_meets PySem.F.slot_tuple_index ⟨_, ho, rfl⟩ PySem.F.entry_tuple_index (PySem.F.args_tuple_index_2 _ _) (TI.tuple_indexAt p its.toArray n dd sl (.int i t) (eqU (.int i)) j small ?_ ?_)
    ⟨ho, fun w hw => mem_eqAt (x := .int i) ⟨t, rfl⟩ rfl r (flat_ints ns) w (by simpa using hw), ⟨.int (j : Nat), H, I.tok _, ⟨_, rfl⟩, q⟩⟩
  · obtain ⟨t2, e⟩ := each j small
    have ei := (List.getElem?_eq_some_iff.mp hi).2
    rw [e, ei]
    show (i == i) = true
    exact beq_self_eq_true i
  · intro m hm hmj
    obtain ⟨t2, e⟩ := each m hm
    rw [e]
    show (ns[m] == i) = false
    have h2 := hno m hmj
    rw [List.getElem?_eq_getElem (by omega)] at h2
    exact beq_false_of_ne fun z => h2 (by rw [z])
section
variable {K : PySem.W.Frag} {ρ : Rho} {O : Store} {P : D → Store → Prop} {C : Addr}
def iTup2 (a b : Int) : D := .tup [.int a, .int b]
theorem rep_iTup2 {B : Hp} {v : V} {a b : Int} (r : Rep K B v (.tup [.int a, .int b])) (H : Hp) (e : Ex B H) : ∃ p, v = .ref p ∧ SqT K H p ([a, b].map V.int) := by
  cases r with
  | tup h r =>
    cases r with
    | cons r1 r =>
      cases r with
      | cons r2 r =>
        cases r; cases r1; cases r2
        exact ⟨_, rfl, Evl.ex_t e h⟩
theorem r_nin2 {i a b : Int} (p : P (.bl (!decide (i = a ∨ i = b))) O) : wR K (rIn K true) (.int i) (.tup [.int a, .int b]) O P := fun F v u B H rx ry hs Q q => by
  cases rx
  obtain ⟨p', rfl, hp⟩ := rep_iTup2 ry H hs.ex
  refine ⟨p', _, rfl, .inr hp, rfl, flat_ints [a, b], ?_⟩
  have e : inV (.int i) ([a, b].map V.int) = decide (i = a ∨ i = b) := by
    rw [Bool.eq_iff_iff]
    simp [inV, eqV]
    constructor
    · rintro (h | h)
      · exact .inl h.symm
      · exact .inr h.symm
    · rintro (h | h)
      · exact .inl h.symm
      · exact .inr h.symm
  show Q (.bl (!inV (.int i) ([a, b].map V.int))) H
  rw [e]
  exact q.here hs (.raw _) p
theorem c_allM {α : Type} {xs : List α} {f : α → Bool} (p : P (.bl (xs.all f)) O) : wC K (rAll K) [.lst (xs.map fun x => D.bl (f x))] O P := by
  have e : xs.map (fun x => D.bl (f x)) = (xs.map f).map fun b => D.bl b := by rw [List.map_map]; rfl
  rw [e]
  refine c_all ?_
  rw [List.all_map]
  exact p
theorem z_dVa {v : V3} (p : P (.tup [dQ C v.y, dQ C v.z]) O) : wZ K (rSlA K) (dV C v) (some 1) none O P := z_tup p
end
/-! edges -/
def edgesN (n : Nat) : List (Nat × Nat) := (List.range (n - 1)).map (fun i => (i, i + 1)) ++ [(n - 1, 0)]
def eD (e : Nat × Nat) : D := .tup [.int (e.1 : Int), .int (e.2 : Int)]
theorem edges_len {n : Nat} (h : 1 ≤ n) : (edgesN n).length = n := by
  unfold edgesN
  rw [List.length_append, List.length_map, List.length_range]
  show n - 1 + 1 = n
  omega
theorem edges_get {n i : Nat} (h : i < n) : (edgesN n)[i]? = some (i, if i + 1 = n then 0 else i + 1) := by
  unfold edgesN
  by_cases e : i + 1 = n
  · rw [if_pos e, List.getElem?_append_right (by rw [List.length_map, List.length_range]; omega), List.length_map, List.length_range, show i - (n - 1) = 0 by omega, show n - 1 = i by omega]
    rfl
  · rw [if_neg e, List.getElem?_append_left (by rw [List.length_map, List.length_range]; omega), List.getElem?_map, List.getElem?_range (by omega)]
    rfl
theorem edges_mem {n : Nat} {e : Nat × Nat} (h : e ∈ edgesN n) : (e.1 < n ∨ n = 0) ∧ (e.2 = e.1 + 1 ∧ e.2 < n ∨ e.2 = 0 ∧ e.1 = n - 1) := by
  rcases List.mem_append.mp h with h | h
  · obtain ⟨i, hi, rfl⟩ := List.mem_map.mp h
    have := List.mem_range.mp hi
    exact ⟨.inl (by show i < n; omega), .inl ⟨rfl, by show i + 1 < n; omega⟩⟩
  · rw [List.mem_singleton.mp h]
    exact ⟨by show n - 1 < n ∨ n = 0; omega, .inr ⟨rfl, rfl⟩⟩
def nnV (v : V3) : Prop := 0 ≤ v.x ∧ 0 ≤ v.y ∧ 0 ≤ v.z
instance (v : V3) : Decidable (nnV v) := inferInstanceAs (Decidable (_ ∧ _ ∧ _))
def bv (bs : List I3) (i : Nat) : V3 := vI (bs.getD i zI)
def amtE (bs : List I3) (w c : V3) (e : Nat × Nat) : V3 := crV w (bv bs e.1) (bv bs e.2) c
def insideW (bs : List I3) (w : V3) : Prop := ∀ e ∈ edgesN bs.length, 0 < detV (bv bs e.1) (bv bs e.2) w
def decE (bs : List I3) (w c : V3) : Option (Nat × Nat) := (edgesN bs.length).find? fun e => decide (nnV (amtE bs w c e))
def tellD (C : Addr) (a : V3) (e : Nat × Nat) : D := .tup [dQ C a.x, eD e, .tup [dQ C a.y, dQ C a.z]]
def decD (C : Addr) (bs : List I3) (w c : V3) : D := match decE bs w c with
  | none => .non
  | some e => tellD C (amtE bs w c e) e
def W_edges (ds : List D) (P : D → Prop) : Prop := ∃ n : Nat, ds = [.int (n : Int)] ∧ 1 ≤ n ∧ n ≤ 1000 ∧ P (.lst ((edgesN n).map eD))
def W_inside (C : Addr) (ds : List D) (P : D → Prop) : Prop := ∃ (bs : List I3) (w : V3) (m : Nat), ds = [vD C bs, .lst ((edgesN bs.length).map eD), dV C w] ∧ okBands bs ∧ bitsV w m ∧ m ≤ 250 ∧ P (.bl ((edgesN bs.length).all fun e => decide (0 < detV (bv bs e.1) (bv bs e.2) w)))
def W_decT (CO C : Addr) (ds : List D) (P : D → Prop) (PX : Addr → Prop) : Prop := ∃ (bs : List I3) (w c : V3) (m n : Nat), ds = [dObs CO C bs, dV C w, dV C c] ∧ okBands bs ∧ insideW bs w ∧ bitsV w m ∧ bitsV c n ∧ m ≤ 250 ∧ n ≤ 250 ∧ P (decD C bs w c)
theorem find_some {α : Type} {p : α → Bool} {xs : List α} {i : Nat} {x : α} (h : xs[i]? = some x) (hp : p x = true) (hn : ∀ (j : Nat) (y : α), j < i → xs[j]? = some y → p y = false) : xs.find? p = some x := by
  have hi := (List.getElem?_eq_some_iff.mp h).1
  have e := (List.getElem?_eq_some_iff.mp h).2
  rw [List.find?_eq_some_iff_getElem]
  refine ⟨hp, i, hi, e, fun j hj => ?_⟩
  have := hn j xs[j] hj (List.getElem?_eq_getElem (by omega))
  rw [this]
  rfl
theorem find_none {α : Type} {p : α → Bool} {xs : List α} (hn : ∀ (j : Nat) (y : α), xs[j]? = some y → p y = false) : xs.find? p = none := by
  rw [List.find?_eq_none]
  intro x hx
  obtain ⟨j, hj⟩ := List.getElem?_of_mem hx
  rw [hn j x hj]
  exact Bool.false_ne_true
theorem inside_ne {bs : List I3} {w : V3} (h : insideW bs w) {e : Nat × Nat} (he : e ∈ edgesN bs.length) : detV w (bv bs e.1) (bv bs e.2) ≠ 0 := by
  have h1 := h e he
  rw [det_rot w (bv bs e.1) (bv bs e.2)] at h1
  intro z
  rw [z] at h1
  exact absurd h1 (Rat.lt_irrefl)
theorem bits_bv {bs : List I3} (h : okBands bs) {i : Nat} (hi : i < bs.length) : bitsV (bv bs i) 7 := bits_vI (h.2.2 _ (getD_mem hi))
end G
/-! Tuples of quotients of any length; signs, blocks, crossings. -/
namespace G
open PySem L2 PySem.Spec PyProof.Rows
section
variable {K : PySem.W.Frag} {ρ : Rho} {O O2 : Store} {P : D → Store → Prop} {PS : Out → Store → Prop} {ts : TS} {g : TG} {d : D} {PR : Rho → Store → Prop}
theorem s_perm (p : O.Perm O2) (h : wS K ts ρ O2 PS) : wS K ts ρ O PS := fun F σ B H e hs Dn q => h F σ B H e (hs.perm (p.append_right F)) Dn q
theorem g_perm (p : O.Perm O2) (h : wG K g d ρ O2 PR) : wG K g d ρ O PR := fun F v σ B H e hs r Q q => h F v σ B H e (hs.perm (p.append_right F)) r Q q
end
def W_takenN (C : Addr) (ds : List D) (P : D → Prop) : Prop := ∃ (xs ys : List Rat) (m : Nat), ds = [.tup (xs.map (dQ C)), .tup (ys.map (dQ C))] ∧ xs.length = ys.length ∧ xs.length ≤ 1000 ∧ (∀ x ∈ xs, bits x m) ∧ (∀ y ∈ ys, bits y m) ∧ m + m ≤ 8900 ∧ P (.tup ((List.zipWith (fun x y => x - y) xs ys).map (dQ C)))
def W_reqLen (CL : Addr) (ds : List D) (P : D → Prop) (PX : Addr → Prop) : Prop := ∃ (xs ys : List D), ds = [.tup xs, .tup ys] ∧ xs.length ≤ 1000 ∧ ys.length ≤ 1000 ∧ (xs.length ≠ ys.length → PX CL) ∧ (xs.length = ys.length → P .non)
def W_filt (C CL : Addr) (ds : List D) (P : D → Prop) (PX : Addr → Prop) : Prop := ∃ (xs ys : List Rat) (m : Nat), ds = [.tup (xs.map (dQ C)), .tup (ys.map (dQ C))] ∧ xs.length ≤ 1000 ∧ ys.length ≤ 1000 ∧ (∀ x ∈ xs, bits x m) ∧ (∀ y ∈ ys, bits y m) ∧ m + m ≤ 8900 ∧ (xs.length ≠ ys.length → PX CL) ∧ (xs.length = ys.length → P (.tup ((List.zipWith (fun x y => x * y) xs ys).map (dQ C))))
def sgn (q : Rat) : Int := if 0 < q.num then 1 else if q.num < 0 then -1 else 0
def W_sign (C : Addr) (ds : List D) (P : D → Prop) : Prop := ∃ q : Rat, ds = [dQ C q] ∧ P (.int (sgn q))
theorem k_sign {C : Addr} {P : D → Prop} {q : Rat} (p : P (.int (sgn q))) : W_sign C [dQ C q] P := ⟨q, rfl, p⟩
/-- blocks so far, the last sign -/
def bstep (s : Nat × Int) (q : Rat) : Nat × Int := if sgn q = 0 then s else if sgn q = s.2 then s else (s.1 + 1, sgn q)
def bst (qs : List Rat) : Nat × Int := qs.foldl bstep (0, 0)
theorem bst_take {qs : List Rat} {i : Nat} {q : Rat} (h : qs[i]? = some q) : bst (qs.take (i + 1)) = bstep (bst (qs.take i)) q := by
  unfold bst
  rw [List.take_succ, h, List.foldl_append]
  rfl
theorem bst_pos : ∀ (qs : List Rat) (s : Nat × Int), (s.2 ≠ 0 → 0 < s.1) → ((qs.foldl bstep s).2 ≠ 0 → 0 < (qs.foldl bstep s).1)
  | [], _, h => h
  | q :: qs, s, h => by
    rw [List.foldl_cons]
    refine bst_pos qs _ ?_
    unfold bstep
    split
    · exact h
    · split
      · exact h
      · exact fun _ => Nat.succ_pos _
def crossN (qs : List Rat) : Int := if 0 < (bst qs).1 then ((bst qs).1 : Int) - 1 else 0
def W_sblk (C : Addr) (ds : List D) (O : Store) (P : D → Store → Prop) : Prop := ∃ qs : List Rat, ds = [.tup (qs.map (dQ C))] ∧ qs.length ≤ 1000 ∧ ∀ (xb : Addr) (ds' : List D) (R : Store), ds'.length = (bst qs).1 → P (.loc xb) ((xb, .lst ds') :: (R ++ O))
def W_cross (C CL : Addr) (ds : List D) (P : D → Prop) (PX : Addr → Prop) : Prop := ∃ (xs ys : List Rat) (m : Nat), ds = [.tup (xs.map (dQ C)), .tup (ys.map (dQ C))] ∧ xs.length ≤ 1000 ∧ ys.length ≤ 1000 ∧ (∀ x ∈ xs, bits x m) ∧ (∀ y ∈ ys, bits y m) ∧ m + m ≤ 8900 ∧ (xs.length ≠ ys.length → PX CL) ∧ (xs.length = ys.length → P (.int (crossN (List.zipWith (fun x y => x - y) xs ys))))
theorem bst_le : ∀ (qs : List Rat) (s : Nat × Int), (qs.foldl bstep s).1 ≤ s.1 + qs.length
  | [], s => Nat.le_refl _
  | q :: qs, s => by
    rw [List.foldl_cons, List.length_cons]
    have h1 := bst_le qs (bstep s q)
    have h2 : (bstep s q).1 ≤ s.1 + 1 := by
      unfold bstep
      split
      · omega
      · split
        · omega
        · exact Nat.le_refl _
    omega
section
variable {K : PySem.W.Frag} {O : Store} {P : D → Store → Prop} {x : Addr} {ds : List D} {d : D}
/-- the last of an owned list -/
theorem r_lastO {R : Store} (hm : (x, Own.lst (ds ++ [d])) ∈ R) (p : P d R) : wR K (rIxL K) (.loc x) (.int (-1)) R P := r_ixO (ds := ds ++ [d]) hm (by
  have hl : (ds ++ [d]).length = ds.length + 1 := List.length_append ..
  unfold atI ixN
  rw [if_neg (by decide), hl, if_pos (by omega)]
  show (ds ++ [d])[(-1 + ((ds.length + 1 : Nat) : Int)).toNat]? = _
  rw [show (-1 + ((ds.length + 1 : Nat) : Int)).toNat = ds.length by omega, List.getElem?_append_right (by omega), Nat.sub_self]
  rfl) p
end
end G
/-! Drawn shares as raw pairs; the law's signs and the crossings. -/
namespace G
open PySem L2 PySem.Spec PyProof.Rows
abbrev dRP (s : Int × Int) : D := .tup [.int s.1, .int s.2]
def okRP (s : Int × Int) : Prop := 0 ≤ s.1 ∧ s.1 ≤ s.2 ∧ 1 ≤ s.2 ∧ s.2 ≤ 3600
def rq (s : Int × Int) : Rat := Rat.divInt s.1 s.2
def W_share (ds : List D) (O : Store) (P : D → Store → Prop) : Prop := ∃ (l : List Int) (p : Addr) (n : Int) (R : Store), ds = [dStream l p] ∧ l ≠ [] ∧ digs l ∧ O = (p, .lst [.int n]) :: R ∧ ∀ (s : Int × Int) (n' : Int), okRP s → P (dRP s) ((p, .lst [.int n']) :: R)
theorem k_share {l : List Int} {p : Addr} {n : Int} {R : Store} {P : D → Store → Prop} (hl : l ≠ []) (hd : digs l) (h : ∀ (s : Int × Int) (n' : Int), okRP s → P (dRP s) ((p, .lst [.int n']) :: R)) : W_share [dStream l p] ((p, .lst [.int n]) :: R) P :=
  ⟨l, p, n, R, rfl, hl, hd, rfl, h⟩
theorem rq_bits {s : Int × Int} (h : okRP s) : bits (rq s) 12 := bn_bits (bn_divInt (m := 12) (n := 12) (by have := h.2.2.1; omega) (by have := h.1; have := h.2.1; have := h.2.2.2; omega) (by have := h.2.2.1; have := h.2.2.2; omega)) (by decide) (by decide)
theorem rq_mul {s u : Int × Int} (hs : okRP s) (hu : okRP u) : rq s * rq u = Rat.divInt (s.1 * u.1) (s.2 * u.2) := by
  unfold rq
  rw [Rat.divInt_mul_divInt]
def W_sameI (ds : List D) (P : D → Prop) : Prop := ∃ a b : Int, ds = [.int a, .int b] ∧ P (.bl (decide (a = b)))
theorem k_sameI {a b : Int} {P : D → Prop} (p : P (.bl (decide (a = b)))) : W_sameI [.int a, .int b] P := ⟨a, b, rfl, p⟩
def W_fails (C : Addr) (ds : List D) (P : D → Prop) : Prop := ∃ (xs ys : List Rat) (m : Nat), ds = [.tup (xs.map (dQ C)), .tup (ys.map (dQ C))] ∧ xs.length ≤ 1000 ∧ ys.length ≤ 1000 ∧ (∀ x ∈ xs, bits x m) ∧ (∀ y ∈ ys, bits y m) ∧ m + m ≤ 8900 ∧ xs.length ≠ ys.length ∧ P (.bl true)
/-- changes between neighbours -/
def cntT : List Bool → Nat
  | a :: b :: t => (if a = b then 0 else 1) + cntT (b :: t)
  | _ => 0
theorem cntT_take : ∀ (i : Nat) (l : List Bool) (a b : Bool), l[i]? = some a → l[i + 1]? = some b → cntT (l.take (i + 2)) = cntT (l.take (i + 1)) + if a = b then 0 else 1
  | 0, l, a, b, ha, hb => by
    match l, ha, hb with
    | x :: y :: t, ha, hb =>
      simp at ha hb
      subst ha; subst hb
      simp [cntT]
  | i + 1, l, a, b, ha, hb => by
    match l, ha, hb with
    | x :: y :: t, ha, hb =>
      have ih := cntT_take i (y :: t) a b (by simpa using ha) (by simpa using hb)
      simp only [List.take_succ_cons, cntT] at ih ⊢
      omega
    | [x], ha, hb => simp at hb
def sb (b : Bool) : Int := if b then 1 else -1
def chg : Int → List Bool → Nat
  | _, [] => 0
  | s, b :: t => (if sb b = s then 0 else 1) + chg (sb b) t
theorem chg_cnt : ∀ (t : List Bool) (a : Bool), chg (sb a) t = cntT (a :: t)
  | [], a => rfl
  | b :: t, a => by
    show (if sb b = sb a then 0 else 1) + chg (sb b) t = (if a = b then 0 else 1) + cntT (b :: t)
    rw [chg_cnt t b]
    cases a <;> cases b <;> rfl
def sgL (qs : List Rat) : List Bool := qs.filterMap (fun q => if sgn q = 0 then none else some (decide (sgn q = 1)))
theorem sgn_or (q : Rat) : sgn q = 0 ∨ sgn q = 1 ∨ sgn q = -1 := by
  unfold sgn
  split
  · exact .inr (.inl rfl)
  · split
    · exact .inr (.inr rfl)
    · exact .inl rfl
theorem bst_chg : ∀ (qs : List Rat) (s : Nat × Int), (qs.foldl bstep s).1 = s.1 + chg s.2 (sgL qs)
  | [], s => rfl
  | q :: qs, s => by
    rw [List.foldl_cons, bst_chg qs]
    unfold sgL bstep
    rcases sgn_or q with h | h | h
    · simp [h, sgL]
    · by_cases h2 : (1 : Int) = s.2
      · simp [h, sgL, chg, sb, ← h2]
      · simp [h, sgL, chg, sb, h2]; omega
    · by_cases h2 : (-1 : Int) = s.2
      · simp [h, sgL, chg, sb, ← h2]
      · simp [h, sgL, chg, sb, h2]; omega
theorem cross_eq (qs : List Rat) : crossN qs = cntT (sgL qs) := by
  unfold crossN bst
  rw [bst_chg]
  cases h : sgL qs with
  | nil => rfl
  | cons a t =>
    have e : chg 0 (a :: t) = 1 + cntT (a :: t) := by
      show (if sb a = 0 then 0 else 1) + chg (sb a) t = _
      rw [chg_cnt]
      cases a <;> rfl
    show (if 0 < 0 + chg 0 (a :: t) then ((0 + chg 0 (a :: t) : Nat) : Int) - 1 else 0) = _
    rw [e, if_pos (by omega)]
    omega
def sd (s u : Int × Int) : Int := s.1 * u.2 - u.1 * s.2
def sg (ds : List Int) : List Bool := ds.filterMap (fun d => if d = 0 then none else some (decide (0 < d)))
theorem sgn_sd {s u : Int × Int} (hs : okRP s) (hu : okRP u) : sgn (rq s - rq u) = if 0 < sd s u then 1 else if sd s u < 0 then -1 else 0 := by
  have z1 : 0 < s.2 := by have := hs.2.2.1; omega
  have z2 : 0 < u.2 := by have := hu.2.2.1; omega
  have hD : 0 < s.2 * u.2 := Int.mul_pos z1 z2
  have e : rq s - rq u = Rat.divInt (sd s u) (s.2 * u.2) := by
    unfold rq sd
    rw [Rat.divInt_sub_divInt _ _ (by omega) (by omega)]
  have k : (rq s - rq u).num * (s.2 * u.2) = sd s u * ((rq s - rq u).den : Int) := by
    have h := e
    rw [← Rat.num_divInt_den (rq s - rq u)] at h
    have hden : ((rq s - rq u).den : Int) ≠ 0 := by have := (rq s - rq u).den_pos; omega
    exact (Rat.divInt_eq_divInt_iff hden (by omega)).mp h
  have hden : (0 : Int) < ((rq s - rq u).den : Int) := by have := (rq s - rq u).den_pos; omega
  generalize (rq s - rq u) = q at k hden ⊢
  unfold sgn
  generalize sd s u = d at k ⊢
  generalize s.2 * u.2 = D at k hD
  generalize (q.den : Int) = E at k hden
  generalize q.num = N at k ⊢
  by_cases h : 0 < d
  · rw [if_pos h, if_pos]
    have : 0 < N * D := by rw [k]; exact Int.mul_pos h hden
    exact Int.pos_of_mul_pos_right (Int.mul_comm N D ▸ this) hD
  · by_cases h2 : d < 0
    · have : N * D < 0 := by rw [k]; exact Int.mul_neg_of_neg_of_pos h2 hden
      have hn : N < 0 := by
        refine Int.not_le.mp fun z => ?_
        have := Int.mul_nonneg z (Int.le_of_lt hD)
        omega
      rw [if_neg h, if_pos h2, if_neg (by omega), if_pos hn]
    · have d0 : d = 0 := by omega
      subst d0
      have hn : N = 0 := by
        rw [Int.zero_mul] at k
        rcases Int.mul_eq_zero.mp k with h | h
        · exact h
        · omega
      subst hn
      rfl
theorem sgL_sg : ∀ (ss us : List (Int × Int)), (∀ s ∈ ss, okRP s) → (∀ u ∈ us, okRP u) → sgL (List.zipWith (fun x y => x - y) (ss.map rq) (us.map rq)) = sg (List.zipWith sd ss us)
  | [], _, _, _ => rfl
  | _ :: _, [], _, _ => rfl
  | s :: ss, u :: us, hs, hu => by
    have ih := sgL_sg ss us (fun x h => hs x (List.mem_cons_of_mem _ h)) (fun x h => hu x (List.mem_cons_of_mem _ h))
    have e := sgn_sd (hs s List.mem_cons_self) (hu u List.mem_cons_self)
    unfold sgL sg at ih ⊢
    rw [List.map_cons, List.map_cons, List.zipWith_cons_cons, List.zipWith_cons_cons, List.filterMap_cons, List.filterMap_cons, ih, e]
    by_cases h : 0 < sd s u
    · simp [h, show sd s u ≠ 0 by omega]
    · by_cases h2 : sd s u < 0
      · simp [h, h2, show sd s u ≠ 0 by omega]
      · simp [show sd s u = 0 by omega]
theorem sg_neg : ∀ (ss us : List (Int × Int)), sg (List.zipWith sd us ss) = (sg (List.zipWith sd ss us)).map (fun b => !b)
  | [], us => by cases us <;> rfl
  | _ :: _, [] => rfl
  | s :: ss, u :: us => by
    have ih := sg_neg ss us
    have e : sd u s = -sd s u := by unfold sd; omega
    unfold sg at ih ⊢
    rw [List.zipWith_cons_cons, List.zipWith_cons_cons, List.filterMap_cons, List.filterMap_cons, ih, e]
    by_cases h : sd s u = 0
    · simp [h]
    · by_cases h2 : 0 < sd s u
      · simp [show sd s u ≠ 0 from h, h2, show ¬ (0 < -sd s u) by omega, show -sd s u ≠ 0 by omega]; omega
      · simp [show sd s u ≠ 0 from h, h2, show (0 < -sd s u) by omega, show -sd s u ≠ 0 by omega]; omega
theorem sg_self : ∀ (ss : List (Int × Int)), sg (List.zipWith sd ss ss) = []
  | [] => rfl
  | s :: ss => by
    have ih := sg_self ss
    have e : sd s s = 0 := by unfold sd; omega
    unfold sg at ih ⊢
    rw [List.zipWith_cons_cons, List.filterMap_cons, ih, e]
    rfl
theorem cntT_not : ∀ (l : List Bool), cntT (l.map (fun b => !b)) = cntT l
  | [] => rfl
  | [_] => rfl
  | a :: b :: t => by
    have ih := cntT_not (b :: t)
    simp only [List.map_cons, cntT] at ih ⊢
    rw [ih]
    cases a <;> cases b <;> rfl
theorem cross_fwd {ss us : List (Int × Int)} (hs : ∀ s ∈ ss, okRP s) (hu : ∀ u ∈ us, okRP u) : crossN (List.zipWith (fun x y => x - y) (ss.map rq) (us.map rq)) = cntT (sg (List.zipWith sd ss us)) := by
  rw [cross_eq, sgL_sg ss us hs hu]
theorem cross_bwd {ss us : List (Int × Int)} (hs : ∀ s ∈ ss, okRP s) (hu : ∀ u ∈ us, okRP u) : crossN (List.zipWith (fun x y => x - y) (us.map rq) (ss.map rq)) = cntT (sg (List.zipWith sd ss us)) := by
  rw [cross_eq, sgL_sg us ss hu hs, sg_neg ss us, cntT_not]
theorem cross_self {ss : List (Int × Int)} (hs : ∀ s ∈ ss, okRP s) : crossN (List.zipWith (fun x y => x - y) (ss.map rq) (ss.map rq)) = 0 := by
  rw [cross_eq, sgL_sg ss ss hs hs, sg_self]
  rfl
theorem sg_take {ds : List Int} {i : Nat} {d : Int} (h : ds[i]? = some d) : sg (ds.take (i + 1)) = sg (ds.take i) ++ (if d = 0 then [] else [decide (0 < d)]) := by
  unfold sg
  rw [List.take_succ, h, List.filterMap_append]
  by_cases hz : d = 0 <;> simp [hz]
end G
/-! `!=` of two instances of an own class that has an __eq__ of its own and no __ne__. -/
namespace G
open PySem L2 PySem.Spec PyProof.Rows
/-- the class C, as the heap of the head has it: a __eq__, no __ne__ -/
def NeCls (K : PySem.W.Frag) (C f : Addr) : Prop := ∀ (h : Heap) (x : Addr) (o : Obj), K.In h → h.get? x = some o → o.cls = .ref C → h.OwnEqNoNe x C f "object" [.type "object"]
theorem op_neQ {X : Cx} {k : Nat} {f C : Addr} {fd : FuncData} {ps : List Str} (F : FnOk X.prog X.w X.K X.mg X.base CX0 k f fd ps (spP X.K 2 (W_q2 C fun x y => .bl (decide (x = y)))))
    (hc : NeCls X.K C f) (hb : Binds X.K fd ps []) (hr : Room (k + 1) X.A) : OpR X (compareOp .NotEq) (rNeB (BQ X.K C)) := by
  rintro pins s σ H _ _ v u Q I rx ry ⟨b, ⟨a, c, x, y, m, n, rfl, rfl, r1, r2, hx, hy, hm, rfl⟩, q⟩
  cases rx
  cases ry
  have r1' := r1
  have r2' := r2
  cases r1' with
  | ins g1 _ =>
    cases r2' with
    | ins g2 _ =>
      obtain ⟨_, J1, _⟩ := ins_get I.hok g1
      obtain ⟨_, J2, _⟩ := ins_get I.hok g2
      obtain ⟨_, J1, _⟩ := J1.look
      obtain ⟨_, J2, _⟩ := J2.look
      have hu := hr.units
      have room : Room k X.A.in1 := ⟨hr.hd, by have := hr.dp; show X.A.depth + 3 * k + 5 < _; omega, by have := hr.un; show X.A.units + 1 + 16 * k + 200 < _; omega⟩
      refine compareOp_ne_ownEq PySem.F.cmp_object (hc _ _ _ I.kIn J1.at_ J1.cls) J2.at_ J2.cls (by omega) ?_
      have hsp : spP X.K 2 (W_q2 C fun x y => .bl (decide (x = y))) [.ref a, .ref c] H (fun v H' => v = .bl (decide (x = y)) ∧ Ext H H') E0 := by
        refine ⟨[], H, [dQ C x, dQ C y], fun d => d = .bl (decide (x = y)), ⟨Evl.Ex.refl H, (fun p hp => absurd hp (by simp)), List.nodup_nil⟩, .cons r1 (.cons r2 .nil), rfl, ⟨x, y, m, n, rfl, hx, hy, hm, rfl⟩, ?_⟩
        rintro v d B2 H2 rfl e hs2 rv
        cases rv
        exact ⟨rfl, e.trans hs2.ex⟩
      have e0 : Env0 X.prog X.w X.K X.mg X.base X.A.in1 X.stack s H := ⟨I.env0.frames, I.env0.mod, I.env0.bs, I.env0.bsz, I.env0.funs, I.env0.frf, I.env0.hok, I.env0.bare⟩
      have hl := F.len _ _ _ _ hsp
      have hbd := hb s [.ref a, .ref c] I.kIn (by simpa using hl)
      refine wpAny_call (codeAny_mono (F.run X.A.in1 X.stack s H ⟨[.ref a, .ref c], []⟩ [.ref a, .ref c] [.ref a, .ref c] _ E0 room e0 (by simpa using hbd) (.cons rfl (.cons rfl .nil)) hsp) fun r s' hq => ?_)
      cases r with
      | error e => exact hq.elim
      | ok fl =>
        cases fl with
        | ret w =>
          obtain ⟨z, H', I', rz, ez, ex⟩ := I.after hq
          subst ez
          cases rz
          exact ⟨_, rfl, .bl (!decide (x = y)), H', I', rfl, q H' ex⟩
        | next => exact hq.elim
        | brk => exact hq.elim
        | cont => exact hq.elim
/-- what the head has to say of the class -/
def neIn (K : PySem.W.Frag) (C f : Addr) : Bool :=
  PySem.W.isFn K (.ref f) && match List.lookup C K with
  | some ⟨cls, _, .cls ⟨_, _, mro, N, _, _, _, _, _, _, hd⟩, slots⟩ =>
    cls == .type "type" && !hd && mro == [.ref C, .type "object"] && (match slots.toList with | [_, _, _, _, some (.builtin _), _] => true | _ => false) &&
    PySem.W.nsIn K N "__eq__" == some (some (.ref f)) && PySem.W.nsIn K N "__ne__" == some none && (match List.lookup N K with
      | some ⟨_, _, .dict es _, _⟩ => es.toList.all (fun e => match e.key with | .str _ _ => true | _ => false)
      | _ => false)
  | _ => false
theorem nsFind_of {K : PySem.W.Frag} {N : Addr} {c : Value} {d : Option Addr} {es : Array DictEntry} {ep : Nat} {sl : Array (Option Value)} {name : Str} {r : Option Value} (hN : List.lookup N K = some ⟨c, d, .dict es ep, sl⟩) (h : PySem.W.nsIn K N name = some r) : nsFind es name = r := by
  unfold PySem.W.nsIn at h
  rw [hN] at h
  unfold nsFind findBy
  rw [← Array.find?_toList]
  dsimp only at h ⊢
  cases hf : List.find? (fun x => x.key.isStr name) es.toList with
  | some e =>
    rw [hf] at h
    simpa using h
  | none =>
    rw [hf] at h
    dsimp only at h
    split at h
    · cases h
    · simpa using h
theorem neCls_of {K : PySem.W.Frag} {C f : Addr} (h : neIn K C f = true) : NeCls K C f := by
  intro hp x o X hx ho
  unfold neIn at h
  rw [Bool.and_eq_true] at h
  obtain ⟨hf, h⟩ := h
  cases hC : List.lookup C K with
  | none => rw [hC] at h; cases h
  | some oc =>
    rw [hC] at h
    obtain ⟨cls, dd, data, slots⟩ := oc
    cases data with
    | cls cd =>
      obtain ⟨nm, bs, mro, N, q, hdict, sn, sub, ab, col, hd⟩ := cd
      simp only [Bool.and_eq_true, beq_iff_eq, Bool.not_eq_true'] at h
      obtain ⟨⟨⟨⟨⟨⟨h1, h2⟩, h3⟩, h4⟩, h5⟩, h6⟩, h7⟩ := h
      subst h1 h2 h3
      cases hN : List.lookup N K with
      | none => rw [hN] at h7; cases h7
      | some on =>
        rw [hN] at h7
        obtain ⟨c2, d2, data2, s2⟩ := on
        cases data2 with
        | dict es ep =>
          have hst : StrKeys es := by
            intro e he
            have := (List.all_eq_true.mp h7) e (by simpa using he)
            revert this
            cases hk : e.key <;> intro z <;> first | exact ⟨_, _, rfl⟩ | exact absurd z (by simp)
          have hns : hp.Ns N (nsFind es) := ⟨_, es, ep, X _ _ hN, rfl, hst, fun _ => rfl⟩
          have hty : ∃ of, List.lookup f K = some of ∧ of.cls = .type "function" := by
            unfold PySem.W.isFn PySem.W.typeIn at hf
            cases hl : List.lookup f K with
            | none => simp [hl] at hf
            | some of => exact ⟨of, rfl, by simpa [hl] using hf⟩
          obtain ⟨of, hof, htf⟩ := hty
          have hsl : ∃ k0 k1 k2 k3 id k5, slots = #[k0, k1, k2, k3, some (.builtin id), k5] := by
            split at h4
            · rename_i hk
              exact ⟨_, _, _, _, _, _, by rw [← Array.toArray_toList (xs := slots), hk]⟩
            · cases h4
          obtain ⟨k0, k1, k2, k3, id, k5, rfl⟩ := hsl
          exact ⟨o, of, nm, q, N, bs, hdict, sn, sub, ab, col, dd, k0, k1, k2, k3, k5, id, nsFind es, _, hx, ho, X _ _ hC, hns, nsFind_of hN h5, X _ _ hof, htf, PySem.F.mro_object, PySem.F.cmp_object.eq.lookup, nsFind_of hN h6⟩
        | _ => cases h7
    | _ => cases h
section
variable {K : PySem.W.Frag} {O : Store} {P : D → Store → Prop} {C : Addr} {x y : Rat} {m n : Nat}
theorem r_neQ (hx : bits x m) (hy : bits y n) (hm : m + n ≤ 8900) (p : P (.bl (!decide (x = y))) O) : wR K (rNeB (BQ K C)) (dQ C x) (dQ C y) O P := fun F v u B H rx ry hs Q q => by
  have r1 := rx.mono hs.ex
  have r2 := ry.mono hs.ex
  have k1 := r1
  have k2 := r2
  cases k1 with
  | ins _ _ =>
    cases k2 with
    | ins _ _ => exact ⟨_, ⟨_, _, x, y, m, n, rfl, rfl, r1, r2, hx, hy, hm, rfl⟩, fun H' e => q _ _ O B H' p (Evl.Ex.refl B) (hs_keep hs e) (.raw _)⟩
end
/-- all of the values from a on, ahead of b, are q -/
def allIn (xs : List Rat) (a b : Nat) (q : Rat) : Prop := ∀ k, a ≤ k → k < b → xs[k]? = some q
def W_isAll (C : Addr) (ds : List D) (P : D → Prop) : Prop := ∃ (xs : List Rat) (a b : Nat) (q : Rat) (m : Nat), ds = [.tup (xs.map (dQ C)), .int (a : Int), .int (b : Int), dQ C q] ∧ xs.length ≤ 1000 ∧ a ≤ xs.length ∧ b ≤ xs.length ∧ (∀ x ∈ xs, bits x m) ∧ bits q m ∧ m + m ≤ 8900 ∧ ∀ r : Bool, (r = true ↔ allIn xs a b q) → P (.bl r)
theorem allIn_snoc {xs : List Rat} {a b : Nat} {q : Rat} (h : allIn xs a b q) (e : xs[b]? = some q) : allIn xs a (b + 1) q := fun k h1 h2 => by
  by_cases hk : k = b
  · rw [hk]; exact e
  · exact h k h1 (by omega)
theorem allIn_cons {xs : List Rat} {a b : Nat} {q : Rat} (h : allIn xs (a + 1) b q) (e : xs[a]? = some q) : allIn xs a b q := fun k h1 h2 => by
  by_cases hk : k = a
  · rw [hk]; exact e
  · exact h k (by omega) h2
def fitR (xs : List Rat) (inn out : Rat) (i j : Nat) : Prop := i < j ∧ j < xs.length ∧ allIn xs 0 i out ∧ allIn xs (i + 1) j inn ∧ allIn xs (j + 1) xs.length out
def FPs (xs : List Rat) (inn out : Rat) : Option (Nat × Nat) → Prop
  | none => ∀ i j, ¬ fitR xs inn out i j
  | some p => fitR xs inn out p.1 p.2 ∧ ∀ i j, fitR xs inn out i j → p.1 < i ∨ (p.1 = i ∧ p.2 ≤ j)
abbrev encP : Option (Nat × Nat) → D
  | none => .non
  | some p => .tup [.int (p.1 : Int), .int (p.2 : Int)]
def W_fpair (C : Addr) (ds : List D) (P : D → Prop) : Prop := ∃ (xs : List Rat) (inn out : Rat) (m : Nat), ds = [.tup (xs.map (dQ C)), dQ C inn, dQ C out] ∧ 1 ≤ xs.length ∧ xs.length ≤ 1000 ∧ (∀ x ∈ xs, bits x m) ∧ bits inn m ∧ bits out m ∧ m + m ≤ 8900 ∧ ∀ r, FPs xs inn out r → P (encP r)
theorem s_aug {K : PySem.W.Frag} {ρ : Rho} {O : Store} {i : Nat} {te : TE} {ti : R2} {d : D} {PS : Out → Store → Prop} (hv : ρ[i]? = some (some d)) (h : wE K te ρ O fun y O1 => wR K ti d y O1 fun z O2 => PS (.nx (ρ.set i (some z))) O2) : wS K (tAug i te ti) ρ O PS := fun F σ B H e hs Dn q => by
  obtain ⟨v, h1, r⟩ := e.get i d hv
  exact ⟨v, h1, h F σ B H e hs _ fun u y O1 B1 H1 p1 e1 hs1 ry => p1 F v u B1 H1 (r.mono e1) ry hs1 _ fun z dz O2 B2 H2 p2 e2 hs2 rz => q _ O2 B2 H2 p2 (e1.trans e2) hs2 _ ((e.mono (e1.trans e2)).set i rz)⟩
theorem r_ip {K : PySem.W.Frag} {O : Store} {P : D → Store → Prop} {f : Int → Int → Int} {i j : Int} (p : P (.int (f i j)) O) : wR K (ipI f) (.int i) (.int j) O P := fun F v u B H rx ry hs Q q => by
  cases rx
  cases ry
  exact ⟨i, j, rfl, rfl, q _ _ O B H p (Evl.Ex.refl B) hs (.raw _)⟩
theorem lex2 (i j k l : Int) : Ob.lexAt (fun x => decide (([i, j].getD x 0) = ([k, l].getD x 0))) (fun x => decide (([i, j].getD x 0) ≤ ([k, l].getD x 0))) (decide (([i, j] : List Int).length ≤ ([k, l] : List Int).length)) 0 (min ([i, j] : List Int).length ([k, l] : List Int).length) = decide (i < k ∨ (i = k ∧ j ≤ l)) := by
  show Ob.lexAt _ _ _ 0 2 = _
  simp only [Ob.lexAt, List.getD_cons_zero, List.getD_cons_succ]
  by_cases h1 : i = k
  · by_cases h2 : j = l
    · simp [h1, h2]
    · simp [h1, h2]
  · by_cases h3 : i < k
    · simp [h1, h3]; omega
    · simp [h1, h3]; omega
theorem r_leT {K : PySem.W.Frag} {O : Store} {P : D → Store → Prop} {i j k l : Int} (p : P (.bl (decide (i < k ∨ (i = k ∧ j ≤ l)))) O) : wR K (rLeT K) (.tup [.int i, .int j]) (.tup [.int k, .int l]) O P := fun F v u B H rx ry hs Q q => by
  cases rx with
  | tup h1 r1 =>
    cases ry with
    | tup h2 r2 =>
      cases r1 with
      | cons a1 r1 =>
        cases r1 with
        | cons a2 r1 =>
          cases r1
          cases r2 with
          | cons b1 r2 =>
            cases r2 with
            | cons b2 r2 =>
              cases r2
              cases a1; cases a2; cases b1; cases b2
              refine ⟨_, _, [i, j], [k, l], rfl, rfl, Evl.ex_t hs.ex h1, Evl.ex_t hs.ex h2, ?_⟩
              rw [lex2]
              exact q.here hs (.raw _) p
abbrev encB : Option ((Nat × Nat) × Bool) → D
  | none => .non
  | some p => .tup [.int (p.1.1 : Int), .int (p.1.2 : Int), .raw (.str (if p.2 then "pass" else "stop"))]
def lexle (a b : Nat × Nat) : Prop := a.1 < b.1 ∨ (a.1 = b.1 ∧ a.2 ≤ b.2)
instance (a b : Nat × Nat) : Decidable (lexle a b) := inferInstanceAs (Decidable (_ ∨ _))
def pickP : Option (Nat × Nat) → Option (Nat × Nat) → Option ((Nat × Nat) × Bool)
  | none, none => none
  | some a, none => some (a, true)
  | none, some b => some (b, false)
  | some a, some b => if lexle a b then some (a, true) else some (b, false)
def W_bpat (C : Addr) (ds : List D) (P : D → Prop) : Prop := ∃ (xs : List Rat) (m : Nat), ds = [.tup (xs.map (dQ C))] ∧ 1 ≤ xs.length ∧ xs.length ≤ 1000 ∧ (∀ x ∈ xs, bits x m) ∧ 1 ≤ m ∧ m + m ≤ 8900 ∧ ∀ r s, FPs xs 1 0 r → FPs xs 0 1 s → P (encB (pickP r s))
theorem isn_non {A B : Prop} (h : A) : (D.non = .non → A) ∧ (D.non ≠ .non → B) := ⟨fun _ => h, fun z => absurd rfl z⟩
theorem isn_tup {A B : Prop} {l : List D} (h : B) : (D.tup l = .non → A) ∧ (D.tup l ≠ .non → B) := ⟨(fun z => nomatch z), fun _ => h⟩
theorem bits_zero' {m : Nat} (h : 1 ≤ m) : bits 0 m := bits_mono bits_zero h
theorem bits_one' {m : Nat} (h : 1 ≤ m) : bits 1 m := bits_mono bits_one h
section
variable {A B : Prop}
theorem zb_t (h : A) : ∃ b, D.bl true = .bl b ∧ (b = true → A) ∧ (b = false → B) := ⟨true, rfl, (fun _ => h), (fun z => nomatch z)⟩
theorem zb_f (h : B) : ∃ b, D.bl false = .bl b ∧ (b = true → A) ∧ (b = false → B) := ⟨false, rfl, (fun z => nomatch z), (fun _ => h)⟩
theorem zc_t (h : B) : ∃ b, D.bl true = .bl b ∧ (b = false → A) ∧ (b = true → B) := ⟨true, rfl, (fun z => nomatch z), (fun _ => h)⟩
theorem zc_f (h : A) : ∃ b, D.bl false = .bl b ∧ (b = false → A) ∧ (b = true → B) := ⟨false, rfl, (fun _ => h), (fun z => nomatch z)⟩
theorem pp_t (h : A) : (true = true → A) ∧ (true = false → B) := ⟨(fun _ => h), (fun z => nomatch z)⟩
theorem pp_f (h : B) : (false = true → A) ∧ (false = false → B) := ⟨(fun z => nomatch z), (fun _ => h)⟩
theorem pq_t (h : B) : (true = false → A) ∧ (true = true → B) := ⟨(fun z => nomatch z), (fun _ => h)⟩
theorem pq_f (h : A) : (false = false → A) ∧ (false = true → B) := ⟨(fun _ => h), (fun z => nomatch z)⟩
end
theorem e_chain {K : PySem.W.Frag} {ρ : Rho} {O : Store} {P : D → Store → Prop} {ta tb tc : TE} {r r' : R2} (h : wE K ta ρ O fun x O1 => wE K tb ρ O1 fun y O2 => wR K r x y O2 fun z O3 => ∃ k, z = .bl k ∧ (k = true → wE K tc ρ O3 fun w O4 => wR K r' y w O4 P) ∧ (k = false → P (.bl false) O3)) : wE K (tChain r r' ta tb tc) ρ O P := fun F σ B H e hs Q q =>
  h F σ B H e hs _ fun v x O1 B1 H1 p1 e1 hs1 rx => p1 F σ B1 H1 (e.mono e1) hs1 _ fun u y O2 B2 H2 p2 e2 hs2 ry => p2 F v u B2 H2 (rx.mono e2) ry hs2 _ fun z dz O3 B3 H3 p3 e3 hs3 rz => by
    obtain ⟨k, rfl, ht, hf⟩ := p3
    cases rz
    refine ⟨k, rfl, ?_⟩
    have e13 := e1.trans (e2.trans e3)
    cases k with
    | true => exact (ht rfl) F σ B3 H3 (e.mono e13) hs3 _ fun w d O4 B4 H4 p4 e4 hs4 rw' => p4 F u w B4 H4 (ry.mono (e3.trans e4)) rw' hs4 Q (q.ex (e13.trans e4))
    | false => exact (q.ex e13).here hs3 (.raw _) (hf rfl)
theorem r_neT2 {K : PySem.W.Frag} {O : Store} {P : D → Store → Prop} {a b c d : Int} (p : P (.bl (!(decide (a = c) && decide (b = d)))) O) : wR K (rNeD K) (.tup [.int a, .int b]) (.tup [.int c, .int d]) O P := fun F v u B H rx ry hs Q q =>
  ⟨_, _, dp2 rx hs.ex, dp2 ry hs.ex, shaped2 a b, shaped2 c d, by rw [eqv2]; exact q.here hs (.raw _) p⟩
def fitV (vs : List (Int × Int)) (i j : Nat) (inn : Int) (n : Nat) : Prop := ∀ k v, k < n → vs[k]? = some v → (i < k ∧ k < j → v = (inn, 1)) ∧ (k < i ∨ j < k → v = (1 - inn, 1))
def W_fits (ds : List D) (P : D → Prop) : Prop := ∃ (vs : List (Int × Int)) (i j : Nat) (inn : Int), ds = [.lst (vs.map dRP), .int (i : Int), .int (j : Int), .int inn] ∧ vs.length ≤ 8 ∧ ∀ r : Bool, (r = true ↔ fitV vs i j inn vs.length) → P (.bl r)
theorem wT_mono {K : PySem.W.Frag} {t : TT} {ρ : Rho} {O : Store} {P P' : Bool → Store → Prop} (h : wT K t ρ O P) (p : ∀ b O, P b O → P' b O) : wT K t ρ O P' := fun F σ B H e hs Q q => h F σ B H e hs Q fun b O' B2 H2 p1 => q b O' B2 H2 (p b O' p1)
def W_same0 (ds : List D) (P : D → Prop) : Prop := ∃ d : D, ds = [d, d] ∧ ((∃ i : Int, d = .int i) ∨ (∃ s : Str, d = .raw (.str s))) ∧ P (.bl true)
def W_sameP (ds : List D) (P : D → Prop) : Prop := ∃ o, ds = [encB o, encB o] ∧ P (.bl true)
section
variable {A B : Prop}
theorem zd_t (h : B) : ∃ b, D.bl true = .bl b ∧ ((!b) = true → A) ∧ ((!b) = false → B) := ⟨true, rfl, (fun z => nomatch z), (fun _ => h)⟩
theorem zd_f (h : A) : ∃ b, D.bl false = .bl b ∧ ((!b) = true → A) ∧ ((!b) = false → B) := ⟨false, rfl, (fun _ => h), (fun z => nomatch z)⟩
theorem ze_t (h : A) : ∃ b, D.bl true = .bl b ∧ ((!b) = false → A) ∧ ((!b) = true → B) := ⟨true, rfl, (fun _ => h), (fun z => nomatch z)⟩
end
end G
/-! The scene of the later laws: draws, bands, lamps, values, bounds. -/
namespace G
open PySem L2 PySem.Spec PyProof.Rows
/-! draws -/
def mixI (c : Int) (k : Nat) : Int := (c * 48271 + (k : Int) * 69621 + 1) % 2147483647
def drwAt (c : Int) (k : Nat) : Int := if (1000000000000000000 : Int) ≤ c then c / 1009 ^ k % 1009 else (mixI c k * mixI c k + mixI c k * 40692) % 2147483399 / 7
theorem drwAt_nn (c : Int) (k : Nat) : 0 ≤ drwAt c k := by
  unfold drwAt
  split <;> omega
theorem drwAt_lt (c : Int) (k : Nat) : drwAt c k < 536870912 := by
  unfold drwAt
  split <;> omega
def drw (c : Int) (n : Nat) : List Int := (List.range n).map (drwAt c)
theorem drw_len (c : Int) (n : Nat) : (drw c n).length = n := by simp [drw]
theorem drw_succ (c : Int) (n : Nat) : drw c (n + 1) = drw c n ++ [drwAt c n] := by simp [drw, List.range_succ]
theorem drw_get (c : Int) {n i : Nat} (h : i < n) : (drw c n)[i]? = some (drwAt c i) := by simp [drw, h]
theorem rest_succ (c : Int) (k : Nat) : c / 1009 ^ k / 1009 = c / 1009 ^ (k + 1) := by
  have h : (0 : Int) < 1009 ^ k := Int.pow_pos (by decide)
  rw [Int.ediv_ediv, if_neg (by omega), Int.pow_succ, Int.sub_zero]
/-! bands -/
def mt3 (m t : Int) : I3 := ⟨m, m * t, m * t * t⟩
def turn3 (r : I3) (n : Int) : I3 := if n = 0 then r else if n = 1 then ⟨r.y, r.z, r.x⟩ else ⟨r.z, r.x, r.y⟩
theorem det_turn (a b c : I3) (n : Int) : detI (turn3 a n) (turn3 b n) (turn3 c n) = detI a b c := by
  unfold turn3
  split
  · rfl
  · split <;> (simp only [detI]; grind)
theorem det_cyc (a b c : I3) : detI b c a = detI a b c := by
  simp only [detI]; grind
theorem det_mt (a b c t u v : Int) : detI (mt3 a t) (mt3 b u) (mt3 c v) = a * b * c * ((u - t) * (v - t) * (v - u)) := by
  simp only [detI, mt3]; grind
theorem mtt_ok {m t : Int} (h0 : 1 ≤ m) (h3 : m ≤ 3) (t0 : 0 ≤ t) (h : m * t * t ≤ 100) : okRow (mt3 m t) := by
  have e : m * t * t = m * (t * t) := by grind
  have s0 : 0 ≤ t * t := Int.mul_nonneg t0 t0
  have p1 : 0 ≤ m * t := Int.mul_nonneg (by omega) t0
  have p2 : 0 ≤ m * (t * t) := Int.mul_nonneg (by omega) s0
  have hm : m = 1 ∨ m = 2 ∨ m = 3 := by omega
  have t100 : t * t ≤ 100 := by
    rcases hm with rfl | rfl | rfl <;> omega
  have t10 : t ≤ 10 := by
    refine Int.le_of_not_gt fun z => ?_
    have : 11 * 11 ≤ t * t := Int.mul_le_mul (by omega) (by omega) (by decide) t0
    omega
  refine ⟨⟨by show 0 ≤ m; omega, by show m ≤ 100; omega⟩, ⟨p1, ?_⟩, ⟨by show 0 ≤ m * t * t; rw [e]; exact p2, h⟩⟩
  show m * t ≤ 100
  rcases hm with rfl | rfl | rfl <;> omega
/-- the pairs (m, t) of the bands so far; all t below the next one -/
def ascB (ps : List (Int × Int)) (t : Int) : Prop := (∀ p ∈ ps, 1 ≤ p.1 ∧ p.1 ≤ 3 ∧ 0 ≤ p.2 ∧ p.2 < t ∧ p.1 * p.2 * p.2 ≤ 100) ∧ ps.Pairwise (fun p q => p.2 < q.2)
def rowsB (ps : List (Int × Int)) (n : Int) : List I3 := ps.map fun p => turn3 (mt3 p.1 p.2) n
theorem ascB_nil : ascB [] 0 := ⟨(fun _ h => nomatch h), .nil⟩
theorem ascB_snoc {ps : List (Int × Int)} {m t u : Int} (h : ascB ps t) (m1 : 1 ≤ m) (m3 : m ≤ 3) (t0 : 0 ≤ t) (hm : m * t * t ≤ 100) (hu : t < u) : ascB (ps ++ [(m, t)]) u := by
  refine ⟨fun p hp => ?_, List.pairwise_append.mpr ⟨h.2, List.pairwise_singleton _ _, fun a ha b hb => ?_⟩⟩
  · rcases List.mem_append.mp hp with q | q
    · have := h.1 p q
      exact ⟨this.1, this.2.1, this.2.2.1, by omega, this.2.2.2.2⟩
    · rw [List.mem_singleton.mp q]
      exact ⟨m1, m3, t0, hu, hm⟩
  · rw [List.mem_singleton.mp hb]
    exact (h.1 a ha).2.2.2.1
theorem getD_map' {α β : Type} (f : α → β) (xs : List α) (i : Nat) (a : α) (b : β) (h : i < xs.length) : (xs.map f).getD i b = f (xs.getD i a) := by
  rw [List.getD_eq_getElem?_getD, List.getD_eq_getElem?_getD, List.getElem?_map, List.getElem?_eq_getElem h]
  rfl
theorem reg_rows {ps : List (Int × Int)} {t : Int} (n : Int) (h : ascB ps t) : regular (rowsB ps n) := by
  intro i j k hij hjk hk
  unfold rowsB at hk ⊢
  rw [List.length_map] at hk
  rw [getD_map' _ _ i (0, 0) _ (by omega), getD_map' _ _ j (0, 0) _ (by omega), getD_map' _ _ k (0, 0) _ hk, det_turn, det_mt]
  have gi : ∀ i, i < ps.length → ps.getD i (0, 0) ∈ ps := fun i hi => by
    rw [List.getD_eq_getElem?_getD, List.getElem?_eq_getElem hi]
    exact List.getElem_mem hi
  have lt : ∀ i j, i < j → j < ps.length → (ps.getD i (0, 0)).2 < (ps.getD j (0, 0)).2 := fun i j hij hj => by
    rw [List.getD_eq_getElem?_getD, List.getD_eq_getElem?_getD, List.getElem?_eq_getElem hj, List.getElem?_eq_getElem (by omega : i < ps.length)]
    exact List.pairwise_iff_getElem.mp h.2 i j (by omega) hj hij
  have a := h.1 _ (gi i (by omega))
  have b := h.1 _ (gi j (by omega))
  have c := h.1 _ (gi k hk)
  have ab := lt i j hij (by omega)
  have bc := lt j k hjk hk
  exact Int.mul_pos (Int.mul_pos (Int.mul_pos (by omega) (by omega)) (by omega)) (Int.mul_pos (Int.mul_pos (by omega) (by omega)) (by omega))
theorem turn_ok {r : I3} (n : Int) (h : okRow r) : okRow (turn3 r n) := by
  unfold turn3
  obtain ⟨h1, h2, h3⟩ := h
  split
  · exact ⟨h1, h2, h3⟩
  · split
    · exact ⟨h2, h3, h1⟩
    · exact ⟨h3, h1, h2⟩
theorem ok_rows {ps : List (Int × Int)} {t : Int} (n : Int) (h : ascB ps t) : ∀ r ∈ rowsB ps n, okRow r := by
  intro r hr
  obtain ⟨p, hp, rfl⟩ := List.mem_map.mp hr
  have := h.1 p hp
  exact turn_ok n (mtt_ok this.1 this.2.1 this.2.2.1 this.2.2.2.2)
def rotL {α : Type} (xs : List α) (n : Nat) : List α := xs.drop n ++ xs.take n
theorem rotL_len {α : Type} {xs : List α} {n : Nat} (h : n ≤ xs.length) : (rotL xs n).length = xs.length := by
  unfold rotL
  rw [List.length_append, List.length_drop, List.length_take]
  omega
theorem rotL_get {xs : List I3} {n i : Nat} (h : n ≤ xs.length) (hi : i < xs.length) : (rotL xs n).getD i zI = xs.getD (if i + n < xs.length then i + n else i + n - xs.length) zI := by
  unfold rotL
  rw [List.getD_eq_getElem?_getD, List.getD_eq_getElem?_getD, List.getElem?_append, List.length_drop]
  split
  · rw [if_pos (by omega), List.getElem?_drop, Nat.add_comm]
  · rw [if_neg (by omega), List.getElem?_take, if_pos (by omega)]
    congr 2
    omega
theorem reg_rot {xs : List I3} {n : Nat} (hn : n ≤ xs.length) (h : regular xs) : regular (rotL xs n) := by
  intro i j k hij hjk hk
  rw [rotL_len hn] at hk
  rw [rotL_get hn (by omega), rotL_get hn (by omega), rotL_get hn hk]
  by_cases ci : i + n < xs.length
  · by_cases cj : j + n < xs.length
    · by_cases ck : k + n < xs.length
      · rw [if_pos ci, if_pos cj, if_pos ck]
        exact h _ _ _ (by omega) (by omega) ck
      · rw [if_pos ci, if_pos cj, if_neg ck, det_cyc]
        exact h _ _ _ (by omega) (by omega) (by omega)
    · rw [if_pos ci, if_neg cj, if_neg (by omega), ← det_cyc]
      exact h _ _ _ (by omega) (by omega) (by omega)
  · rw [if_neg ci, if_neg (by omega), if_neg (by omega)]
    exact h _ _ _ (by omega) (by omega) (by omega)
theorem ok_rot {xs : List I3} {n : Nat} (hn : n ≤ xs.length) (h : okBands xs) : okBands (rotL xs n) := by
  refine ⟨by rw [rotL_len hn]; exact h.1, by rw [rotL_len hn]; exact h.2.1, fun r hr => h.2.2 r ?_⟩
  rcases List.mem_append.mp hr with q | q
  · exact List.mem_of_mem_drop q
  · exact List.mem_of_mem_take q
/-! lamps, values -/
def lampF (c : Int) (n : Nat) : List Int := (List.range n).map fun k => drwAt c k % 5 + 1
def val0 (c : Int) (n : Nat) : List Int := (List.range n).map fun k => drwAt c (1 + k) % 13
def val1 (c : Int) (n : Nat) : List Int := (List.range n).map fun k => ([0, 12, 12, 6, 0] : List Int).getD (drwAt c (1 + k) % 5).toNat 0
def fst2 (c : Int) (n : Nat) : Int := drwAt c 1 % ((n : Int) - 1)
def snd2 (c : Int) (n : Nat) : Int := fst2 c n + 1 + drwAt c 2 % ((n : Int) - 1 - fst2 c n)
def base2 (c : Int) (n : Nat) : List Int := (List.range n).map fun (k : Nat) => if fst2 c n < (k : Int) ∧ (k : Int) < snd2 c n then 12 * (drwAt c 3 % 2) else 12 - 12 * (drwAt c 3 % 2)
def val2 (c : Int) (n : Nat) : List Int := ((base2 c n).set (fst2 c n).toNat (drwAt c 4 % 13)).set (snd2 c n).toNat (drwAt c 5 % 13)
def valsF (c : Int) (n : Nat) : List Int := if drwAt c 0 % 3 = 0 then val0 c n else if drwAt c 0 % 3 = 1 then val1 c n else val2 c n
theorem fst2_ok {c : Int} {n : Nat} (h : 2 ≤ n) : 0 ≤ fst2 c n ∧ fst2 c n < (n : Int) - 1 := ⟨Int.emod_nonneg _ (by omega), Int.emod_lt_of_pos _ (by omega)⟩
theorem snd2_ok {c : Int} {n : Nat} (h : 2 ≤ n) : fst2 c n < snd2 c n ∧ snd2 c n < (n : Int) := by
  have h1 := fst2_ok (c := c) h
  have h2 := Int.emod_nonneg (drwAt c 2) (show (n : Int) - 1 - fst2 c n ≠ 0 by omega)
  have h3 := Int.emod_lt_of_pos (drwAt c 2) (show 0 < (n : Int) - 1 - fst2 c n by omega)
  unfold snd2
  omega
def ok12 (vs : List Int) : Prop := ∀ v ∈ vs, 0 ≤ v ∧ v ≤ 12
theorem ok12_set {vs : List Int} {i : Nat} {v : Int} (h : ok12 vs) (hv : 0 ≤ v ∧ v ≤ 12) : ok12 (vs.set i v) := fun w hw => by
  rcases List.mem_or_eq_of_mem_set hw with q | q
  · exact h w q
  · rw [q]; exact hv
theorem vals_ok (c : Int) {n : Nat} : (valsF c n).length = n ∧ ok12 (valsF c n) := by
  unfold valsF
  split
  · refine ⟨by simp [val0], fun v hv => ?_⟩
    obtain ⟨k, _, rfl⟩ := List.mem_map.mp hv
    omega
  · split
    · refine ⟨by simp [val1], fun v hv => ?_⟩
      obtain ⟨k, _, rfl⟩ := List.mem_map.mp hv
      have : ∀ j : Nat, 0 ≤ ([0, 12, 12, 6, 0] : List Int).getD j 0 ∧ ([0, 12, 12, 6, 0] : List Int).getD j 0 ≤ 12 := fun j => by
        match j with
        | 0 => decide
        | 1 => decide
        | 2 => decide
        | 3 => decide
        | 4 => decide
        | j + 5 => simp
      exact this _
    · refine ⟨by simp [val2, base2], ok12_set (ok12_set (fun v hv => ?_) (by omega)) (by omega)⟩
      obtain ⟨k, _, rfl⟩ := List.mem_map.mp hv
      split <;> omega
theorem lamp_ok (c : Int) {n : Nat} : (lampF c n).length = n ∧ ∀ l ∈ lampF c n, 1 ≤ l ∧ l ≤ 5 := by
  refine ⟨by simp [lampF], fun v hv => ?_⟩
  obtain ⟨k, _, rfl⟩ := List.mem_map.mp hv
  omega
/-! sums over places -/
def sR (n : Nat) (f : Nat → Int) : Int := ((List.range n).map f).sum
theorem sR_zero (f : Nat → Int) : sR 0 f = 0 := rfl
theorem sR_succ (n : Nat) (f : Nat → Int) : sR (n + 1) f = sR n f + f n := by
  unfold sR
  rw [List.range_succ, List.map_append, List.sum_append]
  simp
theorem sR_congr {n : Nat} {f g : Nat → Int} (h : ∀ k, k < n → f k = g k) : sR n f = sR n g := by
  induction n with
  | zero => rfl
  | succ n ih => rw [sR_succ, sR_succ, ih fun k hk => h k (by omega), h n (by omega)]
theorem sR_le {n : Nat} {f g : Nat → Int} (h : ∀ k, k < n → f k ≤ g k) : sR n f ≤ sR n g := by
  induction n with
  | zero => exact Int.le_refl _
  | succ n ih =>
    rw [sR_succ, sR_succ]
    exact Int.add_le_add (ih fun k hk => h k (by omega)) (h n (by omega))
theorem sR_mul (n : Nat) (a : Int) (f : Nat → Int) : sR n (fun k => a * f k) = a * sR n f := by
  induction n with
  | zero => simp [sR]
  | succ n ih => rw [sR_succ, sR_succ, ih, Int.mul_add]
theorem sR_add (n : Nat) (f g : Nat → Int) : sR n (fun k => f k + g k) = sR n f + sR n g := by
  induction n with
  | zero => simp [sR]
  | succ n ih => rw [sR_succ, sR_succ, sR_succ, ih]; omega
theorem sR_sub (n : Nat) (f g : Nat → Int) : sR n (fun k => f k - g k) = sR n f - sR n g := by
  induction n with
  | zero => simp [sR]
  | succ n ih => rw [sR_succ, sR_succ, sR_succ, ih]; omega
theorem sR_nn {n : Nat} {f : Nat → Int} (h : ∀ k, k < n → 0 ≤ f k) : 0 ≤ sR n f := by
  have := sR_le (f := fun _ => 0) h
  have e : sR n (fun _ => 0) = 0 := by
    have := sR_mul n 0 (fun _ => 0)
    simpa using this
  omega
theorem sR_abs {n : Nat} {f : Nat → Int} {b : Nat} (h : ∀ k, k < n → (f k).natAbs ≤ b) : (sR n f).natAbs ≤ n * b := by
  induction n with
  | zero => simp [sR]
  | succ n ih =>
    rw [sR_succ, Nat.succ_mul]
    have h1 := ih fun k hk => h k (by omega)
    have h2 := h n (by omega)
    omega
/-- a range's sum with some left out -/
theorem sR_filter (n : Nat) (p : Nat → Bool) (f : Nat → Int) : (((List.range n).filter p).map f).sum = sR n fun k => if p k then f k else 0 := by
  induction n with
  | zero => rfl
  | succ n ih =>
    rw [sR_succ, ← ih, List.range_succ, List.filter_append, List.map_append, List.sum_append]
    cases h : p n with
    | true => simp [h]
    | false => simp [h]
/-! colors of values, bounds -/
def gI (gs : List I3) (k : Nat) : I3 := gs.getD k zI
def sumI (gs : List I3) (vs : List Int) : I3 := ⟨sR gs.length fun k => vs.getD k 0 * (gI gs k).x, sR gs.length fun k => vs.getD k 0 * (gI gs k).y, sR gs.length fun k => vs.getD k 0 * (gI gs k).z⟩
theorem det_lin3 (a b : I3) (n : Nat) (v : Nat → Int) (g : Nat → I3) : detI a b ⟨sR n fun k => v k * (g k).x, sR n fun k => v k * (g k).y, sR n fun k => v k * (g k).z⟩ = sR n fun k => v k * detI a b (g k) := by
  induction n with
  | zero => simp [sR, detI]
  | succ n ih =>
    simp only [sR_succ]
    rw [← ih]
    simp only [detI]
    grind
theorem det_sumI (gs : List I3) (vs : List Int) (a b : I3) : detI a b (sumI gs vs) = sR gs.length fun k => vs.getD k 0 * detI a b (gI gs k) := det_lin3 a b _ _ _
/-- between two bands; outside of them -/
def onB (i j : Nat) (lo : Bool) (k : Nat) : Bool := if lo then decide (i < k) && decide (k < j) else decide (k < i) || decide (j < k)
def bndI (gs : List I3) (i j : Nat) (lo : Bool) : Int := sR gs.length fun k => if onB i j lo k then detI (gI gs i) (gI gs j) (gI gs k) else 0
theorem det_sw (a b c : I3) : detI a c b = -detI a b c := by
  simp only [detI]; grind
theorem det_sw1 (a b c : I3) : detI b a c = -detI a b c := by
  simp only [detI]; grind
theorem det_aa (a b : I3) : detI a b a = 0 := by
  simp only [detI]; grind
theorem det_bb (a b : I3) : detI a b b = 0 := by
  simp only [detI]; grind
section
variable {gs : List I3} {i j k : Nat}
theorem dt_in (h : regular gs) (h1 : i < k) (h2 : k < j) (hj : j < gs.length) : detI (gI gs i) (gI gs j) (gI gs k) < 0 := by
  have := h i k j h1 h2 hj
  rw [det_sw]
  unfold gI
  omega
theorem dt_lo (h : regular gs) (h1 : k < i) (h2 : i < j) (hj : j < gs.length) : 0 < detI (gI gs i) (gI gs j) (gI gs k) := by
  have := h k i j h1 h2 hj
  rw [← det_cyc] at this
  exact this
theorem dt_hi (h : regular gs) (h1 : i < j) (h2 : j < k) (hk : k < gs.length) : 0 < detI (gI gs i) (gI gs j) (gI gs k) := h i j k h1 h2 hk
theorem low_le (h : regular gs) (_ : i < j) (hj : j < gs.length) : bndI gs i j true ≤ 0 := by
  have := sR_le (n := gs.length) (f := fun k => if onB i j true k then detI (gI gs i) (gI gs j) (gI gs k) else 0) (g := fun _ => 0) fun k hk => by
    show (if onB i j true k then _ else _) ≤ (0 : Int)
    split
    · rename_i c
      simp [onB] at c
      exact Int.le_of_lt (dt_in h c.1 c.2 hj)
    · exact Int.le_refl _
  have e : sR gs.length (fun _ => 0) = 0 := by
    have := sR_mul gs.length 0 (fun _ => 0)
    simpa using this
  unfold bndI
  omega
theorem high_ge (h : regular gs) (hij : i < j) (hj : j < gs.length) : 0 ≤ bndI gs i j false := by
  refine sR_nn fun k hk => ?_
  split
  · rename_i c
    simp [onB] at c
    rcases c with c | c
    · exact Int.le_of_lt (dt_lo h c hij hj)
    · exact Int.le_of_lt (dt_hi h hij c hk)
  · exact Int.le_refl _
/-- the color of values from 0 to m lies between the bounds, times m -/
theorem sum_between (h : regular gs) (hij : i < j) (hj : j < gs.length) {v : Nat → Int} {m : Int} (hv : ∀ k, k < gs.length → 0 ≤ v k ∧ v k ≤ m) :
    m * bndI gs i j true ≤ sR gs.length (fun k => v k * detI (gI gs i) (gI gs j) (gI gs k)) ∧ sR gs.length (fun k => v k * detI (gI gs i) (gI gs j) (gI gs k)) ≤ m * bndI gs i j false := by
  unfold bndI
  rw [← sR_mul, ← sR_mul]
  have key : ∀ k, k < gs.length → (detI (gI gs i) (gI gs j) (gI gs k) < 0 ∧ onB i j true k = true ∧ onB i j false k = false) ∨ (0 < detI (gI gs i) (gI gs j) (gI gs k) ∧ onB i j true k = false ∧ onB i j false k = true) ∨ (detI (gI gs i) (gI gs j) (gI gs k) = 0 ∧ onB i j true k = false ∧ onB i j false k = false) := by
    intro k hk
    by_cases h1 : k < i
    · exact .inr (.inl ⟨dt_lo h h1 hij hj, by simp [onB]; omega, by simp [onB]; omega⟩)
    · by_cases h2 : k = i
      · subst h2
        exact .inr (.inr ⟨det_aa _ _, by simp [onB], by simp [onB]; omega⟩)
      · by_cases h3 : k < j
        · exact .inl ⟨dt_in h (by omega) h3 hj, by simp [onB]; omega, by simp [onB]; omega⟩
        · by_cases h4 : k = j
          · subst h4
            exact .inr (.inr ⟨det_bb _ _, by simp [onB], by simp [onB]; omega⟩)
          · exact .inr (.inl ⟨dt_hi h hij (by omega) hk, by simp [onB]; omega, by simp [onB]; omega⟩)
  constructor
  · refine sR_le fun k hk => ?_
    have hvk := hv k hk
    rcases key k hk with ⟨a, b, c⟩ | ⟨a, b, c⟩ | ⟨a, b, c⟩
    · simp only [b, if_true]
      exact Int.mul_le_mul_of_nonpos_right hvk.2 (Int.le_of_lt a)
    · simp only [b]
      have := Int.mul_nonneg hvk.1 (Int.le_of_lt a)
      simpa using this
    · simp [a, b]
  · refine sR_le fun k hk => ?_
    have hvk := hv k hk
    rcases key k hk with ⟨a, b, c⟩ | ⟨a, b, c⟩ | ⟨a, b, c⟩
    · simp only [c]
      have := Int.mul_nonpos_of_nonneg_of_nonpos hvk.1 (Int.le_of_lt a)
      simpa using this
    · simp only [c, if_true]
      exact Int.mul_le_mul_of_nonneg_right hvk.2 (Int.le_of_lt a)
    · simp [a, c]
end
/-! encodings and rules -/
abbrev dL (l : List Int) : D := .lst (l.map fun i => D.int i)
abbrev dG (gs : List I3) : D := .lst (gs.map tRow)
section
variable {K : PySem.W.Frag} {ρ : Rho} {O : Store} {P : D → Store → Prop} {te : TE} {wi : TI} {gg : TG} {vs : List Nat}
theorem at_drw {c : Int} {n : Nat} {i : Int} (h0 : 0 ≤ i) (h : i < (n : Int)) : atI ((drw c n).map fun i => D.int i) i = some (.int (drwAt c i.toNat)) := by
  rw [atI_nat' h0 (by rw [List.length_map, drw_len]; exact h), List.getElem?_map, drw_get c (by omega)]
  rfl
theorem r_drw {c : Int} {n : Nat} {i : Int} (h : 0 ≤ i ∧ i < (n : Int)) (p : P (.int (drwAt c i.toNat)) O) : wR K (rIxL K) (dL (drw c n)) (.int i) O P := r_ixL (at_drw h.1 h.2) p
/-- an item of a list of ints -/
theorem at_dL {l : List Int} {i : Int} (h0 : 0 ≤ i) (h : i < (l.length : Int)) : atI (l.map fun i => D.int i) i = some (.int (l.getD i.toNat 0)) := by
  rw [atI_nat' h0 (by rw [List.length_map]; exact h), List.getElem?_map, List.getD_eq_getElem?_getD, List.getElem?_eq_getElem (by omega : i.toNat < l.length)]
  rfl
theorem r_dL {l : List Int} {i : Int} (h : 0 ≤ i ∧ i < (l.length : Int)) (p : P (.int (l.getD i.toNat 0)) O) : wR K (rIxL K) (dL l) (.int i) O P := r_ixL (at_dL h.1 h.2) p
theorem r_tL {l : List Int} {i : Int} (h : 0 ≤ i ∧ i < (l.length : Int)) (p : P (.int (l.getD i.toNat 0)) O) : wR K (rIxT K) (lampD l) (.int i) O P := r_ixT (at_dL h.1 h.2) p
theorem at_dG {gs : List I3} {i : Int} (h0 : 0 ≤ i) (h : i < (gs.length : Int)) : atI (gs.map tRow) i = some (tRow (gI gs i.toNat)) := by
  rw [atI_nat' h0 (by rw [List.length_map]; exact h), List.getElem?_map, gI, List.getD_eq_getElem?_getD, List.getElem?_eq_getElem (by omega : i.toNat < gs.length)]
  rfl
theorem r_dG {gs : List I3} {i : Int} (h : 0 ≤ i ∧ i < (gs.length : Int)) (p : P (tRow (gI gs i.toNat)) O) : wR K (rIxL K) (dG gs) (.int i) O P := r_ixL (at_dG h.1 h.2) p
theorem r_bG {gs : List I3} {i : Int} (h : 0 ≤ i ∧ i < (gs.length : Int)) (p : P (tRow (gI gs i.toNat)) O) : wR K (rIxT K) (bD gs) (.int i) O P := r_ixT (at_dG h.1 h.2) p
/-- [e for x in xs if t], e and t without any change of what is owned -/
theorem e_lcF {α : Type} {tt : TT} (f : α → D) (keep : α → Bool) (g : α → D) (hg : GOnly gg vs) (mg : GMono gg) (h : wI K wi ρ O fun ds O1 => ∃ xs : List α, ds = xs.map f ∧ xs.length < 90000 ∧
    (∀ x ∈ xs, wG K gg (f x) (wipeR ρ vs) O1 fun ρ2 O2 => wT K tt ρ2 O2 fun b O3 => b = keep x ∧ O3 = O1 ∧ (b = true → wE K te ρ2 O1 fun y O4 => y = g x ∧ O4 = O1)) ∧ P (.lst ((xs.filter keep).map g)) O1) : wE K (tLc wi gg tt te vs) ρ O P := by
  refine e_lc hg mg fun F σ B H e hs R q => h F σ B H e hs R fun J ds O' B2 H2 p e2 hs2 it => ?_
  obtain ⟨xs, rfl, hl, step, fin⟩ := p
  refine q J _ O' B2 H2 ⟨by rw [List.length_map]; exact hl, fun i acc O3 => acc = ((xs.take i).filter keep).map g ∧ O3 = O', ⟨rfl, rfl⟩, ?_, ?_⟩ e2 hs2 it
  · rintro i d acc O3 hd hal ⟨rfl, rfl⟩
    rw [List.getElem?_map] at hd
    cases hx : xs[i]? with
    | none => rw [hx] at hd; cases hd
    | some x =>
      rw [hx] at hd
      cases hd
      have et : xs.take (i + 1) = xs.take i ++ [x] := by
        rw [List.take_succ, hx]
        rfl
      intro F1 v σ1 B1 H1 e1 hs1 r1 Q1 q1
      refine step x (List.mem_of_getElem? hx) F1 v σ1 B1 H1 e1 hs1 r1 Q1 fun σ' ρ' O4 B3 H3 p3 => ?_
      refine q1 σ' ρ' _ B3 H3 (wT_mono p3 fun b O5 z => ?_)
      obtain ⟨hb, rfl, hy⟩ := z
      refine ⟨fun hb' => (hy hb').mono fun y O6 z => ?_, fun hb' => ⟨?_, rfl⟩⟩
      · obtain ⟨rfl, rfl⟩ := z
        refine ⟨?_, rfl⟩
        rw [et, List.filter_append, List.map_append]
        simp [← hb, hb']
      · rw [et, List.filter_append, List.map_append]
        simp [← hb, hb']
  · rintro acc O3 ⟨rfl, rfl⟩
    rw [List.length_map, List.take_length]
    exact fin
end
end G
/-! list(range(n)); [e for .. for ..]; words of the scene. -/
namespace G
open PySem L2 PySem.Spec PyProof.Rows
section
variable {K : PySem.W.Frag} {ρ : Rho} {O : Store} {P : D → Store → Prop} {te : TE}
theorem e_lstRg (h : wE K te ρ O fun d O1 => ∃ n : Int, d = .int n ∧ 0 ≤ n ∧ n ≤ 1000000 ∧ P (.lst (rangeD 0 n.toNat)) O1) : wE K (tLstRg (tRg1 te)) ρ O P := fun F σ B H e hs Q q =>
  h F σ B H e hs _ fun v d O1 B1 H1 p1 e1 hs1 r => by
    obtain ⟨n, rfl, h0, h1, p⟩ := p1
    cases r
    refine ⟨n, rfl, .of_le (by omega) (by omega) (by omega) h0, fun l hl => ?_⟩
    obtain ⟨hs2, e2⟩ := hs1.new (o := .lst _) hl
    refine q _ _ O1 _ _ p (e1.trans e2) hs2 (.lst upd_same ?_)
    have e3 : rangeD 0 n.toNat = (L2.rgV 0 n).map D.raw := by
      unfold rangeD L2.rgV
      rw [List.map_map, Int.sub_zero]
      rfl
    rw [e3]
    exact Reps.raws _
end
section
variable {K : PySem.W.Frag} {ρ : Rho} {O : Store} {P : D → Store → Prop} {te : TE} {wi wi1 : TI} {g g1 : TG} {tt tt1 : TT} {vs vs1 : List Nat}
/-- [e for g in .. if .. for g1 in .. if ..], nothing owned is changed -/
theorem e_lc2 (hg : GOnly g vs) (mg : GMono g) (hg1 : GOnly g1 vs1) (mg1 : GMono g1) (h : wI K wi ρ O fun ds O1 => ds.length < 300 ∧ ∃ I : Nat → List D → Prop, I 0 [] ∧
    (∀ i d acc, ds[i]? = some d → I i acc → wG K g d (wipeR ρ vs) O1 fun ρ2 O2 => wT K tt ρ2 O2 fun b O3 => O3 = O1 ∧ (b = false → I (i + 1) acc) ∧ (b = true → wI K wi1 ρ2 O1 fun es O4 => O4 = O1 ∧ es.length < 300 ∧ ∃ J : Nat → List D → Prop, J 0 acc ∧
      (∀ j d acc, es[j]? = some d → J j acc → wG K g1 d (wipeR ρ2 vs1) O1 fun ρ3 O5 => wT K tt1 ρ3 O5 fun b O6 => O6 = O1 ∧ (b = false → J (j + 1) acc) ∧ (b = true → wE K te ρ3 O1 fun y O7 => O7 = O1 ∧ J (j + 1) (acc ++ [y]))) ∧ ∀ acc, J es.length acc → I (i + 1) acc)) ∧
    ∀ acc, I ds.length acc → P (.lst acc) O1) : wE K (tLc2 wi g tt wi1 g1 tt1 te vs vs1) ρ O P := fun F σ B H e hs Q q => by
  refine h F σ B H e hs _ fun J0 ds O1 B1 H1 p1 e1 hs1 it => ?_
  obtain ⟨hlen, I, h0, hstep, hend⟩ := p1
  intro Dl hDl
  let W : Nat → Hp → Prop := fun i H' => ∃ acc B', I i acc ∧ acc.length ≤ i * 300 ∧ Ex B1 B' ∧ Hs K B' H' ((Dl, Own.lst acc) :: (O1 ++ F))
  refine ⟨fun i m H' => m = ds.length - i ∧ i ≤ ds.length ∧ W i H', ⟨_, rfl, Nat.zero_le _, [], B1, h0, Nat.le_refl _, Evl.Ex.refl _, hs1.newOwn (w := .lst []) hDl ⟨[], upd_same, .nil⟩⟩, ?_⟩
  rintro i m H' ⟨rfl, hi, acc, B', hI, hal, eB, hs'⟩
  have turn := it B' H' _ eB hs' i
  cases hd : ds[i]? with
  | none =>
    have hle := List.getElem?_eq_none_iff.mp hd
    have hii : i = ds.length := by omega
    subst hii
    refine .inl ⟨turn.2 hd, ?_⟩
    obtain ⟨ws, hw, rw_⟩ := (hs'.own _ List.mem_cons_self).2
    obtain ⟨hs2, e2⟩ := hs'.freeze hw
    exact q _ _ O1 _ H' (hend acc hI) ((e1.trans eB).trans e2) hs2 (.lst upd_same (rw_.mono e2))
  | some d =>
    have hlt : i < ds.length := (List.getElem?_eq_some_iff.mp hd).1
    obtain ⟨go, hy⟩ := turn.1 d hd
    refine .inr ⟨go, W (i + 1), fun H2 w2 => ⟨ds.length - (i + 1), by omega, rfl, hlt, w2⟩, fun x H2 y => ?_⟩
    obtain ⟨B2, e2, hs2, rx⟩ := hy x H2 y
    have back : ∀ {B5 H5 : Hp} {O5 : Store} {acc : List D}, Hs K B5 H5 (O5 ++ (F ++ [(Dl, Own.lst acc)])) → Hs K B5 H5 ((Dl, Own.lst acc) :: (O5 ++ F)) := fun hz => hz.perm (by rw [← List.append_assoc]; exact List.perm_append_singleton _ _)
    have forth : ∀ {B5 H5 : Hp} {O5 : Store} {acc : List D}, Hs K B5 H5 ((Dl, Own.lst acc) :: (O5 ++ F)) → Hs K B5 H5 (O5 ++ (F ++ [(Dl, Own.lst acc)])) := fun hz => hz.perm (by rw [← List.append_assoc]; exact (List.perm_append_singleton _ _).symm)
    have hs2' := forth hs2
    have en0 : EnvR K B2 (L2.wipe σ vs) (wipeR ρ vs) := ((((e.mono e1).mono eB).mono e2)).wipe vs
    refine mg _ _ _ _ _ (fun σ3 H3 z => ⟨wipe_same z.1, z.2⟩) (hg _ _ _ _ ?_)
    refine hstep i d acc hd hI (F ++ [(Dl, Own.lst acc)]) x (L2.wipe σ vs) B2 H2 en0 hs2' rx _ fun σ3 ρ3 O3 B3 H3 p3 e3 hs3 en3 => ?_
    refine p3 _ σ3 B3 H3 en3 hs3 _ fun b O4 B4 H4 p4 e4 hs4 => ?_
    obtain ⟨rfl, pf, pt⟩ := p4
    have eC : Ex B1 B4 := ((eB.trans e2).trans e3).trans e4
    cases b with
    | false =>
      show (if false = true then _ else _)
      rw [if_neg Bool.false_ne_true]
      exact ⟨acc, B4, pf rfl, by omega, eC, back hs4⟩
    | true =>
      show (if true = true then _ else _)
      rw [if_pos rfl]
      refine pt rfl _ σ3 B4 H4 (en3.mono e4) hs4 _ fun J1 es O5 B5 H5 p5 e5 hs5 it1 => ?_
      obtain ⟨rfl, hes, J, hJ0, jstep, jend⟩ := p5
      let W1 : Nat → Hp → Prop := fun j H' => ∃ acc' B', J j acc' ∧ acc'.length ≤ i * 300 + j ∧ Ex B5 B' ∧ Hs K B' H' ((Dl, Own.lst acc') :: (O5 ++ F))
      refine ⟨fun j m H' => m = es.length - j ∧ j ≤ es.length ∧ W1 j H', ⟨_, rfl, Nat.zero_le _, acc, B5, hJ0, by omega, Evl.Ex.refl _, back hs5⟩, ?_⟩
      rintro j m1 H6 ⟨rfl, hj, acc', B6, hJ, hal', e6, hs6⟩
      have turn1 := it1 B6 H6 _ e6 hs6 j
      cases hd1 : es[j]? with
      | none =>
        have hle := List.getElem?_eq_none_iff.mp hd1
        have hjj : j = es.length := by omega
        subst hjj
        exact .inl ⟨turn1.2 hd1, acc', B6, jend acc' hJ, by omega, (eC.trans e5).trans e6, hs6⟩
      | some d1 =>
        have hlt1 : j < es.length := (List.getElem?_eq_some_iff.mp hd1).1
        obtain ⟨go1, hy1⟩ := turn1.1 d1 hd1
        refine .inr ⟨go1, W1 (j + 1), fun H7 w7 => ⟨es.length - (j + 1), by omega, rfl, hlt1, w7⟩, fun x1 H7 y1 => ?_⟩
        obtain ⟨B7, e7, hs7, rx1⟩ := hy1 x1 H7 y1
        have hs7' := forth hs7
        have en1 : EnvR K B7 (L2.wipe σ3 vs1) (wipeR ρ3 vs1) := ((((en3.mono e4).mono e5).mono e6).mono e7).wipe vs1
        refine mg1 _ _ _ _ _ (fun σ8 H8 z => ⟨wipe_same z.1, z.2⟩) (hg1 _ _ _ _ ?_)
        refine jstep j d1 acc' hd1 hJ (F ++ [(Dl, Own.lst acc')]) x1 (L2.wipe σ3 vs1) B7 H7 en1 hs7' rx1 _ fun σ8 ρ8 O8 B8 H8 p8 e8 hs8 en8 => ?_
        refine p8 _ σ8 B8 H8 en8 hs8 _ fun b1 O9 B9 H9 p9 e9 hs9 => ?_
        obtain ⟨rfl, qf, qt⟩ := p9
        cases b1 with
        | false =>
          show (if false = true then _ else _)
          rw [if_neg Bool.false_ne_true]
          exact ⟨acc', B9, qf rfl, by omega, ((e6.trans e7).trans e8).trans e9, back hs9⟩
        | true =>
          show (if true = true then _ else _)
          rw [if_pos rfl]
          refine qt rfl _ σ8 B9 H9 (en8.mono e9) hs9 _ fun u y O10 B10 H10 p10 e10 hs10 ry => ?_
          obtain ⟨rfl, p10⟩ := p10
          have hs11 := back hs10
          obtain ⟨ws, hw, rws⟩ := (hs11.own _ List.mem_cons_self).2
          refine ⟨ws, hw, Evl.sz_lt (by rw [rws.length]; omega), acc' ++ [y], B10, p10, by rw [List.length_append]; simp; omega, (((e6.trans e7).trans e8).trans e9).trans e10, ?_⟩
          exact hs11.write (o := .lst (ws ++ [u])) .here ⟨_, upd_same, rws.append (.cons ry .nil)⟩
end
/-! words of the scene -/
def okLamp5 (bs : List I3) (ls : List Int) : Prop := ls.length = bs.length ∧ ∀ l ∈ ls, 1 ≤ l ∧ l ≤ 5
theorem okLamp5.lamp {bs : List I3} {ls : List Int} (h : okLamp5 bs ls) : okLamp bs ls := ⟨h.1, fun l hl => ⟨(h.2 l hl).1, by have := (h.2 l hl).2; omega⟩⟩
def W_drw (ds : List D) (P : D → Prop) : Prop := ∃ (c : Int) (n : Nat), ds = [.int c, .int (n : Int)] ∧ n ≤ 60 ∧ P (dL (drw c n))
theorem k_drw {c : Int} {P : D → Prop} {m : Int} (h : 0 ≤ m ∧ m ≤ 60) (p : P (dL (drw c m.toNat))) : W_drw [.int c, .int m] P := ⟨c, m.toNat, by rw [show ((m.toNat : Nat) : Int) = m by omega], by omega, p⟩
def W_lbands (ds : List D) (P : D → Prop) : Prop := ∃ c : Int, ds = [.int c] ∧ ∀ bs : List I3, okBands bs → regular bs → P (bD bs)
def W_llamp (ds : List D) (P : D → Prop) : Prop := ∃ (c : Int) (n : Nat), ds = [.int c, .int (n : Int)] ∧ n ≤ 8 ∧ P (lampD (lampF c n))
def W_lvals (ds : List D) (P : D → Prop) : Prop := ∃ (c : Int) (n : Nat), ds = [.int c, .int (n : Int)] ∧ 4 ≤ n ∧ n ≤ 7 ∧ P (dL (valsF c n))
def W_lgens (ds : List D) (P : D → Prop) : Prop := ∃ (bs : List I3) (ls : List Int), ds = [bD bs, lampD ls] ∧ okBands bs ∧ okLamp5 bs ls ∧ P (dG (gens bs ls))
def smallG (gs : List I3) : Prop := gs.length ≤ 7 ∧ ∀ g ∈ gs, (0 ≤ g.x ∧ g.x ≤ 500) ∧ (0 ≤ g.y ∧ g.y ≤ 500) ∧ (0 ≤ g.z ∧ g.z ≤ 500)
def W_lsum (ds : List D) (P : D → Prop) : Prop := ∃ (gs : List I3) (vs : List Int), ds = [dG gs, dL vs] ∧ vs.length = gs.length ∧ smallG gs ∧ ok12 vs ∧ P (lRow (sumI gs vs))
def W_lcolored (ds : List D) (P : D → Prop) : Prop := ∃ (c : Int) (gs : List I3) (vs : List Int), ds = [.int c, dG gs, dL vs] ∧ vs.length = gs.length ∧ smallG gs ∧ ok12 vs ∧ ∀ r : I3, bI r 18 → P (lRow r)
def W_lquots (C : Addr) (ds : List D) (P : D → Prop) : Prop := ∃ vs : List Int, ds = [dL vs] ∧ vs.length ≤ 100 ∧ P (.tup (vs.map fun v => dQ C (Rat.divInt v 12)))
def W_scene (CV CO C : Addr) (ds : List D) (P : D → Prop) : Prop := ∃ ns : List Int, ds = [scr ns] ∧ ∀ (bs : List I3) (ls vs : List Int) (r : I3), okBands bs → regular bs → okLamp5 bs ls → vs.length = bs.length → ok12 vs → bI r 18 → P (.tup [dView CV CO C bs ls, dG (gens bs ls), dL vs, lRow r])
end G
/-! Rules by rows, with sides for omega. -/
namespace G
open PySem L2 PySem.Spec PyProof.Rows
section
variable {K : PySem.W.Frag} {ρ : Rho} {O : Store} {P : D → Store → Prop} {te : TE} {i j : Int}
theorem r_mod (h : 0 < j) (p : P (.int (i % j)) O) : wR K (rI (fun _ j => 0 < j) fun i j => V.int (i % j)) (.int i) (.int j) O P := r_rI h p
theorem r_fdv (h : 0 < j ∧ j < 18446744073709551616) (p : P (.int (i / j)) O) : wR K (rI CDivG fun i j => V.int (i.fdiv j)) (.int i) (.int j) O P :=
  r_rI (cdivG (n := 64) (by omega) (by omega) (by decide)) (by rw [Int.fdiv_eq_ediv_of_nonneg _ (by omega)]; exact p)
theorem r_mulS (h : (-18446744073709551616 < i ∧ i < 18446744073709551616) ∧ -18446744073709551616 < j ∧ j < 18446744073709551616) (p : P (.int (i * j)) O) : wR K (rI CMulW fun i j => V.int (i * j)) (.int i) (.int j) O P :=
  r_rI (small_wide (by omega) (by omega)) p
theorem r_mulC (h : -18446744073709551616 < j ∧ j < 18446744073709551616) (p : P (.int (i * j)) O) : wR K (rI CMul fun i j => V.int (i * j)) (.int i) (.int j) O P := r_rI (.inr (by omega)) p
theorem r_eqB {a b : Bool} (p : P (.bl (decide (a = b))) O) : wR K rEq (.bl a) (.bl b) O P := r_eq rfl (by
  have e : decide (V.bl a = V.bl b) = decide (a = b) := by cases a <;> cases b <;> rfl
  rw [e]; exact p)
theorem r_eqS {a b : Str} (p : P (.bl (decide (a = b))) O) : wR K rEq (.raw (.str a)) (.raw (.str b)) O P := r_eq rfl (by
  have e : decide (V.str a = V.str b) = decide (a = b) := by
    by_cases h : a = b
    · subst h; rw [decide_eq_true rfl, decide_eq_true rfl]
    · rw [decide_eq_false h, decide_eq_false fun z => h (by cases z; rfl)]
  rw [e]; exact p)
theorem r_neS {a b : Str} (p : P (.bl (!decide (a = b))) O) : wR K rNe (.raw (.str a)) (.raw (.str b)) O P := r_ne rfl (by
  have e : decide (V.str a = V.str b) = decide (a = b) := by
    by_cases h : a = b
    · subst h; rw [decide_eq_true rfl, decide_eq_true rfl]
    · rw [decide_eq_false h, decide_eq_false fun z => h (by cases z; rfl)]
  rw [e]; exact p)
theorem c_sumL {ns : List Int} (p : P (.int ns.sum) O) : wC K (rSum K) [dL ns] O P := c_sum p
theorem cut3_0 {a b c : D} (p : P (.lst [a, b, c]) O) : wZ K (rSlL K) (.lst [a, b, c]) (some 0) none O P := z_lst p
theorem cut3_1 {a b c : D} (p : P (.lst [b, c]) O) : wZ K (rSlL K) (.lst [a, b, c]) (some 1) none O P := z_lst p
theorem cut3_2 {a b c : D} (p : P (.lst [c]) O) : wZ K (rSlL K) (.lst [a, b, c]) (some 2) none O P := z_lst p
theorem cut3_0' {a b c : D} (p : P (.lst []) O) : wZ K (rSlL K) (.lst [a, b, c]) none (some 0) O P := z_lst p
theorem cut3_1' {a b c : D} (p : P (.lst [a]) O) : wZ K (rSlL K) (.lst [a, b, c]) none (some 1) O P := z_lst p
theorem cut3_2' {a b c : D} (p : P (.lst [a, b]) O) : wZ K (rSlL K) (.lst [a, b, c]) none (some 2) O P := z_lst p
/-- a row turned by 0, 1 or 2 -/
def partA (r : I3) (n : Int) : List D := if n = 0 then [.int r.x, .int r.y, .int r.z] else if n = 1 then [.int r.y, .int r.z] else [.int r.z]
def partB (r : I3) (n : Int) : List D := if n = 0 then [] else if n = 1 then [.int r.x] else [.int r.x, .int r.y]
theorem z_tA {r : I3} {n : Int} (hn : n = 0 ∨ n = 1 ∨ n = 2) (p : P (.lst (partA r n)) O) : wZ K (rSlL K) (lRow r) (some n) none O P := by
  rcases hn with rfl | rfl | rfl
  · exact cut3_0 p
  · exact cut3_1 p
  · exact cut3_2 p
theorem z_tB {r : I3} {n : Int} (hn : n = 0 ∨ n = 1 ∨ n = 2) (p : P (.lst (partB r n)) O) : wZ K (rSlL K) (lRow r) none (some n) O P := by
  rcases hn with rfl | rfl | rfl
  · exact cut3_0' p
  · exact cut3_1' p
  · exact cut3_2' p
theorem r_tAB {r : I3} {n : Int} (hn : n = 0 ∨ n = 1 ∨ n = 2) (p : P (lRow (turn3 r n)) O) : wR K rCat (.lst (partA r n)) (.lst (partB r n)) O P := by
  rcases hn with rfl | rfl | rfl
  · exact r_cat (by show 3 + 0 ≤ 100000; decide) p
  · exact r_cat (by show 2 + 1 ≤ 100000; decide) p
  · exact r_cat (by show 1 + 2 ≤ 100000; decide) p
theorem c_tupRow {r : I3} (p : P (tRow r) O) : wC K (rTupOf K) [lRow r] O P := c_tup p
end
section
variable {K : PySem.W.Frag} {ρ : Rho} {O : Store} {P : D → Store → Prop} {te : TE} {wi : TI} {gg : TG} {vs : List Nat}
/-- .. whose list may still change -/
theorem e_lcXO {α : Type} (f g : α → D) (hg : GOnly gg vs) (mg : GMono gg) (h : wI K wi ρ O fun ds O1 => ∃ xs : List α, ds = xs.map f ∧ xs.length < 90000 ∧ (∀ x ∈ xs, wG K gg (f x) (wipeR ρ vs) O1 fun ρ2 O2 => wE K te ρ2 O2 fun y O4 => y = g x ∧ O4 = O1) ∧ ∀ a, P (.loc a) ((a, .lst (xs.map g)) :: O1)) : wE K (tLc wi gg tYes te vs) ρ O P := by
  refine e_lcO hg mg fun F σ B H e hs R q => h F σ B H e hs R fun J ds O' B2 H2 p e2 hs2 it => ?_
  obtain ⟨xs, rfl, hl, step, fin⟩ := p
  refine q J _ O' B2 H2 ⟨by rw [List.length_map]; exact hl, fun i acc O3 => acc = (xs.map g).take i ∧ O3 = O', ⟨rfl, rfl⟩, ?_, ?_⟩ e2 hs2 it
  · rintro i d acc O3 hd hal ⟨rfl, rfl⟩
    rw [List.getElem?_map] at hd
    cases hx : xs[i]? with
    | none => rw [hx] at hd; cases hd
    | some x =>
      rw [hx] at hd
      cases hd
      intro F1 v σ1 B1 H1 e1 hs1 r1 Q1 q1
      refine step x (List.mem_of_getElem? hx) F1 v σ1 B1 H1 e1 hs1 r1 Q1 fun σ' ρ' O4 B3 H3 p3 => ?_
      refine q1 σ' ρ' _ B3 H3 (t_yes ⟨fun _ => p3.mono fun y O5 z => ?_, fun z => nomatch z⟩)
      obtain ⟨rfl, rfl⟩ := z
      refine ⟨?_, rfl⟩
      rw [List.take_succ, List.getElem?_map, hx]
      rfl
  · rintro a acc O3 ⟨rfl, rfl⟩
    rw [List.length_map, List.take_of_length_le (by rw [List.length_map]; exact Nat.le_refl _)]
    exact fin a
theorem ixN_nat {n : Nat} {i : Int} (h0 : 0 ≤ i) (h : i < (n : Int)) : ixN n i = some i.toNat := by
  unfold ixN
  rw [if_pos h0]
  first
    | rw [if_pos (by omega)]
    | (simp; omega)
/-- xs[i] = e, xs owned and first -/
theorem st_setI {a : Addr} {ds : List D} {i : Int} {y : D} {Q : Store → Prop} (h : 0 ≤ i ∧ i < (ds.length : Int)) (p : Q ((a, .lst (ds.set i.toNat y)) :: O)) :
    ∃ a' i' ds' n O4, D.loc a = .loc a' ∧ D.int i = .int i' ∧ ixN ds'.length i' = some n ∧ Put a' (.lst ds') (.lst (ds'.set n y)) ((a, .lst ds) :: O) O4 ∧ Q O4 :=
  ⟨a, i, ds, i.toNat, _, rfl, rfl, ixN_nat h.1 h.2, .here, p⟩
theorem map_setI (vs : List Int) (i : Nat) (v : Int) : (vs.map fun i => D.int i).set i (.int v) = (vs.set i v).map fun i => D.int i := by rw [List.map_set]
theorem g_setL {ta ti : TE} {y : D} {PR : Rho → Store → Prop} (h : wE K ta ρ O fun x O2 => wE K ti ρ O2 fun z O3 => ∃ a i ds n O4, x = .loc a ∧ z = .int i ∧ ixN ds.length i = some n ∧ Put a (.lst ds) (.lst (ds.set n y)) O3 O4 ∧ PR ρ O4) : wG K (gSub ta ti rSetL) y ρ O PR := fun F v σ B H e hs r Q q => by
  refine h F σ B H e hs _ fun u x O2 B2 H2 p2 e2 hs2 rx => ?_
  refine p2 F σ B2 H2 (e.mono e2) hs2 _ fun w z O3 B3 H3 p3 e3 hs3 rz => ?_
  obtain ⟨a, i, ds, n, O4, rfl, rfl, hi, hp, p⟩ := p3
  cases rx; cases rz
  obtain ⟨vs, h1, r1⟩ := (hs3.own _ (List.mem_append_left _ hp.mem)).2
  refine ⟨a, vs, i, n, rfl, rfl, h1, by rw [r1.length]; exact hi, ?_⟩
  have hs4 := hs3.write (o := .lst (vs.set n v)) (hp.appR (F := F)) ⟨_, upd_same, r1.set n ((r.mono e2).mono e3)⟩
  exact q σ ρ O4 B3 _ p (e2.trans e3) hs4 ((e.mono e2).mono e3)
theorem c_sumR {n : Nat} {f : Nat → Int} (p : P (.int (sR n f)) O) : wC K (rSum K) [.lst ((List.range n).map fun k => D.int (f k))] O P := by
  have e : (List.range n).map (fun k => D.int (f k)) = ((List.range n).map f).map fun i => D.int i := by rw [List.map_map]; rfl
  rw [e]
  exact c_sum p
theorem gI_ok {gs : List I3} (h : ∀ r ∈ gs, okRow r) {k : Nat} (hk : k < gs.length) : okRow (gI gs k) := by
  unfold gI
  rw [List.getD_eq_getElem?_getD, List.getElem?_eq_getElem hk]
  exact h _ (List.getElem_mem hk)
theorem gI_sm {gs : List I3} (h : smallG gs) {k : Nat} (hk : k < gs.length) : (0 ≤ (gI gs k).x ∧ (gI gs k).x ≤ 500) ∧ (0 ≤ (gI gs k).y ∧ (gI gs k).y ≤ 500) ∧ (0 ≤ (gI gs k).z ∧ (gI gs k).z ≤ 500) := by
  unfold gI
  rw [List.getD_eq_getElem?_getD, List.getElem?_eq_getElem hk]
  exact h.2 _ (List.getElem_mem hk)
theorem getD_all {l : List Int} {p : Int → Prop} (h : ∀ v ∈ l, p v) {k : Nat} (hk : k < l.length) : p (l.getD k 0) := by
  rw [List.getD_eq_getElem?_getD, List.getElem?_eq_getElem hk]
  exact h _ (List.getElem_mem hk)
theorem gens_eq {bs : List I3} {ls : List Int} (h : ls.length = bs.length) : (List.range bs.length).map (fun k => tRow (mulI (ls.getD k 0) (gI bs k))) = (gens bs ls).map tRow := by
  apply List.ext_getElem?
  intro i
  rw [List.getElem?_map, List.getElem?_map]
  unfold gens
  rw [List.getElem?_zipWith]
  by_cases hi : i < bs.length
  · rw [List.getElem?_range hi, List.getElem?_eq_getElem hi, List.getElem?_eq_getElem (by omega : i < ls.length)]
    simp only [Option.map, gI, List.getD_eq_getElem?_getD]
    rw [List.getElem?_eq_getElem hi, List.getElem?_eq_getElem (by omega : i < ls.length)]
    rfl
  · rw [List.getElem?_eq_none (by rw [List.length_range]; omega), List.getElem?_eq_none (by omega : bs.length ≤ i), List.getElem?_eq_none (by omega : ls.length ≤ i)]
    rfl
theorem mul_le500 {a b : Int} (ha : 1 ≤ a ∧ a ≤ 5) (hb : 0 ≤ b ∧ b ≤ 100) : 0 ≤ a * b ∧ a * b ≤ 500 := by
  have h1 : a * b ≤ 5 * 100 := Int.mul_le_mul ha.2 hb.2 hb.1 (by decide)
  have h2 : 0 ≤ a * b := Int.mul_nonneg (by omega) hb.1
  omega
theorem gens_small {bs : List I3} {ls : List Int} (hb : okBands bs) (hl : okLamp5 bs ls) : smallG (gens bs ls) := by
  refine ⟨by rw [gens_len hl.1]; exact hb.2.1, fun r hr => ?_⟩
  obtain ⟨i, hi⟩ := List.getElem?_of_mem hr
  obtain ⟨l, b, h1, h2, rfl⟩ := zipW_get hi
  have hL := hl.2 l (List.mem_of_getElem? h1)
  obtain ⟨bx, by', bz⟩ := hb.2.2 b (List.mem_of_getElem? h2)
  exact ⟨mul_le500 hL bx, mul_le500 hL by', mul_le500 hL bz⟩
theorem sum_bound {n : Nat} (hn : n ≤ 7) {v g : Nat → Int} (hv : ∀ k, k < n → 0 ≤ v k ∧ v k ≤ 12) (hg : ∀ k, k < n → 0 ≤ g k ∧ g k ≤ 500) : 0 ≤ sR n (fun k => v k * g k) ∧ sR n (fun k => v k * g k) ≤ 42000 := by
  constructor
  · exact sR_nn fun k hk => Int.mul_nonneg (hv k hk).1 (hg k hk).1
  · have := sR_abs (n := n) (f := fun k => v k * g k) (b := 6000) fun k hk => by
      have h1 : v k * g k ≤ 12 * 500 := Int.mul_le_mul (hv k hk).2 (hg k hk).2 (hg k hk).1 (by decide)
      have h2 : 0 ≤ v k * g k := Int.mul_nonneg (hv k hk).1 (hg k hk).1
      omega
    have h3 : n * 6000 ≤ 7 * 6000 := Nat.mul_le_mul_right _ hn
    omega
theorem sumI_bound {gs : List I3} {vs : List Int} (hl : vs.length = gs.length) (hg : smallG gs) (hv : ok12 vs) : (0 ≤ (sumI gs vs).x ∧ (sumI gs vs).x ≤ 42000) ∧ (0 ≤ (sumI gs vs).y ∧ (sumI gs vs).y ≤ 42000) ∧ (0 ≤ (sumI gs vs).z ∧ (sumI gs vs).z ≤ 42000) := by
  have h1 : ∀ k, k < gs.length → 0 ≤ vs.getD k 0 ∧ vs.getD k 0 ≤ 12 := fun k hk => getD_all hv (by omega)
  exact ⟨sum_bound hg.1 h1 fun k hk => (gI_sm hg hk).1, sum_bound hg.1 h1 fun k hk => (gI_sm hg hk).2.1, sum_bound hg.1 h1 fun k hk => (gI_sm hg hk).2.2⟩
/-- an owned list that is returned -/
theorem s_retZ {i : Nat} {a : Addr} {ds : List D} {O' : Store} {PS : Out → Store → Prop} (h : ρ[i]? = some (some (.loc a))) (p : PS (.ret (.lst ds)) O') : wS K (tRet (tVar i)) ρ ((a, .lst ds) :: O') PS := by
  refine s_freeze .here (s_ret (e_var (d := .lst ds) ?_ p))
  unfold frz
  rw [List.getElem?_map, h]
  simp
theorem c_lenDL {l : List Int} (p : P (.int l.length) O) : wC K (Evl.rLenS K) [dL l] O P := c_len (ds := l.map fun i => D.int i) (.inl rfl) (by rw [List.length_map]; exact p)
theorem c_lenDG {gs : List I3} (p : P (.int gs.length) O) : wC K (Evl.rLenS K) [dG gs] O P := c_len (ds := gs.map tRow) (.inl rfl) (by rw [List.length_map]; exact p)
theorem ex_lRow {r : I3} {Q : List D → Prop} (h : Q [.int r.x, .int r.y, .int r.z]) : ∃ ds', lRow r = .lst ds' ∧ Q ds' := ⟨_, rfl, h⟩
theorem r_lR0 {r : I3} (p : P (.int r.x) O) : wR K (rIxL K) (lRow r) (.int 0) O P := r_ixL rfl p
theorem r_lR1 {r : I3} (p : P (.int r.y) O) : wR K (rIxL K) (lRow r) (.int 1) O P := r_ixL rfl p
theorem r_lR2 {r : I3} (p : P (.int r.z) O) : wR K (rIxL K) (lRow r) (.int 2) O P := r_ixL rfl p
theorem r_xL {x y : D} (h : wR K (rIxL K) x y O P) : wR K (rIx K) x y O P := r_ixOr1 h
theorem k_cellS {ns : List Int} {k : Int} {P : D → Prop} (h : 0 ≤ k) (p : P (.int (cell ns k))) : W_cell [scr ns, .int k] P := ⟨ns, k, rfl, h, p⟩
theorem k_lbands {c : Int} {P : D → Prop} (p : ∀ bs : List I3, okBands bs → regular bs → P (bD bs)) : W_lbands [.int c] P := ⟨c, rfl, p⟩
theorem k_llamp {c : Int} {n : Nat} {P : D → Prop} (h : n ≤ 8) (p : P (lampD (lampF c n))) : W_llamp [.int c, .int (n : Int)] P := ⟨c, n, rfl, h, p⟩
theorem k_lvals {c : Int} {n : Nat} {P : D → Prop} (h : 4 ≤ n ∧ n ≤ 7) (p : P (dL (valsF c n))) : W_lvals [.int c, .int (n : Int)] P := ⟨c, n, rfl, h.1, h.2, p⟩
theorem k_lgens {bs : List I3} {ls : List Int} {P : D → Prop} (h : okBands bs) (hl : okLamp5 bs ls) (p : P (dG (gens bs ls))) : W_lgens [bD bs, lampD ls] P := ⟨bs, ls, rfl, h, hl, p⟩
theorem k_lsum {gs : List I3} {vs : List Int} {P : D → Prop} (h : vs.length = gs.length) (hg : smallG gs) (hv : ok12 vs) (p : P (lRow (sumI gs vs))) : W_lsum [dG gs, dL vs] P := ⟨gs, vs, rfl, h, hg, hv, p⟩
theorem k_lquots {C : Addr} {vs : List Int} {P : D → Prop} (h : vs.length ≤ 100) (p : P (.tup (vs.map fun v => dQ C (Rat.divInt v 12)))) : W_lquots C [dL vs] P := ⟨vs, rfl, h, p⟩
theorem k_lquotsR {C : Addr} {r : I3} {P : D → Prop} (p : P (dV C (vecI 12 r))) : W_lquots C [lRow r] P := ⟨[r.x, r.y, r.z], rfl, by show 3 ≤ 100; decide, p⟩
theorem k_scene {CV CO C : Addr} {ns : List Int} {P : D → Prop} (p : ∀ (bs : List I3) (ls vs : List Int) (r : I3), okBands bs → regular bs → okLamp5 bs ls → vs.length = bs.length → ok12 vs → bI r 18 → P (.tup [dView CV CO C bs ls, dG (gens bs ls), dL vs, lRow r])) : W_scene CV CO C [scr ns] P := ⟨ns, rfl, p⟩
end
end G
/-! Colors in views; bounds. -/
namespace G
open PySem L2 PySem.Spec PyProof.Rows
/-! maths -/
theorem sR_cons (n : Nat) (f : Nat → Int) : sR (n + 1) f = f 0 + sR n fun k => f (k + 1) := by
  induction n with
  | zero => simp [sR]
  | succ n ih => rw [sR_succ, ih, sR_succ]; omega
def colV (gs : List I3) (qs : List Rat) : V3 := sumV (List.zipWith (fun q g => mulV q (vI g)) qs gs)
theorem colV_cons (g : I3) (gs : List I3) (q : Rat) (qs : List Rat) : colV (g :: gs) (q :: qs) = addV (mulV q (vI g)) (colV gs qs) := by
  unfold colV
  rw [List.zipWith_cons_cons, sumV_cons]
theorem sumI_cons (g : I3) (gs : List I3) (v : Int) (vs : List Int) : sumI (g :: gs) (v :: vs) = ⟨v * g.x + (sumI gs vs).x, v * g.y + (sumI gs vs).y, v * g.z + (sumI gs vs).z⟩ := by
  simp only [sumI, List.length_cons, sR_cons, gI, List.getD_cons_zero, List.getD_cons_succ]
theorem colV_sum {n : Int} (hn : n ≠ 0) : ∀ (gs : List I3) (vs : List Int), vs.length = gs.length → colV gs (vs.map fun v => Rat.divInt v n) = vecI n (sumI gs vs)
  | [], [], _ => by
    show zV = vecI n ⟨0, 0, 0⟩
    unfold vecI zV
    rw [zero_divI]
  | g :: gs, v :: vs, h => by
    rw [List.map_cons, colV_cons, colV_sum hn gs vs (by simpa using h), sumI_cons]
    have hc := rc_ne hn
    apply V3.ext' <;> simp only [addV, mulV, vI, vecI, Rat.divInt_eq_div, Rat.intCast_add, Rat.intCast_mul] <;> grind
  | [], _ :: _, h => by simp at h
  | _ :: _, [], h => by simp at h
theorem bits_colV {gs : List I3} {qs : List Rat} {m : Nat} (hq : ∀ q ∈ qs, bits q m) (hg : ∀ g ∈ gs, bigRow g) (h7 : gs.length ≤ 7) : bitsV (colV gs qs) ((m + 15) * 7 + 1) := by
  unfold colV
  have hz : ∀ v ∈ List.zipWith (fun q g => mulV q (vI g)) qs gs, bitsV v (m + 14) := fun v hv => by
    obtain ⟨i, hi⟩ := List.getElem?_of_mem hv
    obtain ⟨q, g, h1, h2, rfl⟩ := zipW_get hi
    exact bitsV_mul (hq q (List.mem_of_getElem? h1)) (bits_big (hg g (List.mem_of_getElem? h2)))
  have hl : (List.zipWith (fun q g => mulV q (vI g)) qs gs).length ≤ 7 := by rw [List.length_zipWith]; omega
  have := bitsV_sum (List.zipWith (fun q g => mulV q (vI g)) qs gs) _ hz (Nat.le_refl _)
  rw [List.take_length] at this
  exact bitsV_mono this (by have := Nat.mul_le_mul_left (m + 14 + 1) hl; omega)
theorem bigRow_of {r : I3} (h : (0 ≤ r.x ∧ r.x ≤ 500) ∧ (0 ≤ r.y ∧ r.y ≤ 500) ∧ (0 ≤ r.z ∧ r.z ≤ 500)) : bigRow r := ⟨⟨h.1.1, by have := h.1.2; omega⟩, ⟨h.2.1.1, by have := h.2.1.2; omega⟩, h.2.2.1, by have := h.2.2.2; omega⟩
theorem small_big {gs : List I3} (h : smallG gs) : ∀ g ∈ gs, bigRow g := fun g hg => bigRow_of (h.2 g hg)
theorem sumQ_cast : ∀ (xs : List Int) (a : Int), (xs.map fun (n : Int) => (n : Rat)).foldl (· + ·) (a : Rat) = ((a + xs.sum : Int) : Rat)
  | [], a => by simp
  | x :: xs, a => by
    rw [List.map_cons, List.foldl_cons, ← Rat.intCast_add, sumQ_cast xs, List.sum_cons, Int.add_assoc]
theorem sumQ_casts (xs : List Int) : sumQ (xs.map fun (n : Int) => (n : Rat)) = ((xs.sum : Int) : Rat) := by
  have := sumQ_cast xs 0
  rw [Int.zero_add] at this
  exact this
/-! bands, bounds among some bands -/
abbrev dN (ks : List Nat) : D := .lst (ks.map fun (k : Nat) => D.int (k : Int))
theorem rangeD_dN (n : Nat) : D.lst (rangeD 0 n) = dN (List.range n) := by
  unfold rangeD dN
  congr 1
  apply List.map_congr_left
  intro k _
  rw [Int.zero_add]
abbrev sideD (lo : Bool) : D := .raw (.str (if lo then Str.ofString "low" else Str.ofString "high"))
def bndK (gs : List I3) (ks : List Nat) (i j : Nat) (lo : Bool) : Int := ((ks.filter (onB i j lo)).map fun k => detI (gI gs i) (gI gs j) (gI gs k)).sum
theorem bndK_range (gs : List I3) (i j : Nat) (lo : Bool) : bndK gs (List.range gs.length) i j lo = bndI gs i j lo := sR_filter _ _ _
theorem det_abs {a b c : I3} {M : Nat} (ha : (0 ≤ a.x ∧ a.x ≤ M) ∧ (0 ≤ a.y ∧ a.y ≤ M) ∧ (0 ≤ a.z ∧ a.z ≤ M)) (hb : (0 ≤ b.x ∧ b.x ≤ M) ∧ (0 ≤ b.y ∧ b.y ≤ M) ∧ (0 ≤ b.z ∧ b.z ≤ M)) (hc : (0 ≤ c.x ∧ c.x ≤ M) ∧ (0 ≤ c.y ∧ c.y ≤ M) ∧ (0 ≤ c.z ∧ c.z ≤ M)) :
    (detI a b c).natAbs ≤ 3 * (M * (M * M)) := by
  have two : ∀ p q r s : Int, (0 ≤ p ∧ p ≤ M) → (0 ≤ q ∧ q ≤ M) → (0 ≤ r ∧ r ≤ M) → (0 ≤ s ∧ s ≤ M) → (p * q - r * s).natAbs ≤ M * M := fun p q r s hp hq hr hs => by
    have h1 : p * q ≤ (M : Int) * M := Int.mul_le_mul hp.2 hq.2 hq.1 (by omega)
    have h2 : 0 ≤ p * q := Int.mul_nonneg hp.1 hq.1
    have h3 : r * s ≤ (M : Int) * M := Int.mul_le_mul hr.2 hs.2 hs.1 (by omega)
    have h4 : 0 ≤ r * s := Int.mul_nonneg hr.1 hs.1
    have : ((M * M : Nat) : Int) = (M : Int) * M := by push_cast; rfl
    omega
  have three : ∀ p t : Int, (0 ≤ p ∧ p ≤ M) → t.natAbs ≤ M * M → (p * t).natAbs ≤ M * (M * M) := fun p t hp ht => by
    rw [Int.natAbs_mul]
    exact Nat.mul_le_mul (by omega) ht
  have a1 := three a.x _ ha.1 (two _ _ _ _ hb.2.1 hc.2.2 hb.2.2 hc.2.1)
  have a2 := three a.y _ ha.2.1 (two _ _ _ _ hb.1 hc.2.2 hb.2.2 hc.1)
  have a3 := three a.z _ ha.2.2 (two _ _ _ _ hb.1 hc.2.1 hb.2.1 hc.1)
  unfold detI
  omega
theorem det_sm {gs : List I3} (h : smallG gs) {i j k : Nat} (hi : i < gs.length) (hj : j < gs.length) (hk : k < gs.length) : (detI (gI gs i) (gI gs j) (gI gs k)).natAbs ≤ 375000000 := det_abs (M := 500) (gI_sm h hi) (gI_sm h hj) (gI_sm h hk)
theorem bndI_abs {gs : List I3} (h : smallG gs) {i j : Nat} (hi : i < gs.length) (hj : j < gs.length) (lo : Bool) : (bndI gs i j lo).natAbs ≤ 2625000000 := by
  have := sR_abs (n := gs.length) (f := fun k => if onB i j lo k then detI (gI gs i) (gI gs j) (gI gs k) else 0) (b := 375000000) fun k hk => by
    show (if onB i j lo k then _ else (0 : Int)).natAbs ≤ _
    split
    · exact det_sm h hi hj hk
    · decide
  have h7 := Nat.mul_le_mul_right 375000000 h.1
  unfold bndI
  omega
/-! pairs -/
abbrev pD (p : Nat × Nat) : D := .tup [.int (p.1 : Int), .int (p.2 : Int)]
def rowP (n i : Nat) : List (Nat × Nat) := (List.range (n - (i + 1))).map fun d => (i, i + 1 + d)
def pairsL (n : Nat) : List (Nat × Nat) := (List.range n).flatMap (rowP n)
theorem pairsL_mem {n : Nat} {p : Nat × Nat} (h : p ∈ pairsL n) : p.1 < p.2 ∧ p.2 < n := by
  obtain ⟨i, hi, hp⟩ := List.mem_flatMap.mp h
  obtain ⟨d, hd, rfl⟩ := List.mem_map.mp hp
  have := List.mem_range.mp hi
  have := List.mem_range.mp hd
  exact ⟨by show i < i + 1 + d; omega, by show i + 1 + d < n; omega⟩
theorem pairsL_all {n i j : Nat} (h1 : i < j) (h2 : j < n) : (i, j) ∈ pairsL n := by
  refine List.mem_flatMap.mpr ⟨i, List.mem_range.mpr (by omega), List.mem_map.mpr ⟨j - (i + 1), List.mem_range.mpr (by omega), ?_⟩⟩
  rw [show i + 1 + (j - (i + 1)) = j by omega]
def pairsT (n m : Nat) : List (Nat × Nat) := (List.range m).flatMap (rowP n)
theorem pairsT_succ (n m : Nat) : pairsT n (m + 1) = pairsT n m ++ rowP n m := by
  unfold pairsT
  rw [List.range_succ, List.flatMap_append]
  simp
theorem pairsT_len (n m : Nat) (h : n ≤ 7) : (pairsT n m).length ≤ m * 7 := by
  induction m with
  | zero => simp [pairsT]
  | succ m ih =>
    rw [pairsT_succ, List.length_append]
    have : (rowP n m).length ≤ 7 := by unfold rowP; rw [List.length_map, List.length_range]; omega
    omega
/-! words -/
def W_isReflT (CV CO C : Addr) (ds : List D) (P : D → Prop) : Prop := ∃ (bs : List I3) (ls : List Int) (qs : List Rat) (m : Nat), ds = [dView CV CO C bs ls, .tup (qs.map (dQ C))] ∧ okBands bs ∧ okLamp bs ls ∧ qs.length = bs.length ∧ (∀ q ∈ qs, bits q m ∧ 0 ≤ q ∧ q ≤ 1) ∧ m ≤ 1000 ∧ P (.bl true)
def W_reqReflT (CV CO C : Addr) (ds : List D) (P : D → Prop) (PX : Addr → Prop) : Prop := W_isReflT CV CO C ds fun _ => P .non
def W_isqT (C : Addr) (ds : List D) (P : D → Prop) : Prop := ∃ q : Rat, ds = [dQ C q] ∧ P (.bl true)
theorem k_isq {C : Addr} {q : Rat} {P : D → Prop} (p : P (.bl true)) : W_isqT C [dQ C q] P := ⟨q, rfl, p⟩
def W_shareT (C : Addr) (ds : List D) (P : D → Prop) : Prop := ∃ (q : Rat) (m : Nat), ds = [dQ C q] ∧ bits q m ∧ 0 ≤ q ∧ q ≤ 1 ∧ m ≤ 1000 ∧ P (.bl true)
def W_colT (CV CO C : Addr) (ds : List D) (P : D → Prop) (PX : Addr → Prop) : Prop := ∃ (bs : List I3) (ls : List Int) (qs : List Rat) (m : Nat), ds = [dView CV CO C bs ls, .tup (qs.map (dQ C))] ∧ okBands bs ∧ okLamp bs ls ∧ qs.length = bs.length ∧ (∀ q ∈ qs, bits q m ∧ 0 ≤ q ∧ q ≤ 1) ∧ m ≤ 900 ∧ P (dV C (colV (gens bs ls) qs))
def W_pdet (C : Addr) (ds : List D) (P : D → Prop) : Prop := ∃ (gs : List I3) (i j : Nat) (v : V3) (m : Nat), ds = [vD C gs, pD (i, j), dV C v] ∧ (∀ g ∈ gs, bigRow g) ∧ i < gs.length ∧ j < gs.length ∧ bitsV v m ∧ m ≤ 500 ∧ P (dQ C (detV (vI (gI gs i)) (vI (gI gs j)) v))
def W_isOn (ds : List D) (P : D → Prop) : Prop := ∃ (k i j : Nat) (lo : Bool), ds = [.int (k : Int), pD (i, j), sideD lo] ∧ P (.bl (onB i j lo k))
def W_bound (C : Addr) (ds : List D) (P : D → Prop) : Prop := ∃ (gs : List I3) (ks : List Nat) (i j : Nat) (lo : Bool), ds = [vD C gs, dN ks, pD (i, j), sideD lo] ∧ smallG gs ∧ ks.length ≤ 7 ∧ (∀ k ∈ ks, k < gs.length) ∧ i < gs.length ∧ j < gs.length ∧ P (dQ C ((bndK gs ks i j lo : Int) : Rat))
def W_bandsOf (CV CO C : Addr) (ds : List D) (P : D → Prop) : Prop := ∃ (bs : List I3) (ls : List Int), ds = [dView CV CO C bs ls] ∧ okBands bs ∧ okLamp bs ls ∧ P (dN (List.range bs.length))
def W_lowhigh (CV CO C : Addr) (lo : Bool) (ds : List D) (P : D → Prop) : Prop := ∃ (bs : List I3) (ls : List Int) (i j : Nat), ds = [dView CV CO C bs ls, .int (i : Int), .int (j : Int)] ∧ okBands bs ∧ okLamp5 bs ls ∧ i < bs.length ∧ j < bs.length ∧ P (dQ C ((bndI (gens bs ls) i j lo : Int) : Rat))
/-- a row of three ints: a tuple or a list -/
def rowD (l : Bool) (r : I3) : D := if l then lRow r else tRow r
def W_ldetS (ds : List D) (P : D → Prop) : Prop := ∃ (a b c : I3) (l : Bool), ds = [tRow a, tRow b, rowD l c] ∧ bI a 20 ∧ bI b 20 ∧ bI c 20 ∧ P (.int (detI a b c))
def W_lbound (ds : List D) (P : D → Prop) : Prop := ∃ (gs : List I3) (i j : Nat) (lo : Bool), ds = [dG gs, .int (i : Int), .int (j : Int), sideD lo] ∧ smallG gs ∧ i < j ∧ j < gs.length ∧ P (.int (bndI gs i j lo))
def W_lpairs (ds : List D) (P : D → Prop) : Prop := ∃ n : Nat, ds = [.int (n : Int)] ∧ n ≤ 7 ∧ P (.lst ((pairsL n).map pD))
/-- what the law finds: 1 on the low side, 2 on the high side, 0 for none -/
def failD (gs : List I3) (c : I3) (i j : Nat) : D := if detI (gI gs i) (gI gs j) c < 12 * bndI gs i j true then sideD true else if 12 * bndI gs i j false < detI (gI gs i) (gI gs j) c then sideD false else .non
def W_lfailed (ds : List D) (P : D → Prop) : Prop := ∃ (gs : List I3) (c : I3) (i j : Nat), ds = [dG gs, lRow c, .int (i : Int), .int (j : Int)] ∧ smallG gs ∧ bI c 20 ∧ i < j ∧ j < gs.length ∧ P (failD gs c i j)
theorem bI_row {r : I3} (h : (0 ≤ r.x ∧ r.x ≤ 500) ∧ (0 ≤ r.y ∧ r.y ≤ 500) ∧ (0 ≤ r.z ∧ r.z ≤ 500)) : bI r 20 := ⟨by omega, by omega, by omega⟩
theorem pair_top {t : Int} {n : Int} (hn : n ≠ 0) : (Rat.divInt t n).num * n = t * ((Rat.divInt t n).den : Int) := by
  have h1 := divInt_self (Rat.divInt t n)
  exact (Rat.divInt_eq_divInt_iff (den_ne _) hn).mp h1
section
variable {K : PySem.W.Frag} {ρ : Rho} {O : Store} {P : D → Store → Prop} {r : I3}
theorem r_xR0 (p : P (.int r.x) O) : wR K (rIx K) (lRow r) (.int 0) O P := r_ixOr1 (r_lR0 p)
theorem r_xR1 (p : P (.int r.y) O) : wR K (rIx K) (lRow r) (.int 1) O P := r_ixOr1 (r_lR1 p)
theorem r_xR2 (p : P (.int r.z) O) : wR K (rIx K) (lRow r) (.int 2) O P := r_ixOr1 (r_lR2 p)
theorem r_xT0 (p : P (.int r.x) O) : wR K (rIx K) (tRow r) (.int 0) O P := r_ixOr2 (r_t0 p)
theorem r_xT1 (p : P (.int r.y) O) : wR K (rIx K) (tRow r) (.int 1) O P := r_ixOr2 (r_t1 p)
theorem r_xT2 (p : P (.int r.z) O) : wR K (rIx K) (tRow r) (.int 2) O P := r_ixOr2 (r_t2 p)
end
theorem share12 {v : Int} (h : 0 ≤ v ∧ v ≤ 12) : bits (Rat.divInt v 12) 4 ∧ 0 ≤ Rat.divInt v 12 ∧ Rat.divInt v 12 ≤ 1 := by
  refine ⟨bits_divInt (by decide) (by omega) (by decide), ?_, ?_⟩
  · rw [Rat.divInt_eq_div]
    have : (0 : Rat) ≤ (v : Rat) := Rat.intCast_nonneg.mpr h.1
    grind
  · rw [Rat.divInt_eq_div]
    have : (v : Rat) ≤ ((12 : Int) : Rat) := Rat.intCast_le_intCast.mpr h.2
    grind
theorem shares12 {vs : List Int} (h : ok12 vs) : ∀ q ∈ vs.map (fun v => Rat.divInt v 12), bits q 4 ∧ 0 ≤ q ∧ q ≤ 1 := fun q hq => by
  obtain ⟨v, hv, rfl⟩ := List.mem_map.mp hq
  exact share12 (h v hv)
theorem k_colQ {CV CO C : Addr} {bs : List I3} {ls vs : List Int} {P : D → Prop} {PX : Addr → Prop} (hb : okBands bs) (hL : okLamp5 bs ls) (hl : vs.length = bs.length) (hv : ok12 vs) (p : P (dV C (vecI 12 (sumI (gens bs ls) vs)))) :
    W_colT CV CO C [dView CV CO C bs ls, .tup (vs.map fun v => dQ C (Rat.divInt v 12))] P PX := by
  refine ⟨bs, ls, vs.map fun v => Rat.divInt v 12, 4, ?_, hb, hL.lamp, by rw [List.length_map]; exact hl, shares12 hv, by decide, ?_⟩
  · rw [List.map_map]; rfl
  · rw [colV_sum (by decide) _ _ (by rw [gens_len hL.1]; exact hl)]
    exact p
theorem k_lowhigh {CV CO C : Addr} {lo : Bool} {bs : List I3} {ls : List Int} {i j : Nat} {P : D → Prop} (hb : okBands bs) (hL : okLamp5 bs ls) (hij : i < bs.length ∧ j < bs.length) (p : P (dQ C ((bndI (gens bs ls) i j lo : Int) : Rat))) : W_lowhigh CV CO C lo [dView CV CO C bs ls, .int (i : Int), .int (j : Int)] P :=
  ⟨bs, ls, i, j, rfl, hb, hL, hij.1, hij.2, p⟩
theorem k_ldetT {a b c : I3} {P : D → Prop} (ha : bI a 20) (hb : bI b 20) (hc : bI c 20) (p : P (.int (detI a b c))) : W_ldetS [tRow a, tRow b, tRow c] P := ⟨a, b, c, false, rfl, ha, hb, hc, p⟩
theorem k_ldetL {a b c : I3} {P : D → Prop} (ha : bI a 20) (hb : bI b 20) (hc : bI c 20) (p : P (.int (detI a b c))) : W_ldetS [tRow a, tRow b, lRow c] P := ⟨a, b, c, true, rfl, ha, hb, hc, p⟩
theorem k_lboundL {gs : List I3} {i j : Nat} {P : D → Prop} (hg : smallG gs) (h : i < j ∧ j < gs.length) (p : P (.int (bndI gs i j true))) : W_lbound [dG gs, .int (i : Int), .int (j : Int), .raw (.str (Str.ofString "low"))] P := ⟨gs, i, j, true, rfl, hg, h.1, h.2, p⟩
theorem k_lboundH {gs : List I3} {i j : Nat} {P : D → Prop} (hg : smallG gs) (h : i < j ∧ j < gs.length) (p : P (.int (bndI gs i j false))) : W_lbound [dG gs, .int (i : Int), .int (j : Int), .raw (.str (Str.ofString "high"))] P := ⟨gs, i, j, false, rfl, hg, h.1, h.2, p⟩
theorem k_lpairs {n : Nat} {P : D → Prop} (h : n ≤ 7) (p : P (.lst ((pairsL n).map pD))) : W_lpairs [.int (n : Int)] P := ⟨n, rfl, h, p⟩
theorem k_lfailed {gs : List I3} {c : I3} {i j : Nat} {P : D → Prop} (hg : smallG gs) (hc : bI c 20) (h : i < j ∧ j < gs.length) (p : P (failD gs c i j)) : W_lfailed [dG gs, lRow c, .int (i : Int), .int (j : Int)] P := ⟨gs, c, i, j, rfl, hg, hc, h.1, h.2, p⟩
theorem onB_ne {i j k : Nat} {lo : Bool} (h1 : k ≠ i) (h2 : k ≠ j) (h : i < j) : onB i j lo k = decide (decide (i < k ∧ k < j) = lo) := by
  unfold onB
  cases lo with
  | true =>
    rw [if_pos rfl]
    by_cases a : i < k <;> by_cases b : k < j <;> simp [a, b]
  | false =>
    rw [if_neg Bool.false_ne_true]
    by_cases a : i < k <;> by_cases b : k < j <;> simp [a, b] <;> omega
theorem onB_i {i j : Nat} {lo : Bool} (h : i < j) : onB i j lo i = false := by
  unfold onB
  cases lo <;> simp <;> omega
theorem onB_j {i j : Nat} {lo : Bool} (h : i < j) : onB i j lo j = false := by
  unfold onB
  cases lo <;> simp <;> omega
theorem fail_none {gs : List I3} {vs : List Int} (hr : regular gs) (hl : vs.length = gs.length) (hv : ok12 vs) {i j : Nat} (hij : i < j) (hj : j < gs.length) : failD gs (sumI gs vs) i j = .non := by
  have h := sum_between hr hij hj (v := fun k => vs.getD k 0) (m := 12) fun k hk => getD_all hv (by omega)
  unfold failD
  rw [det_sumI, if_neg (by have := h.1; omega), if_neg (by have := h.2; omega)]
theorem r_neC {K : PySem.W.Frag} {O : Store} {P : D → Store → Prop} {n : Int} (p : P (.bl false) O) : wR K (rNeD K) (.tup [.int (n : Rat).num, .int ((n : Rat).den : Int)]) (.tup [.int n, .int 1]) O P := by
  refine r_neT2 ?_
  have e : (!(decide ((n : Rat).num = n) && decide (((n : Rat).den : Int) = 1))) = false := by
    rw [decide_eq_true (show (n : Rat).num = n from rfl), decide_eq_true (show ((n : Rat).den : Int) = 1 from rfl)]
    rfl
  rw [e]
  exact p
end G
/-! Pairs in order; the test of a surface color. -/
namespace G
open PySem L2 PySem.Spec PyProof.Rows
/-! enumerate of a list -/
theorem itOk_enumL {K : PySem.W.Frag} {B : Hp} {a : Addr} {xs : List V} {ds : List D} (h : B a = some (.lst xs)) (r : Reps K B xs ds) : ItOk K B (Ite K a) (enumD 0 ds) := fun B' H' O e hs i => by
  have h' : SqL K H' a xs := Evl.sq_of (hs.ex _ _ (e _ _ h))
  refine ⟨fun d hd => ?_, fun hd => ⟨xs, h', by
    have := List.getElem?_eq_none_iff.mp hd
    rw [enumD_len] at this
    rw [r.length]
    exact this⟩⟩
  rw [enumD_get, Nat.zero_add] at hd
  cases hx : ds[i]? with
  | none => rw [hx] at hd; cases hd
  | some d0 =>
    rw [hx] at hd
    cases hd
    obtain ⟨v, hv, rv⟩ := r.get hx
    refine ⟨⟨xs, v, h', hv⟩, ?_⟩
    rintro x H2 ⟨T, v2, rfl, hT, rfl, q⟩
    have e1 := q xs h'
    rw [hv] at e1
    cases e1
    obtain ⟨hs2, ex2⟩ := hs.new (o := .tup [.int (i : Nat), v]) hT
    exact ⟨_, ex2, hs2, .tup (Evl.st_of upd_same) (.cons (.raw _) (.cons ((rv.mono e).mono ex2) .nil))⟩
theorem i_enumL {K : PySem.W.Frag} {ρ : Rho} {O : Store} {ta : TA} {P : List D → Store → Prop} (h : wA K ta ρ O fun ds O1 => ∃ xs, ds = [.lst xs] ∧ P (enumD 0 xs) O1) : wI K (iEnum K ta) ρ O P := fun F σ B H e hs R q =>
  h F σ B H e hs _ fun vs ds O1 B1 H1 p1 e1 hs1 r => by
    obtain ⟨xs, rfl, p⟩ := p1
    cases r with
    | cons r1 r =>
      cases r
      cases r1 with
      | lst ha ra => exact ⟨_, _, rfl, Evl.sq_of (hs1.ex _ _ ha), q _ _ O1 B1 H1 p e1 hs1 (itOk_enumL ha ra)⟩
/-! == and != of what may be None or plain data -/
def rEqU (K : PySem.W.Frag) : R2 := fun x y H Q => rEq x y H Q ∨ rEqD K x y H Q
def rNeU (K : PySem.W.Frag) : R2 := fun x y H Q => rNe x y H Q ∨ rNeD K x y H Q
theorem op_eqU {X : Cx} (hu : X.A.units + 64 < cLine) : OpR X (compareOp .Eq) (rEqU X.K) := fun pins s σ H x y v u Q I rx ry h =>
  h.elim (fun h => op_eq pins s σ H x y v u Q I rx ry h) fun h => op_eqD hu pins s σ H x y v u Q I rx ry h
theorem op_neU {X : Cx} (hu : X.A.units + 64 < cLine) : OpR X (compareOp .NotEq) (rNeU X.K) := fun pins s σ H x y v u Q I rx ry h =>
  h.elim (fun h => op_ne pins s σ H x y v u Q I rx ry h) fun h => op_neD hu pins s σ H x y v u Q I rx ry h
section
variable {K : PySem.W.Frag} {ρ : Rho} {O : Store} {P : D → Store → Prop}
theorem r_neU1 {x y : D} (h : wR K rNe x y O P) : wR K (rNeU K) x y O P := fun F v u B H rx ry hs Q q => .inl (h F v u B H rx ry hs Q q)
theorem r_neU2 {x y : D} (h : wR K (rNeD K) x y O P) : wR K (rNeU K) x y O P := fun F v u B H rx ry hs Q q => .inr (h F v u B H rx ry hs Q q)
theorem r_eqU1 {x y : D} (h : wR K rEq x y O P) : wR K (rEqU K) x y O P := fun F v u B H rx ry hs Q q => .inl (h F v u B H rx ry hs Q q)
theorem r_eqU2 {x y : D} (h : wR K (rEqD K) x y O P) : wR K (rEqU K) x y O P := fun F v u B H rx ry hs Q q => .inr (h F v u B H rx ry hs Q q)
/-- what a test tells: the first pair and the side -/
abbrev encT : Option ((Nat × Nat) × Bool) → D
  | none => .non
  | some o => .tup [.int (o.1.1 : Int), .int (o.1.2 : Int), sideD o.2]
theorem r_neTest {o : Option ((Nat × Nat) × Bool)} (p : P (.bl false) O) : wR K (rNeU K) (encT o) (encT o) O P := by
  cases o with
  | none => exact r_neU1 (r_ne rfl p)
  | some o =>
    obtain ⟨⟨i, j⟩, b⟩ := o
    have sh : ∀ t : Str, PyData.strOk t = true → SeqAt.shaped (.tuple [.int i, .int j, .str t]) = true := fun t ht => by
      simp [SeqAt.shaped, PyData.canLay0, PyData.depth, PyData.canLayAll0, PyData.depthAll, ht]
    have st : PyData.strOk (if b = true then Str.ofString "low" else Str.ofString "high") = true := by cases b <;> decide +kernel
    refine r_neU2 (r_neDD rfl rfl (sh _ st) (sh _ st) ?_)
    have : PyData.eqv (toP (encT (some ((i, j), b)))) (toP (encT (some ((i, j), b)))) = true := by
      simp [toP, toPs, PyData.eqv, PyData.eqvAll]
    rw [this]
    exact p
end
/-! pairs of ascending bands -/
def pairsK (ks : List Nat) : List (Nat × Nat) := (List.range ks.length).flatMap fun a => (ks.drop (a + 1)).map fun j => (ks.getD a 0, j)
theorem drop_range (n m : Nat) : (List.range n).drop m = (List.range (n - m)).map fun d => m + d := by
  apply List.ext_getElem?
  intro i
  rw [List.getElem?_drop, List.getElem?_map]
  by_cases h : m + i < n
  · rw [List.getElem?_range h, List.getElem?_range (by omega)]
    rfl
  · rw [List.getElem?_eq_none (by rw [List.length_range]; omega), List.getElem?_eq_none (by rw [List.length_range]; omega)]
    rfl
theorem flatMap_congr {α β : Type} {xs : List α} {f g : α → List β} (h : ∀ x ∈ xs, f x = g x) : xs.flatMap f = xs.flatMap g := by
  induction xs with
  | nil => rfl
  | cons x xs ih =>
    rw [List.flatMap_cons, List.flatMap_cons, h x List.mem_cons_self, ih fun y hy => h y (List.mem_cons_of_mem _ hy)]
theorem pairsK_range (n : Nat) : pairsK (List.range n) = pairsL n := by
  unfold pairsK pairsL
  rw [List.length_range]
  refine flatMap_congr fun a ha => ?_
  have ha' := List.mem_range.mp ha
  rw [drop_range, List.map_map, List.getD_eq_getElem?_getD, List.getElem?_range ha']
  rfl
theorem pairsK_mem {ks : List Nat} {p : Nat × Nat} (h : p ∈ pairsK ks) : p.1 ∈ ks ∧ p.2 ∈ ks := by
  obtain ⟨a, ha, hp⟩ := List.mem_flatMap.mp h
  obtain ⟨j, hj, rfl⟩ := List.mem_map.mp hp
  have ha' := List.mem_range.mp ha
  refine ⟨?_, List.mem_of_mem_drop hj⟩
  show ks.getD a 0 ∈ ks
  rw [List.getD_eq_getElem?_getD, List.getElem?_eq_getElem ha']
  exact List.getElem_mem ha'
/-! the test -/
def beyond (gs : List I3) (v : V3) (p : Nat × Nat) (lo : Bool) : Bool := if lo then decide (detV (vI (gI gs p.1)) (vI (gI gs p.2)) v < ((bndI gs p.1 p.2 true : Int) : Rat)) else decide (((bndI gs p.1 p.2 false : Int) : Rat) < detV (vI (gI gs p.1)) (vI (gI gs p.2)) v)
def sideF (gs : List I3) (v : V3) (p : Nat × Nat) : Option ((Nat × Nat) × Bool) := if beyond gs v p true then some (p, true) else if beyond gs v p false then some (p, false) else none
def testF (gs : List I3) (v : V3) : Option ((Nat × Nat) × Bool) := (pairsL gs.length).findSome? (sideF gs v)
theorem fs_none {α β : Type} {f : α → Option β} {xs : List α} (h : ∀ x ∈ xs, f x = none) : xs.findSome? f = none := List.findSome?_eq_none_iff.mpr h
theorem fs_some {α β : Type} {f : α → Option β} {xs : List α} {i : Nat} {x : α} {y : β} (hx : xs[i]? = some x) (hy : f x = some y) (h : ∀ x ∈ xs.take i, f x = none) : xs.findSome? f = some y := by
  have hi := (List.getElem?_eq_some_iff.mp hx).1
  have e : xs = xs.take i ++ (x :: xs.drop (i + 1)) := by
    rw [← (List.getElem?_eq_some_iff.mp hx).2, ← List.drop_eq_getElem_cons hi, List.take_append_drop]
  rw [e, List.findSome?_append, fs_none h, List.findSome?_cons, hy]
  rfl
theorem take_none {α β : Type} {f : α → Option β} {xs : List α} {i : Nat} {x : α} (hx : xs[i]? = some x) (h : ∀ x ∈ xs.take i, f x = none) (hy : f x = none) : ∀ x ∈ xs.take (i + 1), f x = none := fun z hz => by
  rw [List.take_succ, hx] at hz
  rcases List.mem_append.mp hz with q | q
  · exact h z q
  · rw [show z = x by simpa using q]
    exact hy
theorem det_12 (a b c : I3) : detV (vI a) (vI b) (vecI 12 c) = Rat.divInt (detI a b c) 12 := by
  simp only [detV, vI, vecI, detI, Rat.divInt_eq_div, Rat.intCast_add, Rat.intCast_sub, Rat.intCast_mul]
  grind
theorem div12_lt (t b : Int) : decide (Rat.divInt t 12 < (b : Rat)) = decide (t < 12 * b) := by
  rw [decide_eq_decide, Rat.divInt_eq_div]
  have h : ((t : Rat) < ((12 * b : Int) : Rat)) ↔ t < 12 * b := Rat.intCast_lt_intCast
  rw [← h, Rat.intCast_mul]
  have e : ((12 : Int) : Rat) = 12 := rfl
  rw [e]
  constructor <;> intro z <;> grind
theorem lt_div12 (t b : Int) : decide ((b : Rat) < Rat.divInt t 12) = decide (12 * b < t) := by
  rw [decide_eq_decide, Rat.divInt_eq_div]
  have h : (((12 * b : Int) : Rat) < (t : Rat)) ↔ 12 * b < t := Rat.intCast_lt_intCast
  rw [← h, Rat.intCast_mul]
  have e : ((12 : Int) : Rat) = 12 := rfl
  rw [e]
  constructor <;> intro z <;> grind
abbrev encS : Option ((Nat × Nat) × Bool) → D
  | none => .non
  | some o => sideD o.2
theorem fail_enc (gs : List I3) (c : I3) (i j : Nat) : failD gs c i j = encS (sideF gs (vecI 12 c) (i, j)) := by
  unfold failD sideF beyond
  rw [if_pos rfl, if_neg Bool.false_ne_true]
  simp only [det_12, div12_lt, lt_div12, decide_eq_true_eq]
  split
  · rfl
  · split
    · rfl
    · rfl
def W_pairsOf (ds : List D) (P : D → Prop) : Prop := ∃ ks : List Nat, ds = [dN ks] ∧ ks.length ≤ 7 ∧ P (.lst ((pairsK ks).map pD))
def W_isBeyond (CV CO C : Addr) (ds : List D) (P : D → Prop) : Prop := ∃ (bs : List I3) (ls : List Int) (v : V3) (m : Nat) (p : Nat × Nat) (lo : Bool), ds = [dView CV CO C bs ls, dV C v, pD p, sideD lo] ∧ okBands bs ∧ okLamp5 bs ls ∧ bitsV v m ∧ m ≤ 250 ∧ p.1 < bs.length ∧ p.2 < bs.length ∧ P (.bl (beyond (gens bs ls) v p lo))
def W_stest (CV CO C : Addr) (ds : List D) (P : D → Prop) : Prop := ∃ (bs : List I3) (ls : List Int) (v : V3) (m : Nat), ds = [dView CV CO C bs ls, dV C v] ∧ okBands bs ∧ okLamp5 bs ls ∧ bitsV v m ∧ m ≤ 250 ∧ P (encT (testF (gens bs ls) v))
def W_ltest (ds : List D) (P : D → Prop) : Prop := ∃ (gs : List I3) (c : I3), ds = [dG gs, lRow c] ∧ smallG gs ∧ bI c 20 ∧ P (encT (testF gs (vecI 12 c)))
theorem bits_vec12 {c : I3} (h : bI c 20) : bitsV (vecI 12 c) 20 := bits_vecI (by decide) h (by decide)
theorem k_stest {CV CO C : Addr} {bs : List I3} {ls : List Int} {c : I3} {P : D → Prop} (hb : okBands bs) (hL : okLamp5 bs ls) (hc : bI c 20) (p : P (encT (testF (gens bs ls) (vecI 12 c)))) : W_stest CV CO C [dView CV CO C bs ls, dV C (vecI 12 c)] P := ⟨bs, ls, _, 20, rfl, hb, hL, bits_vec12 hc, by decide, p⟩
theorem k_ltest {gs : List I3} {c : I3} {P : D → Prop} (hg : smallG gs) (hc : bI c 20) (p : P (encT (testF gs (vecI 12 c)))) : W_ltest [dG gs, lRow c] P := ⟨gs, c, rfl, hg, hc, p⟩
theorem test_none {gs : List I3} {vs : List Int} (hr : regular gs) (hl : vs.length = gs.length) (hv : ok12 vs) : testF gs (vecI 12 (sumI gs vs)) = none := by
  refine fs_none fun p hp => ?_
  obtain ⟨hij, hj⟩ := pairsL_mem hp
  have h1 := fail_none hr hl hv hij hj
  rw [fail_enc] at h1
  cases h : sideF gs (vecI 12 (sumI gs vs)) (p.1, p.2) with
  | none => rfl
  | some o =>
    rw [h] at h1
    cases h1
end G
/-! Kinds of band patterns. -/
namespace G
open PySem L2 PySem.Spec PyProof.Rows
abbrev kindD (b : Bool) : D := .raw (.str (if b then Str.ofString "pass" else Str.ofString "stop"))
def W_parts (C : Addr) (ds : List D) (P : D → Prop) : Prop := ∃ b : Bool, ds = [kindD b] ∧ P (.tup [dQ C (if b then 1 else 0), dQ C (if b then 0 else 1)])
def W_fpairK (C : Addr) (ds : List D) (P : D → Prop) : Prop := ∃ (xs : List Rat) (b : Bool) (m : Nat), ds = [.tup (xs.map (dQ C)), kindD b] ∧ 1 ≤ xs.length ∧ xs.length ≤ 1000 ∧ (∀ x ∈ xs, bits x m) ∧ bits (if b then 1 else 0) m ∧ bits (if b then 0 else 1) m ∧ m + m ≤ 8900 ∧ ∀ r, FPs xs (if b then 1 else 0) (if b then 0 else 1) r → P (encP r)
theorem rep_iLst2 {K : PySem.W.Frag} {B : Hp} {v : V} {a b : Int} (r : Rep K B v (.lst [.int a, .int b])) (H : Hp) (e : Ex B H) : ∃ p, v = .ref p ∧ SqL K H p ([a, b].map V.int) := by
  cases r with
  | lst h r =>
    cases r with
    | cons r1 r =>
      cases r with
      | cons r2 r =>
        cases r; cases r1; cases r2
        exact ⟨_, rfl, Evl.sq_of (e _ _ h)⟩
theorem r_in2 {K : PySem.W.Frag} {O : Store} {P : D → Store → Prop} {i a b : Int} (p : P (.bl (decide (i = a ∨ i = b))) O) : wR K (rIn K false) (.int i) (.lst [.int a, .int b]) O P := fun F v u B H rx ry hs Q q => by
  cases rx
  obtain ⟨p', rfl, hp⟩ := rep_iLst2 ry H hs.ex
  refine ⟨p', _, rfl, .inl hp, rfl, flat_ints [a, b], ?_⟩
  have e : inV (.int i) ([a, b].map V.int) = decide (i = a ∨ i = b) := by
    rw [Bool.eq_iff_iff]
    simp [inV, eqV]
    constructor
    · rintro (h | h)
      · exact .inl h.symm
      · exact .inr h.symm
    · rintro (h | h)
      · exact .inl h.symm
      · exact .inr h.symm
  show Q (.bl (inV (.int i) ([a, b].map V.int))) H
  rw [e]
  exact q.here hs (.raw _) p
/-! the law's search for the first pattern -/
def fitB (qs : List Rat) (i j : Nat) (b : Bool) : Prop := fitR qs (if b then 1 else 0) (if b then 0 else 1) i j
def befB (a b : (Nat × Nat) × Bool) : Prop := a.1.1 < b.1.1 ∨ (a.1.1 = b.1.1 ∧ (a.1.2 < b.1.2 ∨ (a.1.2 = b.1.2 ∧ a.2 = true ∧ b.2 = false)))
/-- o is the first fit among those of X, all of which stand ahead of the others -/
def fstB (qs : List Rat) (X : Nat → Nat → Bool → Prop) : Option ((Nat × Nat) × Bool) → Prop
  | none => ∀ i j b, X i j b → ¬ fitB qs i j b
  | some p => fitB qs p.1.1 p.1.2 p.2 ∧ ∀ i j b, befB ((i, j), b) p → ¬ fitB qs i j b
theorem fstB_mono {qs : List Rat} {X Y : Nat → Nat → Bool → Prop} {o : Option ((Nat × Nat) × Bool)} (h : fstB qs X o) (m : ∀ i j b, fitB qs i j b → Y i j b → X i j b) : fstB qs Y o := by
  cases o with
  | none => exact fun i j b hy hf => h i j b (m i j b hf hy) hf
  | some p => exact h
theorem fstB_pick {qs : List Rat} {r s : Option (Nat × Nat)} {o : Option ((Nat × Nat) × Bool)} (hr : FPs qs 1 0 r) (hs : FPs qs 0 1 s) (ho : fstB qs (fun _ _ _ => True) o) : pickP r s = o := by
  have f1 : ∀ i j, fitR qs 1 0 i j → fitB qs i j true := fun i j h => h
  have f2 : ∀ i j, fitR qs 0 1 i j → fitB qs i j false := fun i j h => h
  cases o with
  | none =>
    cases r with
    | some a => exact absurd (f1 _ _ hr.1) (ho _ _ _ trivial)
    | none =>
      cases s with
      | some b => exact absurd (f2 _ _ hs.1) (ho _ _ _ trivial)
      | none => rfl
  | some p =>
    obtain ⟨⟨i, j⟩, b⟩ := p
    obtain ⟨hf, hm⟩ := ho
    simp only at hf
    have ar : ∀ a, r = some a → b = true → a = (i, j) := fun a ha hb => by
      subst ha hb
      obtain ⟨h1, h2⟩ := hr
      have n1 := hm a.1 a.2 true
      have h3 := h2 i j hf
      rcases h3 with h3 | ⟨h3, h4⟩
      · exact absurd (f1 _ _ h1) (n1 (.inl h3))
      · by_cases h5 : a.2 < j
        · exact absurd (f1 _ _ h1) (n1 (.inr ⟨h3, .inl h5⟩))
        · exact Prod.ext h3 (by show a.2 = j; omega)
    have as : ∀ a, s = some a → b = false → a = (i, j) := fun a ha hb => by
      subst ha hb
      obtain ⟨h1, h2⟩ := hs
      have n1 := hm a.1 a.2 false
      have h3 := h2 i j hf
      rcases h3 with h3 | ⟨h3, h4⟩
      · exact absurd (f2 _ _ h1) (n1 (.inl h3))
      · by_cases h5 : a.2 < j
        · exact absurd (f2 _ _ h1) (n1 (.inr ⟨h3, .inl h5⟩))
        · exact Prod.ext h3 (by show a.2 = j; omega)
    have lr : ∀ a, r = some a → b = false → ¬ lexle a (i, j) := fun a ha hb hle => by
      subst ha hb
      refine absurd (f1 _ _ hr.1) (hm a.1 a.2 true ?_)
      rcases hle with h | ⟨h, h2⟩
      · exact .inl h
      · simp only at h h2
        by_cases h3 : a.2 < j
        · exact .inr ⟨h, .inl h3⟩
        · exact .inr ⟨h, .inr ⟨by show a.2 = j; omega, rfl, rfl⟩⟩
    have ls : ∀ a, s = some a → b = true → lexle (i, j) a := fun a ha hb => by
      subst ha hb
      have n1 := hm a.1 a.2 false
      unfold lexle
      simp only
      by_cases h1 : a.1 < i
      · exact absurd (f2 _ _ hs.1) (n1 (.inl h1))
      · by_cases h2 : i < a.1
        · exact .inl h2
        · by_cases h3 : a.2 < j
          · exact absurd (f2 _ _ hs.1) (n1 (.inr ⟨by show a.1 = i; omega, .inl h3⟩))
          · exact .inr ⟨by omega, by omega⟩
    cases b with
    | true =>
      cases r with
      | none => exact absurd hf (hr i j)
      | some a =>
        have e := ar a rfl rfl
        subst e
        cases s with
        | none => rfl
        | some c =>
          show (if lexle (i, j) c then some ((i, j), true) else some (c, false)) = _
          rw [if_pos (ls c rfl rfl)]
    | false =>
      cases s with
      | none => exact absurd hf (hs i j)
      | some c =>
        have e := as c rfl rfl
        subst e
        cases r with
        | none => rfl
        | some a =>
          show (if lexle a (i, j) then some (a, true) else some ((i, j), false)) = _
          rw [if_neg (lr a rfl rfl)]
theorem pair_val (q : Rat) (n : Int) : (q.num, (q.den : Int)) = (n, 1) ↔ q = (n : Rat) := by
  constructor
  · intro h
    have h1 : q.num = n := congrArg Prod.fst h
    have h2 : (q.den : Int) = 1 := congrArg Prod.snd h
    rw [← divInt_self q, h1, h2]
    exact q_whole n
  · rintro rfl
    rfl
theorem fitV_fitR {qs : List Rat} {i j : Nat} {b : Bool} (hij : i < j) (hj : j < qs.length) : fitV (qs.map fun q => (q.num, (q.den : Int))) i j (if b then 1 else 0) (qs.map fun q => (q.num, (q.den : Int))).length ↔ fitB qs i j b := by
  have e1 : ((if b then (1 : Int) else 0 : Int) : Rat) = if b then (1 : Rat) else 0 := by cases b <;> rfl
  have e2 : ((1 - (if b then (1 : Int) else 0) : Int) : Rat) = if b then (0 : Rat) else 1 := by cases b <;> rfl
  have at' : ∀ (k : Nat) (q : Rat), qs[k]? = some q → (qs.map fun q : Rat => (q.num, (q.den : Int)))[k]? = some (q.num, (q.den : Int)) := fun k q h => by rw [List.getElem?_map, h]; rfl
  unfold fitV fitB fitR allIn
  rw [← e1, ← e2]
  constructor
  · intro h
    refine ⟨hij, hj, fun k h1 h2 => ?_, fun k h1 h2 => ?_, fun k h1 h2 => ?_⟩
    · obtain ⟨q, hq⟩ : ∃ q, qs[k]? = some q := ⟨_, List.getElem?_eq_getElem (by omega)⟩
      rw [hq, (pair_val q _).mp ((h k _ (by rw [List.length_map]; omega) (at' k q hq)).2 (.inl (by omega)))]
    · obtain ⟨q, hq⟩ : ∃ q, qs[k]? = some q := ⟨_, List.getElem?_eq_getElem (by omega)⟩
      rw [hq, (pair_val q _).mp ((h k _ (by rw [List.length_map]; omega) (at' k q hq)).1 (by omega))]
    · obtain ⟨q, hq⟩ : ∃ q, qs[k]? = some q := ⟨_, List.getElem?_eq_getElem (by omega)⟩
      rw [hq, (pair_val q _).mp ((h k _ (by rw [List.length_map]; omega) (at' k q hq)).2 (.inr (by omega)))]
  · rintro ⟨_, _, h1, h2, h3⟩ k v hk hv
    rw [List.length_map] at hk
    obtain ⟨q, hq⟩ : ∃ q, qs[k]? = some q := ⟨_, List.getElem?_eq_getElem hk⟩
    rw [at' k q hq] at hv
    cases hv
    refine ⟨fun hm => ?_, fun hm => ?_⟩
    · have := h2 k (by omega) hm.2
      rw [hq] at this
      cases this
      exact (pair_val _ _).mpr rfl
    · rcases hm with hm | hm
      · have := h1 k (by omega) hm
        rw [hq] at this
        cases this
        exact (pair_val _ _).mpr rfl
      · have := h3 k (by omega) hk
        rw [hq] at this
        cases this
        exact (pair_val _ _).mpr rfl
def befX (f s : Nat) (t : Nat) (i j : Nat) (b : Bool) : Prop := i < f ∨ (i = f ∧ (j < s ∨ (j = s ∧ ((b = true ∧ 1 ≤ t) ∨ (b = false ∧ 2 ≤ t)))))
/-- one more is looked at -/
theorem fstB_step {qs : List Rat} {f s : Nat} {b : Bool} {t : Nat} {r : Bool} (ht : t = if b then 0 else 1) (h : fstB qs (befX f s t) none) (hr : r = true ↔ fitB qs f s b) : fstB qs (befX f s (t + 1)) (if r then some ((f, s), b) else none) := by
  cases r with
  | true =>
    rw [if_pos rfl]
    refine ⟨hr.mp rfl, fun i j b' hb => h i j b' ?_⟩
    rcases hb with h1 | ⟨h1, h2 | ⟨h2, h3, h4⟩⟩
    · exact .inl h1
    · exact .inr ⟨h1, .inl h2⟩
    · simp only at h1 h2 h3 h4
      subst h4
      exact .inr ⟨h1, .inr ⟨h2, .inl ⟨h3, by rw [ht]; decide⟩⟩⟩
  | false =>
    rw [if_neg Bool.false_ne_true]
    intro i j b' hb hf
    rcases hb with h1 | ⟨h1, h2 | ⟨h2, h3⟩⟩
    · exact h i j b' (.inl h1) hf
    · exact h i j b' (.inr ⟨h1, .inl h2⟩) hf
    · by_cases hbb : b' = b
      · subst h1 h2 hbb
        exact absurd (hr.mpr hf) Bool.false_ne_true
      · refine h i j b' (.inr ⟨h1, .inr ⟨h2, ?_⟩⟩) hf
        cases b with
        | true =>
          have : t = 0 := ht
          subst this
          rcases h3 with ⟨h3, h4⟩ | ⟨h3, h4⟩
          · exact absurd h3 hbb
          · omega
        | false =>
          have : t = 1 := ht
          subst this
          rcases h3 with ⟨h3, h4⟩ | ⟨h3, h4⟩
          · exact .inl ⟨h3, by omega⟩
          · exact absurd h3 hbb
end G
namespace My
open PySem L2 PySem.Spec PyProof.Rows G
def topS (i : Nat) : Stmt := PySem.Challenge.pw_colormatch_k13_band_patterns.main.body.getD i (.Pass ⟨0, 0, 0, 0⟩)
abbrev s_Quotient_init : Stmt := inClass (topS 8) 0
abbrev N_Quotient_init : List Str := ["self", "top", "bottom", "common"]
theorem sc_Quotient_init : FnScope N_Quotient_init ["self", "top", "bottom"] (defScope s_Quotient_init) := ⟨rfl, rfl, rfl, by decide +kernel, rfl, by decide +kernel, by decide +kernel⟩
abbrev s_Quotient_add : Stmt := inClass (topS 8) 1
abbrev N_Quotient_add : List Str := ["self", "other"]
theorem sc_Quotient_add : FnScope N_Quotient_add ["self", "other"] (defScope s_Quotient_add) := ⟨rfl, rfl, rfl, by decide +kernel, rfl, by decide +kernel, by decide +kernel⟩
abbrev s_Quotient_sub : Stmt := inClass (topS 8) 2
abbrev N_Quotient_sub : List Str := ["self", "other"]
theorem sc_Quotient_sub : FnScope N_Quotient_sub ["self", "other"] (defScope s_Quotient_sub) := ⟨rfl, rfl, rfl, by decide +kernel, rfl, by decide +kernel, by decide +kernel⟩
abbrev s_Quotient_mul : Stmt := inClass (topS 8) 3
abbrev N_Quotient_mul : List Str := ["self", "other"]
theorem sc_Quotient_mul : FnScope N_Quotient_mul ["self", "other"] (defScope s_Quotient_mul) := ⟨rfl, rfl, rfl, by decide +kernel, rfl, by decide +kernel, by decide +kernel⟩
abbrev s_Quotient_neg : Stmt := inClass (topS 8) 4
abbrev N_Quotient_neg : List Str := ["self"]
theorem sc_Quotient_neg : FnScope N_Quotient_neg ["self"] (defScope s_Quotient_neg) := ⟨rfl, rfl, rfl, by decide +kernel, rfl, by decide +kernel, by decide +kernel⟩
abbrev s_Quotient_eq : Stmt := inClass (topS 8) 5
abbrev N_Quotient_eq : List Str := ["self", "other"]
theorem sc_Quotient_eq : FnScope N_Quotient_eq ["self", "other"] (defScope s_Quotient_eq) := ⟨rfl, rfl, rfl, by decide +kernel, rfl, by decide +kernel, by decide +kernel⟩
abbrev s_Quotient_lt : Stmt := inClass (topS 8) 6
abbrev N_Quotient_lt : List Str := ["self", "other"]
theorem sc_Quotient_lt : FnScope N_Quotient_lt ["self", "other"] (defScope s_Quotient_lt) := ⟨rfl, rfl, rfl, by decide +kernel, rfl, by decide +kernel, by decide +kernel⟩
abbrev s_Quotient_le : Stmt := inClass (topS 8) 7
abbrev N_Quotient_le : List Str := ["self", "other"]
theorem sc_Quotient_le : FnScope N_Quotient_le ["self", "other"] (defScope s_Quotient_le) := ⟨rfl, rfl, rfl, by decide +kernel, rfl, by decide +kernel, by decide +kernel⟩
abbrev s_whole : Stmt := topS 9
abbrev N_whole : List Str := ["number"]
theorem sc_whole : FnScope N_whole ["number"] (defScope s_whole) := ⟨rfl, rfl, rfl, by decide +kernel, rfl, by decide +kernel, by decide +kernel⟩
abbrev s_zero : Stmt := topS 10
abbrev N_zero : List Str := []
theorem sc_zero : FnScope N_zero [] (defScope s_zero) := ⟨rfl, rfl, rfl, by decide +kernel, rfl, by decide +kernel, by decide +kernel⟩
abbrev s_one : Stmt := topS 11
abbrev N_one : List Str := []
theorem sc_one : FnScope N_one [] (defScope s_one) := ⟨rfl, rfl, rfl, by decide +kernel, rfl, by decide +kernel, by decide +kernel⟩
abbrev s_band_pattern : Stmt := topS 16
abbrev N_band_pattern : List Str := ["reflectance", "passing", "stopping", "i", "j"]
theorem sc_band_pattern : FnScope N_band_pattern ["reflectance"] (defScope s_band_pattern) := ⟨rfl, rfl, rfl, by decide +kernel, rfl, by decide +kernel, by decide +kernel⟩
abbrev s_pattern_parts : Stmt := topS 17
abbrev N_pattern_parts : List Str := ["kind"]
theorem sc_pattern_parts : FnScope N_pattern_parts ["kind"] (defScope s_pattern_parts) := ⟨rfl, rfl, rfl, by decide +kernel, rfl, by decide +kernel, by decide +kernel⟩
abbrev s_first_pair : Stmt := topS 18
abbrev N_first_pair : List Str := ["reflectance", "kind", "inner", "outer", "count", "least", "i", "j"]
theorem sc_first_pair : FnScope N_first_pair ["reflectance", "kind"] (defScope s_first_pair) := ⟨rfl, rfl, rfl, by decide +kernel, rfl, by decide +kernel, by decide +kernel⟩
abbrev s_is_all : Stmt := topS 19
abbrev N_is_all : List Str := ["reflectance", "start", "end", "wanted", "band"]
theorem sc_is_all : FnScope N_is_all ["reflectance", "start", "end", "wanted"] (defScope s_is_all) := ⟨rfl, rfl, rfl, by decide +kernel, rfl, by decide +kernel, by decide +kernel⟩
abbrev s_law_cell : Stmt := topS 21
abbrev N_law_cell : List Str := ["script", "k"]
theorem sc_law_cell : FnScope N_law_cell ["script", "k"] (defScope s_law_cell) := ⟨rfl, rfl, rfl, by decide +kernel, rfl, by decide +kernel, by decide +kernel⟩
abbrev s_law_draws : Stmt := topS 22
abbrev N_law_draws : List Str := ["cell", "count", "number", "great", "found", "k", "mixed"]
theorem sc_law_draws : FnScope N_law_draws ["cell", "count"] (defScope s_law_draws) := ⟨rfl, rfl, rfl, by decide +kernel, rfl, by decide +kernel, by decide +kernel⟩
abbrev s_law_stream : Stmt := topS 23
abbrev N_law_stream : List Str := ["script", "first", "count", "found", "k"]
theorem sc_law_stream : FnScope N_law_stream ["script", "first", "count"] (defScope s_law_stream) := ⟨rfl, rfl, rfl, by decide +kernel, rfl, by decide +kernel, by decide +kernel⟩
abbrev s_law_next : Stmt := topS 24
abbrev N_law_next : List Str := ["stream", "many", "digits", "place", "value"]
theorem sc_law_next : FnScope N_law_next ["stream", "many"] (defScope s_law_next) := ⟨rfl, rfl, rfl, by decide +kernel, rfl, by decide +kernel, by decide +kernel⟩
abbrev s_law_part : Stmt := topS 25
abbrev N_law_part : List Str := ["first", "second", "k", "rest"]
theorem sc_law_part : FnScope N_law_part ["first", "second"] (defScope s_law_part) := ⟨rfl, rfl, rfl, by decide +kernel, rfl, by decide +kernel, by decide +kernel⟩
abbrev s_law_least : Stmt := topS 26
abbrev N_law_least : List Str := ["top", "bottom", "part"]
theorem sc_law_least : FnScope N_law_least ["top", "bottom"] (defScope s_law_least) := ⟨rfl, rfl, rfl, by decide +kernel, rfl, by decide +kernel, by decide +kernel⟩
abbrev s_law_is_integer : Stmt := topS 27
abbrev N_law_is_integer : List Str := ["actual"]
theorem sc_law_is_integer : FnScope N_law_is_integer ["actual"] (defScope s_law_is_integer) := ⟨rfl, rfl, rfl, by decide +kernel, rfl, by decide +kernel, by decide +kernel⟩
abbrev s_law_share : Stmt := topS 28
abbrev N_law_share : List Str := ["stream", "kind", "bottom"]
theorem sc_law_share : FnScope N_law_share ["stream"] (defScope s_law_share) := ⟨rfl, rfl, rfl, by decide +kernel, rfl, by decide +kernel, by decide +kernel⟩
abbrev s_law_same : Stmt := topS 29
abbrev N_law_same : List Str := ["actual", "expected", "k"]
theorem sc_law_same : FnScope N_law_same ["actual", "expected"] (defScope s_law_same) := ⟨rfl, rfl, rfl, by decide +kernel, rfl, by decide +kernel, by decide +kernel⟩
abbrev s_law_fits : Stmt := topS 30
abbrev N_law_fits : List Str := ["values", "i", "j", "inner", "k"]
theorem sc_law_fits : FnScope N_law_fits ["values", "i", "j", "inner"] (defScope s_law_fits) := ⟨rfl, rfl, rfl, by decide +kernel, rfl, by decide +kernel, by decide +kernel⟩
abbrev s_law : Stmt := topS 31
abbrev N_law : List Str := ["script", "stream", "count", "inner", "i", "j", "values", "k", "drawn", "share", "kind", "place", "due", "first", "second", "top", "bottom"]
theorem sc_law : FnScope N_law ["script"] (defScope s_law) := ⟨rfl, rfl, rfl, by decide +kernel, rfl, by decide +kernel, by decide +kernel⟩
structure Lay where
  C_ColorError : Addr
  C_BadQuotient : Addr
  C_Quotient : Addr
  f_Quotient_init : Addr
  d_Quotient_init : FuncData
  f_Quotient_add : Addr
  d_Quotient_add : FuncData
  f_Quotient_sub : Addr
  d_Quotient_sub : FuncData
  f_Quotient_mul : Addr
  d_Quotient_mul : FuncData
  f_Quotient_neg : Addr
  d_Quotient_neg : FuncData
  f_Quotient_eq : Addr
  d_Quotient_eq : FuncData
  f_Quotient_lt : Addr
  d_Quotient_lt : FuncData
  f_Quotient_le : Addr
  d_Quotient_le : FuncData
  f_whole : Addr
  d_whole : FuncData
  f_zero : Addr
  d_zero : FuncData
  f_one : Addr
  d_one : FuncData
  f_band_pattern : Addr
  d_band_pattern : FuncData
  f_pattern_parts : Addr
  d_pattern_parts : FuncData
  f_first_pair : Addr
  d_first_pair : FuncData
  f_is_all : Addr
  d_is_all : FuncData
  f_law_cell : Addr
  d_law_cell : FuncData
  f_law_draws : Addr
  d_law_draws : FuncData
  f_law_stream : Addr
  d_law_stream : FuncData
  f_law_next : Addr
  d_law_next : FuncData
  f_law_part : Addr
  d_law_part : FuncData
  f_law_least : Addr
  d_law_least : FuncData
  f_law_is_integer : Addr
  d_law_is_integer : FuncData
  f_law_share : Addr
  d_law_share : FuncData
  f_law_same : Addr
  d_law_same : FuncData
  f_law_fits : Addr
  d_law_fits : FuncData
  f_law : Addr
  d_law : FuncData
structure Txt (K : PySem.W.Frag) (mg : Str → Option Value) (L : Lay) : Prop where
  F_Quotient_init : Fun K "__init__" "Quotient.__init__" s_Quotient_init L.f_Quotient_init L.d_Quotient_init
  b_Quotient_init : Binds K L.d_Quotient_init ["self", "top", "bottom"] []
  fi_Quotient_init : PySem.W.findIn K (.ref L.C_Quotient) "__init__" = some (some (.ref L.f_Quotient_init))
  fn_Quotient_init : PySem.W.isFn K (.ref L.f_Quotient_init) = true
  me_Quotient_init : Meth K L.C_Quotient "__init__" L.f_Quotient_init
  F_Quotient_add : Fun K "__add__" "Quotient.__add__" s_Quotient_add L.f_Quotient_add L.d_Quotient_add
  b_Quotient_add : Binds K L.d_Quotient_add ["self", "other"] []
  fi_Quotient_add : PySem.W.findIn K (.ref L.C_Quotient) "__add__" = some (some (.ref L.f_Quotient_add))
  fn_Quotient_add : PySem.W.isFn K (.ref L.f_Quotient_add) = true
  me_Quotient_add : Meth K L.C_Quotient "__add__" L.f_Quotient_add
  F_Quotient_sub : Fun K "__sub__" "Quotient.__sub__" s_Quotient_sub L.f_Quotient_sub L.d_Quotient_sub
  b_Quotient_sub : Binds K L.d_Quotient_sub ["self", "other"] []
  fi_Quotient_sub : PySem.W.findIn K (.ref L.C_Quotient) "__sub__" = some (some (.ref L.f_Quotient_sub))
  fn_Quotient_sub : PySem.W.isFn K (.ref L.f_Quotient_sub) = true
  me_Quotient_sub : Meth K L.C_Quotient "__sub__" L.f_Quotient_sub
  F_Quotient_mul : Fun K "__mul__" "Quotient.__mul__" s_Quotient_mul L.f_Quotient_mul L.d_Quotient_mul
  b_Quotient_mul : Binds K L.d_Quotient_mul ["self", "other"] []
  fi_Quotient_mul : PySem.W.findIn K (.ref L.C_Quotient) "__mul__" = some (some (.ref L.f_Quotient_mul))
  fn_Quotient_mul : PySem.W.isFn K (.ref L.f_Quotient_mul) = true
  me_Quotient_mul : Meth K L.C_Quotient "__mul__" L.f_Quotient_mul
  F_Quotient_neg : Fun K "__neg__" "Quotient.__neg__" s_Quotient_neg L.f_Quotient_neg L.d_Quotient_neg
  b_Quotient_neg : Binds K L.d_Quotient_neg ["self"] []
  fi_Quotient_neg : PySem.W.findIn K (.ref L.C_Quotient) "__neg__" = some (some (.ref L.f_Quotient_neg))
  fn_Quotient_neg : PySem.W.isFn K (.ref L.f_Quotient_neg) = true
  me_Quotient_neg : Meth K L.C_Quotient "__neg__" L.f_Quotient_neg
  F_Quotient_eq : Fun K "__eq__" "Quotient.__eq__" s_Quotient_eq L.f_Quotient_eq L.d_Quotient_eq
  b_Quotient_eq : Binds K L.d_Quotient_eq ["self", "other"] []
  fi_Quotient_eq : PySem.W.findIn K (.ref L.C_Quotient) "__eq__" = some (some (.ref L.f_Quotient_eq))
  fn_Quotient_eq : PySem.W.isFn K (.ref L.f_Quotient_eq) = true
  me_Quotient_eq : Meth K L.C_Quotient "__eq__" L.f_Quotient_eq
  F_Quotient_lt : Fun K "__lt__" "Quotient.__lt__" s_Quotient_lt L.f_Quotient_lt L.d_Quotient_lt
  b_Quotient_lt : Binds K L.d_Quotient_lt ["self", "other"] []
  fi_Quotient_lt : PySem.W.findIn K (.ref L.C_Quotient) "__lt__" = some (some (.ref L.f_Quotient_lt))
  fn_Quotient_lt : PySem.W.isFn K (.ref L.f_Quotient_lt) = true
  me_Quotient_lt : Meth K L.C_Quotient "__lt__" L.f_Quotient_lt
  F_Quotient_le : Fun K "__le__" "Quotient.__le__" s_Quotient_le L.f_Quotient_le L.d_Quotient_le
  b_Quotient_le : Binds K L.d_Quotient_le ["self", "other"] []
  fi_Quotient_le : PySem.W.findIn K (.ref L.C_Quotient) "__le__" = some (some (.ref L.f_Quotient_le))
  fn_Quotient_le : PySem.W.isFn K (.ref L.f_Quotient_le) = true
  me_Quotient_le : Meth K L.C_Quotient "__le__" L.f_Quotient_le
  F_whole : Fun K "whole" "whole" s_whole L.f_whole L.d_whole
  b_whole : Binds K L.d_whole ["number"] []
  m_whole : mg "whole" = some (.ref L.f_whole)
  F_zero : Fun K "zero" "zero" s_zero L.f_zero L.d_zero
  b_zero : Binds K L.d_zero [] []
  m_zero : mg "zero" = some (.ref L.f_zero)
  F_one : Fun K "one" "one" s_one L.f_one L.d_one
  b_one : Binds K L.d_one [] []
  m_one : mg "one" = some (.ref L.f_one)
  F_band_pattern : Fun K "band_pattern" "band_pattern" s_band_pattern L.f_band_pattern L.d_band_pattern
  b_band_pattern : Binds K L.d_band_pattern ["reflectance"] []
  m_band_pattern : mg "band_pattern" = some (.ref L.f_band_pattern)
  F_pattern_parts : Fun K "pattern_parts" "pattern_parts" s_pattern_parts L.f_pattern_parts L.d_pattern_parts
  b_pattern_parts : Binds K L.d_pattern_parts ["kind"] []
  m_pattern_parts : mg "pattern_parts" = some (.ref L.f_pattern_parts)
  F_first_pair : Fun K "_first_pair" "_first_pair" s_first_pair L.f_first_pair L.d_first_pair
  b_first_pair : Binds K L.d_first_pair ["reflectance", "kind"] []
  m_first_pair : mg "_first_pair" = some (.ref L.f_first_pair)
  F_is_all : Fun K "_is_all" "_is_all" s_is_all L.f_is_all L.d_is_all
  b_is_all : Binds K L.d_is_all ["reflectance", "start", "end", "wanted"] []
  m_is_all : mg "_is_all" = some (.ref L.f_is_all)
  F_law_cell : Fun K "_law_cell" "_law_cell" s_law_cell L.f_law_cell L.d_law_cell
  b_law_cell : Binds K L.d_law_cell ["script", "k"] []
  m_law_cell : mg "_law_cell" = some (.ref L.f_law_cell)
  F_law_draws : Fun K "_law_draws" "_law_draws" s_law_draws L.f_law_draws L.d_law_draws
  b_law_draws : Binds K L.d_law_draws ["cell", "count"] []
  m_law_draws : mg "_law_draws" = some (.ref L.f_law_draws)
  F_law_stream : Fun K "_law_stream" "_law_stream" s_law_stream L.f_law_stream L.d_law_stream
  b_law_stream : Binds K L.d_law_stream ["script", "first", "count"] []
  m_law_stream : mg "_law_stream" = some (.ref L.f_law_stream)
  F_law_next : Fun K "_law_next" "_law_next" s_law_next L.f_law_next L.d_law_next
  b_law_next : Binds K L.d_law_next ["stream", "many"] []
  m_law_next : mg "_law_next" = some (.ref L.f_law_next)
  F_law_part : Fun K "_law_part" "_law_part" s_law_part L.f_law_part L.d_law_part
  b_law_part : Binds K L.d_law_part ["first", "second"] []
  m_law_part : mg "_law_part" = some (.ref L.f_law_part)
  F_law_least : Fun K "_law_least" "_law_least" s_law_least L.f_law_least L.d_law_least
  b_law_least : Binds K L.d_law_least ["top", "bottom"] []
  m_law_least : mg "_law_least" = some (.ref L.f_law_least)
  F_law_is_integer : Fun K "_law_is_integer" "_law_is_integer" s_law_is_integer L.f_law_is_integer L.d_law_is_integer
  b_law_is_integer : Binds K L.d_law_is_integer ["actual"] []
  m_law_is_integer : mg "_law_is_integer" = some (.ref L.f_law_is_integer)
  F_law_share : Fun K "_law_share" "_law_share" s_law_share L.f_law_share L.d_law_share
  b_law_share : Binds K L.d_law_share ["stream"] []
  m_law_share : mg "_law_share" = some (.ref L.f_law_share)
  F_law_same : Fun K "_law_same" "_law_same" s_law_same L.f_law_same L.d_law_same
  b_law_same : Binds K L.d_law_same ["actual", "expected"] []
  m_law_same : mg "_law_same" = some (.ref L.f_law_same)
  F_law_fits : Fun K "_law_fits" "_law_fits" s_law_fits L.f_law_fits L.d_law_fits
  b_law_fits : Binds K L.d_law_fits ["values", "i", "j", "inner"] []
  m_law_fits : mg "_law_fits" = some (.ref L.f_law_fits)
  F_law : Fun K "law" "law" s_law L.f_law L.d_law
  b_law : Binds K L.d_law ["script"] []
  m_law : mg "law" = some (.ref L.f_law)
  mg_ColorError : mg "ColorError" = some (.ref L.C_ColorError)
  mg_BadQuotient : mg "BadQuotient" = some (.ref L.C_BadQuotient)
  mg_Quotient : mg "Quotient" = some (.ref L.C_Quotient)
  k_Quotient : KC K L.C_Quotient
  sf_Quotient : PySem.W.selfFirst K L.C_Quotient = true
  mk_Quotient : Mk K L.C_Quotient L.f_Quotient_init
  na_Quotient_top : NoAttr K L.C_Quotient "top"
  na_Quotient_bottom : NoAttr K L.C_Quotient "bottom"
  kit_Quotient_Quotient : PySem.W.kitOne K (.ref L.C_Quotient) (.ref L.C_Quotient) = some true
  kit_bool_bool : PySem.W.kitOne K (.type "bool") (.type "bool") = some true
  kit_int_int : PySem.W.kitOne K (.type "int") (.type "int") = some true
  kit_int_bool : PySem.W.kitOne K (.type "int") (.type "bool") = some false
  kit_tuple_tuple : PySem.W.kitOne K (.type "tuple") (.type "tuple") = some true
  kit_tuple_bool : PySem.W.kitOne K (.type "tuple") (.type "bool") = some false
  kit_tuple_int : PySem.W.kitOne K (.type "tuple") (.type "int") = some false
  kit_tuple_str : PySem.W.kitOne K (.type "tuple") (.type "str") = some false
  kit_tuple_list : PySem.W.kitOne K (.type "tuple") (.type "list") = some false
  kit_str_bool : PySem.W.kitOne K (.type "str") (.type "bool") = some false
  kit_str_int : PySem.W.kitOne K (.type "str") (.type "int") = some false
  kit_str_str : PySem.W.kitOne K (.type "str") (.type "str") = some true
  x_BadQuotient : PySem.W.excIn K L.C_BadQuotient [.type "ValueError", .type "Exception", .type "BaseException", .type "object"] "ValueError.__new__" = true
  kc_BadQuotient : PySem.W.keepIn K (.ref L.C_BadQuotient) = true
  xb_BadQuotient : PySem.W.subIn K (.ref L.C_BadQuotient) (.type "BaseException") = some true
  xd_BadQuotient : PySem.W.hasDictIn K L.C_BadQuotient = true
  xt_BadQuotient : PySem.W.typeIn K (.ref L.C_BadQuotient) = some (.type "type")
  xi_BadQuotient : PySem.W.isClsIn K L.C_BadQuotient = true
  xs_BadQuotient : PySem.W.subIn K (.ref L.C_BadQuotient) (.ref L.C_BadQuotient) = some true
  ne_Quotient : NeCls K L.C_Quotient L.f_Quotient_eq
  c_PASS : ∃ u, mg "PASS" = some u ∧ RelV (.str "pass") u
  c_STOP : ∃ u, mg "STOP" = some u ∧ RelV (.str "stop") u
  n_abs : mg "abs" = none
  n_bool : mg "bool" = none
  n_divmod : mg "divmod" = none
  n_int : mg "int" = none
  n_isinstance : mg "isinstance" = none
  n_len : mg "len" = none
  n_list : mg "list" = none
  n_range : mg "range" = none
  n_str : mg "str" = none
  n_tuple : mg "tuple" = none
  n_ValueError : mg "ValueError" = none
  i_gcd : mg "gcd" = some (.builtin "math.gcd")
  c_PIECE_DIGITS : ∃ u, mg "PIECE_DIGITS" = some u ∧ RelV (.int 18) u
  c_PIECE : ∃ u, mg "PIECE" = some u ∧ RelV (.int 1000000000000000000) u
theorem Txt.ex_BadQuotient {K : PySem.W.Frag} {mg : Str → Option Value} {L : Lay} (T : Txt K mg L) : PySem.W.exmOne K (.ref L.C_BadQuotient) (.ref L.C_BadQuotient) = some true := PySem.W.exm_ref T.xb_BadQuotient T.xd_BadQuotient T.xt_BadQuotient T.xs_BadQuotient
section
variable {Pr : Program} {w : World} {K : PySem.W.Frag} {mg : Str → Option Value} {base : Heap} {L : Lay}
local macro_rules | `(tactic| walk_at "bz") => `(tactic| first
  | with_reducible assumption
  | with_reducible exact bits_zero
  | with_reducible exact bits_one
  | with_reducible exact bits_add (by walk_at "bz") (by walk_at "bz")
  | with_reducible exact bits_sub (by walk_at "bz") (by walk_at "bz")
  | with_reducible exact bits_mul (by walk_at "bz") (by walk_at "bz")
  | with_reducible exact bits_neg (by walk_at "bz"))
local macro_rules | `(tactic| walk_at "qq") => `(tactic| first
  | refine e_var rfl ?_
  | refine e_c ?_
  | refine r_own ⟨_, _, _, _, rfl, by walk_at "bz", by walk_at "bz", by decide, ?_⟩
  | refine r_own1 ⟨_, _, rfl, by walk_at "bz", by decide, ?_⟩
  | refine e_op ?_
  | refine e_un ?_
  | refine t_test ?_
  | refine t_not ?_
  | refine t_or ?_
  | refine t_and ?_
  | refine e_call (a_nil ⟨rfl, rfl, ?_⟩))
local macro_rules | `(tactic| walk_at "qv") => `(tactic| first
  | refine e_var rfl ?_
  | refine e_c ?_
  | refine r_own ⟨_, _, _, _, rfl, by walk_at "bz", by walk_at "bz", by omega, ?_⟩
  | refine r_own1 ⟨_, _, rfl, by walk_at "bz", by omega, ?_⟩
  | refine e_op ?_
  | refine e_un ?_)
local macro_rules | `(tactic| walk_at "ii") => `(tactic| first
  | refine e_var rfl ?_
  | refine e_c ?_
  | refine r_rI0 ?_
  | refine r_rI (wide_q (by assumption) (by assumption) (by decide)) ?_
  | refine r_ixL rfl ?_
  | refine e_op ?_)
local macro_rules | `(tactic| walk_at "bv") => `(tactic| first
  | with_reducible assumption
  | with_reducible exact bitsV_zero
  | with_reducible exact bitsV_add (by walk_at "bv") (by walk_at "bv")
  | with_reducible exact bitsV_sub (by walk_at "bv") (by walk_at "bv")
  | with_reducible exact bits_det (m := 6) (by assumption) (by assumption) (by assumption)
  | with_reducible exact bits_det (m := 13) (by walk_at "bv") (by assumption) (by assumption)
  | with_reducible exact bits_neg (by walk_at "bv")
  | with_reducible exact bits_add (by walk_at "bv") (by walk_at "bv"))
local macro_rules | `(tactic| walk_at "vv") => `(tactic| first
  | refine t_not ?_
  | refine t_or ?_
  | refine t_test ?_
  | refine t_B ?_
  | refine e_var rfl ?_
  | refine e_c ?_
  | with_reducible refine a_cons ?_
  | with_reducible refine e_op ?_
  | with_reducible refine e_un ?_
  | refine e_call ?_
  | refine r_own ⟨_, _, _, _, rfl, by walk_at "bv", by walk_at "bv", by decide, ?_⟩
  | refine r_own1 ⟨_, _, rfl, by walk_at "bv", by decide, ?_⟩
  | refine r_ixT (at_dV (by assumption)) ?_
  | refine r_ixL (at_row (by assumption)) ?_
  | refine r_ixL rfl ?_
  | refine r_rI0 ?_
  | refine a_nil ⟨rfl, _, _, _, 6, rfl, by assumption, by assumption, by assumption, by decide, ?_⟩
  | refine a_nil ⟨rfl, _, _, _, _, rfl, by walk_at "bv", by walk_at "bv", by decide, ?_⟩
  | refine a_nil ⟨rfl, rfl, ?_⟩)
theorem e_top {te : TE} {ρ : Rho} {O : Store} {P : D → Store → Prop} (T : Txt K mg L) (h : wE K te ρ O fun x O1 => ∃ q, x = dQ L.C_Quotient q ∧ P (.int q.num) O1) : wE K (tFld K te "top") ρ O P :=
  e_fld (h.mono fun d O' z => by obtain ⟨q, rfl, p⟩ := z; exact ⟨_, _, _, rfl, T.k_Quotient.cl, T.na_Quotient_top, rfl, p⟩)
theorem e_bot {te : TE} {ρ : Rho} {O : Store} {P : D → Store → Prop} (T : Txt K mg L) (h : wE K te ρ O fun x O1 => ∃ q, x = dQ L.C_Quotient q ∧ P (.int (q.den : Int)) O1) : wE K (tFld K te "bottom") ρ O P :=
  e_fld (h.mono fun d O' z => by obtain ⟨q, rfl, p⟩ := z; exact ⟨_, _, _, rfl, T.k_Quotient.cl, T.na_Quotient_bottom, rfl, p⟩)
theorem e_topv {ρ : Rho} {O : Store} {P : D → Store → Prop} {i : Nat} {q : Rat} (T : Txt K mg L) (h : ρ[i]? = some (some (dQ L.C_Quotient q))) (p : P (.int q.num) O) : wE K (tFld K (tVar i) "top") ρ O P := e_top T (e_var h ⟨q, rfl, p⟩)
theorem e_botv {ρ : Rho} {O : Store} {P : D → Store → Prop} {i : Nat} {q : Rat} (T : Txt K mg L) (h : ρ[i]? = some (some (dQ L.C_Quotient q))) (p : P (.int (q.den : Int)) O) : wE K (tFld K (tVar i) "bottom") ρ O P := e_bot T (e_var h ⟨q, rfl, p⟩)
theorem ok_Quotient_init (T : Txt K mg L) : FnOk Pr w K mg base (L2.CX Pr w) 1 L.f_Quotient_init L.d_Quotient_init ["self", "top", "bottom"] (spI K L.C_Quotient 2 (W_Qinit L.C_BadQuotient)) := by
  refine okI T.F_Quotient_init sc_Quotient_init rfl (fun cdv A outer s H0 E hr => ⟨_, (pss_cons (ps_if (pt_cmpR op_eq (pv 2) pe_int (nomark _)) (pss_one (ps_raise rfl (takes_of rfl rfl rfl rfl) (pmk_own PySem.F.excBase_ValueError T.x_BadQuotient T.mg_BadQuotient T.kc_BadQuotient (raises_own T.xb_BadQuotient T.xt_BadQuotient) (by rfl)))) pss_nil)
    (pss_cons (ps_set (i := 3) sc_Quotient_init.nd rfl (by first | exact Or.inl rfl | exact Or.inr rfl) (pe_callBfun cr_gcd (by rfl) T.i_gcd (pa_cons (pv 1) (pa_cons (pv 2) pa_nil))))
    (pss_cons (ps_if (pt_cmpR op_lt (pv 2) pe_int (nomark _)) (pss_one (ps_set (i := 3) sc_Quotient_init.nd rfl (by first | exact Or.inl rfl | exact Or.inr rfl) (pe_un un_neg (pv 3)))) pss_nil)
    (pss_cons (ps_fld (pv 0) (pe_op op_fdivG (pv 1) (pv 3)) rfl)
    (pss_one (ps_fld (pv 0) (pe_op op_fdivG (pv 2) (pv 3)) rfl)))))), ?_⟩)
  rintro ds PF PX hl ⟨t, b, rfl, h0, h1⟩ xa F1 B H σ Q e hs q qx
  refine t_run (P := fun bb O' => bb = decide (b = 0) ∧ O' = [(xa, .ins L.C_Quotient [])]) (O := [(xa, .ins L.C_Quotient [])]) ?_ e hs ?_
  · refine t_test (e_op (e_var rfl (e_c (r_eq rfl ⟨_, rfl, ?_, rfl⟩))))
    rw [Bool.eq_iff_iff]
    simp
  · rintro bb O' B2 H2 ⟨rfl, rfl⟩ e2 hs2
    by_cases hb : b = 0
    · rw [decide_eq_true hb]
      exact qx _ B2 H2 (h0 hb) e2 hs2.tail
    · obtain ⟨hbits, hPF⟩ := h1 hb
      rw [decide_eq_false hb]
      refine iteF ?_
      dsimp only [tNext]
      refine init_rest (C := L.C_Quotient) (PF := PF) ?_ (e.mono e2) hs2 e2 q
      refine s_seq (s_asg (e_cb (a_cons (e_var rfl (a_cons (e_var rfl (a_nil (c_gcd ?_))))))))
      refine s_seq (wS.mono (PS := fun o O' => o = .nx [some (.loc xa), some (.int t), some (.int b), some (.int (common t b))] ∧ O' = [(xa, .ins L.C_Quotient [])]) ?_ ?_)
      · refine s_if (t_test (e_op (e_var rfl (e_c (r_rI0 ⟨_, rfl, fun hn => ?_, fun hn => ?_⟩)))))
        · refine s_asg (e_un (e_var rfl (r_rU ⟨?_, rfl⟩)))
          unfold common
          rw [if_pos (of_decide_eq_true hn)]
          rfl
        · refine s_next ⟨?_, rfl⟩
          unfold common
          rw [if_neg (of_decide_eq_false hn)]
          rfl
      · rintro o O' ⟨rfl, rfl⟩
        have hc := common_ne (t := t) hb
        have hcb : (common t b).natAbs < 2 ^ 8990 := Nat.lt_of_le_of_lt (common_le hb) hbits
        refine s_seq (s_fld (e_op (e_var rfl (e_var rfl (r_rI (cdivG hc hcb (by decide)) (e_var rfl ⟨xa, L.C_Quotient, [], _, rfl, .here, T.k_Quotient.cl, T.na_Quotient_top, by decide, ?_⟩))))))
        refine s_fld (e_op (e_var rfl (e_var rfl (r_rI (cdivG hc hcb (by decide)) (e_var rfl ⟨xa, L.C_Quotient, _, _, rfl, .here, T.k_Quotient.cl, T.na_Quotient_bottom, (by show 1 < 1000; decide), ?_⟩)))))
        refine ⟨_, rfl, ?_⟩
        rw [quo_num hb, quo_den hb]
        exact hPF
theorem ok_whole (T : Txt K mg L) : FnOk Pr w K mg base CX0 3 L.f_whole L.d_whole ["number"] (spP K 1 (W_whole L.C_Quotient)) := by
  refine okP T.F_whole sc_whole rfl (fun cdv A outer s H E hr => ⟨_, (pss_one (ps_ret (pe_make T.mk_Quotient (ok_Quotient_init T) (hr.mono (by decide)) (by rfl) T.mg_Quotient T.b_Quotient_init .nil passL (pa_cons (pv 0) (pa_cons pe_int pa_nil))))), ?_⟩)
  rintro ds P hl ⟨n, rfl, p⟩
  refine s_ret (e_make (a_cons (e_var rfl (a_cons (e_c (a_nil ⟨rfl, n, 1, rfl, fun z => absurd z (by decide), fun _ => ⟨one_small, ?_⟩⟩))))))
  rw [q_whole]
  exact p
theorem ok_zero (T : Txt K mg L) : FnOk Pr w K mg base CX0 4 L.f_zero L.d_zero [] (spP K 0 (W_q0 L.C_Quotient 0)) := by
  refine okP T.F_zero sc_zero rfl (fun cdv A outer s H E hr => ⟨_, (pss_one (ps_ret (pe_call (ok_whole T) (hr.mono (by decide)) (by rfl) T.m_whole T.F_whole.kp T.b_whole .nil pass0 (pa_cons pe_int pa_nil)))), ?_⟩)
  rintro ds P hl ⟨rfl, p⟩
  exact s_ret (e_call (a_cons (e_c (a_nil ⟨rfl, 0, rfl, p⟩))))
theorem ok_one (T : Txt K mg L) : FnOk Pr w K mg base CX0 4 L.f_one L.d_one [] (spP K 0 (W_q0 L.C_Quotient 1)) := by
  refine okP T.F_one sc_one rfl (fun cdv A outer s H E hr => ⟨_, (pss_one (ps_ret (pe_call (ok_whole T) (hr.mono (by decide)) (by rfl) T.m_whole T.F_whole.kp T.b_whole .nil pass0 (pa_cons pe_int pa_nil)))), ?_⟩)
  rintro ds P hl ⟨rfl, p⟩
  exact s_ret (e_call (a_cons (e_c (a_nil ⟨rfl, 1, rfl, p⟩))))
/-- a quotient made of two parts -/
theorem e_quo {ta tb : TE} {ρ : Rho} {O : Store} {P : D → Store → Prop} {C CB : Addr} {E : XK} (h : wE K ta ρ O fun x O1 => wE K tb ρ O1 fun y O2 => ∃ t b : Int, x = .int t ∧ y = .int b ∧ b ≠ 0 ∧ b.natAbs < 2 ^ 8990 ∧ P (dQ C (Rat.divInt t b)) O2) :
    wE K (tMake C (spI K C 2 (W_Qinit CB)) [] E (tCons ta (tCons tb tNil))) ρ O P :=
  e_make (a_cons (h.mono fun x O1 h1 => a_cons (h1.mono fun y O2 h2 => a_nil (by
    obtain ⟨t, b, rfl, rfl, hb, hz, p⟩ := h2
    exact ⟨rfl, t, b, rfl, fun z => absurd z hb, fun _ => ⟨hz, p⟩⟩))))
theorem ok_Quotient_add (T : Txt K mg L) : FnOk Pr w K mg base CX0 3 L.f_Quotient_add L.d_Quotient_add ["self", "other"] (spP K 2 (W_q2 L.C_Quotient fun x y => dQ L.C_Quotient (x + y))) := by
  refine okP T.F_Quotient_add sc_Quotient_add rfl (fun cdv A outer s H E hr => ⟨_, (pss_one (ps_ret (pe_make T.mk_Quotient (ok_Quotient_init T) (hr.mono (by decide)) (by rfl) T.mg_Quotient T.b_Quotient_init .nil passL (pa_cons (pe_op op_add (pe_op op_mulW (pe_fld (pv 0) rfl) (pe_fld (pv 1) rfl)) (pe_op op_mulW (pe_fld (pv 1) rfl) (pe_fld (pv 0) rfl))) (pa_cons (pe_op op_mulW (pe_fld (pv 0) rfl) (pe_fld (pv 1) rfl)) pa_nil))))), ?_⟩)
  rintro ds P hl ⟨x, y, m, n, rfl, hx, hy, hmn, p⟩
  refine s_ret (e_quo (e_op (e_op (e_topv T (q := x) rfl (e_botv T (q := y) rfl (r_rI (wide_q hx.1 (bits_den hy) (by omega)) ?_))))))
  refine e_op (e_topv T (q := y) rfl (e_botv T (q := x) rfl (r_rI (wide_q hy.1 (bits_den hx) (by omega)) (r_rI0 ?_))))
  refine e_op (e_botv T (q := x) rfl (e_botv T (q := y) rfl (r_rI (wide_q (bits_den hx) (bits_den hy) (by omega)) ⟨_, _, rfl, rfl, den_mul_ne x y, small_of (natAbs_mul_lt (bits_den hx) (bits_den hy)) (by omega), ?_⟩)))
  rw [q_add]
  exact p
theorem ok_Quotient_sub (T : Txt K mg L) : FnOk Pr w K mg base CX0 3 L.f_Quotient_sub L.d_Quotient_sub ["self", "other"] (spP K 2 (W_q2 L.C_Quotient fun x y => dQ L.C_Quotient (x - y))) := by
  refine okP T.F_Quotient_sub sc_Quotient_sub rfl (fun cdv A outer s H E hr => ⟨_, (pss_one (ps_ret (pe_make T.mk_Quotient (ok_Quotient_init T) (hr.mono (by decide)) (by rfl) T.mg_Quotient T.b_Quotient_init .nil passL (pa_cons (pe_op op_sub (pe_op op_mulW (pe_fld (pv 0) rfl) (pe_fld (pv 1) rfl)) (pe_op op_mulW (pe_fld (pv 1) rfl) (pe_fld (pv 0) rfl))) (pa_cons (pe_op op_mulW (pe_fld (pv 0) rfl) (pe_fld (pv 1) rfl)) pa_nil))))), ?_⟩)
  rintro ds P hl ⟨x, y, m, n, rfl, hx, hy, hmn, p⟩
  refine s_ret (e_quo (e_op (e_op (e_topv T (q := x) rfl (e_botv T (q := y) rfl (r_rI (wide_q hx.1 (bits_den hy) (by omega)) ?_))))))
  refine e_op (e_topv T (q := y) rfl (e_botv T (q := x) rfl (r_rI (wide_q hy.1 (bits_den hx) (by omega)) (r_rI0 ?_))))
  refine e_op (e_botv T (q := x) rfl (e_botv T (q := y) rfl (r_rI (wide_q (bits_den hx) (bits_den hy) (by omega)) ⟨_, _, rfl, rfl, den_mul_ne x y, small_of (natAbs_mul_lt (bits_den hx) (bits_den hy)) (by omega), ?_⟩)))
  rw [q_sub]
  exact p
theorem ok_Quotient_mul (T : Txt K mg L) : FnOk Pr w K mg base CX0 3 L.f_Quotient_mul L.d_Quotient_mul ["self", "other"] (spP K 2 (W_q2 L.C_Quotient fun x y => dQ L.C_Quotient (x * y))) := by
  refine okP T.F_Quotient_mul sc_Quotient_mul rfl (fun cdv A outer s H E hr => ⟨_, (pss_one (ps_ret (pe_make T.mk_Quotient (ok_Quotient_init T) (hr.mono (by decide)) (by rfl) T.mg_Quotient T.b_Quotient_init .nil passL (pa_cons (pe_op op_mulW (pe_fld (pv 0) rfl) (pe_fld (pv 1) rfl)) (pa_cons (pe_op op_mulW (pe_fld (pv 0) rfl) (pe_fld (pv 1) rfl)) pa_nil))))), ?_⟩)
  rintro ds P hl ⟨x, y, m, n, rfl, hx, hy, hmn, p⟩
  refine s_ret (e_quo (e_op (e_topv T (q := x) rfl (e_topv T (q := y) rfl (r_rI (wide_q hx.1 hy.1 (by omega)) ?_)))))
  refine e_op (e_botv T (q := x) rfl (e_botv T (q := y) rfl (r_rI (wide_q (bits_den hx) (bits_den hy) (by omega)) ⟨_, _, rfl, rfl, den_mul_ne x y, small_of (natAbs_mul_lt (bits_den hx) (bits_den hy)) (by omega), ?_⟩)))
  rw [q_mul]
  exact p
theorem ok_Quotient_neg (T : Txt K mg L) : FnOk Pr w K mg base CX0 3 L.f_Quotient_neg L.d_Quotient_neg ["self"] (spP K 1 (W_q1 L.C_Quotient fun x => dQ L.C_Quotient (-x))) := by
  refine okP T.F_Quotient_neg sc_Quotient_neg rfl (fun cdv A outer s H E hr => ⟨_, (pss_one (ps_ret (pe_make T.mk_Quotient (ok_Quotient_init T) (hr.mono (by decide)) (by rfl) T.mg_Quotient T.b_Quotient_init .nil passL (pa_cons (pe_un un_neg (pe_fld (pv 0) rfl)) (pa_cons (pe_fld (pv 0) rfl) pa_nil))))), ?_⟩)
  rintro ds P hl ⟨x, m, rfl, hx, hm, p⟩
  refine s_ret (e_quo (e_un (e_topv T (q := x) rfl (r_rU ?_))))
  refine e_botv T (q := x) rfl ⟨_, _, rfl, rfl, den_ne x, small_of (bits_den hx) (by omega), ?_⟩
  rw [q_neg]
  exact p
theorem ok_Quotient_eq (T : Txt K mg L) : FnOk Pr w K mg base CX0 1 L.f_Quotient_eq L.d_Quotient_eq ["self", "other"] (spP K 2 (W_q2 L.C_Quotient fun x y => .bl (decide (x = y)))) := by
  refine okP T.F_Quotient_eq sc_Quotient_eq rfl (fun cdv A outer s H E hr => ⟨_, (pss_one (ps_ret (pe_and (pe_callB (r := rIsi K) call_isi rfl T.n_isinstance (by decide +kernel) (pa_cons (pv 1) (pa_cons (pe_glob (v := .ref L.C_Quotient) (by rfl) T.mg_Quotient rfl) pa_nil))) (pe_and (pe_cmpR op_eq (pe_fld (pv 0) rfl) (pe_fld (pv 1) rfl) (nomark _)) (pe_one (pe_cmpR op_eq (pe_fld (pv 0) rfl) (pe_fld (pv 1) rfl) (nomark _))))))), ?_⟩)
  rintro ds P hl ⟨x, y, m, n, rfl, hx, hy, hmn, p⟩
  dsimp only at p
  rw [← q_eq] at p
  refine s_ret (e_and (e_cb (a_cons (e_var rfl (a_cons (e_c (a_nil (c_isi (.ins _ _ T.k_Quotient) (.own _) T.kit_Quotient_Quotient ⟨true, rfl, fun _ => ?_, fun z => nomatch z⟩))))))))
  refine e_and (e_op (e_topv T (q := x) rfl (e_topv T (q := y) rfl (r_eq rfl ⟨_, rfl, fun h1 => ?_, fun h1 => ?_⟩))))
  · refine e_op (e_botv T (q := x) rfl (e_botv T (q := y) rfl (r_eq rfl ?_)))
    rw [dec_ints] at h1 ⊢
    rw [h1] at p
    exact p
  · rw [dec_ints] at h1
    rw [h1] at p
    exact p
theorem ok_Quotient_lt (T : Txt K mg L) : FnOk Pr w K mg base CX0 1 L.f_Quotient_lt L.d_Quotient_lt ["self", "other"] (spP K 2 (W_q2 L.C_Quotient fun x y => .bl (decide (x < y)))) := by
  refine okP T.F_Quotient_lt sc_Quotient_lt rfl (fun cdv A outer s H E hr => ⟨_, (pss_one (ps_ret (pe_cmpR op_lt (pe_op op_mulW (pe_fld (pv 0) rfl) (pe_fld (pv 1) rfl)) (pe_op op_mulW (pe_fld (pv 1) rfl) (pe_fld (pv 0) rfl)) (nomark _)))), ?_⟩)
  rintro ds P hl ⟨x, y, m, n, rfl, hx, hy, hmn, p⟩
  dsimp only at p
  rw [← q_lt] at p
  refine s_ret (e_op (e_op (e_topv T (q := x) rfl (e_botv T (q := y) rfl (r_rI (wide_q hx.1 (bits_den hy) (by omega)) ?_)))))
  exact e_op (e_topv T (q := y) rfl (e_botv T (q := x) rfl (r_rI (wide_q hy.1 (bits_den hx) (by omega)) (r_rI0 p))))
theorem ok_Quotient_le (T : Txt K mg L) : FnOk Pr w K mg base CX0 1 L.f_Quotient_le L.d_Quotient_le ["self", "other"] (spP K 2 (W_q2 L.C_Quotient fun x y => .bl (decide (x ≤ y)))) := by
  refine okP T.F_Quotient_le sc_Quotient_le rfl (fun cdv A outer s H E hr => ⟨_, (pss_one (ps_ret (pe_cmpR op_le (pe_op op_mulW (pe_fld (pv 0) rfl) (pe_fld (pv 1) rfl)) (pe_op op_mulW (pe_fld (pv 1) rfl) (pe_fld (pv 0) rfl)) (nomark _)))), ?_⟩)
  rintro ds P hl ⟨x, y, m, n, rfl, hx, hy, hmn, p⟩
  dsimp only at p
  rw [← q_le] at p
  refine s_ret (e_op (e_op (e_topv T (q := x) rfl (e_botv T (q := y) rfl (r_rI (wide_q hx.1 (bits_den hy) (by omega)) ?_)))))
  exact e_op (e_topv T (q := y) rfl (e_botv T (q := x) rfl (r_rI (wide_q hy.1 (bits_den hx) (by omega)) (r_rI0 p))))
theorem ok_law_cell (T : Txt K mg L) : FnOk Pr w K mg base CX0 1 L.f_law_cell L.d_law_cell ["script", "k"] (spP K 2 W_cell) := by
  refine okP T.F_law_cell sc_law_cell rfl (fun cdv A outer s H E hr => ⟨_, (pss_cons (ps_if (pt_cmpR op_lt (pv 1) (pe_callB (r := Evl.rLenS K) call_len_seq rfl T.n_len (by decide +kernel) (pa_cons (pv 0) pa_nil)) (nomark _)) (pss_one (ps_ret (pe_callTy (r := rInt1) call_int1 rfl T.n_int (by decide +kernel) (pa_cons (pe_ix (r := rIxL K) ix_list (pv 0) (pv 1) (fun _ _ => rfl)) pa_nil)))) pss_nil)
    (pss_one (ps_ret pe_int))), ?_⟩)
  rintro ds P hl ⟨ns, k, rfl, h0, p⟩
  refine s_seq (s_if (t_test (e_op (e_var rfl (e_cb (a_cons (e_var rfl (a_nil (c_len (.inr (.inr rfl)) (r_rI0 ⟨_, rfl, fun h => ?_, fun h => ?_⟩))))))))))
  · have h' : k < ns.length := by have := of_decide_eq_true h; rwa [scr_len] at this
    exact s_ret (e_cb (a_cons (e_op (e_var rfl (e_var rfl (r_ixZ (cell_lt h0 h') (a_nil (c_int p))))))))
  · have h' : ¬ k < ns.length := by have := of_decide_eq_false h; rwa [scr_len] at this
    refine s_next (s_ret (e_c ?_))
    rw [cell_ge h' h0] at p
    exact p
theorem ok_law_part (T : Txt K mg L) : FnOk Pr w K mg base CX0 1 L.f_law_part L.d_law_part ["first", "second"] (spP K 2 W_part) := by
  refine okP T.F_law_part sc_law_part rfl (fun cdv A outer s H E hr => ⟨_, (pss_cons (ps_set (i := 0) sc_law_part.nd rfl (by first | exact Or.inl rfl | exact Or.inr rfl) (pe_callB (r := rAbs) call_abs rfl T.n_abs (by decide +kernel) (pa_cons (pv 0) pa_nil)))
    (pss_cons (ps_set (i := 1) sc_law_part.nd rfl (by first | exact Or.inl rfl | exact Or.inr rfl) (pe_callB (r := rAbs) call_abs rfl T.n_abs (by decide +kernel) (pa_cons (pv 1) pa_nil)))
    (pss_cons (ps_for PassesOwn.never rfl (pi_range1 (by rfl) T.n_range (pa_cons pe_int pa_nil)) (pg_name (i := 2) sc_law_part.nd rfl (by first | exact Or.inl rfl | exact Or.inr rfl)) (pss_one (ps_if (pt_cmpR op_gt (pv 1) pe_int (nomark _)) (pss_cons (ps_set (i := 3) sc_law_part.nd rfl (by first | exact Or.inl rfl | exact Or.inr rfl) (pe_op op_mod (pv 0) (pv 1)))
    (pss_cons (ps_set (i := 0) sc_law_part.nd rfl (by first | exact Or.inl rfl | exact Or.inr rfl) (pv 1))
    (pss_one (ps_set (i := 1) sc_law_part.nd rfl (by first | exact Or.inl rfl | exact Or.inr rfl) (pv 3))))) pss_nil)))
    (pss_one (ps_ret (pv 0)))))), ?_⟩)
  rintro ds P hl ⟨a, b, rfl, hb, p⟩
  refine s_seq (s_asg (e_cb (a_cons (e_var rfl (a_nil (c_abs ?_))))))
  refine s_seq (s_asg (e_cb (a_cons (e_var rfl (a_nil (c_abs ?_))))))
  rw [abs_cast, abs_cast]
  refine s_seq (s_for (i_rng1 (a_cons (e_c (a_nil ⟨600, rfl, by decide, by decide, ?_⟩)))))
  refine ⟨fun i ρ O => (∃ k r, ρ = [some (.int (((eucs i (a.natAbs, b.natAbs)).1 : Nat) : Int)), some (.int (((eucs i (a.natAbs, b.natAbs)).2 : Nat) : Int)), k, r]) ∧ O = [], ⟨⟨_, _, rfl⟩, rfl⟩, ?_, ?_⟩
  · rintro i d ρ' O' hi ⟨⟨k, r, rfl⟩, rfl⟩
    have e1 : eucs (i + 1) (a.natAbs, b.natAbs) = euc (eucs i (a.natAbs, b.natAbs)) := rfl
    generalize eucs i (a.natAbs, b.natAbs) = x at *
    refine g_name (s_if (t_test (e_op (e_var rfl (e_c (r_rI0 ⟨_, rfl, fun h => ?_, fun h => ?_⟩))))))
    · have h0 : (0 : Int) < ((x.2 : Nat) : Int) := of_decide_eq_true h
      refine s_seq (s_asg (e_op (e_var rfl (e_var rfl (r_rI h0 ?_)))))
      refine s_seq (s_asg (e_var rfl ?_))
      refine s_asg (e_var rfl ?_)
      refine ⟨⟨some d, some (.int (((x.1 : Nat) : Int) % ((x.2 : Nat) : Int))), ?_⟩, rfl⟩
      rw [e1]
      unfold euc
      rw [if_pos (by omega)]
      rfl
    · have h0 : ¬ (0 : Int) < ((x.2 : Nat) : Int) := of_decide_eq_false h
      refine s_next ⟨⟨some d, r, ?_⟩, rfl⟩
      rw [e1]
      unfold euc
      rw [if_neg (by omega)]
      rfl
  · rintro ρ' O' ⟨⟨k, r, rfl⟩, rfl⟩
    refine s_ret (e_var rfl ?_)
    rw [rangeD_len, show (600 : Int).toNat = 600 from rfl, eucs_end hb]
    exact p
theorem ok_law_least (T : Txt K mg L) : FnOk Pr w K mg base CX0 2 L.f_law_least L.d_law_least ["top", "bottom"] (spP K 2 W_least) := by
  refine okP T.F_law_least sc_law_least rfl (fun cdv A outer s H E hr => ⟨_, (pss_cons (ps_set (i := 2) sc_law_least.nd rfl (by first | exact Or.inl rfl | exact Or.inr rfl) (pe_call (ok_law_part T) (hr.mono (by decide)) (by rfl) T.m_law_part T.F_law_part.kp T.b_law_part .nil pass0 (pa_cons (pv 0) (pa_cons (pv 1) pa_nil))))
    (pss_cons (ps_if (pt_cmpR op_lt (pv 1) pe_int (nomark _)) (pss_one (ps_set (i := 2) sc_law_least.nd rfl (by first | exact Or.inl rfl | exact Or.inr rfl) (pe_op op_sub pe_int (pv 2)))) pss_nil)
    (pss_one (ps_ret (pe_tup (pa_cons (pe_op op_fdivG (pv 0) (pv 2)) (pa_cons (pe_op op_fdivG (pv 1) (pv 2)) pa_nil))))))), ?_⟩)
  rintro ds P hl ⟨t, b, rfl, hb, hz, p⟩
  refine s_seq (s_asg (e_call (a_cons (e_var rfl (a_cons (e_var rfl (a_nil ⟨rfl, t, b, rfl, hz, ?_⟩)))))))
  refine s_seq (wS.mono (PS := fun o O' => o = .nx [some (.int t), some (.int b), some (.int (common t b))] ∧ O' = []) (s_if (t_test (e_op (e_var rfl (e_c (r_rI0 ⟨_, rfl, fun hn => ?_, fun hn => ?_⟩)))))) ?_)
  · refine s_asg (e_op (e_c (e_var rfl (r_rI0 ⟨?_, rfl⟩))))
    unfold common
    rw [if_pos (of_decide_eq_true hn), Int.zero_sub]
    rfl
  · refine s_next ⟨?_, rfl⟩
    unfold common
    rw [if_neg (of_decide_eq_false hn)]
    rfl
  · rintro o O' ⟨rfl, rfl⟩
    have hc := common_ne (t := t) hb
    have hcb : (common t b).natAbs < 2 ^ 300 := Nat.lt_of_le_of_lt (common_le hb) hz
    refine s_ret (e_tup (a_cons (e_op (e_var rfl (e_var rfl (r_rI (cdivG hc hcb (by decide)) ?_))))))
    refine a_cons (e_op (e_var rfl (e_var rfl (r_rI (cdivG hc hcb (by decide)) (a_nil ⟨(by show 2 ≤ 100000; decide), ?_⟩)))))
    rw [quo_num hb, quo_den hb]
    exact p
theorem ok_law_is_integer (T : Txt K mg L) : FnOk Pr w K mg base CX0 1 L.f_law_is_integer L.d_law_is_integer ["actual"] (spP K 1 W_isInt) := by
  refine okP T.F_law_is_integer sc_law_is_integer rfl (fun cdv A outer s H E hr => ⟨_, (pss_one (ps_ret (pe_and (pe_callB (r := rIsi K) call_isi rfl T.n_isinstance (by decide +kernel) (pa_cons (pv 0) (pa_cons (pe_bltn (v := .ty "int") (by rfl) T.n_int (by decide +kernel) rfl) pa_nil))) (pe_one (pe_not (pe_callB (r := rIsi K) call_isi rfl T.n_isinstance (by decide +kernel) (pa_cons (pv 0) (pa_cons (pe_bltn (v := .ty "bool") (by rfl) T.n_bool (by decide +kernel) rfl) pa_nil)))))))), ?_⟩)
  rintro ds P hl ⟨i, rfl, p⟩
  refine s_ret (e_and (e_cb (a_cons (e_var rfl (a_cons (e_c (a_nil (c_isi (.int _) (.ty _) T.kit_int_int ⟨true, rfl, fun _ => ?_, fun z => ?_⟩))))))))
  · exact e_not (e_cb (a_cons (e_var rfl (a_cons (e_c (a_nil (c_isi (.int _) (.ty _) T.kit_int_bool ⟨false, rfl, p⟩)))))))
  · cases z
theorem ok_law_draws (T : Txt K mg L) : FnOk Pr w K mg base CX0 1 L.f_law_draws L.d_law_draws ["cell", "count"] (spP K 2 W_draws) := by
  refine okP T.F_law_draws sc_law_draws rfl (fun cdv A outer s H E hr => ⟨_, (pss_cons (ps_set (i := 2) sc_law_draws.nd rfl (by first | exact Or.inl rfl | exact Or.inr rfl) (pe_callB (r := rAbs) call_abs rfl T.n_abs (by decide +kernel) (pa_cons (pe_callTy (r := rInt1) call_int1 rfl T.n_int (by decide +kernel) (pa_cons (pv 0) pa_nil)) pa_nil)))
    (pss_cons (ps_set (i := 3) sc_law_draws.nd rfl (by first | exact Or.inl rfl | exact Or.inr rfl) (pe_cmpR op_ge (pv 2) (pe_op op_pow pe_int pe_int) (nomark _)))
    (pss_cons (ps_set (i := 4) sc_law_draws.nd rfl (by first | exact Or.inl rfl | exact Or.inr rfl) (pe_lst pa_nil))
    (pss_cons (ps_for PassesOwn.never rfl (pi_range1 (by rfl) T.n_range (pa_cons pe_int pa_nil)) (pg_name (i := 5) sc_law_draws.nd rfl (by first | exact Or.inl rfl | exact Or.inr rfl)) (pss_one (ps_if (PW.pt (pw_and (pt_cmpR op_lt (pv 5) (pv 1) (nomark _)) (pw_and1 (pt_val (pv 3))))) (pss_cons (ps_expr (pe_bm PySem.F.plainAttrs_list PySem.F.slot_list_append PySem.F.type_list_append mt_append (pv 4) (pa_cons (pe_op op_mod (pv 2) pe_int) pa_nil)))
    (pss_one (ps_set (i := 2) sc_law_draws.nd rfl (by first | exact Or.inl rfl | exact Or.inr rfl) (pe_op op_fdivG (pv 2) pe_int)))) (pss_one (ps_if (pt_cmpR op_lt (pv 5) (pv 1) (nomark _)) (pss_cons (ps_set (i := 6) sc_law_draws.nd rfl (by first | exact Or.inl rfl | exact Or.inr rfl) (pe_op op_mod (pe_op op_add (pe_op op_add (pe_op op_mulW (pe_callTy (r := rInt1) call_int1 rfl T.n_int (by decide +kernel) (pa_cons (pv 2) pa_nil)) pe_int) (pe_op op_mulW (pv 5) pe_int)) pe_int) pe_int))
    (pss_cons (ps_set (i := 6) sc_law_draws.nd rfl (by first | exact Or.inl rfl | exact Or.inr rfl) (pe_op op_mod (pe_op op_add (pe_op op_add (pe_op op_mulW (pe_callTy (r := rInt1) call_int1 rfl T.n_int (by decide +kernel) (pa_cons (pv 6) pa_nil)) (pe_callTy (r := rInt1) call_int1 rfl T.n_int (by decide +kernel) (pa_cons (pv 6) pa_nil))) (pe_op op_mulW (pv 5) pe_int)) pe_int) pe_int))
    (pss_one (ps_expr (pe_bm PySem.F.plainAttrs_list PySem.F.slot_list_append PySem.F.type_list_append mt_append (pv 4) (pa_cons (pe_op op_mod (pe_callTy (r := rInt1) call_int1 rfl T.n_int (by decide +kernel) (pa_cons (pv 6) pa_nil)) pe_int) pa_nil)))))) pss_nil)))))
    (pss_one (ps_ret (pv 4))))))), ?_⟩)
  rintro ds P hl ⟨c, n, rfl, h0, h60, p⟩
  refine s_seq (s_asg (e_cb (a_cons (e_cb (a_cons (e_var rfl (a_nil (c_int (a_nil (c_abs ?_))))))))))
  rw [abs_cast]
  refine s_seq (s_asg (e_op (e_var rfl (e_op (e_c (e_c (r_rI cpow18 (r_rI0 ?_))))))))
  refine s_seq (s_asg (e_lstO (a_nil ⟨by decide, fun q => ?_⟩)))
  refine s_seq (s_for (i_rng1 (a_cons (e_c (a_nil ⟨60, rfl, by decide, by decide, ?_⟩)))))
  refine ⟨fun i ρ O => (∃ (m : Int) (k x : Option D), ρ = [some (.int c), some (.int n), some (.int m), some (.bl (decide (10 ^ (18 : Int).toNat ≤ ((c.natAbs : Nat) : Int)))), some (.loc q), k, x] ∧ 0 ≤ m ∧ (¬ 10 ^ (18 : Int).toNat ≤ ((c.natAbs : Nat) : Int) → m < 10 ^ 18)) ∧ ∃ l : List Int, O = [(q, .lst (l.map fun i => D.int i))] ∧ digs l ∧ l.length = min i n.toNat, ⟨⟨_, _, _, rfl, by omega, fun h => ?_⟩, [], rfl, (fun d hd => absurd hd (by simp)), by simp⟩, ?_, ?_⟩
  · have e : (10 : Int) ^ (18 : Int).toNat = 10 ^ 18 := rfl
    rw [e] at h
    omega
  · rintro i d ρ' O' hi ⟨⟨m, k, x, rfl, hm, hsm⟩, l, rfl, hd, hl⟩
    obtain ⟨hi60, rfl⟩ := rangeD_get hi
    have hi60' : i < 60 := hi60
    have ext : ∀ v : Int, 0 ≤ v → v < 60 → (0 + (i : Int) < n) → digs (l ++ [v]) ∧ (l ++ [v]).length = min (i + 1) n.toNat := by
      intro v v0 v1 hin
      refine ⟨fun d hd' => ?_, ?_⟩
      · rcases List.mem_append.mp hd' with h | h
        · exact hd d h
        · rw [List.mem_singleton.mp h]
          exact ⟨v0, v1⟩
      · rw [List.length_append, hl]
        simp
        omega
    have put : ∀ v : Int, (l.map fun i => D.int i) ++ [D.int v] = (l ++ [v]).map fun i => D.int i := fun v => by rw [List.map_append]; rfl
    have llen : (l.map fun i => D.int i).length < 100000 := by
      rw [List.length_map, hl]
      omega
    refine g_name (s_if (t_and (t_test (e_op ?_))))
    refine e_var rfl (e_var rfl (r_rI0 ⟨_, rfl, fun hin => ?_, fun hin => ?_⟩))
    · have hin' : 0 + (i : Int) < n := of_decide_eq_true hin
      refine t_B (e_var rfl ⟨_, rfl, fun hg => ?_, fun hg => ?_⟩)
      · -- great
        refine s_seq (s_drop (e_append (e_var rfl ⟨q, _, rfl, List.mem_cons_self, ?_⟩)))
        refine e_op (e_var rfl (e_c (r_rI (by decide) ⟨_, _, llen, .here, ?_⟩)))
        refine s_asg (e_op (e_var rfl (e_c (r_rI (cdivG (n := 8) (by decide) (by decide) (by decide)) ?_))))
        rw [put]
        have hv := ext (m % 60) (Int.emod_nonneg _ (by decide)) (Int.emod_lt_of_pos _ (by decide)) hin'
        refine ⟨⟨_, _, _, rfl, ?_, fun h => ?_⟩, _, rfl, hv.1, hv.2⟩
        · rw [Int.fdiv_eq_ediv_of_nonneg _ (by decide)]
          omega
        · exact absurd (of_decide_eq_true hg) h
      · -- a small cell: mixed
        have hg' := of_decide_eq_false hg
        have hm18 := hsm hg'
        refine s_if (t_test (e_op (e_var rfl (e_var rfl (r_rI0 ⟨_, rfl, fun _ => ?_, fun hno => ?_⟩)))))
        · refine s_seq (s_asg (e_op (e_op (e_op (e_op (e_cb (a_cons (e_var rfl (a_nil (c_int (e_c (r_rI ?_ ?_))))))))))))
          · exact small_wide (by omega) (by decide)
          refine e_op (e_var rfl (e_c (r_rI ?_ (r_rI0 (e_c (r_rI0 (e_c (r_rI (by decide) ?_))))))))
          · exact small_wide (by omega) (by decide)
          have hx : ∀ y : Int, 0 ≤ y % 2147483647 ∧ y % 2147483647 < 2147483647 := fun y => ⟨Int.emod_nonneg _ (by decide), Int.emod_lt_of_pos _ (by decide)⟩
          generalize hgen : (m * 48271 + (0 + (i : Int)) * 69621 + 11) % 2147483647 = y
          have hy : 0 ≤ y ∧ y < 2147483647 := hgen ▸ hx _
          refine s_seq (s_asg (e_op (e_op (e_op (e_op (e_cb (a_cons (e_var rfl (a_nil (c_int ?_))))))))))
          refine e_cb (a_cons (e_var rfl (a_nil (c_int (r_rI ?_ ?_)))))
          · exact small_wide (by omega) (by omega)
          refine e_op (e_var rfl (e_c (r_rI ?_ (r_rI0 (e_c (r_rI0 (e_c (r_rI (by decide) ?_))))))))
          · exact small_wide (by omega) (by decide)
          generalize (y * y + (0 + (i : Int)) * 7919 + 5) % 998244353 = z
          refine s_drop (e_append (e_var rfl ⟨q, _, rfl, List.mem_cons_self, ?_⟩))
          refine e_op (e_cb (a_cons (e_var rfl (a_nil (c_int (e_c (r_rI (by decide) ⟨_, _, llen, .here, ?_⟩)))))))
          rw [put]
          have hv := ext (z % 60) (Int.emod_nonneg _ (by decide)) (Int.emod_lt_of_pos _ (by decide)) hin'
          exact ⟨⟨_, _, _, rfl, hm, hsm⟩, _, rfl, hv.1, hv.2⟩
        · exact absurd hin' (of_decide_eq_false hno)
    · have hin' : ¬ 0 + (i : Int) < n := of_decide_eq_false hin
      refine ⟨fun z => ?_, fun _ => s_if (t_test (e_op ?_))⟩
      · cases z
      refine e_var rfl (e_var rfl (r_rI0 ⟨_, rfl, fun hno => ?_, fun _ => ?_⟩))
      · exact absurd (of_decide_eq_true hno) hin'
      · exact s_next ⟨⟨_, _, _, rfl, hm, hsm⟩, l, rfl, hd, by omega⟩
  · rintro ρ' O' ⟨⟨m, k, x, rfl, hm, hsm⟩, l, rfl, hd, hl⟩
    refine s_sub (ρ' := [none, none, none, none, some (.loc q), none, none]) (.drop (.drop (.drop (.drop (.same (.drop (.drop .nil))))))) (s_frz (ρ' := [none, none, none, none, some (.lst (l.map fun i => D.int i)), none, none]) .here ?_ ?_)
    · simp [frz]
    refine s_ret (e_var rfl (p l ?_ hd))
    rw [rangeD_len] at hl
    have : (60 : Int).toNat = 60 := rfl
    omega
theorem ok_law_stream (T : Txt K mg L) : FnOk Pr w K mg base CX0 2 L.f_law_stream L.d_law_stream ["script", "first", "count"] (spW K 3 W_stream) := by
  refine okW T.F_law_stream sc_law_stream rfl (fun cdv A outer s H E hr => ⟨_, (pss_cons (ps_set (i := 3) sc_law_stream.nd rfl (by first | exact Or.inl rfl | exact Or.inr rfl) (pe_lst pa_nil))
    (pss_cons (ps_for PassesOwn.never rfl (pi_range1 (by rfl) T.n_range (pa_cons (pv 2) pa_nil)) (pg_name (i := 4) sc_law_stream.nd rfl (by first | exact Or.inl rfl | exact Or.inr rfl)) (pss_one (ps_expr (pe_bm PySem.F.plainAttrs_list PySem.F.slot_list_extend PySem.F.type_list_extend mt_extend (pv 3) (pa_cons (pe_call (ok_law_draws T) (hr.mono (by decide)) (by rfl) T.m_law_draws T.F_law_draws.kp T.b_law_draws .nil pass0 (pa_cons (pe_call (ok_law_cell T) (hr.mono (by decide)) (by rfl) T.m_law_cell T.F_law_cell.kp T.b_law_cell .nil pass0 (pa_cons (pv 0) (pa_cons (pe_op op_add (pv 1) (pv 4)) pa_nil))) (pa_cons pe_int pa_nil))) pa_nil)))))
    (pss_one (ps_ret (pe_lst (pa_cons (pv 3) (pa_cons (pe_lst (pa_cons pe_int pa_nil)) pa_nil))))))), ?_⟩)
  rintro ds O P hl ⟨ns, f, n, rfl, h0, hn0, hn1, p⟩
  refine s_seq (s_asg (e_lstO (a_nil ⟨by decide, fun q => ?_⟩)))
  refine s_seq (s_for (i_rng1 (a_cons (e_var rfl (a_nil ⟨n, rfl, by omega, by omega, ?_⟩)))))
  refine ⟨fun i ρ O' => (∃ k, ρ = [some (scr ns), some (.int f), some (.int n), some (.loc q), k]) ∧ ∃ l : List Int, O' = (q, .lst (l.map fun i => D.int i)) :: O ∧ digs l ∧ l.length = 12 * i, ⟨⟨_, rfl⟩, [], rfl, (fun d hd => absurd hd (by simp)), rfl⟩, ?_, ?_⟩
  · rintro i d ρ' O' hi ⟨⟨k, rfl⟩, l, rfl, hd, hl⟩
    obtain ⟨hin, rfl⟩ := rangeD_get hi
    refine g_name (s_drop (e_extend (e_var rfl ⟨q, _, rfl, List.mem_cons_self, ?_⟩)))
    refine e_call (a_cons (e_call (a_cons (e_var rfl (a_cons (e_op (e_var rfl (e_var rfl (r_rI0 (a_nil ⟨rfl, ns, _, rfl, by omega, a_cons (e_c (a_nil ⟨rfl, _, 12, rfl, by decide, by decide, fun m hm hdm => ?_⟩))⟩))))))))))
    refine ⟨_, _, _, rfl, ?_, .here, ⟨_, rfl⟩, l ++ m, ?_, ?_, ?_⟩
    · rw [List.length_map, List.length_map]
      omega
    · rw [List.map_append]
    · intro d hd'
      rcases List.mem_append.mp hd' with h | h
      · exact hd d h
      · exact hdm d h
    · rw [List.length_append]
      omega
  · rintro ρ' O' ⟨⟨k, rfl⟩, l, rfl, hd, hl⟩
    rw [rangeD_len] at hl
    refine s_sub (ρ' := [none, none, none, some (.loc q), none]) (.drop (.drop (.drop (.same (.drop .nil))))) (s_frz (ρ' := [none, none, none, some (.lst (l.map fun i => D.int i)), none]) .here ?_ ?_)
    · simp [frz]
    refine s_ret (e_lst (a_cons (e_var rfl (a_cons (e_lstO (a_cons (e_c (a_nil ⟨(by show 1 ≤ 100000; decide), fun pl => a_nil ⟨(by show 2 ≤ 100000; decide), ?_⟩⟩))) )))))
    exact p l pl (by omega) hd
theorem ok_law_next (T : Txt K mg L) : FnOk Pr w K mg base CX0 1 L.f_law_next L.d_law_next ["stream", "many"] (spW K 2 W_next) := by
  refine okW T.F_law_next sc_law_next rfl (fun cdv A outer s H E hr => ⟨_, (pss_cons (ps_set (i := 2) sc_law_next.nd rfl (by first | exact Or.inl rfl | exact Or.inr rfl) (pe_ix (r := rIxL K) ix_list (pv 0) pe_int (fun _ _ => rfl)))
    (pss_cons (ps_set (i := 3) sc_law_next.nd rfl (by first | exact Or.inl rfl | exact Or.inr rfl) (pe_ix (r := rIxL K) ix_list (pv 0) pe_int (fun _ _ => rfl)))
    (pss_cons (ps_set (i := 4) sc_law_next.nd rfl (by first | exact Or.inl rfl | exact Or.inr rfl) (pe_op op_mod (pe_callTy (r := rInt1) call_int1 rfl T.n_int (by decide +kernel) (pa_cons (pe_ix (r := rIxL K) ix_list (pv 2) (pe_op op_mod (pe_callTy (r := rInt1) call_int1 rfl T.n_int (by decide +kernel) (pa_cons (pe_ix (r := rIxL K) ix_list (pv 3) pe_int (fun _ _ => rfl)) pa_nil)) (pe_callB (r := Evl.rLenS K) call_len_seq rfl T.n_len (by decide +kernel) (pa_cons (pv 2) pa_nil))) (fun _ _ => rfl)) pa_nil)) (pv 1)))
    (pss_cons (ps_asg (pe_op op_add (pe_ix (r := rIxL K) ix_list (pv 3) pe_int (fun _ _ => rfl)) pe_int) (pg_sub (pv 3) pe_int set_list))
    (pss_one (ps_ret (pv 4))))))), ?_⟩)
  rintro ds O P hl ⟨l, pl, many, n, O0, rfl, hne, hd, hm, hput, p⟩
  refine s_seq (s_asg (e_op (e_var rfl (e_c (r_ixL (d := .lst (l.map fun i => D.int i)) rfl ?_)))))
  refine s_seq (s_asg (e_op (e_var rfl (e_c (r_ixL (d := .loc pl) rfl ?_)))))
  obtain ⟨d, hdm, hat⟩ := atI_emod hne n
  have hdd := hd d hdm
  refine s_seq (s_asg (e_op (e_cb (a_cons (e_op (e_var rfl (e_op (e_cb (a_cons (e_op (e_var rfl (e_c (r_ixO (hput 0).mem (d := .int n) rfl (a_nil (c_int ?_)))))))))))))))
  refine e_cb (a_cons (e_var rfl (a_nil (c_len (.inl rfl) (r_rI ?_ ?_)))))
  · rw [List.length_map]
    have := List.length_pos_iff.mpr hne
    omega
  rw [List.length_map]
  refine r_ixL hat (a_nil (c_int (e_var rfl (r_rI hm ?_))))
  refine s_seq (s_setL (e_op (e_op (e_var rfl (e_c (r_ixO (hput 0).mem (d := .int n) rfl (e_c (r_rI0 ?_))))))))
  refine e_var rfl (e_c ⟨pl, 0, _, 0, _, rfl, rfl, rfl, hput (n + 1), ?_⟩)
  refine s_ret (e_var rfl (p _ _ (Int.emod_nonneg _ (by omega)) (Int.emod_lt_of_pos _ hm) ?_))
  by_cases hlt : d < many
  · rw [Int.emod_eq_of_lt hdd.1 hlt]
    exact hdd.2
  · have := Int.emod_lt_of_pos d hm
    omega
local macro_rules | `(tactic| walk_at "pp") => `(tactic| first
  | refine e_var rfl ?_
  | refine e_c ?_
  | refine r_ixT rfl ?_
  | refine r_rI0 ?_
  | with_reducible refine a_cons ?_
  | with_reducible refine e_op ?_)
local macro_rules | `(tactic| walk_at "cl") => `(tactic| first | dsimp only [L2.cxOf, L2.Cx.nox, L2.Cx.wish, L2.Cx.blk, List.map] | skip)
local macro_rules | `(tactic| walk_at "bnV") => `(tactic| first
  | with_reducible assumption
  | with_reducible exact bnV_zero
  | ((with_reducible refine' bnV_add ?h1 ?h2); (case h1 => walk_at "bnV"); (case h2 => walk_at "bnV"))
  | ((with_reducible refine' bnV_sub ?h1 ?h2); (case h1 => walk_at "bnV"); (case h2 => walk_at "bnV"))
  | ((with_reducible refine' bnV_mul ?h1 ?h2); (case h1 => walk_at "bn"); (case h2 => walk_at "bnV")))
local macro_rules | `(tactic| walk_at "bn") => `(tactic| first
  | with_reducible assumption
  | with_reducible exact bn_zero
  | with_reducible exact bn_one
  | ((with_reducible refine' bnV_x ?h1); (case h1 => walk_at "bnV"))
  | ((with_reducible refine' bnV_y ?h1); (case h1 => walk_at "bnV"))
  | ((with_reducible refine' bnV_z ?h1); (case h1 => walk_at "bnV"))
  | ((with_reducible refine' bn_addM ?h1 ?h2); (case h1 => walk_at "bn"); (case h2 => walk_at "bn"))
  | ((with_reducible refine' bn_subM ?h1 ?h2); (case h1 => walk_at "bn"); (case h2 => walk_at "bn"))
  | ((with_reducible refine' bn_mul ?h1 ?h2); (case h1 => walk_at "bn"); (case h2 => walk_at "bn"))
  | ((with_reducible refine' bn_over ?h1 ?h2 ?h3); (case h1 => assumption); (case h2 => walk_at "bn"); (case h3 => walk_at "bn"))
  | ((with_reducible refine' bn_detM ?h1 ?h2 ?h3); (case h1 => walk_at "bnV"); (case h2 => walk_at "bnV"); (case h3 => walk_at "bnV")))
local macro_rules | `(tactic| walk_at "bV") => `(tactic| first
  | with_reducible assumption
  | with_reducible exact bitsV_zero
  | ((with_reducible refine' bitsV_add ?h1 ?h2); (case h1 => walk_at "bV"); (case h2 => walk_at "bV"))
  | ((with_reducible refine' bitsV_sub ?h1 ?h2); (case h1 => walk_at "bV"); (case h2 => walk_at "bV"))
  | ((with_reducible refine' bitsV_mul ?h1 ?h2); (case h1 => walk_at "bq"); (case h2 => walk_at "bV"))
  | ((with_reducible refine' bitsV_cr ?h1 ?h2 ?h3 ?h4 ?h5); (case h1 => assumption); (case h2 => walk_at "bV"); (case h3 => walk_at "bV"); (case h4 => walk_at "bV"); (case h5 => walk_at "bV"))
  | ((with_reducible refine' bitsV_mix3 ?h1 ?h2 ?h3 ?h4); (case h1 => walk_at "bV"); (case h2 => walk_at "bV"); (case h3 => walk_at "bV"); (case h4 => walk_at "bV"))
  | ((with_reducible refine' bitsV_bn ?h1); (case h1 => walk_at "bnV")))
local macro_rules | `(tactic| walk_at "bq") => `(tactic| first
  | with_reducible assumption
  | with_reducible exact bits_zero
  | with_reducible exact bits_one
  | ((with_reducible refine' bitsV_x ?h1); (case h1 => walk_at "bV"))
  | ((with_reducible refine' bitsV_y ?h1); (case h1 => walk_at "bV"))
  | ((with_reducible refine' bitsV_z ?h1); (case h1 => walk_at "bV"))
  | ((with_reducible refine' bits_add ?h1 ?h2); (case h1 => walk_at "bq"); (case h2 => walk_at "bq"))
  | ((with_reducible refine' bits_sub ?h1 ?h2); (case h1 => walk_at "bq"); (case h2 => walk_at "bq"))
  | ((with_reducible refine' bits_mul ?h1 ?h2); (case h1 => walk_at "bq"); (case h2 => walk_at "bq"))
  | ((with_reducible refine' bits_neg ?h1); (case h1 => walk_at "bq"))
  | ((with_reducible refine' bits_over ?h1 ?h2 ?h3); (case h1 => assumption); (case h2 => walk_at "bq"); (case h3 => walk_at "bq"))
  | ((with_reducible refine' bits_dist ?h1 ?h2); (case h1 => walk_at "bV"); (case h2 => walk_at "bV"))
  | ((with_reducible refine' bits_detM ?h1 ?h2 ?h3); (case h1 => walk_at "bV"); (case h2 => walk_at "bV"); (case h3 => walk_at "bV"))
  | ((with_reducible refine' bits_bn ?h1); (case h1 => walk_at "bn")))
local macro_rules | `(tactic| walk_at "le") => `(tactic| first | decide | omega | (simp only [Nat.max_def]; omega))
local macro_rules | `(tactic| walk_at "ne0") => `(tactic| first | with_reducible assumption | with_reducible exact den_ne _ | decide | omega)
local macro_rules | `(tactic| walk_at "sz") => `(tactic| first
  | with_reducible assumption
  | ((with_reducible refine' bn_den ?h1); (case h1 => walk_at "bn"))
  | ((with_reducible refine' num_lt ?h1); (case h1 => walk_at "bn"))
  | ((with_reducible refine' small10 ?h1); (case h1 => omega)))
local macro_rules | `(tactic| walk_at "wj") => `(tactic| first
  | with_reducible refine th_nx ?_
  | with_reducible refine s_seq ?_
  | with_reducible refine e_op ?_
  | with_reducible refine a_cons ?_
  | with_reducible refine e_c ?_
  | with_reducible refine ev0 ?_
  | with_reducible refine ev1 ?_
  | with_reducible refine ev2 ?_
  | with_reducible refine ev3 ?_
  | with_reducible refine ev4 ?_
  | with_reducible refine ev5 ?_
  | with_reducible refine ev6 ?_
  | with_reducible refine ev7 ?_
  | with_reducible refine ev8 ?_
  | with_reducible refine ev9 ?_
  | with_reducible refine ev10 ?_
  | with_reducible refine ev11 ?_
  | with_reducible refine ev12 ?_
  | with_reducible refine ev13 ?_
  | with_reducible refine ev14 ?_
  | with_reducible refine ev15 ?_
  | with_reducible refine ev16 ?_
  | with_reducible refine sa0 ?_
  | with_reducible refine sa1 ?_
  | with_reducible refine sa2 ?_
  | with_reducible refine sa3 ?_
  | with_reducible refine sa4 ?_
  | with_reducible refine sa5 ?_
  | with_reducible refine sa6 ?_
  | with_reducible refine sa7 ?_
  | with_reducible refine sa8 ?_
  | with_reducible refine sa9 ?_
  | with_reducible refine sa10 ?_
  | with_reducible refine sa11 ?_
  | with_reducible refine sa12 ?_
  | with_reducible refine sa13 ?_
  | with_reducible refine sa14 ?_
  | with_reducible refine sa15 ?_
  | with_reducible refine sa16 ?_
  | with_reducible refine a_nil ?_
  | with_reducible refine e_call ?_
  | with_reducible refine e_callW ?_
  | with_reducible refine e_callX ?_
  | with_reducible refine e_methX ?_
  | with_reducible refine e_meth ?_
  | with_reducible refine e_makeQ ?_
  | with_reducible refine e_make ?_
  | with_reducible refine e_cb ?_
  | with_reducible refine e_un ?_
  | with_reducible refine s_ret ?_
  | with_reducible refine s_next ?_
  | with_reducible refine s_retN ?_
  | with_reducible refine s_drop ?_
  | with_reducible refine s_cont ?_
  | with_reducible refine s_break ?_
  | with_reducible refine t_test ?_
  | with_reducible refine t_not ?_
  | with_reducible refine t_B ?_
  | with_reducible refine t_and ?_
  | with_reducible refine t_or ?_
  | with_reducible refine t_yes ?_
  | with_reducible refine s_asgG ?_
  | with_reducible refine e_tup ?_
  | with_reducible refine e_revT ?_
  | with_reducible refine e_and ?_
  | with_reducible refine e_or ?_
  | with_reducible refine e_not ?_
  | with_reducible refine e_if ?_
  | with_reducible refine gn0 ?_
  | with_reducible refine gn1 ?_
  | with_reducible refine gn2 ?_
  | with_reducible refine gn3 ?_
  | with_reducible refine gn4 ?_
  | with_reducible refine gn5 ?_
  | with_reducible refine gn6 ?_
  | with_reducible refine gn7 ?_
  | with_reducible refine gn8 ?_
  | with_reducible refine gn9 ?_
  | with_reducible refine gn10 ?_
  | with_reducible refine gn11 ?_
  | with_reducible refine gn12 ?_
  | with_reducible refine gn13 ?_
  | with_reducible refine gn14 ?_
  | with_reducible refine gn15 ?_
  | with_reducible refine gn16 ?_
  | with_reducible refine gw0 ?_
  | with_reducible refine gw1 ?_
  | with_reducible refine gw2 ?_
  | with_reducible refine gw3 ?_
  | with_reducible refine gw4 ?_
  | with_reducible refine gw5 ?_
  | with_reducible refine gw6 ?_
  | with_reducible refine gw7 ?_
  | with_reducible refine gw8 ?_
  | with_reducible refine gw9 ?_
  | with_reducible refine gw10 ?_
  | with_reducible refine gw11 ?_
  | with_reducible refine gw12 ?_
  | with_reducible refine gw13 ?_
  | with_reducible refine gw14 ?_
  | with_reducible refine gw15 ?_
  | with_reducible refine gw16 ?_
  | ((with_reducible refine' gx0 ?hn ?_); (case hn => exact rfl))
  | ((with_reducible refine' gx1 ?hn ?_); (case hn => exact rfl))
  | ((with_reducible refine' gx2 ?hn ?_); (case hn => exact rfl))
  | ((with_reducible refine' gx3 ?hn ?_); (case hn => exact rfl))
  | ((with_reducible refine' gx4 ?hn ?_); (case hn => exact rfl))
  | ((with_reducible refine' gx5 ?hn ?_); (case hn => exact rfl))
  | ((with_reducible refine' gx6 ?hn ?_); (case hn => exact rfl))
  | ((with_reducible refine' gx7 ?hn ?_); (case hn => exact rfl))
  | ((with_reducible refine' gx8 ?hn ?_); (case hn => exact rfl))
  | ((with_reducible refine' gx9 ?hn ?_); (case hn => exact rfl))
  | ((with_reducible refine' gx10 ?hn ?_); (case hn => exact rfl))
  | ((with_reducible refine' gx11 ?hn ?_); (case hn => exact rfl))
  | ((with_reducible refine' gx12 ?hn ?_); (case hn => exact rfl))
  | ((with_reducible refine' gx13 ?hn ?_); (case hn => exact rfl))
  | ((with_reducible refine' gx14 ?hn ?_); (case hn => exact rfl))
  | ((with_reducible refine' gx15 ?hn ?_); (case hn => exact rfl))
  | ((with_reducible refine' gz0 ?hn ?_); (case hn => exact rfl))
  | ((with_reducible refine' gz1 ?hn ?_); (case hn => exact rfl))
  | ((with_reducible refine' gz2 ?hn ?_); (case hn => exact rfl))
  | ((with_reducible refine' gz3 ?hn ?_); (case hn => exact rfl))
  | ((with_reducible refine' gz4 ?hn ?_); (case hn => exact rfl))
  | ((with_reducible refine' gz5 ?hn ?_); (case hn => exact rfl))
  | ((with_reducible refine' gz6 ?hn ?_); (case hn => exact rfl))
  | ((with_reducible refine' gz7 ?hn ?_); (case hn => exact rfl))
  | ((with_reducible refine' gz8 ?hn ?_); (case hn => exact rfl))
  | ((with_reducible refine' gz9 ?hn ?_); (case hn => exact rfl))
  | ((with_reducible refine' gz10 ?hn ?_); (case hn => exact rfl))
  | ((with_reducible refine' gz11 ?hn ?_); (case hn => exact rfl))
  | ((with_reducible refine' gz12 ?hn ?_); (case hn => exact rfl))
  | ((with_reducible refine' gz13 ?hn ?_); (case hn => exact rfl))
  | ((with_reducible refine' gz14 ?hn ?_); (case hn => exact rfl))
  | ((with_reducible refine' gz15 ?hn ?_); (case hn => exact rfl))
  | with_reducible refine gs_nil' ?_
  | with_reducible refine gs_cons' ?_
  | ((with_reducible refine' g_dV ?hn ?_); (case hn => exact rfl))
  | ((with_reducible refine' g_dP ?hn ?_); (case hn => exact rfl))
  | ((with_reducible refine' g_tup2 ?hn ?_); (case hn => exact rfl))
  | ((with_reducible refine' g_tup3 ?hn ?_); (case hn => exact rfl))
  | ((with_reducible refine' g_tup4 ?hn ?_); (case hn => exact rfl))
  | with_reducible refine tt_t ?_
  | with_reducible refine tt_f ?_
  | with_reducible refine r_rI0 ?_
  | with_reducible refine r_eqI ?_
  | with_reducible refine r_neI ?_
  | with_reducible refine r_rU ?_
  | with_reducible refine r_P0 ?_
  | with_reducible refine r_P1 ?_
  | with_reducible refine r_lV0 ?_
  | with_reducible refine r_lV1 ?_
  | with_reducible refine r_lV2 ?_
  | with_reducible refine r_dV0 ?_
  | with_reducible refine r_dV1 ?_
  | with_reducible refine r_dV2 ?_
  | with_reducible refine r_o0 ?_
  | with_reducible refine r_o1 ?_
  | with_reducible refine r_t0 ?_
  | with_reducible refine r_t1 ?_
  | with_reducible refine r_t2 ?_
  | with_reducible refine r_l0 ?_
  | with_reducible refine r_l1 ?_
  | with_reducible refine r_l2 ?_
  | with_reducible refine c_lenB ?_
  | with_reducible refine c_lenL ?_
  | with_reducible refine c_lenV ?_
  | with_reducible refine c_len (.inl rfl) ?_
  | with_reducible refine c_len (.inr (.inl rfl)) ?_
  | with_reducible refine c_int ?_
  | with_reducible refine c_intB ?_
  | with_reducible refine c_abs ?_
  | with_reducible refine c_tup ?_
  | ((with_reducible refine' r_q2 ?h1 ?h2 ?h3 ?_); (case h1 => walk_at "bq"); (case h2 => walk_at "bq"); (case h3 => walk_at "le"))
  | ((with_reducible refine' r_q1 ?h1 ?h2 ?_); (case h1 => walk_at "bq"); (case h2 => walk_at "le"))
  | with_reducible refine lp_nx ?_
  | with_reducible refine lp_ct ?_
  | with_reducible refine lp_bk ?_
  | with_reducible refine lp_ret ?_
  | with_reducible refine th_ret ?_
  | with_reducible refine th_bk ?_
  | with_reducible refine th_ct ?_
  | with_reducible refine rp_ret ?_
  | with_reducible refine rw_ret ?_
  | with_reducible refine ro_ret ?_
  | with_reducible refine le0 ?_
  | with_reducible refine le1 ?_
  | with_reducible refine le2 ?_
  | with_reducible refine le3 ?_
  | with_reducible refine le4 ?_
  | with_reducible refine ll0 ?_
  | with_reducible refine ll1 ?_
  | with_reducible refine ll2 ?_
  | with_reducible refine ll3 ?_
  | with_reducible refine ll4 ?_
  | with_reducible refine lm0 ?_
  | with_reducible refine lm1 ?_
  | with_reducible refine lm2 ?_
  | with_reducible refine k_q0 ?_
  | with_reducible refine k_v0 ?_
  | with_reducible refine k_whole ?_
  | ((with_reducible refine' k_p2 ?h1 ?h2 ?h3 ?_); (case h1 => walk_at "bn"); (case h2 => walk_at "bn"); (case h3 => walk_at "le"))
  | ((with_reducible refine' k_pBy ?h1 ?h2 ?h3 ?h4 ?_); (case h1 => assumption); (case h2 => walk_at "bn"); (case h3 => walk_at "bn"); (case h4 => walk_at "le"))
  | ((with_reducible refine' k_isPair ?h1 ?h2 ?_); (case h1 => walk_at "bn"); (case h2 => walk_at "le"))
  | ((with_reducible refine' k_v2 ?h1 ?h2 ?h3 ?_); (case h1 => walk_at "bV"); (case h2 => walk_at "bV"); (case h3 => walk_at "le"))
  | ((with_reducible refine' k_scaled ?h1 ?h2 ?h3 ?_); (case h1 => walk_at "bq"); (case h2 => walk_at "bV"); (case h3 => walk_at "le"))
  | ((with_reducible refine' k_det ?h1 ?h2 ?h3 ?h4 ?_); (case h1 => walk_at "bV"); (case h2 => walk_at "bV"); (case h3 => walk_at "bV"); (case h4 => walk_at "le"))
  | ((with_reducible refine' k_quotsV ?h1 ?h2 ?_); (case h1 => walk_at "bnV"); (case h2 => walk_at "le"))
  | ((with_reducible refine' k_areV ?h1 ?h2 ?_); (case h1 => walk_at "bnV"); (case h2 => walk_at "le"))
  | ((with_reducible refine' k_over ?h1 ?h2 ?h3 ?h4 ?_); (case h1 => assumption); (case h2 => walk_at "bq"); (case h3 => walk_at "bq"); (case h4 => walk_at "le"))
  | with_reducible refine k_isInt ?_
  | ((with_reducible refine' k_totalV ?h1 ?h2 ?_); (case h1 => walk_at "bV"); (case h2 => walk_at "le"))
  | ((with_reducible refine' k_next ?h1 ?h2 ?h3 ?_); (case h1 => assumption); (case h2 => assumption); (case h3 => walk_at "le"))
  | ((with_reducible refine' k_next2 ?h1 ?h2 ?h3 ?_); (case h1 => assumption); (case h2 => assumption); (case h3 => walk_at "le"))
  | ((with_reducible refine' k_next3 ?h1 ?h2 ?h3 ?_); (case h1 => assumption); (case h2 => assumption); (case h3 => walk_at "le"))
  | ((with_reducible refine' k_quot ?h1 ?h2 ?_); (case h1 => assumption); (case h2 => assumption))
  | ((with_reducible refine' k_quot2 ?h1 ?h2 ?_); (case h1 => assumption); (case h2 => assumption))
  | ((with_reducible refine' k_color ?h1 ?h2 ?_); (case h1 => assumption); (case h2 => assumption))
  | ((with_reducible refine' k_color2 ?h1 ?h2 ?_); (case h1 => assumption); (case h2 => assumption))
  | ((with_reducible refine' k_colorO ?h1 ?h2 ?_); (case h1 => assumption); (case h2 => assumption))
  | ((with_reducible refine' k_stream ?h1 ?h2 ?h3 ?h4 ?_); (case h1 => decide); (case h2 => decide); (case h3 => decide); (case h4 => decide))
  | with_reducible refine up_nx ?_
  | with_reducible refine up_ct ?_
  | with_reducible refine up_bk ?_
  | with_reducible refine up_ret ?_
  | with_reducible refine uf_cons ?_
  | with_reducible refine uf_nil ?_
  | with_reducible refine un_0 ?_
  | with_reducible refine un_1 ?_
  | with_reducible refine un_2 ?_
  | with_reducible refine un_3 ?_
  | with_reducible refine un_4 ?_
  | with_reducible refine un_nil ?_
  | with_reducible refine i_list ?_
  | with_reducible refine i_tup ?_
  | with_reducible refine i_rngL ?_
  | with_reducible refine i_rng2 ?_
  | with_reducible refine i_zip ?_
  | ((with_reducible refine' e_top ?hT ?_); (case hT => assumption))
  | ((with_reducible refine' e_bot ?hT ?_); (case hT => assumption))
  | ((with_reducible refine' k_mkP ?h1 ?h2 ?_); (case h1 => walk_at "bn"); (case h2 => walk_at "le"))
  | ((with_reducible refine' k_mkQ ?h1 ?h2 ?h3 ?_); (case h1 => walk_at "ne0"); (case h2 => walk_at "sz"); (case h3 => walk_at "le"))
  | with_reducible refine ex_dQ ?_
  | with_reducible refine li_nx ?_
  | with_reducible refine li_ct ?_
  | with_reducible refine li_bk ?_
  | with_reducible refine li_ret ?_
  | with_reducible refine ex_lst ?_
  | with_reducible refine ex_tup ?_
  | with_reducible refine ex_dV ?_
  | with_reducible refine ex_lV ?_
  | ((with_reducible refine' ex_rgI ?h1 ?_); (case h1 => first | decide | omega))
  | with_reducible refine ex_r2 ?_
  | with_reducible refine ex_r3 ?_
  | with_reducible refine ex_r4 ?_
  | with_reducible refine ex_rl ?_
  | with_reducible refine ex_int ?_
  | with_reducible refine l90_0 ?_
  | with_reducible refine l90_1 ?_
  | with_reducible refine l90_2 ?_
  | with_reducible refine l90_3 ?_
  | with_reducible refine l90_4 ?_
  | with_reducible refine o_none ?_
  | with_reducible refine o_some ?_
  | with_reducible refine e_sl ?_
  | with_reducible refine z_t3a ?_
  | with_reducible refine z_t3b ?_
  | with_reducible refine z_l3a ?_
  | with_reducible refine z_l3b ?_
  | with_reducible refine r_cat21 ?_
  | with_reducible refine r_catA21 ?_
  | with_reducible refine z_o2 ?_
  | with_reducible refine z_lst ?_
  | with_reducible refine z_tup ?_
  | with_reducible refine z_dV ?_
  | with_reducible refine z_lV ?_
  | with_reducible refine xs_seq ?_
  | with_reducible refine thx_nx ?_
  | with_reducible refine xs_liftA ?_
  | with_reducible refine xs_liftG ?_
  | with_reducible refine xs_liftN ?_
  | ((with_reducible refine' k_areL ?h1 ?h2 ?h3 ?h4 ?_); (case h1 => walk_at "bn"); (case h2 => walk_at "bn"); (case h3 => walk_at "bn"); (case h4 => walk_at "le"))
  | ((with_reducible refine' k_areI ?h1 ?_); (case h1 => first | decide | omega))
  | ((with_reducible refine' k_told0 ?h1 ?h2 ?h3 ?h4 ?h5 ?h6 ?_); (case h1 => assumption); (case h2 => walk_at "bV"); (case h3 => walk_at "bV"); (case h4 => walk_at "bV"); (case h5 => walk_at "bV"); (case h6 => walk_at "le"))
  | ((with_reducible refine' k_told1 ?h1 ?h2 ?h3 ?h4 ?h5 ?h6 ?_); (case h1 => assumption); (case h2 => walk_at "bV"); (case h3 => walk_at "bV"); (case h4 => walk_at "bV"); (case h5 => walk_at "bV"); (case h6 => walk_at "le"))
  | ((with_reducible refine' k_cramer0 ?h1 ?h2 ?h3 ?h4 ?h5 ?h6 ?_); (case h1 => assumption); (case h2 => walk_at "bnV"); (case h3 => walk_at "bnV"); (case h4 => walk_at "bnV"); (case h5 => walk_at "bnV"); (case h6 => simp only [dk, dn]; omega))
  | ((with_reducible refine' k_cramer1 ?h1 ?h2 ?h3 ?h4 ?h5 ?h6 ?_); (case h1 => assumption); (case h2 => walk_at "bnV"); (case h3 => walk_at "bnV"); (case h4 => walk_at "bnV"); (case h5 => walk_at "bnV"); (case h6 => simp only [dk, dn]; omega))
  | ((with_reducible refine' k_mixed2 ?h1 ?h2 ?h3 ?h4 ?_); (case h1 => assumption); (case h2 => assumption); (case h3 => assumption); (case h4 => assumption))
  | with_reducible refine r_neRef ?_
  | with_reducible refine r_eqRef ?_
  | with_reducible refine r_eqE0 ?_
  | with_reducible refine r_eqE3 ?_
  | ((with_reducible refine' r_neV ?h1 ?h2 ?h3 ?_); (case h1 => walk_at "bV"); (case h2 => walk_at "bV"); (case h3 => walk_at "le"))
  | ((with_reducible refine' r_eqV ?h1 ?h2 ?h3 ?_); (case h1 => walk_at "bV"); (case h2 => walk_at "bV"); (case h3 => walk_at "le"))
  | ((with_reducible refine' k_total3 ?h1 ?h2 ?h3 ?h4 ?_); (case h1 => walk_at "bq"); (case h2 => walk_at "bq"); (case h3 => walk_at "bq"); (case h4 => walk_at "le"))
  | ((with_reducible refine' k_dist ?h1 ?h2 ?h3 ?_); (case h1 => walk_at "bV"); (case h2 => walk_at "bV"); (case h3 => walk_at "le"))
  | with_reducible refine c_lstL ?_
  | ((with_reducible refine' k_quotR ?h1 ?h2 ?_); (case h1 => assumption); (case h2 => assumption))
  | ((with_reducible refine' k_quotR2 ?h1 ?h2 ?_); (case h1 => assumption); (case h2 => assumption))
  | ((with_reducible refine' k_colorR ?h1 ?h2 ?_); (case h1 => assumption); (case h2 => assumption))
  | ((with_reducible refine' k_colorR2 ?h1 ?h2 ?_); (case h1 => assumption); (case h2 => assumption))
  | with_reducible refine r_neInts ?_
  | with_reducible refine r_eqInts ?_
  | ((with_reducible refine' k_p20 ?h1 ?h2 ?_); (case h1 => walk_at "bn"); (case h2 => walk_at "le"))
  | ((with_reducible refine' k_ldist ?h1 ?h2 ?h3 ?_); (case h1 => assumption); (case h2 => assumption); (case h3 => walk_at "le"))
  | with_reducible refine c_lenO ?_
  | with_reducible refine c_lstV ?_
  | with_reducible refine r_last ?_
  | ((with_reducible refine' r_ixGL ?h1 ?_); (case h1 => assumption))
  | ((with_reducible refine' k_isIntT ?h1 ?_); (case h1 => omega))
  | ((with_reducible refine' ex_rg2 ?h1 ?_); (case h1 => omega))
  | ((with_reducible refine' r_bD ?h1 ?_); (case h1 => assumption))
  | ((with_reducible refine' r_vD ?h1 ?_); (case h1 => assumption))
  | ((with_reducible refine' k_isBandT ?h1 ?_); (case h1 => assumption))
  | ((with_reducible refine' k_fdet ?h1 ?h2 ?h3 ?h4 ?_); (case h1 => walk_at "bnV"); (case h2 => walk_at "bnV"); (case h3 => walk_at "bnV"); (case h4 => walk_at "le"))
  | ((with_reducible refine' k_init ?h1 ?h2 ?h3 ?_); (case h1 => walk_at "ne0"); (case h2 => walk_at "sz"); (case h3 => walk_at "le"))
  | ((with_reducible refine' k_mix3 ?h1 ?h2 ?h3 ?h4 ?h5 ?_); (case h1 => walk_at "bV"); (case h2 => walk_at "bV"); (case h3 => walk_at "bV"); (case h4 => walk_at "bV"); (case h5 => walk_at "le"))
  | ((with_reducible refine' k_mixture ?h1 ?h2 ?h3 ?h4 ?h5 ?h6 ?_); (case h1 => assumption); (case h2 => walk_at "bV"); (case h3 => walk_at "bV"); (case h4 => walk_at "bV"); (case h5 => walk_at "bV"); (case h6 => walk_at "le"))
  | ((with_reducible refine' mt_q ?hm ?_); (case hm => exact rfl)))
local macro_rules | `(tactic| walk_at "wk") => `(tactic| first | walk_at "wj" | with_reducible refine e_lst ?_ | with_reducible refine s_if ?_ | with_reducible refine xs_if ?_)
theorem ok_is_all (T : Txt K mg L) : FnOk Pr w K mg base CX0 3 L.f_is_all L.d_is_all ["reflectance", "start", "end", "wanted"] (spP K 4 (W_isAll L.C_Quotient)) := by
  refine okP T.F_is_all sc_is_all rfl (fun cdv A outer s H E hr => ⟨_, (pss_cons (ps_for PassesOwn.never rfl (pi_range2 (by rfl) T.n_range (pa_cons (pv 1) (pa_cons (pv 2) pa_nil))) (pg_name (i := 4) sc_is_all.nd rfl (by first | exact Or.inl rfl | exact Or.inr rfl)) (pss_one (ps_if (pt_cmpR (op_neQ (ok_Quotient_eq T) T.ne_Quotient T.b_Quotient_eq (hr.mono (by decide))) (pe_ix (r := rIxT K) ix_tup (pv 0) (pv 4) (fun _ _ => rfl)) (pv 3) (nomark _)) (pss_one (ps_ret pe_bl)) pss_nil)))
    (pss_one (ps_ret pe_bl))), ?_⟩)
  walk_at "cl"
  rintro ds P hl ⟨xs, a, b, q, m, rfl, hlen, ha, hb, hx, hq, hm, p⟩
  refine s_rho (ρ' := [some _, some _, some _, some _, none]) rfl ?_
  repeat walk_at "wk"
  refine s_for ?_
  repeat walk_at "wk"
  refine ⟨fun i ρ O' => (∃ k, ρ = [some (.tup (xs.map (dQ L.C_Quotient))), some (.int (a : Int)), some (.int (b : Int)), some (dQ L.C_Quotient q), k]) ∧ O' = [] ∧ allIn xs a (a + i) q, ⟨⟨_, rfl⟩, rfl, fun k h1 h2 => absurd h2 (by omega)⟩, ?_, ?_⟩
  · rintro i d ρ' O' hi ⟨⟨k, rfl⟩, rfl, hall⟩
    obtain ⟨hi, rfl⟩ := rangeD_get hi
    obtain ⟨x, hxi⟩ : ∃ x, xs[a + i]? = some x := ⟨_, List.getElem?_eq_getElem (by omega)⟩
    have bx := hx x (List.mem_of_getElem? hxi)
    have a1 : atI (xs.map (dQ L.C_Quotient)) ((a : Int) + (i : Int)) = some (dQ L.C_Quotient x) := by
      rw [atI_nat' (by omega) (by rw [List.length_map]; omega), show ((a : Int) + (i : Int)).toNat = a + i by omega, List.getElem?_map, hxi]
      rfl
    repeat walk_at "wk"
    refine r_ixT a1 ?_
    repeat walk_at "wk"
    refine r_neQ bx hq hm ?_
    refine sm_d (fun h => ?_) (fun h => ?_)
    · subst h
      repeat walk_at "wk"
      exact ⟨⟨_, rfl⟩, rfl, allIn_snoc hall hxi⟩
    · repeat walk_at "wk"
      refine p false ⟨(fun z => nomatch z), fun z => absurd (z (a + i) (by omega) (by omega)) ?_⟩
      rw [hxi]
      intro z
      cases z
      exact h rfl
  rintro ρ' O' ⟨⟨k, rfl⟩, rfl, hall⟩
  rw [rangeD_len] at hall
  repeat walk_at "wk"
  exact p true ⟨fun _ k h1 h2 => hall k h1 (by omega), fun _ => rfl⟩
theorem ok_pattern_parts (T : Txt K mg L) : FnOk Pr w K mg base CX0 5 L.f_pattern_parts L.d_pattern_parts ["kind"] (spP K 1 (W_parts L.C_Quotient)) := by
  refine okP T.F_pattern_parts sc_pattern_parts rfl (fun cdv A outer s H E hr => ⟨_, (pss_one (ps_ret (pe_ifExp (pt_cmpR op_eq (pv 0) (C8.pe_gc (by rfl) T.c_PASS) (nomark _)) (pe_tup (pa_cons (pe_call0 (ok_one T) (hr.mono (by decide)) (by rfl) T.m_one T.F_one.kp T.b_one .nil pass0) (pa_cons (pe_call0 (ok_zero T) (hr.mono (by decide)) (by rfl) T.m_zero T.F_zero.kp T.b_zero .nil pass0) pa_nil))) (pe_tup (pa_cons (pe_call0 (ok_zero T) (hr.mono (by decide)) (by rfl) T.m_zero T.F_zero.kp T.b_zero .nil pass0) (pa_cons (pe_call0 (ok_one T) (hr.mono (by decide)) (by rfl) T.m_one T.F_one.kp T.b_one .nil pass0) pa_nil)))))), ?_⟩)
  walk_at "cl"
  rintro ds P hl ⟨b, rfl, p⟩
  refine s_rho (ρ' := [some _]) rfl ?_
  repeat walk_at "wk"
  refine r_eqS ?_
  cases b with
  | true =>
    refine sp_y rfl ?_
    repeat walk_at "wk"
    exact p
  | false =>
    refine sp_n (by decide +kernel) ?_
    repeat walk_at "wk"
    exact p
theorem ok_first_pair (T : Txt K mg L) : FnOk Pr w K mg base CX0 6 L.f_first_pair L.d_first_pair ["reflectance", "kind"] (spP K 2 (W_fpairK L.C_Quotient)) := by
  refine okP T.F_first_pair sc_first_pair rfl (fun cdv A outer s H E hr => ⟨_, (pss_cons (ps_asg (pe_call (ok_pattern_parts T) (hr.mono (by decide)) (by rfl) T.m_pattern_parts T.F_pattern_parts.kp T.b_pattern_parts .nil pass0 (pa_cons (pv 1) pa_nil)) (pg_tup (by rfl) (pgs_cons (pg_name (i := 2) sc_first_pair.nd rfl (by first | exact Or.inl rfl | exact Or.inr rfl)) (pgs_cons (pg_name (i := 3) sc_first_pair.nd rfl (by first | exact Or.inl rfl | exact Or.inr rfl)) pgs_nil))))
    (pss_cons (ps_set (i := 4) sc_first_pair.nd rfl (by first | exact Or.inl rfl | exact Or.inr rfl) (pe_callB (r := Evl.rLenS K) call_len_seq rfl T.n_len (by decide +kernel) (pa_cons (pv 0) pa_nil)))
    (pss_cons (ps_set (i := 5) sc_first_pair.nd rfl (by first | exact Or.inl rfl | exact Or.inr rfl) (pe_op op_sub (pv 4) pe_int))
    (pss_cons (ps_while PassesOwn.never (PW.pt (pw_and (pt_cmpR op_gt (pv 5) pe_int (nomark _)) (pw_and1 (pt_cmpR (op_cmpOwn (op := .Eq) (ok_Quotient_eq T) (hr.mono (by decide)) T.b_Quotient_eq pass0 T.fi_Quotient_eq T.fn_Quotient_eq (fun _ _ => rfl)) (pe_ix (r := rIxT K) ix_tup (pv 0) (pv 5) (fun _ _ => rfl)) (pv 3) (nomark _))))) (pss_one (ps_aug (i := 5) sc_first_pair.nd rfl (by first | exact Or.inl rfl | exact Or.inr rfl) pe_int ip_sub)))
    (pss_cons (ps_for PassesOwn.never rfl (pi_range1 (by rfl) T.n_range (pa_cons (pe_op op_sub (pv 4) pe_int) pa_nil)) (pg_name (i := 6) sc_first_pair.nd rfl (by first | exact Or.inl rfl | exact Or.inr rfl)) (pss_cons (ps_if (PW.pt (pw_and (pt_cmpR op_gt (pv 6) pe_int (nomark _)) (pw_and1 (pt_cmpR (op_neQ (ok_Quotient_eq T) T.ne_Quotient T.b_Quotient_eq (hr.mono (by decide))) (pe_ix (r := rIxT K) ix_tup (pv 0) (pe_op op_sub (pv 6) pe_int) (fun _ _ => rfl)) (pv 3) (nomark _))))) (pss_one (ps_ret pe_non)) pss_nil)
    (pss_cons (ps_set (i := 7) sc_first_pair.nd rfl (by first | exact Or.inl rfl | exact Or.inr rfl) (pe_ifExp (pt_cmpR op_gt (pv 5) (pe_op op_add (pv 6) pe_int) (nomark _)) (pv 5) (pe_op op_add (pv 6) pe_int)))
    (pss_one (ps_if (pt_val (pe_call (ok_is_all T) (hr.mono (by decide)) (by rfl) T.m_is_all T.F_is_all.kp T.b_is_all .nil pass0 (pa_cons (pv 0) (pa_cons (pe_op op_add (pv 6) pe_int) (pa_cons (pv 7) (pa_cons (pv 2) pa_nil)))))) (pss_one (ps_ret (pe_tup (pa_cons (pv 6) (pa_cons (pv 7) pa_nil))))) pss_nil)))))
    (pss_one (ps_ret pe_non))))))), ?_⟩)
  walk_at "cl"
  rintro ds P hl ⟨xs, bb, m, rfl, h1, hlen, hx, hinn, ho, hm, p⟩
  refine s_rho (ρ' := [some _, some _, none, none, none, none, none, none]) rfl ?_
  repeat walk_at "wk"
  refine ⟨bb, rfl, ?_⟩
  generalize (if bb = true then (1 : Rat) else 0) = inn at hinn p
  generalize (if bb = true then (0 : Rat) else 1) = out at ho p
  repeat walk_at "wk"
  rw [List.length_map, show ((xs.length : Int) - 1) = ((xs.length - 1 : Nat) : Int) by omega]
  refine wS.mono (PS := fun o O => ∃ t : Nat, o = .nx [some (.tup (xs.map (dQ L.C_Quotient))), some (kindD bb), some (dQ L.C_Quotient inn), some (dQ L.C_Quotient out), some (.int (xs.length : Int)), some (.int (t : Int)), none, none] ∧ O = [] ∧ t ≤ xs.length - 1 ∧ allIn xs (t + 1) xs.length out ∧ (0 < t → xs[t]? ≠ some out)) ?_ ?_
  · refine s_while (fun m ρ O => ∃ t : Nat, m = t ∧ ρ = [some (.tup (xs.map (dQ L.C_Quotient))), some (kindD bb), some (dQ L.C_Quotient inn), some (dQ L.C_Quotient out), some (.int (xs.length : Int)), some (.int (t : Int)), none, none] ∧ O = [] ∧ t ≤ xs.length - 1 ∧ allIn xs (t + 1) xs.length out) (xs.length - 1) ⟨xs.length - 1, rfl, rfl, rfl, Nat.le_refl _, fun k h1 h2 => absurd h2 (by omega)⟩ ?_
    rintro mm ρ' O' ⟨t, hmm, rfl, rfl, ht, hall⟩
    obtain ⟨x, hxi⟩ : ∃ x, xs[t]? = some x := ⟨_, List.getElem?_eq_getElem (by omega)⟩
    have bx := hx x (List.mem_of_getElem? hxi)
    have a1 : atI (xs.map (dQ L.C_Quotient)) (t : Int) = some (dQ L.C_Quotient x) := by
      rw [atI_nat' (by omega) (by rw [List.length_map]; omega), Int.toNat_natCast, List.getElem?_map, hxi]
      rfl
    repeat walk_at "wk"
    refine sp_d (fun h => ?_) (fun h => ?_)
    · repeat walk_at "wk"
      refine r_ixT a1 ?_
      repeat walk_at "wk"
      refine sp_d (fun h2 => ?_) (fun h2 => ?_)
      · subst h2
        refine s_aug rfl (e_c (r_ip ?_))
        refine ⟨t - 1, by omega, t - 1, rfl, ?_, rfl, by omega, ?_⟩
        · rw [show (t : Int) - 1 = ((t - 1 : Nat) : Int) by omega]
          rfl
        · rw [show t - 1 + 1 = t by omega]
          exact allIn_cons hall hxi
      · refine ⟨t, rfl, rfl, ht, hall, fun _ z => h2 ?_⟩
        rw [hxi] at z
        cases z
        rfl
    · refine ⟨(fun z => nomatch z), fun _ => ?_⟩
      exact ⟨t, rfl, rfl, ht, hall, fun z => absurd z (by omega)⟩
  rintro o O ⟨t, rfl, rfl, ht, hall, hlast⟩
  refine s_seq (s_for ?_)
  repeat walk_at "wk"
  refine ⟨fun i ρ O' => (∃ k5 k6, ρ = [some (.tup (xs.map (dQ L.C_Quotient))), some (kindD bb), some (dQ L.C_Quotient inn), some (dQ L.C_Quotient out), some (.int (xs.length : Int)), some (.int (t : Int)), k5, k6]) ∧ O' = [] ∧ (∀ i' j', i' < i → ¬ fitR xs inn out i' j') ∧ allIn xs 0 (i - 1) out, ⟨⟨_, _, rfl⟩, rfl, fun i' j' z => absurd z (by omega), fun k _ z => absurd z (by omega)⟩, ?_, ?_⟩
  · rintro i d ρ' O' hi ⟨⟨k5, k6, rfl⟩, rfl, hno, hpre⟩
    obtain ⟨hi, rfl⟩ := rangeD_get hi
    rw [Int.zero_add]
    refine g_name (s_rho (ρ' := [some (.tup (xs.map (dQ L.C_Quotient))), some (kindD bb), some (dQ L.C_Quotient inn), some (dQ L.C_Quotient out), some (.int (xs.length : Int)), some (.int (t : Int)), some (.int (i : Int)), k6]) rfl ?_)
    repeat walk_at "wj"
    refine wS.mono (PS := fun o O => (o = .nx [some (.tup (xs.map (dQ L.C_Quotient))), some (kindD bb), some (dQ L.C_Quotient inn), some (dQ L.C_Quotient out), some (.int (xs.length : Int)), some (.int (t : Int)), some (.int (i : Int)), k6] ∧ O = [] ∧ allIn xs 0 i out) ∨ (o = .ret .non ∧ O = [] ∧ ∀ i' j', ¬ fitR xs inn out i' j')) ?_ ?_
    · repeat walk_at "wk"
      refine sp_d (fun h => ?_) (fun h => ?_)
      · obtain ⟨x, hxi⟩ : ∃ x, xs[i - 1]? = some x := ⟨_, List.getElem?_eq_getElem (by omega)⟩
        have bx := hx x (List.mem_of_getElem? hxi)
        have a1 : atI (xs.map (dQ L.C_Quotient)) ((i : Int) - 1) = some (dQ L.C_Quotient x) := by
          rw [atI_nat' (by omega) (by rw [List.length_map]; omega), show ((i : Int) - 1).toNat = i - 1 by omega, List.getElem?_map, hxi]
          rfl
        repeat walk_at "wk"
        refine r_ixT a1 ?_
        repeat walk_at "wk"
        refine r_neQ bx ho hm ?_
        refine sm_d (fun h2 => ?_) (fun h2 => ?_)
        · subst h2
          repeat walk_at "wk"
          refine .inl ⟨rfl, rfl, ?_⟩
          have := allIn_snoc hpre hxi
          rw [show i - 1 + 1 = i by omega] at this
          exact this
        · repeat walk_at "wk"
          refine .inr ⟨rfl, rfl, fun i' j' hf => ?_⟩
          by_cases hii : i' < i
          · exact hno i' j' hii hf
          · have := hf.2.2.1 (i - 1) (by omega) (by omega)
            rw [hxi] at this
            cases this
            exact h2 rfl
      · refine ⟨(fun z => nomatch z), fun _ => ?_⟩
        repeat walk_at "wk"
        exact .inl ⟨rfl, rfl, fun k _ z => absurd z (by omega)⟩
    rintro o O (⟨rfl, rfl, hpre'⟩ | ⟨rfl, rfl, hnone⟩)
    rotate_left
    · repeat walk_at "wk"
      exact p none hnone
    have tmin : ∀ i' j', fitR xs inn out i' j' → t ≤ j' := fun i' j' hf => by
      by_cases h : t ≤ j'
      · exact h
      · exact absurd (hf.2.2.2.2 t (by omega) (by omega)) (hlast (by omega))
    repeat walk_at "wk"
    refine sp_d (fun h => ?_) (fun h => ?_)
    · repeat walk_at "wk"
      refine ⟨xs, i + 1, t, inn, m, rfl, hlen, by omega, by omega, hx, hinn, hm, fun r hr => ?_⟩
      have jmin : ∀ j', fitR xs inn out i j' → t ≤ j' := fun j' hf => by
        have h1 := hf.1
        have h2 := tmin i j' hf
        omega
      cases r with
      | true =>
        refine ⟨true, rfl, (fun _ => ?_), (fun z => nomatch z)⟩
        repeat walk_at "wk"
        refine p (some (i, t)) ⟨⟨by show i < t; omega, by show t < _; omega, hpre', hr.mp rfl, fun k h1 h2 => hall k (by simp only at h1; omega) h2⟩, fun i' j' hf => ?_⟩
        by_cases hii : i' < i
        · exact absurd hf (hno i' j' hii)
        · by_cases hie : i = i'
          · subst hie
            exact .inr ⟨rfl, jmin j' hf⟩
          · exact .inl (by show i < i'; omega)
      | false =>
        refine ⟨false, rfl, (fun z => nomatch z), fun _ => ?_⟩
        repeat walk_at "wk"
        refine ⟨⟨_, _, rfl⟩, rfl, fun i' j' hlt hf => ?_, hpre'⟩
        by_cases hii : i' < i
        · exact hno i' j' hii hf
        · have hie : i' = i := by omega
          subst hie
          have hj := jmin j' hf
          exact absurd (hr.mpr fun k h1 h2 => hf.2.2.2.1 k h1 (by omega)) (by simp)
    · repeat walk_at "wk"
      refine ⟨xs, i + 1, (i + 1), inn, m, rfl, hlen, by omega, by omega, hx, hinn, hm, fun r hr => ?_⟩
      have jmin : ∀ j', fitR xs inn out i j' → (i + 1) ≤ j' := fun j' hf => by
        have h1 := hf.1
        have h2 := tmin i j' hf
        omega
      cases r with
      | true =>
        refine ⟨true, rfl, (fun _ => ?_), (fun z => nomatch z)⟩
        repeat walk_at "wk"
        refine p (some (i, (i + 1))) ⟨⟨by show i < (i + 1); omega, by show (i + 1) < _; omega, hpre', hr.mp rfl, fun k h1 h2 => hall k (by simp only at h1; omega) h2⟩, fun i' j' hf => ?_⟩
        by_cases hii : i' < i
        · exact absurd hf (hno i' j' hii)
        · by_cases hie : i = i'
          · subst hie
            exact .inr ⟨rfl, jmin j' hf⟩
          · exact .inl (by show i < i'; omega)
      | false =>
        refine ⟨false, rfl, (fun z => nomatch z), fun _ => ?_⟩
        repeat walk_at "wk"
        refine ⟨⟨_, _, rfl⟩, rfl, fun i' j' hlt hf => ?_, hpre'⟩
        by_cases hii : i' < i
        · exact hno i' j' hii hf
        · have hie : i' = i := by omega
          subst hie
          have hj := jmin j' hf
          exact absurd (hr.mpr fun k h1 h2 => hf.2.2.2.1 k h1 (by omega)) (by simp)
  rintro ρ' O' ⟨⟨k5, k6, rfl⟩, rfl, hno, hpre⟩
  rw [rangeD_len] at hno
  repeat walk_at "wk"
  refine p none fun i j hf => hno i j ?_ hf
  have h1 := hf.1
  have h2 := hf.2.1
  omega
theorem ok_band_pattern (T : Txt K mg L) : FnOk Pr w K mg base CX0 7 L.f_band_pattern L.d_band_pattern ["reflectance"] (spP K 1 (W_bpat L.C_Quotient)) := by
  refine okP T.F_band_pattern sc_band_pattern rfl (fun cdv A outer s H E hr => ⟨_, (pss_cons (ps_set (i := 1) sc_band_pattern.nd rfl (by first | exact Or.inl rfl | exact Or.inr rfl) (pe_call (ok_first_pair T) (hr.mono (by decide)) (by rfl) T.m_first_pair T.F_first_pair.kp T.b_first_pair .nil pass0 (pa_cons (pv 0) (pa_cons (C8.pe_gc (by rfl) T.c_PASS) pa_nil))))
    (pss_cons (ps_set (i := 2) sc_band_pattern.nd rfl (by first | exact Or.inl rfl | exact Or.inr rfl) (pe_call (ok_first_pair T) (hr.mono (by decide)) (by rfl) T.m_first_pair T.F_first_pair.kp T.b_first_pair .nil pass0 (pa_cons (pv 0) (pa_cons (C8.pe_gc (by rfl) T.c_STOP) pa_nil))))
    (pss_cons (ps_if (PW.pt (pw_and (pt_cmp (pc_isN (pv 1)) rfl) (pw_and1 (pt_cmp (pc_isN (pv 2)) rfl)))) (pss_one (ps_ret pe_non)) pss_nil)
    (pss_cons (ps_if (PW.pt (pw_or (pt_cmp (pc_isN (pv 2)) rfl) (pw_or1 (PW.pt (pw_and (pt_cmp (pc_notN (pv 1)) rfl) (pw_and1 (pt_cmpR (op_leT hr.units0) (pv 1) (pv 2) (nomark _)))))))) (pss_cons (ps_asg (pv 1) (pg_tup (by rfl) (pgs_cons (pg_name (i := 3) sc_band_pattern.nd rfl (by first | exact Or.inl rfl | exact Or.inr rfl)) (pgs_cons (pg_name (i := 4) sc_band_pattern.nd rfl (by first | exact Or.inl rfl | exact Or.inr rfl)) pgs_nil))))
    (pss_one (ps_ret (pe_tup (pa_cons (pv 3) (pa_cons (pv 4) (pa_cons (C8.pe_gc (by rfl) T.c_PASS) pa_nil))))))) pss_nil)
    (pss_cons (ps_asg (pv 2) (pg_tup (by rfl) (pgs_cons (pg_name (i := 3) sc_band_pattern.nd rfl (by first | exact Or.inl rfl | exact Or.inr rfl)) (pgs_cons (pg_name (i := 4) sc_band_pattern.nd rfl (by first | exact Or.inl rfl | exact Or.inr rfl)) pgs_nil))))
    (pss_one (ps_ret (pe_tup (pa_cons (pv 3) (pa_cons (pv 4) (pa_cons (C8.pe_gc (by rfl) T.c_STOP) pa_nil))))))))))), ?_⟩)
  walk_at "cl"
  rintro ds P hl ⟨xs, m, rfl, h1, hlen, hx, m1, hm, p⟩
  refine s_rho (ρ' := [some _, none, none, none, none]) rfl ?_
  have b1 : bits 1 m := bits_one' m1
  have b0 : bits 0 m := bits_zero' m1
  repeat walk_at "wk"
  refine ⟨xs, true, m, rfl, h1, hlen, hx, b1, b0, hm, fun r hr1 => ?_⟩
  repeat walk_at "wk"
  refine ⟨xs, false, m, rfl, h1, hlen, hx, b0, b1, hm, fun s hs1 => ?_⟩
  have p := p r s hr1 hs1
  repeat walk_at "wj"
  cases r with
  | none =>
    cases s with
    | none =>
      dsimp only [encP, pickP, encB] at p ⊢
      repeat (first | walk_at "wk" | with_reducible refine e_isN ?_ | with_reducible refine e_notN ?_ | with_reducible refine isn_non ?_ | with_reducible refine isn_tup ?_ | with_reducible refine zb_t ?_ | with_reducible refine zb_f ?_ | with_reducible refine zc_t ?_ | with_reducible refine zc_f ?_ | with_reducible refine pp_t ?_ | with_reducible refine pp_f ?_ | with_reducible refine pq_t ?_ | with_reducible refine pq_f ?_ | refine s_asgG ?_ | refine g_tup2 rfl ?_ | refine gs_cons' ?_ | refine g_name ?_ | refine gs_nil' ?_)
      exact p
    | some b =>
      dsimp only [encP, pickP, encB] at p ⊢
      repeat (first | walk_at "wk" | with_reducible refine e_isN ?_ | with_reducible refine e_notN ?_ | with_reducible refine isn_non ?_ | with_reducible refine isn_tup ?_ | with_reducible refine zb_t ?_ | with_reducible refine zb_f ?_ | with_reducible refine zc_t ?_ | with_reducible refine zc_f ?_ | with_reducible refine pp_t ?_ | with_reducible refine pp_f ?_ | with_reducible refine pq_t ?_ | with_reducible refine pq_f ?_ | refine s_asgG ?_ | refine g_tup2 rfl ?_ | refine gs_cons' ?_ | refine g_name ?_ | refine gs_nil' ?_)
      exact p
  | some a =>
    cases s with
    | none =>
      dsimp only [encP, pickP, encB] at p ⊢
      repeat (first | walk_at "wk" | with_reducible refine e_isN ?_ | with_reducible refine e_notN ?_ | with_reducible refine isn_non ?_ | with_reducible refine isn_tup ?_ | with_reducible refine zb_t ?_ | with_reducible refine zb_f ?_ | with_reducible refine zc_t ?_ | with_reducible refine zc_f ?_ | with_reducible refine pp_t ?_ | with_reducible refine pp_f ?_ | with_reducible refine pq_t ?_ | with_reducible refine pq_f ?_ | refine s_asgG ?_ | refine g_tup2 rfl ?_ | refine gs_cons' ?_ | refine g_name ?_ | refine gs_nil' ?_)
      exact p
    | some b =>
      have e : pickP (some a) (some b) = if lexle a b then some (a, true) else some (b, false) := rfl
      rw [e] at p
      dsimp only [encP]
      repeat (first | walk_at "wk" | with_reducible refine e_isN ?_ | with_reducible refine e_notN ?_ | with_reducible refine isn_non ?_ | with_reducible refine isn_tup ?_ | with_reducible refine zb_t ?_ | with_reducible refine zb_f ?_ | with_reducible refine zc_t ?_ | with_reducible refine zc_f ?_ | with_reducible refine pp_t ?_ | with_reducible refine pp_f ?_ | with_reducible refine pq_t ?_ | with_reducible refine pq_f ?_ | refine s_asgG ?_ | refine g_tup2 rfl ?_ | refine gs_cons' ?_ | refine g_name ?_ | refine gs_nil' ?_)
      refine r_leT ?_
      refine sp_d (fun h => ?_) (fun h => ?_)
      · rw [if_pos (show lexle a b by unfold lexle; omega)] at p
        repeat (first | walk_at "wk" | with_reducible refine e_isN ?_ | with_reducible refine e_notN ?_ | with_reducible refine isn_non ?_ | with_reducible refine isn_tup ?_ | with_reducible refine zb_t ?_ | with_reducible refine zb_f ?_ | with_reducible refine zc_t ?_ | with_reducible refine zc_f ?_ | with_reducible refine pp_t ?_ | with_reducible refine pp_f ?_ | with_reducible refine pq_t ?_ | with_reducible refine pq_f ?_ | refine s_asgG ?_ | refine g_tup2 rfl ?_ | refine gs_cons' ?_ | refine g_name ?_ | refine gs_nil' ?_)
        exact p
      · rw [if_neg (show ¬ lexle a b by unfold lexle; omega)] at p
        repeat (first | walk_at "wk" | with_reducible refine e_isN ?_ | with_reducible refine e_notN ?_ | with_reducible refine isn_non ?_ | with_reducible refine isn_tup ?_ | with_reducible refine zb_t ?_ | with_reducible refine zb_f ?_ | with_reducible refine zc_t ?_ | with_reducible refine zc_f ?_ | with_reducible refine pp_t ?_ | with_reducible refine pp_f ?_ | with_reducible refine pq_t ?_ | with_reducible refine pq_f ?_ | refine s_asgG ?_ | refine g_tup2 rfl ?_ | refine gs_cons' ?_ | refine g_name ?_ | refine gs_nil' ?_)
        exact p
theorem ok_law_fits (T : Txt K mg L) : FnOk Pr w K mg base CX0 1 L.f_law_fits L.d_law_fits ["values", "i", "j", "inner"] (spP K 4 W_fits) := by
  refine okP T.F_law_fits sc_law_fits rfl (fun cdv A outer s H E hr => ⟨_, (pss_cons (ps_for PassesOwn.never rfl (pi_range1 (by rfl) T.n_range (pa_cons (pe_callB (r := Evl.rLenS K) call_len_seq rfl T.n_len (by decide +kernel) (pa_cons (pv 0) pa_nil)) pa_nil)) (pg_name (i := 4) sc_law_fits.nd rfl (by first | exact Or.inl rfl | exact Or.inr rfl)) (pss_cons (ps_if (PW.pt (pw_and (pt_chain op_lt op_lt (pv 1) (pv 4) (pv 2)) (pw_and1 (pt_cmpR (op_neD (hr.units)) (pe_ix (r := rIxL K) ix_list (pv 0) (pv 4) (fun _ _ => rfl)) (pe_tup (pa_cons (pv 3) (pa_cons pe_int pa_nil))) (nomark _))))) (pss_one (ps_ret pe_bl)) pss_nil)
    (pss_one (ps_if (PW.pt (pw_and (PW.pt (pw_or (pt_cmpR op_lt (pv 4) (pv 1) (nomark _)) (pw_or1 (pt_cmpR op_gt (pv 4) (pv 2) (nomark _))))) (pw_and1 (pt_cmpR (op_neD (hr.units)) (pe_ix (r := rIxL K) ix_list (pv 0) (pv 4) (fun _ _ => rfl)) (pe_tup (pa_cons (pe_op op_sub pe_int (pv 3)) (pa_cons pe_int pa_nil))) (nomark _))))) (pss_one (ps_ret pe_bl)) pss_nil))))
    (pss_one (ps_ret pe_bl))), ?_⟩)
  walk_at "cl"
  rintro ds P hl ⟨vs, i, j, inn, rfl, hlen, p⟩
  refine s_rho (ρ' := [some _, some _, some _, some _, none]) rfl ?_
  refine s_seq (s_for ?_)
  repeat walk_at "wk"
  rw [List.length_map]
  repeat walk_at "wk"
  refine ⟨fun n ρ O' => (∃ k, ρ = [some (.lst (vs.map dRP)), some (.int (i : Int)), some (.int (j : Int)), some (.int inn), k]) ∧ O' = [] ∧ fitV vs i j inn n, ⟨⟨_, rfl⟩, rfl, fun k v z => absurd z (by omega)⟩, ?_, ?_⟩
  · rintro n d ρ' O' hi ⟨⟨k, rfl⟩, rfl, hall⟩
    obtain ⟨hi, rfl⟩ := rangeD_get hi
    rw [Int.zero_add]
    obtain ⟨v, hv⟩ : ∃ v, vs[n]? = some v := ⟨_, List.getElem?_eq_getElem (by omega)⟩
    have a1 : atI (vs.map dRP) (n : Int) = some (dRP v) := by
      rw [atI_nat' (by omega) (by rw [List.length_map]; omega), Int.toNat_natCast, List.getElem?_map, hv]
      rfl
    refine g_name (s_rho (ρ' := [some (.lst (vs.map dRP)), some (.int (i : Int)), some (.int (j : Int)), some (.int inn), some (.int (n : Int))]) rfl ?_)
    repeat walk_at "wj"
    refine wS.mono (PS := fun o O => (o = .nx [some (.lst (vs.map dRP)), some (.int (i : Int)), some (.int (j : Int)), some (.int inn), some (.int (n : Int))] ∧ O = [] ∧ (i < n ∧ n < j → v = (inn, 1))) ∨ (o = .ret (.bl false) ∧ O = [] ∧ (i < n ∧ n < j) ∧ v ≠ (inn, 1))) ?_ ?_
    · repeat walk_at "wk"
      refine e_chain ?_
      repeat walk_at "wk"
      refine sp_d (fun h1 => ?_) (fun h1 => ?_)
      · repeat walk_at "wk"
        refine sp_d (fun h2 => ?_) (fun h2 => ?_)
        · repeat walk_at "wk"
          refine r_ixL a1 ?_
          repeat walk_at "wk"
          refine r_neT2 ?_
          by_cases he : v = (inn, 1)
          · subst he
            simp only [decide_true, Bool.and_self, Bool.not_true]
            refine ⟨false, rfl, (fun z => nomatch z), fun _ => ?_⟩
            repeat walk_at "wk"
            exact .inl ⟨rfl, rfl, fun _ => by first | rfl | trivial⟩
          · have hb : (!(decide (v.1 = inn) && decide (v.2 = 1))) = true := by
              rw [Bool.not_eq_true', Bool.and_eq_false_iff, decide_eq_false_iff_not, decide_eq_false_iff_not]
              by_cases hz : v.1 = inn
              · exact .inr fun z => he (Prod.ext hz z)
              · exact .inl hz
            rw [hb]
            refine ⟨true, rfl, (fun _ => ?_), fun z => nomatch z⟩
            repeat walk_at "wk"
            exact .inr ⟨rfl, rfl, ⟨by omega, by omega⟩, he⟩
        · refine ⟨(fun z => nomatch z), fun _ => ?_⟩
          repeat walk_at "wk"
          exact .inl ⟨rfl, rfl, fun z => absurd z.2 (by omega)⟩
      · refine ⟨false, rfl, (fun z => nomatch z), fun _ => ?_⟩
        refine ⟨(fun z => nomatch z), fun _ => ?_⟩
        repeat walk_at "wk"
        exact .inl ⟨rfl, rfl, fun z => absurd z.1 (by omega)⟩
    rintro o O (⟨rfl, rfl, hmid⟩ | ⟨rfl, rfl, hb, hne⟩)
    rotate_left
    · repeat walk_at "wk"
      exact p false ⟨(fun z => nomatch z), fun z => absurd ((z n v (by omega) hv).1 hb) hne⟩
    refine wS.mono (PS := fun o O => (o = .nx [some (.lst (vs.map dRP)), some (.int (i : Int)), some (.int (j : Int)), some (.int inn), some (.int (n : Int))] ∧ O = [] ∧ (n < i ∨ j < n → v = (1 - inn, 1))) ∨ (o = .ret (.bl false) ∧ O = [] ∧ (n < i ∨ j < n) ∧ v ≠ (1 - inn, 1))) ?_ ?_
    · have both : (n < i ∨ j < n) → wT K (tTest (tOp (rNeD K) (tOp (rIxL K) (tVar 0) (tVar 4)) (tTup (tCons (tOp (rI0 fun i j => V.int (i - j)) (tC (V.int 1)) (tVar 3)) (tCons (tC (V.int 1)) tNil))))) [some (.lst (vs.map dRP)), some (.int (i : Int)), some (.int (j : Int)), some (.int inn), some (.int (n : Int))] [] fun b O1 =>
          O1 = [] ∧ (b = true → v ≠ (1 - inn, 1)) ∧ (b = false → v = (1 - inn, 1)) := fun hc => by
        repeat walk_at "wk"
        refine r_ixL a1 ?_
        repeat walk_at "wk"
        refine r_neT2 ?_
        refine ⟨_, rfl, rfl, fun hb he => ?_, fun hb => ?_⟩
        · rw [he] at hb
          simp at hb
        · rw [Bool.not_eq_false', Bool.and_eq_true, decide_eq_true_eq, decide_eq_true_eq] at hb
          exact Prod.ext hb.1 hb.2
      repeat walk_at "wk"
      refine sp_nd (fun h => ?_) (fun h => ?_)
      · refine ⟨(fun _ => ?_), (fun z => nomatch z)⟩
        refine wT_mono (both (.inl (by omega))) fun b O1 hb => ?_
        obtain ⟨rfl, ht, hf⟩ := hb
        refine ⟨fun hb => ?_, fun hb => ?_⟩
        · repeat walk_at "wk"
          exact .inr ⟨rfl, rfl, .inl (by omega), ht hb⟩
        · repeat walk_at "wk"
          exact .inl ⟨rfl, rfl, fun _ => hf hb⟩
      · repeat walk_at "wk"
        refine sp_d (fun h2 => ?_) (fun h2 => ?_)
        · refine wT_mono (both (.inr (by omega))) fun b O1 hb => ?_
          obtain ⟨rfl, ht, hf⟩ := hb
          refine ⟨fun hb => ?_, fun hb => ?_⟩
          · repeat walk_at "wk"
            exact .inr ⟨rfl, rfl, .inr (by omega), ht hb⟩
          · repeat walk_at "wk"
            exact .inl ⟨rfl, rfl, fun _ => hf hb⟩
        · repeat walk_at "wk"
          exact .inl ⟨rfl, rfl, fun z => absurd z (by omega)⟩
    rintro o O (⟨rfl, rfl, hout⟩ | ⟨rfl, rfl, hb, hne⟩)
    rotate_left
    · repeat walk_at "wk"
      exact p false ⟨(fun z => nomatch z), fun z => absurd ((z n v (by omega) hv).2 hb) hne⟩
    repeat walk_at "wk"
    refine ⟨⟨_, rfl⟩, rfl, fun k w hk hw => ?_⟩
    by_cases hkn : k = n
    · subst hkn
      rw [hv] at hw
      cases hw
      exact ⟨hmid, hout⟩
    · exact hall k w (by omega) hw
  rintro ρ' O' ⟨⟨k, rfl⟩, rfl, hall⟩
  rw [rangeD_len] at hall
  repeat walk_at "wk"
  exact p true ⟨fun _ => by simpa using hall, fun _ => rfl⟩
theorem ok_law_share (T : Txt K mg L) : FnOk Pr w K mg base CX0 2 L.f_law_share L.d_law_share ["stream"] (spW K 1 W_share) := by
  refine okW T.F_law_share sc_law_share rfl (fun cdv A outer s H E hr => ⟨_, (pss_cons (ps_set (i := 1) sc_law_share.nd rfl (by first | exact Or.inl rfl | exact Or.inr rfl) (pe_call (ok_law_next T) (hr.mono (by decide)) (by rfl) T.m_law_next T.F_law_next.kp T.b_law_next .nil pass0 (pa_cons (pv 0) (pa_cons pe_int pa_nil))))
    (pss_cons (ps_if (pt_cmpR op_le (pv 1) pe_int (nomark _)) (pss_one (ps_ret (pe_tup (pa_cons (pv 1) (pa_cons pe_int pa_nil))))) pss_nil)
    (pss_cons (ps_set (i := 2) sc_law_share.nd rfl (by first | exact Or.inl rfl | exact Or.inr rfl) (pe_op op_add pe_int (pe_call (ok_law_next T) (hr.mono (by decide)) (by rfl) T.m_law_next T.F_law_next.kp T.b_law_next .nil pass0 (pa_cons (pv 0) (pa_cons pe_int pa_nil)))))
    (pss_cons (ps_if (pt_cmpR op_eq (pv 1) pe_int (nomark _)) (pss_one (ps_set (i := 2) sc_law_share.nd rfl (by first | exact Or.inl rfl | exact Or.inr rfl) (pe_op op_add (pe_op op_add pe_int (pe_op op_mulW (pe_call (ok_law_next T) (hr.mono (by decide)) (by rfl) T.m_law_next T.F_law_next.kp T.b_law_next .nil pass0 (pa_cons (pv 0) (pa_cons pe_int pa_nil))) pe_int)) (pe_call (ok_law_next T) (hr.mono (by decide)) (by rfl) T.m_law_next T.F_law_next.kp T.b_law_next .nil pass0 (pa_cons (pv 0) (pa_cons pe_int pa_nil)))))) pss_nil)
    (pss_one (ps_ret (pe_tup (pa_cons (pe_op op_mod (pe_op op_mulW (pe_call (ok_law_next T) (hr.mono (by decide)) (by rfl) T.m_law_next T.F_law_next.kp T.b_law_next .nil pass0 (pa_cons (pv 0) (pa_cons pe_int pa_nil))) pe_int) (pe_op op_add (pv 2) pe_int)) (pa_cons (pv 2) pa_nil))))))))), ?_⟩)
  walk_at "cl"
  rintro ds O P hl ⟨l, p, n, R, rfl, hne, hd, rfl, fin⟩
  refine s_rho (ρ' := [some _, none, none]) rfl ?_
  repeat walk_at "wk"
  intro kd n1 k0 k1 k2
  repeat walk_at "wk"
  refine sp_d (fun h => ?_) (fun h => ?_)
  · repeat walk_at "wk"
    exact fin (kd, 1) n1 ⟨k0, h, Int.le_refl 1, (show (1 : Int) ≤ 3600 by decide)⟩
  repeat walk_at "wk"
  intro b n2 b0 b1 b2
  repeat walk_at "wj"
  refine wS.mono (PS := fun o O1 => ∃ (c n3 : Int), o = .nx [some (dStream l p), some (.int kd), some (.int c)] ∧ O1 = (p, .lst [.int n3]) :: R ∧ 1 ≤ c ∧ c ≤ 3600) ?_ ?_
  · repeat walk_at "wk"
    refine sp_d (fun h => ?_) (fun h => ?_)
    · repeat walk_at "wk"
      intro u n3 u0 u1 u2
      repeat walk_at "wk"
      refine r_rI ?_ ?_
      · exact small_wide (by omega) (by decide)
      repeat walk_at "wk"
      intro v n4 v0 v1 v2
      repeat walk_at "wk"
      exact ⟨1 + u * 60 + v, n4, rfl, rfl, by omega, by omega⟩
    · repeat walk_at "wk"
      exact ⟨1 + b, n2, rfl, rfl, by omega, by omega⟩
  rintro o O1 ⟨c, n3, rfl, rfl, c1, c2⟩
  repeat walk_at "wk"
  intro u n4 u0 u1 u2
  repeat walk_at "wk"
  refine r_rI ?_ ?_
  · exact small_wide (by omega) (by decide)
  repeat walk_at "wk"
  refine r_rI (show (0 : Int) < c + 1 by omega) ?_
  repeat walk_at "wk"
  have q0 := Int.emod_nonneg (u * 61) (show c + 1 ≠ 0 by omega)
  have q1 := Int.emod_lt_of_pos (u * 61) (show 0 < c + 1 by omega)
  exact fin (u * 61 % (c + 1), c) n4 ⟨q0, (show u * 61 % (c + 1) ≤ c by omega), c1, c2⟩
theorem ok_law_same0 (T : Txt K mg L) : FnOk Pr w K mg base CX0 2 L.f_law_same L.d_law_same ["actual", "expected"] (spP K 2 W_same0) := by
  refine okP T.F_law_same sc_law_same rfl (fun cdv A outer s H E hr => ⟨_, (pss_cons (ps_if (pt_cmp (pc_isN (pv 1)) rfl) (pss_one (ps_ret (pe_cmp (pc_isN (pv 0)) rfl))) pss_nil)
    (pss_cons (ps_if (pt_val (pe_callB (r := rIsi K) call_isi rfl T.n_isinstance (by decide +kernel) (pa_cons (pv 1) (pa_cons (pe_bltn (v := .ty "bool") (by rfl) T.n_bool (by decide +kernel) rfl) pa_nil)))) (pss_one (ps_ret (pe_and (pe_callB (r := rIsi K) call_isi rfl T.n_isinstance (by decide +kernel) (pa_cons (pv 0) (pa_cons (pe_bltn (v := .ty "bool") (by rfl) T.n_bool (by decide +kernel) rfl) pa_nil))) (pe_one (pe_cmpR op_eq (pv 0) (pv 1) (nomark _)))))) pss_nil)
    (pss_cons (ps_if (pt_val (pe_callB (r := rIsi K) call_isi rfl T.n_isinstance (by decide +kernel) (pa_cons (pv 1) (pa_cons (pe_bltn (v := .ty "int") (by rfl) T.n_int (by decide +kernel) rfl) pa_nil)))) (pss_one (ps_ret (pe_and (pe_call (ok_law_is_integer T) (hr.mono (by decide)) (by rfl) T.m_law_is_integer T.F_law_is_integer.kp T.b_law_is_integer .nil pass0 (pa_cons (pv 0) pa_nil)) (pe_one (pe_cmpR op_eq (pv 0) (pv 1) (nomark _)))))) pss_nil)
    (pss_cons (ps_if (pt_val (pe_callB (r := rIsi K) call_isi rfl T.n_isinstance (by decide +kernel) (pa_cons (pv 1) (pa_cons (pe_bltn (v := .ty "str") (by rfl) T.n_str (by decide +kernel) rfl) pa_nil)))) (pss_one (ps_ret (pe_and (pe_callB (r := rIsi K) call_isi rfl T.n_isinstance (by decide +kernel) (pa_cons (pv 0) (pa_cons (pe_bltn (v := .ty "str") (by rfl) T.n_str (by decide +kernel) rfl) pa_nil))) (pe_one (pe_cmpR op_eq (pv 0) (pv 1) (nomark _)))))) pss_nil)
    pss_never)))), ?_⟩)
  walk_at "cl"
  rintro ds P hl ⟨d, rfl, ⟨i, rfl⟩ | ⟨t, rfl⟩, p⟩
  · refine s_rho (ρ' := [some _, some _, none]) rfl ?_
    repeat walk_at "wk"
    refine e_isN ?_
    repeat walk_at "wk"
    refine ⟨(fun z => nomatch z), fun _ => ?_⟩
    refine ⟨_, rfl, (fun z => nomatch z), fun _ => ?_⟩
    repeat walk_at "wk"
    refine c_isi (.int _) (.ty _) T.kit_int_bool ⟨_, rfl, (fun z => nomatch z), (fun _ => ?_)⟩
    repeat walk_at "wk"
    refine c_isi (.int _) (.ty _) T.kit_int_int ⟨_, rfl, fun _ => ?_, (fun z => nomatch z)⟩
    repeat walk_at "wk"
    refine zb_t ?_
    repeat walk_at "wk"
    rw [show decide (i = i) = true from decide_eq_true rfl]
    exact p
  · refine s_rho (ρ' := [some _, some _, none]) rfl ?_
    repeat walk_at "wk"
    refine e_isN ?_
    repeat walk_at "wk"
    refine ⟨(fun z => nomatch z), fun _ => ?_⟩
    refine ⟨_, rfl, (fun z => nomatch z), fun _ => ?_⟩
    repeat walk_at "wk"
    refine c_isi (.str _) (.ty _) T.kit_str_bool ⟨_, rfl, (fun z => nomatch z), (fun _ => ?_)⟩
    repeat walk_at "wk"
    refine c_isi (.str _) (.ty _) T.kit_str_int ⟨_, rfl, (fun z => nomatch z), (fun _ => ?_)⟩
    repeat walk_at "wk"
    refine c_isi (.str _) (.ty _) T.kit_str_str ⟨_, rfl, (fun _ => ?_), (fun z => nomatch z)⟩
    repeat walk_at "wk"
    refine c_isi (.str _) (.ty _) T.kit_str_str (zb_t ?_)
    repeat walk_at "wk"
    refine r_eq (x := .str t) (y := .str t) rfl ?_
    rw [decide_eq_true rfl]
    exact p
theorem ok_law_same (T : Txt K mg L) : FnOk Pr w K mg base CX0 3 L.f_law_same L.d_law_same ["actual", "expected"] (spP K 2 W_sameP) := by
  refine okP T.F_law_same sc_law_same rfl (fun cdv A outer s H E hr => ⟨_, (pss_cons (ps_if (pt_cmp (pc_isN (pv 1)) rfl) (pss_one (ps_ret (pe_cmp (pc_isN (pv 0)) rfl))) pss_nil)
    (pss_cons (ps_if (pt_val (pe_callB (r := rIsi K) call_isi rfl T.n_isinstance (by decide +kernel) (pa_cons (pv 1) (pa_cons (pe_bltn (v := .ty "bool") (by rfl) T.n_bool (by decide +kernel) rfl) pa_nil)))) (pss_one (ps_ret (pe_and (pe_callB (r := rIsi K) call_isi rfl T.n_isinstance (by decide +kernel) (pa_cons (pv 0) (pa_cons (pe_bltn (v := .ty "bool") (by rfl) T.n_bool (by decide +kernel) rfl) pa_nil))) (pe_one (pe_cmpR (op_eqD (hr.units)) (pv 0) (pv 1) (nomark _)))))) pss_nil)
    (pss_cons (ps_if (pt_val (pe_callB (r := rIsi K) call_isi rfl T.n_isinstance (by decide +kernel) (pa_cons (pv 1) (pa_cons (pe_bltn (v := .ty "int") (by rfl) T.n_int (by decide +kernel) rfl) pa_nil)))) (pss_one (ps_ret (pe_and (pe_call (ok_law_is_integer T) (hr.mono (by decide)) (by rfl) T.m_law_is_integer T.F_law_is_integer.kp T.b_law_is_integer .nil pass0 (pa_cons (pv 0) pa_nil)) (pe_one (pe_cmpR (op_eqD (hr.units)) (pv 0) (pv 1) (nomark _)))))) pss_nil)
    (pss_cons (ps_if (pt_val (pe_callB (r := rIsi K) call_isi rfl T.n_isinstance (by decide +kernel) (pa_cons (pv 1) (pa_cons (pe_bltn (v := .ty "str") (by rfl) T.n_str (by decide +kernel) rfl) pa_nil)))) (pss_one (ps_ret (pe_and (pe_callB (r := rIsi K) call_isi rfl T.n_isinstance (by decide +kernel) (pa_cons (pv 0) (pa_cons (pe_bltn (v := .ty "str") (by rfl) T.n_str (by decide +kernel) rfl) pa_nil))) (pe_one (pe_cmpR (op_eqD (hr.units)) (pv 0) (pv 1) (nomark _)))))) pss_nil)
    (pss_cons (ps_if (PW.pt (pw_and (pt_val (pe_callB (r := rIsi K) call_isi rfl T.n_isinstance (by decide +kernel) (pa_cons (pv 1) (pa_cons (pe_bltn (v := .ty "tuple") (by rfl) T.n_tuple (by decide +kernel) rfl) pa_nil)))) (pw_and1 (pt_not (pt_val (pe_callB (r := rIsi K) call_isi rfl T.n_isinstance (by decide +kernel) (pa_cons (pv 0) (pa_cons (pe_bltn (v := .ty "tuple") (by rfl) T.n_tuple (by decide +kernel) rfl) pa_nil)))))))) (pss_one (ps_ret pe_bl)) pss_nil)
    (pss_cons (ps_if (PW.pt (pw_and (pt_val (pe_callB (r := rIsi K) call_isi rfl T.n_isinstance (by decide +kernel) (pa_cons (pv 1) (pa_cons (pe_bltn (v := .ty "list") (by rfl) T.n_list (by decide +kernel) rfl) pa_nil)))) (pw_and1 (pt_not (pt_val (pe_callB (r := rIsi K) call_isi rfl T.n_isinstance (by decide +kernel) (pa_cons (pv 0) (pa_cons (pe_bltn (v := .ty "list") (by rfl) T.n_list (by decide +kernel) rfl) pa_nil)))))))) (pss_one (ps_ret pe_bl)) pss_nil)
    (pss_cons (ps_if (pt_cmpR op_ne (pe_callB (r := Evl.rLenS K) call_len_seq rfl T.n_len (by decide +kernel) (pa_cons (pv 0) pa_nil)) (pe_callB (r := Evl.rLenS K) call_len_seq rfl T.n_len (by decide +kernel) (pa_cons (pv 1) pa_nil)) (nomark _)) (pss_one (ps_ret pe_bl)) pss_nil)
    (pss_cons (ps_for PassesOwn.never rfl (pi_range1 (by rfl) T.n_range (pa_cons (pe_callB (r := Evl.rLenS K) call_len_seq rfl T.n_len (by decide +kernel) (pa_cons (pv 1) pa_nil)) pa_nil)) (pg_name (i := 2) sc_law_same.nd rfl (by first | exact Or.inl rfl | exact Or.inr rfl)) (pss_one (ps_if (pt_not (pt_val (pe_call (ok_law_same0 T) (hr.mono (by decide)) (by rfl) T.m_law_same T.F_law_same.kp T.b_law_same .nil pass0 (pa_cons (pe_ix (r := rIxT K) ix_tup (pv 0) (pv 2) (fun _ _ => rfl)) (pa_cons (pe_ix (r := rIxT K) ix_tup (pv 1) (pv 2) (fun _ _ => rfl)) pa_nil))))) (pss_one (ps_ret pe_bl)) pss_nil)))
    (pss_one (ps_ret pe_bl)))))))))), ?_⟩)
  walk_at "cl"
  rintro ds P hl ⟨o, rfl, p⟩
  refine s_rho (ρ' := [some _, some _, none]) rfl ?_
  cases o with
  | none =>
    dsimp only [encB]
    repeat (first | walk_at "wk" | with_reducible refine e_isN ?_ | with_reducible refine e_notN ?_ | with_reducible refine isn_non ?_ | with_reducible refine isn_tup ?_ | with_reducible refine zb_t ?_ | with_reducible refine zb_f ?_ | with_reducible refine zc_t ?_ | with_reducible refine zc_f ?_ | with_reducible refine pp_t ?_ | with_reducible refine pp_f ?_ | with_reducible refine pq_t ?_ | with_reducible refine pq_f ?_)
    exact p
  | some o =>
    dsimp only [encB]
    repeat (first | walk_at "wk" | with_reducible refine e_isN ?_ | with_reducible refine e_notN ?_ | with_reducible refine isn_non ?_ | with_reducible refine isn_tup ?_ | with_reducible refine zb_t ?_ | with_reducible refine zb_f ?_ | with_reducible refine zc_t ?_ | with_reducible refine zc_f ?_ | with_reducible refine pp_t ?_ | with_reducible refine pp_f ?_ | with_reducible refine pq_t ?_ | with_reducible refine pq_f ?_ | with_reducible refine zd_t ?_ | with_reducible refine zd_f ?_ | with_reducible refine ze_t ?_ | with_reducible refine c_isi (.tup _) (.ty _) T.kit_tuple_bool ?_ | with_reducible refine c_isi (.tup _) (.ty _) T.kit_tuple_int ?_ | with_reducible refine c_isi (.tup _) (.ty _) T.kit_tuple_str ?_ | with_reducible refine c_isi (.tup _) (.ty _) T.kit_tuple_tuple ?_ | with_reducible refine c_isi (.tup _) (.ty _) T.kit_tuple_list ?_)
    refine sm_y rfl ?_
    repeat walk_at "wk"
    refine s_for ?_
    repeat walk_at "wk"
    refine ⟨3, rfl, by decide, by decide, _, rfl, fun _ ρ O' => (∃ k, ρ = [some (.tup [D.int o.1.1, D.int o.1.2, D.raw (V.str (if o.2 = true then Str.ofString "pass" else Str.ofString "stop"))]), some (.tup [D.int o.1.1, D.int o.1.2, D.raw (V.str (if o.2 = true then Str.ofString "pass" else Str.ofString "stop"))]), k]) ∧ O' = [], ⟨⟨_, rfl⟩, rfl⟩, ?_, ?_⟩
    · rintro i d ρ' O' hi ⟨⟨k, rfl⟩, rfl⟩
      obtain ⟨hi, rfl⟩ := rangeD_get hi
      rw [Int.zero_add]
      obtain ⟨e, he, hk⟩ : ∃ e, atI [D.int o.1.1, D.int o.1.2, D.raw (V.str (if o.2 = true then Str.ofString "pass" else Str.ofString "stop"))] (i : Int) = some e ∧ ((∃ i : Int, e = .int i) ∨ (∃ s : Str, e = .raw (.str s))) := by
        have h3 : i = 0 ∨ i = 1 ∨ i = 2 := by
          have : (3 : Int).toNat = 3 := rfl
          omega
        rcases h3 with rfl | rfl | rfl
        · exact ⟨_, rfl, .inl ⟨_, rfl⟩⟩
        · exact ⟨_, rfl, .inl ⟨_, rfl⟩⟩
        · exact ⟨_, rfl, .inr ⟨_, rfl⟩⟩
      refine g_name (s_rho (ρ' := [some (.tup [D.int o.1.1, D.int o.1.2, D.raw (V.str (if o.2 = true then Str.ofString "pass" else Str.ofString "stop"))]), some (.tup [D.int o.1.1, D.int o.1.2, D.raw (V.str (if o.2 = true then Str.ofString "pass" else Str.ofString "stop"))]), some (.int (i : Int))]) rfl ?_)
      repeat walk_at "wk"
      refine r_ixT he ?_
      repeat walk_at "wk"
      refine r_ixT he ?_
      repeat walk_at "wk"
      refine ⟨e, rfl, hk, ?_⟩
      refine zd_t ?_
      repeat walk_at "wk"
      exact ⟨⟨_, rfl⟩, rfl⟩
    rintro ρ' O' ⟨⟨k, rfl⟩, rfl⟩
    repeat walk_at "wk"
    exact p
theorem ok_law (T : Txt K mg L) : FnOk Pr w K mg base CX0 8 L.f_law L.d_law ["script"] (spLaw K) := by
  refine okLaw T.F_law sc_law rfl (fun cdv A outer s H E hr => ⟨_, (pss_cons (ps_set (i := 1) sc_law.nd rfl (by first | exact Or.inl rfl | exact Or.inr rfl) (pe_call (ok_law_stream T) (hr.mono (by decide)) (by rfl) T.m_law_stream T.F_law_stream.kp T.b_law_stream .nil pass0 (pa_cons (pv 0) (pa_cons pe_int (pa_cons pe_int pa_nil)))))
    (pss_cons (ps_set (i := 2) sc_law.nd rfl (by first | exact Or.inl rfl | exact Or.inr rfl) (pe_op op_add pe_int (pe_call (ok_law_next T) (hr.mono (by decide)) (by rfl) T.m_law_next T.F_law_next.kp T.b_law_next .nil pass0 (pa_cons (pv 1) (pa_cons pe_int pa_nil)))))
    (pss_cons (ps_set (i := 3) sc_law.nd rfl (by first | exact Or.inl rfl | exact Or.inr rfl) (pe_call (ok_law_next T) (hr.mono (by decide)) (by rfl) T.m_law_next T.F_law_next.kp T.b_law_next .nil pass0 (pa_cons (pv 1) (pa_cons pe_int pa_nil))))
    (pss_cons (ps_set (i := 4) sc_law.nd rfl (by first | exact Or.inl rfl | exact Or.inr rfl) (pe_call (ok_law_next T) (hr.mono (by decide)) (by rfl) T.m_law_next T.F_law_next.kp T.b_law_next .nil pass0 (pa_cons (pv 1) (pa_cons (pv 2) pa_nil))))
    (pss_cons (ps_set (i := 5) sc_law.nd rfl (by first | exact Or.inl rfl | exact Or.inr rfl) (pe_call (ok_law_next T) (hr.mono (by decide)) (by rfl) T.m_law_next T.F_law_next.kp T.b_law_next .nil pass0 (pa_cons (pv 1) (pa_cons (pv 2) pa_nil))))
    (pss_cons (ps_set (i := 6) sc_law.nd rfl (by first | exact Or.inl rfl | exact Or.inr rfl) (pe_lst pa_nil))
    (pss_cons (ps_for PassesOwn.never rfl (pi_range1 (by rfl) T.n_range (pa_cons (pv 2) pa_nil)) (pg_name (i := 7) sc_law.nd rfl (by first | exact Or.inl rfl | exact Or.inr rfl)) (pss_cons (ps_set (i := 8) sc_law.nd rfl (by first | exact Or.inl rfl | exact Or.inr rfl) (pe_call (ok_law_share T) (hr.mono (by decide)) (by rfl) T.m_law_share T.F_law_share.kp T.b_law_share .nil pass0 (pa_cons (pv 1) pa_nil)))
    (pss_cons (ps_set (i := 9) sc_law.nd rfl (by first | exact Or.inl rfl | exact Or.inr rfl) (pe_call (ok_law_least T) (hr.mono (by decide)) (by rfl) T.m_law_least T.F_law_least.kp T.b_law_least .nil pass0 (pa_cons (pe_ix (r := rIxT K) ix_tup (pv 8) pe_int (fun _ _ => rfl)) (pa_cons (pe_ix (r := rIxT K) ix_tup (pv 8) pe_int (fun _ _ => rfl)) pa_nil))))
    (pss_cons (ps_set (i := 10) sc_law.nd rfl (by first | exact Or.inl rfl | exact Or.inr rfl) (pe_tup (pa_cons (pv 3) (pa_cons pe_int pa_nil))))
    (pss_cons (ps_if (PW.pt (pw_or (PW.pt (pw_and (pt_cmpR op_lt (pv 7) (pv 4) (nomark _)) (pw_and1 (pt_cmpR op_lt (pv 7) (pv 5) (nomark _))))) (pw_or1 (PW.pt (pw_and (pt_cmpR op_gt (pv 7) (pv 4) (nomark _)) (pw_and1 (pt_cmpR op_gt (pv 7) (pv 5) (nomark _)))))))) (pss_one (ps_set (i := 10) sc_law.nd rfl (by first | exact Or.inl rfl | exact Or.inr rfl) (pe_tup (pa_cons (pe_op op_sub pe_int (pv 3)) (pa_cons pe_int pa_nil))))) pss_nil)
    (pss_cons (ps_if (pt_cmpR op_in_seq (pv 7) (pe_lst (pa_cons (pv 4) (pa_cons (pv 5) pa_nil))) (by rfl)) (pss_one (ps_set (i := 10) sc_law.nd rfl (by first | exact Or.inl rfl | exact Or.inr rfl) (pv 9))) pss_nil)
    (pss_one (ps_expr (pe_bm PySem.F.plainAttrs_list PySem.F.slot_list_append PySem.F.type_list_append mt_append (pv 6) (pa_cons (pv 10) pa_nil))))))))))
    (pss_cons (ps_if (pt_cmpR op_eq (pe_call (ok_law_next T) (hr.mono (by decide)) (by rfl) T.m_law_next T.F_law_next.kp T.b_law_next .nil pass0 (pa_cons (pv 1) (pa_cons pe_int pa_nil))) pe_int (nomark _)) (pss_cons (ps_set (i := 11) sc_law.nd rfl (by first | exact Or.inl rfl | exact Or.inr rfl) (pe_call (ok_law_next T) (hr.mono (by decide)) (by rfl) T.m_law_next T.F_law_next.kp T.b_law_next .nil pass0 (pa_cons (pv 1) (pa_cons (pv 2) pa_nil))))
    (pss_cons (ps_set (i := 8) sc_law.nd rfl (by first | exact Or.inl rfl | exact Or.inr rfl) (pe_call (ok_law_share T) (hr.mono (by decide)) (by rfl) T.m_law_share T.F_law_share.kp T.b_law_share .nil pass0 (pa_cons (pv 1) pa_nil)))
    (pss_one (ps_asg (pe_call (ok_law_least T) (hr.mono (by decide)) (by rfl) T.m_law_least T.F_law_least.kp T.b_law_least .nil pass0 (pa_cons (pe_ix (r := rIxT K) ix_tup (pv 8) pe_int (fun _ _ => rfl)) (pa_cons (pe_ix (r := rIxT K) ix_tup (pv 8) pe_int (fun _ _ => rfl)) pa_nil))) (pg_sub (pv 6) (pv 11) set_list))))) pss_nil)
    (pss_cons (ps_set (i := 12) sc_law.nd rfl (by first | exact Or.inl rfl | exact Or.inr rfl) pe_non)
    (pss_cons (ps_for PassesOwn.never rfl (pi_range1 (by rfl) T.n_range (pa_cons (pv 2) pa_nil)) (pg_name (i := 13) sc_law.nd rfl (by first | exact Or.inl rfl | exact Or.inr rfl)) (pss_one (ps_for PassesOwn.never rfl (pi_range2 (by rfl) T.n_range (pa_cons (pe_op op_add (pv 13) pe_int) (pa_cons (pv 2) pa_nil))) (pg_name (i := 14) sc_law.nd rfl (by first | exact Or.inl rfl | exact Or.inr rfl)) (pss_one (ps_for PassesOwn.never rfl (pi_list (pe_lst (pa_cons pe_str (pa_cons pe_str pa_nil)))) (pg_name (i := 10) sc_law.nd rfl (by first | exact Or.inl rfl | exact Or.inr rfl)) (pss_one (ps_if (PW.pt (pw_and (pt_cmp (pc_isN (pv 12)) rfl) (pw_and1 (pt_val (pe_call (ok_law_fits T) (hr.mono (by decide)) (by rfl) T.m_law_fits T.F_law_fits.kp T.b_law_fits .nil pass0 (pa_cons (pv 6) (pa_cons (pv 13) (pa_cons (pv 14) (pa_cons (pe_callTy (r := rInt1) call_int1 rfl T.n_int (by decide +kernel) (pa_cons (pe_cmpR op_eq (pv 10) pe_str (nomark _)) pa_nil)) pa_nil))))))))) (pss_one (ps_set (i := 12) sc_law.nd rfl (by first | exact Or.inl rfl | exact Or.inr rfl) (pe_tup (pa_cons (pv 13) (pa_cons (pv 14) (pa_cons (pv 10) pa_nil)))))) pss_nil)))))))
    (pss_one (ps_ret (pe_call (ok_law_same T) (hr.mono (by decide)) (by rfl) T.m_law_same T.F_law_same.kp T.b_law_same .nil pass0 (pa_cons (pe_call (ok_band_pattern T) (hr.mono (by decide)) (by rfl) T.m_band_pattern T.F_band_pattern.kp T.b_band_pattern .nil pass0 (pa_cons (pe_callTy (r := rTupOf K) call_tuple_of rfl T.n_tuple (by decide +kernel) (pa_cons (pe_lc (own := [("top", 15), ("bottom", 16)]) (g := gTup K 2 (gCons (gName 15) (gCons (gName 16) gNil))) rfl sc_law.nd (pi_list (pv 6)) (blkOk_by (own := [("top", 15), ("bottom", 16)]) (N := N_law) (sc := defScope s_law) (by decide +kernel)) (fun _ _ _ _ _ => (by exact (pg_tup (by rfl) (pgs_cons (pg_name (i := 15) sc_law.nd rfl (by first | exact Or.inl rfl | exact Or.inr rfl)) (pgs_cons (pg_name (i := 16) sc_law.nd rfl (by first | exact Or.inl rfl | exact Or.inr rfl)) pgs_nil))))) (fun _ _ _ _ _ => pts_nil) (fun _ _ _ _ _ => (pe_make T.mk_Quotient (ok_Quotient_init T) (hr.mono (by decide)) (by rfl) T.mg_Quotient T.b_Quotient_init .nil passL (pa_cons (pv 15) (pa_cons (pv 16) pa_nil))))) pa_nil)) pa_nil)) (pa_cons (pv 12) pa_nil))))))))))))))), ?_⟩)
  walk_at "cl"
  intro ns hns
  refine s_rho (ρ' := [some _, none, none, none, none, none, none, none, none, none, none, none, none, none, none, none, none]) rfl ?_
  repeat walk_at "wk"
  intro l p hne hd
  repeat walk_at "wj"
  intro m n1 m0 m1 m2
  obtain ⟨c, hc, hc1, hc8⟩ : ∃ c : Nat, 1 + m = (c : Int) ∧ 1 ≤ c ∧ c ≤ 8 := ⟨(1 + m).toNat, by omega, by omega, by omega⟩
  refine r_rI0 ?_
  rw [hc]
  repeat walk_at "wj"
  intro inn n2 i0 i1 i2
  repeat walk_at "wj"
  intro ii n3 ii0 ii1 ii2
  repeat walk_at "wj"
  intro jj n4 jj0 jj1 jj2
  repeat walk_at "wj"
  refine e_lstO ?_
  repeat walk_at "wj"
  intro xv
  repeat walk_at "wj"
  have bn01 : ∀ n : Int, 0 ≤ n → n ≤ 1 → bits (n : Rat) 13 := fun n h0 h1 => bits_whole (by omega) (by decide)
  refine s_perm (List.Perm.swap _ _ _) ?_
  refine s_for ?_
  repeat walk_at "wj"
  refine ⟨fun t ρ O => (∃ k7 k8 k9 k10, ρ = [some (scr ns), some (dStream l p), some (.int (c : Int)), some (.int inn), some (.int ii), some (.int jj), some (.loc xv), k7, k8, k9, k10, none, none, none, none, none, none]) ∧ ∃ (n : Int) (qs : List Rat), O = [(p, .lst [.int n]), (xv, .lst (qs.map dP))] ∧ qs.length = t ∧ ∀ q ∈ qs, bits q 13, ⟨⟨_, _, _, _, rfl⟩, n4, [], rfl, rfl, fun q hq => by simp at hq⟩, ?_, ?_⟩
  · rintro t d ρ' O' hdd ⟨⟨k7, k8, k9, k10, rfl⟩, n, qs, rfl, hql, hqb⟩
    obtain ⟨ht, rfl⟩ := rangeD_get hdd
    rw [Int.zero_add]
    refine g_name (s_rho (ρ' := [some (scr ns), some (dStream l p), some (.int (c : Int)), some (.int inn), some (.int ii), some (.int jj), some (.loc xv), some (.int (t : Int)), k8, k9, k10, none, none, none, none, none, none]) rfl ?_)
    repeat walk_at "wj"
    refine ⟨l, p, n, _, rfl, hne, hd, rfl, fun s n' hs => ?_⟩
    have hs1 := hs.2.2.1
    have hs2 := hs.2.2.2
    repeat walk_at "wj"
    refine k_least (n := 12) (by omega) (by omega) (by decide) ?_
    have hrq : bits (Rat.divInt s.1 s.2) 13 := bits_mono (rq_bits hs) (by decide)
    generalize Rat.divInt s.1 s.2 = qd at hrq
    repeat walk_at "wj"
    refine wS.mono (PS := fun o O1 => ∃ q : Rat, o = .nx [some (scr ns), some (dStream l p), some (.int (c : Int)), some (.int inn), some (.int ii), some (.int jj), some (.loc xv), some (.int (t : Int)), some (dRP s), some (dP qd), some (dP q), none, none, none, none, none, none] ∧ O1 = [(p, .lst [.int n']), (xv, .lst (qs.map dP))] ∧ bits q 13) ?_ ?_
    · repeat' (first | walk_at "wk" | with_reducible refine sp_d (fun _ => ?_) (fun _ => ?_) | with_reducible refine sp_nd (fun _ => ?_) (fun _ => ?_) | with_reducible refine pq_t ?_ | with_reducible refine pq_f ?_)
      all_goals first
        | exact ⟨((1 - inn : Int) : Rat), rfl, rfl, bn01 _ (by omega) (by omega)⟩
        | exact ⟨(inn : Rat), rfl, rfl, bn01 _ (by omega) (by omega)⟩
    rintro o O1 ⟨q1, rfl, rfl, hq1⟩
    repeat walk_at "wj"
    refine wS.mono (PS := fun o O1 => ∃ q : Rat, o = .nx [some (scr ns), some (dStream l p), some (.int (c : Int)), some (.int inn), some (.int ii), some (.int jj), some (.loc xv), some (.int (t : Int)), some (dRP s), some (dP qd), some (dP q), none, none, none, none, none, none] ∧ O1 = [(p, .lst [.int n']), (xv, .lst (qs.map dP))] ∧ bits q 13) ?_ ?_
    · repeat walk_at "wk"
      refine r_in2 ?_
      refine sp_d (fun _ => ?_) (fun _ => ?_)
      · repeat walk_at "wk"
        exact ⟨_, rfl, rfl, hrq⟩
      · repeat walk_at "wk"
        exact ⟨_, rfl, rfl, hq1⟩
    rintro o O1 ⟨q2, rfl, rfl, hq2⟩
    repeat walk_at "wj"
    refine e_append ?_
    repeat walk_at "wj"
    refine ⟨xv, _, rfl, List.mem_cons_of_mem _ List.mem_cons_self, ?_⟩
    repeat walk_at "wj"
    refine ⟨_, _, by rw [List.length_map]; omega, .there .here, ?_⟩
    repeat walk_at "wj"
    refine ⟨⟨_, _, _, _, rfl⟩, n', qs ++ [q2], by rw [List.map_append]; rfl, by rw [List.length_append, hql]; rfl, fun q hq => ?_⟩
    rcases List.mem_append.mp hq with h | h
    · exact hqb q h
    · rw [List.mem_singleton.mp h]
      exact hq2
  · rintro ρ' O' ⟨⟨k7, k8, k9, k10, rfl⟩, n, qs, rfl, hql, hqb⟩
    rw [rangeD_len, Int.toNat_natCast] at hql
    refine th_nx ?_
    refine s_seq ?_
    refine wS.mono (PS := fun o O1 => ∃ (k8 k11 : Option D) (n' : Int) (qs : List Rat), o = .nx [some (scr ns), some (dStream l p), some (.int (c : Int)), some (.int inn), some (.int ii), some (.int jj), some (.loc xv), k7, k8, k9, k10, k11, none, none, none, none, none] ∧ O1 = [(p, .lst [.int n']), (xv, .lst (qs.map dP))] ∧ qs.length = c ∧ ∀ q ∈ qs, bits q 13) ?_ ?_
    · repeat walk_at "wk"
      intro u n5 u0 u1 u2
      repeat walk_at "wk"
      refine sp_d (fun _ => ?_) (fun _ => ?_)
      · repeat walk_at "wk"
        intro pl n6 p0 p1 p2
        repeat walk_at "wj"
        refine ⟨l, p, n6, _, rfl, hne, hd, rfl, fun s n' hs => ?_⟩
        have hs1 := hs.2.2.1
        have hs2 := hs.2.2.2
        repeat walk_at "wj"
        refine k_least (n := 12) (by omega) (by omega) (by decide) ?_
        have hrq : bits (Rat.divInt s.1 s.2) 13 := bits_mono (rq_bits hs) (by decide)
        generalize Rat.divInt s.1 s.2 = qd at hrq
        repeat walk_at "wj"
        refine g_setL ?_
        repeat walk_at "wj"
        refine ⟨xv, pl, _, pl.toNat, _, rfl, rfl, ixN_nat p0 (by rw [List.length_map]; omega), .there .here, ?_⟩
        repeat walk_at "wj"
        refine ⟨_, _, n', qs.set pl.toNat qd, rfl, by rw [List.map_set], by rw [List.length_set]; exact hql, fun q hq => ?_⟩
        rcases List.mem_or_eq_of_mem_set hq with h | h
        · exact hqb q h
        · rw [h]; exact hrq
      · repeat walk_at "wk"
        exact ⟨_, _, _, qs, rfl, rfl, hql, hqb⟩
    rintro o O1 ⟨k8, k11, n', qs, rfl, rfl, hql, hqb⟩
    refine th_nx ?_
    refine s_perm (List.Perm.swap _ _ _) ?_
    refine s_sub (ρ' := [some (scr ns), some (dStream l p), some (.int (c : Int)), some (.int inn), some (.int ii), some (.int jj), some (.loc xv), none, none, none, none, none, none, none, none, none, none]) (.same (.same (.same (.same (.same (.same (.same (.drop (.drop (.drop (.drop (.drop (.drop (.drop (.drop (.drop (.drop .nil))))))))))))))))) ?_
    refine s_frz (ρ' := [some (scr ns), some (dStream l p), some (.int (c : Int)), some (.int inn), some (.int ii), some (.int jj), some (.lst (qs.map dP)), none, none, none, none, none, none, none, none, none, none]) .here (by simp [frz, scr, dStream]) ?_
    repeat walk_at "wj"
    refine s_for ?_
    repeat walk_at "wj"
    refine ⟨fun f ρ O => (∃ k10 k13 k14 o, ρ = [some (scr ns), some (dStream l p), some (.int (c : Int)), some (.int inn), some (.int ii), some (.int jj), some (.lst (qs.map dP)), none, none, none, k10, none, some (encB o), k13, k14, none, none] ∧ fstB qs (fun i _ _ => i < f) o) ∧ O = [(p, .lst [.int n'])], ⟨⟨_, _, _, none, rfl, fun i j b h => absurd h (by omega)⟩, rfl⟩, ?_, ?_⟩
    · rintro f d ρ' O' hdd ⟨⟨k10, k13, k14, o, rfl, ho⟩, rfl⟩
      obtain ⟨hf, rfl⟩ := rangeD_get hdd
      rw [Int.zero_add]
      refine g_name (s_rho (ρ' := [some (scr ns), some (dStream l p), some (.int (c : Int)), some (.int inn), some (.int ii), some (.int jj), some (.lst (qs.map dP)), none, none, none, k10, none, some (encB o), some (.int (f : Int)), k14, none, none]) rfl ?_)
      repeat walk_at "wj"
      refine s_for ?_
      repeat walk_at "wj"
      refine ⟨fun s' ρ O => (∃ k10 k14 o, ρ = [some (scr ns), some (dStream l p), some (.int (c : Int)), some (.int inn), some (.int ii), some (.int jj), some (.lst (qs.map dP)), none, none, none, k10, none, some (encB o), some (.int (f : Int)), k14, none, none] ∧ fstB qs (fun i j _ => i < f ∨ (i = f ∧ j < f + 1 + s')) o) ∧ O = [(p, .lst [.int n'])], ⟨⟨_, _, o, rfl, fstB_mono ho fun i j b hf h => ?_⟩, rfl⟩, ?_, ?_⟩
      · have := hf.1
        omega
      · rintro s' d ρ' O' hdd ⟨⟨k10, k14, o, rfl, ho⟩, rfl⟩
        obtain ⟨hs, rfl⟩ := rangeD_get hdd
        obtain ⟨s, hse, hse2⟩ : ∃ s : Nat, (f : Int) + 1 + (s' : Int) = (s : Int) ∧ s = f + 1 + s' := ⟨f + 1 + s', by omega, rfl⟩
        rw [hse]
        have ho0 : fstB qs (befX f s 0) o := fstB_mono ho fun i j b hf h => by
          rcases h with h | ⟨h1, h2 | ⟨h2, h3⟩⟩
          · exact .inl h
          · exact .inr ⟨h1, by omega⟩
          · omega
        refine g_name (s_rho (ρ' := [some (scr ns), some (dStream l p), some (.int (c : Int)), some (.int inn), some (.int ii), some (.int jj), some (.lst (qs.map dP)), none, none, none, k10, none, some (encB o), some (.int (f : Int)), some (.int (s : Int)), none, none]) rfl ?_)
        repeat walk_at "wj"
        refine s_forU ?_
        refine i_list ?_
        refine e_lst ?_
        repeat walk_at "wj"
        change wS K _ [some (scr ns), some (dStream l p), some (.int (c : Int)), some (.int inn), some (.int ii), some (.int jj), some (.lst (qs.map dP)), none, none, none, some (kindD true), none, some (encB o), some (.int (f : Int)), some (.int (s : Int)), none, none] _ _
        have h0 := ho0
        refine wS.mono (PS := fun o O1 => ∃ o', o = .nx [some (scr ns), some (dStream l p), some (.int (c : Int)), some (.int inn), some (.int ii), some (.int jj), some (.lst (qs.map dP)), none, none, none, some (kindD true), none, some (encB o'), some (.int (f : Int)), some (.int (s : Int)), none, none] ∧ O1 = [(p, .lst [.int n'])] ∧ fstB qs (befX f s 1) o') ?_ ?_
        · cases o with
          | some x =>
            repeat walk_at "wk"
            refine e_isN ?_
            repeat walk_at "wk"
            refine isn_tup ?_
            repeat walk_at "wk"
            refine zb_f ?_
            refine tt_f ?_
            repeat walk_at "wk"
            exact ⟨some x, rfl, rfl, ho0⟩
          | none =>
            repeat walk_at "wk"
            refine e_isN ?_
            repeat walk_at "wk"
            refine isn_non ?_
            repeat walk_at "wk"
            refine zb_t ?_
            repeat walk_at "wk"
            refine r_eqS ?_
            repeat walk_at "wk"
            refine ⟨qs.map (fun q : Rat => (q.num, (q.den : Int))), f, s, 1, by rw [List.map_map]; rfl, by rw [List.length_map]; omega, fun r hr => ?_⟩
            have hr' : r = true ↔ fitB qs f s true := hr.trans (fitV_fitR (b := true) (by omega) (by omega))
            have hst := fstB_step (b := true) rfl ho0 hr'
            cases r with
            | true =>
              refine zb_t ?_
              repeat walk_at "wk"
              exact ⟨some ((f, s), true), rfl, rfl, hst⟩
            | false =>
              refine zb_f ?_
              repeat walk_at "wk"
              exact ⟨none, rfl, rfl, hst⟩
        rintro o O1 ⟨o1, rfl, rfl, ho1⟩
        repeat walk_at "wj"
        change wS K _ [some (scr ns), some (dStream l p), some (.int (c : Int)), some (.int inn), some (.int ii), some (.int jj), some (.lst (qs.map dP)), none, none, none, some (kindD false), none, some (encB o1), some (.int (f : Int)), some (.int (s : Int)), none, none] _ _
        refine wS.mono (PS := fun o O1 => ∃ o', o = .nx [some (scr ns), some (dStream l p), some (.int (c : Int)), some (.int inn), some (.int ii), some (.int jj), some (.lst (qs.map dP)), none, none, none, some (kindD false), none, some (encB o'), some (.int (f : Int)), some (.int (s : Int)), none, none] ∧ O1 = [(p, .lst [.int n'])] ∧ fstB qs (befX f s 2) o') ?_ ?_
        · cases o1 with
          | some x =>
            repeat walk_at "wk"
            refine e_isN ?_
            repeat walk_at "wk"
            refine isn_tup ?_
            repeat walk_at "wk"
            refine zb_f ?_
            refine tt_f ?_
            repeat walk_at "wk"
            exact ⟨some x, rfl, rfl, ho1⟩
          | none =>
            repeat walk_at "wk"
            refine e_isN ?_
            repeat walk_at "wk"
            refine isn_non ?_
            repeat walk_at "wk"
            refine zb_t ?_
            repeat walk_at "wk"
            refine r_eqS ?_
            repeat walk_at "wk"
            refine ⟨qs.map (fun q : Rat => (q.num, (q.den : Int))), f, s, 0, by rw [List.map_map]; rfl, by rw [List.length_map]; omega, fun r hr => ?_⟩
            have hr' : r = true ↔ fitB qs f s false := hr.trans (fitV_fitR (b := false) (by omega) (by omega))
            have hst := fstB_step (b := false) rfl ho1 hr'
            cases r with
            | true =>
              refine zb_t ?_
              repeat walk_at "wk"
              exact ⟨some ((f, s), false), rfl, rfl, hst⟩
            | false =>
              refine zb_f ?_
              repeat walk_at "wk"
              exact ⟨none, rfl, rfl, hst⟩
        rintro o O1 ⟨o2, rfl, rfl, ho2⟩
        repeat walk_at "wk"
        refine ⟨⟨_, _, o2, rfl, fstB_mono ho2 fun i j b hf h => ?_⟩, rfl⟩
        unfold befX
        cases b <;> simp <;> omega
      · rintro ρ' O' ⟨⟨k10, k14, o, rfl, ho⟩, rfl⟩
        rw [rangeD_len] at ho
        repeat walk_at "wj"
        refine ⟨⟨_, _, _, o, rfl, fstB_mono ho fun i j b hf h => ?_⟩, rfl⟩
        have := hf.2.1
        omega
    · rintro ρ' O' ⟨⟨k10, k13, k14, o, rfl, ho⟩, rfl⟩
      rw [rangeD_len] at ho
      repeat walk_at "wj"
      refine e_lcX (fun q => dP q) (fun q => dQ L.C_Quotient q) (go_two (by decide) (by decide)) gm_two ?_
      repeat walk_at "wj"
      refine ⟨qs, rfl, by omega, fun q hq => ?_, ?_⟩
      · have hb := hqb q hq
        repeat walk_at "wj"
        exact k_mkP (m := 13) (n := 13) hb (by decide) ⟨rfl, rfl⟩
      repeat walk_at "wj"
      refine ⟨qs, 13, rfl, by omega, by omega, hqb, by decide, by decide, fun r s hr hs => ?_⟩
      rw [fstB_pick hr hs (fstB_mono ho fun i j b hf h => by have := hf.1; have := hf.2.1; omega)]
      repeat walk_at "wj"
      exact ⟨o, rfl, rfl⟩
end
theorem all_mk {Pr : Program} {w : World} {K : PySem.W.Frag} {h : Heap} {mg : Str → Option Value} {fa C_ColorError C_BadQuotient C_Quotient f_Quotient_init f_Quotient_add f_Quotient_sub f_Quotient_mul f_Quotient_neg f_Quotient_eq f_Quotient_lt f_Quotient_le f_whole f_zero f_one f_band_pattern f_pattern_parts f_first_pair f_is_all f_law_cell f_law_draws f_law_stream f_law_next f_law_part f_law_least f_law_is_integer f_law_share f_law_same f_law_fits f_law : Addr} (X : K.In h) (G : h.Ns mainGlobals mg) (hfa : mg "law" = some (.ref fa))
    {oc_Quotient_init kV_Quotient_init dc_Quotient_init pm_Quotient_init cd_Quotient_init ct_Quotient_init oc_Quotient_add kV_Quotient_add dc_Quotient_add pm_Quotient_add cd_Quotient_add ct_Quotient_add oc_Quotient_sub kV_Quotient_sub dc_Quotient_sub pm_Quotient_sub cd_Quotient_sub ct_Quotient_sub oc_Quotient_mul kV_Quotient_mul dc_Quotient_mul pm_Quotient_mul cd_Quotient_mul ct_Quotient_mul oc_Quotient_neg kV_Quotient_neg dc_Quotient_neg pm_Quotient_neg cd_Quotient_neg ct_Quotient_neg oc_Quotient_eq kV_Quotient_eq dc_Quotient_eq pm_Quotient_eq cd_Quotient_eq ct_Quotient_eq oc_Quotient_lt kV_Quotient_lt dc_Quotient_lt pm_Quotient_lt cd_Quotient_lt ct_Quotient_lt oc_Quotient_le kV_Quotient_le dc_Quotient_le pm_Quotient_le cd_Quotient_le ct_Quotient_le oc_whole kV_whole dc_whole pm_whole cd_whole ct_whole oc_zero kV_zero dc_zero pm_zero cd_zero ct_zero oc_one kV_one dc_one pm_one cd_one ct_one oc_band_pattern kV_band_pattern dc_band_pattern pm_band_pattern cd_band_pattern ct_band_pattern oc_pattern_parts kV_pattern_parts dc_pattern_parts pm_pattern_parts cd_pattern_parts ct_pattern_parts oc_first_pair kV_first_pair dc_first_pair pm_first_pair cd_first_pair ct_first_pair oc_is_all kV_is_all dc_is_all pm_is_all cd_is_all ct_is_all oc_law_cell kV_law_cell dc_law_cell pm_law_cell cd_law_cell ct_law_cell oc_law_draws kV_law_draws dc_law_draws pm_law_draws cd_law_draws ct_law_draws oc_law_stream kV_law_stream dc_law_stream pm_law_stream cd_law_stream ct_law_stream oc_law_next kV_law_next dc_law_next pm_law_next cd_law_next ct_law_next oc_law_part kV_law_part dc_law_part pm_law_part cd_law_part ct_law_part oc_law_least kV_law_least dc_law_least pm_law_least cd_law_least ct_law_least oc_law_is_integer kV_law_is_integer dc_law_is_integer pm_law_is_integer cd_law_is_integer ct_law_is_integer oc_law_share kV_law_share dc_law_share pm_law_share cd_law_share ct_law_share oc_law_same kV_law_same dc_law_same pm_law_same cd_law_same ct_law_same oc_law_fits kV_law_fits dc_law_fits pm_law_fits cd_law_fits ct_law_fits oc_law kV_law dc_law pm_law cd_law ct_law : Value} {od_Quotient_init an_Quotient_init od_Quotient_add an_Quotient_add od_Quotient_sub an_Quotient_sub od_Quotient_mul an_Quotient_mul od_Quotient_neg an_Quotient_neg od_Quotient_eq an_Quotient_eq od_Quotient_lt an_Quotient_lt od_Quotient_le an_Quotient_le od_whole an_whole od_zero an_zero od_one an_one od_band_pattern an_band_pattern od_pattern_parts an_pattern_parts od_first_pair an_first_pair od_is_all an_is_all od_law_cell an_law_cell od_law_draws an_law_draws od_law_stream an_law_stream od_law_next an_law_next od_law_part an_law_part od_law_least an_law_least od_law_is_integer an_law_is_integer od_law_share an_law_share od_law_same an_law_same od_law_fits an_law_fits od_law an_law : Option Addr} {sl_Quotient_init sl_Quotient_add sl_Quotient_sub sl_Quotient_mul sl_Quotient_neg sl_Quotient_eq sl_Quotient_lt sl_Quotient_le sl_whole sl_zero sl_one sl_band_pattern sl_pattern_parts sl_first_pair sl_is_all sl_law_cell sl_law_draws sl_law_stream sl_law_next sl_law_part sl_law_least sl_law_is_integer sl_law_share sl_law_same sl_law_fits sl_law : Array (Option Value)} {t_PASS t_STOP : Tok} {t_PIECE_DIGITS t_PIECE : Tok}
    (a_C_ColorError : PySem.W.nsIn K mainGlobals "ColorError" = some (some (.ref C_ColorError)))
    (a_C_BadQuotient : PySem.W.nsIn K mainGlobals "BadQuotient" = some (some (.ref C_BadQuotient)))
    (a_C_Quotient : PySem.W.nsIn K mainGlobals "Quotient" = some (some (.ref C_Quotient)))
    (a_Quotient_init : PySem.W.findIn K (.ref C_Quotient) "__init__" = some (some (.ref f_Quotient_init)))
    (is_Quotient_init : PySem.W.isFn K (.ref f_Quotient_init) = true)
    (l_Quotient_init : K.lookup f_Quotient_init = some ⟨oc_Quotient_init, od_Quotient_init, .func (PySem.W.fnOf "__init__" "Quotient.__init__" (defArgs s_Quotient_init) (defBody s_Quotient_init) (defScope s_Quotient_init) .none kV_Quotient_init dc_Quotient_init pm_Quotient_init an_Quotient_init cd_Quotient_init ct_Quotient_init), sl_Quotient_init⟩)
    (cd2_Quotient_init : PySem.W.codeIn K cd_Quotient_init "Quotient.__init__" = true)
    (kp_Quotient_init : PySem.W.keepIn K (.ref f_Quotient_init) = true)
    (a_Quotient_add : PySem.W.findIn K (.ref C_Quotient) "__add__" = some (some (.ref f_Quotient_add)))
    (is_Quotient_add : PySem.W.isFn K (.ref f_Quotient_add) = true)
    (l_Quotient_add : K.lookup f_Quotient_add = some ⟨oc_Quotient_add, od_Quotient_add, .func (PySem.W.fnOf "__add__" "Quotient.__add__" (defArgs s_Quotient_add) (defBody s_Quotient_add) (defScope s_Quotient_add) .none kV_Quotient_add dc_Quotient_add pm_Quotient_add an_Quotient_add cd_Quotient_add ct_Quotient_add), sl_Quotient_add⟩)
    (cd2_Quotient_add : PySem.W.codeIn K cd_Quotient_add "Quotient.__add__" = true)
    (kp_Quotient_add : PySem.W.keepIn K (.ref f_Quotient_add) = true)
    (a_Quotient_sub : PySem.W.findIn K (.ref C_Quotient) "__sub__" = some (some (.ref f_Quotient_sub)))
    (is_Quotient_sub : PySem.W.isFn K (.ref f_Quotient_sub) = true)
    (l_Quotient_sub : K.lookup f_Quotient_sub = some ⟨oc_Quotient_sub, od_Quotient_sub, .func (PySem.W.fnOf "__sub__" "Quotient.__sub__" (defArgs s_Quotient_sub) (defBody s_Quotient_sub) (defScope s_Quotient_sub) .none kV_Quotient_sub dc_Quotient_sub pm_Quotient_sub an_Quotient_sub cd_Quotient_sub ct_Quotient_sub), sl_Quotient_sub⟩)
    (cd2_Quotient_sub : PySem.W.codeIn K cd_Quotient_sub "Quotient.__sub__" = true)
    (kp_Quotient_sub : PySem.W.keepIn K (.ref f_Quotient_sub) = true)
    (a_Quotient_mul : PySem.W.findIn K (.ref C_Quotient) "__mul__" = some (some (.ref f_Quotient_mul)))
    (is_Quotient_mul : PySem.W.isFn K (.ref f_Quotient_mul) = true)
    (l_Quotient_mul : K.lookup f_Quotient_mul = some ⟨oc_Quotient_mul, od_Quotient_mul, .func (PySem.W.fnOf "__mul__" "Quotient.__mul__" (defArgs s_Quotient_mul) (defBody s_Quotient_mul) (defScope s_Quotient_mul) .none kV_Quotient_mul dc_Quotient_mul pm_Quotient_mul an_Quotient_mul cd_Quotient_mul ct_Quotient_mul), sl_Quotient_mul⟩)
    (cd2_Quotient_mul : PySem.W.codeIn K cd_Quotient_mul "Quotient.__mul__" = true)
    (kp_Quotient_mul : PySem.W.keepIn K (.ref f_Quotient_mul) = true)
    (a_Quotient_neg : PySem.W.findIn K (.ref C_Quotient) "__neg__" = some (some (.ref f_Quotient_neg)))
    (is_Quotient_neg : PySem.W.isFn K (.ref f_Quotient_neg) = true)
    (l_Quotient_neg : K.lookup f_Quotient_neg = some ⟨oc_Quotient_neg, od_Quotient_neg, .func (PySem.W.fnOf "__neg__" "Quotient.__neg__" (defArgs s_Quotient_neg) (defBody s_Quotient_neg) (defScope s_Quotient_neg) .none kV_Quotient_neg dc_Quotient_neg pm_Quotient_neg an_Quotient_neg cd_Quotient_neg ct_Quotient_neg), sl_Quotient_neg⟩)
    (cd2_Quotient_neg : PySem.W.codeIn K cd_Quotient_neg "Quotient.__neg__" = true)
    (kp_Quotient_neg : PySem.W.keepIn K (.ref f_Quotient_neg) = true)
    (a_Quotient_eq : PySem.W.findIn K (.ref C_Quotient) "__eq__" = some (some (.ref f_Quotient_eq)))
    (is_Quotient_eq : PySem.W.isFn K (.ref f_Quotient_eq) = true)
    (l_Quotient_eq : K.lookup f_Quotient_eq = some ⟨oc_Quotient_eq, od_Quotient_eq, .func (PySem.W.fnOf "__eq__" "Quotient.__eq__" (defArgs s_Quotient_eq) (defBody s_Quotient_eq) (defScope s_Quotient_eq) .none kV_Quotient_eq dc_Quotient_eq pm_Quotient_eq an_Quotient_eq cd_Quotient_eq ct_Quotient_eq), sl_Quotient_eq⟩)
    (cd2_Quotient_eq : PySem.W.codeIn K cd_Quotient_eq "Quotient.__eq__" = true)
    (kp_Quotient_eq : PySem.W.keepIn K (.ref f_Quotient_eq) = true)
    (a_Quotient_lt : PySem.W.findIn K (.ref C_Quotient) "__lt__" = some (some (.ref f_Quotient_lt)))
    (is_Quotient_lt : PySem.W.isFn K (.ref f_Quotient_lt) = true)
    (l_Quotient_lt : K.lookup f_Quotient_lt = some ⟨oc_Quotient_lt, od_Quotient_lt, .func (PySem.W.fnOf "__lt__" "Quotient.__lt__" (defArgs s_Quotient_lt) (defBody s_Quotient_lt) (defScope s_Quotient_lt) .none kV_Quotient_lt dc_Quotient_lt pm_Quotient_lt an_Quotient_lt cd_Quotient_lt ct_Quotient_lt), sl_Quotient_lt⟩)
    (cd2_Quotient_lt : PySem.W.codeIn K cd_Quotient_lt "Quotient.__lt__" = true)
    (kp_Quotient_lt : PySem.W.keepIn K (.ref f_Quotient_lt) = true)
    (a_Quotient_le : PySem.W.findIn K (.ref C_Quotient) "__le__" = some (some (.ref f_Quotient_le)))
    (is_Quotient_le : PySem.W.isFn K (.ref f_Quotient_le) = true)
    (l_Quotient_le : K.lookup f_Quotient_le = some ⟨oc_Quotient_le, od_Quotient_le, .func (PySem.W.fnOf "__le__" "Quotient.__le__" (defArgs s_Quotient_le) (defBody s_Quotient_le) (defScope s_Quotient_le) .none kV_Quotient_le dc_Quotient_le pm_Quotient_le an_Quotient_le cd_Quotient_le ct_Quotient_le), sl_Quotient_le⟩)
    (cd2_Quotient_le : PySem.W.codeIn K cd_Quotient_le "Quotient.__le__" = true)
    (kp_Quotient_le : PySem.W.keepIn K (.ref f_Quotient_le) = true)
    (a_whole : PySem.W.nsIn K mainGlobals "whole" = some (some (.ref f_whole)))
    (l_whole : K.lookup f_whole = some ⟨oc_whole, od_whole, .func (PySem.W.fnOf "whole" "whole" (defArgs s_whole) (defBody s_whole) (defScope s_whole) .none kV_whole dc_whole pm_whole an_whole cd_whole ct_whole), sl_whole⟩)
    (cd2_whole : PySem.W.codeIn K cd_whole "whole" = true)
    (kp_whole : PySem.W.keepIn K (.ref f_whole) = true)
    (a_zero : PySem.W.nsIn K mainGlobals "zero" = some (some (.ref f_zero)))
    (l_zero : K.lookup f_zero = some ⟨oc_zero, od_zero, .func (PySem.W.fnOf "zero" "zero" (defArgs s_zero) (defBody s_zero) (defScope s_zero) .none kV_zero dc_zero pm_zero an_zero cd_zero ct_zero), sl_zero⟩)
    (cd2_zero : PySem.W.codeIn K cd_zero "zero" = true)
    (kp_zero : PySem.W.keepIn K (.ref f_zero) = true)
    (a_one : PySem.W.nsIn K mainGlobals "one" = some (some (.ref f_one)))
    (l_one : K.lookup f_one = some ⟨oc_one, od_one, .func (PySem.W.fnOf "one" "one" (defArgs s_one) (defBody s_one) (defScope s_one) .none kV_one dc_one pm_one an_one cd_one ct_one), sl_one⟩)
    (cd2_one : PySem.W.codeIn K cd_one "one" = true)
    (kp_one : PySem.W.keepIn K (.ref f_one) = true)
    (a_band_pattern : PySem.W.nsIn K mainGlobals "band_pattern" = some (some (.ref f_band_pattern)))
    (l_band_pattern : K.lookup f_band_pattern = some ⟨oc_band_pattern, od_band_pattern, .func (PySem.W.fnOf "band_pattern" "band_pattern" (defArgs s_band_pattern) (defBody s_band_pattern) (defScope s_band_pattern) .none kV_band_pattern dc_band_pattern pm_band_pattern an_band_pattern cd_band_pattern ct_band_pattern), sl_band_pattern⟩)
    (cd2_band_pattern : PySem.W.codeIn K cd_band_pattern "band_pattern" = true)
    (kp_band_pattern : PySem.W.keepIn K (.ref f_band_pattern) = true)
    (a_pattern_parts : PySem.W.nsIn K mainGlobals "pattern_parts" = some (some (.ref f_pattern_parts)))
    (l_pattern_parts : K.lookup f_pattern_parts = some ⟨oc_pattern_parts, od_pattern_parts, .func (PySem.W.fnOf "pattern_parts" "pattern_parts" (defArgs s_pattern_parts) (defBody s_pattern_parts) (defScope s_pattern_parts) .none kV_pattern_parts dc_pattern_parts pm_pattern_parts an_pattern_parts cd_pattern_parts ct_pattern_parts), sl_pattern_parts⟩)
    (cd2_pattern_parts : PySem.W.codeIn K cd_pattern_parts "pattern_parts" = true)
    (kp_pattern_parts : PySem.W.keepIn K (.ref f_pattern_parts) = true)
    (a_first_pair : PySem.W.nsIn K mainGlobals "_first_pair" = some (some (.ref f_first_pair)))
    (l_first_pair : K.lookup f_first_pair = some ⟨oc_first_pair, od_first_pair, .func (PySem.W.fnOf "_first_pair" "_first_pair" (defArgs s_first_pair) (defBody s_first_pair) (defScope s_first_pair) .none kV_first_pair dc_first_pair pm_first_pair an_first_pair cd_first_pair ct_first_pair), sl_first_pair⟩)
    (cd2_first_pair : PySem.W.codeIn K cd_first_pair "_first_pair" = true)
    (kp_first_pair : PySem.W.keepIn K (.ref f_first_pair) = true)
    (a_is_all : PySem.W.nsIn K mainGlobals "_is_all" = some (some (.ref f_is_all)))
    (l_is_all : K.lookup f_is_all = some ⟨oc_is_all, od_is_all, .func (PySem.W.fnOf "_is_all" "_is_all" (defArgs s_is_all) (defBody s_is_all) (defScope s_is_all) .none kV_is_all dc_is_all pm_is_all an_is_all cd_is_all ct_is_all), sl_is_all⟩)
    (cd2_is_all : PySem.W.codeIn K cd_is_all "_is_all" = true)
    (kp_is_all : PySem.W.keepIn K (.ref f_is_all) = true)
    (a_law_cell : PySem.W.nsIn K mainGlobals "_law_cell" = some (some (.ref f_law_cell)))
    (l_law_cell : K.lookup f_law_cell = some ⟨oc_law_cell, od_law_cell, .func (PySem.W.fnOf "_law_cell" "_law_cell" (defArgs s_law_cell) (defBody s_law_cell) (defScope s_law_cell) .none kV_law_cell dc_law_cell pm_law_cell an_law_cell cd_law_cell ct_law_cell), sl_law_cell⟩)
    (cd2_law_cell : PySem.W.codeIn K cd_law_cell "_law_cell" = true)
    (kp_law_cell : PySem.W.keepIn K (.ref f_law_cell) = true)
    (a_law_draws : PySem.W.nsIn K mainGlobals "_law_draws" = some (some (.ref f_law_draws)))
    (l_law_draws : K.lookup f_law_draws = some ⟨oc_law_draws, od_law_draws, .func (PySem.W.fnOf "_law_draws" "_law_draws" (defArgs s_law_draws) (defBody s_law_draws) (defScope s_law_draws) .none kV_law_draws dc_law_draws pm_law_draws an_law_draws cd_law_draws ct_law_draws), sl_law_draws⟩)
    (cd2_law_draws : PySem.W.codeIn K cd_law_draws "_law_draws" = true)
    (kp_law_draws : PySem.W.keepIn K (.ref f_law_draws) = true)
    (a_law_stream : PySem.W.nsIn K mainGlobals "_law_stream" = some (some (.ref f_law_stream)))
    (l_law_stream : K.lookup f_law_stream = some ⟨oc_law_stream, od_law_stream, .func (PySem.W.fnOf "_law_stream" "_law_stream" (defArgs s_law_stream) (defBody s_law_stream) (defScope s_law_stream) .none kV_law_stream dc_law_stream pm_law_stream an_law_stream cd_law_stream ct_law_stream), sl_law_stream⟩)
    (cd2_law_stream : PySem.W.codeIn K cd_law_stream "_law_stream" = true)
    (kp_law_stream : PySem.W.keepIn K (.ref f_law_stream) = true)
    (a_law_next : PySem.W.nsIn K mainGlobals "_law_next" = some (some (.ref f_law_next)))
    (l_law_next : K.lookup f_law_next = some ⟨oc_law_next, od_law_next, .func (PySem.W.fnOf "_law_next" "_law_next" (defArgs s_law_next) (defBody s_law_next) (defScope s_law_next) .none kV_law_next dc_law_next pm_law_next an_law_next cd_law_next ct_law_next), sl_law_next⟩)
    (cd2_law_next : PySem.W.codeIn K cd_law_next "_law_next" = true)
    (kp_law_next : PySem.W.keepIn K (.ref f_law_next) = true)
    (a_law_part : PySem.W.nsIn K mainGlobals "_law_part" = some (some (.ref f_law_part)))
    (l_law_part : K.lookup f_law_part = some ⟨oc_law_part, od_law_part, .func (PySem.W.fnOf "_law_part" "_law_part" (defArgs s_law_part) (defBody s_law_part) (defScope s_law_part) .none kV_law_part dc_law_part pm_law_part an_law_part cd_law_part ct_law_part), sl_law_part⟩)
    (cd2_law_part : PySem.W.codeIn K cd_law_part "_law_part" = true)
    (kp_law_part : PySem.W.keepIn K (.ref f_law_part) = true)
    (a_law_least : PySem.W.nsIn K mainGlobals "_law_least" = some (some (.ref f_law_least)))
    (l_law_least : K.lookup f_law_least = some ⟨oc_law_least, od_law_least, .func (PySem.W.fnOf "_law_least" "_law_least" (defArgs s_law_least) (defBody s_law_least) (defScope s_law_least) .none kV_law_least dc_law_least pm_law_least an_law_least cd_law_least ct_law_least), sl_law_least⟩)
    (cd2_law_least : PySem.W.codeIn K cd_law_least "_law_least" = true)
    (kp_law_least : PySem.W.keepIn K (.ref f_law_least) = true)
    (a_law_is_integer : PySem.W.nsIn K mainGlobals "_law_is_integer" = some (some (.ref f_law_is_integer)))
    (l_law_is_integer : K.lookup f_law_is_integer = some ⟨oc_law_is_integer, od_law_is_integer, .func (PySem.W.fnOf "_law_is_integer" "_law_is_integer" (defArgs s_law_is_integer) (defBody s_law_is_integer) (defScope s_law_is_integer) .none kV_law_is_integer dc_law_is_integer pm_law_is_integer an_law_is_integer cd_law_is_integer ct_law_is_integer), sl_law_is_integer⟩)
    (cd2_law_is_integer : PySem.W.codeIn K cd_law_is_integer "_law_is_integer" = true)
    (kp_law_is_integer : PySem.W.keepIn K (.ref f_law_is_integer) = true)
    (a_law_share : PySem.W.nsIn K mainGlobals "_law_share" = some (some (.ref f_law_share)))
    (l_law_share : K.lookup f_law_share = some ⟨oc_law_share, od_law_share, .func (PySem.W.fnOf "_law_share" "_law_share" (defArgs s_law_share) (defBody s_law_share) (defScope s_law_share) .none kV_law_share dc_law_share pm_law_share an_law_share cd_law_share ct_law_share), sl_law_share⟩)
    (cd2_law_share : PySem.W.codeIn K cd_law_share "_law_share" = true)
    (kp_law_share : PySem.W.keepIn K (.ref f_law_share) = true)
    (a_law_same : PySem.W.nsIn K mainGlobals "_law_same" = some (some (.ref f_law_same)))
    (l_law_same : K.lookup f_law_same = some ⟨oc_law_same, od_law_same, .func (PySem.W.fnOf "_law_same" "_law_same" (defArgs s_law_same) (defBody s_law_same) (defScope s_law_same) .none kV_law_same dc_law_same pm_law_same an_law_same cd_law_same ct_law_same), sl_law_same⟩)
    (cd2_law_same : PySem.W.codeIn K cd_law_same "_law_same" = true)
    (kp_law_same : PySem.W.keepIn K (.ref f_law_same) = true)
    (a_law_fits : PySem.W.nsIn K mainGlobals "_law_fits" = some (some (.ref f_law_fits)))
    (l_law_fits : K.lookup f_law_fits = some ⟨oc_law_fits, od_law_fits, .func (PySem.W.fnOf "_law_fits" "_law_fits" (defArgs s_law_fits) (defBody s_law_fits) (defScope s_law_fits) .none kV_law_fits dc_law_fits pm_law_fits an_law_fits cd_law_fits ct_law_fits), sl_law_fits⟩)
    (cd2_law_fits : PySem.W.codeIn K cd_law_fits "_law_fits" = true)
    (kp_law_fits : PySem.W.keepIn K (.ref f_law_fits) = true)
    (a_law : PySem.W.nsIn K mainGlobals "law" = some (some (.ref f_law)))
    (l_law : K.lookup f_law = some ⟨oc_law, od_law, .func (PySem.W.fnOf "law" "law" (defArgs s_law) (defBody s_law) (defScope s_law) .none kV_law dc_law pm_law an_law cd_law ct_law), sl_law⟩)
    (cd2_law : PySem.W.codeIn K cd_law "law" = true)
    (kp_law : PySem.W.keepIn K (.ref f_law) = true)
    (pg_Quotient : PySem.W.plainGet K C_Quotient Str.empty = true)
    (hd_Quotient : PySem.W.hasDictIn K C_Quotient = true)
    (po_Quotient : PySem.W.plainOver K C_Quotient = true)
    (sa_Quotient : PySem.W.findIn K (.ref C_Quotient) "__setattr__" = some (some (.builtin "object.__setattr__")))
    (mi_Quotient : PySem.W.makesIn K C_Quotient = true)
    (kc_Quotient : PySem.W.keepIn K (.ref C_Quotient) = true)
    (ha_Quotient : PySem.W.findIn K (.ref C_Quotient) "__class__" = some (some (.builtin "object.__class__")))
    (hn_Quotient : PySem.W.specialIn K (.builtin "object.__class__") "__get__" = some (some (.builtin "getset_descriptor.__get__")))
    (ht_Quotient : PySem.W.takesIn K (.builtin "object.__class__") = some true)
    (hm_Quotient : PySem.W.mroIn K C_Quotient (.type "object") = some true)
    (sf_Quotient : PySem.W.selfFirst K C_Quotient = true)
    (na_Quotient_top : PySem.W.findIn K (.ref C_Quotient) "top" = some none)
    (na_Quotient_bottom : PySem.W.findIn K (.ref C_Quotient) "bottom" = some none)
    (kit_Quotient_Quotient : PySem.W.kitOne K (.ref C_Quotient) (.ref C_Quotient) = some true)
    (kit_bool_bool : PySem.W.kitOne K (.type "bool") (.type "bool") = some true)
    (kit_int_int : PySem.W.kitOne K (.type "int") (.type "int") = some true)
    (kit_int_bool : PySem.W.kitOne K (.type "int") (.type "bool") = some false)
    (kit_tuple_tuple : PySem.W.kitOne K (.type "tuple") (.type "tuple") = some true)
    (kit_tuple_bool : PySem.W.kitOne K (.type "tuple") (.type "bool") = some false)
    (kit_tuple_int : PySem.W.kitOne K (.type "tuple") (.type "int") = some false)
    (kit_tuple_str : PySem.W.kitOne K (.type "tuple") (.type "str") = some false)
    (kit_tuple_list : PySem.W.kitOne K (.type "tuple") (.type "list") = some false)
    (kit_str_bool : PySem.W.kitOne K (.type "str") (.type "bool") = some false)
    (kit_str_int : PySem.W.kitOne K (.type "str") (.type "int") = some false)
    (kit_str_str : PySem.W.kitOne K (.type "str") (.type "str") = some true)
    (x_BadQuotient : PySem.W.excIn K C_BadQuotient [.type "ValueError", .type "Exception", .type "BaseException", .type "object"] "ValueError.__new__" = true)
    (kc_BadQuotient : PySem.W.keepIn K (.ref C_BadQuotient) = true)
    (xb_BadQuotient : PySem.W.subIn K (.ref C_BadQuotient) (.type "BaseException") = some true)
    (xd_BadQuotient : PySem.W.hasDictIn K C_BadQuotient = true)
    (xt_BadQuotient : PySem.W.typeIn K (.ref C_BadQuotient) = some (.type "type"))
    (xi_BadQuotient : PySem.W.isClsIn K C_BadQuotient = true)
    (xs_BadQuotient : PySem.W.subIn K (.ref C_BadQuotient) (.ref C_BadQuotient) = some true)
    (ne_Quotient : neIn K C_Quotient f_Quotient_eq = true)
    (c_PASS : PySem.W.nsIn K mainGlobals "PASS" = some (some (.str "pass" t_PASS)))
    (c_STOP : PySem.W.nsIn K mainGlobals "STOP" = some (some (.str "stop" t_STOP)))
    (n_abs : PySem.W.nsIn K mainGlobals "abs" = some none)
    (n_bool : PySem.W.nsIn K mainGlobals "bool" = some none)
    (n_divmod : PySem.W.nsIn K mainGlobals "divmod" = some none)
    (n_int : PySem.W.nsIn K mainGlobals "int" = some none)
    (n_isinstance : PySem.W.nsIn K mainGlobals "isinstance" = some none)
    (n_len : PySem.W.nsIn K mainGlobals "len" = some none)
    (n_list : PySem.W.nsIn K mainGlobals "list" = some none)
    (n_range : PySem.W.nsIn K mainGlobals "range" = some none)
    (n_str : PySem.W.nsIn K mainGlobals "str" = some none)
    (n_tuple : PySem.W.nsIn K mainGlobals "tuple" = some none)
    (n_ValueError : PySem.W.nsIn K mainGlobals "ValueError" = some none)
    (i_gcd : PySem.W.nsIn K mainGlobals "gcd" = some (some (.builtin "math.gcd")))
    (c_PIECE_DIGITS : PySem.W.nsIn K mainGlobals "PIECE_DIGITS" = some (some (.int 18 t_PIECE_DIGITS)))
    (c_PIECE : PySem.W.nsIn K mainGlobals "PIECE" = some (some (.int 1000000000000000000 t_PIECE))) :
    ∃ fd : FuncData, (∀ (s : Shared) (v : Value), BindsTo s fd ⟨[v], []⟩ [("script", v)]) ∧ ∀ base : Heap, K.In base → base.Ns mainGlobals mg → FnOk Pr w K mg base CX0 8 fa fd ["script"] (spLaw K) := by
  have e : f_law = fa := by
    have e0 := hfa.symm.trans (PySem.W.mg_of X G a_law)
    cases e0
    rfl
  subst e
  have F_Quotient_init := fun_mk (st := s_Quotient_init) l_Quotient_init cd2_Quotient_init kp_Quotient_init
  have b_Quotient_init := F_Quotient_init.binds (ps := ["self", "top", "bottom"]) fun _ _ _ _ _ _ us hl => match us, hl with | [_, _, _], _ => rfl
  have F_Quotient_add := fun_mk (st := s_Quotient_add) l_Quotient_add cd2_Quotient_add kp_Quotient_add
  have b_Quotient_add := F_Quotient_add.binds (ps := ["self", "other"]) fun _ _ _ _ _ _ us hl => match us, hl with | [_, _], _ => rfl
  have F_Quotient_sub := fun_mk (st := s_Quotient_sub) l_Quotient_sub cd2_Quotient_sub kp_Quotient_sub
  have b_Quotient_sub := F_Quotient_sub.binds (ps := ["self", "other"]) fun _ _ _ _ _ _ us hl => match us, hl with | [_, _], _ => rfl
  have F_Quotient_mul := fun_mk (st := s_Quotient_mul) l_Quotient_mul cd2_Quotient_mul kp_Quotient_mul
  have b_Quotient_mul := F_Quotient_mul.binds (ps := ["self", "other"]) fun _ _ _ _ _ _ us hl => match us, hl with | [_, _], _ => rfl
  have F_Quotient_neg := fun_mk (st := s_Quotient_neg) l_Quotient_neg cd2_Quotient_neg kp_Quotient_neg
  have b_Quotient_neg := F_Quotient_neg.binds (ps := ["self"]) fun _ _ _ _ _ _ us hl => match us, hl with | [_], _ => rfl
  have F_Quotient_eq := fun_mk (st := s_Quotient_eq) l_Quotient_eq cd2_Quotient_eq kp_Quotient_eq
  have b_Quotient_eq := F_Quotient_eq.binds (ps := ["self", "other"]) fun _ _ _ _ _ _ us hl => match us, hl with | [_, _], _ => rfl
  have F_Quotient_lt := fun_mk (st := s_Quotient_lt) l_Quotient_lt cd2_Quotient_lt kp_Quotient_lt
  have b_Quotient_lt := F_Quotient_lt.binds (ps := ["self", "other"]) fun _ _ _ _ _ _ us hl => match us, hl with | [_, _], _ => rfl
  have F_Quotient_le := fun_mk (st := s_Quotient_le) l_Quotient_le cd2_Quotient_le kp_Quotient_le
  have b_Quotient_le := F_Quotient_le.binds (ps := ["self", "other"]) fun _ _ _ _ _ _ us hl => match us, hl with | [_, _], _ => rfl
  have F_whole := fun_mk (st := s_whole) l_whole cd2_whole kp_whole
  have b_whole := F_whole.binds (ps := ["number"]) fun _ _ _ _ _ _ us hl => match us, hl with | [_], _ => rfl
  have F_zero := fun_mk (st := s_zero) l_zero cd2_zero kp_zero
  have b_zero := F_zero.binds (ps := []) fun _ _ _ _ _ _ us hl => match us, hl with | [], _ => rfl
  have F_one := fun_mk (st := s_one) l_one cd2_one kp_one
  have b_one := F_one.binds (ps := []) fun _ _ _ _ _ _ us hl => match us, hl with | [], _ => rfl
  have F_band_pattern := fun_mk (st := s_band_pattern) l_band_pattern cd2_band_pattern kp_band_pattern
  have b_band_pattern := F_band_pattern.binds (ps := ["reflectance"]) fun _ _ _ _ _ _ us hl => match us, hl with | [_], _ => rfl
  have F_pattern_parts := fun_mk (st := s_pattern_parts) l_pattern_parts cd2_pattern_parts kp_pattern_parts
  have b_pattern_parts := F_pattern_parts.binds (ps := ["kind"]) fun _ _ _ _ _ _ us hl => match us, hl with | [_], _ => rfl
  have F_first_pair := fun_mk (st := s_first_pair) l_first_pair cd2_first_pair kp_first_pair
  have b_first_pair := F_first_pair.binds (ps := ["reflectance", "kind"]) fun _ _ _ _ _ _ us hl => match us, hl with | [_, _], _ => rfl
  have F_is_all := fun_mk (st := s_is_all) l_is_all cd2_is_all kp_is_all
  have b_is_all := F_is_all.binds (ps := ["reflectance", "start", "end", "wanted"]) fun _ _ _ _ _ _ us hl => match us, hl with | [_, _, _, _], _ => rfl
  have F_law_cell := fun_mk (st := s_law_cell) l_law_cell cd2_law_cell kp_law_cell
  have b_law_cell := F_law_cell.binds (ps := ["script", "k"]) fun _ _ _ _ _ _ us hl => match us, hl with | [_, _], _ => rfl
  have F_law_draws := fun_mk (st := s_law_draws) l_law_draws cd2_law_draws kp_law_draws
  have b_law_draws := F_law_draws.binds (ps := ["cell", "count"]) fun _ _ _ _ _ _ us hl => match us, hl with | [_, _], _ => rfl
  have F_law_stream := fun_mk (st := s_law_stream) l_law_stream cd2_law_stream kp_law_stream
  have b_law_stream := F_law_stream.binds (ps := ["script", "first", "count"]) fun _ _ _ _ _ _ us hl => match us, hl with | [_, _, _], _ => rfl
  have F_law_next := fun_mk (st := s_law_next) l_law_next cd2_law_next kp_law_next
  have b_law_next := F_law_next.binds (ps := ["stream", "many"]) fun _ _ _ _ _ _ us hl => match us, hl with | [_, _], _ => rfl
  have F_law_part := fun_mk (st := s_law_part) l_law_part cd2_law_part kp_law_part
  have b_law_part := F_law_part.binds (ps := ["first", "second"]) fun _ _ _ _ _ _ us hl => match us, hl with | [_, _], _ => rfl
  have F_law_least := fun_mk (st := s_law_least) l_law_least cd2_law_least kp_law_least
  have b_law_least := F_law_least.binds (ps := ["top", "bottom"]) fun _ _ _ _ _ _ us hl => match us, hl with | [_, _], _ => rfl
  have F_law_is_integer := fun_mk (st := s_law_is_integer) l_law_is_integer cd2_law_is_integer kp_law_is_integer
  have b_law_is_integer := F_law_is_integer.binds (ps := ["actual"]) fun _ _ _ _ _ _ us hl => match us, hl with | [_], _ => rfl
  have F_law_share := fun_mk (st := s_law_share) l_law_share cd2_law_share kp_law_share
  have b_law_share := F_law_share.binds (ps := ["stream"]) fun _ _ _ _ _ _ us hl => match us, hl with | [_], _ => rfl
  have F_law_same := fun_mk (st := s_law_same) l_law_same cd2_law_same kp_law_same
  have b_law_same := F_law_same.binds (ps := ["actual", "expected"]) fun _ _ _ _ _ _ us hl => match us, hl with | [_, _], _ => rfl
  have F_law_fits := fun_mk (st := s_law_fits) l_law_fits cd2_law_fits kp_law_fits
  have b_law_fits := F_law_fits.binds (ps := ["values", "i", "j", "inner"]) fun _ _ _ _ _ _ us hl => match us, hl with | [_, _, _, _], _ => rfl
  have F_law := fun_mk (st := s_law) l_law cd2_law kp_law
  have b_law := F_law.binds (ps := ["script"]) fun _ _ _ _ _ _ us hl => match us, hl with | [_], _ => rfl
  have T : Txt K mg {
      C_ColorError := C_ColorError,
      C_BadQuotient := C_BadQuotient,
      C_Quotient := C_Quotient,
      f_Quotient_init := f_Quotient_init,
      d_Quotient_init := PySem.W.fnOf "__init__" "Quotient.__init__" (defArgs s_Quotient_init) (defBody s_Quotient_init) (defScope s_Quotient_init) .none kV_Quotient_init dc_Quotient_init pm_Quotient_init an_Quotient_init cd_Quotient_init ct_Quotient_init,
      f_Quotient_add := f_Quotient_add,
      d_Quotient_add := PySem.W.fnOf "__add__" "Quotient.__add__" (defArgs s_Quotient_add) (defBody s_Quotient_add) (defScope s_Quotient_add) .none kV_Quotient_add dc_Quotient_add pm_Quotient_add an_Quotient_add cd_Quotient_add ct_Quotient_add,
      f_Quotient_sub := f_Quotient_sub,
      d_Quotient_sub := PySem.W.fnOf "__sub__" "Quotient.__sub__" (defArgs s_Quotient_sub) (defBody s_Quotient_sub) (defScope s_Quotient_sub) .none kV_Quotient_sub dc_Quotient_sub pm_Quotient_sub an_Quotient_sub cd_Quotient_sub ct_Quotient_sub,
      f_Quotient_mul := f_Quotient_mul,
      d_Quotient_mul := PySem.W.fnOf "__mul__" "Quotient.__mul__" (defArgs s_Quotient_mul) (defBody s_Quotient_mul) (defScope s_Quotient_mul) .none kV_Quotient_mul dc_Quotient_mul pm_Quotient_mul an_Quotient_mul cd_Quotient_mul ct_Quotient_mul,
      f_Quotient_neg := f_Quotient_neg,
      d_Quotient_neg := PySem.W.fnOf "__neg__" "Quotient.__neg__" (defArgs s_Quotient_neg) (defBody s_Quotient_neg) (defScope s_Quotient_neg) .none kV_Quotient_neg dc_Quotient_neg pm_Quotient_neg an_Quotient_neg cd_Quotient_neg ct_Quotient_neg,
      f_Quotient_eq := f_Quotient_eq,
      d_Quotient_eq := PySem.W.fnOf "__eq__" "Quotient.__eq__" (defArgs s_Quotient_eq) (defBody s_Quotient_eq) (defScope s_Quotient_eq) .none kV_Quotient_eq dc_Quotient_eq pm_Quotient_eq an_Quotient_eq cd_Quotient_eq ct_Quotient_eq,
      f_Quotient_lt := f_Quotient_lt,
      d_Quotient_lt := PySem.W.fnOf "__lt__" "Quotient.__lt__" (defArgs s_Quotient_lt) (defBody s_Quotient_lt) (defScope s_Quotient_lt) .none kV_Quotient_lt dc_Quotient_lt pm_Quotient_lt an_Quotient_lt cd_Quotient_lt ct_Quotient_lt,
      f_Quotient_le := f_Quotient_le,
      d_Quotient_le := PySem.W.fnOf "__le__" "Quotient.__le__" (defArgs s_Quotient_le) (defBody s_Quotient_le) (defScope s_Quotient_le) .none kV_Quotient_le dc_Quotient_le pm_Quotient_le an_Quotient_le cd_Quotient_le ct_Quotient_le,
      f_whole := f_whole,
      d_whole := PySem.W.fnOf "whole" "whole" (defArgs s_whole) (defBody s_whole) (defScope s_whole) .none kV_whole dc_whole pm_whole an_whole cd_whole ct_whole,
      f_zero := f_zero,
      d_zero := PySem.W.fnOf "zero" "zero" (defArgs s_zero) (defBody s_zero) (defScope s_zero) .none kV_zero dc_zero pm_zero an_zero cd_zero ct_zero,
      f_one := f_one,
      d_one := PySem.W.fnOf "one" "one" (defArgs s_one) (defBody s_one) (defScope s_one) .none kV_one dc_one pm_one an_one cd_one ct_one,
      f_band_pattern := f_band_pattern,
      d_band_pattern := PySem.W.fnOf "band_pattern" "band_pattern" (defArgs s_band_pattern) (defBody s_band_pattern) (defScope s_band_pattern) .none kV_band_pattern dc_band_pattern pm_band_pattern an_band_pattern cd_band_pattern ct_band_pattern,
      f_pattern_parts := f_pattern_parts,
      d_pattern_parts := PySem.W.fnOf "pattern_parts" "pattern_parts" (defArgs s_pattern_parts) (defBody s_pattern_parts) (defScope s_pattern_parts) .none kV_pattern_parts dc_pattern_parts pm_pattern_parts an_pattern_parts cd_pattern_parts ct_pattern_parts,
      f_first_pair := f_first_pair,
      d_first_pair := PySem.W.fnOf "_first_pair" "_first_pair" (defArgs s_first_pair) (defBody s_first_pair) (defScope s_first_pair) .none kV_first_pair dc_first_pair pm_first_pair an_first_pair cd_first_pair ct_first_pair,
      f_is_all := f_is_all,
      d_is_all := PySem.W.fnOf "_is_all" "_is_all" (defArgs s_is_all) (defBody s_is_all) (defScope s_is_all) .none kV_is_all dc_is_all pm_is_all an_is_all cd_is_all ct_is_all,
      f_law_cell := f_law_cell,
      d_law_cell := PySem.W.fnOf "_law_cell" "_law_cell" (defArgs s_law_cell) (defBody s_law_cell) (defScope s_law_cell) .none kV_law_cell dc_law_cell pm_law_cell an_law_cell cd_law_cell ct_law_cell,
      f_law_draws := f_law_draws,
      d_law_draws := PySem.W.fnOf "_law_draws" "_law_draws" (defArgs s_law_draws) (defBody s_law_draws) (defScope s_law_draws) .none kV_law_draws dc_law_draws pm_law_draws an_law_draws cd_law_draws ct_law_draws,
      f_law_stream := f_law_stream,
      d_law_stream := PySem.W.fnOf "_law_stream" "_law_stream" (defArgs s_law_stream) (defBody s_law_stream) (defScope s_law_stream) .none kV_law_stream dc_law_stream pm_law_stream an_law_stream cd_law_stream ct_law_stream,
      f_law_next := f_law_next,
      d_law_next := PySem.W.fnOf "_law_next" "_law_next" (defArgs s_law_next) (defBody s_law_next) (defScope s_law_next) .none kV_law_next dc_law_next pm_law_next an_law_next cd_law_next ct_law_next,
      f_law_part := f_law_part,
      d_law_part := PySem.W.fnOf "_law_part" "_law_part" (defArgs s_law_part) (defBody s_law_part) (defScope s_law_part) .none kV_law_part dc_law_part pm_law_part an_law_part cd_law_part ct_law_part,
      f_law_least := f_law_least,
      d_law_least := PySem.W.fnOf "_law_least" "_law_least" (defArgs s_law_least) (defBody s_law_least) (defScope s_law_least) .none kV_law_least dc_law_least pm_law_least an_law_least cd_law_least ct_law_least,
      f_law_is_integer := f_law_is_integer,
      d_law_is_integer := PySem.W.fnOf "_law_is_integer" "_law_is_integer" (defArgs s_law_is_integer) (defBody s_law_is_integer) (defScope s_law_is_integer) .none kV_law_is_integer dc_law_is_integer pm_law_is_integer an_law_is_integer cd_law_is_integer ct_law_is_integer,
      f_law_share := f_law_share,
      d_law_share := PySem.W.fnOf "_law_share" "_law_share" (defArgs s_law_share) (defBody s_law_share) (defScope s_law_share) .none kV_law_share dc_law_share pm_law_share an_law_share cd_law_share ct_law_share,
      f_law_same := f_law_same,
      d_law_same := PySem.W.fnOf "_law_same" "_law_same" (defArgs s_law_same) (defBody s_law_same) (defScope s_law_same) .none kV_law_same dc_law_same pm_law_same an_law_same cd_law_same ct_law_same,
      f_law_fits := f_law_fits,
      d_law_fits := PySem.W.fnOf "_law_fits" "_law_fits" (defArgs s_law_fits) (defBody s_law_fits) (defScope s_law_fits) .none kV_law_fits dc_law_fits pm_law_fits an_law_fits cd_law_fits ct_law_fits,
      f_law := f_law,
      d_law := PySem.W.fnOf "law" "law" (defArgs s_law) (defBody s_law) (defScope s_law) .none kV_law dc_law pm_law an_law cd_law ct_law } := {
      F_Quotient_init := F_Quotient_init,
      b_Quotient_init := b_Quotient_init,
      fi_Quotient_init := a_Quotient_init,
      fn_Quotient_init := is_Quotient_init,
      me_Quotient_init := ⟨a_Quotient_init, is_Quotient_init, kp_Quotient_init⟩,
      F_Quotient_add := F_Quotient_add,
      b_Quotient_add := b_Quotient_add,
      fi_Quotient_add := a_Quotient_add,
      fn_Quotient_add := is_Quotient_add,
      me_Quotient_add := ⟨a_Quotient_add, is_Quotient_add, kp_Quotient_add⟩,
      F_Quotient_sub := F_Quotient_sub,
      b_Quotient_sub := b_Quotient_sub,
      fi_Quotient_sub := a_Quotient_sub,
      fn_Quotient_sub := is_Quotient_sub,
      me_Quotient_sub := ⟨a_Quotient_sub, is_Quotient_sub, kp_Quotient_sub⟩,
      F_Quotient_mul := F_Quotient_mul,
      b_Quotient_mul := b_Quotient_mul,
      fi_Quotient_mul := a_Quotient_mul,
      fn_Quotient_mul := is_Quotient_mul,
      me_Quotient_mul := ⟨a_Quotient_mul, is_Quotient_mul, kp_Quotient_mul⟩,
      F_Quotient_neg := F_Quotient_neg,
      b_Quotient_neg := b_Quotient_neg,
      fi_Quotient_neg := a_Quotient_neg,
      fn_Quotient_neg := is_Quotient_neg,
      me_Quotient_neg := ⟨a_Quotient_neg, is_Quotient_neg, kp_Quotient_neg⟩,
      F_Quotient_eq := F_Quotient_eq,
      b_Quotient_eq := b_Quotient_eq,
      fi_Quotient_eq := a_Quotient_eq,
      fn_Quotient_eq := is_Quotient_eq,
      me_Quotient_eq := ⟨a_Quotient_eq, is_Quotient_eq, kp_Quotient_eq⟩,
      F_Quotient_lt := F_Quotient_lt,
      b_Quotient_lt := b_Quotient_lt,
      fi_Quotient_lt := a_Quotient_lt,
      fn_Quotient_lt := is_Quotient_lt,
      me_Quotient_lt := ⟨a_Quotient_lt, is_Quotient_lt, kp_Quotient_lt⟩,
      F_Quotient_le := F_Quotient_le,
      b_Quotient_le := b_Quotient_le,
      fi_Quotient_le := a_Quotient_le,
      fn_Quotient_le := is_Quotient_le,
      me_Quotient_le := ⟨a_Quotient_le, is_Quotient_le, kp_Quotient_le⟩,
      F_whole := F_whole,
      b_whole := b_whole,
      m_whole := PySem.W.mg_of X G a_whole,
      F_zero := F_zero,
      b_zero := b_zero,
      m_zero := PySem.W.mg_of X G a_zero,
      F_one := F_one,
      b_one := b_one,
      m_one := PySem.W.mg_of X G a_one,
      F_band_pattern := F_band_pattern,
      b_band_pattern := b_band_pattern,
      m_band_pattern := PySem.W.mg_of X G a_band_pattern,
      F_pattern_parts := F_pattern_parts,
      b_pattern_parts := b_pattern_parts,
      m_pattern_parts := PySem.W.mg_of X G a_pattern_parts,
      F_first_pair := F_first_pair,
      b_first_pair := b_first_pair,
      m_first_pair := PySem.W.mg_of X G a_first_pair,
      F_is_all := F_is_all,
      b_is_all := b_is_all,
      m_is_all := PySem.W.mg_of X G a_is_all,
      F_law_cell := F_law_cell,
      b_law_cell := b_law_cell,
      m_law_cell := PySem.W.mg_of X G a_law_cell,
      F_law_draws := F_law_draws,
      b_law_draws := b_law_draws,
      m_law_draws := PySem.W.mg_of X G a_law_draws,
      F_law_stream := F_law_stream,
      b_law_stream := b_law_stream,
      m_law_stream := PySem.W.mg_of X G a_law_stream,
      F_law_next := F_law_next,
      b_law_next := b_law_next,
      m_law_next := PySem.W.mg_of X G a_law_next,
      F_law_part := F_law_part,
      b_law_part := b_law_part,
      m_law_part := PySem.W.mg_of X G a_law_part,
      F_law_least := F_law_least,
      b_law_least := b_law_least,
      m_law_least := PySem.W.mg_of X G a_law_least,
      F_law_is_integer := F_law_is_integer,
      b_law_is_integer := b_law_is_integer,
      m_law_is_integer := PySem.W.mg_of X G a_law_is_integer,
      F_law_share := F_law_share,
      b_law_share := b_law_share,
      m_law_share := PySem.W.mg_of X G a_law_share,
      F_law_same := F_law_same,
      b_law_same := b_law_same,
      m_law_same := PySem.W.mg_of X G a_law_same,
      F_law_fits := F_law_fits,
      b_law_fits := b_law_fits,
      m_law_fits := PySem.W.mg_of X G a_law_fits,
      F_law := F_law,
      b_law := b_law,
      m_law := PySem.W.mg_of X G a_law,
      mg_ColorError := PySem.W.mg_of X G a_C_ColorError,
      mg_BadQuotient := PySem.W.mg_of X G a_C_BadQuotient,
      mg_Quotient := PySem.W.mg_of X G a_C_Quotient,
      k_Quotient := ⟨⟨pg_Quotient, hd_Quotient, po_Quotient, sa_Quotient⟩, ha_Quotient, hn_Quotient, ht_Quotient, hm_Quotient⟩,
      sf_Quotient := sf_Quotient,
      mk_Quotient := ⟨mi_Quotient, a_Quotient_init, is_Quotient_init, kc_Quotient⟩,
      na_Quotient_top := na_Quotient_top,
      na_Quotient_bottom := na_Quotient_bottom,
      kit_Quotient_Quotient := kit_Quotient_Quotient,
      kit_bool_bool := kit_bool_bool,
      kit_int_int := kit_int_int,
      kit_int_bool := kit_int_bool,
      kit_tuple_tuple := kit_tuple_tuple,
      kit_tuple_bool := kit_tuple_bool,
      kit_tuple_int := kit_tuple_int,
      kit_tuple_str := kit_tuple_str,
      kit_tuple_list := kit_tuple_list,
      kit_str_bool := kit_str_bool,
      kit_str_int := kit_str_int,
      kit_str_str := kit_str_str,
      x_BadQuotient := x_BadQuotient,
      kc_BadQuotient := kc_BadQuotient,
      xb_BadQuotient := xb_BadQuotient,
      xd_BadQuotient := xd_BadQuotient,
      xt_BadQuotient := xt_BadQuotient,
      xi_BadQuotient := xi_BadQuotient,
      xs_BadQuotient := xs_BadQuotient,
      ne_Quotient := neCls_of ne_Quotient,
      c_PASS := ⟨_, PySem.W.mg_of X G c_PASS, _, rfl⟩,
      c_STOP := ⟨_, PySem.W.mg_of X G c_STOP, _, rfl⟩,
      n_abs := PySem.W.mg_none_of X G n_abs,
      n_bool := PySem.W.mg_none_of X G n_bool,
      n_divmod := PySem.W.mg_none_of X G n_divmod,
      n_int := PySem.W.mg_none_of X G n_int,
      n_isinstance := PySem.W.mg_none_of X G n_isinstance,
      n_len := PySem.W.mg_none_of X G n_len,
      n_list := PySem.W.mg_none_of X G n_list,
      n_range := PySem.W.mg_none_of X G n_range,
      n_str := PySem.W.mg_none_of X G n_str,
      n_tuple := PySem.W.mg_none_of X G n_tuple,
      n_ValueError := PySem.W.mg_none_of X G n_ValueError,
      i_gcd := PySem.W.mg_of X G i_gcd,
      c_PIECE_DIGITS := ⟨_, PySem.W.mg_of X G c_PIECE_DIGITS, _, rfl⟩,
      c_PIECE := ⟨_, PySem.W.mg_of X G c_PIECE, _, rfl⟩ }
  exact ⟨_, fun s v => .of_eq rfl, fun base _ _ => ok_law T⟩
theorem walk {l : PySem.W.OpenLaw} {qq : Program} {loose : List Str} {XP : (Str → Option Value) → Heap → Prop} {YP : World → Heap → Prop} {d : DefRec} {K : Params → PySem.W.Frag} (hn : l.most = some 63) (hdf : d.params.defaults = [])
    (hY : ∀ (w : World) (h : Heap), YP w h → (K w.params).In h)
    (F : ∀ (w : World) (mg : Str → Option Value) (fa : Addr) (h : Heap), (K w.params).In h → h.Ns mainGlobals mg → mg d.name = some (.ref fa) →
      ∃ fd : FuncData, (∀ (s : Shared) (u : Value), BindsTo s fd ⟨[u], []⟩ [("script", u)]) ∧ ∀ base : Heap, (K w.params).In base → base.Ns mainGlobals mg → FnOk l.prog w (K w.params) mg base CX0 8 fa fd ["script"] (spLaw (K w.params))) :
    PySem.W.WalkO qq loose XP YP l.row.toRowW d [] (fun f vs => PySem.call f vs) :=
  L2.walk_of (n := 63) (k := 8) (x := "script") (CX := fun _ => CX0) (sp := fun w => spLaw (K w.params)) hn (by decide) hdf ⟨rfl, by decide, by decide⟩ hY F (fun _ _ a ns hl _ hS => ⟨a, ns, rfl, hS, hl, fun _ => rfl⟩) fun _ _ _ _ _ z => z
end My
open PySem PySem.W PyProof.Rows
set_option maxRecDepth 100000 in
set_option maxHeartbeats 0 in
theorem PySem.Challenge.cw_colormatch_k13_band_patterns_holds : PySem.Challenge.rw_colormatch_k13_band_patterns.Holds := by
  w_on; o_law; k_head; (case hw => w_witness2)
  k_fill
  refine My.walk (l := PySem.Challenge.rw_colormatch_k13_band_patterns) rfl rfl (fun w h Y => PySem.W.kIn_of Y) ?F
  case F =>
    intro w mg fa h KX G hmg
    refine' My.all_mk KX G hmg ?a_C_ColorError ?a_C_BadQuotient ?a_C_Quotient ?a_Quotient_init ?is_Quotient_init ?l_Quotient_init ?cd2_Quotient_init ?kp_Quotient_init ?a_Quotient_add ?is_Quotient_add ?l_Quotient_add ?cd2_Quotient_add ?kp_Quotient_add ?a_Quotient_sub ?is_Quotient_sub ?l_Quotient_sub ?cd2_Quotient_sub ?kp_Quotient_sub ?a_Quotient_mul ?is_Quotient_mul ?l_Quotient_mul ?cd2_Quotient_mul ?kp_Quotient_mul ?a_Quotient_neg ?is_Quotient_neg ?l_Quotient_neg ?cd2_Quotient_neg ?kp_Quotient_neg ?a_Quotient_eq ?is_Quotient_eq ?l_Quotient_eq ?cd2_Quotient_eq ?kp_Quotient_eq ?a_Quotient_lt ?is_Quotient_lt ?l_Quotient_lt ?cd2_Quotient_lt ?kp_Quotient_lt ?a_Quotient_le ?is_Quotient_le ?l_Quotient_le ?cd2_Quotient_le ?kp_Quotient_le ?a_whole ?l_whole ?cd2_whole ?kp_whole ?a_zero ?l_zero ?cd2_zero ?kp_zero ?a_one ?l_one ?cd2_one ?kp_one ?a_band_pattern ?l_band_pattern ?cd2_band_pattern ?kp_band_pattern ?a_pattern_parts ?l_pattern_parts ?cd2_pattern_parts ?kp_pattern_parts ?a_first_pair ?l_first_pair ?cd2_first_pair ?kp_first_pair ?a_is_all ?l_is_all ?cd2_is_all ?kp_is_all ?a_law_cell ?l_law_cell ?cd2_law_cell ?kp_law_cell ?a_law_draws ?l_law_draws ?cd2_law_draws ?kp_law_draws ?a_law_stream ?l_law_stream ?cd2_law_stream ?kp_law_stream ?a_law_next ?l_law_next ?cd2_law_next ?kp_law_next ?a_law_part ?l_law_part ?cd2_law_part ?kp_law_part ?a_law_least ?l_law_least ?cd2_law_least ?kp_law_least ?a_law_is_integer ?l_law_is_integer ?cd2_law_is_integer ?kp_law_is_integer ?a_law_share ?l_law_share ?cd2_law_share ?kp_law_share ?a_law_same ?l_law_same ?cd2_law_same ?kp_law_same ?a_law_fits ?l_law_fits ?cd2_law_fits ?kp_law_fits ?a_law ?l_law ?cd2_law ?kp_law ?pg_Quotient ?hd_Quotient ?po_Quotient ?sa_Quotient ?mi_Quotient ?kc_Quotient ?ha_Quotient ?hn_Quotient ?ht_Quotient ?hm_Quotient ?sf_Quotient ?na_Quotient_top ?na_Quotient_bottom ?kit_Quotient_Quotient ?kit_bool_bool ?kit_int_int ?kit_int_bool ?kit_tuple_tuple ?kit_tuple_bool ?kit_tuple_int ?kit_tuple_str ?kit_tuple_list ?kit_str_bool ?kit_str_int ?kit_str_str ?x_BadQuotient ?kc_BadQuotient ?xb_BadQuotient ?xd_BadQuotient ?xt_BadQuotient ?xi_BadQuotient ?xs_BadQuotient ?ne_Quotient ?c_PASS ?c_STOP ?n_abs ?n_bool ?n_divmod ?n_int ?n_isinstance ?n_len ?n_list ?n_range ?n_str ?n_tuple ?n_ValueError ?i_gcd ?c_PIECE_DIGITS ?c_PIECE
    (case a_C_ColorError => k_is)
    (case a_C_BadQuotient => k_is)
    (case a_C_Quotient => k_is)
    (case a_Quotient_init => k_is)
    (case is_Quotient_init => k_is)
    (case l_Quotient_init => k_is)
    (case cd2_Quotient_init => k_is)
    (case kp_Quotient_init => k_is)
    (case a_Quotient_add => k_is)
    (case is_Quotient_add => k_is)
    (case l_Quotient_add => k_is)
    (case cd2_Quotient_add => k_is)
    (case kp_Quotient_add => k_is)
    (case a_Quotient_sub => k_is)
    (case is_Quotient_sub => k_is)
    (case l_Quotient_sub => k_is)
    (case cd2_Quotient_sub => k_is)
    (case kp_Quotient_sub => k_is)
    (case a_Quotient_mul => k_is)
    (case is_Quotient_mul => k_is)
    (case l_Quotient_mul => k_is)
    (case cd2_Quotient_mul => k_is)
    (case kp_Quotient_mul => k_is)
    (case a_Quotient_neg => k_is)
    (case is_Quotient_neg => k_is)
    (case l_Quotient_neg => k_is)
    (case cd2_Quotient_neg => k_is)
    (case kp_Quotient_neg => k_is)
    (case a_Quotient_eq => k_is)
    (case is_Quotient_eq => k_is)
    (case l_Quotient_eq => k_is)
    (case cd2_Quotient_eq => k_is)
    (case kp_Quotient_eq => k_is)
    (case a_Quotient_lt => k_is)
    (case is_Quotient_lt => k_is)
    (case l_Quotient_lt => k_is)
    (case cd2_Quotient_lt => k_is)
    (case kp_Quotient_lt => k_is)
    (case a_Quotient_le => k_is)
    (case is_Quotient_le => k_is)
    (case l_Quotient_le => k_is)
    (case cd2_Quotient_le => k_is)
    (case kp_Quotient_le => k_is)
    (case a_whole => k_is)
    (case l_whole => k_is)
    (case cd2_whole => k_is)
    (case kp_whole => k_is)
    (case a_zero => k_is)
    (case l_zero => k_is)
    (case cd2_zero => k_is)
    (case kp_zero => k_is)
    (case a_one => k_is)
    (case l_one => k_is)
    (case cd2_one => k_is)
    (case kp_one => k_is)
    (case a_band_pattern => k_is)
    (case l_band_pattern => k_is)
    (case cd2_band_pattern => k_is)
    (case kp_band_pattern => k_is)
    (case a_pattern_parts => k_is)
    (case l_pattern_parts => k_is)
    (case cd2_pattern_parts => k_is)
    (case kp_pattern_parts => k_is)
    (case a_first_pair => k_is)
    (case l_first_pair => k_is)
    (case cd2_first_pair => k_is)
    (case kp_first_pair => k_is)
    (case a_is_all => k_is)
    (case l_is_all => k_is)
    (case cd2_is_all => k_is)
    (case kp_is_all => k_is)
    (case a_law_cell => k_is)
    (case l_law_cell => k_is)
    (case cd2_law_cell => k_is)
    (case kp_law_cell => k_is)
    (case a_law_draws => k_is)
    (case l_law_draws => k_is)
    (case cd2_law_draws => k_is)
    (case kp_law_draws => k_is)
    (case a_law_stream => k_is)
    (case l_law_stream => k_is)
    (case cd2_law_stream => k_is)
    (case kp_law_stream => k_is)
    (case a_law_next => k_is)
    (case l_law_next => k_is)
    (case cd2_law_next => k_is)
    (case kp_law_next => k_is)
    (case a_law_part => k_is)
    (case l_law_part => k_is)
    (case cd2_law_part => k_is)
    (case kp_law_part => k_is)
    (case a_law_least => k_is)
    (case l_law_least => k_is)
    (case cd2_law_least => k_is)
    (case kp_law_least => k_is)
    (case a_law_is_integer => k_is)
    (case l_law_is_integer => k_is)
    (case cd2_law_is_integer => k_is)
    (case kp_law_is_integer => k_is)
    (case a_law_share => k_is)
    (case l_law_share => k_is)
    (case cd2_law_share => k_is)
    (case kp_law_share => k_is)
    (case a_law_same => k_is)
    (case l_law_same => k_is)
    (case cd2_law_same => k_is)
    (case kp_law_same => k_is)
    (case a_law_fits => k_is)
    (case l_law_fits => k_is)
    (case cd2_law_fits => k_is)
    (case kp_law_fits => k_is)
    (case a_law => k_is)
    (case l_law => k_is)
    (case cd2_law => k_is)
    (case kp_law => k_is)
    (case pg_Quotient => k_is)
    (case hd_Quotient => k_is)
    (case po_Quotient => k_is)
    (case sa_Quotient => k_is)
    (case mi_Quotient => k_is)
    (case kc_Quotient => k_is)
    (case ha_Quotient => k_is)
    (case hn_Quotient => k_is)
    (case ht_Quotient => k_is)
    (case hm_Quotient => k_is)
    (case sf_Quotient => k_is)
    (case na_Quotient_top => k_is)
    (case na_Quotient_bottom => k_is)
    (case kit_Quotient_Quotient => first | rfl | k_is)
    (case kit_bool_bool => first | rfl | k_is)
    (case kit_int_int => first | rfl | k_is)
    (case kit_int_bool => first | rfl | k_is)
    (case kit_tuple_tuple => first | rfl | k_is)
    (case kit_tuple_bool => first | rfl | k_is)
    (case kit_tuple_int => first | rfl | k_is)
    (case kit_tuple_str => first | rfl | k_is)
    (case kit_tuple_list => first | rfl | k_is)
    (case kit_str_bool => first | rfl | k_is)
    (case kit_str_int => first | rfl | k_is)
    (case kit_str_str => first | rfl | k_is)
    (case x_BadQuotient => k_exc)
    (case kc_BadQuotient => k_is)
    (case xb_BadQuotient => k_is)
    (case xd_BadQuotient => k_is)
    (case xt_BadQuotient => k_is)
    (case xi_BadQuotient => k_is)
    (case xs_BadQuotient => first | rfl | k_is)
    (case ne_Quotient => first | rfl | k_is)
    (case c_PASS => k_is)
    (case c_STOP => k_is)
    (case n_abs => k_is)
    (case n_bool => k_is)
    (case n_divmod => k_is)
    (case n_int => k_is)
    (case n_isinstance => k_is)
    (case n_len => k_is)
    (case n_list => k_is)
    (case n_range => k_is)
    (case n_str => k_is)
    (case n_tuple => k_is)
    (case n_ValueError => k_is)
    (case i_gcd => k_is)
    (case c_PIECE_DIGITS => k_is)
    (case c_PIECE => k_is)

