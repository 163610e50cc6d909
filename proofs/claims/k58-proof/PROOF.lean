import PyProof.Rows.All
import Wide.All
import OpenK.AllK
import Wide.FinOn
import HandS.ForMost
import HandS.Evl
import HandS.Gcd
import HandS.Wide
import HandS.FStr
import HandS.IsInst
import HandS.Zip
import HandS.Codes
import HandS.OwnEq
import HandS.TryOnly
import HandS.TryMany
import HandS.ExcOwn
import HandS.WordsExc
import HandS.ExcIs
import HandS.TupAny
import HandS.TupMul
import HandS.Style
import HandS.Iter
import KE.GoesMore
import PyProof.EnumMake
import OpenK.KCls
import OpenK.KMake
import PyProof.FactsLen
import HandS.Strs
import HandS.TupLe
import HandS.Conv
import HandS.Comp
import PySem.Challenge.RW_colormatch_k58_judge_of_lamps
set_option Elab.async false
set_option linter.all false
set_option maxRecDepth 100000
set_option maxHeartbeats 4000000
section
open PySem PySem.W PyProof.Rows
set_option maxRecDepth 100000 in
set_option maxHeartbeats 0 in
theorem LawSaid0 (X : PySem.Challenge.rw_colormatch_k58_judge_of_lamps.row.Holds) : PySem.Challenge.rw_colormatch_k58_judge_of_lamps.Holds := by
  w_on; o_law; exact X
end
/-! My own layer: a program over data trees, without the heap. -/
namespace G
open PySem L2
/-! ### data -/
inductive D where
  | raw (v : V) | tup (ds : List D) | lst (ds : List D) | fz (ds : List D) | ins (C : Addr) (fs : List (Str × D)) | dct
abbrev D.int (i : Int) : D := .raw (.int i)
abbrev D.bl (b : Bool) : D := .raw (.bl b)
abbrev D.str (z : Str) : D := .raw (.str z)
abbrev D.non : D := .raw .non
abbrev D.loc (a : Addr) : D := .raw (.ref a)
abbrev Ex := Evl.Ex
mutual
inductive Rep (K : PySem.W.Frag) (B : Hp) : V → D → Prop where
  | raw (v : V) : Rep K B v (.raw v)
  | tup {a : Addr} {xs : List V} {ds : List D} (h : SqT K B a xs) (r : Reps K B xs ds) : Rep K B (.ref a) (.tup ds)
  | lst {a : Addr} {xs : List V} {ds : List D} (h : B a = some (.lst xs)) (r : Reps K B xs ds) : Rep K B (.ref a) (.lst ds)
  | fz {a : Addr} {xs : List V} {ds : List D} (h : SqL K B a xs) (r : Reps K B xs ds) : Rep K B (.ref a) (.fz ds)
  | ins {a C dx : Addr} {fs : List (Str × V)} {gs : List (Str × D)} (h : B a = some (.ins C dx fs)) (r : RepF K B fs gs) : Rep K B (.ref a) (.ins C gs)
  | dct {a : Addr} {kvs : List (Key × V)} (h : B a = some (.dK kvs)) : Rep K B (.ref a) .dct
inductive Reps (K : PySem.W.Frag) (B : Hp) : List V → List D → Prop where
  | nil : Reps K B [] []
  | cons {v : V} {d : D} {vs : List V} {ds : List D} (h : Rep K B v d) (r : Reps K B vs ds) : Reps K B (v :: vs) (d :: ds)
inductive RepF (K : PySem.W.Frag) (B : Hp) : List (Str × V) → List (Str × D) → Prop where
  | nil : RepF K B [] []
  | cons {f : Str} {v : V} {d : D} {vs : List (Str × V)} {ds : List (Str × D)} (h : Rep K B v d) (r : RepF K B vs ds) : RepF K B ((f, v) :: vs) ((f, d) :: ds)
end
section
variable {K : PySem.W.Frag} {B B2 H H2 : Hp}
mutual
theorem Rep.mono (e : Ex B B2) : ∀ {v : V} {d : D}, Rep K B v d → Rep K B2 v d
  | _, _, .raw v => .raw v
  | _, _, .tup h r => .tup (Evl.ex_t e h) (Reps.mono e r)
  | _, _, .lst h r => .lst (e _ _ h) (Reps.mono e r)
  | _, _, .fz h r => .fz (Evl.ex_l e h) (Reps.mono e r)
  | _, _, .ins h r => .ins (e _ _ h) (RepF.mono e r)
  | _, _, .dct h => .dct (e _ _ h)
theorem Reps.mono (e : Ex B B2) : ∀ {vs : List V} {ds : List D}, Reps K B vs ds → Reps K B2 vs ds
  | _, _, .nil => .nil
  | _, _, .cons h r => .cons (Rep.mono e h) (Reps.mono e r)
theorem RepF.mono (e : Ex B B2) : ∀ {vs : List (Str × V)} {ds : List (Str × D)}, RepF K B vs ds → RepF K B2 vs ds
  | _, _, .nil => .nil
  | _, _, .cons h r => .cons (Rep.mono e h) (RepF.mono e r)
end
theorem Reps.length : ∀ {vs : List V} {ds : List D}, Reps K B vs ds → vs.length = ds.length
  | _, _, .nil => rfl
  | _, _, .cons _ r => by rw [List.length_cons, List.length_cons, Reps.length r]
theorem Reps.get : ∀ {vs : List V} {ds : List D} {i : Nat} {d : D}, Reps K B vs ds → ds[i]? = some d → ∃ v, vs[i]? = some v ∧ Rep K B v d
  | _, _, _, _, .nil, h => by simp at h
  | _, _, 0, _, .cons h _, e => ⟨_, rfl, by simp at e; subst e; exact h⟩
  | _, _, i + 1, _, .cons _ r, e => by
    obtain ⟨v, h1, h2⟩ := Reps.get (i := i) r (by simpa using e)
    exact ⟨v, by simpa using h1, h2⟩
theorem Reps.get' : ∀ {vs : List V} {ds : List D} {i : Nat} {v : V}, Reps K B vs ds → vs[i]? = some v → ∃ d, ds[i]? = some d ∧ Rep K B v d
  | _, _, _, _, .nil, h => by simp at h
  | _, _, 0, _, .cons h _, e => ⟨_, rfl, by simp at e; subst e; exact h⟩
  | _, _, i + 1, _, .cons _ r, e => by
    obtain ⟨v, h1, h2⟩ := Reps.get' (i := i) r (by simpa using e)
    exact ⟨v, by simpa using h1, h2⟩
theorem Reps.append : ∀ {vs ws : List V} {ds es : List D}, Reps K B vs ds → Reps K B ws es → Reps K B (vs ++ ws) (ds ++ es)
  | _, _, _, _, .nil, s => s
  | _, _, _, _, .cons h r, s => .cons h (Reps.append r s)
theorem Reps.set : ∀ {vs : List V} {ds : List D} {v : V} {d : D} (i : Nat), Reps K B vs ds → Rep K B v d → Reps K B (vs.set i v) (ds.set i d)
  | _, _, _, _, _, .nil, _ => .nil
  | _, _, _, _, 0, .cons _ r, h => .cons h r
  | _, _, _, _, i + 1, .cons g r, h => .cons g (Reps.set i r h)
theorem Reps.take : ∀ {vs : List V} {ds : List D} (n : Nat), Reps K B vs ds → Reps K B (vs.take n) (ds.take n)
  | _, _, 0, _ => by simp; exact .nil
  | _, _, n + 1, .nil => .nil
  | _, _, n + 1, .cons h r => .cons h (Reps.take n r)
theorem Reps.drop : ∀ {vs : List V} {ds : List D} (n : Nat), Reps K B vs ds → Reps K B (vs.drop n) (ds.drop n)
  | _, _, 0, r => r
  | _, _, n + 1, .nil => .nil
  | _, _, n + 1, .cons h r => Reps.drop n r
theorem Reps.raws : ∀ (vs : List V), Reps K B vs (vs.map D.raw)
  | [] => .nil
  | v :: vs => .cons (.raw v) (Reps.raws vs)
/-- data that are plain are the values -/
theorem Reps.unraw : ∀ {ws vs : List V}, Reps K B ws (vs.map D.raw) → ws = vs
  | _, [], .nil => rfl
  | _, v :: vs, .cons h r => by
    cases h
    rw [Reps.unraw r]
theorem RepF.length : ∀ {vs : List (Str × V)} {ds : List (Str × D)}, RepF K B vs ds → vs.length = ds.length
  | _, _, .nil => rfl
  | _, _, .cons _ r => by rw [List.length_cons, List.length_cons, RepF.length r]
theorem RepF.look : ∀ {vs : List (Str × V)} {ds : List (Str × D)} {f : Str} {d : D}, RepF K B vs ds → ds.lookup f = some d → ∃ v, vs.lookup f = some v ∧ Rep K B v d
  | _, _, _, _, .nil, h => by simp at h
  | _, _, f, d, .cons (f := g) h r, e => by
    rw [List.lookup_cons] at e ⊢
    cases q : (f == g) with
    | true =>
      rw [q] at e
      simp at e
      subst e
      exact ⟨_, rfl, h⟩
    | false =>
      rw [q] at e
      exact RepF.look r (by simpa using e)
theorem RepF.look0 : ∀ {vs : List (Str × V)} {ds : List (Str × D)} {f : Str}, RepF K B vs ds → ds.lookup f = none → vs.lookup f = none
  | _, _, _, .nil, _ => rfl
  | _, _, f, .cons (f := g) h r, e => by
    rw [List.lookup_cons] at e ⊢
    cases q : (f == g) with
    | true => rw [q] at e; simp at e
    | false =>
      rw [q] at e
      exact RepF.look0 r (by simpa using e)
/-- a field put -/
def putD (f : Str) (d : D) : List (Str × D) → List (Str × D)
  | [] => [(f, d)]
  | (g, x) :: r => if g = f then (g, d) :: r else (g, x) :: putD f d r
theorem RepF.put : ∀ {vs : List (Str × V)} {ds : List (Str × D)} {f : Str} {v : V} {d : D}, RepF K B vs ds → Rep K B v d → RepF K B (putF f v vs) (putD f d ds)
  | _, _, _, _, _, .nil, h => .cons h .nil
  | _, _, f, v, d, .cons (f := g) (v := x) (vs := vs) (ds := ds) q r, h => by
    show RepF K B (if g = f then (g, v) :: vs else (g, x) :: putF f v vs) (if g = f then (g, d) :: ds else _)
    by_cases e : g = f
    · rw [if_pos e, if_pos e]
      exact .cons h r
    · rw [if_neg e, if_neg e]
      exact .cons q (RepF.put r h)
end
/-! ### what is owned: lists and instances that still change -/
inductive Own where
  | lst (ds : List D) | ins (C : Addr) (fs : List (Str × D)) | ext (p : PySem.Heap → Prop) (rs : List (V × D))
abbrev Store := List (Addr × Own)
def OwnAt (K : PySem.W.Frag) (B H : Hp) (a : Addr) : Own → Prop
  | .lst ds => ∃ vs, H a = some (.lst vs) ∧ Reps K B vs ds
  | .ins C fs => ∃ dx vs, H a = some (.ins C dx vs) ∧ RepF K B vs fs
  | .ext p rs => H a = some (.ext p) ∧ ∀ r ∈ rs, Rep K B r.1 r.2
structure Hs (K : PySem.W.Frag) (B H : Hp) (O : Store) : Prop where
  ex : Ex B H
  own : ∀ p ∈ O, B p.1 = none ∧ OwnAt K B H p.1 p.2
  nd : (O.map Prod.fst).Nodup
section
variable {K : PySem.W.Frag} {B B2 H H2 : Hp} {O F : Store}
theorem OwnAt.mono {a : Addr} {o : Own} (e : Ex B B2) (eq : H2 a = H a) (h : OwnAt K B H a o) : OwnAt K B2 H2 a o := by
  cases o with
  | lst ds =>
    obtain ⟨vs, h1, r⟩ := h
    exact ⟨vs, by rw [eq]; exact h1, r.mono e⟩
  | ins C fs =>
    obtain ⟨dx, vs, h1, r⟩ := h
    exact ⟨dx, vs, by rw [eq]; exact h1, r.mono e⟩
  | ext p rs => exact ⟨eq.trans h.1, fun r hr => (h.2 r hr).mono e⟩
theorem OwnAt.some {a : Addr} {o : Own} (h : OwnAt K B H a o) : ∃ u, H a = some u := by
  cases o with
  | lst ds => obtain ⟨vs, h1, _⟩ := h; exact ⟨_, h1⟩
  | ins C fs => obtain ⟨dx, vs, h1, _⟩ := h; exact ⟨_, h1⟩
  | ext p rs => exact ⟨_, h.1⟩
/-- a new object, known from now on -/
theorem Hs.new {p : Addr} {o : HO} (h : Hs K B H O) (hp : H p = none) : Hs K (upd B p o) (upd H p o) O ∧ Ex B (upd B p o) := by
  have hb : B p = none := by
    cases q : B p with
    | none => rfl
    | some u => have := h.ex p u q; rw [hp] at this; cases this
  have eb : Ex B (upd B p o) := Evl.Ex.new hb
  refine ⟨⟨fun a u e => ?_, fun q hq => ?_, h.nd⟩, eb⟩
  · by_cases ha : a = p
    · subst ha
      rw [upd_same] at e ⊢
      exact e
    · rw [upd_ne ha] at e ⊢
      exact h.ex a u e
  · obtain ⟨h1, h2⟩ := h.own q hq
    obtain ⟨u, hu⟩ := h2.some
    have hne : q.1 ≠ p := ne_of_none hu hp
    exact ⟨by rw [upd_ne hne]; exact h1, h2.mono eb (upd_ne hne)⟩
/-- a new object, owned -/
theorem Hs.newOwn {p : Addr} {o : HO} {w : Own} (h : Hs K B H O) (hp : H p = none) (hw : OwnAt K B (upd H p o) p w) : Hs K B (upd H p o) ((p, w) :: O) := by
  have hb : B p = none := by
    cases q : B p with
    | none => rfl
    | some u => have := h.ex p u q; rw [hp] at this; cases this
  refine ⟨fun a u e => by rw [upd_ne (ne_of_none e hb)]; exact h.ex a u e, fun q hq => ?_, ?_⟩
  · rcases List.mem_cons.mp hq with rfl | hq
    · exact ⟨hb, hw⟩
    · obtain ⟨h1, h2⟩ := h.own q hq
      obtain ⟨u, hu⟩ := h2.some
      exact ⟨h1, h2.mono (Evl.Ex.refl B) (upd_ne (ne_of_none hu hp))⟩
  · refine List.nodup_cons.mpr ⟨fun hm => ?_, h.nd⟩
    obtain ⟨q, hq, e⟩ := List.mem_map.mp hm
    obtain ⟨u, hu⟩ := (h.own q hq).2.some
    rw [e, hp] at hu
    cases hu
/-- an object that is neither known nor owned may come or change -/
theorem Hs.other {p : Addr} {o : HO} (h : Hs K B H O) (hp : H p = none) : Hs K B (upd H p o) O := by
  have hb : B p = none := by
    cases q : B p with
    | none => rfl
    | some u => have := h.ex p u q; rw [hp] at this; cases this
  refine ⟨fun a u e => by rw [upd_ne (ne_of_none e hb)]; exact h.ex a u e, fun q hq => ?_, h.nd⟩
  obtain ⟨h1, h2⟩ := h.own q hq
  obtain ⟨u, hu⟩ := h2.some
  exact ⟨h1, h2.mono (Evl.Ex.refl B) (upd_ne (ne_of_none hu hp))⟩
theorem Hs.tail {q : Addr × Own} (h : Hs K B H (q :: O)) : Hs K B H O := ⟨h.ex, fun p hp => h.own p (List.mem_cons_of_mem _ hp), (List.nodup_cons.mp h.nd).2⟩
theorem Hs.dropL : ∀ {O : Store}, Hs K B H (O ++ F) → Hs K B H F
  | [], h => h
  | _ :: O, h => Hs.dropL (O := O) h.tail
/-- one of the owned, taken out: (a, w) stands in O, O' is the rest -/
inductive Pick (a : Addr) (w : Own) : Store → Store → Prop where
  | here {O : Store} : Pick a w ((a, w) :: O) O
  | there {q : Addr × Own} {O O' : Store} (h : Pick a w O O') : Pick a w (q :: O) (q :: O')
theorem Pick.perm {a : Addr} {w : Own} : ∀ {O O' : Store}, Pick a w O O' → O.Perm ((a, w) :: O')
  | _, _, .here => List.Perm.refl _
  | _, _, .there h => (List.Perm.cons _ (Pick.perm h)).trans (List.Perm.swap _ _ _)
theorem Hs.perm {O' : Store} (h : Hs K B H O) (p : O.Perm O') : Hs K B H O' := ⟨h.ex, fun q hq => h.own q (p.mem_iff.mpr hq), (p.map Prod.fst).nodup_iff.mp h.nd⟩
/-- put back with another content -/
inductive Put (a : Addr) (w w' : Own) : Store → Store → Prop where
  | here {O : Store} : Put a w w' ((a, w) :: O) ((a, w') :: O)
  | there {q : Addr × Own} {O O' : Store} (h : Put a w w' O O') : Put a w w' (q :: O) (q :: O')
theorem Put.pick {a : Addr} {w w' : Own} : ∀ {O O' : Store}, Put a w w' O O' → ∃ R, O.Perm ((a, w) :: R) ∧ O'.Perm ((a, w') :: R)
  | _, _, .here => ⟨_, List.Perm.refl _, List.Perm.refl _⟩
  | _, _, .there h => by
    obtain ⟨R, h1, h2⟩ := Put.pick h
    exact ⟨_ :: R, (List.Perm.cons _ h1).trans (List.Perm.swap _ _ _), (List.Perm.cons _ h2).trans (List.Perm.swap _ _ _)⟩
theorem Put.appR {a : Addr} {w w' : Own} : ∀ {O O' : Store}, Put a w w' O O' → Put a w w' (O ++ F) (O' ++ F)
  | _, _, .here => .here
  | _, _, .there h => .there (Put.appR h)
theorem Put.mem {a : Addr} {w w' : Own} : ∀ {O O' : Store}, Put a w w' O O' → (a, w) ∈ O
  | _, _, .here => List.mem_cons_self
  | _, _, .there h => List.mem_cons_of_mem _ (Put.mem h)
theorem Hs.write {a : Addr} {w w' : Own} {O' : Store} {o : HO} (h : Hs K B H O) (p : Put a w w' O O') (hw : OwnAt K B (upd H a o) a w') : Hs K B (upd H a o) O' := by
  obtain ⟨R, p1, p2⟩ := p.pick
  have g := h.perm p1
  have hb : B a = none := (g.own _ List.mem_cons_self).1
  refine Hs.perm ?_ p2.symm
  refine ⟨fun c u e => by rw [upd_ne (ne_of_none e hb)]; exact h.ex c u e, fun q hq => ?_, g.nd⟩
  rcases List.mem_cons.mp hq with rfl | hq
  · exact ⟨hb, hw⟩
  · obtain ⟨h1, h2⟩ := g.own q (List.mem_cons_of_mem _ hq)
    have hne : q.1 ≠ a := fun e => (List.nodup_cons.mp g.nd).1 (by rw [← e]; exact List.mem_map.mpr ⟨q, hq, rfl⟩)
    exact ⟨h1, h2.mono (Evl.Ex.refl B) (upd_ne hne)⟩
/-- known from now on -/
theorem Hs.freeze {a : Addr} {w : Own} {o : HO} (h : Hs K B H ((a, w) :: O)) (ho : H a = some o) : Hs K (upd B a o) H O ∧ Ex B (upd B a o) := by
  have hb : B a = none := (h.own _ List.mem_cons_self).1
  have eb : Ex B (upd B a o) := Evl.Ex.new hb
  refine ⟨⟨fun c u e => ?_, fun q hq => ?_, h.tail.nd⟩, eb⟩
  · by_cases hc : c = a
    · subst hc
      rw [upd_same] at e
      rw [ho]
      exact e
    · rw [upd_ne hc] at e
      exact h.ex c u e
  · obtain ⟨h1, h2⟩ := h.own q (List.mem_cons_of_mem _ hq)
    have hne : q.1 ≠ a := fun e => (List.nodup_cons.mp h.nd).1 (by rw [← e]; exact List.mem_map.mpr ⟨q, hq, rfl⟩)
    exact ⟨by rw [upd_ne hne]; exact h1, h2.mono eb rfl⟩
end
/-! ### the names' data -/
abbrev Rho := List (Option D)
structure EnvR (K : PySem.W.Frag) (B : Hp) (σ : L2.St) (ρ : Rho) : Prop where
  len : σ.length = ρ.length
  get : ∀ (i : Nat) (d : D), ρ[i]? = some (some d) → ∃ v, σ[i]? = some (some v) ∧ Rep K B v d
section
variable {K : PySem.W.Frag} {B B2 : Hp} {σ : L2.St} {ρ : Rho}
theorem EnvR.mono (h : EnvR K B σ ρ) (e : Ex B B2) : EnvR K B2 σ ρ := ⟨h.len, fun i d q => by
  obtain ⟨v, h1, h2⟩ := h.get i d q
  exact ⟨v, h1, h2.mono e⟩⟩
theorem EnvR.set {v : V} {d : D} (h : EnvR K B σ ρ) (i : Nat) (r : Rep K B v d) : EnvR K B (σ.set i (some v)) (ρ.set i (some d)) := by
  refine ⟨by rw [List.length_set, List.length_set, h.len], fun j e q => ?_⟩
  by_cases hij : i = j
  · subst hij
    by_cases hl : i < ρ.length
    · rw [List.getElem?_set_self hl] at q
      simp at q
      subst q
      exact ⟨v, by rw [List.getElem?_set_self (by rw [h.len]; exact hl)], r⟩
    · rw [List.getElem?_eq_none (by rw [List.length_set]; omega)] at q
      cases q
  · rw [List.getElem?_set_ne hij] at q
    obtain ⟨w, h1, h2⟩ := h.get j e q
    exact ⟨w, by rw [List.getElem?_set_ne hij]; exact h1, h2⟩
/-- less is known -/
def Sub (ρ' ρ : Rho) : Prop := ρ'.length = ρ.length ∧ ∀ (i : Nat) (d : D), ρ'[i]? = some (some d) → ρ[i]? = some (some d)
theorem Sub.nil : Sub [] [] := ⟨rfl, fun _ _ h => h⟩
theorem Sub.same {x : Option D} {r' r : Rho} (h : Sub r' r) : Sub (x :: r') (x :: r) := ⟨by rw [List.length_cons, List.length_cons, h.1], fun i d q => match i, q with
  | 0, q => q
  | i + 1, q => h.2 i d q⟩
theorem Sub.drop {x : Option D} {r' r : Rho} (h : Sub r' r) : Sub (none :: r') (x :: r) := ⟨by rw [List.length_cons, List.length_cons, h.1], fun i d q => match i, q with
  | 0, q => nomatch q
  | i + 1, q => h.2 i d q⟩
theorem EnvR.sub {ρ' : Rho} (h : EnvR K B σ ρ) (s : Sub ρ' ρ) : EnvR K B σ ρ' := ⟨by rw [h.len, s.1], fun i d q => h.get i d (s.2 i d q)⟩
def wipeR (ρ : Rho) : List Nat → Rho
  | [] => ρ
  | v :: vs => (wipeR ρ vs).set v none
theorem EnvR.clear (h : EnvR K B σ ρ) (i : Nat) : EnvR K B (σ.set i none) (ρ.set i none) := by
  refine ⟨by rw [List.length_set, List.length_set, h.len], fun j e q => ?_⟩
  by_cases hij : i = j
  · subst hij
    by_cases hl : i < ρ.length
    · rw [List.getElem?_set_self hl] at q
      cases q
    · rw [List.getElem?_eq_none (by rw [List.length_set]; omega)] at q
      cases q
  · rw [List.getElem?_set_ne hij] at q
    obtain ⟨w, h1, h2⟩ := h.get j e q
    exact ⟨w, by rw [List.getElem?_set_ne hij]; exact h1, h2⟩
theorem EnvR.wipe (h : EnvR K B σ ρ) : ∀ (vs : List Nat), EnvR K B (L2.wipe σ vs) (wipeR ρ vs)
  | [] => h
  | v :: vs => (EnvR.wipe h vs).clear v
/-- at a def's entry -/
def rho0 (n : Nat) (ds : List D) : Rho := ds.map some ++ List.replicate (n - ds.length) none
theorem envR_start {N : List Str} {vs : List V} {ds : List D} (r : Reps K B vs ds) : EnvR K B (start N vs) (rho0 N.length ds) := by
  refine ⟨?_, fun i d q => ?_⟩
  · show (vs.map some ++ List.replicate (N.length - vs.length) none).length = (ds.map some ++ List.replicate (N.length - ds.length) none).length
    rw [List.length_append, List.length_append, List.length_map, List.length_map, List.length_replicate, List.length_replicate, r.length]
  · have q' : (ds.map some ++ List.replicate (N.length - ds.length) none)[i]? = some (some d) := q
    by_cases hi : i < ds.length
    · rw [List.getElem?_append_left (by rw [List.length_map]; exact hi), List.getElem?_map] at q'
      cases e : ds[i]? with
      | none => rw [e] at q'; cases q'
      | some d' =>
        rw [e] at q'
        simp at q'
        subst q'
        obtain ⟨v, h1, h2⟩ := r.get e
        refine ⟨v, ?_, h2⟩
        show (vs.map some ++ List.replicate (N.length - vs.length) none)[i]? = some (some v)
        rw [List.getElem?_append_left (by rw [List.length_map, r.length]; exact hi), List.getElem?_map, h1]
        rfl
    · rw [List.getElem?_append_right (by rw [List.length_map]; omega), List.getElem?_replicate] at q'
      split at q' <;> simp at q'
end
end G
namespace G
open PySem L2
/-! ### readings over data -/
/-- what is wanted behind an expression -/
def Fin (K : PySem.W.Frag) (B : Hp) (F : Store) (P : D → Store → Prop) (Q : VK) : Prop := ∀ v d O' B2 H2, P d O' → Ex B B2 → Hs K B2 H2 (O' ++ F) → Rep K B2 v d → Q v H2
def wE (K : PySem.W.Frag) (te : TE) (ρ : Rho) (O : Store) (P : D → Store → Prop) : Prop :=
  ∀ F σ B H, EnvR K B σ ρ → Hs K B H (O ++ F) → ∀ Q : VK, Fin K B F P Q → te σ H Q
def FinT (K : PySem.W.Frag) (B : Hp) (F : Store) (P : Bool → Store → Prop) (Q : Bool → Hp → Prop) : Prop := ∀ b O' B2 H2, P b O' → Ex B B2 → Hs K B2 H2 (O' ++ F) → Q b H2
def wT (K : PySem.W.Frag) (tt : TT) (ρ : Rho) (O : Store) (P : Bool → Store → Prop) : Prop :=
  ∀ F σ B H, EnvR K B σ ρ → Hs K B H (O ++ F) → ∀ Q : Bool → Hp → Prop, FinT K B F P Q → tt σ H Q
def FinA (K : PySem.W.Frag) (B : Hp) (F : Store) (P : List D → Store → Prop) (Q : List V → Hp → Prop) : Prop := ∀ vs ds O' B2 H2, P ds O' → Ex B B2 → Hs K B2 H2 (O' ++ F) → Reps K B2 vs ds → Q vs H2
def wA (K : PySem.W.Frag) (ta : TA) (ρ : Rho) (O : Store) (P : List D → Store → Prop) : Prop :=
  ∀ F σ B H, EnvR K B σ ρ → Hs K B H (O ++ F) → ∀ Q : List V → Hp → Prop, FinA K B F P Q → ta σ H Q
/-- two-place, one-place operations, calls of built-ins, by data -/
def wR (K : PySem.W.Frag) (r : R2) (x y : D) (O : Store) (P : D → Store → Prop) : Prop :=
  ∀ F v u B H, Rep K B v x → Rep K B u y → Hs K B H (O ++ F) → ∀ Q : VK, Fin K B F P Q → r v u H Q
def wU (K : PySem.W.Frag) (r : V → Hp → VK → Prop) (x : D) (O : Store) (P : D → Store → Prop) : Prop :=
  ∀ F v B H, Rep K B v x → Hs K B H (O ++ F) → ∀ Q : VK, Fin K B F P Q → r v H Q
def wC (K : PySem.W.Frag) (r : List V → Hp → VK → Prop) (xs : List D) (O : Store) (P : D → Store → Prop) : Prop :=
  ∀ F vs B H, Reps K B vs xs → Hs K B H (O ++ F) → ∀ Q : VK, Fin K B F P Q → r vs H Q
/-- a statement's ways out -/
inductive Out where
  | nx (ρ : Rho) | ret (d : D) | bk (ρ : Rho) | ct (ρ : Rho)
def OutOk (K : PySem.W.Frag) (Dn : Ends) (B : Hp) (H : Hp) : Out → Prop
  | .nx ρ => ∀ σ, EnvR K B σ ρ → Dn.nx σ H
  | .ret d => ∀ v, Rep K B v d → Dn.rt v H
  | .bk ρ => ∀ σ, EnvR K B σ ρ → Dn.bk σ H
  | .ct ρ => ∀ σ, EnvR K B σ ρ → Dn.ct σ H
def FinS (K : PySem.W.Frag) (B : Hp) (F : Store) (P : Out → Store → Prop) (Dn : Ends) : Prop := ∀ o O' B2 H2, P o O' → Ex B B2 → Hs K B2 H2 (O' ++ F) → OutOk K Dn B2 H2 o
def wS (K : PySem.W.Frag) (ts : TS) (ρ : Rho) (O : Store) (P : Out → Store → Prop) : Prop :=
  ∀ F σ B H, EnvR K B σ ρ → Hs K B H (O ++ F) → ∀ Dn : Ends, FinS K B F P Dn → ts Dn σ H
section
variable {K : PySem.W.Frag} {ρ : Rho} {O O1 : Store} {P : D → Store → Prop} {ta tb te : TE}
theorem Fin.ex {B B2 : Hp} {F : Store} {Q : VK} (h : Fin K B F P Q) (e : Ex B B2) : Fin K B2 F P Q := fun v d O' B3 H3 p e3 => h v d O' B3 H3 p (e.trans e3)
theorem FinT.ex {B B2 : Hp} {F : Store} {P : Bool → Store → Prop} {Q : Bool → Hp → Prop} (h : FinT K B F P Q) (e : Ex B B2) : FinT K B2 F P Q := fun b O' B3 H3 p e3 => h b O' B3 H3 p (e.trans e3)
theorem FinS.ex {B B2 : Hp} {F : Store} {P : Out → Store → Prop} {Dn : Ends} (h : FinS K B F P Dn) (e : Ex B B2) : FinS K B2 F P Dn := fun o O' B3 H3 p e3 => h o O' B3 H3 p (e.trans e3)
theorem Fin.here {B H : Hp} {F : Store} {Q : VK} {v : V} {d : D} {O : Store} (h : Fin K B F P Q) (hs : Hs K B H (O ++ F)) (r : Rep K B v d) (p : P d O) : Q v H := h v d O B H p (Evl.Ex.refl B) hs r
/-! ### expressions -/
theorem e_var {i : Nat} {d : D} (h : ρ[i]? = some (some d)) (p : P d O) : wE K (tVar i) ρ O P := fun F σ B H e hs Q q => by
  obtain ⟨v, h1, r⟩ := e.get i d h
  exact ⟨v, h1, q.here hs r p⟩
theorem e_c {v : V} (p : P (.raw v) O) : wE K (tC v) ρ O P := fun F σ B H e hs Q q => q.here hs (.raw v) p
theorem e_op {r : R2} (h : wE K ta ρ O fun x O1 => wE K tb ρ O1 fun y O2 => wR K r x y O2 P) : wE K (tOp r ta tb) ρ O P := fun F σ B H e hs Q q =>
  h F σ B H e hs _ fun v x O1 B1 H1 p1 e1 hs1 rx => p1 F σ B1 H1 (e.mono e1) hs1 _ fun u y O2 B2 H2 p2 e2 hs2 ry => p2 F v u B2 H2 (rx.mono e2) ry hs2 Q (q.ex (e1.trans e2))
theorem e_un {r : V → Hp → VK → Prop} (h : wE K ta ρ O fun x O1 => wU K r x O1 P) : wE K (tUn r ta) ρ O P := fun F σ B H e hs Q q =>
  h F σ B H e hs _ fun v x O1 B1 H1 p1 e1 hs1 rx => p1 F v B1 H1 rx hs1 Q (q.ex e1)
theorem e_cb {r : List V → Hp → VK → Prop} {t : TA} (h : wA K t ρ O fun ds O1 => wC K r ds O1 P) : wE K (tCB r t) ρ O P := fun F σ B H e hs Q q =>
  h F σ B H e hs _ fun vs ds O1 B1 H1 p1 e1 hs1 rs => p1 F vs B1 H1 rs hs1 Q (q.ex e1)
theorem a_nil {P : List D → Store → Prop} (p : P [] O) : wA K tNil ρ O P := fun F σ B H e hs Q q => q [] [] O B H p (Evl.Ex.refl B) hs .nil
theorem a_cons {tr : TA} {P : List D → Store → Prop} (h : wE K ta ρ O fun x O1 => wA K tr ρ O1 fun ds O2 => P (x :: ds) O2) : wA K (tCons ta tr) ρ O P := fun F σ B H e hs Q q =>
  h F σ B H e hs _ fun v x O1 B1 H1 p1 e1 hs1 rx => p1 F σ B1 H1 (e.mono e1) hs1 _ fun vs ds O2 B2 H2 p2 e2 hs2 rs => q (v :: vs) (x :: ds) O2 B2 H2 p2 (e1.trans e2) hs2 (.cons (rx.mono e2) rs)
theorem e_tup {t : TA} (h : wA K t ρ O fun ds O1 => ds.length ≤ 100000 ∧ P (.tup ds) O1) : wE K (tTup t) ρ O P := fun F σ B H e hs Q q =>
  h F σ B H e hs _ fun vs ds O1 B1 H1 p1 e1 hs1 rs => ⟨Evl.sz_of (by rw [rs.length]; exact p1.1), fun p hp => by
    obtain ⟨hs2, e2⟩ := hs1.new (o := .tup vs) hp
    exact q _ _ O1 _ _ p1.2 (e1.trans e2) hs2 (.tup (Evl.st_of upd_same) (rs.mono e2))⟩
/-- a list that never changes -/
theorem e_lst {t : TA} (h : wA K t ρ O fun ds O1 => ds.length ≤ 100000 ∧ P (.lst ds) O1) : wE K (tLst t) ρ O P := fun F σ B H e hs Q q =>
  h F σ B H e hs _ fun vs ds O1 B1 H1 p1 e1 hs1 rs => ⟨Evl.sz_of (by rw [rs.length]; exact p1.1), fun p hp => by
    obtain ⟨hs2, e2⟩ := hs1.new (o := .lst vs) hp
    exact q _ _ O1 _ _ p1.2 (e1.trans e2) hs2 (.lst upd_same (rs.mono e2))⟩
/-- a list that will change -/
theorem e_lstO {t : TA} (h : wA K t ρ O fun ds O1 => ds.length ≤ 100000 ∧ ∀ p, P (.loc p) ((p, .lst ds) :: O1)) : wE K (tLst t) ρ O P := fun F σ B H e hs Q q =>
  h F σ B H e hs _ fun vs ds O1 B1 H1 p1 e1 hs1 rs => ⟨Evl.sz_of (by rw [rs.length]; exact p1.1), fun p hp => by
    refine q _ _ _ _ _ (p1.2 p) e1 (hs1.newOwn (w := .lst ds) hp ⟨vs, upd_same, rs⟩) (.raw _)⟩
theorem e_fld {f : Str} (h : wE K ta ρ O fun x O1 => ∃ C fs d, x = .ins C fs ∧ Cls K C ∧ NoAttr K C f ∧ fs.lookup f = some d ∧ P d O1) : wE K (tFld K ta f) ρ O P := fun F σ B H e hs Q q =>
  h F σ B H e hs _ fun v x O1 B1 H1 p1 e1 hs1 rx => by
    obtain ⟨C, fs, d, rfl, hc, hn, hl, p⟩ := p1
    cases rx with
    | ins hb r =>
      obtain ⟨u, h1, h2⟩ := r.look hl
      exact ⟨_, C, _, _, u, rfl, hs1.ex _ _ hb, hc, hn, h1, (q.ex e1).here hs1 h2 p⟩
theorem e_if {t : TT} (h : wT K t ρ O fun b O1 => (b = true → wE K ta ρ O1 P) ∧ (b = false → wE K tb ρ O1 P)) : wE K (tIf t ta tb) ρ O P := fun F σ B H e hs Q q =>
  h F σ B H e hs _ fun b O1 B1 H1 p1 e1 hs1 => by
    cases b with
    | true => exact (if_pos rfl : (if true = true then ta σ H1 Q else tb σ H1 Q) = _) ▸ p1.1 rfl F σ B1 H1 (e.mono e1) hs1 Q (q.ex e1)
    | false => exact (if_neg Bool.false_ne_true : (if false = true then ta σ H1 Q else tb σ H1 Q) = _) ▸ p1.2 rfl F σ B1 H1 (e.mono e1) hs1 Q (q.ex e1)
/-- a and b, a or b, not a, as values -/
theorem e_and (h : wE K ta ρ O fun x O1 => ∃ b, x = .bl b ∧ (b = true → wE K tb ρ O1 P) ∧ (b = false → P (.bl false) O1)) : wE K (tAndV ta tb) ρ O P := fun F σ B H e hs Q q =>
  h F σ B H e hs _ fun v x O1 B1 H1 p1 e1 hs1 rx => by
    obtain ⟨b, rfl, h1, h2⟩ := p1
    cases rx
    refine ⟨b, rfl, ?_⟩
    cases b with
    | true =>
      rw [if_pos rfl]
      exact h1 rfl F σ B1 H1 (e.mono e1) hs1 Q (q.ex e1)
    | false =>
      rw [if_neg Bool.false_ne_true]
      exact (q.ex e1).here hs1 (.raw _) (h2 rfl)
theorem e_not (h : wE K ta ρ O fun x O1 => ∃ b, x = .bl b ∧ P (.bl (!b)) O1) : wE K (tNotV ta) ρ O P := fun F σ B H e hs Q q =>
  h F σ B H e hs _ fun v x O1 B1 H1 p1 e1 hs1 rx => by
    obtain ⟨b, rfl, p⟩ := p1
    cases rx
    exact ⟨b, rfl, (q.ex e1).here hs1 (.raw _) p⟩
theorem e_isN (h : wE K ta ρ O fun x O1 => (x = .non → P (.bl true) O1) ∧ (x ≠ .non → P (.bl false) O1)) : wE K (tIsN ta) ρ O P := fun F σ B H e hs Q q =>
  h F σ B H e hs _ fun v x O1 B1 H1 p1 e1 hs1 rx => by
    by_cases hx : x = .non
    · subst hx
      cases rx
      have e0 : decide ((V.non : V) = .non) = true := rfl
      exact (q.ex e1).here hs1 (.raw _) (p1.1 rfl)
    · have hv : v ≠ .non := fun z => by
        subst z
        cases rx
        exact hx rfl
      rw [decide_eq_false hv]
      exact (q.ex e1).here hs1 (.raw _) (p1.2 hx)
/-! ### tests -/
variable {PT : Bool → Store → Prop} {t u : TT}
theorem t_test (h : wE K te ρ O fun x O1 => ∃ b, x = .bl b ∧ PT b O1) : wT K (tTest te) ρ O PT := fun F σ B H e hs Q q =>
  h F σ B H e hs _ fun v x O1 B1 H1 p1 e1 hs1 rx => by
    obtain ⟨b, rfl, p⟩ := p1
    cases rx
    exact ⟨b, rfl, q b O1 B1 H1 p e1 hs1⟩
theorem t_B (h : wE K te ρ O fun x O1 => ∃ b, x = .bl b ∧ PT b O1) : wT K (tB te) ρ O PT := fun F σ B H e hs Q q =>
  h F σ B H e hs _ fun v x O1 B1 H1 p1 e1 hs1 rx => by
    obtain ⟨b, rfl, p⟩ := p1
    cases rx
    exact ⟨b, rfl, q b O1 B1 H1 p e1 hs1⟩
theorem t_and (h : wT K t ρ O fun b O1 => (b = true → wT K u ρ O1 PT) ∧ (b = false → PT false O1)) : wT K (tAnd t u) ρ O PT := fun F σ B H e hs Q q =>
  h F σ B H e hs _ fun b O1 B1 H1 p1 e1 hs1 => by
    cases b with
    | true =>
      rw [if_pos rfl]
      exact p1.1 rfl F σ B1 H1 (e.mono e1) hs1 Q (q.ex e1)
    | false =>
      rw [if_neg Bool.false_ne_true]
      exact q false O1 B1 H1 (p1.2 rfl) e1 hs1
theorem t_or (h : wT K t ρ O fun b O1 => (b = false → wT K u ρ O1 PT) ∧ (b = true → PT true O1)) : wT K (tOr t u) ρ O PT := fun F σ B H e hs Q q =>
  h F σ B H e hs _ fun b O1 B1 H1 p1 e1 hs1 => by
    cases b with
    | false =>
      rw [if_neg Bool.false_ne_true]
      exact p1.1 rfl F σ B1 H1 (e.mono e1) hs1 Q (q.ex e1)
    | true =>
      rw [if_pos rfl]
      exact q true O1 B1 H1 (p1.2 rfl) e1 hs1
theorem t_not (h : wT K t ρ O fun b O1 => PT (!b) O1) : wT K (tNot t) ρ O PT := fun F σ B H e hs Q q =>
  h F σ B H e hs _ fun b O1 B1 H1 p1 e1 hs1 => q (!b) O1 B1 H1 p1 e1 hs1
/-! ### operations on plain data -/
theorem r_rI0 {g : Int → Int → V} {i j : Int} (p : P (.raw (g i j)) O) : wR K (rI0 g) (.int i) (.int j) O P := fun F v u B H rx ry hs Q q => by
  cases rx; cases ry
  exact ⟨i, j, rfl, rfl, q.here hs (.raw _) p⟩
theorem r_rI {C : Int → Int → Prop} {g : Int → Int → V} {i j : Int} (hc : C i j) (p : P (.raw (g i j)) O) : wR K (rI C g) (.int i) (.int j) O P := fun F v u B H rx ry hs Q q => by
  cases rx; cases ry
  exact ⟨i, j, rfl, rfl, hc, q.here hs (.raw _) p⟩
theorem r_rU {g : Int → V} {i : Int} (p : P (.raw (g i)) O) : wU K (rU g) (.int i) O P := fun F v B H rx hs Q q => by
  cases rx
  exact ⟨i, rfl, q.here hs (.raw _) p⟩
theorem r_eq {x y : V} (hs : scal x y = true) (p : P (.bl (decide (x = y))) O) : wR K rEq (.raw x) (.raw y) O P := fun F v u B H rx ry h Q q => by
  cases rx; cases ry
  exact ⟨hs, q.here h (.raw _) p⟩
theorem r_ne {x y : V} (hs : scal x y = true) (p : P (.bl (!decide (x = y))) O) : wR K rNe (.raw x) (.raw y) O P := fun F v u B H rx ry h Q q => by
  cases rx; cases ry
  exact ⟨hs, q.here h (.raw _) p⟩
/-- an item of a list, of a tuple -/
theorem atI_map {α β : Type} {xs : List α} {ys : List β} {i : Int} {y : β} (hl : xs.length = ys.length) (h : atI ys i = some y) : ∃ n : Nat, ys[n]? = some y ∧ ∀ x, xs[n]? = some x → atI xs i = some x := by
  unfold atI at h ⊢
  rw [hl]
  cases e : ixN ys.length i with
  | none => rw [e] at h; cases h
  | some n =>
    rw [e] at h
    exact ⟨n, h, fun x hx => hx⟩
theorem r_ixT {ds : List D} {i : Int} {d : D} (h : atI ds i = some d) (p : P d O) : wR K (rIxT K) (.tup ds) (.int i) O P := fun F v u B H rx ry hs Q q => by
  cases ry
  cases rx with
  | tup hb r =>
    obtain ⟨n, h1, h2⟩ := atI_map r.length h
    obtain ⟨x, h3, h4⟩ := r.get h1
    exact ⟨_, _, i, x, rfl, rfl, Evl.ex_t hs.ex hb, h2 x h3, q.here hs h4 p⟩
theorem r_ixL {ds : List D} {i : Int} {d : D} (h : atI ds i = some d) (p : P d O) : wR K (rIxL K) (.lst ds) (.int i) O P := fun F v u B H rx ry hs Q q => by
  cases ry
  cases rx with
  | lst hb r =>
    obtain ⟨n, h1, h2⟩ := atI_map r.length h
    obtain ⟨x, h3, h4⟩ := r.get h1
    exact ⟨_, _, i, x, rfl, rfl, Evl.sq_of (hs.ex _ _ hb), h2 x h3, q.here hs h4 p⟩
theorem r_ixZ {ds : List D} {i : Int} {d : D} (h : atI ds i = some d) (p : P d O) : wR K (rIxL K) (.fz ds) (.int i) O P := fun F v u B H rx ry hs Q q => by
  cases ry
  cases rx with
  | fz hb r =>
    obtain ⟨n, h1, h2⟩ := atI_map r.length h
    obtain ⟨x, h3, h4⟩ := r.get h1
    exact ⟨_, _, i, x, rfl, rfl, Evl.ex_l hs.ex hb, h2 x h3, q.here hs h4 p⟩
/-- an item of an owned list -/
theorem r_ixO {a : Addr} {ds : List D} {i : Int} {d : D} (hm : (a, Own.lst ds) ∈ O) (h : atI ds i = some d) (p : P d O) : wR K (rIxL K) (.loc a) (.int i) O P := fun F v u B H rx ry hs Q q => by
  cases ry; cases rx
  obtain ⟨vs, hb, r⟩ := (hs.own _ (List.mem_append_left _ hm)).2
  obtain ⟨n, h1, h2⟩ := atI_map r.length h
  obtain ⟨x, h3, h4⟩ := r.get h1
  exact ⟨_, _, i, x, rfl, rfl, Evl.sq_of hb, h2 x h3, q.here hs h4 p⟩
theorem r_ixOr2 {x y : D} (h : wR K (rIxT K) x y O P) : wR K (rIx K) x y O P := fun F v u B H rx ry hs Q q => .inr (.inl (h F v u B H rx ry hs Q q))
/-! ### statements -/
variable {PS : Out → Store → Prop} {ts tu : TS}
def thenP (K : PySem.W.Frag) (tu : TS) (PS : Out → Store → Prop) : Out → Store → Prop
  | .nx ρ, O => wS K tu ρ O PS
  | .ret d, O => PS (.ret d) O
  | .bk ρ, O => PS (.bk ρ) O
  | .ct ρ, O => PS (.ct ρ) O
theorem s_seq (h : wS K ts ρ O (thenP K tu PS)) : wS K (tSeq ts tu) ρ O PS := fun F σ B H e hs Dn q =>
  h F σ B H e hs _ fun o O1 B1 H1 p1 e1 hs1 => by
    cases o with
    | nx ρ1 => exact fun σ1 r1 => p1 F σ1 B1 H1 r1 hs1 Dn (q.ex e1)
    | ret d => exact q (.ret d) O1 B1 H1 p1 e1 hs1
    | bk ρ1 => exact q (.bk ρ1) O1 B1 H1 p1 e1 hs1
    | ct ρ1 => exact q (.ct ρ1) O1 B1 H1 p1 e1 hs1
theorem s_next (p : PS (.nx ρ) O) : wS K tNext ρ O PS := fun F σ B H e hs Dn q => q (.nx ρ) O B H p (Evl.Ex.refl B) hs σ e
theorem s_cont (p : PS (.ct ρ) O) : wS K tCont ρ O PS := fun F σ B H e hs Dn q => q (.ct ρ) O B H p (Evl.Ex.refl B) hs σ e
theorem s_asg {i : Nat} (h : wE K te ρ O fun d O1 => PS (.nx (ρ.set i (some d))) O1) : wS K (tAsg te (gName i)) ρ O PS := fun F σ B H e hs Dn q =>
  h F σ B H e hs _ fun v d O1 B1 H1 p1 e1 hs1 r => q _ O1 B1 H1 p1 e1 hs1 _ ((e.mono e1).set i r)
theorem s_drop (h : wE K te ρ O fun _ O1 => PS (.nx ρ) O1) : wS K (tDrop te) ρ O PS := fun F σ B H e hs Dn q =>
  h F σ B H e hs _ fun v d O1 B1 H1 p1 e1 hs1 r => q _ O1 B1 H1 p1 e1 hs1 _ (e.mono e1)
theorem s_ret (h : wE K te ρ O fun d O1 => PS (.ret d) O1) : wS K (tRet te) ρ O PS := fun F σ B H e hs Dn q =>
  h F σ B H e hs _ fun v d O1 B1 H1 p1 e1 hs1 r => q _ O1 B1 H1 p1 e1 hs1 v r
theorem s_if (h : wT K t ρ O fun b O1 => (b = true → wS K ts ρ O1 PS) ∧ (b = false → wS K tu ρ O1 PS)) : wS K (tIfS t ts tu) ρ O PS := fun F σ B H e hs Dn q =>
  h F σ B H e hs _ fun b O1 B1 H1 p1 e1 hs1 => by
    cases b with
    | true =>
      rw [if_pos rfl]
      exact p1.1 rfl F σ B1 H1 (e.mono e1) hs1 Dn (q.ex e1)
    | false =>
      rw [if_neg Bool.false_ne_true]
      exact p1.2 rfl F σ B1 H1 (e.mono e1) hs1 Dn (q.ex e1)
theorem s_fld {f : Str} {tv : TE} (h : wE K tv ρ O fun y O1 => wE K ta ρ O1 fun x O2 => ∃ a C fs O3, x = .loc a ∧ Put a (.ins C fs) (.ins C (putD f y fs)) O2 O3 ∧ Cls K C ∧ NoAttr K C f ∧ fs.length < 1000 ∧ PS (.nx ρ) O3) :
    wS K (sFld K ta tv f) ρ O PS := fun F σ B H e hs Dn q =>
  h F σ B H e hs _ fun v y O1 B1 H1 p1 e1 hs1 ry => p1 F σ B1 H1 (e.mono e1) hs1 _ fun u x O2 B2 H2 p2 e2 hs2 rx => by
    obtain ⟨a, C, fs, O3, rfl, hp, hc, hn, hl, p⟩ := p2
    cases rx
    obtain ⟨dx, vs, h1, r⟩ := (hs2.own _ (List.mem_append_left _ hp.mem)).2
    refine ⟨a, C, dx, vs, rfl, h1, hc, hn, by rw [r.length]; exact hl, ?_⟩
    have hs3 := hs2.write (o := .ins C dx (putF f v vs)) (hp.appR (F := F)) ⟨dx, _, upd_same, r.put (ry.mono e2)⟩
    exact q (.nx ρ) O3 B2 _ p (e1.trans e2) hs3 σ ((e.mono e1).mono e2)
/-- an owned list is known from now on: its slots hold a list that never changes -/
def frz (a : Addr) (ds : List D) : Rho → Rho := List.map fun o => match o with
  | some (.raw (.ref b)) => if b = a then some (.lst ds) else some (.loc b)
  | o => o
theorem s_freeze {a : Addr} {ds : List D} {O' : Store} (hp : Pick a (.lst ds) O O') (h : wS K ts (frz a ds ρ) O' PS) : wS K ts ρ O PS := fun F σ B H e hs Dn q => by
  have p1 : (O ++ F).Perm ((a, Own.lst ds) :: (O' ++ F)) := hp.perm.append_right F
  have hs1 := hs.perm p1
  obtain ⟨vs, h1, r⟩ := (hs1.own _ List.mem_cons_self).2
  obtain ⟨hs2, e2⟩ := hs1.freeze h1
  refine h F σ _ H ⟨by rw [e.len]; unfold frz; rw [List.length_map], fun i d hd => ?_⟩ hs2 Dn (q.ex e2)
  unfold frz at hd
  rw [List.getElem?_map] at hd
  cases hi : ρ[i]? with
  | none => rw [hi] at hd; cases hd
  | some o =>
    rw [hi] at hd
    cases o with
    | none => cases hd
    | some x =>
      obtain ⟨v, hv, rv⟩ := e.get i x hi
      refine ⟨v, hv, ?_⟩
      have done : d = x → Rep K (upd B a (.lst vs)) v d := fun z => by rw [z]; exact rv.mono e2
      cases x with
      | tup l => exact done (by simp at hd; exact hd.symm)
      | lst l => exact done (by simp at hd; exact hd.symm)
      | fz l => exact done (by simp at hd; exact hd.symm)
      | ins C l => exact done (by simp at hd; exact hd.symm)
      | dct => exact done (by simp at hd; exact hd.symm)
      | raw w =>
        cases w with
        | ref b =>
          by_cases hb : b = a
          · subst hb
            simp at hd
            subst hd
            cases rv
            exact .lst upd_same (r.mono e2)
          · simp [hb] at hd
            exact done hd.symm
        | non => exact done (by simp at hd; exact hd.symm)
        | bl _ => exact done (by simp at hd; exact hd.symm)
        | int _ => exact done (by simp at hd; exact hd.symm)
        | str _ => exact done (by simp at hd; exact hd.symm)
        | byt _ => exact done (by simp at hd; exact hd.symm)
        | flt _ => exact done (by simp at hd; exact hd.symm)
        | ty _ => exact done (by simp at hd; exact hd.symm)
theorem s_frz {a : Addr} {ds : List D} {O' : Store} {ρ' : Rho} (hp : Pick a (.lst ds) O O') (hρ : frz a ds ρ = ρ') (h : wS K ts ρ' O' PS) : wS K ts ρ O PS := s_freeze hp (by rw [hρ]; exact h)
theorem s_rho {ρ' : Rho} (e : ρ = ρ') (h : wS K ts ρ' O PS) : wS K ts ρ O PS := by rw [e]; exact h
theorem s_sub {ρ' : Rho} (s : Sub ρ' ρ) (h : wS K ts ρ' O PS) : wS K ts ρ O PS := fun F σ B H e hs Dn q => h F σ B H (e.sub s) hs Dn q
theorem wS.mono {PS' : Out → Store → Prop} (h : wS K ts ρ O PS) (m : ∀ o O', PS o O' → PS' o O') : wS K ts ρ O PS' := fun F σ B H e hs Dn q => h F σ B H e hs Dn fun o O' B2 H2 p => q o O' B2 H2 (m _ _ p)
theorem wE.mono {P' : D → Store → Prop} (h : wE K te ρ O P) (m : ∀ d O', P d O' → P' d O') : wE K te ρ O P' := fun F σ B H e hs Q q => h F σ B H e hs Q fun v d O' B2 H2 p => q v d O' B2 H2 (m _ _ p)
/-- xs.append(e), xs owned -/
theorem e_append (h : wE K ta ρ O fun x O1 => ∃ a ds0, x = .loc a ∧ (a, Own.lst ds0) ∈ O1 ∧ wE K te ρ O1 fun y O2 => ∃ ds O3, ds.length < 100000 ∧ Put a (.lst ds) (.lst (ds ++ [y])) O2 O3 ∧ P .non O3) :
    wE K (tBM K "list" rAppend ta (tCons te tNil)) ρ O P := fun F σ B H e hs Q q => by
  refine h F σ B H e hs _ fun v x O1 B1 H1 p1 e1 hs1 rx => ?_
  obtain ⟨a, ds0, rfl, hm, p1⟩ := p1
  cases rx
  obtain ⟨vs0, h0, _⟩ := (hs1.own _ (List.mem_append_left _ hm)).2
  refine ⟨Or.inl ⟨rfl, vs0, Evl.sq_of h0⟩, ?_⟩
  refine p1 F σ B1 H1 (e.mono e1) hs1 _ fun u y O2 B2 H2 p2 e2 hs2 ry => ?_
  obtain ⟨ds, O3, hl, hp, p⟩ := p2
  obtain ⟨vs, h1, r⟩ := (hs2.own _ (List.mem_append_left _ hp.mem)).2
  refine ⟨a, vs, u, rfl, rfl, h1, Evl.sz_lt (by rw [r.length]; exact hl), ?_⟩
  have hs3 := hs2.write (o := .lst (vs ++ [u])) (hp.appR (F := F)) ⟨_, upd_same, r.append (.cons ry .nil)⟩
  exact q _ _ O3 B2 _ p (e1.trans e2) hs3 (.raw _)
/-- xs.extend(ys), xs owned, ys a list that never changes -/
theorem e_extend (h : wE K ta ρ O fun x O1 => ∃ a ds0, x = .loc a ∧ (a, Own.lst ds0) ∈ O1 ∧ wE K te ρ O1 fun y O2 => ∃ ds es O3, y = .lst es ∧ ds.length + es.length ≤ 100000 ∧ Put a (.lst ds) (.lst (ds ++ es)) O2 O3 ∧ P .non O3) :
    wE K (tBM K "list" rExtend ta (tCons te tNil)) ρ O P := fun F σ B H e hs Q q => by
  refine h F σ B H e hs _ fun v x O1 B1 H1 p1 e1 hs1 rx => ?_
  obtain ⟨a, ds0, rfl, hm, p1⟩ := p1
  cases rx
  obtain ⟨vs0, h0, _⟩ := (hs1.own _ (List.mem_append_left _ hm)).2
  refine ⟨Or.inl ⟨rfl, vs0, Evl.sq_of h0⟩, ?_⟩
  refine p1 F σ B1 H1 (e.mono e1) hs1 _ fun u y O2 B2 H2 p2 e2 hs2 ry => ?_
  obtain ⟨ds, es, O3, rfl, hl, hp, p⟩ := p2
  obtain ⟨vs, h1, r⟩ := (hs2.own _ (List.mem_append_left _ hp.mem)).2
  cases ry with
  | lst hb rb =>
    refine ⟨a, _, vs, _, rfl, rfl, h1, hs2.ex _ _ hb, Evl.sz_of (by rw [r.length, rb.length]; exact hl), ?_⟩
    have hs3 := hs2.write (o := .lst (vs ++ _)) (hp.appR (F := F)) ⟨_, upd_same, r.append rb⟩
    exact q _ _ O3 B2 _ p (e1.trans e2) hs3 (.raw _)
end
end G
namespace G
open PySem L2 PySem.Spec PyProof.Rows
/-! ### targets -/
def wG (K : PySem.W.Frag) (g : TG) (d : D) (ρ : Rho) (O : Store) (P : Rho → Store → Prop) : Prop :=
  ∀ F v σ B H, EnvR K B σ ρ → Hs K B H (O ++ F) → Rep K B v d → ∀ Q : L2.St → Hp → Prop, (∀ σ' ρ' O' B2 H2, P ρ' O' → Ex B B2 → Hs K B2 H2 (O' ++ F) → EnvR K B2 σ' ρ' → Q σ' H2) → g v σ H Q
def wGs (K : PySem.W.Frag) (g : TGs) (ds : List D) (ρ : Rho) (O : Store) (P : Rho → Store → Prop) : Prop :=
  ∀ F vs σ B H, EnvR K B σ ρ → Hs K B H (O ++ F) → Reps K B vs ds → ∀ Q : L2.St → Hp → Prop, (∀ σ' ρ' O' B2 H2, P ρ' O' → Ex B B2 → Hs K B2 H2 (O' ++ F) → EnvR K B2 σ' ρ' → Q σ' H2) → g vs σ H Q
/-- only the slots vs are turned -/
def Outside (vs : List Nat) (σ σ' : L2.St) : Prop := σ'.length = σ.length ∧ ∀ i, i ∉ vs → σ'[i]? = σ[i]?
def GOnly (g : TG) (vs : List Nat) : Prop := ∀ v σ H Q, g v σ H Q → g v σ H fun σ' H' => Outside vs σ σ' ∧ Q σ' H'
def GsOnly (g : TGs) (vs : List Nat) : Prop := ∀ v σ H Q, g v σ H Q → g v σ H fun σ' H' => Outside vs σ σ' ∧ Q σ' H'
theorem Outside.refl (vs : List Nat) (σ : L2.St) : Outside vs σ σ := ⟨rfl, fun _ _ => rfl⟩
theorem Outside.trans {vs : List Nat} {σ σ1 σ2 : L2.St} (a : Outside vs σ σ1) (b : Outside vs σ1 σ2) : Outside vs σ σ2 := ⟨b.1.trans a.1, fun i h => (b.2 i h).trans (a.2 i h)⟩
theorem Outside.set {vs : List Nat} {σ : L2.St} {i : Nat} {o : Option V} (h : i ∈ vs) : Outside vs σ (σ.set i o) := ⟨List.length_set, fun j hj => List.getElem?_set_ne (fun e => hj (by rw [← e]; exact h))⟩
theorem wipe_get {σ : L2.St} : ∀ {vs : List Nat} {i : Nat}, (L2.wipe σ vs)[i]? = if i ∈ vs then (σ[i]?).map (fun _ => none) else σ[i]?
  | [], i => by simp [L2.wipe]
  | v :: vs, i => by
    show ((L2.wipe σ vs).set v none)[i]? = _
    by_cases h : v = i
    · subst h
      rw [List.getElem?_set, if_pos rfl]
      have hl : (L2.wipe σ vs).length = σ.length := L2.wipe_length σ vs
      by_cases h2 : v < σ.length
      · rw [if_pos (by rw [hl]; exact h2), if_pos (List.mem_cons_self), List.getElem?_eq_getElem h2]
        rfl
      · rw [if_neg (by rw [hl]; exact h2), if_pos (List.mem_cons_self), List.getElem?_eq_none (by omega)]
        rfl
    · rw [List.getElem?_set_ne h, wipe_get]
      have : (i ∈ v :: vs) ↔ i ∈ vs := by
        rw [List.mem_cons]
        constructor
        · rintro (e | e)
          · exact absurd e.symm h
          · exact e
        · exact .inr
      by_cases h3 : i ∈ vs
      · rw [if_pos h3, if_pos (this.mpr h3)]
      · rw [if_neg h3, if_neg (fun z => h3 (this.mp z))]
theorem wipe_same {σ σ' : L2.St} {vs : List Nat} (h : Outside vs (L2.wipe σ vs) σ') : L2.wipe σ' vs = L2.wipe σ vs := by
  apply List.ext_getElem?
  intro i
  rw [wipe_get, wipe_get]
  by_cases hi : i ∈ vs
  · rw [if_pos hi, if_pos hi]
    have hl : σ'.length = σ.length := by rw [h.1, L2.wipe_length]
    by_cases h2 : i < σ.length
    · rw [List.getElem?_eq_getElem h2, List.getElem?_eq_getElem (by omega)]
      rfl
    · rw [List.getElem?_eq_none (by omega), List.getElem?_eq_none (by omega)]
  · rw [if_neg hi, if_neg hi, h.2 i hi, wipe_get, if_neg hi]
theorem go_name {i : Nat} {vs : List Nat} (h : i ∈ vs) : GOnly (gName i) vs := fun v σ H Q q => ⟨Outside.set h, q⟩
theorem gs_nil {vs : List Nat} : GsOnly gNil vs := fun v σ H Q q => ⟨q.1, Outside.refl _ _, q.2⟩
section
variable {K : PySem.W.Frag} {ρ : Rho} {O O1 : Store} {vs : List Nat}
/-- a target's reading goes on under a weaker end -/
def GMono (g : TG) : Prop := ∀ v σ H Q Q', (∀ σ' H', Q σ' H' → Q' σ' H') → g v σ H Q → g v σ H Q'
def GsMono (g : TGs) : Prop := ∀ v σ H Q Q', (∀ σ' H', Q σ' H' → Q' σ' H') → g v σ H Q → g v σ H Q'
theorem gm_name {i : Nat} : GMono (gName i) := fun v σ H Q Q' m q => m _ _ q
theorem gms_nil : GsMono gNil := fun v σ H Q Q' m q => ⟨q.1, m _ _ q.2⟩
theorem gms_cons {g : TG} {u : TGs} (hg : GMono g) (hu : GsMono u) : GsMono (gCons g u) := fun v σ H Q Q' m q => by
  obtain ⟨x, r, e, q⟩ := q
  exact ⟨x, r, e, hg _ _ _ _ _ (fun σ' H' z => hu _ _ _ _ _ m z) q⟩
theorem gs_cons {g : TG} {u : TGs} (hg : GOnly g vs) (mg : GMono g) (hu : GsOnly u vs) (mu : GsMono u) : GsOnly (gCons g u) vs := fun v σ H Q q => by
  obtain ⟨x, r, e, q⟩ := q
  refine ⟨x, r, e, mg _ _ _ _ _ (fun σ' H' z => ?_) (hg _ _ _ _ q)⟩
  refine mu _ _ _ _ _ (fun σ2 H2 z2 => ⟨z.1.trans z2.1, z2.2⟩) (hu _ _ _ _ z.2)
theorem go_tup {n : Nat} {u : TGs} (hu : GsOnly u vs) : GOnly (gTup K n u) vs := fun v σ H Q q => by
  obtain ⟨a, xs, e, h, l, q⟩ := q
  exact ⟨a, xs, e, h, l, hu _ _ _ _ q⟩
theorem g_name {i : Nat} {d : D} {P : Rho → Store → Prop} (p : P (ρ.set i (some d)) O) : wG K (gName i) d ρ O P := fun F v σ B H e hs r Q q => q _ _ O B H p (Evl.Ex.refl B) hs (e.set i r)
theorem gs_nil' {P : Rho → Store → Prop} (p : P ρ O) : wGs K gNil [] ρ O P := fun F v σ B H e hs r Q q => by
  cases r
  exact ⟨rfl, q _ _ O B H p (Evl.Ex.refl B) hs e⟩
theorem gs_cons' {g : TG} {u : TGs} {d : D} {ds : List D} {P : Rho → Store → Prop} (h : wG K g d ρ O fun ρ1 O1 => wGs K u ds ρ1 O1 P) : wGs K (gCons g u) (d :: ds) ρ O P := fun F v σ B H e hs r Q q => by
  cases r with
  | cons rv rr => exact ⟨_, _, rfl, h F _ σ B H e hs rv _ fun σ1 ρ1 O1 B1 H1 p1 e1 hs1 r1 => p1 F _ σ1 B1 H1 r1 hs1 (rr.mono e1) Q fun σ2 ρ2 O2 B2 H2 p2 e2 => q σ2 ρ2 O2 B2 H2 p2 (e1.trans e2)⟩
theorem g_tup {n : Nat} {u : TGs} {ds : List D} {P : Rho → Store → Prop} (hl : ds.length = n) (h : wGs K u ds ρ O P) : wG K (gTup K n u) (.tup ds) ρ O P := fun F v σ B H e hs r Q q => by
  cases r with
  | tup hb rr => exact ⟨_, _, rfl, Evl.ex_t hs.ex hb, by rw [rr.length]; exact hl, h F _ σ B H e hs rr Q q⟩
theorem g_lst {n : Nat} {u : TGs} {ds : List D} {P : Rho → Store → Prop} (hl : ds.length = n) (h : wGs K u ds ρ O P) : wG K (gLst K n u) (.lst ds) ρ O P := fun F v σ B H e hs r Q q => by
  cases r with
  | lst hb rr => exact ⟨_, _, rfl, Evl.sq_of (hs.ex _ _ hb), by rw [rr.length]; exact hl, h F _ σ B H e hs rr Q q⟩
theorem s_asgG {te : TE} {g : TG} {PS : Out → Store → Prop} (h : wE K te ρ O fun d O1 => wG K g d ρ O1 fun ρ2 O2 => PS (.nx ρ2) O2) : wS K (tAsg te g) ρ O PS := fun F σ B H e hs Dn q =>
  h F σ B H e hs _ fun v d O1 B1 H1 p1 e1 hs1 r => p1 F v σ B1 H1 (e.mono e1) hs1 r _ fun σ2 ρ2 O2 B2 H2 p2 e2 hs2 r2 => q _ O2 B2 H2 p2 (e1.trans e2) hs2 σ2 r2
end
/-! ### what is walked -/
def ItOk (K : PySem.W.Frag) (B : Hp) (J : It) (ds : List D) : Prop := ∀ B' H' O, Ex B B' → Hs K B' H' O → ∀ i,
  (∀ d, ds[i]? = some d → J.go i H' ∧ ∀ x H2, J.yld i H' x H2 → ∃ B2, Ex B' B2 ∧ Hs K B2 H2 O ∧ Rep K B2 x d) ∧ (ds[i]? = none → J.stop i H')
def wI (K : PySem.W.Frag) (wi : TI) (ρ : Rho) (O : Store) (P : List D → Store → Prop) : Prop :=
  ∀ F σ B H, EnvR K B σ ρ → Hs K B H (O ++ F) → ∀ R : It → Hp → Prop, (∀ J ds O' B2 H2, P ds O' → Ex B B2 → Hs K B2 H2 (O' ++ F) → ItOk K B2 J ds → R J H2) → wi σ H R
section
variable {K : PySem.W.Frag} {ρ : Rho} {O O1 : Store} {P : List D → Store → Prop}
theorem itOk_list {B : Hp} {a : Addr} {xs : List V} {ds : List D} (h : B a = some (.lst xs)) (r : Reps K B xs ds) : ItOk K B (Itl K a) ds := fun B' H' O e hs i => by
  have h' : SqL K H' a xs := Evl.sq_of (hs.ex _ _ (e _ _ h))
  refine ⟨fun d hd => ?_, fun hd => ⟨xs, h', by rw [r.length]; exact List.getElem?_eq_none_iff.mp hd⟩⟩
  obtain ⟨v, hv, rv⟩ := r.get hd
  refine ⟨⟨xs, v, h', hv⟩, fun x H2 y => ?_⟩
  obtain ⟨rfl, y⟩ := y
  have := y xs h'
  rw [hv] at this
  cases this
  exact ⟨B', Evl.Ex.refl _, hs, rv.mono e⟩
theorem itOk_tup {B : Hp} {a : Addr} {xs : List V} {ds : List D} (h : SqT K B a xs) (r : Reps K B xs ds) : ItOk K B (Itt K a) ds := fun B' H' O e hs i => by
  have h' : SqT K H' a xs := Evl.ex_t hs.ex (Evl.ex_t e h)
  refine ⟨fun d hd => ?_, fun hd => ⟨xs, h', by rw [r.length]; exact List.getElem?_eq_none_iff.mp hd⟩⟩
  obtain ⟨v, hv, rv⟩ := r.get hd
  refine ⟨⟨xs, v, h', hv⟩, fun x H2 y => ?_⟩
  obtain ⟨rfl, y⟩ := y
  have := y xs h'
  rw [hv] at this
  cases this
  exact ⟨B', Evl.Ex.refl _, hs, rv.mono e⟩
def rangeD (lo : Int) (n : Nat) : List D := (List.range n).map fun (i : Nat) => D.int (lo + (i : Int))
theorem rangeD_get {lo : Int} {n i : Nat} {d : D} (h : (rangeD lo n)[i]? = some d) : i < n ∧ d = D.int (lo + i) := by
  unfold rangeD at h
  rw [List.getElem?_map] at h
  by_cases hi : i < n
  · rw [List.getElem?_range hi] at h
    simp at h
    exact ⟨hi, h.symm⟩
  · rw [List.getElem?_eq_none (by rw [List.length_range]; omega)] at h
    cases h
theorem rangeD_len {lo : Int} {n : Nat} : (rangeD lo n).length = n := by unfold rangeD; rw [List.length_map, List.length_range]
theorem itOk_range {B : Hp} {lo : Int} {n : Nat} : ItOk K B (Itr lo n) (rangeD lo n) := fun B' H' O e hs i => by
  refine ⟨fun d hd => ?_, fun hd => ?_⟩
  · obtain ⟨h1, rfl⟩ := rangeD_get hd
    refine ⟨h1, fun x H2 y => ?_⟩
    obtain ⟨rfl, rfl⟩ := y
    exact ⟨B', Evl.Ex.refl _, hs, .raw _⟩
  · have := List.getElem?_eq_none_iff.mp hd
    rw [rangeD_len] at this
    exact this
theorem i_list {tl : TE} (h : wE K tl ρ O fun d O1 => ∃ ds, d = .lst ds ∧ P ds O1) : wI K (iList K tl) ρ O P := fun F σ B H e hs R q =>
  h F σ B H e hs _ fun v d O1 B1 H1 p1 e1 hs1 r => by
    obtain ⟨ds, rfl, p⟩ := p1
    cases r with
    | lst hb r => exact ⟨_, rfl, ⟨_, Evl.sq_of (hs1.ex _ _ hb)⟩, q _ ds O1 B1 H1 p e1 hs1 (itOk_list hb r)⟩
theorem i_tup {tl : TE} (h : wE K tl ρ O fun d O1 => ∃ ds, d = .tup ds ∧ P ds O1) : wI K (iTup K tl) ρ O P := fun F σ B H e hs R q =>
  h F σ B H e hs _ fun v d O1 B1 H1 p1 e1 hs1 r => by
    obtain ⟨ds, rfl, p⟩ := p1
    cases r with
    | tup hb r => exact ⟨_, rfl, ⟨_, Evl.ex_t hs1.ex hb⟩, q _ ds O1 B1 H1 p e1 hs1 (itOk_tup hb r)⟩
theorem i_rng1 {ta : TA} (h : wA K ta ρ O fun ds O1 => ∃ n : Int, ds = [.int n] ∧ -(2 ^ 62) ≤ n ∧ n < 2 ^ 62 ∧ P (rangeD 0 n.toNat) O1) : wI K (iRng1 ta) ρ O P := fun F σ B H e hs R q =>
  h F σ B H e hs _ fun vs ds O1 B1 H1 p1 e1 hs1 r => by
    obtain ⟨n, rfl, h1, h2, p⟩ := p1
    cases r with
    | cons r1 r =>
      cases r; cases r1
      exact ⟨n, rfl, h1, h2, q _ _ O1 B1 H1 p e1 hs1 itOk_range⟩
theorem i_rng2 {ta : TA} (h : wA K ta ρ O fun ds O1 => ∃ lo n : Int, ds = [.int lo, .int n] ∧ (-(2 ^ 62) ≤ lo ∧ lo < 2 ^ 62 ∧ -(2 ^ 62) ≤ n ∧ n < 2 ^ 62) ∧ P (rangeD lo (n - lo).toNat) O1) : wI K (iRng2 ta) ρ O P := fun F σ B H e hs R q =>
  h F σ B H e hs _ fun vs ds O1 B1 H1 p1 e1 hs1 r => by
    obtain ⟨lo, n, rfl, h1, p⟩ := p1
    cases r with
    | cons r1 r =>
      cases r with
      | cons r2 r =>
        cases r; cases r1; cases r2
        exact ⟨lo, n, rfl, h1, q _ _ O1 B1 H1 p e1 hs1 itOk_range⟩
def zipD : List D → List D → List D
  | x :: xs, y :: ys => .tup [x, y] :: zipD xs ys
  | _, _ => []
theorem zipD_len : ∀ (xs ys : List D), (zipD xs ys).length = min xs.length ys.length
  | [], _ => by simp [zipD]
  | _ :: _, [] => by simp [zipD]
  | x :: xs, y :: ys => by
    show (zipD xs ys).length + 1 = _
    rw [zipD_len xs ys, List.length_cons, List.length_cons]
    omega
theorem zipD_get : ∀ {xs ys : List D} {i : Nat} {d : D}, (zipD xs ys)[i]? = some d → ∃ x y, xs[i]? = some x ∧ ys[i]? = some y ∧ d = .tup [x, y]
  | [], _, _, _, h => by simp [zipD] at h
  | _ :: _, [], _, _, h => by simp [zipD] at h
  | x :: xs, y :: ys, 0, d, h => ⟨x, y, rfl, rfl, by simp [zipD] at h; exact h.symm⟩
  | x :: xs, y :: ys, i + 1, d, h => by
    have h' : (zipD xs ys)[i]? = some d := by simpa [zipD] using h
    obtain ⟨a, b, h1, h2, h3⟩ := zipD_get h'
    exact ⟨a, b, by simpa using h1, by simpa using h2, h3⟩
theorem itOk_zipT {B : Hp} {a b : Addr} {xs ys : List V} {ds es : List D} (h : SqT K B a xs) (r : Reps K B xs ds) (h2 : SqT K B b ys) (r2 : Reps K B ys es) : ItOk K B (RZ.ItzT K a b) (zipD ds es) := fun B' H' O e hs i => by
  have h' : SqT K H' a xs := Evl.ex_t hs.ex (Evl.ex_t e h)
  have h2' : SqT K H' b ys := Evl.ex_t hs.ex (Evl.ex_t e h2)
  refine ⟨fun d hd => ?_, fun hd => ⟨xs, ys, h', h2', ?_⟩⟩
  · obtain ⟨x, y, hx, hy, rfl⟩ := zipD_get hd
    obtain ⟨v, hv, rv⟩ := r.get hx
    obtain ⟨u, hu, ru⟩ := r2.get hy
    refine ⟨⟨xs, ys, v, u, h', h2', hv, hu⟩, fun z H2 q => ?_⟩
    obtain ⟨T, v', u', rfl, hT, rfl, q1, q2⟩ := q
    have e1 := q1 xs h'
    have e2 := q2 ys h2'
    rw [hv] at e1
    rw [hu] at e2
    cases e1; cases e2
    obtain ⟨hs2, ex2⟩ := hs.new (o := .tup [v, u]) hT
    exact ⟨_, ex2, hs2, .tup (Evl.st_of upd_same) (.cons ((rv.mono e).mono ex2) (.cons ((ru.mono e).mono ex2) .nil))⟩
  · have := List.getElem?_eq_none_iff.mp hd
    rw [zipD_len] at this
    rw [r.length, r2.length]
    omega
theorem itOk_zipL {B : Hp} {a b : Addr} {xs ys : List V} {ds es : List D} (h : B a = some (.lst xs)) (r : Reps K B xs ds) (h2 : B b = some (.lst ys)) (r2 : Reps K B ys es) : ItOk K B (Itz K a b) (zipD ds es) := fun B' H' O e hs i => by
  have h' : SqL K H' a xs := Evl.sq_of (hs.ex _ _ (e _ _ h))
  have h2' : SqL K H' b ys := Evl.sq_of (hs.ex _ _ (e _ _ h2))
  refine ⟨fun d hd => ?_, fun hd => ⟨xs, ys, h', h2', ?_⟩⟩
  · obtain ⟨x, y, hx, hy, rfl⟩ := zipD_get hd
    obtain ⟨v, hv, rv⟩ := r.get hx
    obtain ⟨u, hu, ru⟩ := r2.get hy
    refine ⟨⟨xs, ys, v, u, h', h2', hv, hu⟩, fun z H2 q => ?_⟩
    obtain ⟨T, v', u', rfl, hT, rfl, q1, q2⟩ := q
    have e1 := q1 xs h'
    have e2 := q2 ys h2'
    rw [hv] at e1
    rw [hu] at e2
    cases e1; cases e2
    obtain ⟨hs2, ex2⟩ := hs.new (o := .tup [v, u]) hT
    exact ⟨_, ex2, hs2, .tup (Evl.st_of upd_same) (.cons ((rv.mono e).mono ex2) (.cons ((ru.mono e).mono ex2) .nil))⟩
  · have := List.getElem?_eq_none_iff.mp hd
    rw [zipD_len] at this
    rw [r.length, r2.length]
    omega
theorem i_zip {ta : TA} (h : wA K ta ρ O fun ds O1 => ∃ xs ys, (ds = [.tup xs, .tup ys] ∨ ds = [.lst xs, .lst ys]) ∧ P (zipD xs ys) O1) : wI K (RZ.iZipA K ta) ρ O P := fun F σ B H e hs R q =>
  h F σ B H e hs _ fun vs ds O1 B1 H1 p1 e1 hs1 r => by
    obtain ⟨xs, ys, hd, p⟩ := p1
    rcases hd with rfl | rfl
    · cases r with
      | cons r1 r =>
        cases r with
        | cons r2 r =>
          cases r
          cases r1 with
          | tup ha ra =>
            cases r2 with
            | tup hb rb => exact ⟨_, _, _, _, rfl, .inr ⟨Evl.ex_t hs1.ex ha, Evl.ex_t hs1.ex hb, q _ _ O1 B1 H1 p e1 hs1 (itOk_zipT ha ra hb rb)⟩⟩
    · cases r with
      | cons r1 r =>
        cases r with
        | cons r2 r =>
          cases r
          cases r1 with
          | lst ha ra =>
            cases r2 with
            | lst hb rb => exact ⟨_, _, _, _, rfl, .inl ⟨Evl.sq_of (hs1.ex _ _ ha), Evl.sq_of (hs1.ex _ _ hb), q _ _ O1 B1 H1 p e1 hs1 (itOk_zipL ha ra hb rb)⟩⟩
/-- over a list or a tuple, whichever it is -/
def iSeq (K : PySem.W.Frag) (tl : TE) : TI := fun σ H R => tl σ H fun x H1 => ∃ a, x = .ref a ∧ (((∃ xs, SqL K H1 a xs) ∧ R (Itl K a) H1) ∨ ((∃ xs, SqT K H1 a xs) ∧ R (Itt K a) H1))
theorem pi_seq {X : Cx} {tg l : Expr} {tl : TE} (hl : PE X l tl) : PI X tg l (iSeq X.K tl) := ⟨fun pins s σ H R I h => by
  refine thn (hl.run pins s σ H _ I h) ?_
  rintro v s1 ⟨x, H1, I1, r1, a, rfl, q1⟩
  cases r1
  have fresh : FpOk X pins H1 s1.heap.objs.size := I1.fpOk (Nat.le_refl _) (I1.hok.fresh (Nat.le_refl _))
  have one : ∀ b ∈ [s1.heap.objs.size], FpOk X pins H1 b := fun b hb => by
    rw [List.mem_singleton.mp hb]
    exact fresh
  rcases q1 with ⟨⟨xs, hq⟩, q⟩ | ⟨⟨xs, hq⟩, q⟩
  · obtain ⟨its, rv, p, hz⟩ := I1.list hq
    exact wpAny_pyIter_list p.isList ⟨_, [_], _, _, H1, rfl, I1.kept (t' := s1.toks) (fun b o e => Heap.get?_push_of_some _ e), turn_list a _, ⟨_, Heap.get?_push_size _ rfl, rfl, rfl⟩, one, q⟩
  · obtain ⟨its, rv, p, hz⟩ := I1.tuple hq
    exact wpAny_pyIter_tuple (show s1.heap.IsTuple a its.toArray from p) ⟨_, [_], _, _, H1, rfl, I1.kept (t' := s1.toks) (fun b o e => Heap.get?_push_of_some _ e), turn_tuple a _, ⟨_, Heap.get?_push_size _ rfl, rfl, rfl⟩, one, q⟩⟩
theorem i_seq {tl : TE} (h : wE K tl ρ O fun d O1 => ∃ ds, (d = .lst ds ∨ d = .tup ds) ∧ P ds O1) : wI K (iSeq K tl) ρ O P := fun F σ B H e hs R q =>
  h F σ B H e hs _ fun v d O1 B1 H1 p1 e1 hs1 r => by
    obtain ⟨ds, hd, p⟩ := p1
    rcases hd with rfl | rfl
    · cases r with
      | lst hb r => exact ⟨_, rfl, .inl ⟨⟨_, Evl.sq_of (hs1.ex _ _ hb)⟩, q _ ds O1 B1 H1 p e1 hs1 (itOk_list hb r)⟩⟩
    · cases r with
      | tup hb r => exact ⟨_, rfl, .inr ⟨⟨_, Evl.ex_t hs1.ex hb⟩, q _ ds O1 B1 H1 p e1 hs1 (itOk_tup hb r)⟩⟩
/-! ### loops -/
variable {PS : Out → Store → Prop} {tb : TS} {wi : TI} {g : TG}
def loopP (I : Nat → Rho → Store → Prop) (n : Nat) (PS : Out → Store → Prop) : Out → Store → Prop
  | .nx ρ, O => I n ρ O
  | .ct ρ, O => I n ρ O
  | .bk ρ, O => PS (.nx ρ) O
  | .ret d, O => PS (.ret d) O
theorem s_for (h : wI K wi ρ O fun ds O1 => ∃ I : Nat → Rho → Store → Prop, I 0 ρ O1 ∧ (∀ i d ρ' O', ds[i]? = some d → I i ρ' O' → wG K g d ρ' O' fun ρ2 O2 => wS K tb ρ2 O2 (loopP I (i + 1) PS)) ∧ ∀ ρ' O', I ds.length ρ' O' → PS (.nx ρ') O') :
    wS K (tFor wi g tb) ρ O PS := fun F σ B H e hs Dn q => by
  refine h F σ B H e hs _ fun J ds O1 B1 H1 p1 e1 hs1 it => ?_
  obtain ⟨I, h0, hstep, hend⟩ := p1
  let W : Nat → L2.St → Hp → Prop := fun i σ' H' => ∃ ρ' O' B', I i ρ' O' ∧ Ex B1 B' ∧ Hs K B' H' (O' ++ F) ∧ EnvR K B' σ' ρ'
  refine ⟨fun i m σ' H' => m = ds.length - i ∧ i ≤ ds.length ∧ W i σ' H', ⟨_, rfl, Nat.zero_le _, ρ, O1, B1, h0, Evl.Ex.refl _, hs1, e.mono e1⟩, ?_⟩
  rintro i m σ' H' ⟨rfl, hi, ρ', O', B', hI, eB, hs', en⟩
  have turn := it B' H' (O' ++ F) eB hs' i
  cases hd : ds[i]? with
  | none =>
    have hle := List.getElem?_eq_none_iff.mp hd
    have hii : i = ds.length := by omega
    subst hii
    exact .inl ⟨turn.2 hd, q (.nx ρ') O' B' H' (hend ρ' O' hI) (e1.trans eB) hs' σ' en⟩
  | some d =>
    have hlt : i < ds.length := (List.getElem?_eq_some_iff.mp hd).1
    obtain ⟨go, hy⟩ := turn.1 d hd
    refine .inr ⟨go, W (i + 1), fun σ2 H2 w2 => ⟨ds.length - (i + 1), by omega, rfl, hlt, w2⟩, fun x H2 y => ?_⟩
    obtain ⟨B2, e2, hs2, rx⟩ := hy x H2 y
    refine hstep i d ρ' O' hd hI F x σ' B2 H2 (en.mono e2) hs2 rx _ fun σ3 ρ3 O3 B3 H3 p3 e3 hs3 en3 => ?_
    refine p3 F σ3 B3 H3 en3 hs3 _ fun o O4 B4 H4 p4 e4 hs4 => ?_
    have eAll : Ex B1 B4 := ((eB.trans e2).trans e3).trans e4
    cases o with
    | nx ρ4 => exact fun σ4 r4 => ⟨ρ4, O4, B4, p4, eAll, hs4, r4⟩
    | ct ρ4 => exact fun σ4 r4 => ⟨ρ4, O4, B4, p4, eAll, hs4, r4⟩
    | bk ρ4 => exact q (.nx ρ4) O4 B4 H4 p4 (e1.trans eAll) hs4
    | ret d4 => exact q (.ret d4) O4 B4 H4 p4 (e1.trans eAll) hs4
/-- [e for g in .. if ..] -/
theorem e_lc {tt : TT} {te : TE} {vs : List Nat} {P : D → Store → Prop} (hg : GOnly g vs) (mg : GMono g) (h : wI K wi ρ O fun ds O1 => ds.length < 90000 ∧ ∃ I : Nat → List D → Store → Prop, I 0 [] O1 ∧
    (∀ i d acc O', ds[i]? = some d → acc.length ≤ i → I i acc O' → wG K g d (wipeR ρ vs) O' fun ρ2 O2 => wT K tt ρ2 O2 fun b O3 => (b = true → wE K te ρ2 O3 fun y O4 => I (i + 1) (acc ++ [y]) O4) ∧ (b = false → I (i + 1) acc O3)) ∧
    ∀ acc O', I ds.length acc O' → P (.lst acc) O') : wE K (tLc wi g tt te vs) ρ O P := fun F σ B H e hs Q q => by
  refine h F σ B H e hs _ fun J ds O1 B1 H1 p1 e1 hs1 it => ?_
  obtain ⟨hlen, I, h0, hstep, hend⟩ := p1
  intro Dl hDl
  let W : Nat → Hp → Prop := fun i H' => ∃ acc O' B', I i acc O' ∧ acc.length ≤ i ∧ Ex B1 B' ∧ Hs K B' H' ((Dl, Own.lst acc) :: (O' ++ F))
  refine ⟨fun i m H' => m = ds.length - i ∧ i ≤ ds.length ∧ W i H', ⟨_, rfl, Nat.zero_le _, [], O1, B1, h0, Nat.le_refl _, Evl.Ex.refl _, hs1.newOwn (w := .lst []) hDl ⟨[], upd_same, .nil⟩⟩, ?_⟩
  rintro i m H' ⟨rfl, hi, acc, O', B', hI, hal, eB, hs'⟩
  have turn := it B' H' _ eB hs' i
  cases hd : ds[i]? with
  | none =>
    have hle := List.getElem?_eq_none_iff.mp hd
    have hii : i = ds.length := by omega
    subst hii
    refine .inl ⟨turn.2 hd, ?_⟩
    obtain ⟨ws, hw, rw_⟩ := (hs'.own _ List.mem_cons_self).2
    obtain ⟨hs2, e2⟩ := hs'.freeze hw
    exact q _ _ O' _ H' (hend acc O' hI) ((e1.trans eB).trans e2) hs2 (.lst upd_same (rw_.mono e2))
  | some d =>
    have hlt : i < ds.length := (List.getElem?_eq_some_iff.mp hd).1
    obtain ⟨go, hy⟩ := turn.1 d hd
    refine .inr ⟨go, W (i + 1), fun H2 w2 => ⟨ds.length - (i + 1), by omega, rfl, hlt, w2⟩, fun x H2 y => ?_⟩
    obtain ⟨B2, e2, hs2, rx⟩ := hy x H2 y
    have hs2' : Hs K B2 H2 (O' ++ (F ++ [(Dl, Own.lst acc)])) := hs2.perm (by rw [← List.append_assoc]; exact (List.perm_append_singleton _ _).symm)
    have en0 : EnvR K B2 (L2.wipe σ vs) (wipeR ρ vs) := ((((e.mono e1).mono eB).mono e2)).wipe vs
    refine mg _ _ _ _ _ (fun σ3 H3 z => ⟨wipe_same z.1, z.2⟩) (hg _ _ _ _ ?_)
    refine hstep i d acc O' hd hal hI (F ++ [(Dl, Own.lst acc)]) x (L2.wipe σ vs) B2 H2 en0 hs2' rx _ fun σ3 ρ3 O3 B3 H3 p3 e3 hs3 en3 => ?_
    refine p3 _ σ3 B3 H3 en3 hs3 _ fun b O4 B4 H4 p4 e4 hs4 => ?_
    have back : ∀ {B5 H5 : Hp} {O5 : Store}, Hs K B5 H5 (O5 ++ (F ++ [(Dl, Own.lst acc)])) → Hs K B5 H5 ((Dl, Own.lst acc) :: (O5 ++ F)) := fun hz => hz.perm (by rw [← List.append_assoc]; exact List.perm_append_singleton _ _)
    cases b with
    | false =>
      show (if false = true then _ else _)
      rw [if_neg Bool.false_ne_true]
      exact ⟨acc, O4, B4, p4.2 rfl, by omega, ((eB.trans e2).trans e3).trans e4, back hs4⟩
    | true =>
      show (if true = true then _ else _)
      rw [if_pos rfl]
      refine p4.1 rfl _ σ3 B4 H4 (en3.mono e4) hs4 _ fun u y O5 B5 H5 p5 e5 hs5 ry => ?_
      have hs6 := back hs5
      obtain ⟨ws, hw, rws⟩ := (hs6.own _ List.mem_cons_self).2
      refine ⟨ws, hw, Evl.sz_lt (by rw [rws.length]; omega), acc ++ [y], O5, B5, p5, by rw [List.length_append]; simp; omega, (((eB.trans e2).trans e3).trans e4).trans e5, ?_⟩
      exact hs6.write (o := .lst (ws ++ [u])) .here ⟨_, upd_same, rws.append (.cons ry .nil)⟩
theorem t_yes {P : Bool → Store → Prop} (p : P true O) : wT K tYes ρ O P := fun F σ B H e hs Q q => q true O B H p (Evl.Ex.refl B) hs
end
end G
namespace G
open PySem L2 PySem.Spec PyProof.Rows
/-! ### promises over data -/
/-- a def that changes nothing of its caller's -/
def spP (K : PySem.W.Frag) (n : Nat) (W : List D → (D → Prop) → Prop) : Sp := fun vs H Q _ => ∃ F B ds P, Hs K B H F ∧ Reps K B vs ds ∧ ds.length = n ∧ W ds P ∧ ∀ v d B2 H2, P d → Ex B B2 → Hs K B2 H2 F → Rep K B2 v d → Q v H2
/-- a def that changes what is owned -/
def spW (K : PySem.W.Frag) (n : Nat) (W : List D → Store → (D → Store → Prop) → Prop) : Sp := fun vs H Q _ => ∃ F O B ds P, Hs K B H (O ++ F) ∧ Reps K B vs ds ∧ ds.length = n ∧ W ds O P ∧ ∀ v d O2 B2 H2, P d O2 → Ex B B2 → Hs K B2 H2 (O2 ++ F) → Rep K B2 v d → Q v H2
/-- an __init__; PX: the classes of the errors that leave it -/
def spI (K : PySem.W.Frag) (C : Addr) (n : Nat) (W : List D → (List (Str × D) → Prop) → (Addr → Prop) → Prop) : Sp := fun vs H Q E => ∃ x dx ws F B ds P PX, vs = V.ref x :: ws ∧ H x = some (.ins C dx []) ∧ Hs K B H ((x, .ins C []) :: F) ∧ Reps K B ws ds ∧ ds.length = n ∧ W ds P PX ∧
  (∀ fs B2 H2, P fs → Ex B B2 → Hs K B2 H2 ((x, .ins C fs) :: F) → Q .non H2) ∧ ∀ c B2 H2, PX c → Ex B B2 → Hs K B2 H2 F → E (.ref c) none H2
/-- a def that may raise -/
def spX (K : PySem.W.Frag) (n : Nat) (W : List D → (D → Prop) → (Addr → Prop) → Prop) : Sp := fun vs H Q E => ∃ F B ds P PX, Hs K B H F ∧ Reps K B vs ds ∧ ds.length = n ∧ W ds P PX ∧ (∀ v d B2 H2, P d → Ex B B2 → Hs K B2 H2 F → Rep K B2 v d → Q v H2) ∧ ∀ c B2 H2, PX c → Ex B B2 → Hs K B2 H2 F → E (.ref c) none H2
section
variable {K : PySem.W.Frag} {ρ : Rho} {O O1 : Store} {P : D → Store → Prop} {n : Nat} {E : XK}
theorem e_call {W : List D → (D → Prop) → Prop} {t : TA} (h : wA K t ρ O fun ds O1 => ds.length = n ∧ W ds fun d => P d O1) : wE K (tCall (spP K n W) [] E t) ρ O P := fun F σ B H e hs Q q =>
  h F σ B H e hs _ fun vs ds O1 B1 H1 p1 e1 hs1 r => ⟨O1 ++ F, B1, ds, _, hs1, by rw [List.append_nil]; exact r, p1.1, p1.2, fun v d B2 H2 p e2 hs2 rv => q v d O1 B2 H2 p (e1.trans e2) hs2 rv⟩
theorem e_callX {W : List D → (D → Prop) → (Addr → Prop) → Prop} {t : TA} (h : wA K t ρ O fun ds O1 => ds.length = n ∧ W ds (fun d => P d O1) fun _ => False) : wE K (tCall (spX K n W) [] E t) ρ O P := fun F σ B H e hs Q q =>
  h F σ B H e hs _ fun vs ds O1 B1 H1 p1 e1 hs1 r => ⟨O1 ++ F, B1, ds, _, _, hs1, by rw [List.append_nil]; exact r, p1.1, p1.2, fun v d B2 H2 p e2 hs2 rv => q v d O1 B2 H2 p (e1.trans e2) hs2 rv, fun _ _ _ z => z.elim⟩
/-- what a new instance's __init__ is handed -/
theorem init_pre {C : Addr} {W : List D → (List (Str × D) → Prop) → (Addr → Prop) → Prop} {B1 H1 : Hp} {F1 : Store} {vs : List V} {ds : List D} {PF : List (Str × D) → Prop} {PX : Addr → Prop} {Q : VK} (hs1 : Hs K B1 H1 F1) (r : Reps K B1 vs ds) (hn : ds.length = n) (hw : W ds PF PX)
    (q : ∀ v fs B2 H2, PF fs → Ex B1 B2 → Hs K B2 H2 F1 → Rep K B2 v (.ins C fs) → Q v H2) (qx : ∀ c B2 H2, PX c → Ex B1 B2 → Hs K B2 H2 F1 → E (.ref c) none H2) :
    ∀ x dx, H1 x = none → H1 dx = none → dx ≠ x → spI K C n W (V.ref x :: (vs ++ [])) (upd (upd H1 dx (.own x)) x (.ins C dx [])) (fun v H2 => v = .non ∧ Q (.ref x) H2) E := by
  intro x dx hx hdx hne
  have hs2 : Hs K B1 (upd H1 dx (.own x)) F1 := hs1.other hdx
  have hx2 : upd H1 dx (.own x) x = none := by rw [upd_ne (fun e => hne e.symm)]; exact hx
  have hs3 := hs2.newOwn (o := .ins C dx []) (w := .ins C []) hx2 ⟨dx, [], upd_same, .nil⟩
  refine ⟨x, dx, vs, F1, B1, ds, PF, PX, by rw [List.append_nil], upd_same, hs3, r, hn, hw, fun fs B2 H2 p e2 hs4 => ⟨rfl, ?_⟩, qx⟩
  obtain ⟨dx', us, hu, ru⟩ := (hs4.own _ List.mem_cons_self).2
  obtain ⟨hs5, e5⟩ := hs4.freeze hu
  exact q _ fs _ H2 p (e2.trans e5) hs5 (.ins upd_same (ru.mono e5))
theorem e_make {C : Addr} {W : List D → (List (Str × D) → Prop) → (Addr → Prop) → Prop} {t : TA} (h : wA K t ρ O fun ds O1 => ds.length = n ∧ W ds (fun fs => P (.ins C fs) O1) fun _ => False) : wE K (tMake C (spI K C n W) [] E t) ρ O P := fun F σ B H e hs Q q =>
  h F σ B H e hs _ fun vs ds O1 B1 H1 p1 e1 hs1 r => init_pre hs1 r p1.1 p1.2 (fun v fs B2 H2 p e2 hs2 rv => q v _ O1 B2 H2 p (e1.trans e2) hs2 rv) fun _ _ _ z => z.elim
end
section
variable {K : PySem.W.Frag} {n : Nat} {E : XK}
/-- C(..) whose __init__ may raise, with the state in hand -/
theorem makeX {C : Addr} {W : List D → (List (Str × D) → Prop) → (Addr → Prop) → Prop} {t : TA} {ρ : Rho} {σ : L2.St} {B H : Hp} {F : Store} {Q : VK} {P : D → Prop} {PX : Addr → Prop}
    (h : wA K t ρ [] fun ds O => O = [] ∧ ds.length = n ∧ W ds (fun fs => P (.ins C fs)) PX) (e : EnvR K B σ ρ) (hs : Hs K B H F)
    (q : ∀ v d B2 H2, P d → Ex B B2 → Hs K B2 H2 F → Rep K B2 v d → Q v H2) (qx : ∀ c B2 H2, PX c → Ex B B2 → Hs K B2 H2 F → E (.ref c) none H2) : tMake C (spI K C n W) [] E t σ H Q := by
  refine h F σ B H e hs _ fun vs ds O1 B1 H1 p1 e1 hs1 r => ?_
  obtain ⟨rfl, hn, hw⟩ := p1
  exact init_pre hs1 r hn hw (fun v fs B2 H2 p e2 hs2 rv => q v _ B2 H2 p (e1.trans e2) hs2 rv) fun c B2 H2 p e2 hs2 => qx c B2 H2 p (e1.trans e2) hs2
end
/-! ### a def holds its promise -/
def retP (P : D → Prop) : Out → Store → Prop
  | .ret d, _ => P d
  | .nx _, _ => P .non
  | _, _ => False
def retW (P : D → Store → Prop) : Out → Store → Prop
  | .ret d, O => P d O
  | .nx _, O => P .non O
  | _, _ => False
/-- the ends of an __init__: the instance at x -/
def retI (x C : Addr) (PF : List (Str × D) → Prop) : Out → Store → Prop
  | .nx _, O => ∃ fs, O = [(x, .ins C fs)] ∧ PF fs
  | _, _ => False
section
variable {Pr : Program} {w : World} {K : PySem.W.Frag} {mg : Str → Option Value} {base : Heap} {x qual : Str} {st : Stmt} {f : Addr} {fd : FuncData} {N ps : List Str} {k n : Nat}
theorem okP {W : List D → (D → Prop) → Prop} (F : Fun K x qual st f fd) (S : FnScope N ps (defScope st)) (hn : ps.length = n)
    (hb : ∀ (cdv : Value) (A : Around) (outer : List Env) (s : Shared) (H : Hp) (E : XK), Room k (A.deeper (envOfC qual (defScope st) s.heap.objs.size f cdv)) → ∃ t, PSs (cxOf CX0 Pr w K mg base N qual (defScope st) f cdv A outer s H E).nox (defBody st) t ∧
      ∀ ds P, ds.length = n → W ds P → wS K t (rho0 N.length ds) [] (retP P)) : FnOk Pr w K mg base CX0 (k + 1) f fd ps (spP K n W) := by
  refine F.ok S (fun vs H Q E h => ?_) (fun cdv A outer s H vs Q E hr h => ?_)
  · obtain ⟨F1, B, ds, P, _, r, hl, _⟩ := h
    rw [r.length, hl, hn]
  · obtain ⟨t, ht, hw⟩ := hb cdv A outer s H E hr
    refine ⟨t, ht, ?_⟩
    obtain ⟨F1, B, ds, P, hs, r, hl, hW, q⟩ := h
    refine hw ds P hl hW F1 _ B H (envR_start r) hs _ fun o O2 B2 H2 p e2 hs2 => ?_
    cases o with
    | nx ρ => exact fun σ _ => q _ _ B2 H2 p e2 hs2.dropL (.raw _)
    | ret d => exact fun v rv => q v d B2 H2 p e2 hs2.dropL rv
    | bk ρ => exact False.elim p
    | ct ρ => exact False.elim p
/-- an __init__ that may raise -/
theorem okI {C : Addr} {W : List D → (List (Str × D) → Prop) → (Addr → Prop) → Prop} (F : Fun K x qual st f fd) (S : FnScope N ps (defScope st)) (hn : ps.length = n + 1)
    (hb : ∀ (cdv : Value) (A : Around) (outer : List Env) (s : Shared) (H0 : Hp) (E : XK), Room k (A.deeper (envOfC qual (defScope st) s.heap.objs.size f cdv)) → ∃ t, PSs (cxOf (L2.CX Pr w) Pr w K mg base N qual (defScope st) f cdv A outer s H0 E) (defBody st) t ∧
      ∀ ds PF PX, ds.length = n → W ds PF PX → ∀ (xa : Addr) (F1 : Store) (B H : Hp) (σ : L2.St) (Q : VK), EnvR K B σ (rho0 N.length (.loc xa :: ds)) → Hs K B H ((xa, .ins C []) :: F1) →
      (∀ fs B2 H2, PF fs → Ex B B2 → Hs K B2 H2 ((xa, .ins C fs) :: F1) → Q .non H2) → (∀ c B2 H2, PX c → Ex B B2 → Hs K B2 H2 F1 → E (.ref c) none H2) → t { nx := fun _ H' => Q .non H', rt := Q } σ H) :
    FnOk Pr w K mg base (L2.CX Pr w) (k + 1) f fd ps (spI K C n W) := by
  refine F.okX S (fun vs H Q E h => ?_) (fun cdv A outer s H vs Q E hr h => ?_)
  · obtain ⟨xa, dx, ws, F1, B, ds, PF, PX, rfl, _, _, r, hl, _⟩ := h
    rw [List.length_cons, r.length, hl, hn]
  · obtain ⟨t, ht, hw⟩ := hb cdv A outer s H E hr
    refine ⟨t, ht, ?_⟩
    obtain ⟨xa, dx, ws, F1, B, ds, PF, PX, rfl, hx, hs, r, hl, hW, q, qx⟩ := h
    exact hw ds PF PX hl hW xa F1 B H _ Q (envR_start (.cons (.raw _) r)) hs q qx
/-- the rest of an __init__ -/
theorem init_rest {C xa : Addr} {PF : List (Str × D) → Prop} {t : TS} {ρ : Rho} {B0 B H : Hp} {σ : L2.St} {F1 : Store} {Q : VK} (h : wS K t ρ [(xa, .ins C [])] (retI xa C PF)) (e : EnvR K B σ ρ) (hs : Hs K B H ((xa, .ins C []) :: F1)) (e0 : Ex B0 B)
    (q : ∀ fs B2 H2, PF fs → Ex B0 B2 → Hs K B2 H2 ((xa, .ins C fs) :: F1) → Q .non H2) : t { nx := fun _ H' => Q .non H', rt := Q } σ H := by
  refine h F1 σ B H e hs _ fun o O2 B2 H2 p e2 hs2 => ?_
  cases o with
  | nx ρ =>
    obtain ⟨fs, rfl, pf⟩ := p
    exact fun _ _ => q fs B2 H2 pf (e0.trans e2) hs2
  | ret d => exact False.elim p
  | bk ρ => exact False.elim p
  | ct ρ => exact False.elim p
theorem okX {W : List D → (D → Prop) → (Addr → Prop) → Prop} (F : Fun K x qual st f fd) (S : FnScope N ps (defScope st)) (hn : ps.length = n)
    (hb : ∀ (cdv : Value) (A : Around) (outer : List Env) (s : Shared) (H0 : Hp) (E : XK), Room k (A.deeper (envOfC qual (defScope st) s.heap.objs.size f cdv)) → ∃ t, PSs (cxOf (L2.CX Pr w) Pr w K mg base N qual (defScope st) f cdv A outer s H0 E) (defBody st) t ∧
      ∀ ds P PX, ds.length = n → W ds P PX → ∀ (F1 : Store) (B H : Hp) (σ : L2.St) (Q : VK), EnvR K B σ (rho0 N.length ds) → Hs K B H F1 →
      (∀ v d B2 H2, P d → Ex B B2 → Hs K B2 H2 F1 → Rep K B2 v d → Q v H2) → (∀ c B2 H2, PX c → Ex B B2 → Hs K B2 H2 F1 → E (.ref c) none H2) → t { nx := fun _ H' => Q .non H', rt := Q } σ H) :
    FnOk Pr w K mg base (L2.CX Pr w) (k + 1) f fd ps (spX K n W) := by
  refine F.okX S (fun vs H Q E h => ?_) (fun cdv A outer s H vs Q E hr h => ?_)
  · obtain ⟨F1, B, ds, P, PX, _, r, hl, _⟩ := h
    rw [r.length, hl, hn]
  · obtain ⟨t, ht, hw⟩ := hb cdv A outer s H E hr
    refine ⟨t, ht, ?_⟩
    obtain ⟨F1, B, ds, P, PX, hs, r, hl, hW, q, qx⟩ := h
    exact hw ds P PX hl hW F1 B H _ Q (envR_start r) hs q qx
/-- tests ahead of the rest, with the state in hand -/
theorem t_run {K : PySem.W.Frag} {tt : TT} {ρ : Rho} {O F : Store} {P : Bool → Store → Prop} {σ : L2.St} {B H : Hp} {Q : Bool → Hp → Prop} (h : wT K tt ρ O P) (e : EnvR K B σ ρ) (hs : Hs K B H (O ++ F)) (q : FinT K B F P Q) : tt σ H Q := h F σ B H e hs Q q
end
/-! ### an own class, its operators -/
structure KC (K : PySem.W.Frag) (C : Addr) : Prop where
  cl : Cls K C
  ha : PySem.W.findIn K (.ref C) "__class__" = some (some (.builtin "object.__class__"))
  hn : PySem.W.specialIn K (.builtin "object.__class__") "__get__" = some (some (.builtin "getset_descriptor.__get__"))
  htk : PySem.W.takesIn K (.builtin "object.__class__") = some true
  hm : PySem.W.mroIn K C (.type "object") = some true
/-- an operator of an own class: x of the class, y of the class too -/
def rOwn (C : Addr) (sp : Sp) (E : XK) : R2 := fun x y H Q => ∃ a b dx dy fs gs, x = .ref a ∧ y = .ref b ∧ H a = some (.ins C dx fs) ∧ H b = some (.ins C dy gs) ∧ sp [x, y] H Q E
def rOwn1 (C : Addr) (sp : Sp) (E : XK) : V → Hp → VK → Prop := fun x H Q => ∃ a dx fs, x = .ref a ∧ H a = some (.ins C dx fs) ∧ sp [x] H Q E
theorem back_of {X : Cx} {pins : List (Addr × Obj)} {σ : L2.St} {Q : VK} {u : Value} {s' : Shared} (h : EP X pins σ Q u s') : PySem.W.CmpBack (EP X pins σ Q) u s' := by
  obtain ⟨v, H', I, r, q⟩ := id h
  cases v with
  | non => cases (show u = Value.none from r); exact h
  | bl b => cases (show u = Value.bool b from r); exact h
  | int i => obtain ⟨t, rfl⟩ := (show ∃ t, u = Value.int i t from r); exact h
  | str z => obtain ⟨t, rfl⟩ := (show ∃ t, u = Value.str z t from r); exact h
  | byt z => obtain ⟨t, rfl⟩ := (show ∃ t, u = Value.bytes z t from r); exact h
  | flt z => obtain ⟨t, rfl⟩ := (show ∃ t, u = Value.float z t from r); exact h
  | ref a => cases (show u = Value.ref a from r); exact h
  | ty n => cases (show u = Value.type n from r); exact h
section
variable {X : Cx} {CX : CXT} {k : Nat} {f C : Addr} {fd : FuncData} {ps : List Str} {sp : Sp} {E : XK}
theorem op_own {op : Operator} (F : FnOk X.prog X.w X.K X.mg X.base CX k f fd ps sp) (hr : Room k X.A) (hb : Binds X.K fd ps []) (hx : Passes CX X E) (hc : PySem.W.selfFirst X.K C = true) (hs : PySem.W.findIn X.K (.ref C) (PySem.dunder op.info.2) = some (some (.ref f))) (hf : PySem.W.isFn X.K (.ref f) = true) :
    OpR X (binaryOp op) (rOwn C sp E) := by
  intro pins s σ H x y v u Q I rx ry h
  obtain ⟨a, b, dx, dy, fs, gs, rfl, rfl, ha, hb', q⟩ := h
  cases rx; cases ry
  obtain ⟨mA, J, _⟩ := ins_get I.hok ha
  obtain ⟨mB, J', _⟩ := ins_get I.hok hb'
  obtain ⟨od, J, _⟩ := J.look
  obtain ⟨od', J', _⟩ := J'.look
  obtain ⟨m, hF⟩ := I.fr
  refine PySem.W.binop_K hF I.ok.mod.kin J J'.type hc hs hf ?_
  exact thn (run_fn (vs := [.ref a, .ref b]) (us := [.ref a, .ref b]) F hr hb .nil hx I (.cons rfl (.cons rfl .nil)) q) fun _ _ z => back_of z
theorem op_cmpOwn {op : CmpOp} (F : FnOk X.prog X.w X.K X.mg X.base CX k f fd ps sp) (hr : Room k X.A) (hb : Binds X.K fd ps []) (hx : Passes CX X E) (hs : PySem.W.findIn X.K (.ref C) (cmpInfo op).2.1 = some (some (.ref f))) (hf : PySem.W.isFn X.K (.ref f) = true)
    (hop : ∀ v u, compareOp op v u = richCompare op v u) : OpR X (compareOp op) (rOwn C sp E) := by
  intro pins s σ H x y v u Q I rx ry h
  obtain ⟨a, b, dx, dy, fs, gs, rfl, rfl, ha, hb', q⟩ := h
  cases rx; cases ry
  rw [hop]
  obtain ⟨mA, J, _⟩ := ins_get I.hok ha
  obtain ⟨mB, J', _⟩ := ins_get I.hok hb'
  obtain ⟨od, J, _⟩ := J.look
  obtain ⟨od', J', _⟩ := J'.look
  obtain ⟨m, hF⟩ := I.fr
  refine PySem.W.cmp_K hr.units0 hF I.ok.mod.kin J J'.type (by simp [PySem.W.notFirst]) hs hf ?_
  exact thn (run_fn (vs := [.ref a, .ref b]) (us := [.ref a, .ref b]) F hr hb .nil hx I (.cons rfl (.cons rfl .nil)) q) fun _ _ z => back_of z
theorem un_own (F : FnOk X.prog X.w X.K X.mg X.base CX k f fd ps sp) (hr : Room k X.A) (hb : Binds X.K fd ps []) (hx : Passes CX X E) (hs : PySem.W.findIn X.K (.ref C) "__neg__" = some (some (.ref f))) (hf : PySem.W.isFn X.K (.ref f) = true) :
    UnR X (unaryOp .USub) (rOwn1 C sp E) := by
  intro pins s σ H x v Q I rx h
  obtain ⟨a, dx, fs, rfl, ha, q⟩ := h
  cases rx
  obtain ⟨mA, J, _⟩ := ins_get I.hok ha
  obtain ⟨od, J, _⟩ := J.look
  obtain ⟨m, hF⟩ := I.fr
  refine PySem.W.ksp_neg hF I.ok.mod.kin J hs hf ?_
  exact run_fn (vs := [.ref a]) (us := [.ref a]) F hr hb .nil hx I (.cons rfl .nil) q
end
section
variable {K : PySem.W.Frag} {O O1 : Store} {P : D → Store → Prop} {C : Addr} {E : XK}
theorem r_own {W : List D → (D → Prop) → Prop} {fs gs : List (Str × D)} (h : W [.ins C fs, .ins C gs] fun d => P d O) : wR K (rOwn C (spP K 2 W) E) (.ins C fs) (.ins C gs) O P := fun F v u B H rx ry hs Q q => by
  have rx' := rx
  have ry' := ry
  cases rx with
  | ins h1 r1 =>
    cases ry with
    | ins h2 r2 => exact ⟨_, _, _, _, _, _, rfl, rfl, hs.ex _ _ h1, hs.ex _ _ h2, O ++ F, B, _, _, hs, .cons rx' (.cons ry' .nil), rfl, h, fun v d B2 H2 p e hs2 rv => q v d O B2 H2 p e hs2 rv⟩
theorem r_own1 {W : List D → (D → Prop) → Prop} {fs : List (Str × D)} (h : W [.ins C fs] fun d => P d O) : wU K (rOwn1 C (spP K 1 W) E) (.ins C fs) O P := fun F v B H rx hs Q q => by
  have rx' := rx
  cases rx with
  | ins h1 r1 => exact ⟨_, _, _, rfl, hs.ex _ _ h1, O ++ F, B, _, _, hs, .cons rx' .nil, rfl, h, fun v d B2 H2 p e hs2 rv => q v d O B2 H2 p e hs2 rv⟩
end
/-! ### a method of an own class; built-ins -/
section
variable {K : PySem.W.Frag} {ρ : Rho} {O O1 : Store} {P : D → Store → Prop} {C : Addr} {E : XK} {n : Nat}
theorem e_methX {m : Str} {W : List D → (D → Prop) → (Addr → Prop) → Prop} {to : TE} {t : TA} (h : wE K to ρ O fun x O1 => ∃ fs, x = .ins C fs ∧ fs.lookup m = none ∧ wA K t ρ O1 fun ds O2 => ds.length + 1 = n ∧ W (x :: ds) (fun d => P d O2) fun _ => False) : wE K (tMeth C m (spX K n W) [] E to t) ρ O P := fun F σ B H e hs Q q =>
  h F σ B H e hs _ fun v x O1 B1 H1 p1 e1 hs1 rx => by
    obtain ⟨fs, rfl, hl, p⟩ := p1
    have rx' := rx
    cases rx with
    | ins h1 r1 =>
      refine ⟨_, _, _, rfl, hs1.ex _ _ h1, r1.look0 hl, p F σ B1 H1 (e.mono e1) hs1 _ fun vs ds O2 B2 H2 p2 e2 hs2 rs => ?_⟩
      exact ⟨O2 ++ F, B2, _ :: ds, _, _, hs2, by rw [List.append_nil]; exact .cons (rx'.mono e2) rs, p2.1, p2.2, fun v d B3 H3 p3 e3 hs3 rv => q v d O2 B3 H3 p3 ((e1.trans e2).trans e3) hs3 rv, fun _ _ _ z => z.elim⟩
theorem c_len {d : D} {ds : List D} (hd : d = .lst ds ∨ d = .tup ds ∨ d = .fz ds) (p : P (.int ds.length) O) : wC K (Evl.rLenS K) [d] O P := fun F vs B H r hs Q q => by
  cases r with
  | cons r1 r =>
    cases r
    rcases hd with rfl | rfl | rfl
    · cases r1 with
      | lst h r => exact ⟨_, _, rfl, .inl (Evl.sq_of (hs.ex _ _ h)), by rw [r.length]; exact q.here hs (.raw _) p⟩
    · cases r1 with
      | tup h r => exact ⟨_, _, rfl, .inr (Evl.ex_t hs.ex h), by rw [r.length]; exact q.here hs (.raw _) p⟩
    · cases r1 with
      | fz h r => exact ⟨_, _, rfl, .inl (Evl.ex_l hs.ex h), by rw [r.length]; exact q.here hs (.raw _) p⟩
def rInt1 : List V → Hp → VK → Prop := fun xs H Q => (∃ i, xs = [.int i] ∧ Q (.int i) H) ∨ ∃ k, xs = [.bl k] ∧ Q (.int (if k then 1 else 0)) H
theorem c_int {i : Int} (p : P (.int i) O) : wC K rInt1 [.int i] O P := fun F vs B H r hs Q q => by
  cases r with
  | cons r1 r =>
    cases r; cases r1
    exact .inl ⟨i, rfl, q.here hs (.raw _) p⟩
theorem c_intB {b : Bool} (p : P (.int (if b then 1 else 0)) O) : wC K rInt1 [.bl b] O P := fun F vs B H r hs Q q => by
  cases r with
  | cons r1 r =>
    cases r; cases r1
    exact .inr ⟨b, rfl, q.here hs (.raw _) p⟩
def rAbs : List V → Hp → VK → Prop := fun xs H Q => ∃ i, xs = [.int i] ∧ Q (.int (if i < 0 then -i else i)) H
theorem c_gcd {i j : Int} (p : P (.int ((Nat.gcd i.natAbs j.natAbs : Nat) : Int)) O) : wC K rGcd [.int i, .int j] O P := fun F vs B H r hs Q q => by
  cases r with
  | cons r1 r =>
    cases r with
    | cons r2 r =>
      cases r; cases r1; cases r2
      exact ⟨i, j, rfl, q.here hs (.raw _) p⟩
/-- tuple(xs), list(xs) -/
def rTupOf (K : PySem.W.Frag) : List V → Hp → VK → Prop := fun xs H Q => ∃ p ys, xs = [.ref p] ∧ ((SqL K H p ys ∧ ∀ l, H l = none → Q (.ref l) (upd H l (.tup ys))) ∨ (SqT K H p ys ∧ Q (.ref p) H))
theorem c_tup {ds : List D} (p : P (.tup ds) O) : wC K (rTupOf K) [.lst ds] O P := fun F vs B H r hs Q q => by
  cases r with
  | cons r1 r =>
    cases r
    cases r1 with
    | lst h r =>
      refine ⟨_, _, rfl, .inl ⟨Evl.sq_of (hs.ex _ _ h), fun l hl => ?_⟩⟩
      obtain ⟨hs2, e2⟩ := hs.new (o := .tup _) hl
      exact q _ _ O _ _ p e2 hs2 (.tup (Evl.st_of upd_same) (r.mono e2))
/-- the class of a datum -/
inductive TyD (K : PySem.W.Frag) : D → Value → Prop where
  | non : TyD K .non (.type "NoneType")
  | bl (b : Bool) : TyD K (.bl b) (.type "bool")
  | int (i : Int) : TyD K (.int i) (.type "int")
  | str (z : Str) : TyD K (.str z) (.type "str")
  | tup (ds : List D) : TyD K (.tup ds) (.type "tuple")
  | lst (ds : List D) : TyD K (.lst ds) (.type "list")
  | ins (C : Addr) (fs : List (Str × D)) (k : KC K C) : TyD K (.ins C fs) (.ref C)
  | dct : TyD K .dct (.type "dict")
theorem TyD.ok {B H : Hp} {v : V} {d : D} {t : Value} (y : TyD K d t) (r : Rep K B v d) (e : Ex B H) : TyX K H v t := by
  cases y with
  | non => cases r; exact .base .non
  | bl b => cases r; exact .base (.bl b)
  | int i => cases r; exact .base (.int i)
  | str z => cases r; exact .base (.str z)
  | tup ds =>
    cases r with
    | tup h r =>
      rcases h with (h | ⟨o, h⟩) | ⟨o, its, n, h1, h2, _⟩
      · exact .base (.tup (e _ _ h))
      · exact .fTuple (e _ _ h)
      · exact .kTuple h1 h2
  | lst ds =>
    cases r with
    | lst h r => exact .base (.lst (e _ _ h))
  | ins C fs k =>
    cases r with
    | ins h r => exact .base (.ins (e _ _ h) k.cl k.ha k.hn k.htk k.hm)
  | dct =>
    cases r with
    | dct h => exact .base (.dK (e _ _ h))
theorem c_isi {d : D} {c : V} {t u : Value} {b : Bool} (y : TyD K d t) (hc : ClsV c u) (hk : PySem.W.kitOne K t u = some b) (p : P (.bl b) O) : wC K (rIsi K) [d, .raw c] O P := fun F vs B H r hs Q q => by
  cases r with
  | cons r1 r =>
    cases r with
    | cons r2 r =>
      cases r; cases r2
      exact ⟨_, c, t, u, b, rfl, hc, y.ok r1 hs.ex, hk, q.here hs (.raw _) p⟩
end
end G
/-! Quotients: the rational numbers of core Lean. -/
namespace G
open PySem L2
/-- a quotient of the class at C -/
abbrev dQ (C : Addr) (q : Rat) : D := .ins C [("top", .int q.num), ("bottom", .int (q.den : Int))]
theorem gcd_nat (t b : Int) : ((Nat.gcd t.natAbs b.natAbs : Nat) : Int) = ((b.gcd t : Nat) : Int) := by
  rw [Int.gcd_comm]
  rfl
/-- lowest terms as the program reckons them -/
def common (t b : Int) : Int := if b < 0 then -((Nat.gcd t.natAbs b.natAbs : Nat) : Int) else ((Nat.gcd t.natAbs b.natAbs : Nat) : Int)
theorem gcd_pos' {t b : Int} (hb : b ≠ 0) : 0 < Nat.gcd t.natAbs b.natAbs := Nat.gcd_pos_of_pos_right _ (by omega)
theorem common_ne {t b : Int} (hb : b ≠ 0) : common t b ≠ 0 := by
  have := gcd_pos' (t := t) hb
  unfold common
  split <;> omega
theorem common_le {t b : Int} (hb : b ≠ 0) : (common t b).natAbs ≤ b.natAbs := by
  have h1 : Nat.gcd t.natAbs b.natAbs ≤ b.natAbs := Nat.gcd_le_right _ (by omega)
  unfold common
  split <;> omega
theorem dvd_top (t b : Int) : ((Nat.gcd t.natAbs b.natAbs : Nat) : Int) ∣ t := by
  have := Nat.gcd_dvd_left t.natAbs b.natAbs
  exact Int.ofNat_dvd_left.mpr this
theorem dvd_bot (t b : Int) : ((Nat.gcd t.natAbs b.natAbs : Nat) : Int) ∣ b := by
  have := Nat.gcd_dvd_right t.natAbs b.natAbs
  exact Int.ofNat_dvd_left.mpr this
theorem quo_num {t b : Int} (hb : b ≠ 0) : t.fdiv (common t b) = (Rat.divInt t b).num := by
  rw [Rat.num_divInt, ← gcd_nat]
  have hd := dvd_top t b
  unfold common
  split
  · rename_i h
    rw [Int.fdiv_eq_ediv_of_dvd (Int.neg_dvd.mpr hd), Int.sign_eq_neg_one_of_neg h, Int.ediv_neg, Int.neg_mul, Int.one_mul, Int.neg_ediv_of_dvd hd]
  · rename_i h
    rw [Int.fdiv_eq_ediv_of_dvd hd, Int.sign_eq_one_of_pos (by omega), Int.one_mul]
theorem quo_den {t b : Int} (hb : b ≠ 0) : b.fdiv (common t b) = ((Rat.divInt t b).den : Int) := by
  rw [Rat.den_divInt, if_neg hb]
  have hg : b.gcd t = Nat.gcd t.natAbs b.natAbs := by rw [Int.gcd_comm]; rfl
  rw [hg]
  have hd := dvd_bot t b
  unfold common
  split
  · rename_i h
    rw [Int.fdiv_eq_ediv_of_dvd (Int.neg_dvd.mpr hd), Int.ediv_neg]
    have e : b = -(b.natAbs : Int) := by omega
    rw [Int.natCast_ediv]
    conv => lhs; rw [e]
    rw [Int.neg_ediv_of_dvd (by rw [← Int.dvd_neg, ← e]; exact hd), Int.neg_neg]
    simp
  · rename_i h
    rw [Int.fdiv_eq_ediv_of_dvd hd]
    have e : b = (b.natAbs : Int) := by omega
    rw [Int.natCast_ediv]
    conv => lhs; rw [e]
    simp
theorem den_ne (x : Rat) : (x.den : Int) ≠ 0 := by have := x.den_nz; omega
theorem den_mul_ne (x y : Rat) : (x.den : Int) * (y.den : Int) ≠ 0 := Int.mul_ne_zero (den_ne x) (den_ne y)
theorem q_add (x y : Rat) : Rat.divInt (x.num * (y.den : Int) + y.num * (x.den : Int)) ((x.den : Int) * (y.den : Int)) = x + y := by
  rw [← Rat.divInt_add_divInt _ _ (den_ne x) (den_ne y), Rat.num_divInt_den, Rat.num_divInt_den]
theorem q_sub (x y : Rat) : Rat.divInt (x.num * (y.den : Int) - y.num * (x.den : Int)) ((x.den : Int) * (y.den : Int)) = x - y := by
  rw [← Rat.divInt_sub_divInt _ _ (den_ne x) (den_ne y), Rat.num_divInt_den, Rat.num_divInt_den]
theorem q_mul (x y : Rat) : Rat.divInt (x.num * y.num) ((x.den : Int) * (y.den : Int)) = x * y := by
  rw [← Rat.divInt_mul_divInt _ _, Rat.num_divInt_den, Rat.num_divInt_den]
theorem q_neg (x : Rat) : Rat.divInt (-x.num) (x.den : Int) = -x := by
  rw [← Rat.neg_divInt, Rat.num_divInt_den]
theorem q_over (x y : Rat) : Rat.divInt (x.num * (y.den : Int)) ((x.den : Int) * y.num) = x / y := by
  rw [← Rat.divInt_mul_divInt, Rat.num_divInt_den, Rat.div_def, Rat.inv_def]
theorem q_whole (n : Int) : Rat.divInt n 1 = (n : Rat) := by
  rw [Rat.divInt_eq_div, Rat.intCast_one]
  grind
theorem q_eq (x y : Rat) : (decide (x.num = y.num) && decide ((x.den : Int) = (y.den : Int))) = decide (x = y) := by
  rw [Bool.eq_iff_iff]
  simp
  constructor
  · rintro ⟨h1, h2⟩
    exact Rat.ext h1 (by omega)
  · rintro rfl
    exact ⟨rfl, rfl⟩
theorem q_lt (x y : Rat) : decide (x.num * (y.den : Int) < y.num * (x.den : Int)) = decide (x < y) := by
  rw [Bool.eq_iff_iff]
  simp only [decide_eq_true_eq]
  exact (Rat.lt_iff x y).symm
theorem q_le (x y : Rat) : decide (x.num * (y.den : Int) ≤ y.num * (x.den : Int)) = decide (x ≤ y) := by
  rw [Bool.eq_iff_iff]
  simp only [decide_eq_true_eq]
  exact (Rat.le_iff x y).symm
/-! ### sizes -/
def bits (q : Rat) (n : Nat) : Prop := q.num.natAbs < 2 ^ n ∧ q.den < 2 ^ n
theorem divInt_le {t b : Int} (h : b ≠ 0) : (Rat.divInt t b).num.natAbs ≤ t.natAbs ∧ (Rat.divInt t b).den ≤ b.natAbs := by
  constructor
  · rw [← quo_num h]
    have hd := dvd_top t b
    have hc : common t b ∣ t := by
      unfold common
      split
      · exact Int.neg_dvd.mpr hd
      · exact hd
    rw [Int.fdiv_eq_ediv_of_dvd hc]
    have hn := common_ne (t := t) h
    generalize common t b = c at hc hn
    obtain ⟨k, rfl⟩ := hc
    rw [Int.mul_ediv_cancel_left _ hn, Int.natAbs_mul]
    exact Nat.le_mul_of_pos_left _ (by omega)
  · rw [Rat.den_divInt, if_neg h]
    exact Nat.div_le_self _ _
theorem bits_divInt {t b : Int} {n : Nat} (h : b ≠ 0) (h1 : t.natAbs < 2 ^ n) (h2 : b.natAbs < 2 ^ n) : bits (Rat.divInt t b) n := by
  have := divInt_le (t := t) h
  exact ⟨Nat.lt_of_le_of_lt this.1 h1, Nat.lt_of_le_of_lt this.2 h2⟩
theorem bits_mono {q : Rat} {m n : Nat} (h : bits q m) (k : m ≤ n) : bits q n := by
  have : 2 ^ m ≤ 2 ^ n := Nat.pow_le_pow_right (by omega) k
  exact ⟨Nat.lt_of_lt_of_le h.1 this, Nat.lt_of_lt_of_le h.2 this⟩
theorem mul_lt' {a b m n : Nat} (h1 : a < 2 ^ m) (h2 : b < 2 ^ n) : a * b < 2 ^ (m + n) := by
  rw [Nat.pow_add]
  exact Nat.mul_lt_mul'' h1 h2
theorem natAbs_mul_lt {a b : Int} {m n : Nat} (h1 : a.natAbs < 2 ^ m) (h2 : b.natAbs < 2 ^ n) : (a * b).natAbs < 2 ^ (m + n) := by
  rw [Int.natAbs_mul]
  exact mul_lt' h1 h2
theorem natAbs_add_lt {a b : Int} {n : Nat} (h1 : a.natAbs < 2 ^ n) (h2 : b.natAbs < 2 ^ n) : (a + b).natAbs < 2 ^ (n + 1) := by
  have : 2 ^ (n + 1) = 2 ^ n + 2 ^ n := by rw [Nat.pow_succ]; omega
  omega
theorem natAbs_sub_lt {a b : Int} {n : Nat} (h1 : a.natAbs < 2 ^ n) (h2 : b.natAbs < 2 ^ n) : (a - b).natAbs < 2 ^ (n + 1) := by
  have : 2 ^ (n + 1) = 2 ^ n + 2 ^ n := by rw [Nat.pow_succ]; omega
  omega
theorem bits_den {x : Rat} {m : Nat} (h : bits x m) : ((x.den : Int)).natAbs < 2 ^ m := by
  have := h.2
  simpa using this
theorem lt_succ {a n : Nat} (h : a < 2 ^ n) : a < 2 ^ (n + 1) := Nat.lt_of_lt_of_le h (Nat.pow_le_pow_right (by omega) (by omega))
theorem bits_add {x y : Rat} {m n : Nat} (h : bits x m) (k : bits y n) : bits (x + y) (m + n + 1) := by
  rw [← q_add]
  refine bits_divInt (den_mul_ne x y) ?_ (lt_succ (natAbs_mul_lt (bits_den h) (bits_den k)))
  refine natAbs_add_lt (natAbs_mul_lt h.1 (bits_den k)) ?_
  rw [Nat.add_comm]
  exact natAbs_mul_lt k.1 (bits_den h)
theorem bits_sub {x y : Rat} {m n : Nat} (h : bits x m) (k : bits y n) : bits (x - y) (m + n + 1) := by
  rw [← q_sub]
  refine bits_divInt (den_mul_ne x y) ?_ (lt_succ (natAbs_mul_lt (bits_den h) (bits_den k)))
  refine natAbs_sub_lt (natAbs_mul_lt h.1 (bits_den k)) ?_
  rw [Nat.add_comm]
  exact natAbs_mul_lt k.1 (bits_den h)
theorem bits_mul {x y : Rat} {m n : Nat} (h : bits x m) (k : bits y n) : bits (x * y) (m + n) := by
  rw [← q_mul]
  exact bits_divInt (den_mul_ne x y) (natAbs_mul_lt h.1 k.1) (natAbs_mul_lt (bits_den h) (bits_den k))
theorem bits_neg {x : Rat} {m : Nat} (h : bits x m) : bits (-x) m := by
  unfold bits
  rw [Rat.neg_num, Rat.neg_den, Int.natAbs_neg]
  exact h
theorem bits_over {x y : Rat} {m n : Nat} (hy : y ≠ 0) (h : bits x m) (k : bits y n) : bits (x / y) (m + n) := by
  rw [← q_over]
  have : y.num ≠ 0 := fun e => hy (Rat.num_eq_zero.mp e)
  exact bits_divInt (Int.mul_ne_zero (den_ne x) this) (natAbs_mul_lt h.1 (bits_den k)) (natAbs_mul_lt (bits_den h) k.1)
theorem bits_whole {n : Int} {m : Nat} (h : n.natAbs < 2 ^ m) (hm : 0 < m) : bits (n : Rat) m := by
  refine ⟨by simpa using h, ?_⟩
  have : (2 : Nat) ^ 1 ≤ 2 ^ m := Nat.pow_le_pow_right (by omega) hm
  simp
  omega
theorem bits_zero : bits 0 1 := ⟨by decide, by decide⟩
theorem bits_one : bits 1 1 := ⟨by decide, by decide⟩
/-- what products of a quotient's parts ask -/
theorem wide_q {a b : Int} {m n : Nat} (h1 : a.natAbs < 2 ^ m) (h2 : b.natAbs < 2 ^ n) (h : m + n ≤ 900000) : CMulW a b :=
  wide_mul (lt_succ h1) (lt_succ h2) (by omega) (by omega) (by omega)
theorem small_of {a n : Nat} (h : a < 2 ^ n) (hn : n ≤ 8990) : a < 2 ^ 8990 := Nat.lt_of_lt_of_le h (Nat.pow_le_pow_right (by omega) hn)
theorem one_small : (1 : Int).natAbs < 2 ^ 8990 := small_of (n := 1) (by decide) (by decide)
theorem dec_ints {i j : Int} : decide (V.int i = V.int j) = decide (i = j) := by
  rw [Bool.eq_iff_iff]
  simp
/-- // by a number other than 0 -/
def CDivG (_ j : Int) : Prop := j ≠ 0 ∧ j.natAbs.log2 < 9000
theorem op_fdivG {X : Cx} : OpR X (binaryOp .FloorDiv) (rI CDivG fun i j => .int (i.fdiv j)) := opI fun _ _ _ _ _ _ _ hc q => PyProof.Rows.floordiv_int hc.1 q (.inl (PyProof.noPylong_of_log2 hc.2))
theorem cdivG {i j : Int} (h : j ≠ 0) {n : Nat} (hb : j.natAbs < 2 ^ n) (hn : n ≤ 8999) : CDivG i j := by
  refine ⟨h, ?_⟩
  have := PySem.Flt.log2_lt_of (by omega) (lt_succ hb)
  omega
end G
/-! The law's own ends; the script's cells. -/
namespace G
open PySem L2 PySem.Spec PyProof.Rows
def spLaw (K : PySem.W.Frag) : Sp := fun vs H Q _ => ∃ (a : Addr) (ns : List Int), vs = [.ref a] ∧ SqL K H a (ns.map V.int) ∧ ns.length ≤ 63 ∧ ∀ H', Q (.bl true) H'
def scr (ns : List Int) : D := .fz ((ns.map V.int).map D.raw)
section
variable {Pr : Program} {w : World} {K : PySem.W.Frag} {mg : Str → Option Value} {base : Heap} {x qual : Str} {st : Stmt} {f : Addr} {fd : FuncData} {N ps : List Str} {k n : Nat}
theorem okLaw (F : Fun K x qual st f fd) (S : FnScope N ps (defScope st)) (hn : ps.length = 1)
    (hb : ∀ (cdv : Value) (A : Around) (outer : List Env) (s : Shared) (H : Hp) (E : XK), Room k (A.deeper (envOfC qual (defScope st) s.heap.objs.size f cdv)) → ∃ t, PSs (cxOf CX0 Pr w K mg base N qual (defScope st) f cdv A outer s H E).nox (defBody st) t ∧
      ∀ ns : List Int, ns.length ≤ 63 → wS K t (rho0 N.length [scr ns]) [] (retP fun d => d = .bl true)) : FnOk Pr w K mg base CX0 (k + 1) f fd ps (spLaw K) := by
  refine F.ok S (fun vs H Q E h => ?_) (fun cdv A outer s H vs Q E hr h => ?_)
  · obtain ⟨a, ns, rfl, _⟩ := h
    exact hn.symm
  · obtain ⟨t, ht, hw⟩ := hb cdv A outer s H E hr
    refine ⟨t, ht, ?_⟩
    obtain ⟨a, ns, rfl, hS, hl, q⟩ := h
    have hs : Hs K H H ([] ++ []) := ⟨Evl.Ex.refl H, (fun p hp => absurd hp (by simp)), List.nodup_nil⟩
    refine hw ns hl [] _ H H (envR_start (.cons (.fz hS (Reps.raws _)) .nil)) hs _ fun o O2 B2 H2 p e2 hs2 => ?_
    cases o with
    | nx ρ => exact absurd p (by intro z; cases z)
    | ret d =>
      intro v rv
      have p' : d = .bl true := p
      subst p'
      cases rv
      exact q H2
    | bk ρ => exact False.elim p
    | ct ρ => exact False.elim p
end
/-- the cell of the script -/
def cell (ns : List Int) (k : Int) : Int := ns.getD k.toNat 0
def W_cell (ds : List D) (P : D → Prop) : Prop := ∃ (ns : List Int) (k : Int), ds = [scr ns, .int k] ∧ 0 ≤ k ∧ P (.int (cell ns k))
theorem atI_nat' {α : Type} {xs : List α} {k : Int} (h0 : 0 ≤ k) (h : k < xs.length) : atI xs k = xs[k.toNat]? := by
  unfold atI ixN
  rw [if_pos h0, if_pos (by omega)]
  rfl
theorem cell_lt {ns : List Int} {k : Int} (h0 : 0 ≤ k) (h : k < ns.length) : atI ((ns.map V.int).map D.raw) k = some (.int (cell ns k)) := by
  rw [atI_nat' h0 (by simpa using h)]
  unfold cell
  rw [List.getElem?_map, List.getElem?_map]
  have : k.toNat < ns.length := by omega
  rw [List.getElem?_eq_getElem this]
  simp [this]
theorem cell_ge {ns : List Int} {k : Int} (h : ¬ k < ns.length) (h0 : 0 ≤ k) : cell ns k = 0 := by
  unfold cell
  have : ns.length ≤ k.toNat := by omega
  simp [List.getD, List.getElem?_eq_none this]
theorem scr_len (ns : List Int) : ((ns.map V.int).map D.raw).length = ns.length := by simp
/-- numbers up to 10 ** 24 -/
def number (ns : List Int) (k : Int) : Int := cell ns k % (2 * 10 ^ 24 + 1) - 10 ^ 24
def W_number (ds : List D) (P : D → Prop) : Prop := ∃ (ns : List Int) (k : Int), ds = [scr ns, .int k] ∧ 0 ≤ k ∧ P (.int (number ns k))
theorem cpow18 : CPow 10 18 := by unfold CPow; decide
def W_sameB (ds : List D) (P : D → Prop) : Prop := ∃ x y : Bool, ds = [.bl x, .bl y] ∧ P (.bl (decide (x = y)))
/-! ### tests that hold -/
theorem small_wide {a b : Int} (h1 : a.natAbs < 2 ^ 64) (h2 : b.natAbs < 2 ^ 64) : CMulW a b := wide_q h1 h2 (by omega)
/-! ### the quotients' own promises -/
def W_Qinit (CB : Addr) (ds : List D) (PF : List (Str × D) → Prop) (PX : Addr → Prop) : Prop := ∃ t b : Int, ds = [.int t, .int b] ∧ (b = 0 → PX CB) ∧ (b ≠ 0 → b.natAbs < 2 ^ 8990 ∧ PF [("top", .int (Rat.divInt t b).num), ("bottom", .int ((Rat.divInt t b).den : Int))])
def W_q2 (C : Addr) (f : Rat → Rat → D) (ds : List D) (P : D → Prop) : Prop := ∃ (x y : Rat) (m n : Nat), ds = [dQ C x, dQ C y] ∧ bits x m ∧ bits y n ∧ m + n ≤ 8900 ∧ P (f x y)
def W_q1 (C : Addr) (f : Rat → D) (ds : List D) (P : D → Prop) : Prop := ∃ (x : Rat) (m : Nat), ds = [dQ C x] ∧ bits x m ∧ m ≤ 8900 ∧ P (f x)
def W_over (C CB : Addr) (ds : List D) (P : D → Prop) (PX : Addr → Prop) : Prop := ∃ (x y : Rat) (m n : Nat), ds = [dQ C x, dQ C y] ∧ bits x m ∧ bits y n ∧ m + n ≤ 8900 ∧ (y = 0 → PX CB) ∧ (y ≠ 0 → P (dQ C (x / y)))
def W_whole (C : Addr) (ds : List D) (P : D → Prop) : Prop := ∃ n : Int, ds = [.int n] ∧ P (dQ C (n : Rat))
def W_q0 (C : Addr) (q : Rat) (ds : List D) (P : D → Prop) : Prop := ds = [] ∧ P (dQ C q)
/-- a sum of quotients, from the left; its size -/
def sumQ (qs : List Rat) : Rat := qs.foldl (· + ·) 0
def W_total (C : Addr) (ds : List D) (P : D → Prop) : Prop := ∃ (qs : List Rat) (m : Nat), (ds = [.lst (qs.map (dQ C))] ∨ ds = [.tup (qs.map (dQ C))]) ∧ (∀ q ∈ qs, bits q m) ∧ (m + 1) * (qs.length + 1) ≤ 8000 ∧ P (dQ C (sumQ qs))
end G
/-! Euclid, lowest terms, equal tuples, streams of digits, comprehensions that map. -/
namespace G
open PySem L2 PySem.Spec PyProof.Rows
/-! ### Euclid in 600 turns -/
def euc (s : Nat × Nat) : Nat × Nat := if 0 < s.2 then (s.2, s.1 % s.2) else s
def eucs : Nat → Nat × Nat → Nat × Nat
  | 0, s => s
  | n + 1, s => euc (eucs n s)
def W_part (ds : List D) (P : D → Prop) : Prop := ∃ a b : Int, ds = [.int a, .int b] ∧ b.natAbs < 2 ^ 300 ∧ P (.int ((Nat.gcd a.natAbs b.natAbs : Nat) : Int))
def W_least (ds : List D) (P : D → Prop) : Prop := ∃ t b : Int, ds = [.int t, .int b] ∧ b ≠ 0 ∧ b.natAbs < 2 ^ 300 ∧ P (.tup [.int (Rat.divInt t b).num, .int ((Rat.divInt t b).den : Int)])
def W_is (C : Addr) (ds : List D) (P : D → Prop) : Prop := ∃ (q : Rat) (t b : Int), ds = [dQ C q, .int t, .int b] ∧ b ≠ 0 ∧ b.natAbs < 2 ^ 300 ∧ P (.bl (decide (q = Rat.divInt t b)))
def W_isInt (ds : List D) (P : D → Prop) : Prop := ∃ i : Int, ds = [.int i] ∧ P (.bl true)
theorem lt300 {a n : Nat} (h : a < 2 ^ n) (hn : n ≤ 300) : a < 2 ^ 300 := Nat.lt_of_lt_of_le h (Nat.pow_le_pow_right (by omega) hn)
/-! ### tuples of two ints -/
section
variable {K : PySem.W.Frag} {ρ : Rho} {O O1 : Store} {P : D → Store → Prop}
/-! ### a comprehension that maps -/
theorem e_lcM {wi : TI} {g : TG} {te : TE} {vs : List Nat} (hg : GOnly g vs) (mg : GMono g) (h : wI K wi ρ O fun ds O1 => ds.length < 90000 ∧ ∃ es : List D, es.length = ds.length ∧
    (∀ (i : Nat) (d e : D), ds[i]? = some d → es[i]? = some e → wG K g d (wipeR ρ vs) O1 fun ρ2 O2 => O2 = O1 ∧ wE K te ρ2 O1 fun y O4 => y = e ∧ O4 = O1) ∧ P (.lst es) O1) : wE K (tLc wi g tYes te vs) ρ O P := by
  refine e_lc hg mg fun F σ B H e hs R q => h F σ B H e hs R fun J ds O' B2 H2 p e2 hs2 it => ?_
  obtain ⟨hl, es, hes, step, fin⟩ := p
  refine q J ds O' B2 H2 ⟨hl, fun i acc O3 => acc = es.take i ∧ O3 = O', ⟨rfl, rfl⟩, ?_, ?_⟩ e2 hs2 it
  · rintro i d acc O3 hd hal ⟨rfl, rfl⟩
    have hi := (List.getElem?_eq_some_iff.mp hd).1
    have he : es[i]? = some es[i] := List.getElem?_eq_getElem (by omega)
    intro F1 v σ1 B1 H1 e1 hs1 r1 Q1 q1
    refine step i d _ hd he F1 v σ1 B1 H1 e1 hs1 r1 Q1 fun σ' ρ' O4 B3 H3 p3 => ?_
    obtain ⟨rfl, p3⟩ := p3
    refine q1 σ' ρ' _ B3 H3 (t_yes ⟨fun _ => p3.mono fun y O5 z => ?_, fun z => nomatch z⟩)
    obtain ⟨rfl, rfl⟩ := z
    refine ⟨?_, rfl⟩
    rw [List.take_succ, he]
    rfl
  · rintro acc O3 ⟨rfl, rfl⟩
    rw [← hes, List.take_length]
    exact fin
end
/-! ### streams of digits -/
def digs (l : List Int) : Prop := ∀ d ∈ l, 0 ≤ d ∧ d < 60
def W_draws (ds : List D) (P : D → Prop) : Prop := ∃ c n : Int, ds = [.int c, .int n] ∧ 0 ≤ n ∧ n ≤ 60 ∧ ∀ l : List Int, (l.length : Int) = n → digs l → P (.lst (l.map fun i => D.int i))
def dStream (l : List Int) (p : Addr) : D := .lst [.lst (l.map fun i => D.int i), .loc p]
def W_stream (ds : List D) (O : Store) (P : D → Store → Prop) : Prop := ∃ (ns : List Int) (f n : Int), ds = [scr ns, .int f, .int n] ∧ 0 ≤ f ∧ 0 ≤ n ∧ n ≤ 1000 ∧ ∀ (l : List Int) (p : Addr), (l.length : Int) = 12 * n → digs l → P (dStream l p) ((p, .lst [.int 0]) :: O)
def W_next (ds : List D) (O : Store) (P : D → Store → Prop) : Prop := ∃ (l : List Int) (p : Addr) (many n : Int) (O' : Int → Store), ds = [dStream l p, .int many] ∧ l ≠ [] ∧ digs l ∧ 0 < many ∧ (∀ n', Put p (.lst [.int n]) (.lst [.int n']) O (O' n')) ∧ ∀ v n' : Int, 0 ≤ v → v < many → v < 60 → P (.int v) (O' n')
end G
/-! Vectors of three quotients. -/
namespace G
open PySem L2 PySem.Spec PyProof.Rows
structure V3 where
  x : Rat
  y : Rat
  z : Rat
theorem V3.ext' {a b : V3} (h1 : a.x = b.x) (h2 : a.y = b.y) (h3 : a.z = b.z) : a = b := by
  cases a; cases b; simp_all
def dV (C : Addr) (v : V3) : D := .tup [dQ C v.x, dQ C v.y, dQ C v.z]
def bitsV (v : V3) (n : Nat) : Prop := bits v.x n ∧ bits v.y n ∧ bits v.z n
def zV : V3 := ⟨0, 0, 0⟩
def addV (a b : V3) : V3 := ⟨a.x + b.x, a.y + b.y, a.z + b.z⟩
def subV (a b : V3) : V3 := ⟨a.x - b.x, a.y - b.y, a.z - b.z⟩
def mulV (q : Rat) (a : V3) : V3 := ⟨q * a.x, q * a.y, q * a.z⟩
def detV (a b c : V3) : Rat := a.x * (b.y * c.z - b.z * c.y) - a.y * (b.x * c.z - b.z * c.x) + a.z * (b.x * c.y - b.y * c.x)
def sumV (vs : List V3) : V3 := vs.foldl addV zV
theorem bitsV_mono {v : V3} {m n : Nat} (h : bitsV v m) (k : m ≤ n) : bitsV v n := ⟨bits_mono h.1 k, bits_mono h.2.1 k, bits_mono h.2.2 k⟩
theorem bitsV_zero : bitsV zV 1 := ⟨bits_zero, bits_zero, bits_zero⟩
theorem bitsV_add {a b : V3} {m n : Nat} (h : bitsV a m) (k : bitsV b n) : bitsV (addV a b) (m + n + 1) := ⟨bits_add h.1 k.1, bits_add h.2.1 k.2.1, bits_add h.2.2 k.2.2⟩
theorem bitsV_mul {q : Rat} {a : V3} {m n : Nat} (h : bits q m) (k : bitsV a n) : bitsV (mulV q a) (m + n) := ⟨bits_mul h k.1, bits_mul h k.2.1, bits_mul h k.2.2⟩
theorem bits_det {a b c : V3} {m : Nat} (ha : bitsV a m) (hb : bitsV b m) (hc : bitsV c m) : bits (detV a b c) (15 * m + 5) := by
  obtain ⟨a1, a2, a3⟩ := ha
  obtain ⟨b1, b2, b3⟩ := hb
  obtain ⟨c1, c2, c3⟩ := hc
  refine bits_mono (bits_add (bits_sub (bits_mul a1 (bits_sub (bits_mul b2 c3) (bits_mul b3 c2))) (bits_mul a2 (bits_sub (bits_mul b1 c3) (bits_mul b3 c1)))) (bits_mul a3 (bits_sub (bits_mul b1 c2) (bits_mul b2 c1)))) ?_
  omega
theorem sumV_take {vs : List V3} {i : Nat} {v : V3} (h : vs[i]? = some v) : sumV (vs.take (i + 1)) = addV (sumV (vs.take i)) v := by
  unfold sumV
  have e : vs.take (i + 1) = vs.take i ++ [v] := by
    rw [List.take_succ, h]
    rfl
  rw [e, List.foldl_append]
  rfl
theorem bitsV_sum {m : Nat} : ∀ (vs : List V3) (i : Nat), (∀ v ∈ vs, bitsV v m) → i ≤ vs.length → bitsV (sumV (vs.take i)) ((m + 1) * i + 1)
  | vs, 0, _, _ => bitsV_zero
  | vs, i + 1, h, hi => by
    have hlt : i < vs.length := by omega
    rw [sumV_take (List.getElem?_eq_getElem hlt)]
    refine bitsV_mono (bitsV_add (bitsV_sum vs i h (by omega)) (h _ (List.getElem_mem hlt))) ?_
    rw [Nat.mul_add]
    omega
def W_v0 (C : Addr) (ds : List D) (P : D → Prop) : Prop := ds = [] ∧ P (dV C zV)
def W_v2 (C : Addr) (f : V3 → V3 → V3) (ds : List D) (P : D → Prop) : Prop := ∃ (a b : V3) (m n : Nat), ds = [dV C a, dV C b] ∧ bitsV a m ∧ bitsV b n ∧ m + n ≤ 8900 ∧ P (dV C (f a b))
def W_scaled (C : Addr) (ds : List D) (P : D → Prop) : Prop := ∃ (q : Rat) (a : V3) (m n : Nat), ds = [dQ C q, dV C a] ∧ bits q m ∧ bitsV a n ∧ m + n ≤ 8900 ∧ P (dV C (mulV q a))
def W_det (C : Addr) (ds : List D) (P : D → Prop) : Prop := ∃ (a b c : V3) (m : Nat), ds = [dV C a, dV C b, dV C c] ∧ bitsV a m ∧ bitsV b m ∧ bitsV c m ∧ 15 * m + 5 ≤ 8900 ∧ P (dQ C (detV a b c))
def W_sumV (C : Addr) (ds : List D) (P : D → Prop) : Prop := ∃ (vs : List V3) (m : Nat), (ds = [.lst (vs.map (dV C))] ∨ ds = [.tup (vs.map (dV C))]) ∧ (∀ v ∈ vs, bitsV v m) ∧ (m + 1) * (vs.length + 1) ≤ 8000 ∧ P (dV C (sumV vs))
section
variable {K : PySem.W.Frag}
theorem gm_tup {n : Nat} {u : TGs} (hu : GsMono u) : GMono (gTup K n u) := fun v σ H Q Q' m q => by
  obtain ⟨a, xs, e, h, l, q⟩ := q
  exact ⟨a, xs, e, h, l, hu _ _ _ _ _ m q⟩
theorem go_two {i j n : Nat} {vs : List Nat} (hi : i ∈ vs) (hj : j ∈ vs) : GOnly (gTup K n (gCons (gName i) (gCons (gName j) gNil))) vs :=
  go_tup (gs_cons (go_name hi) gm_name (gs_cons (go_name hj) gm_name gs_nil gms_nil) (gms_cons gm_name gms_nil))
theorem gm_two {i j n : Nat} : GMono (gTup K n (gCons (gName i) (gCons (gName j) gNil))) := gm_tup (gms_cons gm_name (gms_cons gm_name gms_nil))
theorem step3 {A : D → D → Prop} {d0 d1 d2 e0 e1 e2 : D} (h0 : A d0 e0) (h1 : A d1 e1) (h2 : A d2 e2) : ∀ (i : Nat) (d e : D), [d0, d1, d2][i]? = some d → [e0, e1, e2][i]? = some e → A d e
  | 0, d, e, hd, he => by cases hd; cases he; exact h0
  | 1, d, e, hd, he => by cases hd; cases he; exact h1
  | 2, d, e, hd, he => by cases hd; cases he; exact h2
  | i + 3, d, e, hd, he => by simp at hd
end
structure I3 where
  x : Int
  y : Int
  z : Int
def detI (a b c : I3) : Int := a.x * (b.y * c.z - b.z * c.y) - a.y * (b.x * c.z - b.z * c.x) + a.z * (b.x * c.y - b.y * c.x)
def vecI (n : Int) (r : I3) : V3 := ⟨Rat.divInt r.x n, Rat.divInt r.y n, Rat.divInt r.z n⟩
theorem rc_ne {n : Int} (h : n ≠ 0) : (n : Rat) ≠ 0 := by
  intro z
  exact h (by simpa using z)
/-! ### rows of three ints -/
def bI (r : I3) (n : Nat) : Prop := r.x.natAbs < 2 ^ n ∧ r.y.natAbs < 2 ^ n ∧ r.z.natAbs < 2 ^ n
def lRow (r : I3) : D := .lst [.int r.x, .int r.y, .int r.z]
abbrev tRow (r : I3) : D := .tup [.int r.x, .int r.y, .int r.z]
def W_ldet (mk : I3 → D) (ds : List D) (P : D → Prop) : Prop := ∃ (a b c : I3), ds = [mk a, mk b, mk c] ∧ bI a 20 ∧ bI b 20 ∧ bI c 20 ∧ P (.int (detI a b c))
/-! ### == of tuples of quotients that are equal -/
def RQ (K : PySem.W.Frag) (C : Addr) (a b : Addr) (H : Hp) : Prop := ∃ (q : Rat) (m : Nat), Rep K H (.ref a) (dQ C q) ∧ Rep K H (.ref b) (dQ C q) ∧ bits q m ∧ m + m ≤ 8900
def rEqTQ (K : PySem.W.Frag) (C : Addr) : R2 := rEqG (DTup K (DIns C (RQ K C)))
end G
/-! Rows and vectors by their index. -/
namespace G
open PySem L2 PySem.Spec PyProof.Rows
section
variable {K : PySem.W.Frag} {ρ : Rho} {O : Store}
theorem reps_ints {B : Hp} : ∀ {vs : List V} {ns : List Int}, Reps K B vs (ns.map fun i => D.int i) → vs = ns.map V.int
  | [], [], .nil => rfl
  | v :: vs, n :: ns, .cons h r => by
    cases h
    rw [reps_ints r]
    rfl
theorem c_sum {ns : List Int} {P : D → Store → Prop} (p : P (.int ns.sum) O) : wC K (rSum K) [.lst (ns.map fun i => D.int i)] O P := fun F vs B H r hs Q q => by
  cases r with
  | cons r1 r =>
    cases r
    cases r1 with
    | lst h r =>
      refine ⟨_, ns, rfl, ?_, q.here hs (.raw _) p⟩
      rw [← reps_ints r]
      exact Evl.sq_of (hs.ex _ _ h)
def V3.at (v : V3) : Nat → Rat
  | 0 => v.x
  | 1 => v.y
  | _ => v.z
def I3.at (v : I3) : Nat → Int
  | 0 => v.x
  | 1 => v.y
  | _ => v.z
theorem zero_divI (n : Int) : Rat.divInt 0 n = 0 := by
  exact Rat.zero_divInt n
end
end G
/-! Pairs of ints in lowest terms, as the laws reckon. -/
namespace G
open PySem L2 PySem.Spec PyProof.Rows
section
variable {K : PySem.W.Frag} {ρ : Rho} {O O1 : Store} {wi : TI} {g : TG}
/-- .. whose list may still change -/
theorem e_lcO {tt : TT} {te : TE} {vs : List Nat} {P : D → Store → Prop} (hg : GOnly g vs) (mg : GMono g) (h : wI K wi ρ O fun ds O1 => ds.length < 90000 ∧ ∃ I : Nat → List D → Store → Prop, I 0 [] O1 ∧
    (∀ i d acc O', ds[i]? = some d → acc.length ≤ i → I i acc O' → wG K g d (wipeR ρ vs) O' fun ρ2 O2 => wT K tt ρ2 O2 fun b O3 => (b = true → wE K te ρ2 O3 fun y O4 => I (i + 1) (acc ++ [y]) O4) ∧ (b = false → I (i + 1) acc O3)) ∧
    ∀ a acc O', I ds.length acc O' → P (.loc a) ((a, Own.lst acc) :: O')) : wE K (tLc wi g tt te vs) ρ O P := fun F σ B H e hs Q q => by
  refine h F σ B H e hs _ fun J ds O1 B1 H1 p1 e1 hs1 it => ?_
  obtain ⟨hlen, I, h0, hstep, hend⟩ := p1
  intro Dl hDl
  let W : Nat → Hp → Prop := fun i H' => ∃ acc O' B', I i acc O' ∧ acc.length ≤ i ∧ Ex B1 B' ∧ Hs K B' H' ((Dl, Own.lst acc) :: (O' ++ F))
  refine ⟨fun i m H' => m = ds.length - i ∧ i ≤ ds.length ∧ W i H', ⟨_, rfl, Nat.zero_le _, [], O1, B1, h0, Nat.le_refl _, Evl.Ex.refl _, hs1.newOwn (w := .lst []) hDl ⟨[], upd_same, .nil⟩⟩, ?_⟩
  rintro i m H' ⟨rfl, hi, acc, O', B', hI, hal, eB, hs'⟩
  have turn := it B' H' _ eB hs' i
  cases hd : ds[i]? with
  | none =>
    have hle := List.getElem?_eq_none_iff.mp hd
    have hii : i = ds.length := by omega
    subst hii
    refine .inl ⟨turn.2 hd, ?_⟩
    exact q _ _ _ B' H' (hend Dl acc O' hI) (e1.trans eB) hs' (.raw _)
  | some d =>
    have hlt : i < ds.length := (List.getElem?_eq_some_iff.mp hd).1
    obtain ⟨go, hy⟩ := turn.1 d hd
    refine .inr ⟨go, W (i + 1), fun H2 w2 => ⟨ds.length - (i + 1), by omega, rfl, hlt, w2⟩, fun x H2 y => ?_⟩
    obtain ⟨B2, e2, hs2, rx⟩ := hy x H2 y
    have hs2' : Hs K B2 H2 (O' ++ (F ++ [(Dl, Own.lst acc)])) := hs2.perm (by rw [← List.append_assoc]; exact (List.perm_append_singleton _ _).symm)
    have en0 : EnvR K B2 (L2.wipe σ vs) (wipeR ρ vs) := ((((e.mono e1).mono eB).mono e2)).wipe vs
    refine mg _ _ _ _ _ (fun σ3 H3 z => ⟨wipe_same z.1, z.2⟩) (hg _ _ _ _ ?_)
    refine hstep i d acc O' hd hal hI (F ++ [(Dl, Own.lst acc)]) x (L2.wipe σ vs) B2 H2 en0 hs2' rx _ fun σ3 ρ3 O3 B3 H3 p3 e3 hs3 en3 => ?_
    refine p3 _ σ3 B3 H3 en3 hs3 _ fun b O4 B4 H4 p4 e4 hs4 => ?_
    have back : ∀ {B5 H5 : Hp} {O5 : Store}, Hs K B5 H5 (O5 ++ (F ++ [(Dl, Own.lst acc)])) → Hs K B5 H5 ((Dl, Own.lst acc) :: (O5 ++ F)) := fun hz => hz.perm (by rw [← List.append_assoc]; exact List.perm_append_singleton _ _)
    cases b with
    | false =>
      show (if false = true then _ else _)
      rw [if_neg Bool.false_ne_true]
      exact ⟨acc, O4, B4, p4.2 rfl, by omega, ((eB.trans e2).trans e3).trans e4, back hs4⟩
    | true =>
      show (if true = true then _ else _)
      rw [if_pos rfl]
      refine p4.1 rfl _ σ3 B4 H4 (en3.mono e4) hs4 _ fun u y O5 B5 H5 p5 e5 hs5 ry => ?_
      have hs6 := back hs5
      obtain ⟨ws, hw, rws⟩ := (hs6.own _ List.mem_cons_self).2
      refine ⟨ws, hw, Evl.sz_lt (by rw [rws.length]; omega), acc ++ [y], O5, B5, p5, by rw [List.length_append]; simp; omega, (((eB.trans e2).trans e3).trans e4).trans e5, ?_⟩
      exact hs6.write (o := .lst (ws ++ [u])) .here ⟨_, upd_same, rws.append (.cons ry .nil)⟩
end
/-- num and den, bounded apart -/
def bn (q : Rat) (m n : Nat) : Prop := q.num.natAbs < 2 ^ m ∧ q.den < 2 ^ n
/-- a pair of ints in lowest terms -/
abbrev dP (q : Rat) : D := .tup [.int q.num, .int (q.den : Int)]
def W_p2 (f : Rat → Rat → Rat) (ds : List D) (P : D → Prop) : Prop := ∃ (x y : Rat) (m n m' n' : Nat), ds = [dP x, dP y] ∧ bn x m n ∧ bn y m' n' ∧ m + n' ≤ 5000 ∧ m' + n ≤ 5000 ∧ n + n' ≤ 300 ∧ P (dP (f x y))
def W_pBy (ds : List D) (P : D → Prop) : Prop := ∃ (x y : Rat) (m n m' n' : Nat), ds = [dP x, dP y] ∧ y ≠ 0 ∧ bn x m n ∧ bn y m' n' ∧ m + n' ≤ 5000 ∧ n + m' ≤ 300 ∧ P (dP (x / y))
def W_isPair (C : Addr) (ds : List D) (P : D → Prop) : Prop := ∃ (q x : Rat) (m : Nat), ds = [dQ C q, dP x] ∧ bits x m ∧ m ≤ 300 ∧ P (.bl (decide (q = x)))
theorem divInt_self (x : Rat) : Rat.divInt x.num (x.den : Int) = x := Rat.num_divInt_den x
/-- tuples of quotients against lists of pairs -/
def W_are (C : Addr) (ds : List D) (P : D → Prop) : Prop := ∃ (qs xs : List Rat) (m : Nat), ds = [.tup (qs.map (dQ C)), .lst (xs.map dP)] ∧ qs.length = xs.length ∧ qs.length ≤ 1000 ∧ (∀ x ∈ xs, bits x m) ∧ m ≤ 300 ∧ (qs = xs → P (.bl true)) ∧ (qs ≠ xs → P (.bl false))
def W_quots (C : Addr) (ds : List D) (P : D → Prop) : Prop := ∃ (xs : List Rat) (m : Nat), ds = [.lst (xs.map dP)] ∧ xs.length ≤ 1000 ∧ (∀ x ∈ xs, bits x m) ∧ m ≤ 8000 ∧ P (.tup (xs.map (dQ C)))
/-- a drawn small quotient -/
def W_quot (ds : List D) (O : Store) (P : D → Store → Prop) : Prop := ∃ (l : List Int) (p : Addr) (n : Int) (O' : Int → Store), ds = [dStream l p] ∧ l ≠ [] ∧ digs l ∧ (∀ a b : Int, Put p (.lst [.int a]) (.lst [.int b]) (O' a) (O' b)) ∧ O = O' n ∧ ∀ (x : Rat) (n' : Int), bn x 10 4 → P (dP x) (O' n')
def bnV (v : V3) (m n : Nat) : Prop := bn v.x m n ∧ bn v.y m n ∧ bn v.z m n
def lV (v : V3) : D := .lst [dP v.x, dP v.y, dP v.z]
/-- a drawn color: a list of three pairs; W_colorO: that may still change -/
def W_color (ds : List D) (O : Store) (P : D → Store → Prop) : Prop := ∃ (l : List Int) (p : Addr) (n : Int) (O' : Int → Store), ds = [dStream l p] ∧ l ≠ [] ∧ digs l ∧ (∀ a b : Int, Put p (.lst [.int a]) (.lst [.int b]) (O' a) (O' b)) ∧ O = O' n ∧ ∀ (v : V3) (n' : Int), bnV v 10 4 → P (lV v) (O' n')
def W_colorO (ds : List D) (O : Store) (P : D → Store → Prop) : Prop := ∃ (l : List Int) (p : Addr) (n : Int) (O' : Int → Store), ds = [dStream l p] ∧ l ≠ [] ∧ digs l ∧ (∀ a b : Int, Put p (.lst [.int a]) (.lst [.int b]) (O' a) (O' b)) ∧ O = O' n ∧ ∀ (a : Addr) (v : V3) (n' : Int), bnV v 10 4 → P (.loc a) ((a, .lst [dP v.x, dP v.y, dP v.z]) :: O' n')
end G
/-! == and != of tuples of quotients, whatever comes out. -/
namespace G
open PySem L2 PySem.Spec PyProof.Rows
section
variable {prog : Program} {w : World} {A : Around} {R : Result → Shared → Prop}
theorem zip_at {xs ys : Array Value} {i : Nat} {y x : Value} {rest : List (Value × Value)} (z : (y, x) :: rest = (xs.toList.zip ys.toList).drop i) (hsz : xs.size = ys.size) :
    ∃ (h1 : i < xs.size) (h2 : i < ys.size), y = xs[i] ∧ x = ys[i] ∧ rest = (xs.toList.zip ys.toList).drop (i + 1) := by
  have hz : (xs.toList.zip ys.toList).length = xs.size := by simp [hsz]
  by_cases hl : i < (xs.toList.zip ys.toList).length
  · rw [List.drop_eq_getElem_cons hl] at z
    injection z with e1 e2
    have g1 := congrArg Prod.fst e1
    have g2 := congrArg Prod.snd e1
    exact ⟨by omega, by omega, by simpa using g1, by simpa using g2, e2⟩
  · rw [List.drop_of_length_le (by omega)] at z
    cases z
theorem zip_end {xs ys : Array Value} {i : Nat} (z : [] = (xs.toList.zip ys.toList).drop i) (hsz : xs.size = ys.size) : xs.size ≤ i := by
  have hz : (xs.toList.zip ys.toList).length = xs.size := by simp [hsz]
  by_cases hl : i < (xs.toList.zip ys.toList).length
  · rw [List.drop_eq_getElem_cons hl] at z
    cases z
  · omega
def allB (e : Nat → Bool) (n : Nat) : Bool := (List.range n).all e
theorem allB_false {e : Nat → Bool} {n i : Nat} (hi : i < n) (h : e i = false) : allB e n = false := by
  unfold allB
  rw [List.all_eq_false]
  exact ⟨i, List.mem_range.mpr hi, by rw [h]; simp⟩
theorem allB_true {e : Nat → Bool} {n : Nat} (h : ∀ j, j < n → e j = true) : allB e n = true := by
  unfold allB
  rw [List.all_eq_true]
  exact fun j hj => h j (List.mem_range.mp hj)
theorem tuple_eqB {l b : Addr} {xs ys : Array Value} {n n2 : Nat} {dd dd2 : Option Addr} {sl sl2 : Array (Option Value)} {e : Nat → Bool} {I : Shared → Prop} (hsz : xs.size = ys.size)
    (turn : ∀ i (h1 : i < xs.size) (h2 : i < ys.size) s, I s → wpAny (model prog w) A.in1 (eqBool xs[i] ys[i]) (fun r s' => r = e i ∧ I s') (fun u s' => R (.error u) s') s)
    (fin : ∀ s, I s → R (.ok (.ret (.bool (allB e xs.size)))) s) {s : Shared} (ha : s.heap.get? l = some { cls := .type "tuple", dict := dd, data := .seq xs n, slots := sl })
    (hb : s.heap.get? b = some { cls := .type "tuple", dict := dd2, data := .seq ys n2, slots := sl2 }) (h : I s) :
    wpAny (model prog w) A.in1 (Builtin.«tuple.__eq__» ⟨[.ref l, .ref b], []⟩) (GQ.FinOf prog w A R) (fun u s' => R (.error u) s') s := by
  have f2 := AutoSeq1.sub_tuple_tuple
  have h0 := h
  obtain ⟨hp, g, d, tk, os⟩ := s
  wp_walk using wpAny_loadPart' ha, wpAny_loadPart' hb, wpAny_forIn_list _ (fun rest c s' => c.1 = none ∧ I s' ∧ ∃ i, rest = (xs.toList.zip ys.toList).drop i ∧ ∀ j, j < i → e j = true) _
  case turn =>
    rintro ⟨y, x⟩ rest c s' ⟨hc, hI, i, hz, hall⟩
    obtain ⟨h1, h2, rfl, rfl, hr⟩ := zip_at hz hsz
    refine wpAny_bind (wpAny_mono (turn i h1 h2 s' hI) (fun r s2 q => ?_) fun _ _ x => x)
    obtain ⟨rfl, q⟩ := q
    cases hy : e i with
    | true =>
      wp_walk
      refine ⟨rfl, q, i + 1, hr, fun j hj => ?_⟩
      rcases Nat.lt_succ_iff_lt_or_eq.mp hj with h | rfl
      · exact hall j h
      · exact hy
    | false =>
      have := fin s2 q
      rw [allB_false h1 hy] at this
      wp_walk
      exact this
  case fin =>
    rintro ⟨c1, c2⟩ s' ⟨hc, hI, i, hz, hall⟩
    simp only at hc
    subst hc
    have hi := zip_end hz hsz
    have := fin s' hI
    rw [allB_true fun j hj => hall j (by omega)] at this
    wp_walk
    simpa [Builtin.Tuple.tupleCompareSizes, hsz] using this
  case h => exact ⟨rfl, h0, 0, rfl, fun j hj => absurd hj (by omega)⟩
theorem tuple_neB {l b : Addr} {xs ys : Array Value} {n n2 : Nat} {dd dd2 : Option Addr} {sl sl2 : Array (Option Value)} {e : Nat → Bool} {I : Shared → Prop} (hsz : xs.size = ys.size)
    (turn : ∀ i (h1 : i < xs.size) (h2 : i < ys.size) s, I s → wpAny (model prog w) A.in1 (eqBool xs[i] ys[i]) (fun r s' => r = e i ∧ I s') (fun u s' => R (.error u) s') s)
    (fin : ∀ s, I s → R (.ok (.ret (.bool (!allB e xs.size)))) s) {s : Shared} (ha : s.heap.get? l = some { cls := .type "tuple", dict := dd, data := .seq xs n, slots := sl })
    (hb : s.heap.get? b = some { cls := .type "tuple", dict := dd2, data := .seq ys n2, slots := sl2 }) (h : I s) :
    wpAny (model prog w) A.in1 (Builtin.«tuple.__ne__» ⟨[.ref l, .ref b], []⟩) (GQ.FinOf prog w A R) (fun u s' => R (.error u) s') s := by
  have f2 := AutoSeq1.sub_tuple_tuple
  have h0 := h
  obtain ⟨hp, g, d, tk, os⟩ := s
  wp_walk using wpAny_loadPart' ha, wpAny_loadPart' hb, wpAny_forIn_list _ (fun rest c s' => c.1 = none ∧ I s' ∧ ∃ i, rest = (xs.toList.zip ys.toList).drop i ∧ ∀ j, j < i → e j = true) _
  case turn =>
    rintro ⟨y, x⟩ rest c s' ⟨hc, hI, i, hz, hall⟩
    obtain ⟨h1, h2, rfl, rfl, hr⟩ := zip_at hz hsz
    refine wpAny_bind (wpAny_mono (turn i h1 h2 s' hI) (fun r s2 q => ?_) fun _ _ x => x)
    obtain ⟨rfl, q⟩ := q
    cases hy : e i with
    | true =>
      wp_walk
      refine ⟨rfl, q, i + 1, hr, fun j hj => ?_⟩
      rcases Nat.lt_succ_iff_lt_or_eq.mp hj with h | rfl
      · exact hall j h
      · exact hy
    | false =>
      have := fin s2 q
      rw [allB_false h1 hy] at this
      wp_walk
      exact this
  case fin =>
    rintro ⟨c1, c2⟩ s' ⟨hc, hI, i, hz, hall⟩
    simp only at hc
    subst hc
    have hi := zip_end hz hsz
    have := fin s' hI
    rw [allB_true fun j hj => hall j (by omega)] at this
    wp_walk
    simpa [Builtin.Tuple.tupleCompareSizes, hsz] using this
  case h => exact ⟨rfl, h0, 0, rfl, fun j hj => absurd hj (by omega)⟩
end
/-! ### what == says of two values, by the abstract heap -/
abbrev Bqv := V → V → Hp → Bool → Prop
def EqB (X : Cx) (n : Nat) (D : Bqv) : Prop :=
  ∀ (A : Around) (pins : List (Addr × Obj)) (s : Shared) (σ : L2.St) (H : Hp) (x y : V) (u v : Value) (b : Bool), L2.Sub X n A → Inv X pins σ H s → RelV x u → RelV y v → D x y H b →
    wpAny (model X.prog X.w) A (eqBool u v) (fun r s' => r = b ∧ LoopI X pins σ H s') X.xe s
def BTup (K : PySem.W.Frag) (D : Bqv) : Bqv := fun x y H b => ∃ a c xs ys e, x = .ref a ∧ y = .ref c ∧ SqT K H a xs ∧ SqT K H c ys ∧ xs.length = ys.length ∧ (∀ (i : Nat) u v, xs[i]? = some u → ys[i]? = some v → ∀ H', Ext H H' → D u v H' (e i)) ∧ b = allB e xs.length
section
variable {X : Cx} {n : Nat} {D : Bqv}
theorem turnB (h : EqB X n D) {A : Around} (sb : L2.Sub X (n + 1) A) {pins : List (Addr × Obj)} {σ : L2.St} {H : Hp} {xs ys : List V} {us vs : List Value} {e : Nat → Bool}
    (p : ∀ (i : Nat) u v, xs[i]? = some u → ys[i]? = some v → ∀ H', Ext H H' → D u v H' (e i)) (r : Vals xs us) (r2 : Vals ys vs)
    (i : Nat) (h1 : i < us.toArray.size) (h2 : i < vs.toArray.size) (s : Shared) (l : LoopI X pins σ H s) :
    wpAny (model X.prog X.w) A.in1 (eqBool us.toArray[i] vs.toArray[i]) (fun b s2 => b = e i ∧ LoopI X pins σ H s2) X.xe s := by
  obtain ⟨H1, I1, x1⟩ := l
  have i1 : i < us.length := by simpa using h1
  have i2 : i < vs.length := by simpa using h2
  have j1 : i < xs.length := by rw [r.length]; exact i1
  have j2 : i < ys.length := by rw [r2.length]; exact i2
  obtain ⟨u, hu, ru⟩ := r.get (List.getElem?_eq_getElem j1)
  obtain ⟨v, hv, rv⟩ := r2.get (List.getElem?_eq_getElem j2)
  have eu : us.toArray[i] = u := by
    rw [List.getElem?_eq_getElem i1] at hu
    simpa using hu
  have ev : vs.toArray[i] = v := by
    rw [List.getElem?_eq_getElem i2] at hv
    simpa using hv
  rw [eu, ev]
  refine wpAny_mono (h A.in1 pins s σ H1 _ _ u v _ sb.in1 I1 ru rv (p i _ _ (List.getElem?_eq_getElem j1) (List.getElem?_eq_getElem j2) H1 x1)) (fun c s2 q => ?_) fun _ _ x => x
  obtain ⟨hc, H2, I2, x2⟩ := q
  exact ⟨hc, H2, I2, x1.trans x2⟩
/-- x == y, x != y of tuples -/
def rEqB (D : Bqv) : R2 := fun x y H Q => ∃ b, D x y H b ∧ ∀ H', Ext H H' → Q (.bl b) H'
def rNeB (D : Bqv) : R2 := fun x y H Q => ∃ b, D x y H b ∧ ∀ H', Ext H H' → Q (.bl (!b)) H'
theorem rc_eqTup (h : EqB X n D) {A : Around} (sb : L2.Sub X (n + 1) A) {pins : List (Addr × Obj)} {σ : L2.St} {H : Hp} {s : Shared} {x y : V} {u v : Value} {b : Bool} (I : Inv X pins σ H s) (rx : RelV x u) (ry : RelV y v) (d : BTup X.K D x y H b) :
    wpAny (model X.prog X.w) A (richCompare .Eq u v) (fun r s' => r = .bool b ∧ LoopI X pins σ H s') X.xe s := by
  obtain ⟨a, c, xs, ys, e, rfl, rfl, ha, hc, hl, p, rfl⟩ := d
  cases rx
  cases ry
  obtain ⟨us, r, e1, _⟩ := I.tuple ha
  obtain ⟨vs, r2, e2, _⟩ := I.tuple hc
  have hsz : us.toArray.size = vs.toArray.size := by
    rw [List.size_toArray, List.size_toArray, ← r.length, ← r2.length]
    exact hl
  obtain ⟨⟨k1, d1, t1, z1⟩, o1, q1, m1, w1⟩ := e1
  obtain ⟨⟨k2, d2, t2, z2⟩, o2, q2, m2, w2⟩ := e2
  simp only at q1 w1 q2 w2
  subst q1 w1 q2 w2
  refine wpAny_richCompare_same_room (op := .Eq) ⟨_, o1, rfl⟩ ⟨_, o2, rfl⟩ F.slot_tuple_eq (GQ.call_here F.slot_tuple_eq ⟨_, o1, rfl⟩ F.entry_tuple_eq (F.args_tuple_eq_2 _ _) ?_) sb.room.units0
  refine tuple_eqB (I := fun s' => LoopI X pins σ H s') (e := e) hsz (fun i h1 h2 s' q => turnB h sb p r r2 i h1 h2 s' q) (fun s' q => ?_) o1 o2 ⟨H, I, Ext.rfl'⟩
  refine ⟨(fun x => nomatch x), ?_, q⟩
  rw [List.size_toArray, ← r.length]
theorem rc_neTup (h : EqB X n D) {A : Around} (sb : L2.Sub X (n + 1) A) {pins : List (Addr × Obj)} {σ : L2.St} {H : Hp} {s : Shared} {x y : V} {u v : Value} {b : Bool} (I : Inv X pins σ H s) (rx : RelV x u) (ry : RelV y v) (d : BTup X.K D x y H b) :
    wpAny (model X.prog X.w) A (richCompare .NotEq u v) (fun r s' => r = .bool (!b) ∧ LoopI X pins σ H s') X.xe s := by
  obtain ⟨a, c, xs, ys, e, rfl, rfl, ha, hc, hl, p, rfl⟩ := d
  cases rx
  cases ry
  obtain ⟨us, r, e1, _⟩ := I.tuple ha
  obtain ⟨vs, r2, e2, _⟩ := I.tuple hc
  have hsz : us.toArray.size = vs.toArray.size := by
    rw [List.size_toArray, List.size_toArray, ← r.length, ← r2.length]
    exact hl
  obtain ⟨⟨k1, d1, t1, z1⟩, o1, q1, m1, w1⟩ := e1
  obtain ⟨⟨k2, d2, t2, z2⟩, o2, q2, m2, w2⟩ := e2
  simp only at q1 w1 q2 w2
  subst q1 w1 q2 w2
  refine wpAny_richCompare_same_room (op := .NotEq) ⟨_, o1, rfl⟩ ⟨_, o2, rfl⟩ F.slot_tuple_ne (GQ.call_here F.slot_tuple_ne ⟨_, o1, rfl⟩ F.entry_tuple_ne (F.args_tuple_ne_2 _ _) ?_) sb.room.units0
  refine tuple_neB (I := fun s' => LoopI X pins σ H s') (e := e) hsz (fun i h1 h2 s' q => turnB h sb p r r2 i h1 h2 s' q) (fun s' q => ?_) o1 o2 ⟨H, I, Ext.rfl'⟩
  refine ⟨(fun x => nomatch x), ?_, q⟩
  rw [List.size_toArray, ← r.length]
theorem op_eqTB (h : EqB X n D) (hr : Room (n + 1) X.A) : OpR X (compareOp .Eq) (rEqB (BTup X.K D)) := fun pins s σ H x y v u Q I rx ry ⟨b, d, q⟩ =>
  wpAny_mono (rc_eqTup h ⟨hr, rfl⟩ I rx ry d) (fun _ _ ⟨hr', H', I', e⟩ => by subst hr'; exact ⟨.bl b, H', I', rfl, q H' e⟩) fun _ _ x => x
theorem op_neTB (h : EqB X n D) (hr : Room (n + 1) X.A) : OpR X (compareOp .NotEq) (rNeB (BTup X.K D)) := fun pins s σ H x y v u Q I rx ry ⟨b, d, q⟩ =>
  wpAny_mono (rc_neTup h ⟨hr, rfl⟩ I rx ry d) (fun _ _ ⟨hr', H', I', e⟩ => by subst hr'; exact ⟨.bl (!b), H', I', rfl, q H' e⟩) fun _ _ x => x
end
/-! ### quotients -/
def BQ (K : PySem.W.Frag) (C : Addr) : Bqv := fun u v H b => ∃ (a c : Addr) (x y : Rat) (m n : Nat), u = .ref a ∧ v = .ref c ∧ Rep K H u (dQ C x) ∧ Rep K H v (dQ C y) ∧ bits x m ∧ bits y n ∧ m + n ≤ 8900 ∧ b = decide (x = y)
theorem rep_int {K : PySem.W.Frag} {H : Hp} {v : V} {i : Int} (h : Rep K H v (.int i)) : v = .int i := by
  cases h
  rfl
theorem rep_inj {K : PySem.W.Frag} {H : Hp} {C a : Addr} {x y : Rat} (h : Rep K H (.ref a) (dQ C x)) (k : Rep K H (.ref a) (dQ C y)) : x = y := by
  cases h with
  | ins h1 r1 =>
    cases k with
    | ins k1 s1 =>
      rw [h1] at k1
      cases k1
      cases r1 with
      | cons a1 r1 =>
        cases r1 with
        | cons a2 r1 =>
          cases s1 with
          | cons b1 s1 =>
            cases s1 with
            | cons b2 s1 =>
              have e1 := (rep_int a1).symm.trans (rep_int b1)
              have e2 := (rep_int a2).symm.trans (rep_int b2)
              injection e1 with e1
              injection e2 with e2
              exact Rat.ext e1 (by omega)
theorem eqB_q {X : Cx} {k : Nat} {f C : Addr} {fd : FuncData} {ps : List Str} (F : FnOk X.prog X.w X.K X.mg X.base CX0 k f fd ps (spP X.K 2 (W_q2 C fun x y => .bl (decide (x = y)))))
    (hs : PySem.W.findIn X.K (.ref C) "__eq__" = some (some (.ref f))) (hf : PySem.W.isFn X.K (.ref f) = true) (hb : Binds X.K fd ps []) : EqB X k (BQ X.K C) := by
  rintro A pins s σ H u v p q b sb I ru rv ⟨a, c, x, y, m, n, rfl, rfl, r1, r2, hx, hy, hm, rfl⟩
  cases ru
  cases rv
  by_cases hac : a = c
  · subst hac
    have e := rep_inj r1 r2
    exact SeqAt.EqAt.same (A := A) (s := s) (.ref a) X.prog X.w X.xe _ ⟨by rw [decide_eq_true e], H, I, Ext.rfl'⟩
  refine GQ.eqBool_refG hac ?_
  have r1' := r1
  have r2' := r2
  cases r1' with
  | ins g1 _ =>
    cases r2' with
    | ins g2 _ =>
      obtain ⟨_, J1, _⟩ := ins_get I.hok g1
      obtain ⟨_, J2, _⟩ := ins_get I.hok g2
      obtain ⟨_, J1, _⟩ := J1.look
      obtain ⟨_, J2, _⟩ := J2.look
      obtain ⟨_, hF⟩ := I.fr
      refine PySem.W.cmp_K (tb := .ref C) (op := .Eq) sb.room.units0 hF I.ok.mod.kin J1 J2.type (by simp [PySem.W.notFirst]) hs hf ?_
      have hsp : spP X.K 2 (W_q2 C fun x y => .bl (decide (x = y))) [.ref a, .ref c] H (fun v H' => v = .bl (decide (x = y)) ∧ Ext H H') E0 := by
        refine ⟨[], H, [dQ C x, dQ C y], fun d => d = .bl (decide (x = y)), ⟨Evl.Ex.refl H, (fun p hp => absurd hp (by simp)), List.nodup_nil⟩, .cons r1 (.cons r2 .nil), rfl, ⟨x, y, m, n, rfl, hx, hy, hm, rfl⟩, ?_⟩
        rintro v d B2 H2 rfl e hs2 rv
        cases rv
        exact ⟨rfl, e.trans hs2.ex⟩
      have e0 : Env0 X.prog X.w X.K X.mg X.base A X.stack s H := ⟨by rw [sb.fr]; exact I.env0.frames, I.env0.mod, I.env0.bs, I.env0.bsz, I.env0.funs, I.env0.frf, I.env0.hok, I.env0.bare⟩
      have hl := F.len _ _ _ _ hsp
      have hbd := hb s [.ref a, .ref c] I.kIn (by simpa using hl)
      refine wpAny_call (codeAny_mono (F.run A X.stack s H ⟨[.ref a, .ref c], []⟩ [.ref a, .ref c] [.ref a, .ref c] _ E0 sb.room e0 (by simpa using hbd) (.cons rfl (.cons rfl .nil)) hsp) fun r s' hq => ?_)
      cases r with
      | error e => exact hq.elim
      | ok fl =>
        cases fl with
        | ret w =>
          obtain ⟨z, H', I', rz, ez, ex⟩ := I.after hq
          subst ez
          cases rz
          exact ⟨_, rfl, rfl, H', I', ex⟩
        | next => exact hq.elim
        | brk => exact hq.elim
        | cont => exact hq.elim
section
variable {K : PySem.W.Frag} {C : Addr} {O : Store} {P : D → Store → Prop} {xs ys : List Rat} {m : Nat}
def nthEq (xs ys : List Rat) (i : Nat) : Bool := decide (xs[i]? = ys[i]?)
theorem allB_eq (h : xs.length = ys.length) : allB (nthEq xs ys) xs.length = decide (xs = ys) := by
  by_cases e : xs = ys
  · subst e
    rw [decide_eq_true rfl]
    exact allB_true fun j _ => decide_eq_true rfl
  · rw [decide_eq_false e]
    apply Bool.eq_false_iff.mpr
    intro z
    apply e
    apply List.ext_getElem?
    intro i
    by_cases hi : i < xs.length
    · unfold allB at z
      rw [List.all_eq_true] at z
      exact of_decide_eq_true (z i (List.mem_range.mpr hi))
    · rw [List.getElem?_eq_none (by omega), List.getElem?_eq_none (by omega)]
theorem btup_q {B H : Hp} {v u : V} (hl : xs.length = ys.length) (hx : ∀ q ∈ xs, bits q m) (hy : ∀ q ∈ ys, bits q m) (hm : m + m ≤ 8900) (e : Ex B H) (rx : Rep K B v (.tup (xs.map (dQ C)))) (ry : Rep K B u (.tup (ys.map (dQ C)))) :
    BTup K (BQ K C) v u H (decide (xs = ys)) := by
  cases rx with
  | tup h1 r1 =>
    cases ry with
    | tup h2 r2 =>
      have l1 := r1.length
      have l2 := r2.length
      rw [List.length_map] at l1 l2
      refine ⟨_, _, _, _, nthEq xs ys, rfl, rfl, Evl.ex_t e h1, Evl.ex_t e h2, by omega, fun i a b ha hb H' e' => ?_, by rw [l1, allB_eq hl]⟩
      have hi : i < xs.length := by
        have := (List.getElem?_eq_some_iff.mp ha).1
        omega
      obtain ⟨d1, g1, q1⟩ := r1.get' ha
      obtain ⟨d2, g2, q2⟩ := r2.get' hb
      rw [List.getElem?_map, List.getElem?_eq_getElem hi] at g1
      rw [List.getElem?_map, List.getElem?_eq_getElem (show i < ys.length by omega)] at g2
      cases g1
      cases g2
      have w1 := q1.mono (e.trans e')
      have w2 := q2.mono (e.trans e')
      have k1 := w1
      have k2 := w2
      cases k1 with
      | ins _ _ =>
        cases k2 with
        | ins _ _ =>
          refine ⟨_, _, xs[i], ys[i], m, m, rfl, rfl, w1, w2, hx _ (List.getElem_mem hi), hy _ (List.getElem_mem _), hm, ?_⟩
          unfold nthEq
          rw [List.getElem?_eq_getElem hi, List.getElem?_eq_getElem (show i < ys.length by omega)]
          simp
theorem hs_keep {B H H' : Hp} {F : Store} (hs : Hs K B H F) (e : Ext H H') : Hs K B H' F := ⟨hs.ex.trans e, fun p hp => by
  obtain ⟨g1, g2⟩ := hs.own p hp
  obtain ⟨o, ho⟩ := g2.some
  exact ⟨g1, g2.mono (Evl.Ex.refl B) ((e _ _ ho).trans ho.symm)⟩, hs.nd⟩
theorem r_neTB (hl : xs.length = ys.length) (hx : ∀ q ∈ xs, bits q m) (hy : ∀ q ∈ ys, bits q m) (hm : m + m ≤ 8900) (p : P (.bl (!decide (xs = ys))) O) : wR K (rNeB (BTup K (BQ K C))) (.tup (xs.map (dQ C))) (.tup (ys.map (dQ C))) O P :=
  fun F v u B H rx ry hs Q q => ⟨_, btup_q hl hx hy hm hs.ex rx ry, fun H' e => q _ _ O B H' p (Evl.Ex.refl B) (hs_keep hs e) (.raw _)⟩
end
section
variable {K : PySem.W.Frag} {ρ : Rho} {O : Store} {P : D → Store → Prop} {ta : TE}
theorem e_notN (h : wE K ta ρ O fun x O1 => (x = .non → P (.bl false) O1) ∧ (x ≠ .non → P (.bl true) O1)) : wE K (tNotN ta) ρ O P := fun F σ B H e hs Q q =>
  h F σ B H e hs _ fun v x O1 B1 H1 p1 e1 hs1 rx => by
    by_cases hx : x = .non
    · subst hx
      cases rx
      exact (q.ex e1).here hs1 (.raw _) (p1.1 rfl)
    · have hv : v ≠ .non := by
        rintro rfl
        cases rx
        exact hx rfl
      rw [decide_eq_false hv]
      exact (q.ex e1).here hs1 (.raw _) (p1.2 hx)
end
/-! ### chromaticities -/
def sV (v : V3) : Rat := v.x + v.y + v.z
def cD (C : Addr) (v : V3) : D := if sV v = 0 then .non else .tup [dQ C (v.x / sV v), dQ C (v.y / sV v)]
def W_chrom (C : Addr) (ds : List D) (P : D → Prop) : Prop := ∃ (v : V3) (m : Nat), ds = [dV C v] ∧ bitsV v m ∧ 10 * m + 10 ≤ 8900 ∧ P (cD C v)
/-! ### minors, determinants, mixtures of pairs -/
def W_minor (ds : List D) (P : D → Prop) : Prop := ∃ (a b : V3) (i j m n m' n' : Nat), ds = [lV a, lV b, .int (0 + (i : Int)), .int (0 + (j : Int))] ∧ i < 3 ∧ j < 3 ∧ bnV a m n ∧ bnV b m' n' ∧ m + m' + n + n' ≤ 4000 ∧ 2 * (n + n') ≤ 300 ∧ P (dP (a.at i * b.at j - a.at j * b.at i))
def W_fdet (ds : List D) (P : D → Prop) : Prop := ∃ (a b c : V3) (m n m' n' m2 n2 : Nat), ds = [lV a, lV b, lV c] ∧ bnV a m n ∧ bnV b m' n' ∧ bnV c m2 n2 ∧ m + m' + m2 + 10 * (n + n' + n2) ≤ 4000 ∧ 3 * (n + 2 * (n' + n2)) ≤ 300 ∧ P (dP (detV a b c))
def dk (m n m' n' m2 n2 : Nat) : Nat := m + (m' + m2 + n' + n2 + 1) + 2 * (n + 2 * (n' + n2)) + 2
def dn (n n' n2 : Nat) : Nat := 3 * (n + 2 * (n' + n2))
def crD (a b c d : V3) : D := if detV a b c = 0 then .lst [] else .lst [dP (detV d b c / detV a b c), dP (detV a d c / detV a b c), dP (detV a b d / detV a b c)]
def W_cramer (ds : List D) (P : D → Prop) : Prop := ∃ (a b c d : V3) (m1 n1 m2 n2 m3 n3 m4 n4 : Nat), ds = [lV a, lV b, lV c, lV d] ∧ bnV a m1 n1 ∧ bnV b m2 n2 ∧ bnV c m3 n3 ∧ bnV d m4 n4 ∧
  dn n4 n2 n3 + dk m1 n1 m2 n2 m3 n3 ≤ 300 ∧ dn n1 n4 n3 + dk m1 n1 m2 n2 m3 n3 ≤ 300 ∧ dn n1 n2 n4 + dk m1 n1 m2 n2 m3 n3 ≤ 300 ∧ dn n1 n2 n3 ≤ 300 ∧ m4 + dk m1 n1 m2 n2 m3 n3 ≤ 500 ∧ P (crD a b c d)
def mixP (ps : List (V3 × Rat)) : V3 := ps.foldl (fun v c => addV v (mulV c.2 c.1)) zV
def W_mixed (ds : List D) (P : D → Prop) : Prop := ∃ (ps : List (V3 × Rat)) (m n m' n' : Nat), ds = [.lst (ps.map fun c => lV c.1), .lst (ps.map fun c => dP c.2)] ∧ ps.length ≤ 100 ∧ (∀ c ∈ ps, bnV c.1 m n ∧ bn c.2 m' n') ∧ 0 < m + m' ∧ 0 < n + n' ∧ ps.length * (n + n') + 1 ≤ 300 ∧ m + m' ≤ 2000 ∧ P (lV (mixP ps))
theorem zero_addV (v : V3) : addV zV v = v := by
  apply V3.ext'
  · exact Rat.zero_add _
  · exact Rat.zero_add _
  · exact Rat.zero_add _
end G
/-! try .. except: what is asked of the body's one call. -/
namespace G
open PySem L2 PySem.Spec PyProof.Rows
section
variable {K : PySem.W.Frag} {ρ : Rho} {n : Nat} {W : List D → (D → Prop) → (Addr → Prop) → Prop} {t : TA} {c : Value} {ts : Addr → Value → Option Addr → TS} {PS : Out → Store → Prop} {P : D → Prop} {PX : Addr → Prop} {i : Nat}
def retOnly (PS : Out → Store → Prop) : Out → Store → Prop
  | .ret d, O => PS (.ret d) O
  | _, _ => False
end
end G
/-! A method's call, and the making of an instance, inside try. -/
namespace G
open PySem L2 PySem.Spec PyProof.Rows
section
variable {X : Cx} {CX : CXT} {k : Nat} {f C : Addr} {fd : FuncData} {ps : List Str} {sp : Sp} {E : L2.St → XK} {x m : Str} {p pos apos : Pos} {e o : Expr} {es : List Expr} {to : TE} {t : TA}
def tMethS (C : Addr) (m : Str) (sp : Sp) (E : L2.St → XK) (to : TE) (t : TA) : TE := fun σ H Q => tMeth C m sp [] (E σ) to t σ H Q
def tMakeS (C : Addr) (sp : Sp) (E : L2.St → XK) (t : TA) : TE := fun σ H Q => tMake C sp [] (E σ) t σ H Q
end
section
variable {K : PySem.W.Frag} {ρ : Rho} {n : Nat} {t : TA} {to : TE} {c : Value} {ts : Addr → Value → Option Addr → TS} {PS : Out → Store → Prop} {P : D → Prop} {PX : Addr → Prop} {i : Nat} {C : Addr} {m : Str}
end
/-! ### isinstance of the exception in hand -/
def tGuard (h : Prop) (t : TS) : TS := fun D σ H => h ∧ t D σ H
theorem pss_guard {X : Cx} {ss : List Stmt} {h : Prop} {t : TS} (k : h → PSs X ss t) : PSs X ss (tGuard h t) := ⟨fun pins s σ H D I w => (k w.1).run pins s σ H D I w.2⟩
theorem zc_of {cls : Value} {d : Option Addr} {oe : Obj} {D : Addr} (z : Zc cls d oe) (h : cls = .ref D ∧ d = none) : Zc (.ref D) none oe := by
  obtain ⟨rfl, rfl⟩ := h
  exact z
section
variable {K : PySem.W.Frag} {ρ : Rho} {O : Store} {P : D → Store → Prop} {PS : Out → Store → Prop} {D' a C : Addr} {b : Bool}
theorem s_guard {h : Prop} {t : TS} (k : h) (w : wS K t ρ O PS) : wS K (tGuard h t) ρ O PS := fun F σ B H e hs Dn q => ⟨k, w F σ B H e hs Dn q⟩
theorem c_isEC (hk : PySem.W.kitOne K (.ref D') (.ref C) = some b) (p : P (.bl b) O) : wC K (rIsE K D' a) [.loc a, .raw (.ref C)] O P := fun F vs B H r hs Q q => by
  cases r with
  | cons r1 r =>
    cases r with
    | cons r2 r =>
      cases r; cases r1; cases r2
      exact ⟨_, _, b, rfl, fun u h => by cases h; rfl, hk, q.here hs (.raw _) p⟩
end
end G
/-! Rules in the form that a walk takes by their heads: slots by number, ends, splits. -/
namespace G
open PySem L2 PySem.Spec PyProof.Rows
instance : DecidableEq V3 := fun a b => if h : a.x = b.x ∧ a.y = b.y ∧ a.z = b.z then .isTrue (V3.ext' h.1 h.2.1 h.2.2) else .isFalse fun e => h (by rw [e]; exact ⟨rfl, rfl, rfl⟩)
section
variable {K : PySem.W.Frag} {O O1 : Store} {P : D → Store → Prop} {PS : Out → Store → Prop} {te : TE} {PR : Rho → Store → Prop} {r : Rho} {d : D}
theorem ev0 (p : P d O) : wE K (tVar 0) (some d :: r) O P := e_var rfl p
theorem ev1 {x0 : Option D} (p : P d O) : wE K (tVar 1) (x0 :: some d :: r) O P := e_var rfl p
theorem sa1 {x0 y : Option D} (h : wE K te (x0 :: y :: r) O fun d O1 => PS (.nx (x0 :: some d :: r)) O1) : wS K (tAsg te (gName 1)) (x0 :: y :: r) O PS := s_asg h
theorem gn1 {x0 y : Option D} (p : PR (x0 :: some d :: r) O) : wG K (gName 1) d (x0 :: y :: r) O PR := g_name p
theorem ev2 {x0 x1 : Option D} (p : P d O) : wE K (tVar 2) (x0 :: x1 :: some d :: r) O P := e_var rfl p
theorem sa2 {x0 x1 y : Option D} (h : wE K te (x0 :: x1 :: y :: r) O fun d O1 => PS (.nx (x0 :: x1 :: some d :: r)) O1) : wS K (tAsg te (gName 2)) (x0 :: x1 :: y :: r) O PS := s_asg h
theorem gn2 {x0 x1 y : Option D} (p : PR (x0 :: x1 :: some d :: r) O) : wG K (gName 2) d (x0 :: x1 :: y :: r) O PR := g_name p
theorem ev3 {x0 x1 x2 : Option D} (p : P d O) : wE K (tVar 3) (x0 :: x1 :: x2 :: some d :: r) O P := e_var rfl p
theorem sa3 {x0 x1 x2 y : Option D} (h : wE K te (x0 :: x1 :: x2 :: y :: r) O fun d O1 => PS (.nx (x0 :: x1 :: x2 :: some d :: r)) O1) : wS K (tAsg te (gName 3)) (x0 :: x1 :: x2 :: y :: r) O PS := s_asg h
theorem gn3 {x0 x1 x2 y : Option D} (p : PR (x0 :: x1 :: x2 :: some d :: r) O) : wG K (gName 3) d (x0 :: x1 :: x2 :: y :: r) O PR := g_name p
theorem ev4 {x0 x1 x2 x3 : Option D} (p : P d O) : wE K (tVar 4) (x0 :: x1 :: x2 :: x3 :: some d :: r) O P := e_var rfl p
theorem sa4 {x0 x1 x2 x3 y : Option D} (h : wE K te (x0 :: x1 :: x2 :: x3 :: y :: r) O fun d O1 => PS (.nx (x0 :: x1 :: x2 :: x3 :: some d :: r)) O1) : wS K (tAsg te (gName 4)) (x0 :: x1 :: x2 :: x3 :: y :: r) O PS := s_asg h
theorem gn4 {x0 x1 x2 x3 y : Option D} (p : PR (x0 :: x1 :: x2 :: x3 :: some d :: r) O) : wG K (gName 4) d (x0 :: x1 :: x2 :: x3 :: y :: r) O PR := g_name p
theorem ev5 {x0 x1 x2 x3 x4 : Option D} (p : P d O) : wE K (tVar 5) (x0 :: x1 :: x2 :: x3 :: x4 :: some d :: r) O P := e_var rfl p
theorem sa5 {x0 x1 x2 x3 x4 y : Option D} (h : wE K te (x0 :: x1 :: x2 :: x3 :: x4 :: y :: r) O fun d O1 => PS (.nx (x0 :: x1 :: x2 :: x3 :: x4 :: some d :: r)) O1) : wS K (tAsg te (gName 5)) (x0 :: x1 :: x2 :: x3 :: x4 :: y :: r) O PS := s_asg h
theorem gn5 {x0 x1 x2 x3 x4 y : Option D} (p : PR (x0 :: x1 :: x2 :: x3 :: x4 :: some d :: r) O) : wG K (gName 5) d (x0 :: x1 :: x2 :: x3 :: x4 :: y :: r) O PR := g_name p
theorem ev6 {x0 x1 x2 x3 x4 x5 : Option D} (p : P d O) : wE K (tVar 6) (x0 :: x1 :: x2 :: x3 :: x4 :: x5 :: some d :: r) O P := e_var rfl p
theorem sa6 {x0 x1 x2 x3 x4 x5 y : Option D} (h : wE K te (x0 :: x1 :: x2 :: x3 :: x4 :: x5 :: y :: r) O fun d O1 => PS (.nx (x0 :: x1 :: x2 :: x3 :: x4 :: x5 :: some d :: r)) O1) : wS K (tAsg te (gName 6)) (x0 :: x1 :: x2 :: x3 :: x4 :: x5 :: y :: r) O PS := s_asg h
theorem ev7 {x0 x1 x2 x3 x4 x5 x6 : Option D} (p : P d O) : wE K (tVar 7) (x0 :: x1 :: x2 :: x3 :: x4 :: x5 :: x6 :: some d :: r) O P := e_var rfl p
theorem sa7 {x0 x1 x2 x3 x4 x5 x6 y : Option D} (h : wE K te (x0 :: x1 :: x2 :: x3 :: x4 :: x5 :: x6 :: y :: r) O fun d O1 => PS (.nx (x0 :: x1 :: x2 :: x3 :: x4 :: x5 :: x6 :: some d :: r)) O1) : wS K (tAsg te (gName 7)) (x0 :: x1 :: x2 :: x3 :: x4 :: x5 :: x6 :: y :: r) O PS := s_asg h
theorem ev8 {x0 x1 x2 x3 x4 x5 x6 x7 : Option D} (p : P d O) : wE K (tVar 8) (x0 :: x1 :: x2 :: x3 :: x4 :: x5 :: x6 :: x7 :: some d :: r) O P := e_var rfl p
theorem sa8 {x0 x1 x2 x3 x4 x5 x6 x7 y : Option D} (h : wE K te (x0 :: x1 :: x2 :: x3 :: x4 :: x5 :: x6 :: x7 :: y :: r) O fun d O1 => PS (.nx (x0 :: x1 :: x2 :: x3 :: x4 :: x5 :: x6 :: x7 :: some d :: r)) O1) : wS K (tAsg te (gName 8)) (x0 :: x1 :: x2 :: x3 :: x4 :: x5 :: x6 :: x7 :: y :: r) O PS := s_asg h
theorem gn8 {x0 x1 x2 x3 x4 x5 x6 x7 y : Option D} (p : PR (x0 :: x1 :: x2 :: x3 :: x4 :: x5 :: x6 :: x7 :: some d :: r) O) : wG K (gName 8) d (x0 :: x1 :: x2 :: x3 :: x4 :: x5 :: x6 :: x7 :: y :: r) O PR := g_name p
theorem ev9 {x0 x1 x2 x3 x4 x5 x6 x7 x8 : Option D} (p : P d O) : wE K (tVar 9) (x0 :: x1 :: x2 :: x3 :: x4 :: x5 :: x6 :: x7 :: x8 :: some d :: r) O P := e_var rfl p
theorem sa9 {x0 x1 x2 x3 x4 x5 x6 x7 x8 y : Option D} (h : wE K te (x0 :: x1 :: x2 :: x3 :: x4 :: x5 :: x6 :: x7 :: x8 :: y :: r) O fun d O1 => PS (.nx (x0 :: x1 :: x2 :: x3 :: x4 :: x5 :: x6 :: x7 :: x8 :: some d :: r)) O1) : wS K (tAsg te (gName 9)) (x0 :: x1 :: x2 :: x3 :: x4 :: x5 :: x6 :: x7 :: x8 :: y :: r) O PS := s_asg h
theorem gn9 {x0 x1 x2 x3 x4 x5 x6 x7 x8 y : Option D} (p : PR (x0 :: x1 :: x2 :: x3 :: x4 :: x5 :: x6 :: x7 :: x8 :: some d :: r) O) : wG K (gName 9) d (x0 :: x1 :: x2 :: x3 :: x4 :: x5 :: x6 :: x7 :: x8 :: y :: r) O PR := g_name p
theorem ev10 {x0 x1 x2 x3 x4 x5 x6 x7 x8 x9 : Option D} (p : P d O) : wE K (tVar 10) (x0 :: x1 :: x2 :: x3 :: x4 :: x5 :: x6 :: x7 :: x8 :: x9 :: some d :: r) O P := e_var rfl p
theorem sa10 {x0 x1 x2 x3 x4 x5 x6 x7 x8 x9 y : Option D} (h : wE K te (x0 :: x1 :: x2 :: x3 :: x4 :: x5 :: x6 :: x7 :: x8 :: x9 :: y :: r) O fun d O1 => PS (.nx (x0 :: x1 :: x2 :: x3 :: x4 :: x5 :: x6 :: x7 :: x8 :: x9 :: some d :: r)) O1) : wS K (tAsg te (gName 10)) (x0 :: x1 :: x2 :: x3 :: x4 :: x5 :: x6 :: x7 :: x8 :: x9 :: y :: r) O PS := s_asg h
theorem ev11 {x0 x1 x2 x3 x4 x5 x6 x7 x8 x9 x10 : Option D} (p : P d O) : wE K (tVar 11) (x0 :: x1 :: x2 :: x3 :: x4 :: x5 :: x6 :: x7 :: x8 :: x9 :: x10 :: some d :: r) O P := e_var rfl p
variable {ρ : Rho} {tu : TS}
theorem th_nx (h : wS K tu ρ O PS) : thenP K tu PS (.nx ρ) O := h
theorem th_ret (h : PS (.ret d) O) : thenP K tu PS (.ret d) O := h
theorem th_ct (h : PS (.ct ρ) O) : thenP K tu PS (.ct ρ) O := h
variable {I : Nat → Rho → Store → Prop} {n : Nat}
theorem lp_nx (h : I n ρ O) : loopP I n PS (.nx ρ) O := h
theorem lp_ct (h : I n ρ O) : loopP I n PS (.ct ρ) O := h
theorem lp_ret (h : PS (.ret d) O) : loopP I n PS (.ret d) O := h
theorem rp_ret {P : D → Prop} (h : P d) : retP P (.ret d) O := h
end
/-! lengths -/
section
variable {a b c d e f g h : D} {p : Prop}
theorem le0 (k : p) : ([] : List D).length = 0 ∧ p := ⟨rfl, k⟩
theorem ll0 (k : p) : ([] : List D).length ≤ 100000 ∧ p := ⟨by show 0 ≤ 100000; decide, k⟩
theorem le1 (k : p) : ([a] : List D).length = 1 ∧ p := ⟨rfl, k⟩
theorem ll1 (k : p) : ([a] : List D).length ≤ 100000 ∧ p := ⟨by show 1 ≤ 100000; decide, k⟩
theorem lm1 (k : p) : ([a] : List D).length + 1 = 2 ∧ p := ⟨rfl, k⟩
theorem le2 (k : p) : ([a, b] : List D).length = 2 ∧ p := ⟨rfl, k⟩
theorem ll2 (k : p) : ([a, b] : List D).length ≤ 100000 ∧ p := ⟨by show 2 ≤ 100000; decide, k⟩
theorem le3 (k : p) : ([a, b, c] : List D).length = 3 ∧ p := ⟨rfl, k⟩
theorem ll3 (k : p) : ([a, b, c] : List D).length ≤ 100000 ∧ p := ⟨by show 3 ≤ 100000; decide, k⟩
theorem le4 (k : p) : ([a, b, c, d] : List D).length = 4 ∧ p := ⟨rfl, k⟩
theorem ll4 (k : p) : ([a, b, c, d] : List D).length ≤ 100000 ∧ p := ⟨by show 4 ≤ 100000; decide, k⟩
theorem ll5 (k : p) : ([a, b, c, d, e] : List D).length ≤ 100000 ∧ p := ⟨by show 5 ≤ 100000; decide, k⟩
theorem ll7 (k : p) : ([a, b, c, d, e, f, g] : List D).length ≤ 100000 ∧ p := ⟨by show 7 ≤ 100000; decide, k⟩
end
/-! tests -/
section
variable {A B : Prop} {q : Prop} [Decidable q]
theorem sp_d (h1 : q → A) (h2 : ¬ q → B) : ∃ b, D.bl (decide q) = .bl b ∧ (b = true → A) ∧ (b = false → B) := ⟨_, rfl, fun h => h1 (of_decide_eq_true h), fun h => h2 (of_decide_eq_false h)⟩
theorem sp_y (hq : q) (h1 : A) : ∃ b, D.bl (decide q) = .bl b ∧ (b = true → A) ∧ (b = false → B) := sp_d (fun _ => h1) fun z => absurd hq z
theorem sp_n (hq : ¬ q) (h1 : B) : ∃ b, D.bl (decide q) = .bl b ∧ (b = true → A) ∧ (b = false → B) := sp_d (fun z => absurd z hq) fun _ => h1
theorem sp_nd (h1 : q → A) (h2 : ¬ q → B) : ∃ b, D.bl (decide q) = .bl b ∧ (b = false → B) ∧ (b = true → A) := ⟨_, rfl, fun h => h2 (of_decide_eq_false h), fun h => h1 (of_decide_eq_true h)⟩
/-- written with ! -/
theorem sm_d (h1 : q → B) (h2 : ¬ q → A) : ∃ b, D.bl (!decide q) = .bl b ∧ (b = true → A) ∧ (b = false → B) := ⟨_, rfl, fun h => h2 (of_decide_eq_false (by simpa using h)), fun h => h1 (of_decide_eq_true (by simpa using h))⟩
theorem sb_t (h : A) : ∃ b, D.bl true = .bl b ∧ (b = true → A) ∧ (b = false → B) := ⟨_, rfl, fun _ => h, fun z => nomatch z⟩
theorem sb_f (h : B) : ∃ b, D.bl false = .bl b ∧ (b = true → A) ∧ (b = false → B) := ⟨_, rfl, (fun z => nomatch z), fun _ => h⟩
theorem sbn_t (h : B) : ∃ b, D.bl true = .bl b ∧ ((!b) = true → A) ∧ ((!b) = false → B) := ⟨_, rfl, (fun z => nomatch z), fun _ => h⟩
theorem sbn_f (h : A) : ∃ b, D.bl false = .bl b ∧ ((!b) = true → A) ∧ ((!b) = false → B) := ⟨_, rfl, fun _ => h, fun z => nomatch z⟩
theorem sbn_ot (h : B) : ∃ b, D.bl true = .bl b ∧ ((!b) = false → B) ∧ ((!b) = true → A) := ⟨_, rfl, fun _ => h, fun z => nomatch z⟩
/-- the nested ends of and, or -/
theorem tt_t (h : A) : (true = true → A) ∧ (true = false → B) := ⟨fun _ => h, fun z => nomatch z⟩
theorem tt_f (h : B) : (false = true → A) ∧ (false = false → B) := ⟨(fun z => nomatch z), fun _ => h⟩
end
/-! operations on plain data -/
section
variable {K : PySem.W.Frag} {O : Store} {P : D → Store → Prop}
theorem r_eqI {i j : Int} (p : P (.bl (decide (i = j))) O) : wR K rEq (.int i) (.int j) O P := r_eq rfl (by rw [dec_ints]; exact p)
theorem r_neI {i j : Int} (p : P (.bl (!decide (i = j))) O) : wR K rNe (.int i) (.int j) O P := r_ne rfl (by rw [dec_ints]; exact p)
theorem r_t0 {a : D} {l : List D} (p : P a O) : wR K (rIxT K) (.tup (a :: l)) (.int 0) O P := r_ixT (atI_nat' (by decide) (by simp only [List.length_cons]; omega)) p
theorem r_t1 {a b : D} {l : List D} (p : P b O) : wR K (rIxT K) (.tup (a :: b :: l)) (.int 1) O P := r_ixT (atI_nat' (by decide) (by simp only [List.length_cons]; omega)) p
theorem r_t2 {a b c : D} {l : List D} (p : P c O) : wR K (rIxT K) (.tup (a :: b :: c :: l)) (.int 2) O P := r_ixT (atI_nat' (by decide) (by simp only [List.length_cons]; omega)) p
theorem r_q2 {C : Addr} {E : XK} {f : Rat → Rat → D} {x y : Rat} {m n : Nat} (hx : bits x m) (hy : bits y n) (h : m + n ≤ 8900) (p : P (f x y) O) : wR K (rOwn C (spP K 2 (W_q2 C f)) E) (dQ C x) (dQ C y) O P := r_own ⟨x, y, m, n, rfl, hx, hy, h, p⟩
theorem r_q1 {C : Addr} {E : XK} {f : Rat → D} {x : Rat} {m : Nat} (hx : bits x m) (h : m ≤ 8900) (p : P (f x) O) : wU K (rOwn1 C (spP K 1 (W_q1 C f)) E) (dQ C x) O P := r_own1 ⟨x, m, rfl, hx, h, p⟩
end
/-! promises, each to be shown at its arguments -/
section
variable {P : D → Prop} {C : Addr}
theorem k_q0 {q : Rat} (p : P (dQ C q)) : W_q0 C q [] P := ⟨rfl, p⟩
theorem k_v0 (p : P (dV C zV)) : W_v0 C [] P := ⟨rfl, p⟩
theorem k_whole {n : Int} (p : P (dQ C (n : Rat))) : W_whole C [.int n] P := ⟨n, rfl, p⟩
theorem k_scaled {q : Rat} {a : V3} {m n : Nat} (hq : bits q m) (ha : bitsV a n) (h : m + n ≤ 8900) (p : P (dV C (mulV q a))) : W_scaled C [dQ C q, dV C a] P := ⟨q, a, m, n, rfl, hq, ha, h, p⟩
theorem k_det {a b c : V3} {m1 m2 m3 : Nat} (ha : bitsV a m1) (hb : bitsV b m2) (hc : bitsV c m3) (h : 15 * max m1 (max m2 m3) + 5 ≤ 8900) (p : P (dQ C (detV a b c))) : W_det C [dV C a, dV C b, dV C c] P :=
  ⟨a, b, c, max m1 (max m2 m3), rfl, bitsV_mono ha (by omega), bitsV_mono hb (by omega), bitsV_mono hc (by omega), h, p⟩
theorem k_is {q : Rat} {t b : Int} {n : Nat} (h0 : b ≠ 0) (hb : b.natAbs < 2 ^ n) (h : n ≤ 300) (p : P (.bl (decide (q = Rat.divInt t b)))) : W_is C [dQ C q, .int t, .int b] P := ⟨q, t, b, rfl, h0, lt300 hb h, p⟩
end
section
variable {K : PySem.W.Frag} {P : D → Store → Prop}
/-- an own method of a quotient -/
theorem mt_q {C : Addr} {q : Rat} {m : Str} {A : Prop} (hm : List.lookup m [("top", D.int q.num), ("bottom", .int (q.den : Int))] = none) (h : A) : ∃ fs, dQ C q = .ins C fs ∧ fs.lookup m = none ∧ A := ⟨_, rfl, hm, h⟩
theorem k_over {C CB : Addr} {P : D → Prop} {x y : Rat} {m n : Nat} (h0 : y ≠ 0) (hx : bits x m) (hy : bits y n) (h : m + n ≤ 8900) (p : P (dQ C (x / y))) : W_over C CB [dQ C x, dQ C y] P fun _ => False := ⟨x, y, m, n, rfl, hx, hy, h, fun z => absurd z h0, fun _ => p⟩
end
/-! bounds -/
section
variable {K : PySem.W.Frag} {ρ : Rho} {O : Store} {P : Rho → Store → Prop} {u : TGs} {a b c d : D}
variable {n : Nat}
theorem g_tup2 (hn : 2 = n) (h : wGs K u [a, b] ρ O P) : wG K (gTup K n u) (.tup [a, b]) ρ O P := g_tup hn h
theorem g_tup4 (hn : 4 = n) (h : wGs K u [a, b, c, d] ρ O P) : wG K (gTup K n u) (.tup [a, b, c, d]) ρ O P := g_tup hn h
end
end G
/-! Statements that may let an error out: the frame behind is fixed. -/
namespace G
open PySem L2 PySem.Spec PyProof.Rows
def wSx (K : PySem.W.Frag) (F : Store) (B0 : Hp) (ts : TS) (ρ : Rho) (O : Store) (P : Out → Store → Prop) : Prop :=
  ∀ σ B H, Ex B0 B → EnvR K B σ ρ → Hs K B H (O ++ F) → ∀ Dn : Ends, FinS K B F P Dn → ts Dn σ H
def thenX (K : PySem.W.Frag) (F : Store) (B0 : Hp) (tu : TS) (PS : Out → Store → Prop) : Out → Store → Prop
  | .nx ρ, O => wSx K F B0 tu ρ O PS
  | .ret d, O => PS (.ret d) O
  | .bk ρ, O => PS (.bk ρ) O
  | .ct ρ, O => PS (.ct ρ) O
/-- what leaves by an error -/
def Lets (K : PySem.W.Frag) (F : Store) (B0 : Hp) (E : XK) (PX : Addr → Prop) : Prop := ∀ c B2 H2, PX c → Ex B0 B2 → Hs K B2 H2 F → E (.ref c) none H2
section
variable {K : PySem.W.Frag} {F : Store} {B0 : Hp} {ts tu : TS} {ρ : Rho} {O : Store} {PS : Out → Store → Prop} {t : TT} {te : TE} {E : XK} {PX : Addr → Prop} {n : Nat}
theorem xs_lift (h : wS K ts ρ O PS) : wSx K F B0 ts ρ O PS := fun σ B H _ e hs Dn q => h F σ B H e hs Dn q
theorem xs_liftA {i : Nat} (h : wS K (tAsg te (gName i)) ρ O PS) : wSx K F B0 (tAsg te (gName i)) ρ O PS := xs_lift h
theorem xs_liftN (h : wS K tNext ρ O PS) : wSx K F B0 tNext ρ O PS := xs_lift h
theorem thx_nx (h : wSx K F B0 tu ρ O PS) : thenX K F B0 tu PS (.nx ρ) O := h
theorem xs_seq (h : wSx K F B0 ts ρ O (thenX K F B0 tu PS)) : wSx K F B0 (tSeq ts tu) ρ O PS := fun σ B H e0 e hs Dn q =>
  h σ B H e0 e hs _ fun o O1 B1 H1 p1 e1 hs1 => by
    cases o with
    | nx ρ1 => exact fun σ1 r1 => p1 σ1 B1 H1 (e0.trans e1) r1 hs1 Dn (q.ex e1)
    | ret d => exact q (.ret d) O1 B1 H1 p1 e1 hs1
    | bk ρ1 => exact q (.bk ρ1) O1 B1 H1 p1 e1 hs1
    | ct ρ1 => exact q (.ct ρ1) O1 B1 H1 p1 e1 hs1
theorem xs_if (h : wT K t ρ O fun b O1 => (b = true → wSx K F B0 ts ρ O1 PS) ∧ (b = false → wSx K F B0 tu ρ O1 PS)) : wSx K F B0 (tIfS t ts tu) ρ O PS := fun σ B H e0 e hs Dn q =>
  h F σ B H e hs _ fun b O1 B1 H1 p1 e1 hs1 => by
    cases b with
    | true =>
      rw [if_pos rfl]
      exact p1.1 rfl σ B1 H1 (e0.trans e1) (e.mono e1) hs1 Dn (q.ex e1)
    | false =>
      rw [if_neg Bool.false_ne_true]
      exact p1.2 rfl σ B1 H1 (e0.trans e1) (e.mono e1) hs1 Dn (q.ex e1)
theorem xs_raise {c : Addr} (l : Lets K F B0 E PX) (p : PX c) : wSx K F B0 (fun _ _ H => E (.ref c) none H) ρ O PS := fun σ B H e0 e hs Dn q => l c B H p e0 hs.dropL
/-- f(..), whose error goes on -/
theorem xs_dropX {W : List D → (D → Prop) → (Addr → Prop) → Prop} {ta : TA} {P' : D → Prop} (l : Lets K F B0 E PX) (h : wA K ta ρ O fun ds O1 => ds.length = n ∧ W ds (fun _ => PS (.nx ρ) O1) PX) : wSx K F B0 (tDrop (tCall (spX K n W) [] E ta)) ρ O PS := fun σ B H e0 e hs Dn q =>
  h F σ B H e hs _ fun vs ds O1 B1 H1 p1 e1 hs1 r => ⟨O1 ++ F, B1, ds, _, _, hs1, by rw [List.append_nil]; exact r, p1.1, p1.2, fun v d B2 H2 p e2 hs2 rv => q (.nx ρ) O1 B2 H2 p (e1.trans e2) hs2 σ (e.mono (e1.trans e2)), fun c B2 H2 p e2 hs2 => l c B2 H2 p ((e0.trans e1).trans e2) hs2.dropL⟩
theorem xs_rho {ρ' : Rho} (e : ρ = ρ') (h : wSx K F B0 ts ρ' O PS) : wSx K F B0 ts ρ O PS := by rw [e]; exact h
end
section
variable {Pr : Program} {w : World} {K : PySem.W.Frag} {mg : Str → Option Value} {base : Heap} {x qual : Str} {st : Stmt} {f : Addr} {fd : FuncData} {N ps : List Str} {k n : Nat}
/-- a def that may raise, by statements -/
theorem okY {W : List D → (D → Prop) → (Addr → Prop) → Prop} (F : Fun K x qual st f fd) (S : FnScope N ps (defScope st)) (hn : ps.length = n)
    (hb : ∀ (cdv : Value) (A : Around) (outer : List Env) (s : Shared) (H0 : Hp) (E : XK), Room k (A.deeper (envOfC qual (defScope st) s.heap.objs.size f cdv)) → ∃ t, PSs (cxOf (L2.CX Pr w) Pr w K mg base N qual (defScope st) f cdv A outer s H0 E) (defBody st) t ∧
      ∀ ds P PX, ds.length = n → W ds P PX → ∀ (F1 : Store) (B0 : Hp), Lets K F1 B0 E PX → wSx K F1 B0 t (rho0 N.length ds) [] (retP P)) : FnOk Pr w K mg base (L2.CX Pr w) (k + 1) f fd ps (spX K n W) :=
  okX F S hn fun cdv A outer s H0 E hr => by
    obtain ⟨t, ht, hw⟩ := hb cdv A outer s H0 E hr
    refine ⟨t, ht, fun ds P PX hl hW F1 B H σ Q e hs q qx => ?_⟩
    refine hw ds P PX hl hW F1 B qx σ B H (Evl.Ex.refl _) e hs _ fun o O2 B2 H2 p e2 hs2 => ?_
    cases o with
    | nx ρ => exact fun σ _ => q _ _ B2 H2 p e2 hs2.dropL (.raw _)
    | ret d => exact fun v rv => q v d B2 H2 p e2 hs2.dropL rv
    | bk ρ => exact False.elim p
    | ct ρ => exact False.elim p
end
end G
/-! Comprehensions and loops over written lists, turn by turn; drawn lists; slices, sums of lists and tuples. -/
namespace G
open PySem L2 PySem.Spec PyProof.Rows
section
variable {K : PySem.W.Frag} {ρ : Rho} {O O1 : Store} {P : D → Store → Prop} {PS : Out → Store → Prop} {te : TE} {tb : TS} {PR : Rho → Store → Prop} {r : Rho} {d : D} {wi : TI} {g : TG} {vs : List Nat}
theorem gw1 {x0 y : Option D} (p : PR (x0 :: some d :: r) O) : wG K (gName 1) d (wipeR (x0 :: y :: r) [1]) O PR := g_name p
theorem gw2 {x0 x1 y : Option D} (p : PR (x0 :: x1 :: some d :: r) O) : wG K (gName 2) d (wipeR (x0 :: x1 :: y :: r) [2]) O PR := g_name p
theorem gx2 {x0 x1 y z : Option D} {n : Nat} {a b : D} (hn : 2 = n) (p : PR (x0 :: x1 :: some a :: some b :: r) O) : wG K (gTup K n (gCons (gName 2) (gCons (gName 3) gNil))) (.tup [a, b]) (wipeR (x0 :: x1 :: y :: z :: r) [2, 3]) O PR := g_tup hn (gs_cons' (g_name (gs_cons' (g_name (gs_nil' p)))))
theorem gw3 {x0 x1 x2 y : Option D} (p : PR (x0 :: x1 :: x2 :: some d :: r) O) : wG K (gName 3) d (wipeR (x0 :: x1 :: x2 :: y :: r) [3]) O PR := g_name p
theorem gx3 {x0 x1 x2 y z : Option D} {n : Nat} {a b : D} (hn : 2 = n) (p : PR (x0 :: x1 :: x2 :: some a :: some b :: r) O) : wG K (gTup K n (gCons (gName 3) (gCons (gName 4) gNil))) (.tup [a, b]) (wipeR (x0 :: x1 :: x2 :: y :: z :: r) [3, 4]) O PR := g_tup hn (gs_cons' (g_name (gs_cons' (g_name (gs_nil' p)))))
theorem gw4 {x0 x1 x2 x3 y : Option D} (p : PR (x0 :: x1 :: x2 :: x3 :: some d :: r) O) : wG K (gName 4) d (wipeR (x0 :: x1 :: x2 :: x3 :: y :: r) [4]) O PR := g_name p
theorem gw5 {x0 x1 x2 x3 x4 y : Option D} (p : PR (x0 :: x1 :: x2 :: x3 :: x4 :: some d :: r) O) : wG K (gName 5) d (wipeR (x0 :: x1 :: x2 :: x3 :: x4 :: y :: r) [5]) O PR := g_name p
theorem gw6 {x0 x1 x2 x3 x4 x5 y : Option D} (p : PR (x0 :: x1 :: x2 :: x3 :: x4 :: x5 :: some d :: r) O) : wG K (gName 6) d (wipeR (x0 :: x1 :: x2 :: x3 :: x4 :: x5 :: y :: r) [6]) O PR := g_name p
theorem gw7 {x0 x1 x2 x3 x4 x5 x6 y : Option D} (p : PR (x0 :: x1 :: x2 :: x3 :: x4 :: x5 :: x6 :: some d :: r) O) : wG K (gName 7) d (wipeR (x0 :: x1 :: x2 :: x3 :: x4 :: x5 :: x6 :: y :: r) [7]) O PR := g_name p
theorem gw8 {x0 x1 x2 x3 x4 x5 x6 x7 y : Option D} (p : PR (x0 :: x1 :: x2 :: x3 :: x4 :: x5 :: x6 :: x7 :: some d :: r) O) : wG K (gName 8) d (wipeR (x0 :: x1 :: x2 :: x3 :: x4 :: x5 :: x6 :: x7 :: y :: r) [8]) O PR := g_name p
theorem gw11 {x0 x1 x2 x3 x4 x5 x6 x7 x8 x9 x10 y : Option D} (p : PR (x0 :: x1 :: x2 :: x3 :: x4 :: x5 :: x6 :: x7 :: x8 :: x9 :: x10 :: some d :: r) O) : wG K (gName 11) d (wipeR (x0 :: x1 :: x2 :: x3 :: x4 :: x5 :: x6 :: x7 :: x8 :: x9 :: x10 :: y :: r) [11]) O PR := g_name p
/-- a comprehension's turns, one behind the other -/
def unr (K : PySem.W.Frag) (g : TG) (te : TE) (ρ0 : Rho) (P : D → Store → Prop) : List D → List D → Store → Prop
  | [], acc, O => P (.lst acc) O
  | d :: ds, acc, O => wG K g d ρ0 O fun ρ2 O2 => wE K te ρ2 O2 fun y O3 => unr K g te ρ0 P ds (acc ++ [y]) O3
theorem e_lcU (hg : GOnly g vs) (mg : GMono g) (h : wI K wi ρ O fun ds O1 => ds.length < 90000 ∧ unr K g te (wipeR ρ vs) P ds [] O1) : wE K (tLc wi g tYes te vs) ρ O P := by
  refine e_lc hg mg fun F σ B H e hs R q => h F σ B H e hs R fun J ds O' B2 H2 p e2 hs2 it => ?_
  obtain ⟨hl, p⟩ := p
  refine q J ds O' B2 H2 ⟨hl, fun i acc O3 => unr K g te (wipeR ρ vs) P (ds.drop i) acc O3, p, ?_, ?_⟩ e2 hs2 it
  · intro i d acc O3 hd hal hu
    have hi := (List.getElem?_eq_some_iff.mp hd).1
    rw [List.drop_eq_getElem_cons hi] at hu
    have ed : ds[i] = d := (List.getElem?_eq_some_iff.mp hd).2
    rw [ed] at hu
    intro F1 v σ1 B1 H1 e1 hs1 r1 Q1 q1
    refine hu F1 v σ1 B1 H1 e1 hs1 r1 Q1 fun σ' ρ' O4 B3 H3 p3 => ?_
    exact q1 σ' ρ' _ B3 H3 (t_yes ⟨fun _ => p3, fun z => nomatch z⟩)
  · intro acc O3 hu
    rw [List.drop_length] at hu
    exact hu
theorem un_nil {acc : List D} {ρ0 : Rho} (h : P (.lst acc) O) : unr K g te ρ0 P [] acc O := h
theorem un_0 {ρ0 : Rho} {ds : List D} (h : wG K g d ρ0 O fun ρ2 O2 => wE K te ρ2 O2 fun y O3 => unr K g te ρ0 P ds [y] O3) : unr K g te ρ0 P (d :: ds) [] O := h
theorem un_1 {a0 : D} {ρ0 : Rho} {ds : List D} (h : wG K g d ρ0 O fun ρ2 O2 => wE K te ρ2 O2 fun y O3 => unr K g te ρ0 P ds [a0, y] O3) : unr K g te ρ0 P (d :: ds) [a0] O := h
theorem un_2 {a0 a1 : D} {ρ0 : Rho} {ds : List D} (h : wG K g d ρ0 O fun ρ2 O2 => wE K te ρ2 O2 fun y O3 => unr K g te ρ0 P ds [a0, a1, y] O3) : unr K g te ρ0 P (d :: ds) [a0, a1] O := h
/-- a loop's turns, one behind the other -/
def ufor (K : PySem.W.Frag) (g : TG) (tb : TS) (PS : Out → Store → Prop) : List D → Rho → Store → Prop
  | [], ρ, O => PS (.nx ρ) O
  | d :: ds, ρ, O => wG K g d ρ O fun ρ2 O2 => wS K tb ρ2 O2 fun o O3 => match o with
    | .nx ρ3 => ufor K g tb PS ds ρ3 O3
    | .ct ρ3 => ufor K g tb PS ds ρ3 O3
    | .bk ρ3 => PS (.nx ρ3) O3
    | .ret d => PS (.ret d) O3
def uforP (K : PySem.W.Frag) (g : TG) (tb : TS) (PS : Out → Store → Prop) (ds : List D) : Out → Store → Prop
  | .nx ρ3, O3 => ufor K g tb PS ds ρ3 O3
  | .ct ρ3, O3 => ufor K g tb PS ds ρ3 O3
  | .bk ρ3, O3 => PS (.nx ρ3) O3
  | .ret d, O3 => PS (.ret d) O3
/-- what is walked, written -/
theorem ex_lst {ds : List D} {Q : List D → Prop} (h : Q ds) : ∃ ds', D.lst ds = .lst ds' ∧ Q ds' := ⟨_, rfl, h⟩
theorem ex_tup {ds : List D} {Q : List D → Prop} (h : Q ds) : ∃ ds', D.tup ds = .tup ds' ∧ Q ds' := ⟨_, rfl, h⟩
theorem i_rngL {ta : TA} {P : List D → Store → Prop} (h : wA K ta ρ O fun ds O1 => ∃ n : Int, ds = [.int n] ∧ -(2 ^ 62) ≤ n ∧ n < 2 ^ 62 ∧ ∃ l, rangeD 0 n.toNat = l ∧ P l O1) : wI K (iRng1 ta) ρ O P := i_rng1 fun F σ B H e hs Q q => h F σ B H e hs Q fun vs ds O' B2 H2 p => q vs ds O' B2 H2 (by
  obtain ⟨n, h1, h2, h3, l, rfl, p⟩ := p
  exact ⟨n, h1, h2, h3, p⟩)
theorem ex_rgI {k : Int} {Q : Int → Prop} (hk : -1000000 < k ∧ k < 1000000) (h : Q k) : ∃ n : Int, [D.int k] = [.int n] ∧ -(2 ^ 62) ≤ n ∧ n < 2 ^ 62 ∧ Q n := ⟨k, rfl, by omega, by omega, h⟩
theorem ex_r3 {Q : List D → Prop} (h : Q [.int 0, .int 1, .int 2]) : ∃ l, rangeD 0 (Int.toNat 3) = l ∧ Q l := ⟨_, rfl, h⟩
theorem ex_rl {k : Nat} {Q : List D → Prop} (h : Q (rangeD 0 k)) : ∃ l, rangeD 0 k = l ∧ Q l := ⟨_, rfl, h⟩
theorem l90_3 {a b c : D} {p : Prop} (h : p) : [a, b, c].length < 90000 ∧ p := ⟨by show 3 < 90000; decide, h⟩
/-! slices -/
def wZ (K : PySem.W.Frag) (r : V → Option Int → Option Int → Hp → VK → Prop) (x : D) (lo hi : Option Int) (O : Store) (P : D → Store → Prop) : Prop :=
  ∀ F v B H, Rep K B v x → Hs K B H (O ++ F) → ∀ Q : VK, Fin K B F P Q → r v lo hi H Q
def wO (K : PySem.W.Frag) (t : TO) (ρ : Rho) (O : Store) (P : Option Int → Store → Prop) : Prop :=
  ∀ F σ B H, EnvR K B σ ρ → Hs K B H (O ++ F) → ∀ Q : Option Int → Hp → Prop, (∀ b O' B2 H2, P b O' → Ex B B2 → Hs K B2 H2 (O' ++ F) → Q b H2) → t σ H Q
theorem o_none {PO : Option Int → Store → Prop} (p : PO none O) : wO K tNoPart ρ O PO := fun F σ B H e hs Q q => q none O B H p (Evl.Ex.refl B) hs
theorem o_some {PO : Option Int → Store → Prop} (h : wE K te ρ O fun d O1 => ∃ i, d = .int i ∧ PO (some i) O1) : wO K (tPart te) ρ O PO := fun F σ B H e hs Q q =>
  h F σ B H e hs _ fun v d O1 B1 H1 p1 e1 hs1 r => by
    obtain ⟨i, rfl, p⟩ := p1
    cases r
    exact ⟨i, rfl, q (some i) O1 B1 H1 p e1 hs1⟩
theorem ex_int {i : Int} {Q : Int → Prop} (h : Q i) : ∃ j, D.int i = .int j ∧ Q j := ⟨i, rfl, h⟩
theorem e_sl {rr : V → Option Int → Option Int → Hp → VK → Prop} {tl th : TO} (h : wE K te ρ O fun x O1 => wO K tl ρ O1 fun lo O2 => wO K th ρ O2 fun hi O3 => wZ K rr x lo hi O3 P) : wE K (tSl rr te tl th) ρ O P := fun F σ B H e hs Q q =>
  h F σ B H e hs _ fun v x O1 B1 H1 p1 e1 hs1 rx => p1 F σ B1 H1 (e.mono e1) hs1 _ fun lo O2 B2 H2 p2 e2 hs2 => p2 F σ B2 H2 ((e.mono e1).mono e2) hs2 _ fun hi O3 B3 H3 p3 e3 hs3 =>
    p3 F v B3 H3 ((rx.mono e2).mono e3) hs3 Q (q.ex ((e1.trans e2).trans e3))
def cutD (ds : List D) (lo hi : Option Int) : List D := (ds.drop (HT.sIx ds.length 0 lo)).take (HT.sIx ds.length ds.length hi - HT.sIx ds.length 0 lo)
theorem reps_cut {B : Hp} {vs : List V} {ds : List D} (r : Reps K B vs ds) (lo hi : Option Int) : Reps K B (cutV vs lo hi) (cutD ds lo hi) := by
  unfold cutV cutD
  rw [r.length]
  exact (r.drop _).take _
theorem z_lst {ds : List D} {lo hi : Option Int} (p : P (.lst (cutD ds lo hi)) O) : wZ K (rSlL K) (.lst ds) lo hi O P := fun F v B H rx hs Q q => by
  cases rx with
  | lst h r =>
    refine ⟨_, _, rfl, Evl.sq_of (hs.ex _ _ h), fun l hl => ?_⟩
    obtain ⟨hs2, e2⟩ := hs.new (o := .lst _) hl
    exact q _ _ O _ _ p e2 hs2 (.lst upd_same ((reps_cut r lo hi).mono e2))
theorem cutD_whole {ds : List D} {lo hi : Option Int} (h : HT.sIx ds.length 0 lo = 0 ∧ HT.sIx ds.length ds.length hi = ds.length) : cutD ds lo hi = ds := by
  unfold cutD
  rw [h.1, h.2, List.drop_zero, Nat.sub_zero, List.take_length]
theorem z_tup {ds : List D} {lo hi : Option Int} (p : P (.tup (cutD ds lo hi)) O) : wZ K (rSlA K) (.tup ds) lo hi O P := fun F v B H rx hs Q q => by
  cases rx with
  | tup h r =>
    refine ⟨_, _, rfl, Evl.ex_t hs.ex h, fun hw => ?_, fun _ l hl => ?_⟩
    · rw [r.length] at hw
      rw [cutD_whole hw] at p
      exact q.here hs (.tup h r) p
    · obtain ⟨hs2, e2⟩ := hs.new (o := .tup _) hl
      exact q _ _ O _ _ p e2 hs2 (.tup (Evl.st_of upd_same) ((reps_cut r lo hi).mono e2))
/-! sums -/
theorem r_cat {xs ys : List D} (h : xs.length + ys.length ≤ 100000) (p : P (.lst (xs ++ ys)) O) : wR K rCat (.lst xs) (.lst ys) O P := fun F v u B H rx ry hs Q q => by
  cases rx with
  | lst h1 r1 =>
    cases ry with
    | lst h2 r2 =>
      refine ⟨_, _, _, _, rfl, rfl, hs.ex _ _ h1, hs.ex _ _ h2, Evl.sz_of (by rw [r1.length, r2.length]; exact h), fun l hl => ?_⟩
      obtain ⟨hs2, e2⟩ := hs.new (o := .lst _) hl
      exact q _ _ O _ _ p e2 hs2 (.lst upd_same ((r1.append r2).mono e2))
theorem r_catA {xs ys : List D} (h : xs.length + ys.length ≤ 100000) (p : P (.tup (xs ++ ys)) O) : wR K (rCatA K) (.tup xs) (.tup ys) O P := fun F v u B H rx ry hs Q q => by
  cases rx with
  | tup h1 r1 =>
    cases ry with
    | tup h2 r2 =>
      refine ⟨_, _, _, _, rfl, rfl, Evl.ex_t hs.ex h1, Evl.ex_t hs.ex h2, Evl.sz_of (by rw [r1.length, r2.length]; exact h), fun e => ?_, fun _ e => ?_, fun _ _ l hl => ?_⟩
      · subst e
        cases r1
        exact q.here hs (.tup h2 r2) p
      · subst e
        cases r2
        rw [List.append_nil] at p
        exact q.here hs (.tup h1 r1) p
      · obtain ⟨hs2, e2⟩ := hs.new (o := .tup _) hl
        exact q _ _ O _ _ p e2 hs2 (.tup (Evl.st_of upd_same) ((r1.append r2).mono e2))
theorem reps_rep {B : Hp} {vs : List V} {ds : List D} (r : Reps K B vs ds) : ∀ n : Nat, Reps K B (List.replicate n vs).flatten (List.replicate n ds).flatten
  | 0 => .nil
  | n + 1 => by
    rw [List.replicate_succ, List.replicate_succ, List.flatten_cons, List.flatten_cons]
    exact r.append (reps_rep r n)
theorem r_repT {xs : List D} {k : Int} (h0 : xs ≠ []) (h : 2 ≤ k ∧ k ≤ 1000 ∧ xs.length ≤ 1000) (p : P (.tup (List.replicate k.toNat xs).flatten) O) : wR K (rRepT K) (.tup xs) (.int k) O P := fun F v u B H rx ry hs Q q => by
  cases ry
  cases rx with
  | tup h1 r1 =>
    refine ⟨_, k, _, rfl, rfl, Evl.ex_t hs.ex h1, fun z => h0 ?_, h.1, h.2.1, by rw [r1.length]; exact h.2.2, fun l hl => ?_⟩
    · subst z
      cases r1
      rfl
    · obtain ⟨hs2, e2⟩ := hs.new (o := .tup _) hl
      exact q _ _ O _ _ p e2 hs2 (.tup (Evl.st_of upd_same) ((reps_rep r1 _).mono e2))
end
section
variable {A B : Prop} {q : Prop} [Decidable q]
theorem sm_y (hq : q) (h : B) : ∃ b, D.bl (!decide q) = .bl b ∧ (b = true → A) ∧ (b = false → B) := by
  rw [decide_eq_true hq]
  exact sb_f h
theorem sm_n (hq : ¬ q) (h : A) : ∃ b, D.bl (!decide q) = .bl b ∧ (b = true → A) ∧ (b = false → B) := by
  rw [decide_eq_false hq]
  exact sb_t h
end
/-- cramer's amounts -/
def crV (a b c d : V3) : V3 := ⟨detV d b c / detV a b c, detV a d c / detV a b c, detV a b d / detV a b c⟩
def mix3 (a b c t : V3) : V3 := addV (addV (addV zV (mulV t.x a)) (mulV t.y b)) (mulV t.z c)
end G
/-! mix, mixture; amounts that come back. -/
namespace G
open PySem L2 PySem.Spec PyProof.Rows
def mixV (vs : List V3) (qs : List Rat) : V3 := sumV (List.zipWith (fun v q => mulV q v) vs qs)
def W_mix (C CL : Addr) (ds : List D) (P : D → Prop) (PX : Addr → Prop) : Prop := ∃ (vs : List V3) (qs : List Rat) (m n : Nat), ds = [.tup (vs.map (dV C)), .tup (qs.map (dQ C))] ∧ vs.length ≤ 1000 ∧ qs.length ≤ 1000 ∧ (∀ v ∈ vs, bitsV v m) ∧ (∀ q ∈ qs, bits q n) ∧
  (m + n + 1) * (vs.length + 1) ≤ 8000 ∧ (vs.length ≠ qs.length → PX CL) ∧ (vs.length = qs.length → P (dV C (mixV vs qs)))
abbrev dT3 (C : Addr) (a b c : V3) : D := .tup [dV C a, dV C b, dV C c]
def W_mixture (C CD : Addr) (ds : List D) (P : D → Prop) (PX : Addr → Prop) : Prop := ∃ (a b c d : V3) (m n : Nat), ds = [dT3 C a b c, dV C d] ∧ bitsV a m ∧ bitsV b m ∧ bitsV c m ∧ bitsV d n ∧ 30 * max m n + 10 ≤ 8900 ∧ (detV a b c = 0 → PX CD) ∧ (detV a b c ≠ 0 → P (dV C (crV a b c d)))
theorem zipW_get {α β γ : Type} {f : α → β → γ} {xs : List α} {ys : List β} {i : Nat} {z : γ} (h : (List.zipWith f xs ys)[i]? = some z) : ∃ x y, xs[i]? = some x ∧ ys[i]? = some y ∧ z = f x y := by
  rw [List.getElem?_zipWith] at h
  cases hx : xs[i]? with
  | none => rw [hx] at h; cases h
  | some x =>
    cases hy : ys[i]? with
    | none => rw [hx, hy] at h; cases h
    | some y =>
      rw [hx, hy] at h
      cases h
      exact ⟨x, y, rfl, rfl, rfl⟩
theorem bits_detM {a b c : V3} {m1 m2 m3 : Nat} (ha : bitsV a m1) (hb : bitsV b m2) (hc : bitsV c m3) : bits (detV a b c) (15 * max m1 (max m2 m3) + 5) := bits_det (bitsV_mono ha (by omega)) (bitsV_mono hb (by omega)) (bitsV_mono hc (by omega))
/-- Quotient(t, b) -/
def W_mkQ (C : Addr) (ds : List D) (P : D → Prop) : Prop := ∃ t b : Int, ds = [.int t, .int b] ∧ b ≠ 0 ∧ b.natAbs < 2 ^ 8990 ∧ P (dQ C (Rat.divInt t b))
theorem k_mkQ {C : Addr} {t b : Int} {n : Nat} {P : D → Prop} (h0 : b ≠ 0) (hb : b.natAbs < 2 ^ n) (h : n ≤ 8990) (p : P (dQ C (Rat.divInt t b))) : W_mkQ C [.int t, .int b] P := ⟨t, b, rfl, h0, small_of hb h, p⟩
theorem e_makeQ {K : PySem.W.Frag} {ta : TA} {ρ : Rho} {O : Store} {P : D → Store → Prop} {C CB : Addr} {E : XK} (h : wA K ta ρ O fun ds O1 => ds.length = 2 ∧ W_mkQ C ds fun d => P d O1) : wE K (tMake C (spI K C 2 (W_Qinit CB)) [] E ta) ρ O P := e_make fun F σ B H e hs Q q => h F σ B H e hs Q fun vs ds O' B2 H2 p => q vs ds O' B2 H2 (by
  obtain ⟨h1, t, b, rfl, h2, h3, p⟩ := p
  exact ⟨h1, t, b, rfl, fun z => absurd z h2, fun _ => ⟨h3, p⟩⟩)
theorem ex_dQ {C : Addr} {q0 : Rat} {Q : Rat → Prop} (h : Q q0) : ∃ q, dQ C q0 = dQ C q ∧ Q q := ⟨_, rfl, h⟩
/-- a loop whose turns keep I -/
def loopI (I : Rho → Store → Prop) (PS : Out → Store → Prop) : Out → Store → Prop
  | .nx ρ, O => I ρ O
  | .ct ρ, O => I ρ O
  | .bk ρ, O => PS (.nx ρ) O
  | .ret d, O => PS (.ret d) O
section
variable {K : PySem.W.Frag} {ρ : Rho} {O : Store} {PS : Out → Store → Prop} {tb : TS} {wi : TI} {g : TG} {I : Rho → Store → Prop} {d : D}
end
theorem pe_fldK {X : Cx} {K : PySem.W.Frag} {e : Expr} {ta : TE} {f : Str} {pos : Pos} (hK : X.K = K) (he : PE X e ta) (hb : attributeBase e f X.env (eval e X.env) = eval e X.env) : PE X (.Attribute e f pos) (tFld K ta f) := by
  subst hK
  exact pe_fld he hb
section
variable {K : PySem.W.Frag} {O : Store} {P : D → Store → Prop} {a b c : D}
end
theorem small10 {a : Int} (h : -1024 < a ∧ a < 1024) : a.natAbs < 2 ^ 10 := by omega
end G
/-! == and != of plain data; what a refused call tells. -/
namespace G
open PySem L2 PySem.Spec PyProof.Rows
mutual
def toP : D → PyData
  | .raw (.bl b) => .bool b
  | .raw (.int i) => .int i
  | .raw (.str z) => .str z
  | .tup ds => .tuple (toPs ds)
  | .lst ds => .list (toPs ds)
  | _ => .none
def toPs : List D → List PyData
  | [] => []
  | d :: ds => toP d :: toPs ds
end
mutual
def plD : D → Bool
  | .raw .non => true
  | .raw (.bl _) => true
  | .raw (.int _) => true
  | .raw (.str _) => true
  | .tup ds => plDs ds
  | .lst ds => plDs ds
  | _ => false
def plDs : List D → Bool
  | [] => true
  | d :: ds => plD d && plDs ds
end
section
variable {K : PySem.W.Frag} {B H : Hp}
mutual
theorem dp_of (e : Ex B H) : ∀ {v : V} {d : D}, Rep K B v d → plD d = true → Dp K H v (toP d)
  | _, _, .raw .non, _ => .non
  | _, _, .raw (.bl b), _ => .bl b
  | _, _, .raw (.int i), _ => .int i
  | _, _, .raw (.str z), _ => .str z
  | _, _, .raw (.byt z), h => by simp [plD] at h
  | _, _, .raw (.flt z), h => by simp [plD] at h
  | _, _, .raw (.ref a), h => by simp [plD] at h
  | _, _, .raw (.ty a), h => by simp [plD] at h
  | _, _, .tup h r, p => by
    rw [toP]
    exact .tup (Evl.ex_t e h) (dps_of e r (by simpa [plD] using p))
  | _, _, .lst h r, p => by
    rw [toP]
    exact .lst (Evl.sq_of (e _ _ h)) (dps_of e r (by simpa [plD] using p))
  | _, _, .fz h r, p => by simp [plD] at p
  | _, _, .ins h r, p => by simp [plD] at p
theorem dps_of (e : Ex B H) : ∀ {vs : List V} {ds : List D}, Reps K B vs ds → plDs ds = true → DpAll K H vs (toPs ds)
  | _, _, .nil, _ => by rw [toPs]; exact .nil
  | _, _, .cons h r, p => by
    rw [toPs]
    rw [plDs, Bool.and_eq_true] at p
    exact .cons (dp_of e h p.1) (dps_of e r p.2)
end
end
section
variable {K : PySem.W.Frag} {O : Store} {P : D → Store → Prop} {x y : D}
theorem r_neDD (hx : plD x = true) (hy : plD y = true) (sx : SeqAt.shaped (toP x) = true) (sy : SeqAt.shaped (toP y) = true) (p : P (.bl (!PyData.eqv (toP x) (toP y))) O) : wR K (rNeD K) x y O P := fun F v u B H rx ry hs Q q =>
  ⟨_, _, dp_of hs.ex rx hx, dp_of hs.ex ry hy, sx, sy, q.here hs (.raw _) p⟩
end
/-! shapes -/
theorem depthAll_le {n : Nat} : ∀ {ps : List PyData}, (∀ p ∈ ps, p.depth ≤ n) → PyData.depthAll ps ≤ n
  | [], _ => Nat.zero_le _
  | p :: ps, h => by
    simp only [PyData.depthAll]
    have h1 := h p (by simp)
    have h2 := depthAll_le (ps := ps) fun q hq => h q (by simp [hq])
    omega
theorem canLayAll_of : ∀ {ps : List PyData}, (∀ p ∈ ps, p.canLay0 = true) → PyData.canLayAll0 ps = true
  | [], _ => by simp [PyData.canLayAll0]
  | p :: ps, h => by
    simp only [PyData.canLayAll0]
    rw [h p (by simp), canLayAll_of fun q hq => h q (by simp [hq])]
    rfl
abbrev refD : D := .lst [.str "refused", .bl true]
section
variable {K : PySem.W.Frag} {O : Store} {P : D → Store → Prop}
end
/-- what a law's _law_told tells of mixture -/
def W_told3 (C : Addr) (ds : List D) (P : D → Prop) : Prop := ∃ (a b c d : V3) (m n : Nat), ds = [dT3 C a b c, dV C d] ∧ bitsV a m ∧ bitsV b m ∧ bitsV c m ∧ bitsV d n ∧ 30 * max m n + 10 ≤ 8900 ∧ (detV a b c = 0 → P refD) ∧ (detV a b c ≠ 0 → P (dV C (crV a b c d)))
section
variable {A B : Prop}
end
end G
/-! A tuple turned round; drawn lists of any length. -/
namespace G
open PySem L2 PySem.Spec PyProof.Rows HT
section
variable {prog : Program} {w : World} {A : Around} {s : Shared} {E : Value → Shared → Prop}
end
/-! t[::-1] -/
def tRevT (K : PySem.W.Frag) (te : TE) : TE := fun σ H Q => te σ H fun x H1 => ∃ a xs, x = .ref a ∧ SqT K H1 a xs ∧ ∀ p, H1 p = none → Q (.ref p) (upd H1 p (.tup xs.reverse))
section
variable {X : Cx}
end
section
variable {K : PySem.W.Frag} {ρ : Rho} {O : Store} {P : D → Store → Prop} {te : TE}
end
/-! slices by their ends -/
theorem sIx_nat' (n d k : Nat) : HT.sIx n d (some (k : Int)) = min k n := HT.sIx_nat n d k
theorem cutD_from (ds : List D) (k : Nat) : cutD ds (some (k : Int)) none = ds.drop k := by
  unfold cutD
  rw [sIx_nat', HT.sIx_none]
  by_cases h : k ≤ ds.length
  · rw [Nat.min_eq_left h, List.take_of_length_le (by rw [List.length_drop]; exact Nat.le_refl _)]
  · rw [Nat.min_eq_right (by omega), Nat.sub_self, List.take_zero, List.drop_of_length_le (by omega)]
theorem cutD_upto (ds : List D) (k : Nat) : cutD ds none (some (k : Int)) = ds.take k := by
  unfold cutD
  rw [sIx_nat', HT.sIx_none, List.drop_zero, Nat.sub_zero]
  by_cases h : k ≤ ds.length
  · rw [Nat.min_eq_left h]
  · rw [Nat.min_eq_right (by omega), List.take_of_length_le (Nat.le_refl _), List.take_of_length_le (by omega)]
section
variable {K : PySem.W.Frag} {ρ : Rho} {O : Store} {P : D → Store → Prop} {te : TE} {wi : TI} {gg : TG} {vs : List Nat}
/-- [e for x in xs], e without any change of what is owned -/
theorem e_lcX {α : Type} (f g : α → D) (hg : GOnly gg vs) (mg : GMono gg) (h : wI K wi ρ O fun ds O1 => ∃ xs : List α, ds = xs.map f ∧ xs.length < 90000 ∧ (∀ x ∈ xs, wG K gg (f x) (wipeR ρ vs) O1 fun ρ2 O2 => wE K te ρ2 O2 fun y O4 => y = g x ∧ O4 = O1) ∧ P (.lst (xs.map g)) O1) : wE K (tLc wi gg tYes te vs) ρ O P := by
  refine e_lc hg mg fun F σ B H e hs R q => h F σ B H e hs R fun J ds O' B2 H2 p e2 hs2 it => ?_
  obtain ⟨xs, rfl, hl, step, fin⟩ := p
  refine q J _ O' B2 H2 ⟨by rw [List.length_map]; exact hl, fun i acc O3 => acc = (xs.map g).take i ∧ O3 = O', ⟨rfl, rfl⟩, ?_, ?_⟩ e2 hs2 it
  · rintro i d acc O3 hd hal ⟨rfl, rfl⟩
    rw [List.getElem?_map] at hd
    cases hx : xs[i]? with
    | none => rw [hx] at hd; cases hd
    | some x =>
      rw [hx] at hd
      cases hd
      intro F1 v σ1 B1 H1 e1 hs1 r1 Q1 q1
      refine step x (List.mem_of_getElem? hx) F1 v σ1 B1 H1 e1 hs1 r1 Q1 fun σ' ρ' O4 B3 H3 p3 => ?_
      refine q1 σ' ρ' _ B3 H3 (t_yes ⟨fun _ => p3.mono fun y O5 z => ?_, fun z => nomatch z⟩)
      obtain ⟨rfl, rfl⟩ := z
      refine ⟨?_, rfl⟩
      rw [List.take_succ, List.getElem?_map, hx]
      rfl
  · rintro acc O3 ⟨rfl, rfl⟩
    rw [List.length_map, List.take_of_length_le (by rw [List.length_map]; exact Nat.le_refl _)]
    exact fin
variable {O2 : Store} {a b : D} {l : List D} {x : Addr}
end
/-! mixtures of any length -/
theorem addV_assoc (a b c : V3) : addV (addV a b) c = addV a (addV b c) := by
  apply V3.ext' <;> simp only [addV] <;> grind
theorem addV_zV (a : V3) : addV a zV = a := by
  apply V3.ext' <;> simp only [addV, zV] <;> grind
theorem foldl_addV (vs : List V3) : ∀ a, vs.foldl addV a = addV a (sumV vs) := by
  unfold sumV
  induction vs with
  | nil => intro a; exact (addV_zV a).symm
  | cons v vs ih =>
    intro a
    rw [List.foldl_cons, List.foldl_cons, ih, ih (addV zV v), zero_addV, addV_assoc]
theorem sumV_cons (v : V3) (vs : List V3) : sumV (v :: vs) = addV v (sumV vs) := by
  show (v :: vs).foldl addV zV = _
  rw [List.foldl_cons, foldl_addV, zero_addV]
def toldX (C : Addr) (vs : List V3) (qs : List Rat) : D := if vs.length = qs.length then dV C (mixV vs qs) else refD
def W_toldMix (C : Addr) (ds : List D) (P : D → Prop) : Prop := ∃ (vs : List V3) (qs : List Rat) (m n : Nat), ds = [.tup (vs.map (dV C)), .tup (qs.map (dQ C))] ∧ vs.length ≤ 1000 ∧ qs.length ≤ 1000 ∧ (∀ v ∈ vs, bitsV v m) ∧ (∀ q ∈ qs, bits q n) ∧ (m + n + 1) * (vs.length + 1) ≤ 8000 ∧ P (toldX C vs qs)
/-! a loop whose turns may leave more behind -/
def dropI (I : Rho → Store → Prop) (ρ : Rho) (O : Store) : Prop := ∃ R O', O = R ++ O' ∧ I ρ O'
section
variable {K : PySem.W.Frag} {ρ : Rho} {O : Store} {PS : Out → Store → Prop} {ts tb : TS} {wi : TI} {g : TG} {q : Addr × Own}
end
end G
/-! enumerate of a tuple. -/
namespace G
open PySem L2 PySem.Spec PyProof.Rows
abbrev tupIt (l : Addr) : Obj := { cls := .type "tuple_iterator", data := .fields #[.ref l, .int 0 0] }
abbrev enumAt (it : Addr) : Obj := { cls := .type "enumerate", data := .fields #[.none, .bool false, .ref it, rawInt 0, .none, .none] }
theorem newEnumT (l : Addr) (items : Array Value) :
    Meets (Builtin.«enumerate.__new__» ⟨[.type "enumerate", .ref l], []⟩) (fun _ R s => IsTup s.heap l items ∧
      R (.ok (.ret (.ref (s.heap.push (tupIt l)).objs.size))) { s with heap := (s.heap.push (tupIt l)).push (enumAt s.heap.objs.size) }) :=
  .of_wp fun pr ww AA R s hh => by
    obtain ⟨hp, gg, dr, tk, os⟩ := s
    obtain ⟨ht, fin⟩ := hh
    have f1 := sub_enumerate
    have mk : ∀ {A2 : Around} {E2 Q2 : Value → Shared → Prop}, Q2 (.ref hp.objs.size) ⟨hp.push (tupIt l), gg, dr, tk, os⟩ → wpAny (model pr ww) A2 (pyIter (.ref l)) Q2 E2 ⟨hp, gg, dr, tk, os⟩ :=
      fun z => wpAny_pyIter_tuple (s := ⟨hp, gg, dr, tk, os⟩) (show Heap.IsTuple hp l items from ht) z
    wp_walk using mk
    refine wpAny_stack_any fun _ => wpAny_pure ?_
    split
    · rename_i c _ _ _ _ _
      cases (c == Value.type "enumerate")
      all_goals
        wp_walk using mk
        exact ⟨_, rfl, fin⟩
    · wp_walk using mk
      exact ⟨_, rfl, fin⟩
section
variable {prog : Program} {w : World} {A : Around} {E : Value → Shared → Prop} {s : Shared}
theorem callEnumT {l : Addr} {items : Array Value} {Q : Value → Shared → Prop} (ht : IsTup s.heap l items)
    (fin : ∀ h2, IsEnum h2 (s.heap.objs.size + 1) s.heap.objs.size 0 .none → h2.IsTupleIter s.heap.objs.size l 0 → (∀ b o, s.heap.get? b = some o → h2.get? b = some o) → Q (.ref (s.heap.objs.size + 1)) { s with heap := h2 }) :
    wpAny (model prog w) A (call (.type "enumerate") [.ref l]) Q E s := by
  refine callType_new F.called_enumerate (by decide) (F.typeCall_enumerate_1 _) (F.newCall_enumerate_1 _) (fun ob => F.args_object_init_2 ob _) F.entry_enumerate_new (newEnumT l items) ⟨ht, ?_⟩
  have size1 : (s.heap.push (tupIt l)).objs.size = s.heap.objs.size + 1 := Heap.size_push ..
  have made : ((s.heap.push (tupIt l)).push (enumAt s.heap.objs.size)).get? (s.heap.objs.size + 1) = some (enumAt s.heap.objs.size) := by
    rw [← size1]
    exact Heap.get?_push_size (s.heap.push (tupIt l)) (o := enumAt s.heap.objs.size) rfl
  show _ ∧ _
  rw [size1]
  refine ⟨⟨_, made, rfl⟩, fin _ made ⟨_, Heap.get?_push_of_some _ (Heap.get?_push_size (s.heap) (o := tupIt l) rfl), rfl, rfl⟩ fun b o z => ?_⟩
  exact Heap.get?_push_of_some _ (Heap.get?_push_of_some _ z)
end
/-- the tuple at a as it stands at each turn, its items numbered -/
def IteT (K : PySem.W.Frag) (a : Addr) : It where
  go := fun i H => ∃ (xs : List V) (x : V), SqT K H a xs ∧ xs[i]? = some x
  yld := fun i H v H' => ∃ T x, v = .ref T ∧ H T = none ∧ H' = upd H T (.tup [.int (i : Nat), x]) ∧ ∀ xs, SqT K H a xs → xs[i]? = some x
  stop := fun i H => ∃ xs : List V, SqT K H a xs ∧ xs.length ≤ i
theorem turnEnumT {P : Program} {w : World} {K : PySem.W.Frag} {elts : List Expr} {kk : Nat} {tpos : Pos} (a e it : Addr) (ne1 : e ≠ it) (ne2 : a ≠ it) (ne3 : e ≠ a) :
    Turn P w K (.Tuple elts kk tpos) (IteT K a) [e, it] e (fun i h => (∃ old, IsEnum h e it ((i : Nat) : Int) old) ∧ h.IsTupleIter it a i) where
  mem := List.mem_cons_self
  obj := by
    rintro i h ⟨⟨old, he⟩, o, ho, hc, hd⟩ b hb
    rcases List.mem_cons.mp hb with rfl | hb
    · exact ⟨_, he, by intro v q; cases q⟩
    · rw [List.mem_singleton.mp hb]
      exact ⟨o, ho, by intro v q; rw [hd] at q; cases q⟩
  keep := by
    rintro i h h2 ⟨⟨old, he⟩, hi⟩ k
    exact ⟨⟨old, k e List.mem_cons_self _ he⟩, hi.at fun o q => k it (by simp) o q⟩
  item := by
    intro X eP eW eK calm i pins s σ H E I hf st hg
    subst eP eW eK
    obtain ⟨⟨old, he⟩, hit⟩ := st
    obtain ⟨xs, x, hq, hx⟩ := hg
    obtain ⟨its, rv, p, _⟩ := I.tuple hq
    obtain ⟨u, hu, ru⟩ := rv.get hx
    have eLt : e < s.heap.objs.size := Heap.lt_size he
    have iLt : it < s.heap.objs.size := by
      obtain ⟨o, q, _⟩ := hit
      exact Heap.lt_size q
    have dr := Draws.tuple (prog := X.prog) (w := X.w) (A := X.A.in1) (by exact I.ok.hd calm) it a ne2 its.toArray
    have small : i < its.toArray.size := by
      have := (List.getElem?_eq_some_iff.mp hu).1
      simpa using this
    refine wpAny_pyNext_enum_itemD dr he ⟨hit, p⟩ small ne1 (by simp [ne1, ne3]) fun x2 h2 tk hP ho hst hT hsz hk => ?_
    have ex : x2 = u := by
      have h3 : its[i]? = some x2 := by simpa using hP
      rw [hu] at h3
      exact (Option.some.inj h3).symm
    subst ex
    refine ⟨_, rfl, wpAny_letOwnedTupleGo_enum (s := { s with heap := h2, toks := tk + 1 }) ho fun h3 he3 sb => ?_⟩
    have tupAt : h3.get? s.heap.objs.size = some { cls := .type "tuple", data := .seq #[.int i tk, x2] } := (sb.2 _ (Nat.ne_of_gt eLt)).trans hT
    have kept : ∀ b o, b ∉ [e, it] → s.heap.get? b = some o → h3.get? b = some o := fun b o hb q => by
      rw [sb.2 b (fun z => hb (by simp [z]))]
      exact hk b o (fun z => hb (by simp [z])) (fun z => hb (by simp [z])) q
    have I1 : Inv X pins σ (upd H s.heap.objs.size (.tup [.int (i : Nat), x])) { s with heap := h3, toks := tk + 1 } :=
      I.turnedNew kept hf (Nat.le_refl _) ⟨(by show 2 ≤ sizeLine; decide), [.int i tk, x2], .cons ⟨_, rfl⟩ (.cons ru .nil), ⟨_, tupAt, rfl, _, rfl⟩⟩
    have same : ∀ ys, SqT X.K H a ys → ys[i]? = some x := fun ys hy => by
      rw [I.tuple_inj hy hq]
      exact hx
    refine ⟨.ref s.heap.objs.size, _, I1, rfl, ⟨_, x, rfl, I.hok.fresh (Nat.le_refl _), rfl, same⟩, ⟨⟨x2, ?_⟩, hst.1.at fun o q => (sb.2 it (Ne.symm ne1)).trans q⟩, fun b hb => ?_⟩
    · rw [show ((i + 1 : Nat) : Int) = (i : Int) + 1 by omega]
      exact he3
    · have bLt : b < s.heap.objs.size := by
        rcases List.mem_cons.mp hb with rfl | hb
        · exact eLt
        · rw [List.mem_singleton.mp hb]
          exact iLt
      rw [upd_ne (Nat.ne_of_lt bLt)]
      exact (hf b hb).1
  done := by
    intro X eP eW eK calm i pins s σ H E I hf st hg
    subst eP eW eK
    obtain ⟨⟨old, he⟩, hit⟩ := st
    obtain ⟨xs, hq, hx⟩ := hg
    obtain ⟨its, rv, p, _⟩ := I.tuple hq
    have len := rv.length
    obtain ⟨f0, f1, f2, f3, f4, f5⟩ := hf it (by simp)
    have dr : Draws X.prog X.w X.A.in1 it [it, a] i (fun _ _ => True) (fun j h => j = i ∧ h.IsTupleIter it a i ∧ h.IsTuple a its.toArray) := {
      live := fun _ _ st => by
        obtain ⟨_, ⟨o, ho, _⟩, _⟩ := st
        exact ⟨o, ho⟩
      frame := fun _ _ _ st k => ⟨st.1, st.2.1.at fun o z => k it (by simp) o z, st.2.2.at fun o z => k a (by simp) o z⟩
      item := fun j s Q E hj st _ => by
        obtain ⟨rfl, _⟩ := st
        exact absurd hj (Nat.lt_irrefl _)
      done := fun s Q E st fin => wpAny_nextOf_tuple_end (by exact I.ok.hd calm) st.2.1 st.2.2 (by simp; omega) fin }
    exact wpAny_pyNext_enum_endD dr he ⟨rfl, hit, p⟩ fun h2 eb => ⟨rfl, I.turned (t' := s.toks) (fun b o hb q => eb b o hb q) f0 f1 f3 f4 f5⟩
  self := fun A2 i s2 Q E st fin => by
    obtain ⟨⟨_, he⟩, _⟩ := st
    exact wpAny_pyIter_enum he fin
def iEnumT (K : PySem.W.Frag) (ta : TA) : TI := fun σ H R => ta σ H fun vs H1 => ∃ a xs, vs = [.ref a] ∧ SqT K H1 a xs ∧ R (IteT K a) H1
theorem pi_enumT {X : Cx} {e : Expr} {ta : TA} {p pos tpos : Pos} {elts : List Expr} {kk : Nat} (hg : Gl X "enumerate") (hm : X.mg "enumerate" = none) (ha : PA X [e] ta) (hs : starEach [e] X.env = [(false, eval e X.env)] := by rfl) :
    PI X (.Tuple elts kk tpos) (.Call (.Name "enumerate" p) [e] [] pos) (iEnumT X.K ta) := ⟨fun pins s σ H R I h => by
  refine Call_ (ld_blt I hg hm boot_enumerate (PyProof.Rows.callWith_type1 (thn (ha.run pos pins s σ H _ I h) ?_) hs rfl))
  rintro us s1 ⟨vs, H1, I1, r1, a, xs, rfl, hq, q⟩
  cases r1 with
  | cons r rr =>
    cases rr
    cases r
    obtain ⟨its, rv, tp, _⟩ := I1.tuple hq
    have aLt : a < s1.heap.objs.size := by
      obtain ⟨o, ho, _⟩ := tp
      exact Heap.lt_size ho
    refine callEnumT tp fun h2 he hit hk => wpAny_pyIter_enum he ?_
    have I2 : Inv X pins σ H1 { s1 with heap := h2 } := I1.kept (t' := s1.toks) hk
    refine ⟨s1.heap.objs.size + 1, [s1.heap.objs.size + 1, s1.heap.objs.size], _, _, H1, rfl, I2, turnEnumT a (s1.heap.objs.size + 1) s1.heap.objs.size (Nat.succ_ne_self _) (Nat.ne_of_lt aLt) (Nat.ne_of_gt (Nat.lt_succ_of_lt aLt)), ⟨⟨.none, he⟩, hit⟩, fun b hb => ?_, q⟩
    have low : s1.heap.objs.size ≤ b := by
      rcases List.mem_cons.mp hb with rfl | hb
      · exact Nat.le_succ _
      · rw [List.mem_singleton.mp hb]
        exact Nat.le_refl _
    exact I1.fpOk low (I1.hok.fresh low)⟩
def enumD : Nat → List D → List D
  | _, [] => []
  | k, d :: ds => .tup [.int (k : Int), d] :: enumD (k + 1) ds
theorem enumD_len : ∀ (k : Nat) (ds : List D), (enumD k ds).length = ds.length
  | _, [] => rfl
  | k, d :: ds => by rw [enumD, List.length_cons, List.length_cons, enumD_len]
theorem enumD_get : ∀ (k : Nat) (ds : List D) (i : Nat), (enumD k ds)[i]? = (ds[i]?).map fun d => .tup [.int ((k + i : Nat) : Int), d]
  | _, [], i => by simp [enumD]
  | k, d :: ds, 0 => by simp [enumD]
  | k, d :: ds, i + 1 => by
    have := enumD_get (k + 1) ds i
    rw [show k + 1 + i = k + (i + 1) by omega] at this
    simpa [enumD] using this
theorem itOk_enumT {K : PySem.W.Frag} {B : Hp} {a : Addr} {xs : List V} {ds : List D} (h : SqT K B a xs) (r : Reps K B xs ds) : ItOk K B (IteT K a) (enumD 0 ds) := fun B' H' O e hs i => by
  have h' : SqT K H' a xs := Evl.ex_t hs.ex (Evl.ex_t e h)
  refine ⟨fun d hd => ?_, fun hd => ⟨xs, h', by
    have := List.getElem?_eq_none_iff.mp hd
    rw [enumD_len] at this
    rw [r.length]
    exact this⟩⟩
  rw [enumD_get, Nat.zero_add] at hd
  cases hx : ds[i]? with
  | none => rw [hx] at hd; cases hd
  | some d0 =>
    rw [hx] at hd
    cases hd
    obtain ⟨v, hv, rv⟩ := r.get hx
    refine ⟨⟨xs, v, h', hv⟩, ?_⟩
    rintro x H2 ⟨T, v2, rfl, hT, rfl, q⟩
    have e1 := q xs h'
    rw [hv] at e1
    cases e1
    obtain ⟨hs2, ex2⟩ := hs.new (o := .tup [.int (i : Nat), v]) hT
    exact ⟨_, ex2, hs2, .tup (Evl.st_of upd_same) (.cons (.raw _) (.cons ((rv.mono e).mono ex2) .nil))⟩
theorem i_enumT {K : PySem.W.Frag} {ρ : Rho} {O : Store} {ta : TA} {P : List D → Store → Prop} (h : wA K ta ρ O fun ds O1 => ∃ xs, ds = [.tup xs] ∧ P (enumD 0 xs) O1) : wI K (iEnumT K ta) ρ O P := fun F σ B H e hs R q =>
  h F σ B H e hs _ fun vs ds O1 B1 H1 p1 e1 hs1 r => by
    obtain ⟨xs, rfl, p⟩ := p1
    cases r with
    | cons r1 r =>
      cases r
      cases r1 with
      | tup ha ra => exact ⟨_, _, rfl, Evl.ex_t hs1.ex ha, q _ _ O1 B1 H1 p e1 hs1 (itOk_enumT ha ra)⟩
end G
/-! Palettes: sizes by a common bottom, distances, the nearest color, errors handed on. -/
namespace G
open PySem L2 PySem.Spec PyProof.Rows
/-- x is a fraction over N, at most M in size -/
def rg (x : Rat) (N M : Nat) : Prop := x.den ∣ N ∧ x.num.natAbs ≤ M * x.den
abbrev NN : Nat := 27720
def rgV (v : V3) (M : Nat) : Prop := rg v.x NN M ∧ rg v.y NN M ∧ rg v.z NN M
/-! distances -/
def distV (a b : V3) : Rat := 0 + (a.x - b.x) * (a.x - b.x) + (a.y - b.y) * (a.y - b.y) + (a.z - b.z) * (a.z - b.z)
/-! the nearest color -/
def nst (ps : List V3) (c : V3) : Nat → Nat × Rat
  | 0 => (0, distV (ps.getD 0 zV) c)
  | i + 1 => if distV (ps.getD i zV) c < (nst ps c i).2 then (i, distV (ps.getD i zV) c) else nst ps c i
def near (ps : List V3) (c : V3) : Nat := (nst ps c ps.length).1
/-! errors handed on -/
def dstep (ps : List V3) (s : List Nat × V3) (c : V3) : List Nat × V3 := (s.1 ++ [near ps (addV c s.2)], subV (addV c s.2) (ps.getD (near ps (addV c s.2)) zV))
def dif (ps : List V3) (cs : List V3) : List Nat × V3 := cs.foldl (dstep ps) ([], zV)
/-! promises -/
def W_dist (C : Addr) (ds : List D) (P : D → Prop) : Prop := ∃ (a b : V3) (m n : Nat), ds = [dV C a, dV C b] ∧ bitsV a m ∧ bitsV b n ∧ m + n ≤ 600 ∧ P (dQ C (distV a b))
def W_near (C : Addr) (ds : List D) (P : D → Prop) : Prop := ∃ (ps : List V3) (c : V3) (m n : Nat), ds = [.tup (ps.map (dV C)), dV C c] ∧ ps ≠ [] ∧ ps.length ≤ 1000 ∧ (∀ p ∈ ps, bitsV p m) ∧ bitsV c n ∧ m + n ≤ 500 ∧ P (.int (near ps c : Nat))
def dInts (is : List Nat) : List D := is.map fun (i : Nat) => D.int (i : Int)
def W_dif (C : Addr) (ds : List D) (P : D → Prop) : Prop := ∃ (ps cs : List V3) (M M' : Nat), ds = [.tup (ps.map (dV C)), .tup (cs.map (dV C))] ∧ ps ≠ [] ∧ ps.length ≤ 1000 ∧ cs.length ≤ 10 ∧ (∀ p ∈ ps, rgV p M) ∧ (∀ c ∈ cs, rgV c M') ∧ (M + M') * 12 ≤ 1000000 ∧ P (.tup [.tup (dInts (dif ps cs).1), dV C (dif ps cs).2])
section
variable {K : PySem.W.Frag} {ρ : Rho} {O : Store} {P : D → Store → Prop} {x : Addr} {ds : List D}
/-- tuple(xs), xs owned and first -/
theorem c_tupO (p : P (.tup ds) ((x, .lst ds) :: O)) : wC K (rTupOf K) [.loc x] ((x, .lst ds) :: O) P := fun F vs B H r hs Q q => by
  cases r with
  | cons r1 r =>
    cases r
    cases r1
    obtain ⟨ws, h, rr⟩ := (hs.own (x, .lst ds) (by simp)).2
    refine ⟨_, _, rfl, .inl ⟨Evl.sq_of h, fun l hl => ?_⟩⟩
    obtain ⟨hs2, e2⟩ := hs.new (o := .tup _) hl
    exact q _ _ _ _ _ p e2 hs2 (.tup (Evl.st_of upd_same) (rr.mono e2))
/-- xs.append(y), xs owned and first -/
theorem st_app {Q : Store → Prop} {y : D} (hl : ds.length < 100000) (p : Q ((x, .lst (ds ++ [y])) :: O)) : ∃ ds' O3, ds'.length < 100000 ∧ Put x (.lst ds') (.lst (ds' ++ [y])) ((x, .lst ds) :: O) O3 ∧ Q O3 := ⟨ds, _, hl, .here, p⟩
theorem ow_1 {A : Addr → List D → Prop} (h : A x ds) : ∃ a ds0, D.loc x = .loc a ∧ (a, Own.lst ds0) ∈ ((x, .lst ds) :: O : Store) ∧ A a ds0 := ⟨x, ds, rfl, by simp, h⟩
end
/-! draws, with their sizes -/
def W_quotR (ds : List D) (O : Store) (P : D → Store → Prop) : Prop := ∃ (l : List Int) (p : Addr) (n : Int) (O' : Int → Store), ds = [dStream l p] ∧ l ≠ [] ∧ digs l ∧ (∀ a b : Int, Put p (.lst [.int a]) (.lst [.int b]) (O' a) (O' b)) ∧ O = O' n ∧ ∀ (x : Rat) (n' : Int), bn x 10 4 → rg x NN 1024 → P (dP x) (O' n')
def W_colorR (ds : List D) (O : Store) (P : D → Store → Prop) : Prop := ∃ (l : List Int) (p : Addr) (n : Int) (O' : Int → Store), ds = [dStream l p] ∧ l ≠ [] ∧ digs l ∧ (∀ a b : Int, Put p (.lst [.int a]) (.lst [.int b]) (O' a) (O' b)) ∧ O = O' n ∧ ∀ (v : V3) (n' : Int), bnV v 10 4 → rgV v 1024 → P (lV v) (O' n')
def W_colorOR (ds : List D) (O : Store) (P : D → Store → Prop) : Prop := ∃ (l : List Int) (p : Addr) (n : Int) (O' : Int → Store), ds = [dStream l p] ∧ l ≠ [] ∧ digs l ∧ (∀ a b : Int, Put p (.lst [.int a]) (.lst [.int b]) (O' a) (O' b)) ∧ O = O' n ∧ ∀ (a : Addr) (v : V3) (n' : Int), bnV v 10 4 → rgV v 1024 → P (.loc a) ((a, .lst [dP v.x, dP v.y, dP v.z]) :: O' n')
section
variable {P : D → Store → Prop} {l : List Int} {p : Addr} {n : Int} {R : Store} {q : Addr × Own}
end
/-! tuples of ints -/
/-! what k27 says -/
end G
/-! Palettes as the law k26 reckons them; == of tuples of tuples. -/
namespace G
open PySem L2 PySem.Spec PyProof.Rows
def W_ldist (ds : List D) (P : D → Prop) : Prop := ∃ (a b : V3) (M M' : Nat), ds = [lV a, lV b] ∧ rgV a M ∧ rgV b M' ∧ M + M' ≤ 100000 ∧ P (dP (distV a b))
def W_lnear (ds : List D) (P : D → Prop) : Prop := ∃ (ps : List V3) (c : V3) (M M' : Nat), ds = [.lst (ps.map lV), lV c] ∧ ps ≠ [] ∧ ps.length ≤ 1000 ∧ (∀ p ∈ ps, rgV p M) ∧ rgV c M' ∧ M + M' ≤ 100000 ∧ P (.int (near ps c : Nat))
def W_pal (ds : List D) (O : Store) (P : D → Store → Prop) : Prop := ∃ (l : List Int) (p : Addr) (n : Int) (R : Store), ds = [dStream l p] ∧ l ≠ [] ∧ digs l ∧ O = (p, .lst [.int n]) :: R ∧ ∀ (ps : List V3) (n' : Int), ps ≠ [] → ps.length ≤ 6 → (∀ q ∈ ps, bnV q 10 4 ∧ rgV q 1024) → P (.lst (ps.map lV)) ((p, .lst [.int n']) :: R)
section
variable {K : PySem.W.Frag} {O : Store} {P : D → Store → Prop} {ps : List V3} {x : Addr} {ds : List D}
theorem c_lenO {R : Store} (p : P (.int ds.length) ((x, .lst ds) :: R)) : wC K (Evl.rLenS K) [.loc x] ((x, .lst ds) :: R) P := fun F vs B H r hs Q q => by
  cases r with
  | cons r1 r =>
    cases r
    cases r1
    obtain ⟨ws, h, rr⟩ := (hs.own (x, .lst ds) (by simp)).2
    exact ⟨_, _, rfl, .inl (Evl.sq_of h), by rw [rr.length]; exact q.here hs (.raw _) p⟩
end
/-! == of tuples of tuples -/
end G
/-! A class's own constant; len of an own instance; all, any. -/
namespace G
open PySem L2 PySem.Spec PyProof.Rows
section
variable {X : Cx}
/-- C.NAME, C the class, NAME an int -/
theorem pe_clsCon {x f : Str} {C : Addr} {i : Int} {t : Tok} {p pos : Pos} (hg : Gl X x) (hm : X.mg x = some (.ref C)) (hr : PySem.W.readsIn X.K C (.type "type") = true) (hf : PySem.W.findCls X.K (.ref C) (.type "type") f = some (.val (.int i t)))
    (hb : attributeBase (.Name x p) f X.env (eval (.Name x p) X.env) = eval (.Name x p) X.env := by rfl) (hd : (x == ("__debug__" : Str)) = false := by decide) : PE X (.Attribute (.Name x p) f pos) (tC (.int i)) := by
  have hn : PE X (.Name x p) (tC (.ref C)) := pe_glob hg hm rfl hd
  refine ⟨fun pins s σ H Q I h => attr_of hb (thn (hn.run pins s σ H (fun v J => v = .ref C ∧ J = H) I ⟨rfl, rfl⟩) ?_)⟩
  rintro u s1 ⟨v, J, I1, r, rfl, rfl⟩
  cases r
  exact PySem.W.cls_value I1.kIn hr hf rfl ⟨.int i, J, I1.tok _, ⟨t, rfl⟩, h⟩
end
section
variable {prog : Program} {w : World} {A : Around} {E : Value → Shared → Prop} {s : Shared} {K : PySem.W.Frag} {x C f : Addr} {ox : Obj} {od : Option Obj}
theorem lenOwn {Q : Value → Shared → Prop} (k : K.In s.heap) (I : PySem.W.InstAt s.heap x ox C od) (hs : PySem.W.findIn K (.ref C) "__len__" = some (some (.ref f))) (hf : PySem.W.isFn K (.ref f) = true)
    (run : wpAny (model prog w) A.in1 (call (.ref f) [.ref x]) (fun r s2 => ∃ n t, r = .int n t ∧ 0 ≤ n ∧ n < 2 ^ 63 ∧ Q (.int n s2.toks) { s2 with toks := s2.toks + 1 }) E s) : wpAny (model prog w) A (call (.builtin "len") [.ref x]) Q E s := by
  refine Calls.call_function_entry kind_len plain_len entry_len (args_len1 _) ?_
  unfold Builtin.«len»
  refine wpAny_bind (m := oneArg "len" _) (wpAny_pure (wpAny_bind (m := callSpecial? (.ref x) (Str.ofString "__len__")) (PySem.W.special_fn k I hs (beq_iff_eq.mp hf) (wpAny_mono run ?_ fun _ _ z => z))))
  rintro r s2 ⟨n, t, rfl, h0, h1, hq⟩
  refine wpAny_bind (wpAny_holding (wpAny_pure (wpAny_bind (wpAny_letGo ?_))))
  have g0 : ¬ n < 0 := by omega
  have g1 : ¬ n ≥ 2 ^ 63 := by omega
  show wpAny _ _ (if n < 0 then _ else _) _ _ s2
  rw [if_neg g0]
  show wpAny _ _ (if n ≥ 2 ^ 63 then _ else _) _ _ s2
  rw [if_neg g1]
  exact wpAny_bind (wpAny_mkInt (wpAny_pure ⟨_, rfl, hq⟩))
end
/-- len(x) of an own instance, by its __len__ -/
def rLenO (C : Addr) (sp : Sp) : List V → Hp → VK → Prop := fun vs H Q => ∃ a dx fs, vs = [.ref a] ∧ H a = some (.ins C dx fs) ∧ sp [.ref a] H (fun v H' => ∃ n : Int, v = .int n ∧ 0 ≤ n ∧ n < 2 ^ 63 ∧ Q (.int n) H') E0
theorem call_lenO {X : Cx} {k : Nat} {f C : Addr} {fd : FuncData} {ps : List Str} {sp : Sp} (F : FnOk X.prog X.w X.K X.mg X.base CX0 k f fd ps sp) (hr : Room (k + 1) X.A) (hb : Binds X.K fd ps []) (hs : PySem.W.findIn X.K (.ref C) "__len__" = some (some (.ref f))) (hf : PySem.W.isFn X.K (.ref f) = true) :
    CallR X (.builtin "len") (rLenO C sp) := by
  rintro pins s σ H xs us Q I r ⟨a, dx, fs, rfl, ha, h⟩
  have sb : L2.Sub X k X.A.in1 := (show L2.Sub X (k + 1) X.A from ⟨hr, rfl⟩).in1
  cases r with
  | cons r1 r =>
    cases r
    cases r1
    obtain ⟨_, J, _⟩ := ins_get I.hok ha
    obtain ⟨od, J, _⟩ := J.look
    refine lenOwn I.kIn J hs hf ?_
    have e0 : Env0 X.prog X.w X.K X.mg X.base X.A.in1 X.stack s H := ⟨by rw [sb.fr]; exact I.env0.frames, I.env0.mod, I.env0.bs, I.env0.bsz, I.env0.funs, I.env0.frf, I.env0.hok, I.env0.bare⟩
    have hl := F.len _ _ _ _ h
    have hbd := hb s [.ref a] I.kIn (by simpa using hl)
    refine wpAny_call (codeAny_mono (F.run X.A.in1 X.stack s H ⟨[.ref a], []⟩ [.ref a] [.ref a] _ E0 sb.room e0 (by simpa using hbd) (.cons rfl .nil) h) fun r s' hq => ?_)
    cases r with
    | error e => exact hq.elim
    | ok fl =>
      cases fl with
      | ret w =>
        obtain ⟨z, H', I', rz, n, ez, h0, h1, q⟩ := I.after hq
        subst ez
        obtain ⟨t, rfl⟩ := rz
        exact ⟨n, t, rfl, h0, h1, .int n, H', I'.tok _, ⟨_, rfl⟩, q⟩
      | next => exact hq.elim
      | brk => exact hq.elim
      | cont => exact hq.elim
section
variable {K : PySem.W.Frag} {O : Store} {P : D → Store → Prop} {C : Addr}
theorem c_lenOI {W : List D → (D → Prop) → Prop} {fs : List (Str × D)} (h : W [.ins C fs] fun d => ∃ n : Int, d = .int n ∧ 0 ≤ n ∧ n < 2 ^ 63 ∧ P (.int n) O) : wC K (rLenO C (spP K 1 W)) [.ins C fs] O P := fun F vs B H r hs Q q => by
  cases r with
  | cons r1 r =>
    cases r
    have r1' := r1
    cases r1 with
    | ins h1 _ =>
      refine ⟨_, _, _, rfl, hs.ex _ _ h1, O ++ F, B, _, _, hs, .cons r1' .nil, rfl, h, ?_⟩
      rintro v d B2 H2 ⟨n, rfl, h0, h1, p⟩ e hs2 rv
      cases rv
      exact ⟨n, rfl, h0, h1, q _ _ O B2 H2 p e hs2 (.raw _)⟩
theorem reps_bools {B : Hp} : ∀ {vs : List V} {bs : List Bool}, Reps K B vs (bs.map fun b => D.bl b) → vs = bs.map V.bl
  | [], [], .nil => rfl
  | v :: vs, b :: bs, .cons h r => by
    cases h
    rw [reps_bools r]
    rfl
theorem c_all {bs : List Bool} (p : P (.bl (bs.all id)) O) : wC K (rAll K) [.lst (bs.map fun b => D.bl b)] O P := fun F vs B H r hs Q q => by
  cases r with
  | cons r1 r =>
    cases r
    cases r1 with
    | lst h rr =>
      refine ⟨_, bs, rfl, ?_, q.here hs (.raw _) p⟩
      rw [← reps_bools rr]
      exact Evl.sq_of (hs.ex _ _ h)
theorem c_allT {α : Type} {xs : List α} (p : P (.bl true) O) : wC K (rAll K) [.lst (xs.map fun _ => D.bl true)] O P := by
  have e : xs.map (fun _ => D.bl true) = (xs.map fun _ => true).map fun b => D.bl b := by rw [List.map_map]; rfl
  rw [e]
  refine c_all ?_
  have : (xs.map fun _ => true).all id = true := by
    rw [List.all_map, List.all_eq_true]
    intro _ _
    rfl
  rw [this]
  exact p
end
end G
/-! Observers and views. -/
namespace G
open PySem L2 PySem.Spec PyProof.Rows
def vI (r : I3) : V3 := ⟨(r.x : Rat), (r.y : Rat), (r.z : Rat)⟩
def zI : I3 := ⟨0, 0, 0⟩
def bD (bs : List I3) : D := .tup (bs.map tRow)
def vD (C : Addr) (bs : List I3) : D := .tup (bs.map fun r => dV C (vI r))
abbrev dObs (CO C : Addr) (bs : List I3) : D := .ins CO [("bands", bD bs), ("vectors", vD C bs)]
def okRow (r : I3) : Prop := (0 ≤ r.x ∧ r.x ≤ 100) ∧ (0 ≤ r.y ∧ r.y ≤ 100) ∧ (0 ≤ r.z ∧ r.z ≤ 100)
def okBands (bs : List I3) : Prop := 4 ≤ bs.length ∧ bs.length ≤ 7 ∧ ∀ r ∈ bs, okRow r
def regular (bs : List I3) : Prop := ∀ i j k, i < j → j < k → k < bs.length → 0 < detI (bs.getD i zI) (bs.getD j zI) (bs.getD k zI)
theorem det_vI (a b c : I3) : detV (vI a) (vI b) (vI c) = ((detI a b c : Int) : Rat) := by
  simp only [detV, vI, detI, Rat.intCast_add, Rat.intCast_sub, Rat.intCast_mul]
theorem cast_pos {n : Int} (h : 0 < n) : (0 : Rat) < (n : Rat) := by
  have := Rat.intCast_lt_intCast.mpr h
  simpa using this
theorem bits_vI {r : I3} (h : okRow r) : bitsV (vI r) 7 := by
  obtain ⟨⟨a, b⟩, ⟨c, d⟩, e, f⟩ := h
  exact ⟨bits_whole (by omega) (by decide), bits_whole (by omega) (by decide), bits_whole (by omega) (by decide)⟩
theorem getD_mem {bs : List I3} {i : Nat} (h : i < bs.length) : bs.getD i zI ∈ bs := by
  rw [List.getD_eq_getElem?_getD, List.getElem?_eq_getElem h]
  exact List.getElem_mem h
def W_isIntT (ds : List D) (P : D → Prop) : Prop := ∃ v a b : Int, ds = [.int v, .int a, .int b] ∧ a ≤ v ∧ v ≤ b ∧ P (.bl true)
def W_isBandT (ds : List D) (P : D → Prop) : Prop := ∃ r : I3, ds = [tRow r] ∧ okRow r ∧ P (.bl true)
def W_areBandsT (ds : List D) (P : D → Prop) : Prop := ∃ bs : List I3, ds = [bD bs] ∧ okBands bs ∧ P (.bl true)
def W_irrT (C : Addr) (ds : List D) (P : D → Prop) : Prop := ∃ bs : List I3, ds = [vD C bs] ∧ okBands bs ∧ regular bs ∧ P .non
def W_ObsT (C : Addr) (ds : List D) (PF : List (Str × D) → Prop) (PX : Addr → Prop) : Prop := ∃ bs : List I3, ds = [bD bs] ∧ okBands bs ∧ regular bs ∧ PF [("bands", bD bs), ("vectors", vD C bs)]
def W_lenObs (CO C : Addr) (ds : List D) (P : D → Prop) : Prop := ∃ bs : List I3, ds = [dObs CO C bs] ∧ P (.int bs.length)
theorem k_isBandT {r : I3} {P : D → Prop} (h : okRow r) (p : P (.bl true)) : W_isBandT [tRow r] P := ⟨r, rfl, h, p⟩
theorem k_isIntT {v a b : Int} {P : D → Prop} (h : a ≤ v ∧ v ≤ b) (p : P (.bl true)) : W_isIntT [.int v, .int a, .int b] P := ⟨v, a, b, rfl, h.1, h.2, p⟩
section
variable {K : PySem.W.Frag} {ρ : Rho} {O : Store} {P : D → Store → Prop} {C : Addr} {bs : List I3}
theorem at_vD {i : Nat} (h : i < bs.length) : atI (bs.map fun r => dV C (vI r)) (i : Int) = some (dV C (vI (bs.getD i zI))) := by
  rw [atI_nat' (by omega) (by rw [List.length_map]; omega), Int.toNat_natCast, List.getElem?_map, List.getD_eq_getElem?_getD, List.getElem?_eq_getElem h]
  rfl
theorem r_vD {i : Nat} (h : i < bs.length) (p : P (dV C (vI (bs.getD i zI))) O) : wR K (rIxT K) (vD C bs) (.int (i : Int)) O P := r_ixT (at_vD h) p
theorem c_lenB (p : P (.int bs.length) O) : wC K (Evl.rLenS K) [bD bs] O P := c_len (ds := bs.map tRow) (.inr (.inl rfl)) (by rw [List.length_map]; exact p)
theorem c_lenV (p : P (.int bs.length) O) : wC K (Evl.rLenS K) [vD C bs] O P := c_len (ds := bs.map fun r => dV C (vI r)) (.inr (.inl rfl)) (by rw [List.length_map]; exact p)
theorem ex_rg2 {lo n : Int} {Q : Int → Int → Prop} (h : (-1000000 < lo ∧ lo < 1000000) ∧ -1000000 < n ∧ n < 1000000) (p : Q lo n) : ∃ lo' n' : Int, [D.int lo, .int n] = [.int lo', .int n'] ∧ (-(2 ^ 62) ≤ lo' ∧ lo' < 2 ^ 62 ∧ -(2 ^ 62) ≤ n' ∧ n' < 2 ^ 62) ∧ Q lo' n' := ⟨lo, n, rfl, ⟨by omega, by omega, by omega, by omega⟩, p⟩
/-- self.f = e -/
theorem fl_1 {x : Addr} {C : Addr} {fs : List (Str × D)} {f : Str} {y : D} {R : Store} {Q : Store → Prop} (hc : Cls K C) (hn : NoAttr K C f) (hl : fs.length < 1000) (p : Q ((x, .ins C (putD f y fs)) :: R)) :
    ∃ a C' fs' O3, D.loc x = .loc a ∧ Put a (.ins C' fs') (.ins C' (putD f y fs')) ((x, .ins C fs) :: R) O3 ∧ Cls K C' ∧ NoAttr K C' f ∧ fs'.length < 1000 ∧ Q O3 := ⟨x, C, fs, _, rfl, .here, hc, hn, hl, p⟩
end
theorem pe_clsConE {X : Cx} {x f : Str} {C : Addr} {i : Int} {p pos : Pos} (hg : Gl X x) (hm : X.mg x = some (.ref C)) (hr : PySem.W.readsIn X.K C (.type "type") = true) (h : ∃ t : Tok, PySem.W.findCls X.K (.ref C) (.type "type") f = some (.val (.int i t)))
    (hb : attributeBase (.Name x p) f X.env (eval (.Name x p) X.env) = eval (.Name x p) X.env := by rfl) (hd : (x == ("__debug__" : Str)) = false := by decide) : PE X (.Attribute (.Name x p) f pos) (tC (.int i)) := by
  obtain ⟨t, h⟩ := h
  exact pe_clsCon hg hm hr h hb hd
/-! views -/
def mulI (l : Int) (r : I3) : I3 := ⟨l * r.x, l * r.y, l * r.z⟩
def gens (bs : List I3) (ls : List Int) : List I3 := List.zipWith (fun l r => mulI l r) ls bs
def lampD (ls : List Int) : D := .tup (ls.map fun i => D.int i)
abbrev dView (CV CO C : Addr) (bs : List I3) (ls : List Int) : D := .ins CV [("observer", dObs CO C bs), ("lamp", lampD ls), ("generators", vD C (gens bs ls))]
def okLamp (bs : List I3) (ls : List Int) : Prop := ls.length = bs.length ∧ ∀ l ∈ ls, 1 ≤ l ∧ l ≤ 100
theorem mul_vI (l : Int) (r : I3) : mulV (l : Rat) (vI r) = vI (mulI l r) := by
  apply V3.ext' <;> simp only [mulV, vI, mulI, Rat.intCast_mul]
theorem gens_len {bs : List I3} {ls : List Int} (h : ls.length = bs.length) : (gens bs ls).length = bs.length := by
  unfold gens
  rw [List.length_zipWith, h, Nat.min_self]
def bigRow (r : I3) : Prop := (0 ≤ r.x ∧ r.x ≤ 10000) ∧ (0 ≤ r.y ∧ r.y ≤ 10000) ∧ (0 ≤ r.z ∧ r.z ≤ 10000)
theorem bits_big {r : I3} (h : bigRow r) : bitsV (vI r) 14 := by
  obtain ⟨⟨a, b⟩, ⟨c, d⟩, e, f⟩ := h
  exact ⟨bits_whole (by omega) (by decide), bits_whole (by omega) (by decide), bits_whole (by omega) (by decide)⟩
def W_isLampT (CO C : Addr) (ds : List D) (P : D → Prop) : Prop := ∃ (bs : List I3) (ls : List Int), ds = [dObs CO C bs, lampD ls] ∧ okBands bs ∧ okLamp bs ls ∧ P (.bl true)
def W_ViewT (CO C : Addr) (ds : List D) (PF : List (Str × D) → Prop) (PX : Addr → Prop) : Prop := ∃ (bs : List I3) (ls : List Int), ds = [dObs CO C bs, lampD ls] ∧ okBands bs ∧ okLamp bs ls ∧ PF [("observer", dObs CO C bs), ("lamp", lampD ls), ("generators", vD C (gens bs ls))]
def W_lenView (CV CO C : Addr) (ds : List D) (P : D → Prop) : Prop := ∃ (bs : List I3) (ls : List Int), ds = [dView CV CO C bs ls] ∧ P (.int ls.length)
section
variable {K : PySem.W.Frag} {O : Store} {P : D → Store → Prop} {ls : List Int}
theorem c_lenL (p : P (.int ls.length) O) : wC K (Evl.rLenS K) [lampD ls] O P := c_len (ds := ls.map fun i => D.int i) (.inr (.inl rfl)) (by rw [List.length_map]; exact p)
end
end G
/-! Edges, colors taken apart. -/
namespace G
open PySem L2 PySem.Spec PyProof.Rows
/-! t.index(i), ints -/
def rIdxI (K : PySem.W.Frag) : V → List V → Hp → VK → Prop := fun x xs H Q => ∃ (p : Addr) (ns : List Int) (i : Int) (j : Nat), x = .ref p ∧ xs = [.int i] ∧ SqT K H p (ns.map V.int) ∧ ns[j]? = some i ∧ (∀ m, m < j → ns[m]? ≠ some i) ∧ Q (.int (j : Nat)) H
section
variable {K : PySem.W.Frag} {ρ : Rho} {O : Store} {P : D → Store → Prop} {C : Addr}
def iTup2 (a b : Int) : D := .tup [.int a, .int b]
theorem c_allM {α : Type} {xs : List α} {f : α → Bool} (p : P (.bl (xs.all f)) O) : wC K (rAll K) [.lst (xs.map fun x => D.bl (f x))] O P := by
  have e : xs.map (fun x => D.bl (f x)) = (xs.map f).map fun b => D.bl b := by rw [List.map_map]; rfl
  rw [e]
  refine c_all ?_
  rw [List.all_map]
  exact p
end
/-! edges -/
def edgesN (n : Nat) : List (Nat × Nat) := (List.range (n - 1)).map (fun i => (i, i + 1)) ++ [(n - 1, 0)]
def eD (e : Nat × Nat) : D := .tup [.int (e.1 : Int), .int (e.2 : Int)]
def nnV (v : V3) : Prop := 0 ≤ v.x ∧ 0 ≤ v.y ∧ 0 ≤ v.z
instance (v : V3) : Decidable (nnV v) := inferInstanceAs (Decidable (_ ∧ _ ∧ _))
def bv (bs : List I3) (i : Nat) : V3 := vI (bs.getD i zI)
def amtE (bs : List I3) (w c : V3) (e : Nat × Nat) : V3 := crV w (bv bs e.1) (bv bs e.2) c
def insideW (bs : List I3) (w : V3) : Prop := ∀ e ∈ edgesN bs.length, 0 < detV (bv bs e.1) (bv bs e.2) w
def decE (bs : List I3) (w c : V3) : Option (Nat × Nat) := (edgesN bs.length).find? fun e => decide (nnV (amtE bs w c e))
def tellD (C : Addr) (a : V3) (e : Nat × Nat) : D := .tup [dQ C a.x, eD e, .tup [dQ C a.y, dQ C a.z]]
def decD (C : Addr) (bs : List I3) (w c : V3) : D := match decE bs w c with
  | none => .non
  | some e => tellD C (amtE bs w c e) e
def W_edges (ds : List D) (P : D → Prop) : Prop := ∃ n : Nat, ds = [.int (n : Int)] ∧ 1 ≤ n ∧ n ≤ 1000 ∧ P (.lst ((edgesN n).map eD))
def W_inside (C : Addr) (ds : List D) (P : D → Prop) : Prop := ∃ (bs : List I3) (w : V3) (m : Nat), ds = [vD C bs, .lst ((edgesN bs.length).map eD), dV C w] ∧ okBands bs ∧ bitsV w m ∧ m ≤ 250 ∧ P (.bl ((edgesN bs.length).all fun e => decide (0 < detV (bv bs e.1) (bv bs e.2) w)))
def W_decT (CO C : Addr) (ds : List D) (P : D → Prop) (PX : Addr → Prop) : Prop := ∃ (bs : List I3) (w c : V3) (m n : Nat), ds = [dObs CO C bs, dV C w, dV C c] ∧ okBands bs ∧ insideW bs w ∧ bitsV w m ∧ bitsV c n ∧ m ≤ 250 ∧ n ≤ 250 ∧ P (decD C bs w c)
end G
/-! Tuples of quotients of any length; signs, blocks, crossings. -/
namespace G
open PySem L2 PySem.Spec PyProof.Rows
section
variable {K : PySem.W.Frag} {ρ : Rho} {O O2 : Store} {P : D → Store → Prop} {PS : Out → Store → Prop} {ts : TS} {g : TG} {d : D} {PR : Rho → Store → Prop}
theorem s_perm (p : O.Perm O2) (h : wS K ts ρ O2 PS) : wS K ts ρ O PS := fun F σ B H e hs Dn q => h F σ B H e (hs.perm (p.append_right F)) Dn q
theorem g_perm (p : O.Perm O2) (h : wG K g d ρ O2 PR) : wG K g d ρ O PR := fun F v σ B H e hs r Q q => h F v σ B H e (hs.perm (p.append_right F)) r Q q
end
def W_takenN (C : Addr) (ds : List D) (P : D → Prop) : Prop := ∃ (xs ys : List Rat) (m : Nat), ds = [.tup (xs.map (dQ C)), .tup (ys.map (dQ C))] ∧ xs.length = ys.length ∧ xs.length ≤ 1000 ∧ (∀ x ∈ xs, bits x m) ∧ (∀ y ∈ ys, bits y m) ∧ m + m ≤ 8900 ∧ P (.tup ((List.zipWith (fun x y => x - y) xs ys).map (dQ C)))
def W_reqLen (CL : Addr) (ds : List D) (P : D → Prop) (PX : Addr → Prop) : Prop := ∃ (xs ys : List D), ds = [.tup xs, .tup ys] ∧ xs.length ≤ 1000 ∧ ys.length ≤ 1000 ∧ (xs.length ≠ ys.length → PX CL) ∧ (xs.length = ys.length → P .non)
def W_filt (C CL : Addr) (ds : List D) (P : D → Prop) (PX : Addr → Prop) : Prop := ∃ (xs ys : List Rat) (m : Nat), ds = [.tup (xs.map (dQ C)), .tup (ys.map (dQ C))] ∧ xs.length ≤ 1000 ∧ ys.length ≤ 1000 ∧ (∀ x ∈ xs, bits x m) ∧ (∀ y ∈ ys, bits y m) ∧ m + m ≤ 8900 ∧ (xs.length ≠ ys.length → PX CL) ∧ (xs.length = ys.length → P (.tup ((List.zipWith (fun x y => x * y) xs ys).map (dQ C))))
def sgn (q : Rat) : Int := if 0 < q.num then 1 else if q.num < 0 then -1 else 0
def W_sign (C : Addr) (ds : List D) (P : D → Prop) : Prop := ∃ q : Rat, ds = [dQ C q] ∧ P (.int (sgn q))
theorem k_sign {C : Addr} {P : D → Prop} {q : Rat} (p : P (.int (sgn q))) : W_sign C [dQ C q] P := ⟨q, rfl, p⟩
/-- blocks so far, the last sign -/
def bstep (s : Nat × Int) (q : Rat) : Nat × Int := if sgn q = 0 then s else if sgn q = s.2 then s else (s.1 + 1, sgn q)
def bst (qs : List Rat) : Nat × Int := qs.foldl bstep (0, 0)
theorem bst_take {qs : List Rat} {i : Nat} {q : Rat} (h : qs[i]? = some q) : bst (qs.take (i + 1)) = bstep (bst (qs.take i)) q := by
  unfold bst
  rw [List.take_succ, h, List.foldl_append]
  rfl
def crossN (qs : List Rat) : Int := if 0 < (bst qs).1 then ((bst qs).1 : Int) - 1 else 0
def W_sblk (C : Addr) (ds : List D) (O : Store) (P : D → Store → Prop) : Prop := ∃ qs : List Rat, ds = [.tup (qs.map (dQ C))] ∧ qs.length ≤ 1000 ∧ ∀ (xb : Addr) (ds' : List D) (R : Store), ds'.length = (bst qs).1 → P (.loc xb) ((xb, .lst ds') :: (R ++ O))
def W_cross (C CL : Addr) (ds : List D) (P : D → Prop) (PX : Addr → Prop) : Prop := ∃ (xs ys : List Rat) (m : Nat), ds = [.tup (xs.map (dQ C)), .tup (ys.map (dQ C))] ∧ xs.length ≤ 1000 ∧ ys.length ≤ 1000 ∧ (∀ x ∈ xs, bits x m) ∧ (∀ y ∈ ys, bits y m) ∧ m + m ≤ 8900 ∧ (xs.length ≠ ys.length → PX CL) ∧ (xs.length = ys.length → P (.int (crossN (List.zipWith (fun x y => x - y) xs ys))))
section
variable {K : PySem.W.Frag} {O : Store} {P : D → Store → Prop} {x : Addr} {ds : List D} {d : D}
/-- the last of an owned list -/
theorem r_lastO {R : Store} (hm : (x, Own.lst (ds ++ [d])) ∈ R) (p : P d R) : wR K (rIxL K) (.loc x) (.int (-1)) R P := r_ixO (ds := ds ++ [d]) hm (by
  have hl : (ds ++ [d]).length = ds.length + 1 := List.length_append ..
  unfold atI ixN
  rw [if_neg (by decide), hl, if_pos (by omega)]
  show (ds ++ [d])[(-1 + ((ds.length + 1 : Nat) : Int)).toNat]? = _
  rw [show (-1 + ((ds.length + 1 : Nat) : Int)).toNat = ds.length by omega, List.getElem?_append_right (by omega), Nat.sub_self]
  rfl) p
end
end G
/-! Drawn shares as raw pairs; the law's signs and the crossings. -/
namespace G
open PySem L2 PySem.Spec PyProof.Rows
abbrev dRP (s : Int × Int) : D := .tup [.int s.1, .int s.2]
def okRP (s : Int × Int) : Prop := 0 ≤ s.1 ∧ s.1 ≤ s.2 ∧ 1 ≤ s.2 ∧ s.2 ≤ 3600
def rq (s : Int × Int) : Rat := Rat.divInt s.1 s.2
def W_share (ds : List D) (O : Store) (P : D → Store → Prop) : Prop := ∃ (l : List Int) (p : Addr) (n : Int) (R : Store), ds = [dStream l p] ∧ l ≠ [] ∧ digs l ∧ O = (p, .lst [.int n]) :: R ∧ ∀ (s : Int × Int) (n' : Int), okRP s → P (dRP s) ((p, .lst [.int n']) :: R)
def W_sameI (ds : List D) (P : D → Prop) : Prop := ∃ a b : Int, ds = [.int a, .int b] ∧ P (.bl (decide (a = b)))
def W_fails (C : Addr) (ds : List D) (P : D → Prop) : Prop := ∃ (xs ys : List Rat) (m : Nat), ds = [.tup (xs.map (dQ C)), .tup (ys.map (dQ C))] ∧ xs.length ≤ 1000 ∧ ys.length ≤ 1000 ∧ (∀ x ∈ xs, bits x m) ∧ (∀ y ∈ ys, bits y m) ∧ m + m ≤ 8900 ∧ xs.length ≠ ys.length ∧ P (.bl true)
/-- changes between neighbours -/
def cntT : List Bool → Nat
  | a :: b :: t => (if a = b then 0 else 1) + cntT (b :: t)
  | _ => 0
def sb (b : Bool) : Int := if b then 1 else -1
def chg : Int → List Bool → Nat
  | _, [] => 0
  | s, b :: t => (if sb b = s then 0 else 1) + chg (sb b) t
def sgL (qs : List Rat) : List Bool := qs.filterMap (fun q => if sgn q = 0 then none else some (decide (sgn q = 1)))
def sd (s u : Int × Int) : Int := s.1 * u.2 - u.1 * s.2
def sg (ds : List Int) : List Bool := ds.filterMap (fun d => if d = 0 then none else some (decide (0 < d)))
end G
/-! `!=` of two instances of an own class that has an __eq__ of its own and no __ne__. -/
namespace G
open PySem L2 PySem.Spec PyProof.Rows
/-- the class C, as the heap of the head has it: a __eq__, no __ne__ -/
def NeCls (K : PySem.W.Frag) (C f : Addr) : Prop := ∀ (h : Heap) (x : Addr) (o : Obj), K.In h → h.get? x = some o → o.cls = .ref C → h.OwnEqNoNe x C f "object" [.type "object"]
/-- what the head has to say of the class -/
def neIn (K : PySem.W.Frag) (C f : Addr) : Bool :=
  PySem.W.isFn K (.ref f) && match List.lookup C K with
  | some ⟨cls, _, .cls ⟨_, _, mro, N, _, _, _, _, _, _, hd⟩, slots⟩ =>
    cls == .type "type" && !hd && mro == [.ref C, .type "object"] && (match slots.toList with | [_, _, _, _, some (.builtin _), _] => true | _ => false) &&
    PySem.W.nsIn K N "__eq__" == some (some (.ref f)) && PySem.W.nsIn K N "__ne__" == some none && (match List.lookup N K with
      | some ⟨_, _, .dict es _, _⟩ => es.toList.all (fun e => match e.key with | .str _ _ => true | _ => false)
      | _ => false)
  | _ => false
section
variable {K : PySem.W.Frag} {O : Store} {P : D → Store → Prop} {C : Addr} {x y : Rat} {m n : Nat}
end
/-- all of the values from a on, ahead of b, are q -/
def allIn (xs : List Rat) (a b : Nat) (q : Rat) : Prop := ∀ k, a ≤ k → k < b → xs[k]? = some q
def W_isAll (C : Addr) (ds : List D) (P : D → Prop) : Prop := ∃ (xs : List Rat) (a b : Nat) (q : Rat) (m : Nat), ds = [.tup (xs.map (dQ C)), .int (a : Int), .int (b : Int), dQ C q] ∧ xs.length ≤ 1000 ∧ a ≤ xs.length ∧ b ≤ xs.length ∧ (∀ x ∈ xs, bits x m) ∧ bits q m ∧ m + m ≤ 8900 ∧ ∀ r : Bool, (r = true ↔ allIn xs a b q) → P (.bl r)
def fitR (xs : List Rat) (inn out : Rat) (i j : Nat) : Prop := i < j ∧ j < xs.length ∧ allIn xs 0 i out ∧ allIn xs (i + 1) j inn ∧ allIn xs (j + 1) xs.length out
def FPs (xs : List Rat) (inn out : Rat) : Option (Nat × Nat) → Prop
  | none => ∀ i j, ¬ fitR xs inn out i j
  | some p => fitR xs inn out p.1 p.2 ∧ ∀ i j, fitR xs inn out i j → p.1 < i ∨ (p.1 = i ∧ p.2 ≤ j)
abbrev encP : Option (Nat × Nat) → D
  | none => .non
  | some p => .tup [.int (p.1 : Int), .int (p.2 : Int)]
def W_fpair (C : Addr) (ds : List D) (P : D → Prop) : Prop := ∃ (xs : List Rat) (inn out : Rat) (m : Nat), ds = [.tup (xs.map (dQ C)), dQ C inn, dQ C out] ∧ 1 ≤ xs.length ∧ xs.length ≤ 1000 ∧ (∀ x ∈ xs, bits x m) ∧ bits inn m ∧ bits out m ∧ m + m ≤ 8900 ∧ ∀ r, FPs xs inn out r → P (encP r)
abbrev encB : Option ((Nat × Nat) × Bool) → D
  | none => .non
  | some p => .tup [.int (p.1.1 : Int), .int (p.1.2 : Int), .raw (.str (if p.2 then "pass" else "stop"))]
def lexle (a b : Nat × Nat) : Prop := a.1 < b.1 ∨ (a.1 = b.1 ∧ a.2 ≤ b.2)
instance (a b : Nat × Nat) : Decidable (lexle a b) := inferInstanceAs (Decidable (_ ∨ _))
def pickP : Option (Nat × Nat) → Option (Nat × Nat) → Option ((Nat × Nat) × Bool)
  | none, none => none
  | some a, none => some (a, true)
  | none, some b => some (b, false)
  | some a, some b => if lexle a b then some (a, true) else some (b, false)
def W_bpat (C : Addr) (ds : List D) (P : D → Prop) : Prop := ∃ (xs : List Rat) (m : Nat), ds = [.tup (xs.map (dQ C))] ∧ 1 ≤ xs.length ∧ xs.length ≤ 1000 ∧ (∀ x ∈ xs, bits x m) ∧ 1 ≤ m ∧ m + m ≤ 8900 ∧ ∀ r s, FPs xs 1 0 r → FPs xs 0 1 s → P (encB (pickP r s))
theorem isn_non {A B : Prop} (h : A) : (D.non = .non → A) ∧ (D.non ≠ .non → B) := ⟨fun _ => h, fun z => absurd rfl z⟩
theorem isn_tup {A B : Prop} {l : List D} (h : B) : (D.tup l = .non → A) ∧ (D.tup l ≠ .non → B) := ⟨(fun z => nomatch z), fun _ => h⟩
section
variable {A B : Prop}
theorem zb_t (h : A) : ∃ b, D.bl true = .bl b ∧ (b = true → A) ∧ (b = false → B) := ⟨true, rfl, (fun _ => h), (fun z => nomatch z)⟩
theorem zb_f (h : B) : ∃ b, D.bl false = .bl b ∧ (b = true → A) ∧ (b = false → B) := ⟨false, rfl, (fun z => nomatch z), (fun _ => h)⟩
end
theorem e_chain {K : PySem.W.Frag} {ρ : Rho} {O : Store} {P : D → Store → Prop} {ta tb tc : TE} {r r' : R2} (h : wE K ta ρ O fun x O1 => wE K tb ρ O1 fun y O2 => wR K r x y O2 fun z O3 => ∃ k, z = .bl k ∧ (k = true → wE K tc ρ O3 fun w O4 => wR K r' y w O4 P) ∧ (k = false → P (.bl false) O3)) : wE K (tChain r r' ta tb tc) ρ O P := fun F σ B H e hs Q q =>
  h F σ B H e hs _ fun v x O1 B1 H1 p1 e1 hs1 rx => p1 F σ B1 H1 (e.mono e1) hs1 _ fun u y O2 B2 H2 p2 e2 hs2 ry => p2 F v u B2 H2 (rx.mono e2) ry hs2 _ fun z dz O3 B3 H3 p3 e3 hs3 rz => by
    obtain ⟨k, rfl, ht, hf⟩ := p3
    cases rz
    refine ⟨k, rfl, ?_⟩
    have e13 := e1.trans (e2.trans e3)
    cases k with
    | true => exact (ht rfl) F σ B3 H3 (e.mono e13) hs3 _ fun w d O4 B4 H4 p4 e4 hs4 rw' => p4 F u w B4 H4 (ry.mono (e3.trans e4)) rw' hs4 Q (q.ex (e13.trans e4))
    | false => exact (q.ex e13).here hs3 (.raw _) (hf rfl)
def fitV (vs : List (Int × Int)) (i j : Nat) (inn : Int) (n : Nat) : Prop := ∀ k v, k < n → vs[k]? = some v → (i < k ∧ k < j → v = (inn, 1)) ∧ (k < i ∨ j < k → v = (1 - inn, 1))
def W_fits (ds : List D) (P : D → Prop) : Prop := ∃ (vs : List (Int × Int)) (i j : Nat) (inn : Int), ds = [.lst (vs.map dRP), .int (i : Int), .int (j : Int), .int inn] ∧ vs.length ≤ 8 ∧ ∀ r : Bool, (r = true ↔ fitV vs i j inn vs.length) → P (.bl r)
theorem wT_mono {K : PySem.W.Frag} {t : TT} {ρ : Rho} {O : Store} {P P' : Bool → Store → Prop} (h : wT K t ρ O P) (p : ∀ b O, P b O → P' b O) : wT K t ρ O P' := fun F σ B H e hs Q q => h F σ B H e hs Q fun b O' B2 H2 p1 => q b O' B2 H2 (p b O' p1)
def W_same0 (ds : List D) (P : D → Prop) : Prop := ∃ d : D, ds = [d, d] ∧ ((∃ i : Int, d = .int i) ∨ (∃ s : Str, d = .raw (.str s))) ∧ P (.bl true)
def W_sameP (ds : List D) (P : D → Prop) : Prop := ∃ o, ds = [encB o, encB o] ∧ P (.bl true)
section
variable {A B : Prop}
theorem zd_t (h : B) : ∃ b, D.bl true = .bl b ∧ ((!b) = true → A) ∧ ((!b) = false → B) := ⟨true, rfl, (fun z => nomatch z), (fun _ => h)⟩
theorem zd_f (h : A) : ∃ b, D.bl false = .bl b ∧ ((!b) = true → A) ∧ ((!b) = false → B) := ⟨false, rfl, (fun _ => h), (fun z => nomatch z)⟩
end
end G
/-! The scene of the later laws: draws, bands, lamps, values, bounds. -/
namespace G
open PySem L2 PySem.Spec PyProof.Rows
/-! draws -/
def mixI (c : Int) (k : Nat) : Int := (c * 48271 + (k : Int) * 69621 + 1) % 2147483647
def drwAt (c : Int) (k : Nat) : Int := if (1000000000000000000 : Int) ≤ c then c / 1009 ^ k % 1009 else (mixI c k * mixI c k + mixI c k * 40692) % 2147483399 / 7
theorem drwAt_nn (c : Int) (k : Nat) : 0 ≤ drwAt c k := by
  unfold drwAt
  split <;> omega
def drw (c : Int) (n : Nat) : List Int := (List.range n).map (drwAt c)
theorem drw_len (c : Int) (n : Nat) : (drw c n).length = n := by simp [drw]
theorem drw_succ (c : Int) (n : Nat) : drw c (n + 1) = drw c n ++ [drwAt c n] := by simp [drw, List.range_succ]
theorem drw_get (c : Int) {n i : Nat} (h : i < n) : (drw c n)[i]? = some (drwAt c i) := by simp [drw, h]
theorem rest_succ (c : Int) (k : Nat) : c / 1009 ^ k / 1009 = c / 1009 ^ (k + 1) := by
  have h : (0 : Int) < 1009 ^ k := Int.pow_pos (by decide)
  rw [Int.ediv_ediv, if_neg (by omega), Int.pow_succ, Int.sub_zero]
/-! bands -/
def mt3 (m t : Int) : I3 := ⟨m, m * t, m * t * t⟩
def turn3 (r : I3) (n : Int) : I3 := if n = 0 then r else if n = 1 then ⟨r.y, r.z, r.x⟩ else ⟨r.z, r.x, r.y⟩
theorem det_turn (a b c : I3) (n : Int) : detI (turn3 a n) (turn3 b n) (turn3 c n) = detI a b c := by
  unfold turn3
  split
  · rfl
  · split <;> (simp only [detI]; grind)
theorem det_cyc (a b c : I3) : detI b c a = detI a b c := by
  simp only [detI]; grind
theorem det_mt (a b c t u v : Int) : detI (mt3 a t) (mt3 b u) (mt3 c v) = a * b * c * ((u - t) * (v - t) * (v - u)) := by
  simp only [detI, mt3]; grind
theorem mtt_ok {m t : Int} (h0 : 1 ≤ m) (h3 : m ≤ 3) (t0 : 0 ≤ t) (h : m * t * t ≤ 100) : okRow (mt3 m t) := by
  have e : m * t * t = m * (t * t) := by grind
  have s0 : 0 ≤ t * t := Int.mul_nonneg t0 t0
  have p1 : 0 ≤ m * t := Int.mul_nonneg (by omega) t0
  have p2 : 0 ≤ m * (t * t) := Int.mul_nonneg (by omega) s0
  have hm : m = 1 ∨ m = 2 ∨ m = 3 := by omega
  have t100 : t * t ≤ 100 := by
    rcases hm with rfl | rfl | rfl <;> omega
  have t10 : t ≤ 10 := by
    refine Int.le_of_not_gt fun z => ?_
    have : 11 * 11 ≤ t * t := Int.mul_le_mul (by omega) (by omega) (by decide) t0
    omega
  refine ⟨⟨by show 0 ≤ m; omega, by show m ≤ 100; omega⟩, ⟨p1, ?_⟩, ⟨by show 0 ≤ m * t * t; rw [e]; exact p2, h⟩⟩
  show m * t ≤ 100
  rcases hm with rfl | rfl | rfl <;> omega
/-- the pairs (m, t) of the bands so far; all t below the next one -/
def ascB (ps : List (Int × Int)) (t : Int) : Prop := (∀ p ∈ ps, 1 ≤ p.1 ∧ p.1 ≤ 3 ∧ 0 ≤ p.2 ∧ p.2 < t ∧ p.1 * p.2 * p.2 ≤ 100) ∧ ps.Pairwise (fun p q => p.2 < q.2)
def rowsB (ps : List (Int × Int)) (n : Int) : List I3 := ps.map fun p => turn3 (mt3 p.1 p.2) n
theorem ascB_nil : ascB [] 0 := ⟨(fun _ h => nomatch h), .nil⟩
theorem ascB_snoc {ps : List (Int × Int)} {m t u : Int} (h : ascB ps t) (m1 : 1 ≤ m) (m3 : m ≤ 3) (t0 : 0 ≤ t) (hm : m * t * t ≤ 100) (hu : t < u) : ascB (ps ++ [(m, t)]) u := by
  refine ⟨fun p hp => ?_, List.pairwise_append.mpr ⟨h.2, List.pairwise_singleton _ _, fun a ha b hb => ?_⟩⟩
  · rcases List.mem_append.mp hp with q | q
    · have := h.1 p q
      exact ⟨this.1, this.2.1, this.2.2.1, by omega, this.2.2.2.2⟩
    · rw [List.mem_singleton.mp q]
      exact ⟨m1, m3, t0, hu, hm⟩
  · rw [List.mem_singleton.mp hb]
    exact (h.1 a ha).2.2.2.1
theorem getD_map' {α β : Type} (f : α → β) (xs : List α) (i : Nat) (a : α) (b : β) (h : i < xs.length) : (xs.map f).getD i b = f (xs.getD i a) := by
  rw [List.getD_eq_getElem?_getD, List.getD_eq_getElem?_getD, List.getElem?_map, List.getElem?_eq_getElem h]
  rfl
theorem reg_rows {ps : List (Int × Int)} {t : Int} (n : Int) (h : ascB ps t) : regular (rowsB ps n) := by
  intro i j k hij hjk hk
  unfold rowsB at hk ⊢
  rw [List.length_map] at hk
  rw [getD_map' _ _ i (0, 0) _ (by omega), getD_map' _ _ j (0, 0) _ (by omega), getD_map' _ _ k (0, 0) _ hk, det_turn, det_mt]
  have gi : ∀ i, i < ps.length → ps.getD i (0, 0) ∈ ps := fun i hi => by
    rw [List.getD_eq_getElem?_getD, List.getElem?_eq_getElem hi]
    exact List.getElem_mem hi
  have lt : ∀ i j, i < j → j < ps.length → (ps.getD i (0, 0)).2 < (ps.getD j (0, 0)).2 := fun i j hij hj => by
    rw [List.getD_eq_getElem?_getD, List.getD_eq_getElem?_getD, List.getElem?_eq_getElem hj, List.getElem?_eq_getElem (by omega : i < ps.length)]
    exact List.pairwise_iff_getElem.mp h.2 i j (by omega) hj hij
  have a := h.1 _ (gi i (by omega))
  have b := h.1 _ (gi j (by omega))
  have c := h.1 _ (gi k hk)
  have ab := lt i j hij (by omega)
  have bc := lt j k hjk hk
  exact Int.mul_pos (Int.mul_pos (Int.mul_pos (by omega) (by omega)) (by omega)) (Int.mul_pos (Int.mul_pos (by omega) (by omega)) (by omega))
theorem turn_ok {r : I3} (n : Int) (h : okRow r) : okRow (turn3 r n) := by
  unfold turn3
  obtain ⟨h1, h2, h3⟩ := h
  split
  · exact ⟨h1, h2, h3⟩
  · split
    · exact ⟨h2, h3, h1⟩
    · exact ⟨h3, h1, h2⟩
theorem ok_rows {ps : List (Int × Int)} {t : Int} (n : Int) (h : ascB ps t) : ∀ r ∈ rowsB ps n, okRow r := by
  intro r hr
  obtain ⟨p, hp, rfl⟩ := List.mem_map.mp hr
  have := h.1 p hp
  exact turn_ok n (mtt_ok this.1 this.2.1 this.2.2.1 this.2.2.2.2)
def rotL {α : Type} (xs : List α) (n : Nat) : List α := xs.drop n ++ xs.take n
theorem rotL_len {α : Type} {xs : List α} {n : Nat} (h : n ≤ xs.length) : (rotL xs n).length = xs.length := by
  unfold rotL
  rw [List.length_append, List.length_drop, List.length_take]
  omega
theorem rotL_get {xs : List I3} {n i : Nat} (h : n ≤ xs.length) (hi : i < xs.length) : (rotL xs n).getD i zI = xs.getD (if i + n < xs.length then i + n else i + n - xs.length) zI := by
  unfold rotL
  rw [List.getD_eq_getElem?_getD, List.getD_eq_getElem?_getD, List.getElem?_append, List.length_drop]
  split
  · rw [if_pos (by omega), List.getElem?_drop, Nat.add_comm]
  · rw [if_neg (by omega), List.getElem?_take, if_pos (by omega)]
    congr 2
    omega
theorem reg_rot {xs : List I3} {n : Nat} (hn : n ≤ xs.length) (h : regular xs) : regular (rotL xs n) := by
  intro i j k hij hjk hk
  rw [rotL_len hn] at hk
  rw [rotL_get hn (by omega), rotL_get hn (by omega), rotL_get hn hk]
  by_cases ci : i + n < xs.length
  · by_cases cj : j + n < xs.length
    · by_cases ck : k + n < xs.length
      · rw [if_pos ci, if_pos cj, if_pos ck]
        exact h _ _ _ (by omega) (by omega) ck
      · rw [if_pos ci, if_pos cj, if_neg ck, det_cyc]
        exact h _ _ _ (by omega) (by omega) (by omega)
    · rw [if_pos ci, if_neg cj, if_neg (by omega), ← det_cyc]
      exact h _ _ _ (by omega) (by omega) (by omega)
  · rw [if_neg ci, if_neg (by omega), if_neg (by omega)]
    exact h _ _ _ (by omega) (by omega) (by omega)
theorem ok_rot {xs : List I3} {n : Nat} (hn : n ≤ xs.length) (h : okBands xs) : okBands (rotL xs n) := by
  refine ⟨by rw [rotL_len hn]; exact h.1, by rw [rotL_len hn]; exact h.2.1, fun r hr => h.2.2 r ?_⟩
  rcases List.mem_append.mp hr with q | q
  · exact List.mem_of_mem_drop q
  · exact List.mem_of_mem_take q
/-! lamps, values -/
def lampF (c : Int) (n : Nat) : List Int := (List.range n).map fun k => drwAt c k % 5 + 1
def val0 (c : Int) (n : Nat) : List Int := (List.range n).map fun k => drwAt c (1 + k) % 13
def val1 (c : Int) (n : Nat) : List Int := (List.range n).map fun k => ([0, 12, 12, 6, 0] : List Int).getD (drwAt c (1 + k) % 5).toNat 0
def fst2 (c : Int) (n : Nat) : Int := drwAt c 1 % ((n : Int) - 1)
def snd2 (c : Int) (n : Nat) : Int := fst2 c n + 1 + drwAt c 2 % ((n : Int) - 1 - fst2 c n)
def base2 (c : Int) (n : Nat) : List Int := (List.range n).map fun (k : Nat) => if fst2 c n < (k : Int) ∧ (k : Int) < snd2 c n then 12 * (drwAt c 3 % 2) else 12 - 12 * (drwAt c 3 % 2)
def val2 (c : Int) (n : Nat) : List Int := ((base2 c n).set (fst2 c n).toNat (drwAt c 4 % 13)).set (snd2 c n).toNat (drwAt c 5 % 13)
def valsF (c : Int) (n : Nat) : List Int := if drwAt c 0 % 3 = 0 then val0 c n else if drwAt c 0 % 3 = 1 then val1 c n else val2 c n
theorem fst2_ok {c : Int} {n : Nat} (h : 2 ≤ n) : 0 ≤ fst2 c n ∧ fst2 c n < (n : Int) - 1 := ⟨Int.emod_nonneg _ (by omega), Int.emod_lt_of_pos _ (by omega)⟩
theorem snd2_ok {c : Int} {n : Nat} (h : 2 ≤ n) : fst2 c n < snd2 c n ∧ snd2 c n < (n : Int) := by
  have h1 := fst2_ok (c := c) h
  have h2 := Int.emod_nonneg (drwAt c 2) (show (n : Int) - 1 - fst2 c n ≠ 0 by omega)
  have h3 := Int.emod_lt_of_pos (drwAt c 2) (show 0 < (n : Int) - 1 - fst2 c n by omega)
  unfold snd2
  omega
def ok12 (vs : List Int) : Prop := ∀ v ∈ vs, 0 ≤ v ∧ v ≤ 12
theorem ok12_set {vs : List Int} {i : Nat} {v : Int} (h : ok12 vs) (hv : 0 ≤ v ∧ v ≤ 12) : ok12 (vs.set i v) := fun w hw => by
  rcases List.mem_or_eq_of_mem_set hw with q | q
  · exact h w q
  · rw [q]; exact hv
theorem vals_ok (c : Int) {n : Nat} : (valsF c n).length = n ∧ ok12 (valsF c n) := by
  unfold valsF
  split
  · refine ⟨by simp [val0], fun v hv => ?_⟩
    obtain ⟨k, _, rfl⟩ := List.mem_map.mp hv
    omega
  · split
    · refine ⟨by simp [val1], fun v hv => ?_⟩
      obtain ⟨k, _, rfl⟩ := List.mem_map.mp hv
      have : ∀ j : Nat, 0 ≤ ([0, 12, 12, 6, 0] : List Int).getD j 0 ∧ ([0, 12, 12, 6, 0] : List Int).getD j 0 ≤ 12 := fun j => by
        match j with
        | 0 => decide
        | 1 => decide
        | 2 => decide
        | 3 => decide
        | 4 => decide
        | j + 5 => simp
      exact this _
    · refine ⟨by simp [val2, base2], ok12_set (ok12_set (fun v hv => ?_) (by omega)) (by omega)⟩
      obtain ⟨k, _, rfl⟩ := List.mem_map.mp hv
      split <;> omega
theorem lamp_ok (c : Int) {n : Nat} : (lampF c n).length = n ∧ ∀ l ∈ lampF c n, 1 ≤ l ∧ l ≤ 5 := by
  refine ⟨by simp [lampF], fun v hv => ?_⟩
  obtain ⟨k, _, rfl⟩ := List.mem_map.mp hv
  omega
/-! sums over places -/
def sR (n : Nat) (f : Nat → Int) : Int := ((List.range n).map f).sum
theorem sR_succ (n : Nat) (f : Nat → Int) : sR (n + 1) f = sR n f + f n := by
  unfold sR
  rw [List.range_succ, List.map_append, List.sum_append]
  simp
theorem sR_congr {n : Nat} {f g : Nat → Int} (h : ∀ k, k < n → f k = g k) : sR n f = sR n g := by
  induction n with
  | zero => rfl
  | succ n ih => rw [sR_succ, sR_succ, ih fun k hk => h k (by omega), h n (by omega)]
theorem sR_le {n : Nat} {f g : Nat → Int} (h : ∀ k, k < n → f k ≤ g k) : sR n f ≤ sR n g := by
  induction n with
  | zero => exact Int.le_refl _
  | succ n ih =>
    rw [sR_succ, sR_succ]
    exact Int.add_le_add (ih fun k hk => h k (by omega)) (h n (by omega))
theorem sR_mul (n : Nat) (a : Int) (f : Nat → Int) : sR n (fun k => a * f k) = a * sR n f := by
  induction n with
  | zero => simp [sR]
  | succ n ih => rw [sR_succ, sR_succ, ih, Int.mul_add]
theorem sR_nn {n : Nat} {f : Nat → Int} (h : ∀ k, k < n → 0 ≤ f k) : 0 ≤ sR n f := by
  have := sR_le (f := fun _ => 0) h
  have e : sR n (fun _ => 0) = 0 := by
    have := sR_mul n 0 (fun _ => 0)
    simpa using this
  omega
theorem sR_abs {n : Nat} {f : Nat → Int} {b : Nat} (h : ∀ k, k < n → (f k).natAbs ≤ b) : (sR n f).natAbs ≤ n * b := by
  induction n with
  | zero => simp [sR]
  | succ n ih =>
    rw [sR_succ, Nat.succ_mul]
    have h1 := ih fun k hk => h k (by omega)
    have h2 := h n (by omega)
    omega
/-! colors of values, bounds -/
def gI (gs : List I3) (k : Nat) : I3 := gs.getD k zI
def sumI (gs : List I3) (vs : List Int) : I3 := ⟨sR gs.length fun k => vs.getD k 0 * (gI gs k).x, sR gs.length fun k => vs.getD k 0 * (gI gs k).y, sR gs.length fun k => vs.getD k 0 * (gI gs k).z⟩
/-- between two bands; outside of them -/
def onB (i j : Nat) (lo : Bool) (k : Nat) : Bool := if lo then decide (i < k) && decide (k < j) else decide (k < i) || decide (j < k)
def bndI (gs : List I3) (i j : Nat) (lo : Bool) : Int := sR gs.length fun k => if onB i j lo k then detI (gI gs i) (gI gs j) (gI gs k) else 0
section
variable {gs : List I3} {i j k : Nat}
end
/-! encodings and rules -/
abbrev dL (l : List Int) : D := .lst (l.map fun i => D.int i)
abbrev dG (gs : List I3) : D := .lst (gs.map tRow)
section
variable {K : PySem.W.Frag} {ρ : Rho} {O : Store} {P : D → Store → Prop} {te : TE} {wi : TI} {gg : TG} {vs : List Nat}
theorem at_drw {c : Int} {n : Nat} {i : Int} (h0 : 0 ≤ i) (h : i < (n : Int)) : atI ((drw c n).map fun i => D.int i) i = some (.int (drwAt c i.toNat)) := by
  rw [atI_nat' h0 (by rw [List.length_map, drw_len]; exact h), List.getElem?_map, drw_get c (by omega)]
  rfl
theorem r_drw {c : Int} {n : Nat} {i : Int} (h : 0 ≤ i ∧ i < (n : Int)) (p : P (.int (drwAt c i.toNat)) O) : wR K (rIxL K) (dL (drw c n)) (.int i) O P := r_ixL (at_drw h.1 h.2) p
/-- an item of a list of ints -/
theorem at_dL {l : List Int} {i : Int} (h0 : 0 ≤ i) (h : i < (l.length : Int)) : atI (l.map fun i => D.int i) i = some (.int (l.getD i.toNat 0)) := by
  rw [atI_nat' h0 (by rw [List.length_map]; exact h), List.getElem?_map, List.getD_eq_getElem?_getD, List.getElem?_eq_getElem (by omega : i.toNat < l.length)]
  rfl
theorem r_dL {l : List Int} {i : Int} (h : 0 ≤ i ∧ i < (l.length : Int)) (p : P (.int (l.getD i.toNat 0)) O) : wR K (rIxL K) (dL l) (.int i) O P := r_ixL (at_dL h.1 h.2) p
theorem r_tL {l : List Int} {i : Int} (h : 0 ≤ i ∧ i < (l.length : Int)) (p : P (.int (l.getD i.toNat 0)) O) : wR K (rIxT K) (lampD l) (.int i) O P := r_ixT (at_dL h.1 h.2) p
theorem at_dG {gs : List I3} {i : Int} (h0 : 0 ≤ i) (h : i < (gs.length : Int)) : atI (gs.map tRow) i = some (tRow (gI gs i.toNat)) := by
  rw [atI_nat' h0 (by rw [List.length_map]; exact h), List.getElem?_map, gI, List.getD_eq_getElem?_getD, List.getElem?_eq_getElem (by omega : i.toNat < gs.length)]
  rfl
theorem r_dG {gs : List I3} {i : Int} (h : 0 ≤ i ∧ i < (gs.length : Int)) (p : P (tRow (gI gs i.toNat)) O) : wR K (rIxL K) (dG gs) (.int i) O P := r_ixL (at_dG h.1 h.2) p
theorem r_bG {gs : List I3} {i : Int} (h : 0 ≤ i ∧ i < (gs.length : Int)) (p : P (tRow (gI gs i.toNat)) O) : wR K (rIxT K) (bD gs) (.int i) O P := r_ixT (at_dG h.1 h.2) p
/-- [e for x in xs if t], e and t without any change of what is owned -/
theorem e_lcF {α : Type} {tt : TT} (f : α → D) (keep : α → Bool) (g : α → D) (hg : GOnly gg vs) (mg : GMono gg) (h : wI K wi ρ O fun ds O1 => ∃ xs : List α, ds = xs.map f ∧ xs.length < 90000 ∧
    (∀ x ∈ xs, wG K gg (f x) (wipeR ρ vs) O1 fun ρ2 O2 => wT K tt ρ2 O2 fun b O3 => b = keep x ∧ O3 = O1 ∧ (b = true → wE K te ρ2 O1 fun y O4 => y = g x ∧ O4 = O1)) ∧ P (.lst ((xs.filter keep).map g)) O1) : wE K (tLc wi gg tt te vs) ρ O P := by
  refine e_lc hg mg fun F σ B H e hs R q => h F σ B H e hs R fun J ds O' B2 H2 p e2 hs2 it => ?_
  obtain ⟨xs, rfl, hl, step, fin⟩ := p
  refine q J _ O' B2 H2 ⟨by rw [List.length_map]; exact hl, fun i acc O3 => acc = ((xs.take i).filter keep).map g ∧ O3 = O', ⟨rfl, rfl⟩, ?_, ?_⟩ e2 hs2 it
  · rintro i d acc O3 hd hal ⟨rfl, rfl⟩
    rw [List.getElem?_map] at hd
    cases hx : xs[i]? with
    | none => rw [hx] at hd; cases hd
    | some x =>
      rw [hx] at hd
      cases hd
      have et : xs.take (i + 1) = xs.take i ++ [x] := by
        rw [List.take_succ, hx]
        rfl
      intro F1 v σ1 B1 H1 e1 hs1 r1 Q1 q1
      refine step x (List.mem_of_getElem? hx) F1 v σ1 B1 H1 e1 hs1 r1 Q1 fun σ' ρ' O4 B3 H3 p3 => ?_
      refine q1 σ' ρ' _ B3 H3 (wT_mono p3 fun b O5 z => ?_)
      obtain ⟨hb, rfl, hy⟩ := z
      refine ⟨fun hb' => (hy hb').mono fun y O6 z => ?_, fun hb' => ⟨?_, rfl⟩⟩
      · obtain ⟨rfl, rfl⟩ := z
        refine ⟨?_, rfl⟩
        rw [et, List.filter_append, List.map_append]
        simp [← hb, hb']
      · rw [et, List.filter_append, List.map_append]
        simp [← hb, hb']
  · rintro acc O3 ⟨rfl, rfl⟩
    rw [List.length_map, List.take_length]
    exact fin
end
end G
/-! list(range(n)); [e for .. for ..]; words of the scene. -/
namespace G
open PySem L2 PySem.Spec PyProof.Rows
section
variable {K : PySem.W.Frag} {ρ : Rho} {O : Store} {P : D → Store → Prop} {te : TE}
end
section
variable {K : PySem.W.Frag} {ρ : Rho} {O : Store} {P : D → Store → Prop} {te : TE} {wi wi1 : TI} {g g1 : TG} {tt tt1 : TT} {vs vs1 : List Nat}
end
/-! words of the scene -/
def okLamp5 (bs : List I3) (ls : List Int) : Prop := ls.length = bs.length ∧ ∀ l ∈ ls, 1 ≤ l ∧ l ≤ 5
theorem okLamp5.lamp {bs : List I3} {ls : List Int} (h : okLamp5 bs ls) : okLamp bs ls := ⟨h.1, fun l hl => ⟨(h.2 l hl).1, by have := (h.2 l hl).2; omega⟩⟩
def W_drw (ds : List D) (P : D → Prop) : Prop := ∃ (c : Int) (n : Nat), ds = [.int c, .int (n : Int)] ∧ n ≤ 60 ∧ P (dL (drw c n))
theorem k_drw {c : Int} {P : D → Prop} {m : Int} (h : 0 ≤ m ∧ m ≤ 60) (p : P (dL (drw c m.toNat))) : W_drw [.int c, .int m] P := ⟨c, m.toNat, by rw [show ((m.toNat : Nat) : Int) = m by omega], by omega, p⟩
def W_lbands (ds : List D) (P : D → Prop) : Prop := ∃ c : Int, ds = [.int c] ∧ ∀ bs : List I3, okBands bs → regular bs → P (bD bs)
def W_llamp (ds : List D) (P : D → Prop) : Prop := ∃ (c : Int) (n : Nat), ds = [.int c, .int (n : Int)] ∧ n ≤ 8 ∧ P (lampD (lampF c n))
def W_lvals (ds : List D) (P : D → Prop) : Prop := ∃ (c : Int) (n : Nat), ds = [.int c, .int (n : Int)] ∧ 4 ≤ n ∧ n ≤ 7 ∧ P (dL (valsF c n))
def W_lgens (ds : List D) (P : D → Prop) : Prop := ∃ (bs : List I3) (ls : List Int), ds = [bD bs, lampD ls] ∧ okBands bs ∧ okLamp5 bs ls ∧ P (dG (gens bs ls))
def smallG (gs : List I3) : Prop := gs.length ≤ 7 ∧ ∀ g ∈ gs, (0 ≤ g.x ∧ g.x ≤ 500) ∧ (0 ≤ g.y ∧ g.y ≤ 500) ∧ (0 ≤ g.z ∧ g.z ≤ 500)
def W_lsum (ds : List D) (P : D → Prop) : Prop := ∃ (gs : List I3) (vs : List Int), ds = [dG gs, dL vs] ∧ vs.length = gs.length ∧ smallG gs ∧ ok12 vs ∧ P (lRow (sumI gs vs))
def W_lcolored (ds : List D) (P : D → Prop) : Prop := ∃ (c : Int) (gs : List I3) (vs : List Int), ds = [.int c, dG gs, dL vs] ∧ vs.length = gs.length ∧ smallG gs ∧ ok12 vs ∧ ∀ r : I3, bI r 18 → P (lRow r)
def W_lquots (C : Addr) (ds : List D) (P : D → Prop) : Prop := ∃ vs : List Int, ds = [dL vs] ∧ vs.length ≤ 100 ∧ P (.tup (vs.map fun v => dQ C (Rat.divInt v 12)))
def W_scene (CV CO C : Addr) (ds : List D) (P : D → Prop) : Prop := ∃ ns : List Int, ds = [scr ns] ∧ ∀ (bs : List I3) (ls vs : List Int) (r : I3), okBands bs → regular bs → okLamp5 bs ls → vs.length = bs.length → ok12 vs → bI r 18 → P (.tup [dView CV CO C bs ls, dG (gens bs ls), dL vs, lRow r])
end G
/-! Rules by rows, with sides for omega. -/
namespace G
open PySem L2 PySem.Spec PyProof.Rows
section
variable {K : PySem.W.Frag} {ρ : Rho} {O : Store} {P : D → Store → Prop} {te : TE} {i j : Int}
theorem r_mod (h : 0 < j) (p : P (.int (i % j)) O) : wR K (rI (fun _ j => 0 < j) fun i j => V.int (i % j)) (.int i) (.int j) O P := r_rI h p
theorem r_fdv (h : 0 < j ∧ j < 18446744073709551616) (p : P (.int (i / j)) O) : wR K (rI CDivG fun i j => V.int (i.fdiv j)) (.int i) (.int j) O P :=
  r_rI (cdivG (n := 64) (by omega) (by omega) (by decide)) (by rw [Int.fdiv_eq_ediv_of_nonneg _ (by omega)]; exact p)
theorem r_mulS (h : (-18446744073709551616 < i ∧ i < 18446744073709551616) ∧ -18446744073709551616 < j ∧ j < 18446744073709551616) (p : P (.int (i * j)) O) : wR K (rI CMulW fun i j => V.int (i * j)) (.int i) (.int j) O P :=
  r_rI (small_wide (by omega) (by omega)) p
theorem r_mulC (h : -18446744073709551616 < j ∧ j < 18446744073709551616) (p : P (.int (i * j)) O) : wR K (rI CMul fun i j => V.int (i * j)) (.int i) (.int j) O P := r_rI (.inr (by omega)) p
theorem r_eqB {a b : Bool} (p : P (.bl (decide (a = b))) O) : wR K rEq (.bl a) (.bl b) O P := r_eq rfl (by
  have e : decide (V.bl a = V.bl b) = decide (a = b) := by cases a <;> cases b <;> rfl
  rw [e]; exact p)
theorem cut3_0 {a b c : D} (p : P (.lst [a, b, c]) O) : wZ K (rSlL K) (.lst [a, b, c]) (some 0) none O P := z_lst p
theorem cut3_1 {a b c : D} (p : P (.lst [b, c]) O) : wZ K (rSlL K) (.lst [a, b, c]) (some 1) none O P := z_lst p
theorem cut3_2 {a b c : D} (p : P (.lst [c]) O) : wZ K (rSlL K) (.lst [a, b, c]) (some 2) none O P := z_lst p
theorem cut3_0' {a b c : D} (p : P (.lst []) O) : wZ K (rSlL K) (.lst [a, b, c]) none (some 0) O P := z_lst p
theorem cut3_1' {a b c : D} (p : P (.lst [a]) O) : wZ K (rSlL K) (.lst [a, b, c]) none (some 1) O P := z_lst p
theorem cut3_2' {a b c : D} (p : P (.lst [a, b]) O) : wZ K (rSlL K) (.lst [a, b, c]) none (some 2) O P := z_lst p
/-- a row turned by 0, 1 or 2 -/
def partA (r : I3) (n : Int) : List D := if n = 0 then [.int r.x, .int r.y, .int r.z] else if n = 1 then [.int r.y, .int r.z] else [.int r.z]
def partB (r : I3) (n : Int) : List D := if n = 0 then [] else if n = 1 then [.int r.x] else [.int r.x, .int r.y]
theorem z_tA {r : I3} {n : Int} (hn : n = 0 ∨ n = 1 ∨ n = 2) (p : P (.lst (partA r n)) O) : wZ K (rSlL K) (lRow r) (some n) none O P := by
  rcases hn with rfl | rfl | rfl
  · exact cut3_0 p
  · exact cut3_1 p
  · exact cut3_2 p
theorem z_tB {r : I3} {n : Int} (hn : n = 0 ∨ n = 1 ∨ n = 2) (p : P (.lst (partB r n)) O) : wZ K (rSlL K) (lRow r) none (some n) O P := by
  rcases hn with rfl | rfl | rfl
  · exact cut3_0' p
  · exact cut3_1' p
  · exact cut3_2' p
theorem r_tAB {r : I3} {n : Int} (hn : n = 0 ∨ n = 1 ∨ n = 2) (p : P (lRow (turn3 r n)) O) : wR K rCat (.lst (partA r n)) (.lst (partB r n)) O P := by
  rcases hn with rfl | rfl | rfl
  · exact r_cat (by show 3 + 0 ≤ 100000; decide) p
  · exact r_cat (by show 2 + 1 ≤ 100000; decide) p
  · exact r_cat (by show 1 + 2 ≤ 100000; decide) p
theorem c_tupRow {r : I3} (p : P (tRow r) O) : wC K (rTupOf K) [lRow r] O P := c_tup p
end
section
variable {K : PySem.W.Frag} {ρ : Rho} {O : Store} {P : D → Store → Prop} {te : TE} {wi : TI} {gg : TG} {vs : List Nat}
/-- .. whose list may still change -/
theorem e_lcXO {α : Type} (f g : α → D) (hg : GOnly gg vs) (mg : GMono gg) (h : wI K wi ρ O fun ds O1 => ∃ xs : List α, ds = xs.map f ∧ xs.length < 90000 ∧ (∀ x ∈ xs, wG K gg (f x) (wipeR ρ vs) O1 fun ρ2 O2 => wE K te ρ2 O2 fun y O4 => y = g x ∧ O4 = O1) ∧ ∀ a, P (.loc a) ((a, .lst (xs.map g)) :: O1)) : wE K (tLc wi gg tYes te vs) ρ O P := by
  refine e_lcO hg mg fun F σ B H e hs R q => h F σ B H e hs R fun J ds O' B2 H2 p e2 hs2 it => ?_
  obtain ⟨xs, rfl, hl, step, fin⟩ := p
  refine q J _ O' B2 H2 ⟨by rw [List.length_map]; exact hl, fun i acc O3 => acc = (xs.map g).take i ∧ O3 = O', ⟨rfl, rfl⟩, ?_, ?_⟩ e2 hs2 it
  · rintro i d acc O3 hd hal ⟨rfl, rfl⟩
    rw [List.getElem?_map] at hd
    cases hx : xs[i]? with
    | none => rw [hx] at hd; cases hd
    | some x =>
      rw [hx] at hd
      cases hd
      intro F1 v σ1 B1 H1 e1 hs1 r1 Q1 q1
      refine step x (List.mem_of_getElem? hx) F1 v σ1 B1 H1 e1 hs1 r1 Q1 fun σ' ρ' O4 B3 H3 p3 => ?_
      refine q1 σ' ρ' _ B3 H3 (t_yes ⟨fun _ => p3.mono fun y O5 z => ?_, fun z => nomatch z⟩)
      obtain ⟨rfl, rfl⟩ := z
      refine ⟨?_, rfl⟩
      rw [List.take_succ, List.getElem?_map, hx]
      rfl
  · rintro a acc O3 ⟨rfl, rfl⟩
    rw [List.length_map, List.take_of_length_le (by rw [List.length_map]; exact Nat.le_refl _)]
    exact fin a
theorem ixN_nat {n : Nat} {i : Int} (h0 : 0 ≤ i) (h : i < (n : Int)) : ixN n i = some i.toNat := by
  unfold ixN
  rw [if_pos h0]
  first
    | rw [if_pos (by omega)]
    | (simp; omega)
/-- xs[i] = e, xs owned and first -/
theorem st_setI {a : Addr} {ds : List D} {i : Int} {y : D} {Q : Store → Prop} (h : 0 ≤ i ∧ i < (ds.length : Int)) (p : Q ((a, .lst (ds.set i.toNat y)) :: O)) :
    ∃ a' i' ds' n O4, D.loc a = .loc a' ∧ D.int i = .int i' ∧ ixN ds'.length i' = some n ∧ Put a' (.lst ds') (.lst (ds'.set n y)) ((a, .lst ds) :: O) O4 ∧ Q O4 :=
  ⟨a, i, ds, i.toNat, _, rfl, rfl, ixN_nat h.1 h.2, .here, p⟩
theorem map_setI (vs : List Int) (i : Nat) (v : Int) : (vs.map fun i => D.int i).set i (.int v) = (vs.set i v).map fun i => D.int i := by rw [List.map_set]
theorem g_setL {ta ti : TE} {y : D} {PR : Rho → Store → Prop} (h : wE K ta ρ O fun x O2 => wE K ti ρ O2 fun z O3 => ∃ a i ds n O4, x = .loc a ∧ z = .int i ∧ ixN ds.length i = some n ∧ Put a (.lst ds) (.lst (ds.set n y)) O3 O4 ∧ PR ρ O4) : wG K (gSub ta ti rSetL) y ρ O PR := fun F v σ B H e hs r Q q => by
  refine h F σ B H e hs _ fun u x O2 B2 H2 p2 e2 hs2 rx => ?_
  refine p2 F σ B2 H2 (e.mono e2) hs2 _ fun w z O3 B3 H3 p3 e3 hs3 rz => ?_
  obtain ⟨a, i, ds, n, O4, rfl, rfl, hi, hp, p⟩ := p3
  cases rx; cases rz
  obtain ⟨vs, h1, r1⟩ := (hs3.own _ (List.mem_append_left _ hp.mem)).2
  refine ⟨a, vs, i, n, rfl, rfl, h1, by rw [r1.length]; exact hi, ?_⟩
  have hs4 := hs3.write (o := .lst (vs.set n v)) (hp.appR (F := F)) ⟨_, upd_same, r1.set n ((r.mono e2).mono e3)⟩
  exact q σ ρ O4 B3 _ p (e2.trans e3) hs4 ((e.mono e2).mono e3)
theorem c_sumR {n : Nat} {f : Nat → Int} (p : P (.int (sR n f)) O) : wC K (rSum K) [.lst ((List.range n).map fun k => D.int (f k))] O P := by
  have e : (List.range n).map (fun k => D.int (f k)) = ((List.range n).map f).map fun i => D.int i := by rw [List.map_map]; rfl
  rw [e]
  exact c_sum p
theorem gI_ok {gs : List I3} (h : ∀ r ∈ gs, okRow r) {k : Nat} (hk : k < gs.length) : okRow (gI gs k) := by
  unfold gI
  rw [List.getD_eq_getElem?_getD, List.getElem?_eq_getElem hk]
  exact h _ (List.getElem_mem hk)
theorem gI_sm {gs : List I3} (h : smallG gs) {k : Nat} (hk : k < gs.length) : (0 ≤ (gI gs k).x ∧ (gI gs k).x ≤ 500) ∧ (0 ≤ (gI gs k).y ∧ (gI gs k).y ≤ 500) ∧ (0 ≤ (gI gs k).z ∧ (gI gs k).z ≤ 500) := by
  unfold gI
  rw [List.getD_eq_getElem?_getD, List.getElem?_eq_getElem hk]
  exact h.2 _ (List.getElem_mem hk)
theorem getD_all {l : List Int} {p : Int → Prop} (h : ∀ v ∈ l, p v) {k : Nat} (hk : k < l.length) : p (l.getD k 0) := by
  rw [List.getD_eq_getElem?_getD, List.getElem?_eq_getElem hk]
  exact h _ (List.getElem_mem hk)
theorem gens_eq {bs : List I3} {ls : List Int} (h : ls.length = bs.length) : (List.range bs.length).map (fun k => tRow (mulI (ls.getD k 0) (gI bs k))) = (gens bs ls).map tRow := by
  apply List.ext_getElem?
  intro i
  rw [List.getElem?_map, List.getElem?_map]
  unfold gens
  rw [List.getElem?_zipWith]
  by_cases hi : i < bs.length
  · rw [List.getElem?_range hi, List.getElem?_eq_getElem hi, List.getElem?_eq_getElem (by omega : i < ls.length)]
    simp only [Option.map, gI, List.getD_eq_getElem?_getD]
    rw [List.getElem?_eq_getElem hi, List.getElem?_eq_getElem (by omega : i < ls.length)]
    rfl
  · rw [List.getElem?_eq_none (by rw [List.length_range]; omega), List.getElem?_eq_none (by omega : bs.length ≤ i), List.getElem?_eq_none (by omega : ls.length ≤ i)]
    rfl
theorem mul_le500 {a b : Int} (ha : 1 ≤ a ∧ a ≤ 5) (hb : 0 ≤ b ∧ b ≤ 100) : 0 ≤ a * b ∧ a * b ≤ 500 := by
  have h1 : a * b ≤ 5 * 100 := Int.mul_le_mul ha.2 hb.2 hb.1 (by decide)
  have h2 : 0 ≤ a * b := Int.mul_nonneg (by omega) hb.1
  omega
theorem gens_small {bs : List I3} {ls : List Int} (hb : okBands bs) (hl : okLamp5 bs ls) : smallG (gens bs ls) := by
  refine ⟨by rw [gens_len hl.1]; exact hb.2.1, fun r hr => ?_⟩
  obtain ⟨i, hi⟩ := List.getElem?_of_mem hr
  obtain ⟨l, b, h1, h2, rfl⟩ := zipW_get hi
  have hL := hl.2 l (List.mem_of_getElem? h1)
  obtain ⟨bx, by', bz⟩ := hb.2.2 b (List.mem_of_getElem? h2)
  exact ⟨mul_le500 hL bx, mul_le500 hL by', mul_le500 hL bz⟩
theorem sum_bound {n : Nat} (hn : n ≤ 7) {v g : Nat → Int} (hv : ∀ k, k < n → 0 ≤ v k ∧ v k ≤ 12) (hg : ∀ k, k < n → 0 ≤ g k ∧ g k ≤ 500) : 0 ≤ sR n (fun k => v k * g k) ∧ sR n (fun k => v k * g k) ≤ 42000 := by
  constructor
  · exact sR_nn fun k hk => Int.mul_nonneg (hv k hk).1 (hg k hk).1
  · have := sR_abs (n := n) (f := fun k => v k * g k) (b := 6000) fun k hk => by
      have h1 : v k * g k ≤ 12 * 500 := Int.mul_le_mul (hv k hk).2 (hg k hk).2 (hg k hk).1 (by decide)
      have h2 : 0 ≤ v k * g k := Int.mul_nonneg (hv k hk).1 (hg k hk).1
      omega
    have h3 : n * 6000 ≤ 7 * 6000 := Nat.mul_le_mul_right _ hn
    omega
theorem sumI_bound {gs : List I3} {vs : List Int} (hl : vs.length = gs.length) (hg : smallG gs) (hv : ok12 vs) : (0 ≤ (sumI gs vs).x ∧ (sumI gs vs).x ≤ 42000) ∧ (0 ≤ (sumI gs vs).y ∧ (sumI gs vs).y ≤ 42000) ∧ (0 ≤ (sumI gs vs).z ∧ (sumI gs vs).z ≤ 42000) := by
  have h1 : ∀ k, k < gs.length → 0 ≤ vs.getD k 0 ∧ vs.getD k 0 ≤ 12 := fun k hk => getD_all hv (by omega)
  exact ⟨sum_bound hg.1 h1 fun k hk => (gI_sm hg hk).1, sum_bound hg.1 h1 fun k hk => (gI_sm hg hk).2.1, sum_bound hg.1 h1 fun k hk => (gI_sm hg hk).2.2⟩
/-- an owned list that is returned -/
theorem s_retZ {i : Nat} {a : Addr} {ds : List D} {O' : Store} {PS : Out → Store → Prop} (h : ρ[i]? = some (some (.loc a))) (p : PS (.ret (.lst ds)) O') : wS K (tRet (tVar i)) ρ ((a, .lst ds) :: O') PS := by
  refine s_freeze .here (s_ret (e_var (d := .lst ds) ?_ p))
  unfold frz
  rw [List.getElem?_map, h]
  simp
theorem c_lenDL {l : List Int} (p : P (.int l.length) O) : wC K (Evl.rLenS K) [dL l] O P := c_len (ds := l.map fun i => D.int i) (.inl rfl) (by rw [List.length_map]; exact p)
theorem ex_lRow {r : I3} {Q : List D → Prop} (h : Q [.int r.x, .int r.y, .int r.z]) : ∃ ds', lRow r = .lst ds' ∧ Q ds' := ⟨_, rfl, h⟩
theorem r_lR0 {r : I3} (p : P (.int r.x) O) : wR K (rIxL K) (lRow r) (.int 0) O P := r_ixL rfl p
theorem r_lR1 {r : I3} (p : P (.int r.y) O) : wR K (rIxL K) (lRow r) (.int 1) O P := r_ixL rfl p
theorem r_lR2 {r : I3} (p : P (.int r.z) O) : wR K (rIxL K) (lRow r) (.int 2) O P := r_ixL rfl p
theorem k_cellS {ns : List Int} {k : Int} {P : D → Prop} (h : 0 ≤ k) (p : P (.int (cell ns k))) : W_cell [scr ns, .int k] P := ⟨ns, k, rfl, h, p⟩
theorem k_lbands {c : Int} {P : D → Prop} (p : ∀ bs : List I3, okBands bs → regular bs → P (bD bs)) : W_lbands [.int c] P := ⟨c, rfl, p⟩
theorem k_llamp {c : Int} {n : Nat} {P : D → Prop} (h : n ≤ 8) (p : P (lampD (lampF c n))) : W_llamp [.int c, .int (n : Int)] P := ⟨c, n, rfl, h, p⟩
theorem k_lvals {c : Int} {n : Nat} {P : D → Prop} (h : 4 ≤ n ∧ n ≤ 7) (p : P (dL (valsF c n))) : W_lvals [.int c, .int (n : Int)] P := ⟨c, n, rfl, h.1, h.2, p⟩
theorem k_lgens {bs : List I3} {ls : List Int} {P : D → Prop} (h : okBands bs) (hl : okLamp5 bs ls) (p : P (dG (gens bs ls))) : W_lgens [bD bs, lampD ls] P := ⟨bs, ls, rfl, h, hl, p⟩
theorem k_lsum {gs : List I3} {vs : List Int} {P : D → Prop} (h : vs.length = gs.length) (hg : smallG gs) (hv : ok12 vs) (p : P (lRow (sumI gs vs))) : W_lsum [dG gs, dL vs] P := ⟨gs, vs, rfl, h, hg, hv, p⟩
theorem k_lquots {C : Addr} {vs : List Int} {P : D → Prop} (h : vs.length ≤ 100) (p : P (.tup (vs.map fun v => dQ C (Rat.divInt v 12)))) : W_lquots C [dL vs] P := ⟨vs, rfl, h, p⟩
theorem k_scene {CV CO C : Addr} {ns : List Int} {P : D → Prop} (p : ∀ (bs : List I3) (ls vs : List Int) (r : I3), okBands bs → regular bs → okLamp5 bs ls → vs.length = bs.length → ok12 vs → bI r 18 → P (.tup [dView CV CO C bs ls, dG (gens bs ls), dL vs, lRow r])) : W_scene CV CO C [scr ns] P := ⟨ns, rfl, p⟩
end
end G
/-! Colors in views; bounds. -/
namespace G
open PySem L2 PySem.Spec PyProof.Rows
/-! maths -/
theorem sR_cons (n : Nat) (f : Nat → Int) : sR (n + 1) f = f 0 + sR n fun k => f (k + 1) := by
  induction n with
  | zero => simp [sR]
  | succ n ih => rw [sR_succ, ih, sR_succ]; omega
def colV (gs : List I3) (qs : List Rat) : V3 := sumV (List.zipWith (fun q g => mulV q (vI g)) qs gs)
theorem colV_cons (g : I3) (gs : List I3) (q : Rat) (qs : List Rat) : colV (g :: gs) (q :: qs) = addV (mulV q (vI g)) (colV gs qs) := by
  unfold colV
  rw [List.zipWith_cons_cons, sumV_cons]
theorem sumI_cons (g : I3) (gs : List I3) (v : Int) (vs : List Int) : sumI (g :: gs) (v :: vs) = ⟨v * g.x + (sumI gs vs).x, v * g.y + (sumI gs vs).y, v * g.z + (sumI gs vs).z⟩ := by
  simp only [sumI, List.length_cons, sR_cons, gI, List.getD_cons_zero, List.getD_cons_succ]
theorem colV_sum {n : Int} (hn : n ≠ 0) : ∀ (gs : List I3) (vs : List Int), vs.length = gs.length → colV gs (vs.map fun v => Rat.divInt v n) = vecI n (sumI gs vs)
  | [], [], _ => by
    show zV = vecI n ⟨0, 0, 0⟩
    unfold vecI zV
    rw [zero_divI]
  | g :: gs, v :: vs, h => by
    rw [List.map_cons, colV_cons, colV_sum hn gs vs (by simpa using h), sumI_cons]
    have hc := rc_ne hn
    apply V3.ext' <;> simp only [addV, mulV, vI, vecI, Rat.divInt_eq_div, Rat.intCast_add, Rat.intCast_mul] <;> grind
  | [], _ :: _, h => by simp at h
  | _ :: _, [], h => by simp at h
theorem bits_colV {gs : List I3} {qs : List Rat} {m : Nat} (hq : ∀ q ∈ qs, bits q m) (hg : ∀ g ∈ gs, bigRow g) (h7 : gs.length ≤ 7) : bitsV (colV gs qs) ((m + 15) * 7 + 1) := by
  unfold colV
  have hz : ∀ v ∈ List.zipWith (fun q g => mulV q (vI g)) qs gs, bitsV v (m + 14) := fun v hv => by
    obtain ⟨i, hi⟩ := List.getElem?_of_mem hv
    obtain ⟨q, g, h1, h2, rfl⟩ := zipW_get hi
    exact bitsV_mul (hq q (List.mem_of_getElem? h1)) (bits_big (hg g (List.mem_of_getElem? h2)))
  have hl : (List.zipWith (fun q g => mulV q (vI g)) qs gs).length ≤ 7 := by rw [List.length_zipWith]; omega
  have := bitsV_sum (List.zipWith (fun q g => mulV q (vI g)) qs gs) _ hz (Nat.le_refl _)
  rw [List.take_length] at this
  exact bitsV_mono this (by have := Nat.mul_le_mul_left (m + 14 + 1) hl; omega)
theorem bigRow_of {r : I3} (h : (0 ≤ r.x ∧ r.x ≤ 500) ∧ (0 ≤ r.y ∧ r.y ≤ 500) ∧ (0 ≤ r.z ∧ r.z ≤ 500)) : bigRow r := ⟨⟨h.1.1, by have := h.1.2; omega⟩, ⟨h.2.1.1, by have := h.2.1.2; omega⟩, h.2.2.1, by have := h.2.2.2; omega⟩
theorem small_big {gs : List I3} (h : smallG gs) : ∀ g ∈ gs, bigRow g := fun g hg => bigRow_of (h.2 g hg)
/-! bands, bounds among some bands -/
abbrev dN (ks : List Nat) : D := .lst (ks.map fun (k : Nat) => D.int (k : Int))
abbrev sideD (lo : Bool) : D := .raw (.str (if lo then Str.ofString "low" else Str.ofString "high"))
def bndK (gs : List I3) (ks : List Nat) (i j : Nat) (lo : Bool) : Int := ((ks.filter (onB i j lo)).map fun k => detI (gI gs i) (gI gs j) (gI gs k)).sum
theorem det_abs {a b c : I3} {M : Nat} (ha : (0 ≤ a.x ∧ a.x ≤ M) ∧ (0 ≤ a.y ∧ a.y ≤ M) ∧ (0 ≤ a.z ∧ a.z ≤ M)) (hb : (0 ≤ b.x ∧ b.x ≤ M) ∧ (0 ≤ b.y ∧ b.y ≤ M) ∧ (0 ≤ b.z ∧ b.z ≤ M)) (hc : (0 ≤ c.x ∧ c.x ≤ M) ∧ (0 ≤ c.y ∧ c.y ≤ M) ∧ (0 ≤ c.z ∧ c.z ≤ M)) :
    (detI a b c).natAbs ≤ 3 * (M * (M * M)) := by
  have two : ∀ p q r s : Int, (0 ≤ p ∧ p ≤ M) → (0 ≤ q ∧ q ≤ M) → (0 ≤ r ∧ r ≤ M) → (0 ≤ s ∧ s ≤ M) → (p * q - r * s).natAbs ≤ M * M := fun p q r s hp hq hr hs => by
    have h1 : p * q ≤ (M : Int) * M := Int.mul_le_mul hp.2 hq.2 hq.1 (by omega)
    have h2 : 0 ≤ p * q := Int.mul_nonneg hp.1 hq.1
    have h3 : r * s ≤ (M : Int) * M := Int.mul_le_mul hr.2 hs.2 hs.1 (by omega)
    have h4 : 0 ≤ r * s := Int.mul_nonneg hr.1 hs.1
    have : ((M * M : Nat) : Int) = (M : Int) * M := by push_cast; rfl
    omega
  have three : ∀ p t : Int, (0 ≤ p ∧ p ≤ M) → t.natAbs ≤ M * M → (p * t).natAbs ≤ M * (M * M) := fun p t hp ht => by
    rw [Int.natAbs_mul]
    exact Nat.mul_le_mul (by omega) ht
  have a1 := three a.x _ ha.1 (two _ _ _ _ hb.2.1 hc.2.2 hb.2.2 hc.2.1)
  have a2 := three a.y _ ha.2.1 (two _ _ _ _ hb.1 hc.2.2 hb.2.2 hc.1)
  have a3 := three a.z _ ha.2.2 (two _ _ _ _ hb.1 hc.2.1 hb.2.1 hc.1)
  unfold detI
  omega
theorem det_sm {gs : List I3} (h : smallG gs) {i j k : Nat} (hi : i < gs.length) (hj : j < gs.length) (hk : k < gs.length) : (detI (gI gs i) (gI gs j) (gI gs k)).natAbs ≤ 375000000 := det_abs (M := 500) (gI_sm h hi) (gI_sm h hj) (gI_sm h hk)
/-! pairs -/
abbrev pD (p : Nat × Nat) : D := .tup [.int (p.1 : Int), .int (p.2 : Int)]
def rowP (n i : Nat) : List (Nat × Nat) := (List.range (n - (i + 1))).map fun d => (i, i + 1 + d)
def pairsL (n : Nat) : List (Nat × Nat) := (List.range n).flatMap (rowP n)
def pairsT (n m : Nat) : List (Nat × Nat) := (List.range m).flatMap (rowP n)
/-! words -/
def W_isReflT (CV CO C : Addr) (ds : List D) (P : D → Prop) : Prop := ∃ (bs : List I3) (ls : List Int) (qs : List Rat) (m : Nat), ds = [dView CV CO C bs ls, .tup (qs.map (dQ C))] ∧ okBands bs ∧ okLamp bs ls ∧ qs.length = bs.length ∧ (∀ q ∈ qs, bits q m ∧ 0 ≤ q ∧ q ≤ 1) ∧ m ≤ 1000 ∧ P (.bl true)
def W_reqReflT (CV CO C : Addr) (ds : List D) (P : D → Prop) (PX : Addr → Prop) : Prop := W_isReflT CV CO C ds fun _ => P .non
def W_isqT (C : Addr) (ds : List D) (P : D → Prop) : Prop := ∃ q : Rat, ds = [dQ C q] ∧ P (.bl true)
def W_shareT (C : Addr) (ds : List D) (P : D → Prop) : Prop := ∃ (q : Rat) (m : Nat), ds = [dQ C q] ∧ bits q m ∧ 0 ≤ q ∧ q ≤ 1 ∧ m ≤ 1000 ∧ P (.bl true)
def W_colT (CV CO C : Addr) (ds : List D) (P : D → Prop) (PX : Addr → Prop) : Prop := ∃ (bs : List I3) (ls : List Int) (qs : List Rat) (m : Nat), ds = [dView CV CO C bs ls, .tup (qs.map (dQ C))] ∧ okBands bs ∧ okLamp bs ls ∧ qs.length = bs.length ∧ (∀ q ∈ qs, bits q m ∧ 0 ≤ q ∧ q ≤ 1) ∧ m ≤ 600 ∧ P (dV C (colV (gens bs ls) qs))
def W_pdet (C : Addr) (ds : List D) (P : D → Prop) : Prop := ∃ (gs : List I3) (i j : Nat) (v : V3) (m : Nat), ds = [vD C gs, pD (i, j), dV C v] ∧ (∀ g ∈ gs, bigRow g) ∧ i < gs.length ∧ j < gs.length ∧ bitsV v m ∧ m ≤ 500 ∧ P (dQ C (detV (vI (gI gs i)) (vI (gI gs j)) v))
def W_isOn (ds : List D) (P : D → Prop) : Prop := ∃ (k i j : Nat) (lo : Bool), ds = [.int (k : Int), pD (i, j), sideD lo] ∧ P (.bl (onB i j lo k))
def W_bound (C : Addr) (ds : List D) (P : D → Prop) : Prop := ∃ (gs : List I3) (ks : List Nat) (i j : Nat) (lo : Bool), ds = [vD C gs, dN ks, pD (i, j), sideD lo] ∧ smallG gs ∧ ks.length ≤ 7 ∧ (∀ k ∈ ks, k < gs.length) ∧ i < gs.length ∧ j < gs.length ∧ P (dQ C ((bndK gs ks i j lo : Int) : Rat))
def W_bandsOf (CV CO C : Addr) (ds : List D) (P : D → Prop) : Prop := ∃ (bs : List I3) (ls : List Int), ds = [dView CV CO C bs ls] ∧ okBands bs ∧ okLamp bs ls ∧ P (dN (List.range bs.length))
def W_lowhigh (CV CO C : Addr) (lo : Bool) (ds : List D) (P : D → Prop) : Prop := ∃ (bs : List I3) (ls : List Int) (i j : Nat), ds = [dView CV CO C bs ls, .int (i : Int), .int (j : Int)] ∧ okBands bs ∧ okLamp5 bs ls ∧ i < bs.length ∧ j < bs.length ∧ P (dQ C ((bndI (gens bs ls) i j lo : Int) : Rat))
/-- a row of three ints: a tuple or a list -/
def rowD (l : Bool) (r : I3) : D := if l then lRow r else tRow r
def W_ldetS (ds : List D) (P : D → Prop) : Prop := ∃ (a b c : I3) (l : Bool), ds = [tRow a, tRow b, rowD l c] ∧ bI a 20 ∧ bI b 20 ∧ bI c 20 ∧ P (.int (detI a b c))
def W_lbound (ds : List D) (P : D → Prop) : Prop := ∃ (gs : List I3) (i j : Nat) (lo : Bool), ds = [dG gs, .int (i : Int), .int (j : Int), sideD lo] ∧ smallG gs ∧ i < j ∧ j < gs.length ∧ P (.int (bndI gs i j lo))
def W_lpairs (ds : List D) (P : D → Prop) : Prop := ∃ n : Nat, ds = [.int (n : Int)] ∧ n ≤ 7 ∧ P (.lst ((pairsL n).map pD))
/-- what the law finds: 1 on the low side, 2 on the high side, 0 for none -/
def failD (gs : List I3) (c : I3) (i j : Nat) : D := if detI (gI gs i) (gI gs j) c < 12 * bndI gs i j true then sideD true else if 12 * bndI gs i j false < detI (gI gs i) (gI gs j) c then sideD false else .non
def W_lfailed (ds : List D) (P : D → Prop) : Prop := ∃ (gs : List I3) (c : I3) (i j : Nat), ds = [dG gs, lRow c, .int (i : Int), .int (j : Int)] ∧ smallG gs ∧ bI c 20 ∧ i < j ∧ j < gs.length ∧ P (failD gs c i j)
section
variable {K : PySem.W.Frag} {ρ : Rho} {O : Store} {P : D → Store → Prop} {r : I3}
end
theorem share12 {v : Int} (h : 0 ≤ v ∧ v ≤ 12) : bits (Rat.divInt v 12) 4 ∧ 0 ≤ Rat.divInt v 12 ∧ Rat.divInt v 12 ≤ 1 := by
  refine ⟨bits_divInt (by decide) (by omega) (by decide), ?_, ?_⟩
  · rw [Rat.divInt_eq_div]
    have : (0 : Rat) ≤ (v : Rat) := Rat.intCast_nonneg.mpr h.1
    grind
  · rw [Rat.divInt_eq_div]
    have : (v : Rat) ≤ ((12 : Int) : Rat) := Rat.intCast_le_intCast.mpr h.2
    grind
theorem shares12 {vs : List Int} (h : ok12 vs) : ∀ q ∈ vs.map (fun v => Rat.divInt v 12), bits q 4 ∧ 0 ≤ q ∧ q ≤ 1 := fun q hq => by
  obtain ⟨v, hv, rfl⟩ := List.mem_map.mp hq
  exact share12 (h v hv)
end G
/-! Pairs in order; the test of a surface color. -/
namespace G
open PySem L2 PySem.Spec PyProof.Rows
/-! enumerate of a list -/
theorem itOk_enumL {K : PySem.W.Frag} {B : Hp} {a : Addr} {xs : List V} {ds : List D} (h : B a = some (.lst xs)) (r : Reps K B xs ds) : ItOk K B (Ite K a) (enumD 0 ds) := fun B' H' O e hs i => by
  have h' : SqL K H' a xs := Evl.sq_of (hs.ex _ _ (e _ _ h))
  refine ⟨fun d hd => ?_, fun hd => ⟨xs, h', by
    have := List.getElem?_eq_none_iff.mp hd
    rw [enumD_len] at this
    rw [r.length]
    exact this⟩⟩
  rw [enumD_get, Nat.zero_add] at hd
  cases hx : ds[i]? with
  | none => rw [hx] at hd; cases hd
  | some d0 =>
    rw [hx] at hd
    cases hd
    obtain ⟨v, hv, rv⟩ := r.get hx
    refine ⟨⟨xs, v, h', hv⟩, ?_⟩
    rintro x H2 ⟨T, v2, rfl, hT, rfl, q⟩
    have e1 := q xs h'
    rw [hv] at e1
    cases e1
    obtain ⟨hs2, ex2⟩ := hs.new (o := .tup [.int (i : Nat), v]) hT
    exact ⟨_, ex2, hs2, .tup (Evl.st_of upd_same) (.cons (.raw _) (.cons ((rv.mono e).mono ex2) .nil))⟩
theorem i_enumL {K : PySem.W.Frag} {ρ : Rho} {O : Store} {ta : TA} {P : List D → Store → Prop} (h : wA K ta ρ O fun ds O1 => ∃ xs, ds = [.lst xs] ∧ P (enumD 0 xs) O1) : wI K (iEnum K ta) ρ O P := fun F σ B H e hs R q =>
  h F σ B H e hs _ fun vs ds O1 B1 H1 p1 e1 hs1 r => by
    obtain ⟨xs, rfl, p⟩ := p1
    cases r with
    | cons r1 r =>
      cases r
      cases r1 with
      | lst ha ra => exact ⟨_, _, rfl, Evl.sq_of (hs1.ex _ _ ha), q _ _ O1 B1 H1 p e1 hs1 (itOk_enumL ha ra)⟩
/-! == and != of what may be None or plain data -/
def rEqU (K : PySem.W.Frag) : R2 := fun x y H Q => rEq x y H Q ∨ rEqD K x y H Q
def rNeU (K : PySem.W.Frag) : R2 := fun x y H Q => rNe x y H Q ∨ rNeD K x y H Q
section
variable {K : PySem.W.Frag} {ρ : Rho} {O : Store} {P : D → Store → Prop}
/-- what a test tells: the first pair and the side -/
abbrev encT : Option ((Nat × Nat) × Bool) → D
  | none => .non
  | some o => .tup [.int (o.1.1 : Int), .int (o.1.2 : Int), sideD o.2]
end
/-! pairs of ascending bands -/
def pairsK (ks : List Nat) : List (Nat × Nat) := (List.range ks.length).flatMap fun a => (ks.drop (a + 1)).map fun j => (ks.getD a 0, j)
/-! the test -/
def beyond (gs : List I3) (v : V3) (p : Nat × Nat) (lo : Bool) : Bool := if lo then decide (detV (vI (gI gs p.1)) (vI (gI gs p.2)) v < ((bndI gs p.1 p.2 true : Int) : Rat)) else decide (((bndI gs p.1 p.2 false : Int) : Rat) < detV (vI (gI gs p.1)) (vI (gI gs p.2)) v)
def sideF (gs : List I3) (v : V3) (p : Nat × Nat) : Option ((Nat × Nat) × Bool) := if beyond gs v p true then some (p, true) else if beyond gs v p false then some (p, false) else none
def testF (gs : List I3) (v : V3) : Option ((Nat × Nat) × Bool) := (pairsL gs.length).findSome? (sideF gs v)
abbrev encS : Option ((Nat × Nat) × Bool) → D
  | none => .non
  | some o => sideD o.2
def W_pairsOf (ds : List D) (P : D → Prop) : Prop := ∃ ks : List Nat, ds = [dN ks] ∧ ks.length ≤ 7 ∧ P (.lst ((pairsK ks).map pD))
def W_isBeyond (CV CO C : Addr) (ds : List D) (P : D → Prop) : Prop := ∃ (bs : List I3) (ls : List Int) (v : V3) (m : Nat) (p : Nat × Nat) (lo : Bool), ds = [dView CV CO C bs ls, dV C v, pD p, sideD lo] ∧ okBands bs ∧ okLamp5 bs ls ∧ bitsV v m ∧ m ≤ 250 ∧ p.1 < bs.length ∧ p.2 < bs.length ∧ P (.bl (beyond (gens bs ls) v p lo))
def W_stest (CV CO C : Addr) (ds : List D) (P : D → Prop) : Prop := ∃ (bs : List I3) (ls : List Int) (v : V3) (m : Nat), ds = [dView CV CO C bs ls, dV C v] ∧ okBands bs ∧ okLamp5 bs ls ∧ bitsV v m ∧ m ≤ 250 ∧ P (encT (testF (gens bs ls) v))
def W_ltest (ds : List D) (P : D → Prop) : Prop := ∃ (gs : List I3) (c : I3), ds = [dG gs, lRow c] ∧ smallG gs ∧ bI c 20 ∧ P (encT (testF gs (vecI 12 c)))
end G
/-! Kinds of band patterns. -/
namespace G
open PySem L2 PySem.Spec PyProof.Rows
abbrev kindD (b : Bool) : D := .raw (.str (if b then Str.ofString "pass" else Str.ofString "stop"))
def W_parts (C : Addr) (ds : List D) (P : D → Prop) : Prop := ∃ b : Bool, ds = [kindD b] ∧ P (.tup [dQ C (if b then 1 else 0), dQ C (if b then 0 else 1)])
def W_fpairK (C : Addr) (ds : List D) (P : D → Prop) : Prop := ∃ (xs : List Rat) (b : Bool) (m : Nat), ds = [.tup (xs.map (dQ C)), kindD b] ∧ 1 ≤ xs.length ∧ xs.length ≤ 1000 ∧ (∀ x ∈ xs, bits x m) ∧ bits (if b then 1 else 0) m ∧ bits (if b then 0 else 1) m ∧ m + m ≤ 8900 ∧ ∀ r, FPs xs (if b then 1 else 0) (if b then 0 else 1) r → P (encP r)
/-! the law's search for the first pattern -/
def fitB (qs : List Rat) (i j : Nat) (b : Bool) : Prop := fitR qs (if b then 1 else 0) (if b then 0 else 1) i j
def befB (a b : (Nat × Nat) × Bool) : Prop := a.1.1 < b.1.1 ∨ (a.1.1 = b.1.1 ∧ (a.1.2 < b.1.2 ∨ (a.1.2 = b.1.2 ∧ a.2 = true ∧ b.2 = false)))
/-- o is the first fit among those of X, all of which stand ahead of the others -/
def fstB (qs : List Rat) (X : Nat → Nat → Bool → Prop) : Option ((Nat × Nat) × Bool) → Prop
  | none => ∀ i j b, X i j b → ¬ fitB qs i j b
  | some p => fitB qs p.1.1 p.1.2 p.2 ∧ ∀ i j b, befB ((i, j), b) p → ¬ fitB qs i j b
def befX (f s : Nat) (t : Nat) (i j : Nat) (b : Bool) : Prop := i < f ∨ (i = f ∧ (j < s ∨ (j = s ∧ ((b = true ∧ 1 ≤ t) ∨ (b = false ∧ 2 ≤ t)))))
end G
/-! Things: what a paper may be made of. -/
namespace G
open PySem L2 PySem.Spec PyProof.Rows
inductive Thg (C : Addr) : D → Prop where
  | int (i : Int) : Thg C (.int i)
  | str (s : Str) : Thg C (.raw (.str s))
  | non : Thg C .non
  | tup (ds : List D) (h : ∀ d ∈ ds, Thg C d) : Thg C (.tup ds)
  | lst (ds : List D) : Thg C (.lst ds)
  | dct : Thg C .dct
  | quo (q : Rat) (h : bits q 600) : Thg C (dQ C q)
def qOf : D → Option Rat
  | .ins _ [(_, .raw (.int n)), (_, .raw (.int b))] => some (Rat.divInt n b)
  | _ => none
theorem qOf_dQ (C : Addr) (q : Rat) : qOf (dQ C q) = some q := by
  show some (Rat.divInt q.num (q.den : Int)) = some q
  rw [divInt_self]
def shareF (d : D) : Bool := match qOf d with
  | some q => decide (0 ≤ q) && decide (q ≤ 1)
  | none => false
def numF (d : D) (a b : Int) : Bool := match d with
  | .raw (.int v) => decide (a ≤ v) && decide (v ≤ b)
  | _ => false
def reflF (n : Nat) (d : D) : Bool := match d with
  | .tup ds => decide (ds.length = n) && ds.all shareF
  | _ => false
def wordF (d : D) (ws : List Str) : Bool := match d with
  | .raw (.str s) => ws.contains s
  | _ => false
def itemD (d : D) (i : Nat) : D := match d with
  | .tup ds => ds.getD i .non
  | _ => .non
def formF (d : D) (w : Str) (n : Nat) : Bool := match d with
  | .tup ds => decide (ds.length = n) && wordF (ds.getD 0 .non) [w]
  | _ => false
def qsOf (d : D) : List Rat := match d with
  | .tup ds => ds.map fun d => (qOf d).getD 0
  | _ => []
def intOf (d : D) : Int := match d with
  | .raw (.int v) => v
  | _ => 0
def pairF (n : Nat) (i j : D) : Bool := numF i 0 ((n : Int) - 1) && numF j (intOf i + 1) ((n : Int) - 1)
theorem num_int {d : D} {a b : Int} (h : numF d a b = true) : ∃ v, d = .int v ∧ a ≤ v ∧ v ≤ b := by
  unfold numF at h
  split at h
  · rename_i v
    simp at h
    exact ⟨v, rfl, h.1, h.2⟩
  · cases h
theorem word_str {d : D} {ws : List Str} (h : wordF d ws = true) : ∃ s, d = .raw (.str s) ∧ s ∈ ws := by
  unfold wordF at h
  split at h
  · rename_i s
    exact ⟨s, rfl, List.contains_iff_mem.mp h⟩
  · cases h
theorem form_tup {d : D} {w : Str} {n : Nat} (h : formF d w n = true) : ∃ ds, d = .tup ds ∧ ds.length = n ∧ ds.getD 0 .non = .raw (.str w) := by
  unfold formF at h
  split at h
  · rename_i ds
    rw [Bool.and_eq_true, decide_eq_true_eq] at h
    obtain ⟨s, hs, hm⟩ := word_str h.2
    refine ⟨ds, rfl, h.1, ?_⟩
    rw [hs, List.mem_singleton.mp hm]
  · cases h
section
variable {C : Addr}
theorem Thg.item {ds : List D} (h : Thg C (.tup ds)) {i : Nat} {d : D} (hd : ds[i]? = some d) : Thg C d := by
  cases h with
  | tup _ h => exact h d (List.mem_of_getElem? hd)
theorem Thg.mem {ds : List D} (h : Thg C (.tup ds)) {d : D} (hd : d ∈ ds) : Thg C d := by
  cases h with
  | tup _ h => exact h d hd
theorem qsOf_map (C : Addr) (qs : List Rat) : qsOf (.tup (qs.map (dQ C))) = qs := by
  show (qs.map (dQ C)).map (fun d => (qOf d).getD 0) = qs
  rw [List.map_map]
  have : (fun d => (qOf d).getD 0) ∘ dQ C = id := by
    funext q
    show (qOf (dQ C q)).getD 0 = q
    rw [qOf_dQ]
    rfl
  rw [this, List.map_id]
theorem refl_map {qs : List Rat} (h : ∀ q ∈ qs, 0 ≤ q ∧ q ≤ 1) : reflF qs.length (.tup (qs.map (dQ C))) = true := by
  unfold reflF
  simp only [List.length_map, decide_true, Bool.true_and]
  rw [List.all_map, List.all_eq_true]
  intro q hq
  show shareF (dQ C q) = true
  unfold shareF
  rw [qOf_dQ]
  simp [h q hq]
end
/-! words -/
def W_isqG (C : Addr) (ds : List D) (P : D → Prop) : Prop := ∃ d : D, ds = [d] ∧ Thg C d ∧ P (.bl (qOf d).isSome)
def W_shareG (C : Addr) (ds : List D) (P : D → Prop) : Prop := ∃ d : D, ds = [d] ∧ Thg C d ∧ P (.bl (shareF d))
def W_isNumG (C : Addr) (ds : List D) (P : D → Prop) : Prop := ∃ (d : D) (a b : Int), ds = [d, .int a, .int b] ∧ Thg C d ∧ P (.bl (numF d a b))
def W_isReflG (CV CO C : Addr) (ds : List D) (P : D → Prop) : Prop := ∃ (bs : List I3) (ls : List Int) (d : D), ds = [dView CV CO C bs ls, d] ∧ okBands bs ∧ okLamp bs ls ∧ Thg C d ∧ P (.bl (reflF bs.length d))
def W_isWordG (C : Addr) (ds : List D) (P : D → Prop) : Prop := ∃ (d : D) (ws : List Str), ds = [d, .tup (ws.map fun s => D.raw (.str s))] ∧ Thg C d ∧ ws.length ≤ 10 ∧ P (.bl (wordF d ws))
def W_formG (C : Addr) (ds : List D) (P : D → Prop) : Prop := ∃ (d : D) (w : Str) (n : Nat), ds = [d, .raw (.str w), .int (n : Int)] ∧ Thg C d ∧ 1 ≤ n ∧ P (.bl (formF d w n))
def W_isPairG (CV CO C : Addr) (ds : List D) (P : D → Prop) : Prop := ∃ (bs : List I3) (ls : List Int) (i j : D), ds = [dView CV CO C bs ls, i, j] ∧ okBands bs ∧ okLamp bs ls ∧ Thg C i ∧ Thg C j ∧ P (.bl (pairF bs.length i j))
def reflOfF (gs : List I3) (c : V3) (d : D) : Bool := reflF gs.length d && decide (colV gs (qsOf d) = c)
def W_reflOfG (CV CO C : Addr) (ds : List D) (P : D → Prop) : Prop := ∃ (bs : List I3) (ls : List Int) (c : V3) (d : D) (m : Nat), ds = [dView CV CO C bs ls, dV C c, d] ∧ okBands bs ∧ okLamp bs ls ∧ Thg C d ∧ bitsV c m ∧ m ≤ 4400 ∧ P (.bl (reflOfF (gens bs ls) c d))
theorem inV_str {s : Str} {ws : List Str} : inV (.str s) (ws.map V.str) = ws.contains s := by
  rw [Bool.eq_iff_iff, List.contains_iff_mem]
  unfold inV
  rw [List.any_map, List.any_eq_true]
  constructor
  · rintro ⟨x, hx, h⟩
    have : x = s := by
      have h' : (x == s) = true := h
      exact eq_of_beq h'
    rw [← this]
    exact hx
  · intro h
    refine ⟨s, h, ?_⟩
    show (s == s) = true
    exact beq_self_eq_true s
section
variable {K : PySem.W.Frag} {O : Store} {P : D → Store → Prop}
theorem r_inW {s : Str} {ws : List Str} (p : P (.bl (ws.contains s)) O) : wR K (rIn K false) (.raw (.str s)) (.tup (ws.map fun s => D.raw (.str s))) O P := fun F v u B H rx ry hs Q q => by
  cases rx
  cases ry with
  | tup h r =>
    have e : (ws.map fun s => D.raw (.str s)) = (ws.map V.str).map D.raw := by rw [List.map_map]; rfl
    rw [e] at r
    have hr := Reps.unraw r
    subst hr
    refine ⟨_, _, rfl, .inr (Evl.ex_t hs.ex h), rfl, ?_, ?_⟩
    · rw [List.all_map, List.all_eq_true]; intro _ _; rfl
    · show Q (.bl (inV (.str s) (ws.map V.str))) H
      rw [inV_str]
      exact q.here hs (.raw _) p
end
/-! papers that are not taken at a first look -/
def sLow : Str := Str.ofString "low"
def sHigh : Str := Str.ofString "high"
def lohi : List Str := [Str.ofString "low", Str.ofString "high"]
def past : List Str := [Str.ofString "pass", Str.ofString "stop"]
def weightF (d : D) : Bool := match qOf d with
  | some q => decide (0 < q)
  | none => false
def weightsF (n : Nat) (d : D) : Bool := match d with
  | .tup ds => decide (ds.length = n) && ds.all weightF
  | _ => false
def jsE (n : Nat) (d : D) : Bool := (formF d (Str.ofString "surface") 2 && reflF n (itemD d 1)) || (formF d (Str.ofString "outside") 4 && (pairF n (itemD d 1) (itemD d 2) && wordF (itemD d 3) lohi))
def joE (n : Nat) (d : D) : Bool := (formF d (Str.ofString "another") 2 && reflF n (itemD d 1)) || (formF d (Str.ofString "only") 4 && (pairF n (itemD d 1) (itemD d 2) && wordF (itemD d 3) past))
def jbE (n : Nat) (d : D) : Bool := (formF d (Str.ofString "bright") 6 && ((qOf (itemD d 1)).isSome && reflF n (itemD d 2))) || (formF d (Str.ofString "dark") 4 && (pairF n (itemD d 1) (itemD d 2) && wordF (itemD d 3) lohi))
def jlE (n : Nat) (d : D) : Bool := (formF d (Str.ofString "lamp") 2 && weightsF n (itemD d 1)) || (formF d (Str.ofString "few") 2 && numF (itemD d 1) 0 2)
def jeE (n : Nat) (d : D) : Bool := formF d (Str.ofString "end") 3 && reflF n (itemD d 1)
def W_jsE (CV CO C : Addr) (ds : List D) (P : D → Prop) : Prop := ∃ (bs : List I3) (ls : List Int) (c : V3) (d : D), ds = [dView CV CO C bs ls, dV C c, d] ∧ okBands bs ∧ okLamp5 bs ls ∧ bitsV c 20 ∧ Thg C d ∧ jsE bs.length d = false ∧ P (.bl false)
def W_joE (CV CO C : Addr) (ds : List D) (P : D → Prop) (PX : Addr → Prop) : Prop := ∃ (bs : List I3) (ls : List Int) (qs : List Rat) (d : D), ds = [dView CV CO C bs ls, .tup (qs.map (dQ C)), d] ∧ okBands bs ∧ okLamp5 bs ls ∧ qs.length = bs.length ∧ (∀ q ∈ qs, bits q 4 ∧ 0 ≤ q ∧ q ≤ 1) ∧ Thg C d ∧ joE bs.length d = false ∧ P (.bl false)
def W_jbE (CV CO C : Addr) (ds : List D) (P : D → Prop) : Prop := ∃ (bs : List I3) (ls : List Int) (c : V3) (d : D), ds = [dView CV CO C bs ls, dV C c, d] ∧ okBands bs ∧ okLamp5 bs ls ∧ bitsV c 20 ∧ Thg C d ∧ jbE bs.length d = false ∧ P (.bl false)
def W_jlE (CO C : Addr) (ds : List D) (P : D → Prop) (PX : Addr → Prop) : Prop := ∃ (bs : List I3) (qs : List Rat) (d : D), ds = [dObs CO C bs, .tup (qs.map (dQ C)), .tup (qs.map (dQ C)), d] ∧ okBands bs ∧ qs.length = bs.length ∧ (∀ q ∈ qs, bits q 4 ∧ 0 ≤ q ∧ q ≤ 1) ∧ Thg C d ∧ jlE bs.length d = false ∧ P (.bl false)
def W_jeE (CV CO C : Addr) (ds : List D) (P : D → Prop) : Prop := ∃ (bs : List I3) (ls : List Int) (c : V3) (b e d : D), ds = [dView CV CO C bs ls, dV C c, b, e, d] ∧ okBands bs ∧ okLamp5 bs ls ∧ bitsV c 20 ∧ Thg C d ∧ jeE bs.length d = false ∧ P (.bl false)
def W_patE (CV CO C : Addr) (ds : List D) (P : D → Prop) : Prop := ∃ (bs : List I3) (ls : List Int) (r i j k : D), ds = [dView CV CO C bs ls, r, .tup [i, j, k]] ∧ okBands bs ∧ okLamp5 bs ls ∧ Thg C i ∧ Thg C j ∧ Thg C k ∧ (pairF bs.length i j && wordF k past) = false ∧ P (.bl false)
def W_isReflOG (CO C : Addr) (ds : List D) (P : D → Prop) : Prop := ∃ (bs : List I3) (d : D), ds = [dObs CO C bs, d] ∧ okBands bs ∧ Thg C d ∧ P (.bl (reflF bs.length d))
def W_reqReflOG (CO C CB : Addr) (ds : List D) (P : D → Prop) (PX : Addr → Prop) : Prop := ∃ (bs : List I3) (d : D), ds = [dObs CO C bs, d] ∧ okBands bs ∧ Thg C d ∧ (reflF bs.length d = true → P .non) ∧ (reflF bs.length d = false → PX CB)
def W_reqReflG (CV CO C CB : Addr) (ds : List D) (P : D → Prop) (PX : Addr → Prop) : Prop := ∃ (bs : List I3) (ls : List Int) (d : D), ds = [dView CV CO C bs ls, d] ∧ okBands bs ∧ okLamp bs ls ∧ Thg C d ∧ (reflF bs.length d = true → P .non) ∧ (reflF bs.length d = false → PX CB)
def W_weightsG (CO C : Addr) (ds : List D) (P : D → Prop) : Prop := ∃ (bs : List I3) (d : D), ds = [dObs CO C bs, d] ∧ okBands bs ∧ Thg C d ∧ P (.bl (weightsF bs.length d))
theorem len2 {α : Type} {xs : List α} (h : xs.length = 2) : ∃ a b, xs = [a, b] := by
  match xs, h with
  | [a, b], _ => exact ⟨a, b, rfl⟩
end G
/-! Things that are no papers. -/
namespace G
open PySem L2 PySem.Spec PyProof.Rows
inductive ThgL (C : Addr) : List D → Prop where
  | nil : ThgL C []
  | cons {d : D} {ds : List D} (h : Thg C d) (r : ThgL C ds) : ThgL C (d :: ds)
/-- nothing that any judge takes -/
def nonsF (C : Addr) (n : Nat) (d : D) : Prop := Thg C d ∧ jsE n d = false ∧ joE n d = false ∧ jbE n d = false ∧ jlE n d = false ∧ jeE n d = false
def W_things (C : Addr) (ds : List D) (P : D → Prop) : Prop := ∃ n : Nat, ds = [.int (n : Int)] ∧ 4 ≤ n ∧ n ≤ 7 ∧ ∀ ds : List D, ds.length ≤ 100 → (∀ d ∈ ds, nonsF C n d) → P (.lst ds)
theorem llN {ds : List D} {p : Prop} (h : Nat.ble ds.length 100000 = true) (k : p) : ds.length ≤ 100000 ∧ p := ⟨Nat.le_of_ble_eq_true h, k⟩
section
variable {K : PySem.W.Frag} {ρ : Rho} {O : Store} {P : D → Store → Prop}
end
end G
/-! == and in, of what a paper is made of and texts. -/
namespace G
open PySem L2 PySem.Spec PyProof.Rows
section
variable {prog : Program} {w : World} {A : Around} {E : Value → Shared → Prop} {s : Shared} {K : PySem.W.Frag} {x C L f dx : Addr} {h₀ : Heap} {m : Str → Option Value} {od : Option Obj}
end
section
variable {prog : Program} {w : World} {A : Around} {R : Result → Shared → Prop}
end
/-! what the class of quotients answers for a text -/
def W_eqS (C : Addr) (ds : List D) (P : D → Prop) : Prop := ∃ (q : Rat) (t : Str), ds = [dQ C q, .raw (.str t)] ∧ bits q 600 ∧ P (.bl false)
section
variable {X : Cx} {CX : CXT} {k : Nat} {f C : Addr} {fd : FuncData} {ps : List Str}
theorem eqS_run (F : FnOk X.prog X.w X.K X.mg X.base CX0 k f fd ps (spP X.K 2 (W_eqS C))) (hb : Binds X.K fd ps []) {A : Around} (sb : L2.Sub X k A) {pins : List (Addr × Obj)} {s : Shared} {σ : L2.St} {H : Hp} (I : Inv X pins σ H s) {a : Addr} {q : Rat} (hq : bits q 600)
    (r : Rep X.K H (.ref a) (dQ C q)) (t : Str) (tk : Tok) : wpAny (model X.prog X.w) A (call (.ref f) [.ref a, .str t tk]) (PySem.W.CmpBack fun v s' => v = .bool false ∧ LoopI X pins σ H s') X.xe s := by
  have hsp : spP X.K 2 (W_eqS C) [.ref a, .str t] H (fun v H' => v = .bl false ∧ Ext H H') E0 := by
    refine ⟨[], H, [dQ C q, .raw (.str t)], fun d => d = .bl false, ⟨Evl.Ex.refl H, (fun p hp => absurd hp (by simp)), List.nodup_nil⟩, .cons r (.cons (.raw _) .nil), rfl, ⟨q, t, rfl, hq, rfl⟩, ?_⟩
    rintro v d B2 H2 rfl e hs2 rv
    cases rv
    exact ⟨rfl, e.trans hs2.ex⟩
  have e0 : Env0 X.prog X.w X.K X.mg X.base A X.stack s H := ⟨by rw [sb.fr]; exact I.env0.frames, I.env0.mod, I.env0.bs, I.env0.bsz, I.env0.funs, I.env0.frf, I.env0.hok, I.env0.bare⟩
  have hl := F.len _ _ _ _ hsp
  have hbd := hb s [.ref a, .str t tk] I.kIn (by simpa using hl)
  refine wpAny_call (codeAny_mono (F.run A X.stack s H ⟨[.ref a, .str t tk], []⟩ [.ref a, .str t tk] [.ref a, .str t] _ E0 sb.room e0 (by simpa using hbd) (.cons rfl (.cons ⟨tk, rfl⟩ .nil)) hsp) fun r s' hq => ?_)
  cases r with
  | error e => exact hq.elim
  | ok fl =>
    cases fl with
    | ret w =>
      obtain ⟨z, H', I', rz, ez, ex⟩ := I.after hq
      subst ez
      cases rz
      exact ⟨rfl, H', I', ex⟩
    | next => exact hq.elim
    | brk => exact hq.elim
    | cont => exact hq.elim
theorem rc_insS (F : FnOk X.prog X.w X.K X.mg X.base CX0 k f fd ps (spP X.K 2 (W_eqS C))) (hs : PySem.W.findIn X.K (.ref C) "__eq__" = some (some (.ref f))) (hf : PySem.W.isFn X.K (.ref f) = true) (hb : Binds X.K fd ps []) (hn : PySem.W.notFirst X.K C (.type "str") = true)
    {A : Around} (sb : L2.Sub X k A) {pins : List (Addr × Obj)} {s : Shared} {σ : L2.St} {H : Hp} (I : Inv X pins σ H s) {a : Addr} {q : Rat} (hq : bits q 600)
    (r : Rep X.K H (.ref a) (dQ C q)) (t : Str) (tk : Tok) : wpAny (model X.prog X.w) A (richCompare .Eq (.ref a) (.str t tk)) (fun v s' => v = .bool false ∧ LoopI X pins σ H s') X.xe s := by
  have r' := r
  cases r' with
  | ins g1 _ =>
    obtain ⟨_, J1, _⟩ := ins_get I.hok g1
    obtain ⟨_, J1, _⟩ := J1.look
    obtain ⟨_, hF⟩ := I.fr
    exact PySem.W.cmp_K (tb := .type "str") (op := .Eq) sb.room.units0 hF I.ok.mod.kin J1 (PySem.W.Looks.of_pure rfl) hn hs hf (eqS_run F hb sb I hq r t tk)
/-- x == a text -/
def rEqS (K : PySem.W.Frag) (C : Addr) : R2 := fun x y H Q => rEq x y H Q ∨ (∃ a xs t, x = .ref a ∧ SqT K H a xs ∧ y = .str t ∧ Q (.bl false) H) ∨ (∃ a q t, x = .ref a ∧ Rep K H (.ref a) (dQ C q) ∧ bits q 600 ∧ y = .str t ∧ ∀ H', Ext H H' → Q (.bl false) H')
theorem op_eqS (F : FnOk X.prog X.w X.K X.mg X.base CX0 k f fd ps (spP X.K 2 (W_eqS C))) (hr : Room k X.A) (hs : PySem.W.findIn X.K (.ref C) "__eq__" = some (some (.ref f))) (hf : PySem.W.isFn X.K (.ref f) = true) (hb : Binds X.K fd ps []) (hn : PySem.W.notFirst X.K C (.type "str") = true) :
    OpR X (compareOp .Eq) (rEqS X.K C) := by
  intro pins s σ H x y v u Q I rx ry h
  rcases h with h | ⟨a, xs, t, rfl, hx, rfl, q⟩ | ⟨a, q, t, rfl, r, hq, rfl, hQ⟩
  · exact op_eq pins s σ H x y v u Q I rx ry h
  · cases rx
    obtain ⟨tk, rfl⟩ := ry
    obtain ⟨its, r, pl, hz⟩ := I.tuple hx
    exact SeqAt.RcAt.tuple_str t tk pl hr.units0 X.prog X.w _ _ ⟨.bl false, H, I, rfl, q⟩
  · cases rx
    obtain ⟨tk, rfl⟩ := ry
    refine wpAny_mono (rc_insS F hs hf hb hn ⟨hr, rfl⟩ I hq r t tk) (fun v s' z => ?_) fun _ _ e => e
    obtain ⟨rfl, H', I', e⟩ := z
    exact ⟨.bl false, H', I', rfl, hQ H' e⟩
/-- x in a tuple of texts -/
def rInS (K : PySem.W.Frag) (C : Addr) : R2 := fun x y H Q => ∃ p ys, y = .ref p ∧ SqT K H p ys ∧ (∀ v ∈ ys, ∃ t, v = .str t) ∧
  ((flatV x = true ∧ Q (.bl (inV x ys)) H) ∨ (∃ a xs, x = .ref a ∧ SqT K H a xs ∧ Q (.bl false) H) ∨ (∃ a q, x = .ref a ∧ Rep K H (.ref a) (dQ C q) ∧ bits q 600 ∧ ∀ H', Ext H H' → Q (.bl false) H'))
end
end G
/-! What a paper is made of by the laws, and == and in of it with texts. -/
namespace G
open PySem L2 PySem.Spec PyProof.Rows
inductive Thp (C : Addr) : D → Prop where
  | int (i : Int) : Thp C (.int i)
  | str (s : Str) : Thp C (.raw (.str s))
  | non : Thp C .non
  | tup (ds : List D) (h : ∀ d ∈ ds, Thp C d) (hl : ds.length ≤ 20) : Thp C (.tup ds)
  | quo (q : Rat) (h : bits q 600) : Thp C (dQ C q)
theorem Thp.thg {C : Addr} : ∀ {d : D}, Thp C d → Thg C d
  | _, .int i => .int i
  | _, .str s => .str s
  | _, .non => .non
  | _, .tup ds h _ => .tup ds fun d hd => (h d hd).thg
  | _, .quo q h => .quo q h
section
variable {C : Addr}
theorem Thp.item {ds : List D} (h : Thp C (.tup ds)) {i : Nat} {d : D} (hd : ds[i]? = some d) : Thp C d := by
  cases h with
  | tup _ h _ => exact h d (List.mem_of_getElem? hd)
theorem Thp.mem {ds : List D} (h : Thp C (.tup ds)) {d : D} (hd : d ∈ ds) : Thp C d := by
  cases h with
  | tup _ h _ => exact h d hd
theorem Thp.len {ds : List D} (h : Thp C (.tup ds)) : ds.length ≤ 20 := by
  cases h with
  | tup _ _ hl => exact hl
theorem Thp.put {ds : List D} (h : Thp C (.tup ds)) {d : D} (hd : Thp C d) {k : Nat} (hk : k < ds.length) : Thp C (.tup (ds.take k ++ [d] ++ ds.drop (k + 1))) := by
  refine .tup _ (fun x hx => ?_) ?_
  · rcases List.mem_append.mp hx with hx | hx
    · rcases List.mem_append.mp hx with hx | hx
      · exact h.mem (List.mem_of_mem_take hx)
      · rw [List.mem_singleton.mp hx]
        exact hd
    · exact h.mem (List.mem_of_mem_drop hx)
  · have := h.len
    simp only [List.length_append, List.length_take, List.length_drop, List.length_cons, List.length_nil]
    omega
end
section
variable {K : PySem.W.Frag} {C : Addr} {O : Store} {P : D → Store → Prop}
theorem r_eqTx {d : D} {t : Str} (h : Thp C d) (p : P (.bl (wordF d [t])) O) : wR K (rEqS K C) d (.raw (.str t)) O P := fun F v u B H rx ry hs Q q => by
  cases ry
  cases h with
  | int i =>
    cases rx
    exact .inl ⟨rfl, q _ _ O B H p (Evl.Ex.refl B) hs (.raw _)⟩
  | str s =>
    cases rx
    refine .inl ⟨rfl, ?_⟩
    have e : wordF (.raw (.str s)) [t] = decide (V.str s = V.str t) := by
      rw [Bool.eq_iff_iff, decide_eq_true_eq]
      show [t].contains s = true ↔ _
      rw [List.contains_iff_mem, List.mem_singleton, V.str.injEq]
    rw [← e]
    exact q _ _ O B H p (Evl.Ex.refl B) hs (.raw _)
  | non =>
    cases rx
    exact .inl ⟨rfl, q _ _ O B H p (Evl.Ex.refl B) hs (.raw _)⟩
  | tup ds h hl =>
    cases rx with
    | tup h1 r1 => exact .inr (.inl ⟨_, _, t, rfl, Evl.ex_t hs.ex h1, rfl, q _ _ O B H p (Evl.Ex.refl B) hs (.raw _)⟩)
  | quo x hb =>
    have rx' := rx
    cases rx with
    | ins h1 r1 => exact .inr (.inr ⟨_, x, t, rfl, rx'.mono hs.ex, hb, rfl, fun H' e => q _ _ O B H' p (Evl.Ex.refl B) (hs_keep hs e) (.raw _)⟩)
end
end G
/-! What the judges answer, whole; words of the laws over papers. -/
namespace G
open PySem L2 PySem.Spec PyProof.Rows
def natOf (d : D) : Nat := (intOf d).toNat
def lowF (d : D) : Bool := wordF d [Str.ofString "low"]
/-- a pair, a side, and the color beyond it there -/
def outF (gs : List I3) (c : V3) (i j k : D) : Bool := pairF gs.length i j && (wordF k lohi && beyond gs c (natOf i, natOf j) (lowF k))
def jsF (gs : List I3) (c : V3) (d : D) : Bool := (formF d (Str.ofString "surface") 2 && reflOfF gs c (itemD d 1)) || (formF d (Str.ofString "outside") 4 && outF gs c (itemD d 1) (itemD d 2) (itemD d 3))
def W_jsF (CV CO C : Addr) (ds : List D) (P : D → Prop) : Prop := ∃ (bs : List I3) (ls : List Int) (c : V3) (d : D), ds = [dView CV CO C bs ls, dV C c, d] ∧ okBands bs ∧ okLamp5 bs ls ∧ bitsV c 20 ∧ Thg C d ∧ P (.bl (jsF (gens bs ls) c d))
/-! a paper turned -/
def W_turned (C : Addr) (j : Nat) (ds : List D) (P : D → Prop) : Prop := ∃ (d : D) (c : Int) (a : Nat), ds = [d, dL (drw c 8), .int (a : Int)] ∧ Thp C d ∧ a ≤ 6 ∧ 7 ≤ a + j ∧ ∀ t : D, Thp C t → P t
def W_lkind (C : Addr) (ds : List D) (P : D → Prop) : Prop := ∃ (d : D) (w : Str) (n : Nat), ds = [d, .raw (.str w), .int (n : Int)] ∧ Thp C d ∧ 1 ≤ n ∧ P (.bl (formF d w n))
def W_lband (C : Addr) (ds : List D) (P : D → Prop) : Prop := ∃ (d : D) (n : Nat), ds = [d, .int (n : Int)] ∧ Thp C d ∧ P (.bl (numF d 0 ((n : Int) - 1)))
def W_lpair (C : Addr) (ds : List D) (P : D → Prop) : Prop := ∃ (i j : D) (n : Nat), ds = [i, j, .int (n : Int)] ∧ Thp C i ∧ Thp C j ∧ P (.bl (pairF n i j))
def W_lrefl (C : Addr) (ds : List D) (P : D → Prop) : Prop := ∃ (d : D) (n : Nat), ds = [d, .int (n : Int)] ∧ Thp C d ∧ P (.bl (reflF n d))
def W_lhas (C : Addr) (ds : List D) (P : D → Prop) : Prop := ∃ (gs : List I3) (d : D) (c : I3), ds = [dG gs, d, lRow c, .int 12] ∧ smallG gs ∧ 1 ≤ gs.length ∧ Thp C d ∧ bI c 20 ∧ P (.bl (reflOfF gs (vecI 12 c) d))
def W_ljudS (C : Addr) (ds : List D) (P : D → Prop) : Prop := ∃ (gs : List I3) (c : I3) (d : D), ds = [dG gs, lRow c, d] ∧ smallG gs ∧ regular gs ∧ 1 ≤ gs.length ∧ bI c 20 ∧ Thp C d ∧ P (.bl (jsF gs (vecI 12 c) d))
end G
/-! A reflectance over one bottom. -/
namespace G
open PySem L2 PySem.Spec PyProof.Rows
def dProd (qs : List Rat) : Int := qs.foldl (fun a q => a * (q.den : Int)) 1
theorem dProd_snoc (qs : List Rat) (q : Rat) : dProd (qs ++ [q]) = dProd qs * (q.den : Int) := by
  unfold dProd
  rw [List.foldl_append]
  rfl
theorem dFold (qs : List Rat) : ∀ a : Int, qs.foldl (fun a q => a * (q.den : Int)) a = a * dProd qs := by
  induction qs with
  | nil => intro a; show a = a * 1; omega
  | cons q qs ih =>
    intro a
    unfold dProd
    rw [List.foldl_cons, List.foldl_cons, ih, ih, Int.one_mul, Int.mul_assoc]
theorem dProd_cons (q : Rat) (qs : List Rat) : dProd (q :: qs) = (q.den : Int) * dProd qs := by
  show (q :: qs).foldl _ 1 = _
  rw [List.foldl_cons, dFold, Int.one_mul]
theorem dProd_pos : ∀ qs : List Rat, 0 < dProd qs
  | [] => by decide
  | q :: qs => by
    rw [dProd_cons]
    have := q.den_pos
    exact Int.mul_pos (by omega) (dProd_pos qs)
theorem dProd_dvd : ∀ {qs : List Rat} {q : Rat}, q ∈ qs → (q.den : Int) ∣ dProd qs
  | p :: qs, q, h => by
    rw [dProd_cons]
    rcases List.mem_cons.mp h with rfl | h
    · exact Int.dvd_mul_right _ _
    · exact Int.dvd_trans (dProd_dvd h) (Int.dvd_mul_left _ _)
theorem dProd_lt {m : Nat} : ∀ {qs : List Rat}, (∀ q ∈ qs, bits q m) → (dProd qs).natAbs < 2 ^ (m * qs.length + 1)
  | [], _ => by show 1 < 2 ^ (m * 0 + 1); rw [Nat.mul_zero]; decide
  | q :: qs, h => by
    rw [dProd_cons]
    have a : ((q.den : Int)).natAbs < 2 ^ m := by
      have := (h q List.mem_cons_self).2
      rw [Int.natAbs_natCast]
      exact this
    have b := dProd_lt fun q hq => h q (List.mem_cons_of_mem _ hq)
    have := wide_lt a b
    rw [List.length_cons, Nat.mul_succ, show m * qs.length + m + 1 = m + (m * qs.length + 1) by omega]
    exact this
def numsOf (qs : List Rat) : List Int := qs.map fun q => q.num * (dProd qs / (q.den : Int))
theorem nums_of (qs : List Rat) : qs = (numsOf qs).map fun v => Rat.divInt v (dProd qs) := by
  unfold numsOf
  rw [List.map_map]
  conv => lhs; rw [← List.map_id qs]
  apply List.map_congr_left
  intro q hq
  show q = Rat.divInt (q.num * (dProd qs / (q.den : Int))) (dProd qs)
  obtain ⟨k, hk⟩ := dProd_dvd hq
  have hd : (q.den : Int) ≠ 0 := by have := q.den_pos; omega
  have hk0 : k ≠ 0 := by
    rintro rfl
    have := dProd_pos qs
    rw [hk] at this
    omega
  rw [hk, Int.mul_ediv_cancel_left _ hd, Rat.divInt_mul_right hk0, divInt_self]
/-- whether the row of parts is the color -/
def hasF (gs : List I3) (qs : List Rat) (c : I3) (pr : I3 → Int) : Bool := decide ((sR gs.length fun k => (qs.getD k 0).num * (dProd qs / ((qs.getD k 0).den : Int)) * pr (gI gs k)) * 12 = pr c * dProd qs)
end G
/-! The least of the factors, the pattern with a color, the paper of a surface. -/
namespace G
open PySem L2 PySem.Spec PyProof.Rows
abbrev Lim := Rat × (Nat × Nat) × Bool
def placeF (gs : List I3) (c : I3) (p : Nat × Nat) : Int := detI (gI gs p.1) (gI gs p.2) c
def limOf (gs : List I3) (c : I3) (p : Nat × Nat) : Lim := (Rat.divInt (12 * bndI gs p.1 p.2 (decide (placeF gs c p < 0))) (placeF gs c p), p, decide (placeF gs c p < 0))
def limStep (gs : List I3) (c : I3) (a : Option Lim) (p : Nat × Nat) : Option Lim := if placeF gs c p = 0 then a else match a with
  | none => some (limOf gs c p)
  | some l => if (limOf gs c p).1 < l.1 then some (limOf gs c p) else some l
def limF (gs : List I3) (c : I3) : Option Lim := (pairsL gs.length).foldl (limStep gs c) none
def limI (gs : List I3) (c : I3) (ps : List (Nat × Nat)) (a : Option Lim) : Prop := match a with
  | none => ∀ p ∈ ps, placeF gs c p = 0
  | some l => (∃ p ∈ ps, placeF gs c p ≠ 0 ∧ l = limOf gs c p) ∧ ∀ p ∈ ps, placeF gs c p ≠ 0 → l.1 ≤ (limOf gs c p).1
theorem div_mul {n d : Int} (h : d ≠ 0) : Rat.divInt n d * (d : Rat) = (n : Rat) := by
  have hd : (d : Rat) ≠ 0 := by
    intro z
    exact h (Rat.intCast_inj.mp z)
  rw [Rat.divInt_eq_div]
  grind
/-! the pattern with a color -/
def patB (n : Nat) (p : Nat × Nat) (lo : Bool) : List Rat := (List.range n).map fun k => if onB p.1 p.2 lo k then 1 else 0
def baseI (n : Nat) (p : Nat × Nat) (lo : Bool) : List Int := (List.range n).map fun k => if onB p.1 p.2 lo k then 1 else 0
def thirdF (n : Nat) (p : Nat × Nat) : Nat := ((List.range n).filter fun k => decide (k ≠ p.1 ∧ k ≠ p.2)).getD 0 0
abbrev restV (gs : List I3) (c : I3) (l : Lim) : V3 := subV (mulV l.1 (vecI 12 c)) (colV gs (patB gs.length l.2.1 l.2.2))
abbrev patM (gs : List I3) (c : I3) (l : Lim) : V3 := crV (vI (gI gs l.2.1.1)) (vI (gI gs l.2.1.2)) (vI (gI gs (thirdF gs.length l.2.1))) (restV gs c l)
def patV (gs : List I3) (c : I3) (l : Lim) : List Rat := ((patB gs.length l.2.1 l.2.2).set l.2.1.1 (patM gs c l).x).set l.2.1.2 (patM gs c l).y
/-- the rest, over one bottom -/
def restI (gs : List I3) (c : I3) (p : Nat × Nat) (lo : Bool) : I3 :=
  ⟨bndI gs p.1 p.2 lo * c.x - placeF gs c p * (sumI gs (baseI gs.length p lo)).x, bndI gs p.1 p.2 lo * c.y - placeF gs c p * (sumI gs (baseI gs.length p lo)).y, bndI gs p.1 p.2 lo * c.z - placeF gs c p * (sumI gs (baseI gs.length p lo)).z⟩
/-! the surface's reflectance, the paper -/
theorem I3.ext' {a b : I3} (h1 : a.x = b.x) (h2 : a.y = b.y) (h3 : a.z = b.z) : a = b := by
  cases a; cases b; simp_all
instance : DecidableEq I3 := fun a b => if h : a.x = b.x ∧ a.y = b.y ∧ a.z = b.z then .isTrue (I3.ext' h.1 h.2.1 h.2.2) else .isFalse fun e => h (by rw [e]; exact ⟨rfl, rfl, rfl⟩)
def surfV (gs : List I3) (c : I3) : List Rat := if c = ⟨0, 0, 0⟩ then List.replicate gs.length 0 else match limF gs c with
  | none => []
  | some l => (patV gs c l).map (· / l.1)
def explS (C : Addr) (gs : List I3) (c : I3) : D := match testF gs (vecI 12 c) with
  | none => .tup [.raw (.str (Str.ofString "surface")), .tup ((surfV gs c).map (dQ C))]
  | some o => .tup [.raw (.str (Str.ofString "outside")), .int (o.1.1 : Int), .int (o.1.2 : Int), sideD o.2]
def encL (C : Addr) (l : Lim) : D := .tup [dQ C l.1, pD l.2.1, sideD l.2.2]
def W_limX (CV CO C CB : Addr) (ds : List D) (P : D → Prop) (PX : Addr → Prop) : Prop := ∃ (bs : List I3) (ls : List Int) (c : I3), ds = [dView CV CO C bs ls, dV C (vecI 12 c)] ∧ okBands bs ∧ okLamp5 bs ls ∧ regular bs ∧ bI c 20 ∧ (c = ⟨0, 0, 0⟩ → PX CB) ∧ (c ≠ ⟨0, 0, 0⟩ → ∀ l, limF (gens bs ls) c = some l → P (encL C l))
def W_patC (CV CO C : Addr) (ds : List D) (P : D → Prop) : Prop := ∃ (bs : List I3) (ls : List Int) (c : I3) (l : Lim), ds = [dView CV CO C bs ls, pD l.2.1, kindD l.2.2, dV C (mulV l.1 (vecI 12 c))] ∧ okBands bs ∧ okLamp5 bs ls ∧ regular bs ∧ bI c 20 ∧ limF (gens bs ls) c = some l ∧ P (.tup ((patV (gens bs ls) c l).map (dQ C)))
def W_brX (CV CO C CB : Addr) (ds : List D) (P : D → Prop) (PX : Addr → Prop) : Prop := ∃ (bs : List I3) (ls : List Int) (c : I3), ds = [dView CV CO C bs ls, dV C (vecI 12 c)] ∧ okBands bs ∧ okLamp5 bs ls ∧ regular bs ∧ bI c 20 ∧ (c = ⟨0, 0, 0⟩ → PX CB) ∧ (c ≠ ⟨0, 0, 0⟩ → ∀ l, limF (gens bs ls) c = some l → (l.1 = 0 → P .non) ∧ (l.1 ≠ 0 → P (.tup [dQ C l.1, .tup ((patV (gens bs ls) c l).map (dQ C)), dV C (mulV l.1 (vecI 12 c))])))
def W_surfOf (CV CO C : Addr) (ds : List D) (P : D → Prop) : Prop := ∃ (bs : List I3) (ls : List Int) (c : I3), ds = [dView CV CO C bs ls, dV C (vecI 12 c)] ∧ okBands bs ∧ okLamp5 bs ls ∧ regular bs ∧ bI c 20 ∧ P (if testF (gens bs ls) (vecI 12 c) = none then .tup ((surfV (gens bs ls) c).map (dQ C)) else .non)
def W_explS (CV CO C : Addr) (ds : List D) (P : D → Prop) : Prop := ∃ (bs : List I3) (ls : List Int) (c : I3), ds = [dView CV CO C bs ls, dV C (vecI 12 c)] ∧ okBands bs ∧ okLamp5 bs ls ∧ regular bs ∧ bI c 20 ∧ P (explS C (gens bs ls) c)
end G
/-! Words of the solid's makers. -/
namespace G
open PySem L2 PySem.Spec PyProof.Rows
section
variable {K : PySem.W.Frag} {F : Store} {B0 : Hp} {ts tu : TS} {ρ : Rho} {O : Store} {PS : Out → Store → Prop} {E : XK} {PX : Addr → Prop} {n : Nat}
end
def inF (i j : Nat) (lo : Bool) (k : Nat) : Rat := if i < k ∧ k < j then (if lo then 1 else 0) else (if lo then 0 else 1)
def W_mixtureL (C CD : Addr) (ds : List D) (P : D → Prop) (PX : Addr → Prop) : Prop := ∃ (a b c d : V3) (m n : Nat), ds = [.lst [dV C a, dV C b, dV C c], dV C d] ∧ bitsV a m ∧ bitsV b m ∧ bitsV c m ∧ bitsV d n ∧ 30 * max m n + 10 ≤ 8900 ∧ (detV a b c = 0 → PX CD) ∧ (detV a b c ≠ 0 → P (dV C (crV a b c d)))
def W_side (C : Addr) (ds : List D) (P : D → Prop) : Prop := ∃ (q : Rat) (m : Nat), ds = [dQ C q] ∧ bits q m ∧ m ≤ 1000 ∧ P (sideD (decide (q < 0)))
def W_kind (ds : List D) (P : D → Prop) : Prop := ∃ lo : Bool, ds = [sideD lo] ∧ P (kindD lo)
abbrev encO (C : Addr) : Option Lim → D
  | none => .non
  | some l => encL C l
end G
namespace G
open PySem L2 PySem.Spec PyProof.Rows
end G
/-! The values of the pattern with a color lie in 0 to 1, and its color is the color. -/
namespace G
open PySem L2 PySem.Spec PyProof.Rows
/-- the sum of the places of what is on -/
def onS (gs : List I3) (i j : Nat) (lo : Bool) (a b : Nat) : Int := sR gs.length fun k => if onB i j lo k then detI (gI gs a) (gI gs b) (gI gs k) else 0
def allS (gs : List I3) (a b : Nat) : Int := sR gs.length fun k => detI (gI gs a) (gI gs b) (gI gs k)
/-- a color as a sum of what is on and two parts -/
def colS (gs : List I3) (i j : Nat) (lo : Bool) (v u : Rat) (a b : Nat) : Rat := ((onS gs i j lo a b : Int) : Rat) + v * ((detI (gI gs a) (gI gs b) (gI gs i) : Int) : Rat) + u * ((detI (gI gs a) (gI gs b) (gI gs j) : Int) : Rat)
def inS (gs : List I3) (E : Nat → Nat → Rat) : Prop := ∀ a b, a < b → b < gs.length → ((bndI gs a b true : Int) : Rat) ≤ E a b ∧ E a b ≤ ((bndI gs a b false : Int) : Rat)
section
variable {gs : List I3} {i j : Nat} {lo : Bool} {v u : Rat} {a b : Nat}
end
local macro_rules | `(tactic| walk_at "os") => `(tactic| (intro k hk h1 h2; rw [Bool.eq_iff_iff]; simp [onB]; omega))
end G
/-! Words of the laws about the brightest: the law's own least factor, its pattern, its reflectance over any bottom. -/
namespace G
open PySem L2 PySem.Spec PyProof.Rows
section
variable {K : PySem.W.Frag} {ρ : Rho} {n : Nat} {W : List D → (D → Prop) → (Addr → Prop) → Prop} {t : TA} {c : Value} {ts : Addr → Value → Option Addr → TS} {PS : Out → Store → Prop} {P : D → Prop} {PX : Addr → Prop} {i : Nat}
/-- try: f(..) except X as e: .. return .. -/
theorem s_tryDropAs (h : wA K t ρ [] fun ds O => O = [] ∧ ds.length = n ∧ W ds P PX) (hn : ∀ d, P d → PS (.nx ρ) [])
    (hx : ∀ x, PX x → PySem.W.exmOne K (.ref x) c = some true ∧ ∀ a, wS K (ts a (.ref x) none) (ρ.set i (some (.loc a))) [] (retOnly PS)) :
    wS K (fun D σ H => tDrop (tCallS (spX K n W) (WE (wAs K c i ts (fun _ _ _ _ => False) D)) t) D σ H) ρ [] PS := fun F σ B H e hs Dn q =>
  h F σ B H e hs _ fun vs ds O1 B1 H1 p1 e1 hs1 r => by
    obtain ⟨rfl, hl, hw⟩ := p1
    refine ⟨F, B1, ds, P, PX, hs1, r, hl, hw, fun v d B2 H2 p e2 hs2 rv => q (.nx ρ) [] B2 H2 (hn d p) (e1.trans e2) hs2 σ (e.mono (e1.trans e2)), fun x B2 H2 p e2 hs2 => ⟨true, (hx x p).1, fun _ a ha => ?_, fun z => nomatch z⟩⟩
    refine (hx x p).2 a F _ B2 H2 ((e.mono (e1.trans e2)).set i (.raw _)) hs2 _ fun o O' B3 H3 p3 e3 hs3 => ?_
    cases o with
    | ret d => exact q (.ret d) O' B3 H3 p3 ((e1.trans e2).trans e3) hs3
    | nx ρ => exact False.elim p3
    | bk ρ => exact False.elim p3
    | ct ρ => exact False.elim p3
end
/-! a reflectance over one bottom, for any bottom of the color -/
def hasN (gs : List I3) (qs : List Rat) (c : I3) (N : Int) (pr : I3 → Int) : Bool := decide ((sR gs.length fun k => (qs.getD k 0).num * (dProd qs / ((qs.getD k 0).den : Int)) * pr (gI gs k)) * N = pr c * dProd qs)
def W_lhasN (C : Addr) (ds : List D) (P : D → Prop) : Prop := ∃ (gs : List I3) (d : D) (c : I3) (N : Int), ds = [dG gs, d, lRow c, .int N] ∧ smallG gs ∧ 1 ≤ gs.length ∧ Thp C d ∧ bI c 1400 ∧ N ≠ 0 ∧ N.natAbs < 2 ^ 1400 ∧ P (.bl (reflOfF gs (vecI N c) d))
/-! the law's pattern -/
def lpatF (qs : List Rat) (i j : Nat) (lo : Bool) : Bool := (List.range qs.length).all fun k => decide (k = i) || (decide (k = j) || decide (qs.getD k 0 = if onB i j lo k then 1 else 0))
def W_lpat (C : Addr) (ds : List D) (P : D → Prop) : Prop := ∃ (qs : List Rat) (i j : Nat) (lo : Bool), ds = [.tup (qs.map (dQ C)), .int (i : Int), .int (j : Int), kindD lo] ∧ qs.length ≤ 100 ∧ i < j ∧ P (.bl (lpatF qs i j lo))
/-! the law's own factor -/
abbrev absI (i : Int) : Int := if i < 0 then -i else i
def topF (gs : List I3) (l : Lim) : Int := 12 * absI (bndI gs l.2.1.1 l.2.1.2 l.2.2)
def botF (gs : List I3) (c : I3) (l : Lim) : Int := absI (placeF gs c l.2.1)
def bestD (gs : List I3) (c : I3) (l : Lim) : D := .tup [.int (topF gs l), .int (botF gs c l), .int (l.2.1.1 : Int), .int (l.2.1.2 : Int), kindD l.2.2]
abbrev bestO (gs : List I3) (c : I3) : Option Lim → D
  | none => .non
  | some l => bestD gs c l
def W_lfac (ds : List D) (P : D → Prop) : Prop := ∃ (gs : List I3) (c : I3), ds = [dG gs, lRow c] ∧ smallG gs ∧ regular gs ∧ bI c 20 ∧ P (bestO gs c (limF gs c))
def W_lblack (CV CO C : Addr) (ds : List D) (P : D → Prop) : Prop := ∃ (bs : List I3) (ls : List Int), ds = [dView CV CO C bs ls] ∧ okBands bs ∧ okLamp5 bs ls ∧ regular bs ∧ P (.bl true)
def prjI (t : Nat) (g : I3) : Int := match t with | 0 => g.x | 1 => g.y | _ => g.z
def prjV (t : Nat) (g : V3) : Rat := match t with | 0 => g.x | 1 => g.y | _ => g.z
end G
/-! A color of a reflectance lies within the solid; the maker's paper is taken. -/
namespace G
open PySem L2 PySem.Spec PyProof.Rows
end G
/-! Words of k70: quotients of a list or a tuple, a paper of known parts. -/
namespace G
open PySem L2 PySem.Spec PyProof.Rows
def W_lquotsE (C : Addr) (ds : List D) (P : D → Prop) : Prop := ∃ vs : List Int, (ds = [.lst (vs.map fun v => D.int v)] ∨ ds = [.tup (vs.map fun v => D.int v)]) ∧ vs.length ≤ 100 ∧ P (.tup (vs.map fun v => dQ C (Rat.divInt v 12)))
def W_lfixS (ds : List D) (P : D → Prop) : Prop := ds = [] ∧ P (.bl true)
abbrev fixB : List I3 := [⟨1, 0, 0⟩, ⟨1, 1, 1⟩, ⟨1, 2, 4⟩, ⟨1, 3, 9⟩]
section
variable {K : PySem.W.Frag} {ρ : Rho} {O : Store} {P : D → Store → Prop}
end
def rowD12 (C : Addr) (r : List Int) : D := .tup [.raw (.str (Str.ofString "surface")), .tup ((r.map fun v => Rat.divInt v 12).map (dQ C))]
def fixJ (C : Addr) (r : List Int) : Bool := jsF (gens fixB [1, 1, 1, 1]) (vecI 12 ⟨24, 36, 84⟩) (rowD12 C r)
/-- the list of papers: its first two are known -/
def papL (C : Addr) (d0 d1 : D) (n : Nat) (ds : List D) : Prop := ds.length ≤ n ∧ (∀ d ∈ ds, Thp C d) ∧ ds[0]? = some d0 ∧ ds[1]? = some d1
end G
/-! Not in a tuple of texts; the judge of the brightest, whole. -/
namespace G
open PySem L2 PySem.Spec PyProof.Rows
section
variable {X : Cx} {k : Nat} {f : Addr} {fd : FuncData} {ps : List Str} {C : Addr}
/-- x not in a tuple of texts -/
def rNinS (K : PySem.W.Frag) (C : Addr) : R2 := fun x y H Q => ∃ p ys, y = .ref p ∧ SqT K H p ys ∧ (∀ v ∈ ys, ∃ t, v = .str t) ∧
  ((flatV x = true ∧ Q (.bl (!inV x ys)) H) ∨ (∃ a xs, x = .ref a ∧ SqT K H a xs ∧ Q (.bl true) H) ∨ (∃ a q, x = .ref a ∧ Rep K H (.ref a) (dQ C q) ∧ bits q 600 ∧ ∀ H', Ext H H' → Q (.bl true) H'))
end
section
variable {K : PySem.W.Frag} {C : Addr} {O : Store} {P : D → Store → Prop}
end
/-! words -/
def passF (k : D) : Bool := wordF k [Str.ofString "pass"]
def patOfF (n : Nat) (qs : List Rat) (i j k : D) : Bool := pairF n i j && (wordF k past && lpatF qs (natOf i) (natOf j) (passF k))
def towF (gs : List I3) (v : V3) (p : Nat × Nat) (lo : Bool) : Bool := !decide (detV (vI (gI gs p.1)) (vI (gI gs p.2)) v = 0) && decide (decide (detV (vI (gI gs p.1)) (vI (gI gs p.2)) v < 0) = lo)
def brF (gs : List I3) (v : V3) (f r i j k : D) : Bool := match qOf f with
  | none => false
  | some q => decide (0 < q) && (reflOfF gs (mulV q v) r && (patOfF gs.length (qsOf r) i j k && towF gs v (natOf i, natOf j) (passF k)))
def dkF (gs : List I3) (v : V3) (i j k : D) : Bool := pairF gs.length i j && (wordF k lohi && (decide (bndI gs (natOf i) (natOf j) (lowF k) = 0) && towF gs v (natOf i, natOf j) (lowF k)))
def jbF (gs : List I3) (v : V3) (d : D) : Bool := (formF d (Str.ofString "bright") 6 && brF gs v (itemD d 1) (itemD d 2) (itemD d 3) (itemD d 4) (itemD d 5)) || (formF d (Str.ofString "dark") 4 && dkF gs v (itemD d 1) (itemD d 2) (itemD d 3))
def W_isPat (C : Addr) (ds : List D) (P : D → Prop) : Prop := ∃ (qs : List Rat) (i j : Nat) (lo : Bool), ds = [.tup (qs.map (dQ C)), pD (i, j), kindD lo] ∧ qs.length ≤ 7 ∧ i < j ∧ j < qs.length ∧ (∀ q ∈ qs, bits q 600) ∧ P (.bl (lpatF qs i j lo))
def W_patOf (CV CO C : Addr) (ds : List D) (P : D → Prop) : Prop := ∃ (bs : List I3) (ls : List Int) (qs : List Rat) (i j k : D), ds = [dView CV CO C bs ls, .tup (qs.map (dQ C)), .tup [i, j, k]] ∧ okBands bs ∧ okLamp5 bs ls ∧ qs.length = bs.length ∧ (∀ q ∈ qs, bits q 600) ∧ Thg C i ∧ Thg C j ∧ Thg C k ∧ P (.bl (patOfF bs.length qs i j k))
def W_tow (CV CO C : Addr) (ds : List D) (P : D → Prop) : Prop := ∃ (bs : List I3) (ls : List Int) (v : V3) (m : Nat) (p : Nat × Nat) (lo : Bool), ds = [dView CV CO C bs ls, dV C v, pD p, sideD lo] ∧ okBands bs ∧ okLamp5 bs ls ∧ bitsV v m ∧ m ≤ 50 ∧ p.1 < bs.length ∧ p.2 < bs.length ∧ P (.bl (towF (gens bs ls) v p lo))
def W_jbF (CV CO C : Addr) (ds : List D) (P : D → Prop) : Prop := ∃ (bs : List I3) (ls : List Int) (v : V3) (d : D), ds = [dView CV CO C bs ls, dV C v, d] ∧ okBands bs ∧ okLamp5 bs ls ∧ bitsV v 20 ∧ Thg C d ∧ P (.bl (jbF (gens bs ls) v d))
def explB (C : Addr) (gs : List I3) (c : I3) (l : Lim) : D := if l.1 = 0 then .tup [.raw (.str (Str.ofString "dark")), .int (l.2.1.1 : Int), .int (l.2.1.2 : Int), sideD l.2.2] else .tup [.raw (.str (Str.ofString "bright")), dQ C l.1, .tup ((patV gs c l).map (dQ C)), .int (l.2.1.1 : Int), .int (l.2.1.2 : Int), kindD l.2.2]
def W_explB (CV CO C : Addr) (ds : List D) (P : D → Prop) : Prop := ∃ (bs : List I3) (ls : List Int) (c : I3), ds = [dView CV CO C bs ls, dV C (vecI 12 c)] ∧ okBands bs ∧ okLamp5 bs ls ∧ regular bs ∧ bI c 20 ∧ c ≠ ⟨0, 0, 0⟩ ∧ ∀ l, limF (gens bs ls) c = some l → P (explB C (gens bs ls) c l)
def W_lbri (C : Addr) (ds : List D) (P : D → Prop) : Prop := ∃ (gs : List I3) (c : I3) (a f r i j k : D), ds = [dG gs, lRow c, .tup [a, f, r, i, j, k]] ∧ smallG gs ∧ regular gs ∧ 1 ≤ gs.length ∧ bI c 20 ∧ Thp C (.tup [a, f, r, i, j, k]) ∧ P (.bl (brF gs (vecI 12 c) f r i j k))
def W_ljudB (C : Addr) (ds : List D) (P : D → Prop) : Prop := ∃ (gs : List I3) (c : I3) (d : D), ds = [dG gs, lRow c, d] ∧ smallG gs ∧ regular gs ∧ 1 ≤ gs.length ∧ bI c 20 ∧ c ≠ ⟨0, 0, 0⟩ ∧ Thp C d ∧ P (.bl (jbF gs (vecI 12 c) d))
end G
namespace G
open PySem L2 PySem.Spec PyProof.Rows
end G
namespace G
open PySem L2 PySem.Spec PyProof.Rows
end G
namespace G
open PySem L2 PySem.Spec PyProof.Rows
theorem r_neB {K : PySem.W.Frag} {O : Store} {P : D → Store → Prop} {a b : Bool} (p : P (.bl (!decide (a = b))) O) : wR K rNe (.bl a) (.bl b) O P := r_ne rfl (by
  have e : decide (V.bl a = V.bl b) = decide (a = b) := by cases a <;> cases b <;> rfl
  rw [e]; exact p)
end G
namespace G
open PySem L2 PySem.Spec PyProof.Rows
abbrev fixQ : List Rat := [Rat.divInt 1 1, Rat.divInt 1 1, Rat.divInt 0 1, Rat.divInt 0 1]
def fixP (C : Addr) (j : Nat) : D := .tup [.raw (.str (Str.ofString "bright")), dQ C (Rat.divInt 1 1), .tup (fixQ.map (dQ C)), .int ((0 : Nat) : Int), .int (j : Int), kindD true]
end G
/-! A paper of the brightest tells the factor: it is one only. -/
namespace G
open PySem L2 PySem.Spec PyProof.Rows
end G
namespace G
open PySem L2 PySem.Spec PyProof.Rows
end G
/-! The maker's paper of the brightest is taken; what lies within, by whole numbers. -/
namespace G
open PySem L2 PySem.Spec PyProof.Rows
/-! within, by whole numbers -/
def insideF (gs : List I3) (c : I3) (top bot : Int) : Bool := (pairsL gs.length).all fun p => decide (12 * bot * bndI gs p.1 p.2 true ≤ placeF gs c p * top) && decide (placeF gs c p * top ≤ 12 * bot * bndI gs p.1 p.2 false)
def W_insideC (ds : List D) (P : D → Prop) : Prop := ∃ (gs : List I3) (c : I3) (top bot : Int), ds = [dG gs, lRow c, .int top, .int bot] ∧ smallG gs ∧ bI c 20 ∧ top.natAbs < 2 ^ 60 ∧ bot.natAbs < 2 ^ 60 ∧ P (.bl (insideF gs c top bot))
def W_ldetW (ds : List D) (P : D → Prop) : Prop := ∃ (a b c : I3) (l : Bool), ds = [tRow a, tRow b, rowD l c] ∧ bI a 20 ∧ bI b 20 ∧ bI c 80 ∧ P (.int (detI a b c))
end G
namespace G
open PySem L2 PySem.Spec PyProof.Rows
end G
namespace G
open PySem L2 PySem.Spec PyProof.Rows
def inP (gs : List I3) (c : I3) (top bot : Int) (p : Nat × Nat) : Bool := decide (12 * bot * bndI gs p.1 p.2 true ≤ placeF gs c p * top) && decide (placeF gs c p * top ≤ 12 * bot * bndI gs p.1 p.2 false)
end G
namespace G
open PySem L2 PySem.Spec PyProof.Rows
def W_lown (CV CO C : Addr) (ds : List D) (P : D → Prop) : Prop := ∃ (bs : List I3) (ls vs : List Int), ds = [dView CV CO C bs ls, dG (gens bs ls), dL vs] ∧ okBands bs ∧ okLamp5 bs ls ∧ regular bs ∧ vs.length = bs.length ∧ ok12 vs ∧ P (.bl true)
end G
namespace G
open PySem L2 PySem.Spec PyProof.Rows
def owP (C : Addr) (vs : List Int) (i j : Nat) (b : Bool) : D := .tup [.raw (.str (Str.ofString "bright")), dQ C (Rat.divInt 1 1), .tup (vs.map fun v => dQ C (Rat.divInt v 12)), .int (i : Int), .int (j : Int), kindD b]
end G
namespace G
open PySem L2 PySem.Spec PyProof.Rows
/-- a list of papers whose first is known -/
def papK (C : Addr) (d0 : D) (n : Nat) (ds : List D) : Prop := ds.length ≤ n ∧ (∀ d ∈ ds, Thp C d) ∧ ds[0]? = some d0
def foundD (C : Addr) (gs : List I3) (c : I3) (l : Lim) : D := .tup [dQ C l.1, .tup ((patV gs c l).map (dQ C)), dV C (mulV l.1 (vecI 12 c))]
end G
/-! Ranges: the solid of some bands, the ends of a band's range, the least reflectance. -/
namespace G
open PySem L2 PySem.Spec PyProof.Rows
/-! the solid of a list of bands -/
def satH (hs : List I3) (v : V3) : Prop := ∀ i j, i < j → j < hs.length → ((bndI hs i j true : Int) : Rat) ≤ detV (vI (gI hs i)) (vI (gI hs j)) v ∧ detV (vI (gI hs i)) (vI (gI hs j)) v ≤ ((bndI hs i j false : Int) : Rat)
/-! some bands of a list, in their order -/
def ascK (ks : List Nat) (n : Nat) : Prop := ks.Pairwise (· < ·) ∧ ∀ k ∈ ks, k < n
abbrev selG (gs : List I3) (ks : List Nat) : List I3 := ks.map (gI gs)
def placeV (gs : List I3) (v : V3) (p : Nat × Nat) : Rat := detV (vI (gI gs p.1)) (vI (gI gs p.2)) v
def satK (gs : List I3) (ks : List Nat) (v : V3) : Prop := ∀ p ∈ pairsK ks, ((bndK gs ks p.1 p.2 true : Int) : Rat) ≤ placeV gs v p ∧ placeV gs v p ≤ ((bndK gs ks p.1 p.2 false : Int) : Rat)
/-! an end of a range -/
def sideE (s : Int) (e : Bool) : Bool := !decide (decide (0 < s) = e)
def slopeE (gs : List I3) (b : Nat) (p : Nat × Nat) : Int := detI (gI gs p.1) (gI gs p.2) (gI gs b)
def stopE (gs : List I3) (ks : List Nat) (v : V3) (b : Nat) (e : Bool) (p : Nat × Nat) : Rat := (placeV gs v p - ((bndK gs ks p.1 p.2 (sideE (slopeE gs b p) e) : Int) : Rat)) / ((slopeE gs b p : Int) : Rat)
def cfE (e : Bool) (t q : Rat) : Bool := if e then decide (t < q) else decide (q < t)
def utmE (e : Bool) : Rat := if e then 0 else 1
abbrev End := Rat × Option ((Nat × Nat) × Bool)
def endStep (gs : List I3) (ks : List Nat) (v : V3) (b : Nat) (e : Bool) (a : End) (p : Nat × Nat) : End := if cfE e a.1 (stopE gs ks v b e p) then (stopE gs ks v b e p, some (p, sideE (slopeE gs b p) e)) else a
def endF (gs : List I3) (ks : List Nat) (v : V3) (b : Nat) (e : Bool) : End := (pairsK ks).foldl (endStep gs ks v b e) (utmE e, none)
end G
/-! Ranges: what the ends are. -/
namespace G
open PySem L2 PySem.Spec PyProof.Rows
def leE (e : Bool) (a b : Rat) : Prop := if e then a ≤ b else b ≤ a
/-- what the search keeps -/
def endI (gs : List I3) (ks : List Nat) (v : V3) (b : Nat) (e : Bool) (seen : List (Nat × Nat)) (a : End) : Prop :=
  leE e (utmE e) a.1 ∧ (∀ p ∈ seen, leE e (stopE gs ks v b e p) a.1) ∧
  match a.2 with
  | none => a.1 = utmE e
  | some o => o.1 ∈ seen ∧ a.1 = stopE gs ks v b e o.1 ∧ o.2 = sideE (slopeE gs b o.1) e ∧ ¬ leE e a.1 (utmE e)
section
variable {gs : List I3} {ks : List Nat} {v : V3} {b : Nat} {e : Bool} {x0 : Rat}
end
/-! a band taken out -/
end G
/-! Ranges: the first reflectance; bits; words. -/
namespace G
open PySem L2 PySem.Spec PyProof.Rows
/-- a color over one bottom, within bits -/
def rstB (v : V3) (m : Nat) : Prop := ∃ (N : Int) (r : I3), v = vecI N r ∧ N ≠ 0 ∧ N.natAbs < 2 ^ m ∧ bI r m
/-! the first reflectance -/
def threeV (gs : List I3) (ks : List Nat) (v : V3) : V3 := crV (vI (gI gs (ks.getD 0 0))) (vI (gI gs (ks.getD 1 0))) (vI (gI gs (ks.getD 2 0))) v
def leastV (gs : List I3) : List Nat → V3 → List Rat
  | [], _ => []
  | b :: ks, v => if 3 ≤ ks.length then (endF gs ks v b true).1 :: leastV gs ks (subV v (mulV (endF gs ks v b true).1 (vI (gI gs b)))) else [(threeV gs (b :: ks) v).x, (threeV gs (b :: ks) v).y, (threeV gs (b :: ks) v).z]
end G
/-! Ranges: words of the defs. -/
namespace G
open PySem L2 PySem.Spec PyProof.Rows
abbrev endW (e : Bool) : D := .raw (.str (if e then Str.ofString "least" else Str.ofString "greatest"))
def reasonD : Option ((Nat × Nat) × Bool) → D
  | none => .tup [.raw (.str (Str.ofString "bound"))]
  | some o => .tup [.int (o.1.1 : Int), .int (o.1.2 : Int), sideD o.2]
def encE (C : Addr) (a : End) : D := .tup [dQ C a.1, reasonD a.2]
def outB (ks : List Nat) (b : Nat) : List Nat := ks.filter fun k => decide (k ≠ b)
def W_without (ds : List D) (P : D → Prop) : Prop := ∃ (ks : List Nat) (b : Nat), ds = [dN ks, .int (b : Int)] ∧ ks.length ≤ 7 ∧ P (dN (outB ks b))
def W_utmost (C : Addr) (ds : List D) (P : D → Prop) : Prop := ∃ e : Bool, ds = [endW e] ∧ P (dQ C (utmE e))
def W_stopSide (C : Addr) (ds : List D) (P : D → Prop) : Prop := ∃ (s : Int) (e : Bool), ds = [dQ C ((s : Int) : Rat), endW e] ∧ s.natAbs < 2 ^ 60 ∧ P (sideD (sideE s e))
def W_cf (C : Addr) (ds : List D) (P : D → Prop) : Prop := ∃ (x y : Rat) (m n : Nat) (e : Bool), ds = [dQ C x, dQ C y, endW e] ∧ bits x m ∧ bits y n ∧ m + n ≤ 8900 ∧ P (.bl (cfE e y x))
def W_endA (C : Addr) (ds : List D) (P : D → Prop) : Prop := ∃ (gs : List I3) (ks : List Nat) (v : V3) (m b : Nat) (e : Bool), ds = [vD C gs, dN ks, dV C v, .int (b : Int), endW e] ∧ smallG gs ∧ regular gs ∧ ascK ks gs.length ∧ b < gs.length ∧ rstB v m ∧ m ≤ 200 ∧ P (encE C (endF gs (outB ks b) v b e))
def W_leastV (C : Addr) (ds : List D) (P : D → Prop) : Prop := ∃ (gs : List I3) (ks : List Nat) (v : V3) (m : Nat), ds = [vD C gs, dN ks, dV C v] ∧ smallG gs ∧ regular gs ∧ ascK ks gs.length ∧ 3 ≤ ks.length ∧ rstB v m ∧ m ≤ 20 ∧ P (.lst ((leastV gs ks v).map (dQ C)))
def leastR (C : Addr) (gs : List I3) (v : V3) : D := if testF gs v = none then .tup ((leastV gs (List.range gs.length) v).map (dQ C)) else .non
def W_leastR (CV CO C : Addr) (ds : List D) (P : D → Prop) : Prop := ∃ (bs : List I3) (ls : List Int) (c : I3), ds = [dView CV CO C bs ls, dV C (vecI 12 c)] ∧ okBands bs ∧ okLamp5 bs ls ∧ regular bs ∧ bI c 20 ∧ P (leastR C (gens bs ls) (vecI 12 c))
def rangeR (C : Addr) (gs : List I3) (v : V3) (b : Nat) : D := if testF gs v = none then .tup [dQ C (endF gs (outB (List.range gs.length) b) v b true).1, dQ C (endF gs (outB (List.range gs.length) b) v b false).1] else .non
def W_brange (CV CO C : Addr) (ds : List D) (P : D → Prop) : Prop := ∃ (bs : List I3) (ls : List Int) (v : V3) (m b : Nat), ds = [dView CV CO C bs ls, dV C v, .int (b : Int)] ∧ okBands bs ∧ okLamp5 bs ls ∧ regular bs ∧ rstB v m ∧ m ≤ 200 ∧ b < bs.length ∧ P (rangeR C (gens bs ls) v b)
end G
/-! Ranges: the law's words of k50. -/
namespace G
open PySem L2 PySem.Spec PyProof.Rows
/-! the test and the solid -/
/-! the law's own look at the others -/
def lessI (c : I3) (g : I3) (top bot : Int) : I3 := ⟨c.x * bot - 12 * top * g.x, c.y * bot - 12 * top * g.y, c.z * bot - 12 * top * g.z⟩
def fitP (hs : List I3) (r : I3) (N : Int) (p : Nat × Nat) : Bool := !(decide (placeF hs r p < N * bndI hs p.1 p.2 true)) && !(decide (N * bndI hs p.1 p.2 false < placeF hs r p))
def fitsR (hs : List I3) (r : I3) (N : Int) : Bool := (pairsL hs.length).all (fitP hs r N)
def W_lfits (ds : List D) (P : D → Prop) : Prop := ∃ (gs : List I3) (c : I3) (b : Nat) (top bot : Int), ds = [dG gs, lRow c, .int (b : Int), .int top, .int bot] ∧ smallG gs ∧ bI c 20 ∧ b < gs.length ∧ top.natAbs < 2 ^ 48 ∧ bot.natAbs < 2 ^ 48 ∧ P (.bl (fitsR (gs.eraseIdx b) (lessI c (gI gs b) top bot) (12 * bot)))
/-! what the law asks of an end -/
structure isEnd (gs : List I3) (v : V3) (b : Nat) (e : Bool) (E : Rat) : Prop where
  h01 : 0 ≤ E ∧ E ≤ 1
  sat : satH (gs.eraseIdx b) (subV v (mulV E (vI (gI gs b))))
  out : E ≠ utmE e → ∀ y, satH (gs.eraseIdx b) (subV v (mulV y (vI (gI gs b)))) → leE e E y
def W_lend (C : Addr) (ds : List D) (P : D → Prop) : Prop := ∃ (gs : List I3) (c : I3) (b : Nat) (E : Rat) (e : Bool), ds = [dG gs, lRow c, .int (b : Int), dQ C E, .bl e] ∧ smallG gs ∧ bI c 20 ∧ b < gs.length ∧ E.den < 2 ^ 34 ∧ isEnd gs (vecI 12 c) b e E ∧ P (.bl true)
end G
/-! The first reflectance in a view (k47, k51). -/
namespace G
open PySem L2 PySem.Spec PyProof.Rows
theorem thp_row {C : Addr} {qs : List Rat} {m : Nat} (hl : qs.length ≤ 20) (hq : ∀ q ∈ qs, bits q m) (hm : m ≤ 600) : Thp C (.tup (qs.map (dQ C))) := by
  refine .tup _ (fun x hx => ?_) (by rw [List.length_map]; exact hl)
  obtain ⟨q, hq', rfl⟩ := List.mem_map.mp hx
  exact .quo _ (bits_mono (hq q hq') hm)
end G
/-! The first reflectance, band by band (k51). -/
namespace G
open PySem L2 PySem.Spec PyProof.Rows
/-- what is left of a color after the first bands -/
def restT (gs : List I3) (ks : List Nat) (v : V3) (t : Nat) : V3 := subV v (colV (selG gs (ks.take t)) ((leastV gs ks v).take t))
/-! the view of the last bands -/
/-! the law's rest -/
def W_lrest (C : Addr) (ds : List D) (P : D → Prop) : Prop := ∃ (gs : List I3) (qs : List Rat) (c : I3) (k : Nat), ds = [dG gs, .tup (qs.map (dQ C)), lRow c, .int (k : Int)] ∧ smallG gs ∧ qs.length = gs.length ∧ (∀ q ∈ qs, bits q 225 ∧ 0 ≤ q ∧ q ≤ 1) ∧ bI c 20 ∧ k ≤ gs.length ∧ P (dV C (subV (vecI 12 c) (colV (gs.take k) (qs.take k))))
end G
/-! zip of three, each of them a tuple or a list. -/
namespace G
open PySem L2 PySem.Spec PyProof.Rows
def SqK (t : Bool) (K : PySem.W.Frag) (H : Hp) (a : Addr) (xs : List V) : Prop := match t with
  | true => SqT K H a xs
  | false => SqL K H a xs
def ItrK (t : Bool) (h : Heap) (it a : Addr) (i : Nat) : Prop := match t with
  | true => h.IsTupleIter it a i
  | false => h.IsListIter it a i
def KpK (t : Bool) (h : Heap) (a : Addr) (arr : Array Value) : Prop := match t with
  | true => h.IsTuple a arr
  | false => h.IsList a arr
theorem drK {prog : Program} {w : World} {A : Around} (t : Bool) (hA : A.handled = none) (it l : Addr) (hne : l ≠ it) (arr : Array Value) : Draws prog w A it [it, l] arr.size (fun i v => arr[i]? = some v) (fun i h => ItrK t h it l i ∧ KpK t h l arr) := by
  cases t
  · exact Draws.list hA it l hne arr
  · exact Draws.tuple hA it l hne arr
def itO (t : Bool) (a : Addr) : Obj := match t with
  | true => { cls := Value.type "tuple_iterator", data := Data.fields #[Value.ref a, Value.int 0 0] }
  | false => { cls := Value.type "list_iterator", data := Data.fields #[Value.ref a, Value.int 0 0] }
theorem bgK (t : Bool) (a : Addr) (arr : Array Value) : Begins (Value.ref a) (itO t a) fun h => KpK t h a arr := by
  cases t
  · exact begins_list a arr
  · exact begins_tuple a arr
theorem itrK_0 {t : Bool} {h : Heap} {it a : Addr} (e : h.get? it = some (itO t a)) : ItrK t h it a 0 := by
  cases t
  · exact ⟨_, e, rfl, rfl⟩
  · exact ⟨_, e, rfl, rfl⟩
theorem itrK_keep {t : Bool} {h h' : Heap} {it a : Addr} {i : Nat} (e : ItrK t h it a i) (k : ∀ o, h.get? it = some o → h'.get? it = some o) : ItrK t h' it a i := by
  cases t
  · obtain ⟨o, h1, h2⟩ := e
    exact ⟨o, k o h1, h2⟩
  · obtain ⟨o, h1, h2⟩ := e
    exact ⟨o, k o h1, h2⟩
theorem itrK_obj {t : Bool} {h : Heap} {it a : Addr} {i : Nat} (e : ItrK t h it a i) : ∃ o, h.get? it = some o ∧ ∀ v : Option Value, o.data ≠ Data.cell v := by
  cases t
  · obtain ⟨o, h1, _, h2⟩ := e
    exact ⟨o, h1, fun v => by rw [h2]; exact fun z => nomatch z⟩
  · obtain ⟨o, h1, _, h2⟩ := e
    exact ⟨o, h1, fun v => by rw [h2]; exact fun z => nomatch z⟩
theorem kpK_lt {t : Bool} {h : Heap} {a : Addr} {arr : Array Value} (e : KpK t h a arr) : a < h.objs.size := by
  cases t
  · obtain ⟨o, h1, _⟩ := e
    exact Heap.lt_size h1
  · obtain ⟨o, h1, _⟩ := e
    exact Heap.lt_size h1
theorem invK {t : Bool} {X : Cx} {pins : List (Addr × Obj)} {σ : L2.St} {H : Hp} {s : Shared} {a : Addr} {xs : List V} (I : L2.Inv X pins σ H s) (h : SqK t X.K H a xs) : ∃ its, Vals xs its ∧ KpK t s.heap a its.toArray := by
  cases t
  · obtain ⟨its, h1, h2, _⟩ := I.list h
    exact ⟨its, h1, h2.isList⟩
  · obtain ⟨its, h1, h2, _⟩ := I.tuple h
    exact ⟨its, h1, h2⟩
def It3 (K : PySem.W.Frag) (t1 t2 t3 : Bool) (a b c : Addr) (xs ys zs : List V) : It :=
  { go := fun i H => SqK t1 K H a xs ∧ SqK t2 K H b ys ∧ SqK t3 K H c zs ∧ i < xs.length ∧ i < ys.length ∧ i < zs.length,
    yld := fun i H v H' => ∃ T x y z, v = V.ref T ∧ H T = none ∧ H' = upd H T (HO.tup [x, y, z]) ∧ xs[i]? = some x ∧ ys[i]? = some y ∧ zs[i]? = some z,
    stop := fun i H => SqK t1 K H a xs ∧ SqK t2 K H b ys ∧ SqK t3 K H c zs ∧ (xs.length ≤ i ∨ ys.length ≤ i ∨ zs.length ≤ i) }
theorem at_of {xs : List V} {its : List Value} {i : Nat} {u : Value} (hv : Vals xs its) (hi : i < xs.length) (hu : its.toArray[i]? = some u) : ∃ x, xs[i]? = some x ∧ L2.RelV x u := by
  have hx := List.getElem?_eq_getElem hi
  obtain ⟨u', h1, h2⟩ := Vals.get hv hx
  have : its[i]? = some u := by simpa using hu
  rw [h1] at this
  cases this
  exact ⟨_, hx, h2⟩
theorem turn_zip3 {P : Program} {w : World} {K : PySem.W.Frag} {elts : List Expr} {kk : Nat} {tpos : Pos} {t1 t2 t3 : Bool} {a b c z TI TO i1 i2 i3 : Addr} {xs ys zs : List V}
    (sep : ZipSep3 z TI TO i1 i2 i3 [i1, a] [i2, b] [i3, c]) (n1 : a ≠ i1) (n2 : b ≠ i2) (n3 : c ≠ i3) :
    Turn P w K (Expr.Tuple elts kk tpos) (It3 K t1 t2 t3 a b c xs ys zs) [z, TI, TO, i1, i2, i3] z fun i h =>
      IsZip h z TI TO Value.none ∧ IsTupOf3 h TI (Value.ref i1) (Value.ref i2) (Value.ref i3) ∧ (∃ p q r, IsTupOf3 h TO p q r) ∧ ItrK t1 h i1 a i ∧ ItrK t2 h i2 b i ∧ ItrK t3 h i3 c i ∧ i ≤ xs.length ∧ i ≤ ys.length ∧ i ≤ zs.length where
  mem := List.mem_cons_self
  obj := by
    rintro i h ⟨hz, hTI, ⟨p, q, r, hTO⟩, h1, h2, h3, _⟩ x hx
    simp only [List.mem_cons, List.not_mem_nil, or_false] at hx
    rcases hx with rfl | rfl | rfl | rfl | rfl | rfl
    · exact ⟨_, hz, fun v e => nomatch e⟩
    · exact ⟨_, hTI, fun v e => nomatch e⟩
    · exact ⟨_, hTO, fun v e => nomatch e⟩
    · exact itrK_obj h1
    · exact itrK_obj h2
    · exact itrK_obj h3
  keep := by
    rintro i h h' ⟨hz, hTI, ⟨p, q, r, hTO⟩, h1, h2, h3, l⟩ k
    exact ⟨k z (by simp) _ hz, k TI (by simp) _ hTI, ⟨p, q, r, k TO (by simp) _ hTO⟩, itrK_keep h1 (k i1 (by simp)), itrK_keep h2 (k i2 (by simp)), itrK_keep h3 (k i3 (by simp)), l⟩
  item := by
    rintro X rfl rfl rfl calm i pins s σ H E I fpok ⟨hz, hTI, ⟨p, q, r, hTO⟩, h1, h2, h3, l1, l2, l3⟩ ⟨s1, s2, s3, g1, g2, g3⟩
    have hA := I.ok.hd calm
    obtain ⟨u1, v1, k1⟩ := invK I s1
    obtain ⟨u2, v2, k2⟩ := invK I s2
    obtain ⟨u3, v3, k3⟩ := invK I s3
    have e1 := Vals.length v1
    have e2 := Vals.length v2
    have e3 := Vals.length v3
    obtain ⟨o1, g1', _⟩ := itrK_obj h1
    obtain ⟨o2, g2', _⟩ := itrK_obj h2
    obtain ⟨o3, g3', _⟩ := itrK_obj h3
    have b0 := Heap.lt_size hz
    have b1 := Heap.lt_size hTI
    have b2 := Heap.lt_size hTO
    have b3 := Heap.lt_size g1'
    have b4 := Heap.lt_size g2'
    have b5 := Heap.lt_size g3'
    refine wpAny_pyNext_zipD3_item sep (drK t1 (A := X.A.in1) hA i1 a n1 u1.toArray) (drK t2 (A := X.A.in1) hA i2 b n2 u2.toArray) (drK t3 (A := X.A.in1) hA i3 c n3 u3.toArray) hz hTI hTO ⟨h1, k1⟩ ⟨h2, k2⟩ ⟨h3, k3⟩ (by simp; omega) (by simp; omega) (by simp; omega) ?_
    intro x1 x2 x3 h' tk p1 p2 p3 hz' hTO' st1 st2 st3 hT hsize frame
    refine ⟨_, rfl, wpAny_letOwnedTupleGo_zip hz' ?_⟩
    intro h'' hz'' same
    obtain ⟨x, hx, rx⟩ := at_of v1 g1 p1
    obtain ⟨y, hy, ry⟩ := at_of v2 g2 p2
    obtain ⟨w', hw, rw'⟩ := at_of v3 g3 p3
    have kz : ∀ d, d ≠ z → ∀ o, h'.get? d = some o → h''.get? d = some o := fun d hd o ho => by rw [same.2 d hd]; exact ho
    have hT'' : h''.get? s.heap.objs.size = some { cls := Value.type "tuple", data := Data.seq #[x1, x2, x3] } := kz _ (Nat.ne_of_gt b0) _ hT
    have fr : ∀ (d : Addr) (o : Obj), ¬d ∈ [z, TI, TO, i1, i2, i3] → s.heap.get? d = some o → h''.get? d = some o := fun d o hd ho => by
      simp only [List.mem_cons, List.not_mem_nil, or_false, not_or] at hd
      exact kz d hd.1 o (frame d o hd.1 hd.2.2.1 hd.2.2.2.1 hd.2.2.2.2.1 hd.2.2.2.2.2 ho)
    have hno : ∀ d ∈ [z, TI, TO, i1, i2, i3], d ≠ s.heap.objs.size := fun d hd => by
      simp only [List.mem_cons, List.not_mem_nil, or_false] at hd
      rcases hd with rfl | rfl | rfl | rfl | rfl | rfl
      · exact Nat.ne_of_lt b0
      · exact Nat.ne_of_lt b1
      · exact Nat.ne_of_lt b2
      · exact Nat.ne_of_lt b3
      · exact Nat.ne_of_lt b4
      · exact Nat.ne_of_lt b5
    refine ⟨V.ref s.heap.objs.size, upd H s.heap.objs.size (HO.tup [x, y, w']), ?_, rfl, ⟨_, x, y, w', rfl, I.hok.fresh (Nat.le_refl _), rfl, hx, hy, hw⟩, ⟨hz'', ?_, ⟨_, _, _, kz TO sep.TOz _ hTO'⟩, itrK_keep st1.1 (kz i1 ?_), itrK_keep st2.1 (kz i2 ?_), itrK_keep st3.1 (kz i3 ?_), by omega, by omega, by omega⟩, fun d hd => ?_⟩
    · refine Inv.turnedNew (s := s) I fr fpok (Nat.le_refl _) ?_
      exact ⟨Nat.le_of_ble_eq_true rfl, [x1, x2, x3], .cons rx (.cons ry (.cons rw' .nil)), _, hT'', rfl, _, rfl⟩
    · refine kz TI sep.TIz _ (frame TI _ sep.TIz sep.TITO sep.TIi1 sep.TIi2 sep.TIi3 hTI)
    · exact fun e => sep.zf1 (e ▸ List.mem_cons_self)
    · exact fun e => sep.zf2 (e ▸ List.mem_cons_self)
    · exact fun e => sep.zf3 (e ▸ List.mem_cons_self)
    · rw [upd_ne (hno d hd)]
      exact (fpok d hd).1
  done := by
    rintro X rfl rfl rfl calm i pins s σ H E I fpok ⟨hz, hTI, ⟨p, q, r, hTO⟩, h1, h2, h3, l1, l2, l3⟩ ⟨s1, s2, s3, hend⟩
    have hA := I.ok.hd calm
    obtain ⟨u1, v1, k1⟩ := invK I s1
    obtain ⟨u2, v2, k2⟩ := invK I s2
    obtain ⟨u3, v3, k3⟩ := invK I s3
    have e1 := Vals.length v1
    have e2 := Vals.length v2
    have e3 := Vals.length v3
    refine wpAny_pyNext_zipD3_end sep (drK t1 (A := X.A.in1) hA i1 a n1 u1.toArray) (drK t2 (A := X.A.in1) hA i2 b n2 u2.toArray) (drK t3 (A := X.A.in1) hA i3 c n3 u3.toArray) hz hTI hTO ⟨h1, k1⟩ ⟨h2, k2⟩ ⟨h3, k3⟩ (by simp; omega) (by simp; omega) (by simp; omega) (by simp; omega) ?_
    intro h' tk frame
    refine ⟨rfl, Inv.turnedL (s := s) I (ch := [z, TI, TO, i1, i2, i3]) (fun d o hd ho => ?_) fpok⟩
    simp only [List.mem_cons, List.not_mem_nil, or_false, not_or] at hd
    exact frame d o hd.1 hd.2.2.1 hd.2.2.2.1 hd.2.2.2.2.1 hd.2.2.2.2.2 ho
  self := by
    rintro A i s Q E ⟨hz, _⟩ q
    exact wpAny_pyIter_zip hz q
theorem sep3_of (I a b c : Nat) (h1 : a < I) (h2 : b < I) (h3 : c < I) : ZipSep3 (I + 5) (I + 3) (I + 4) I (I + 1) (I + 2) [I, a] [I + 1, b] [I + 2, c] ∧ a ≠ I ∧ b ≠ I + 1 ∧ c ≠ I + 2 := by
  refine ⟨?_, by omega, by omega, by omega⟩
  constructor <;> first
    | exact List.mem_cons_self
    | (intro h; have h' : @Eq Nat _ _ := h; omega)
    | exact fun h => (List.mem_cons.mp h).elim (fun h => by have h' : @Eq Nat _ _ := h; omega) (fun h => by have h' : @Eq Nat _ _ := List.mem_singleton.mp h; omega)
/-- the reading -/
def iZip3 (K : PySem.W.Frag) (ta : TA) : TI := fun σ H R => ta σ H fun vs H1 => ∃ (t1 t2 t3 : Bool) (a b c : Addr) (xs ys zs : List V), vs = [V.ref a, V.ref b, V.ref c] ∧ SqK t1 K H1 a xs ∧ SqK t2 K H1 b ys ∧ SqK t3 K H1 c zs ∧ R (It3 K t1 t2 t3 a b c xs ys zs) H1
def zipD3 : List D → List D → List D → List D
  | x :: xs, y :: ys, z :: zs => .tup [x, y, z] :: zipD3 xs ys zs
  | _, _, _ => []
theorem zipD3_len : ∀ (xs ys zs : List D), (zipD3 xs ys zs).length = min xs.length (min ys.length zs.length)
  | [], _, _ => by simp [zipD3]
  | _ :: _, [], _ => by simp [zipD3]
  | _ :: _, _ :: _, [] => by simp [zipD3]
  | x :: xs, y :: ys, z :: zs => by
    show (zipD3 xs ys zs).length + 1 = _
    rw [zipD3_len xs ys zs, List.length_cons, List.length_cons, List.length_cons]
    omega
theorem zipD3_get : ∀ {xs ys zs : List D} {i : Nat} {d : D}, (zipD3 xs ys zs)[i]? = some d → ∃ x y z, xs[i]? = some x ∧ ys[i]? = some y ∧ zs[i]? = some z ∧ d = .tup [x, y, z]
  | [], _, _, _, _, h => by simp [zipD3] at h
  | _ :: _, [], _, _, _, h => by simp [zipD3] at h
  | _ :: _, _ :: _, [], _, _, h => by simp [zipD3] at h
  | x :: xs, y :: ys, z :: zs, 0, d, h => ⟨x, y, z, rfl, rfl, rfl, by simp [zipD3] at h; exact h.symm⟩
  | x :: xs, y :: ys, z :: zs, i + 1, d, h => by
    have h' : (zipD3 xs ys zs)[i]? = some d := by simpa [zipD3] using h
    obtain ⟨a, b, c, h1, h2, h3, h4⟩ := zipD3_get h'
    exact ⟨a, b, c, by simpa using h1, by simpa using h2, by simpa using h3, h4⟩
def seqD (t : Bool) (xs : List D) : D := if t then .tup xs else .lst xs
def Kd (t : Bool) (K : PySem.W.Frag) (B : Hp) (a : Addr) (xs : List V) : Prop := match t with
  | true => SqT K B a xs
  | false => B a = some (.lst xs)
theorem kd_rep {t : Bool} {K : PySem.W.Frag} {B : Hp} {v : V} {ds : List D} (r : Rep K B v (seqD t ds)) : ∃ a xs, v = .ref a ∧ Kd t K B a xs ∧ Reps K B xs ds := by
  cases t with
  | true =>
    change Rep K B v (.tup ds) at r
    cases r with
    | tup h rr => exact ⟨_, _, rfl, h, rr⟩
  | false =>
    change Rep K B v (.lst ds) at r
    cases r with
    | lst h rr => exact ⟨_, _, rfl, h, rr⟩
theorem kd_sq {t : Bool} {K : PySem.W.Frag} {B B' H' : Hp} {O : Store} {a : Addr} {xs : List V} (h : Kd t K B a xs) (e : Ex B B') (hs : Hs K B' H' O) : SqK t K H' a xs := by
  cases t with
  | true => exact Evl.ex_t hs.ex (Evl.ex_t e h)
  | false => exact Evl.sq_of (hs.ex _ _ (e _ _ h))
theorem itOk_zip3 {K : PySem.W.Frag} {B : Hp} {t1 t2 t3 : Bool} {a b c : Addr} {xs ys zs : List V} {ds es fs : List D} (h1 : Kd t1 K B a xs) (r1 : Reps K B xs ds) (h2 : Kd t2 K B b ys) (r2 : Reps K B ys es) (h3 : Kd t3 K B c zs) (r3 : Reps K B zs fs) :
    ItOk K B (It3 K t1 t2 t3 a b c xs ys zs) (zipD3 ds es fs) := fun B' H' O e hs i => by
  have k1 := kd_sq h1 e hs
  have k2 := kd_sq h2 e hs
  have k3 := kd_sq h3 e hs
  refine ⟨fun d hd => ?_, fun hd => ⟨k1, k2, k3, ?_⟩⟩
  · obtain ⟨x, y, z, hx, hy, hz, rfl⟩ := zipD3_get hd
    obtain ⟨v, hv, rv⟩ := r1.get hx
    obtain ⟨u, hu, ru⟩ := r2.get hy
    obtain ⟨w, hw, rw'⟩ := r3.get hz
    refine ⟨⟨k1, k2, k3, (List.getElem?_eq_some_iff.mp hv).1, (List.getElem?_eq_some_iff.mp hu).1, (List.getElem?_eq_some_iff.mp hw).1⟩, fun z' H2 q => ?_⟩
    obtain ⟨T, v', u', w', rfl, hT, rfl, e1, e2, e3⟩ := q
    rw [hv] at e1
    rw [hu] at e2
    rw [hw] at e3
    cases e1; cases e2; cases e3
    obtain ⟨hs2, ex2⟩ := hs.new (o := .tup [v, u, w]) hT
    exact ⟨_, ex2, hs2, .tup (Evl.st_of upd_same) (.cons ((rv.mono e).mono ex2) (.cons ((ru.mono e).mono ex2) (.cons ((rw'.mono e).mono ex2) .nil)))⟩
  · have := List.getElem?_eq_none_iff.mp hd
    rw [zipD3_len] at this
    rw [r1.length, r2.length, r3.length]
    omega
section
variable {K : PySem.W.Frag} {ρ : Rho} {O : Store}
end
end G
/-! Another reflectance with the same color. -/
namespace G
open PySem L2 PySem.Spec PyProof.Rows
abbrev F4 := Nat × Nat × Nat × Nat
def fD (p : F4) : D := .tup [.int (p.1 : Int), .int (p.2.1 : Int), .int (p.2.2.1 : Int), .int (p.2.2.2 : Int)]
def upL (a n : Nat) : List Nat := (List.range (n - a)).map fun d => a + d
def foursL (n : Nat) : List F4 := (List.range n).flatMap fun i => (upL (i + 1) n).flatMap fun j => (upL (j + 1) n).flatMap fun k => (upL (k + 1) n).map fun l => (i, j, k, l)
def upsD (w : Bool) : D := .tup [.bl w, .bl (!w), .bl w, .bl (!w)]
def roomF (q : Rat) (up : Bool) : Rat := if up then 1 - q else q
abbrev It4 := Nat × Bool × Int
def items (gs : List I3) (p : F4) (w : Bool) : List It4 :=
  [(p.1, w, detI (gI gs p.2.1) (gI gs p.2.2.1) (gI gs p.2.2.2)), (p.2.1, !w, detI (gI gs p.1) (gI gs p.2.2.1) (gI gs p.2.2.2)),
   (p.2.2.1, w, detI (gI gs p.1) (gI gs p.2.1) (gI gs p.2.2.2)), (p.2.2.2, !w, detI (gI gs p.1) (gI gs p.2.1) (gI gs p.2.2.1))]
def rmX (qs : List Rat) (x : Nat × Bool) : Rat := roomF (qs.getD x.1 0) x.2
def pairs4 (p : F4) (w : Bool) : List (Nat × Bool) := [(p.1, w), (p.2.1, !w), (p.2.2.1, w), (p.2.2.2, !w)]
def canF (qs : List Rat) (p : F4) (w : Bool) : Bool := (pairs4 p w).all fun x => !decide (rmX qs x = 0)
def limX (qs : List Rat) (x : It4) : Rat := rmX qs (x.1, x.2.1) / ((x.2.2 : Int) : Rat)
def stepO (a : Option Rat) (r : Rat) : Option Rat := match a with
  | none => some r
  | some s => if r < s then some r else some s
def stepF (qs : List Rat) (T : List It4) : Option Rat := T.foldl (fun a x => stepO a (limX qs x)) none
def movX (s : Rat) (qs : List Rat) (x : It4) : List Rat := qs.set x.1 (if x.2.1 then qs.getD x.1 0 + s * ((x.2.2 : Int) : Rat) else qs.getD x.1 0 - s * ((x.2.2 : Int) : Rat))
def movF (s : Rat) (qs : List Rat) (T : List It4) : List Rat := T.foldl (movX s) qs
def otherX (gs : List I3) (qs : List Rat) (x : F4 × Bool) : Option (List Rat) := if canF qs x.1 x.2 then some (movF ((stepF qs (items gs x.1 x.2)).getD 0) qs (items gs x.1 x.2)) else none
def ways (ps : List F4) : List (F4 × Bool) := ps.flatMap fun p => [(p, true), (p, false)]
def otherF (gs : List I3) (qs : List Rat) : Option (List Rat) := (ways (foursL gs.length)).findSome? (otherX gs qs)
/-! the step is the least limit -/
def stepI (qs : List Rat) (seen : List It4) (a : Option Rat) : Prop := match a with
  | none => seen = []
  | some s => (∃ x ∈ seen, s = limX qs x) ∧ ∀ x ∈ seen, s ≤ limX qs x
/-! what is moved -/
/-- the value of a band that moves -/
def newV (s : Rat) (qs : List Rat) (x : It4) : Rat := if x.2.1 then qs.getD x.1 0 + s * ((x.2.2 : Int) : Rat) else qs.getD x.1 0 - s * ((x.2.2 : Int) : Rat)
/-! what is told -/
end G
/-! Another match: words, rules. -/
namespace G
open PySem L2 PySem.Spec PyProof.Rows
def qsD (C : Addr) (qs : List Rat) : D := .tup (qs.map (dQ C))
def in4 (p : F4) (n : Nat) : Prop := p.1 < p.2.1 ∧ p.2.1 < p.2.2.1 ∧ p.2.2.1 < p.2.2.2 ∧ p.2.2.2 < n
def detsD (C : Addr) (gs : List I3) (p : F4) : D := .lst [dQ C ((detI (gI gs p.2.1) (gI gs p.2.2.1) (gI gs p.2.2.2) : Int) : Rat), dQ C ((detI (gI gs p.1) (gI gs p.2.2.1) (gI gs p.2.2.2) : Int) : Rat), dQ C ((detI (gI gs p.1) (gI gs p.2.1) (gI gs p.2.2.2) : Int) : Rat), dQ C ((detI (gI gs p.1) (gI gs p.2.1) (gI gs p.2.2.1) : Int) : Rat)]
def W_room (C : Addr) (ds : List D) (P : D → Prop) : Prop := ∃ (q : Rat) (m : Nat) (up : Bool), ds = [dQ C q, .bl up] ∧ bits q m ∧ m ≤ 2000 ∧ P (dQ C (roomF q up))
def W_fours (ds : List D) (P : D → Prop) : Prop := ∃ n : Nat, ds = [.int (n : Int)] ∧ n ≤ 7 ∧ P (.lst ((foursL n).map fD))
def W_cango (C : Addr) (ds : List D) (P : D → Prop) : Prop := ∃ (qs : List Rat) (m : Nat) (p : F4) (w : Bool), ds = [.tup (qs.map (dQ C)), fD p, upsD w] ∧ (∀ q ∈ qs, bits q m) ∧ m ≤ 1000 ∧ in4 p qs.length ∧ P (.bl (canF qs p w))
def W_odets (C : Addr) (ds : List D) (P : D → Prop) : Prop := ∃ (gs : List I3) (p : F4), ds = [vD C gs, fD p] ∧ smallG gs ∧ in4 p gs.length ∧ P (detsD C gs p)
def W_gstep (C : Addr) (ds : List D) (P : D → Prop) : Prop := ∃ (gs : List I3) (qs : List Rat) (m : Nat) (p : F4) (w : Bool), ds = [.tup (qs.map (dQ C)), fD p, upsD w, detsD C gs p] ∧ smallG gs ∧ regular gs ∧ (∀ q ∈ qs, bits q m) ∧ m ≤ 300 ∧ qs.length = gs.length ∧ in4 p gs.length ∧ P (dQ C ((stepF qs (items gs p w)).getD 0))
def W_moved (C : Addr) (ds : List D) (P : D → Prop) : Prop := ∃ (gs : List I3) (qs : List Rat) (m : Nat) (p : F4) (w : Bool), ds = [vD C gs, .tup (qs.map (dQ C)), fD p, upsD w] ∧ smallG gs ∧ regular gs ∧ (∀ q ∈ qs, bits q m) ∧ m ≤ 300 ∧ qs.length = gs.length ∧ in4 p gs.length ∧ P (.tup ((movF ((stepF qs (items gs p w)).getD 0) qs (items gs p w)).map (dQ C)))
def encM (C : Addr) : Option (List Rat) → D
  | none => .non
  | some rs => .tup (rs.map (dQ C))
def W_otherM (CV CO C : Addr) (ds : List D) (P : D → Prop) : Prop := ∃ (bs : List I3) (ls : List Int) (qs : List Rat) (m : Nat), ds = [dView CV CO C bs ls, .tup (qs.map (dQ C))] ∧ okBands bs ∧ okLamp5 bs ls ∧ regular bs ∧ qs.length = bs.length ∧ (∀ q ∈ qs, bits q m ∧ 0 ≤ q ∧ q ≤ 1) ∧ m ≤ 300 ∧ P (encM C (otherF (gens bs ls) qs))
def enc4 (C : Addr) (x : It4) : D := .tup [.int (x.1 : Int), .bl x.2.1, dQ C ((x.2.2 : Int) : Rat)]
/-! bits -/
/-! rules -/
section
variable {K : PySem.W.Frag} {ρ : Rho} {O : Store} {P : D → Store → Prop}
end
abbrev encSt (C : Addr) : Option Rat → D
  | none => .non
  | some s => dQ C s
end G
/-! All four bands in order, step by step. -/
namespace G
open PySem L2 PySem.Spec PyProof.Rows
def F3 (n i j k : Nat) : List F4 := (upL (k + 1) n).map fun l => (i, j, k, l)
def F2 (n i j : Nat) : List F4 := (upL (j + 1) n).flatMap (F3 n i j)
def F1 (n i : Nat) : List F4 := (upL (i + 1) n).flatMap (F2 n i)
def four1 (n a : Nat) : List F4 := (List.range a).flatMap (F1 n)
def four2 (n a b : Nat) : List F4 := four1 n a ++ ((upL (a + 1) n).take b).flatMap (F2 n a)
def four3 (n a b c : Nat) : List F4 := four2 n a b ++ ((upL (a + 1 + b + 1) n).take c).flatMap (F3 n a (a + 1 + b))
def four4 (n a b c e : Nat) : List F4 := four3 n a b c ++ ((upL (a + 1 + b + 1 + c + 1) n).take e).map fun l => (a, a + 1 + b, a + 1 + b + 1 + c, l)
end G
/-! More of another match. -/
namespace G
open PySem L2 PySem.Spec PyProof.Rows
theorem getD_memR {qs : List Rat} {i : Nat} (h : i < qs.length) : qs.getD i 0 ∈ qs := by
  rw [List.getD_eq_getElem?_getD, List.getElem?_eq_getElem h]
  exact List.getElem_mem h
theorem at_qs {C : Addr} {qs : List Rat} {t : Nat} (h : t < qs.length) : atI (qs.map (dQ C)) (t : Int) = some (dQ C (qs.getD t 0)) := by
  rw [atI_nat' (by omega) (by rw [List.length_map]; omega), List.getElem?_map, List.getD_eq_getElem?_getD, Int.toNat_natCast, List.getElem?_eq_getElem h]
  rfl
theorem take_fold {α β : Type} {f : β → α → β} {b : β} {xs : List α} {t : Nat} {x : α} (h : xs[t]? = some x) : (xs.take (t + 1)).foldl f b = f ((xs.take t).foldl f b) x := by
  rw [List.take_succ, h, List.foldl_append]
  rfl
theorem thg_row {C : Addr} {qs : List Rat} {m : Nat} (hq : ∀ q ∈ qs, bits q m) (hm : m ≤ 600) : Thg C (.tup (qs.map (dQ C))) := by
  refine .tup _ fun x hx => ?_
  obtain ⟨q, hq', rfl⟩ := List.mem_map.mp hx
  exact .quo _ (bits_mono (hq q hq') hm)
end G
/-! A reflectance without another match is a band pattern; a band pattern is the only one. -/
namespace G
open PySem L2 PySem.Spec PyProof.Rows
/-- inner, outer: no value but the extreme ones -/
def patC (c : Bool → Nat → Bool) (n : Nat) (i j : Nat) (b : Bool) : Prop := i < j ∧ j < n ∧ ∀ k, k < n → k ≠ i → k ≠ j → c (if i < k ∧ k < j then b else !b) k = false
end G
/-! Band patterns and only ones. -/
namespace G
open PySem L2 PySem.Spec PyProof.Rows
/-! a reflectance without another match fits a pattern -/
def goC (qs : List Rat) (w : Bool) (k : Nat) : Bool := !decide (rmX qs (k, w) = 0)
/-! a pattern is the only one with its color -/
def sQ : Nat → (Nat → Rat) → Rat
  | 0, _ => 0
  | n + 1, f => sQ n f + f n
/-! an end of a range is the value of a reflectance -/
end G
/-! Single ranges, patterns and only ones (k52). -/
namespace G
open PySem L2 PySem.Spec PyProof.Rows
/-- what is sure: all ranges are single -/
def leE1 (gs : List I3) (v : V3) (t : Nat) : Rat := (endF gs (outB (List.range gs.length) t) v t true).1
def moE1 (gs : List I3) (v : V3) (t : Nat) : Rat := (endF gs (outB (List.range gs.length) t) v t false).1
def sureF (gs : List I3) (v : V3) : Bool := (List.range gs.length).all fun t => decide (leE1 gs v t = moE1 gs v t)
section
variable {gs : List I3} {qs rs : List Rat}
end
end G
/-! Papers of only ones. -/
namespace G
open PySem L2 PySem.Spec PyProof.Rows
def joF (gs : List I3) (qs : List Rat) (d : D) : Bool := (formF d (Str.ofString "another") 2 && (reflOfF gs (colV gs qs) (itemD d 1) && !decide (qsOf (itemD d 1) = qs))) || (formF d (Str.ofString "only") 4 && patOfF gs.length qs (itemD d 1) (itemD d 2) (itemD d 3))
def anotherD (C : Addr) (rs : List Rat) : D := .tup [.raw (.str (Str.ofString "another")), .tup (rs.map (dQ C))]
def onlyD (i j : Nat) (b : Bool) : D := .tup [.raw (.str (Str.ofString "only")), .int (i : Int), .int (j : Int), kindD b]
/-- what explain_only tells -/
def onlyP (C : Addr) (gs : List I3) (qs : List Rat) (d : D) : Prop := (∃ rs, otherF gs qs = some rs ∧ d = anotherD C rs) ∨ (otherF gs qs = none ∧ ∃ i j b, fitB qs i j b ∧ d = onlyD i j b)
def W_explO (CV CO C : Addr) (ds : List D) (P : D → Prop) : Prop := ∃ (bs : List I3) (ls : List Int) (qs : List Rat) (m : Nat), ds = [dView CV CO C bs ls, .tup (qs.map (dQ C))] ∧ okBands bs ∧ okLamp5 bs ls ∧ regular bs ∧ qs.length = bs.length ∧ (∀ q ∈ qs, bits q m ∧ 0 ≤ q ∧ q ≤ 1) ∧ 1 ≤ m ∧ m ≤ 200 ∧ ∀ d, onlyP C (gens bs ls) qs d → P d
def W_joF (CV CO C : Addr) (ds : List D) (P : D → Prop) (PX : Addr → Prop) : Prop := ∃ (bs : List I3) (ls : List Int) (qs : List Rat) (m : Nat) (d : D), ds = [dView CV CO C bs ls, .tup (qs.map (dQ C)), d] ∧ okBands bs ∧ okLamp5 bs ls ∧ qs.length = bs.length ∧ (∀ q ∈ qs, bits q m ∧ 0 ≤ q ∧ q ≤ 1) ∧ m ≤ 20 ∧ Thg C d ∧ P (.bl (joF (gens bs ls) qs d))
/-! the law's own look: four in turn -/
def cU (vs : List Int) (w : Bool) (k : Nat) : Bool := if w then decide (vs.getD k 0 < 12) else decide (0 < vs.getD k 0)
def altS (up : Bool) (c : Int) (v : Int) : Int := if (v < 12 ∧ up = decide (c % 2 = 0)) ∨ (0 < v ∧ up ≠ decide (c % 2 = 0)) then c + 1 else c
def altN (up : Bool) (vs : List Int) : Int := vs.foldl (altS up) 0
def dirW (up : Bool) (c : Int) : Bool := if c % 2 = 0 then up else !up
def W_lalt (ds : List D) (P : D → Prop) : Prop := ∃ (vs : List Int) (up : Bool), ds = [dL vs, .bl up] ∧ vs.length ≤ 7 ∧ P (.bl (decide (4 ≤ altN up vs)))
def altT (up : Bool) (vs : List Int) (t : Nat) : Int := altN up (vs.take t)
end G
/-! Papers of ends. -/
namespace G
open PySem L2 PySem.Spec PyProof.Rows
def endO (gs : List I3) (v : V3) (b : Nat) (e : Bool) : End := endF gs (outB (List.range gs.length) b) v b e
def endL (gs : List I3) (v : V3) (b : Nat) (e : Bool) : List Rat := leastV gs (outB (List.range gs.length) b) (subV v (mulV (endO gs v b e).1 (vI (gI gs b))))
def endRow (gs : List I3) (v : V3) (b : Nat) (e : Bool) : List Rat := (endL gs v b e).take b ++ (endO gs v b e).1 :: (endL gs v b e).drop b
def endPap (C : Addr) (gs : List I3) (v : V3) (b : Nat) (e : Bool) : D := .tup [.raw (.str (Str.ofString "end")), .tup ((endRow gs v b e).map (dQ C)), reasonD (endO gs v b e).2]
def W_explE (CV CO C : Addr) (ds : List D) (P : D → Prop) : Prop := ∃ (bs : List I3) (ls : List Int) (c : I3) (b : Nat) (e : Bool), ds = [dView CV CO C bs ls, dV C (vecI 12 c), .int (b : Int), endW e] ∧ okBands bs ∧ okLamp5 bs ls ∧ regular bs ∧ bI c 20 ∧ b < bs.length ∧ P (if testF (gens bs ls) (vecI 12 c) = none then endPap C (gens bs ls) (vecI 12 c) b e else .non)
end G
/-! Papers of ends: words. -/
namespace G
open PySem L2 PySem.Spec PyProof.Rows
section
variable {K : PySem.W.Frag} {O : Store} {P : D → Store → Prop}
end
def W_detW (C : Addr) (ds : List D) (P : D → Prop) : Prop := ∃ (a b c : V3) (m : Nat), ds = [dV C a, dV C b, dV C c] ∧ bitsV a 14 ∧ bitsV b 14 ∧ bitsV c m ∧ m ≤ 700 ∧ P (dQ C (detV a b c))
def W_pdetW (C : Addr) (ds : List D) (P : D → Prop) : Prop := ∃ (gs : List I3) (i j : Nat) (v : V3) (m : Nat), ds = [vD C gs, pD (i, j), dV C v] ∧ (∀ g ∈ gs, bigRow g) ∧ i < gs.length ∧ j < gs.length ∧ bitsV v m ∧ m ≤ 700 ∧ P (dQ C (detV (vI (gI gs i)) (vI (gI gs j)) v))
/-- what an end's reason says of a rest -/
def stopF (gs : List I3) (r : V3) (b : Nat) (e : Bool) (d : D) : Bool := match d with
  | .tup [i, j, k] => pairF gs.length i j && (!(decide (b = natOf i) || decide (b = natOf j)) && (wordF k lohi && (decide (detV (vI (gI gs (natOf i))) (vI (gI gs (natOf j))) r = ((bndK gs (outB (List.range gs.length) b) (natOf i) (natOf j) (lowF k) : Int) : Rat)) && decide (sideE (detI (gI gs (natOf i)) (gI gs (natOf j)) (gI gs b)) e = lowF k))))
  | _ => false
def jeF (gs : List I3) (v : V3) (b : Nat) (e : Bool) (d : D) : Bool := formF d (Str.ofString "end") 3 && (reflOfF gs v (itemD d 1) && (if formF (itemD d 2) (Str.ofString "bound") 1 then decide ((qsOf (itemD d 1)).getD b 0 = utmE e) else stopF gs (subV v (mulV ((qsOf (itemD d 1)).getD b 0) (vI (gI gs b)))) b e (itemD d 2)))
def W_isStop (CV CO C : Addr) (ds : List D) (P : D → Prop) : Prop := ∃ (bs : List I3) (ls : List Int) (r : V3) (m b : Nat) (e : Bool) (d : D), ds = [dView CV CO C bs ls, dV C r, .int (b : Int), endW e, d] ∧ okBands bs ∧ okLamp5 bs ls ∧ bitsV r m ∧ m ≤ 700 ∧ b < bs.length ∧ Thg C d ∧ P (.bl (stopF (gens bs ls) r b e d))
def W_jeF (CV CO C : Addr) (ds : List D) (P : D → Prop) : Prop := ∃ (bs : List I3) (ls : List Int) (c : I3) (b : Nat) (e : Bool) (d : D), ds = [dView CV CO C bs ls, dV C (vecI 12 c), .int (b : Int), endW e, d] ∧ okBands bs ∧ okLamp5 bs ls ∧ bI c 20 ∧ b < bs.length ∧ Thg C d ∧ P (.bl (jeF (gens bs ls) (vecI 12 c) b e d))
/-- law_det for wide colors -/
def W_ldetX (ds : List D) (P : D → Prop) : Prop := ∃ (a b c : I3) (l : Bool), ds = [tRow a, tRow b, rowD l c] ∧ bI a 20 ∧ bI b 20 ∧ bI c 700 ∧ P (.int (detI a b c))
end G
/-! Papers of ends: the law's words. -/
namespace G
open PySem L2 PySem.Spec PyProof.Rows
def W_lstops (C : Addr) (ds : List D) (P : D → Prop) : Prop := ∃ (gs : List I3) (c : I3) (b : Nat) (e : Bool) (q : Rat) (d : D), ds = [dG gs, lRow c, .int (b : Int), endW e, dQ C q, d] ∧ smallG gs ∧ bI c 20 ∧ b < gs.length ∧ bits q 600 ∧ Thp C d ∧ P (.bl (stopF gs (subV (vecI 12 c) (mulV q (vI (gI gs b)))) b e d))
def W_ljudE (C : Addr) (ds : List D) (P : D → Prop) : Prop := ∃ (gs : List I3) (c : I3) (b : Nat) (e : Bool) (d : D), ds = [dG gs, lRow c, .int (b : Int), endW e, d] ∧ smallG gs ∧ bI c 20 ∧ b < gs.length ∧ Thp C d ∧ P (.bl (jeF gs (vecI 12 c) b e d))
end G
/-! Sums of bands that are black change their sign three times, or are none. -/
namespace G
open PySem L2 PySem.Spec PyProof.Rows
def sgC (cs : List Rat) (w : Bool) (k : Nat) : Bool := if w then decide (0 < cs.getD k 0) else decide (cs.getD k 0 < 0)
/-! blocks of equal signs -/
def appL (bs : List (List Nat)) (k : Nat) : List (List Nat) := match bs.getLast? with
  | some b => bs.dropLast ++ [b ++ [k]]
  | none => bs
def bkS (qs : List Rat) : Nat → List (List Nat) × Int
  | 0 => ([], 0)
  | i + 1 => if sgn (qs.getD i 0) = 0 then bkS qs i else if sgn (qs.getD i 0) = (bkS qs i).2 then (appL (bkS qs i).1 i, (bkS qs i).2) else ((bkS qs i).1 ++ [[i]], sgn (qs.getD i 0))
def blksF (qs : List Rat) : List (List Nat) := (bkS qs qs.length).1
structure BkOk (qs : List Rat) (i : Nat) (bs : List (List Nat)) (s : Int) : Prop where
  mem : ∀ (t : Nat) (b : List Nat) (k : Nat), bs[t]? = some b → k ∈ b → k < i ∧ sgn (qs.getD k 0) ≠ 0
  eq : ∀ (t : Nat) (b : List Nat) (k l : Nat), bs[t]? = some b → k ∈ b → l ∈ b → sgn (qs.getD k 0) = sgn (qs.getD l 0)
  alt : ∀ (t : Nat) (b c : List Nat) (k l : Nat), bs[t]? = some b → bs[t + 1]? = some c → k ∈ b → l ∈ c → sgn (qs.getD l 0) = -sgn (qs.getD k 0)
  asc : ∀ (t u : Nat) (b c : List Nat) (k l : Nat), t < u → bs[t]? = some b → bs[u]? = some c → k ∈ b → l ∈ c → k < l
  ne : ∀ (t : Nat) (b : List Nat), bs[t]? = some b → b ≠ []
  all : ∀ k : Nat, k < i → sgn (qs.getD k 0) ≠ 0 → ∃ (t : Nat) (b : List Nat), bs[t]? = some b ∧ k ∈ b
  last : ∀ (b : List Nat) (k : Nat), bs.getLast? = some b → k ∈ b → sgn (qs.getD k 0) = s
  zero : bs = [] → s = 0
  inner : ∀ (t : Nat) (b : List Nat), bs[t]? = some b → b.Pairwise (· < ·)
theorem sgn_pm (q : Rat) : sgn q = 1 ∨ sgn q = -1 ∨ sgn q = 0 := by
  unfold sgn
  split
  · exact .inl rfl
  · split
    · exact .inr (.inl rfl)
    · exact .inr (.inr rfl)
theorem at_snoc {α : Type} {xs : List α} {x y : α} {t : Nat} (h : (xs ++ [x])[t]? = some y) : (t < xs.length ∧ xs[t]? = some y) ∨ (t = xs.length ∧ y = x) := by
  rcases Nat.lt_or_ge t xs.length with q | q
  · rw [List.getElem?_append_left q] at h
    exact .inl ⟨q, h⟩
  · rw [List.getElem?_append_right q] at h
    by_cases e : t = xs.length
    · rw [e, Nat.sub_self] at h
      exact .inr ⟨e, (Option.some.inj h).symm⟩
    · rw [List.getElem?_eq_none (by show 1 ≤ _; omega)] at h
      cases h
theorem last_snoc {α : Type} : ∀ (xs : List α), xs ≠ [] → ∃ ys y, xs = ys ++ [y]
  | xs, h => ⟨xs.dropLast, xs.getLast h, (List.dropLast_concat_getLast h).symm⟩
theorem bk_ok (qs : List Rat) : ∀ i, BkOk qs i (bkS qs i).1 (bkS qs i).2
  | 0 => by
    show BkOk qs 0 [] 0
    exact ⟨fun _ _ _ h => by simp at h, fun _ _ _ _ h => by simp at h, fun _ _ _ _ _ h => by simp at h, fun _ _ _ _ _ _ _ h => by simp at h, fun _ _ h => by simp at h, fun _ h => by omega, fun _ _ h => by simp at h, fun _ => rfl, fun _ _ h => by simp at h⟩
  | i + 1 => by
    have ih := bk_ok qs i
    show BkOk qs (i + 1) (bkS qs (i + 1)).1 (bkS qs (i + 1)).2
    unfold bkS
    generalize bkS qs i = p at *
    obtain ⟨bs, s⟩ := p
    change BkOk qs i bs s at ih
    by_cases h0 : sgn (qs.getD i 0) = 0
    · rw [if_pos h0]
      show BkOk qs (i + 1) bs s
      refine ⟨fun t b k h hk => ⟨by have := (ih.mem t b k h hk).1; omega, (ih.mem t b k h hk).2⟩, ih.eq, ih.alt, ih.asc, ih.ne, fun k hk hs => ?_, ih.last, ih.zero, ih.inner⟩
      by_cases e : k = i
      · rw [e] at hs; exact absurd h0 hs
      · exact ih.all k (by omega) hs
    · rw [if_neg h0]
      by_cases h1 : sgn (qs.getD i 0) = s
      · rw [if_pos h1]
        have hne : bs ≠ [] := fun z => h0 (by rw [h1]; exact ih.zero z)
        obtain ⟨cs, c, rfl⟩ := last_snoc bs hne
        have ea : appL (cs ++ [c]) i = cs ++ [c ++ [i]] := by
          unfold appL
          rw [List.getLast?_append, List.getLast?_singleton]
          simp
        show BkOk qs (i + 1) (appL (cs ++ [c]) i) s
        rw [ea]
        have hc : (cs ++ [c])[cs.length]? = some c := by rw [List.getElem?_append_right (Nat.le_refl _), Nat.sub_self]; rfl
        have lft : ∀ {t b}, t < cs.length → cs[t]? = some b → (cs ++ [c])[t]? = some b := fun ht h => by rw [List.getElem?_append_left ht]; exact h
        have lc : ∀ k, k ∈ c → sgn (qs.getD k 0) = s := fun k hk => ih.last c k (by simp) hk
        refine ⟨fun t b k h hk => ?_, fun t b k l h hk hl => ?_, fun t b d k l h h' hk hl => ?_, fun t u b d k l htu h h' hk hl => ?_, fun t b h => ?_, fun k hk hs => ?_, fun b k h hk => ?_, fun h => by simp at h, fun t b h => ?_⟩
        · rcases at_snoc h with ⟨q, h⟩ | ⟨_, rfl⟩
          · have := ih.mem t b k (lft q h) hk
            exact ⟨by omega, this.2⟩
          · rcases List.mem_append.mp hk with hk | hk
            · have := ih.mem _ c k hc hk
              exact ⟨by omega, this.2⟩
            · rw [List.mem_singleton.mp hk]
              exact ⟨by omega, h0⟩
        · rcases at_snoc h with ⟨q, h⟩ | ⟨_, rfl⟩
          · exact ih.eq t b k l (lft q h) hk hl
          · have f : ∀ k, k ∈ c ++ [i] → sgn (qs.getD k 0) = s := fun k hk => by
              rcases List.mem_append.mp hk with hk | hk
              · exact lc k hk
              · rw [List.mem_singleton.mp hk]; exact h1
            rw [f k hk, f l hl]
        · rcases at_snoc h' with ⟨q, h'⟩ | ⟨e, rfl⟩
          · rcases at_snoc h with ⟨q2, h⟩ | ⟨e2, rfl⟩
            · exact ih.alt t b d k l (lft q2 h) (lft q h') hk hl
            · omega
          · rcases at_snoc h with ⟨q2, h⟩ | ⟨e2, rfl⟩
            · rcases List.mem_append.mp hl with hl | hl
              · exact ih.alt t b c k l (lft q2 h) (by rw [e]; exact hc) hk hl
              · obtain ⟨x, hx⟩ := List.exists_mem_of_ne_nil c (ih.ne _ c hc)
                have := ih.alt t b c k x (lft q2 h) (by rw [e]; exact hc) hk hx
                rw [List.mem_singleton.mp hl, h1, ← lc x hx]
                exact this
            · omega
        · rcases at_snoc h' with ⟨q, h'⟩ | ⟨e, rfl⟩
          · rcases at_snoc h with ⟨q2, h⟩ | ⟨e2, rfl⟩
            · exact ih.asc t u b d k l htu (lft q2 h) (lft q h') hk hl
            · omega
          · rcases at_snoc h with ⟨q2, h⟩ | ⟨e2, rfl⟩
            · rcases List.mem_append.mp hl with hl | hl
              · exact ih.asc t u b c k l htu (lft q2 h) (by rw [e]; exact hc) hk hl
              · rw [List.mem_singleton.mp hl]
                exact (ih.mem t b k (lft q2 h) hk).1
            · omega
        · rcases at_snoc h with ⟨q, h⟩ | ⟨_, rfl⟩
          · exact ih.ne t b (lft q h)
          · simp
        · by_cases e : k = i
          · refine ⟨cs.length, c ++ [i], by rw [List.getElem?_append_right (Nat.le_refl _), Nat.sub_self]; rfl, by rw [e]; simp⟩
          · obtain ⟨t, b, h, hb⟩ := ih.all k (by omega) hs
            rcases at_snoc h with ⟨q, h⟩ | ⟨e2, rfl⟩
            · exact ⟨t, b, by rw [List.getElem?_append_left q]; exact h, hb⟩
            · exact ⟨cs.length, b ++ [i], by rw [List.getElem?_append_right (Nat.le_refl _), Nat.sub_self]; rfl, List.mem_append_left _ hb⟩
        · rw [List.getLast?_append, List.getLast?_singleton] at h
          simp at h
          subst h
          rcases List.mem_append.mp hk with hk | hk
          · exact lc k hk
          · rw [List.mem_singleton.mp hk]; exact h1
        · rcases at_snoc h with ⟨q, h⟩ | ⟨_, rfl⟩
          · exact ih.inner t b (lft q h)
          · refine List.pairwise_append.mpr ⟨ih.inner _ c hc, List.pairwise_singleton _ _, fun x hx y hy => ?_⟩
            rw [List.mem_singleton.mp hy]
            exact (ih.mem _ c x hc hx).1
      · rw [if_neg h1]
        show BkOk qs (i + 1) (bs ++ [[i]]) (sgn (qs.getD i 0))
        have nw : (bs ++ [[i]])[bs.length]? = some [i] := by rw [List.getElem?_append_right (Nat.le_refl _), Nat.sub_self]; rfl
        refine ⟨fun t b k h hk => ?_, fun t b k l h hk hl => ?_, fun t b d k l h h' hk hl => ?_, fun t u b d k l htu h h' hk hl => ?_, fun t b h => ?_, fun k hk hs => ?_, fun b k h hk => ?_, fun h => by simp at h, fun t b h => ?_⟩
        · rcases at_snoc h with ⟨q, h⟩ | ⟨_, rfl⟩
          · have := ih.mem t b k h hk
            exact ⟨by omega, this.2⟩
          · rw [List.mem_singleton.mp hk]
            exact ⟨by omega, h0⟩
        · rcases at_snoc h with ⟨q, h⟩ | ⟨_, rfl⟩
          · exact ih.eq t b k l h hk hl
          · rw [List.mem_singleton.mp hk, List.mem_singleton.mp hl]
        · rcases at_snoc h' with ⟨q, h'⟩ | ⟨e, rfl⟩
          · rcases at_snoc h with ⟨q2, h⟩ | ⟨e2, rfl⟩
            · exact ih.alt t b d k l h h' hk hl
            · omega
          · rcases at_snoc h with ⟨q2, h⟩ | ⟨e2, rfl⟩
            · have hg : bs.getLast? = some b := by rw [List.getLast?_eq_getElem?, show bs.length - 1 = t by omega]; exact h
              have s1 := ih.last b k hg hk
              have s0 := (ih.mem t b k h hk).2
              rw [List.mem_singleton.mp hl, s1]
              rw [s1] at s0
              rcases sgn_pm (qs.getD i 0) with e1 | e1 | e1
              · rcases sgn_pm (qs.getD k 0) with e2 | e2 | e2 <;> omega
              · rcases sgn_pm (qs.getD k 0) with e2 | e2 | e2 <;> omega
              · exact absurd e1 h0
            · omega
        · rcases at_snoc h' with ⟨q, h'⟩ | ⟨e, rfl⟩
          · rcases at_snoc h with ⟨q2, h⟩ | ⟨e2, rfl⟩
            · exact ih.asc t u b d k l htu h h' hk hl
            · omega
          · rcases at_snoc h with ⟨q2, h⟩ | ⟨e2, rfl⟩
            · rw [List.mem_singleton.mp hl]
              exact (ih.mem t b k h hk).1
            · omega
        · rcases at_snoc h with ⟨q, h⟩ | ⟨_, rfl⟩
          · exact ih.ne t b h
          · simp
        · by_cases e : k = i
          · exact ⟨bs.length, [i], nw, by rw [e]; simp⟩
          · obtain ⟨t, b, h, hb⟩ := ih.all k (by omega) hs
            exact ⟨t, b, by rw [List.getElem?_append_left (List.getElem?_eq_some_iff.mp h).1]; exact h, hb⟩
        · rw [List.getLast?_append, List.getLast?_singleton] at h
          simp at h
          subst h
          rw [List.mem_singleton.mp hk]
        · rcases at_snoc h with ⟨q, h⟩ | ⟨_, rfl⟩
          · exact ih.inner t b h
          · exact List.pairwise_singleton _ _
theorem bks_ok (qs : List Rat) : BkOk qs qs.length (blksF qs) (bkS qs qs.length).2 := bk_ok qs _
end G
/-! Papers of ends are things. -/
namespace G
open PySem L2 PySem.Spec PyProof.Rows
end G
/-! Papers of ends tell the truth. -/
namespace G
open PySem L2 PySem.Spec PyProof.Rows
end G
/-! `if a if c else b:`. -/
namespace G
open PySem L2 PySem.Spec PyProof.Rows
def tIfT (tA ta tb : TT) : TT := fun σ H Q => tA σ H fun c H1 => if c = true then ta σ H1 Q else tb σ H1 Q
section
variable {K : PySem.W.Frag} {ρ : Rho} {O : Store} {t ta tb : TT} {PT : Bool → Store → Prop}
end
end G
/-! Two owned lists are two. -/
namespace G
open PySem L2 PySem.Spec PyProof.Rows
section
variable {K : PySem.W.Frag} {ρ : Rho} {O : Store} {ts : TS} {PS : Out → Store → Prop}
end
end G
/-! A zip of three that waits in a name. -/
namespace G
open PySem L2 PySem.Spec PyProof.Rows
theorem inv_adopt {X : Cx} {pins : List (Addr × Obj)} {σ : L2.St} {H : Hp} {s : Shared} {a : Addr} {φ : Heap → Prop} (I : L2.Inv X pins σ H s) (f : FpOk X pins H a) (hφ : φ s.heap) (ho : ∃ o, s.heap.get? a = some o)
    (st : ∀ h1 h2 : Heap, φ h1 → (∀ o, h1.get? a = some o → h2.get? a = some o) → φ h2) : L2.Inv X pins σ (upd H a (.ext φ)) s := by
  obtain ⟨f0, f1, f2, f3, f4, f5⟩ := f
  have hne : ∀ {b : Addr} {u : HO}, H b = some u → b ≠ a := fun h z => by rw [z, f0] at h; cases h
  refine ⟨I.ok, I.os, I.bare, ?_, I.loc, I.cell, ?_, ?_, ?_, ?_, I.len⟩
  · have U := I.base
    refine ⟨U.keep, U.slot, fun b o h1 h2 h3 => ?_, U.there, fun b xs h => ?_, fun b o u h => ?_, fun b ps h => ?_⟩
    · by_cases e : b = a
      · subst e
        rcases f3 with f3 | f3
        · exact absurd f3 h3
        · exact absurd f3 (Nat.not_le.mpr (Heap.lt_size h1))
      · rw [upd_ne e]
        exact U.free b o h1 h2 h3
    · have := U.tups b xs h
      rw [upd_ne (hne this)]
      exact this
    · have := U.frzs b o u h
      rw [upd_ne (hne this)]
      exact this
    · obtain ⟨more, h'⟩ := U.tbls b ps h
      exact ⟨more, by rw [upd_ne (hne h')]; exact h'⟩
  · rw [upd_ne (fun z => f1 z.symm)]
    exact I.free
  · intro x c hc
    rw [upd_ne (fun z => f4 x c hc z)]
    exact I.freeC x c hc
  · intro p hp
    obtain ⟨h1, h2, h3⟩ := I.pin p hp
    exact ⟨h1, by rw [upd_ne (f5 p hp)]; exact h2, h3⟩
  · intro b o hb
    by_cases e : b = a
    · subst e
      rw [upd_same] at hb
      cases hb
      exact ⟨hφ, ho, st⟩
    · rw [upd_ne e] at hb
      exact ObjOk.stay (I.hok b o hb) (fun _ _ _ h => h) (fun c hc => by rw [upd_ne (hne hc)]; exact hc) fun c xs hc => by rw [upd_ne (hne hc)]; exact hc
def dropA (H : Hp) (a : Addr) : Hp := fun b => if b = a then none else H b
theorem dropA_ne {H : Hp} {a b : Addr} (h : b ≠ a) : dropA H a b = H b := if_neg h
theorem dropA_same {H : Hp} {a : Addr} : dropA H a a = none := if_pos rfl
theorem inv_dropA {X : Cx} {pins : List (Addr × Obj)} {σ : L2.St} {H : Hp} {s : Shared} {a : Addr} {φ : Heap → Prop} (I : L2.Inv X pins σ H s) (h : H a = some (.ext φ)) : L2.Inv X pins σ (dropA H a) s := by
  have hne : ∀ {b : Addr} {u : HO}, H b = some u → (∀ φ, u ≠ .ext φ) → b ≠ a := fun h' n z => by
    rw [z, h] at h'
    cases h'
    exact n _ rfl
  have nn : ∀ {b : Addr}, H b = none → dropA H a b = none := fun h' => by
    unfold dropA
    split
    · rfl
    · exact h'
  refine ⟨I.ok, I.os, I.bare, ?_, I.loc, I.cell, nn I.free, fun x c hc => nn (I.freeC x c hc), fun p hp => ?_, fun b o hb => ?_, I.len⟩
  · have U := I.base
    refine ⟨U.keep, U.slot, fun b o h1 h2 h3 => nn (U.free b o h1 h2 h3), U.there, fun b xs h => ?_, fun b o u h => ?_, fun b ps h => ?_⟩
    · have := U.tups b xs h
      rw [dropA_ne (hne this (fun _ z => nomatch z))]
      exact this
    · have := U.frzs b o u h
      rw [dropA_ne (hne this (fun _ z => nomatch z))]
      exact this
    · obtain ⟨more, h'⟩ := U.tbls b ps h
      exact ⟨more, by rw [dropA_ne (hne h' (fun _ z => nomatch z))]; exact h'⟩
  · obtain ⟨h1, h2, h3⟩ := I.pin p hp
    exact ⟨h1, nn h2, h3⟩
  · have e : b ≠ a := fun z => by rw [z, dropA_same] at hb; cases hb
    rw [dropA_ne e] at hb
    exact ObjOk.stay (I.hok b o hb) (fun _ _ _ h => h) (fun c hc => by rw [dropA_ne (hne hc (fun _ z => nomatch z))]; exact hc) fun c xs hc => by rw [dropA_ne (hne hc (fun _ z => nomatch z))]; exact hc
/-! the six objects of a zip of three -/
theorem nA {a b : Nat} (h : a < b) : @Ne Addr b a := Nat.ne_of_gt h
def zF0 (t : Bool) (x a : Addr) : Heap → Prop := fun h => ItrK t h x a 0
def zFI (N : Nat) : Heap → Prop := fun h => IsTupOf3 h (N + 3) (.ref N) (.ref (N + 1)) (.ref (N + 2))
def zFO (N : Nat) : Heap → Prop := fun h => ∃ p q r, IsTupOf3 h (N + 4) p q r
def zFZ (N : Nat) : Heap → Prop := fun h => IsZip h (N + 5) (N + 3) (N + 4) Value.none
def zipH (H : Hp) (t1 t2 t3 : Bool) (a b c : Addr) (N : Nat) : Hp := upd (upd (upd (upd (upd (upd H N (.ext (zF0 t1 N a))) (N + 1) (.ext (zF0 t2 (N + 1) b))) (N + 2) (.ext (zF0 t3 (N + 2) c))) (N + 3) (.ext (zFI N))) (N + 4) (.ext (zFO N))) (N + 5) (.ext (zFZ N))
def tZip3 (K : PySem.W.Frag) (n : Nat) (ta : TA) : TE := fun σ H Q => ta σ H fun vs H1 => ∃ (t1 t2 t3 : Bool) (a b c : Addr) (xs ys zs : List V), vs = [V.ref a, V.ref b, V.ref c] ∧ SqK t1 K H1 a xs ∧ SqK t2 K H1 b ys ∧ SqK t3 K H1 c zs ∧
  ∀ N, n ≤ N → a < N → b < N → c < N → (∀ d, N ≤ d → H1 d = none) → Q (.ref (N + 5)) (zipH H1 t1 t2 t3 a b c N)
theorem zF0_stay {t : Bool} {x a : Addr} {h1 h2 : Heap} (h : zF0 t x a h1) (k : ∀ o, h1.get? x = some o → h2.get? x = some o) : zF0 t x a h2 := itrK_keep h k
theorem zip_adopt {X : Cx} {pins : List (Addr × Obj)} {σ : L2.St} {H1 : Hp} {s : Shared} {N : Nat} {t1 t2 t3 : Bool} {a b c : Addr} (I2 : L2.Inv X pins σ H1 s) (fp : ∀ {H' : Hp} (d : Addr), N ≤ d → H' d = none → FpOk X pins H' d) (fr : ∀ d, N ≤ d → H1 d = none)
    (hz : IsZip s.heap (N + 5) (N + 3) (N + 4) Value.none) (hTI : IsTupOf3 s.heap (N + 3) (.ref N) (.ref (N + 1)) (.ref (N + 2))) (hTO : IsTupOf3 s.heap (N + 4) Value.none Value.none Value.none)
    (o1 : s.heap.get? N = some (itO t1 a)) (o2 : s.heap.get? (N + 1) = some (itO t2 b)) (o3 : s.heap.get? (N + 2) = some (itO t3 c)) : L2.Inv X pins σ (zipH H1 t1 t2 t3 a b c N) s := by
  have I3 := inv_adopt (φ := zF0 t1 N a) I2 (fp N (Nat.le_refl _) (fr _ (Nat.le_refl _))) (itrK_0 o1) ⟨_, o1⟩ fun _ _ => zF0_stay
  have I4 := inv_adopt (a := N + 1) (φ := zF0 t2 (N + 1) b) I3 (fp _ (Nat.le_add_right _ _) (by rw [upd_ne (nA (by omega))]; exact fr _ (Nat.le_add_right _ _))) (itrK_0 o2) ⟨_, o2⟩ fun _ _ => zF0_stay
  have I5 := inv_adopt (a := N + 2) (φ := zF0 t3 (N + 2) c) I4 (fp _ (Nat.le_add_right _ _) (by rw [upd_ne (nA (by omega)), upd_ne (nA (by omega))]; exact fr _ (Nat.le_add_right _ _))) (itrK_0 o3) ⟨_, o3⟩ fun _ _ => zF0_stay
  have I6 := inv_adopt (a := N + 3) (φ := zFI N) I5 (fp _ (Nat.le_add_right _ _) (by rw [upd_ne (nA (by omega)), upd_ne (nA (by omega)), upd_ne (nA (by omega))]; exact fr _ (Nat.le_add_right _ _))) hTI ⟨_, hTI⟩ fun _ _ h k => k _ h
  have I7 := inv_adopt (a := N + 4) (φ := zFO N) I6 (fp _ (Nat.le_add_right _ _) (by rw [upd_ne (nA (by omega)), upd_ne (nA (by omega)), upd_ne (nA (by omega)), upd_ne (nA (by omega))]; exact fr _ (Nat.le_add_right _ _))) ⟨_, _, _, hTO⟩ ⟨_, hTO⟩ fun _ _ h k => by
    obtain ⟨p, q, r, h⟩ := h
    exact ⟨p, q, r, k _ h⟩
  have I8 := inv_adopt (a := N + 5) (φ := zFZ N) I7 (fp _ (Nat.le_add_right _ _) (by rw [upd_ne (nA (by omega)), upd_ne (nA (by omega)), upd_ne (nA (by omega)), upd_ne (nA (by omega)), upd_ne (nA (by omega))]; exact fr _ (Nat.le_add_right _ _))) hz ⟨_, hz⟩ fun _ _ h k => k _ h
  exact I8
theorem pe_zip3v {X : Cx} {e1 e2 e3 : Expr} {ta : TA} {p pos : Pos} (hg : Gl X (Str.ofString "zip")) (hm : X.mg (Str.ofString "zip") = none) (ha : PA X [e1, e2, e3] ta)
    (hs : starEach [e1, e2, e3] X.env = (false, eval e1 X.env) :: starEach [e2, e3] X.env := by rfl) (hpl : ((backTo pos (starEach [e2, e3] X.env)).any fun x => x.1) = false := by rfl) :
    PE X ((Expr.Name (Str.ofString "zip") p).Call [e1, e2, e3] [] pos) (tZip3 X.K X.s_0.heap.objs.size ta) where
  run := fun pins s σ H Q I h => Call_ (ld_blt I hg hm boot_zip (callWith_type1 (thn (ha.run pos pins s σ H _ I h) (by
    rintro us sh ⟨vs, H1, I1, r1, t1, t2, t3, a, b, c, xs, ys, zs, rfl, k1, k2, k3, q⟩
    cases r1 with
    | cons ra r1 =>
      cases r1 with
      | cons rb r1 =>
        cases r1 with
        | cons rc r1 =>
          cases r1
          cases ra
          cases rb
          cases rc
          obtain ⟨u1, v1, g1⟩ := invK I1 k1
          obtain ⟨u2, v2, g2⟩ := invK I1 k2
          obtain ⟨u3, v3, g3⟩ := invK I1 k3
          have b1 := kpK_lt g1
          have b2 := kpK_lt g2
          have b3 := kpK_lt g3
          refine zip_begins3 (bgK t1 a u1.toArray) (bgK t2 b u2.toArray) (bgK t3 c u3.toArray) g1 g2 g3 ?_
          intro h' hz hTI hTO o1 o2 o3 hsize frame
          have fr : ∀ d, sh.heap.objs.size ≤ d → H1 d = none := fun d hd => I1.hok.fresh hd
          have hn : X.s_0.heap.objs.size ≤ sh.heap.objs.size := I1.sz
          refine ⟨.ref (sh.heap.objs.size + 5), _, ?_, rfl, q sh.heap.objs.size hn b1 b2 b3 fr⟩
          generalize hN : sh.heap.objs.size = N at *
          have fp : ∀ {H' : Hp} (d : Addr), N ≤ d → H' d = none → FpOk X pins H' d := fun d hd h => Inv.fpOk I1 (by rw [hN]; exact hd) h
          exact zip_adopt (I1.kept frame) fp fr hz hTI hTO o1 o2 o3)) hs hpl))
def drop6 (H : Hp) (N : Nat) : Hp := dropA (dropA (dropA (dropA (dropA (dropA H N) (N + 1)) (N + 2)) (N + 3)) (N + 4)) (N + 5)
def iZipV (K : PySem.W.Frag) (n : Nat) (tl : TE) : TI := fun σ H R => tl σ H fun v H1 => ∃ (N : Nat) (t1 t2 t3 : Bool) (a b c : Addr) (xs ys zs : List V), v = .ref (N + 5) ∧ n ≤ N ∧ a < N ∧ b < N ∧ c < N ∧
  xs.length < 100000 ∧
  H1 N = some (.ext (zF0 t1 N a)) ∧ H1 (N + 1) = some (.ext (zF0 t2 (N + 1) b)) ∧ H1 (N + 2) = some (.ext (zF0 t3 (N + 2) c)) ∧ H1 (N + 3) = some (.ext (zFI N)) ∧ H1 (N + 4) = some (.ext (zFO N)) ∧ H1 (N + 5) = some (.ext (zFZ N)) ∧
  R (It3 K t1 t2 t3 a b c xs ys zs) (drop6 H1 N)
theorem fp_drop {X : Cx} {pins : List (Addr × Obj)} {σ : L2.St} {H H' : Hp} {s : Shared} {a : Addr} {u : HO} (I : L2.Inv X pins σ H s) (h : H a = some u) (hn : X.s_0.heap.objs.size ≤ a) (h' : H' a = none) : FpOk X pins H' a := by
  refine ⟨h', fun z => ?_, fun z => ?_, .inr hn, fun x c hc z => ?_, fun p hp z => ?_⟩
  · have := I.free
    rw [← z, h] at this
    cases this
  · obtain ⟨_, o, ho, _⟩ := Heap.FunFrames.mem I.ok.funs z
    exact absurd (Nat.lt_of_lt_of_le (Heap.lt_size ho) hn) (Nat.lt_irrefl a)
  · have := I.freeC x c hc
    rw [z, h] at this
    cases this
  · have := (I.pin p hp).2.1
    rw [z, h] at this
    cases this
theorem pi_zipv {X : Cx} {l : Expr} {tl : TE} {tpos : Pos} {elts : List Expr} {kk : Nat} (hl : PE X l tl) : PI X (Expr.Tuple elts kk tpos) l (iZipV X.K X.s_0.heap.objs.size tl) where
  run := fun pins s σ H R I h => thn (hl.run pins s σ H _ I h) (by
    rintro v sh ⟨w, H1, I1, r1, N, t1, t2, t3, a, b, c, xs, ys, zs, rfl, hn, ha, hb, hc, _, e0, e1, e2, e3, e4, e5, q⟩
    cases r1
    have z5 := I1.hok _ _ e5
    have z4 := I1.hok _ _ e4
    have z3 := I1.hok _ _ e3
    have z2 := I1.hok _ _ e2
    have z1 := I1.hok _ _ e1
    have z0 := I1.hok _ _ e0
    have hz : IsZip sh.heap (N + 5) (N + 3) (N + 4) Value.none := z5.1
    refine wpAny_pyIter_zip hz ?_
    obtain ⟨sep, n1, n2, n3⟩ := sep3_of N a b c ha hb hc
    have J0 := inv_dropA I1 e0
    have J1 := inv_dropA (a := N + 1) J0 (by rw [dropA_ne (nA (by omega))]; exact e1)
    have J2 := inv_dropA (a := N + 2) J1 (by rw [dropA_ne (nA (by omega)), dropA_ne (nA (by omega))]; exact e2)
    have J3 := inv_dropA (a := N + 3) J2 (by rw [dropA_ne (nA (by omega)), dropA_ne (nA (by omega)), dropA_ne (nA (by omega))]; exact e3)
    have J4 := inv_dropA (a := N + 4) J3 (by rw [dropA_ne (nA (by omega)), dropA_ne (nA (by omega)), dropA_ne (nA (by omega)), dropA_ne (nA (by omega))]; exact e4)
    have J5 := inv_dropA (a := N + 5) J4 (by rw [dropA_ne (nA (by omega)), dropA_ne (nA (by omega)), dropA_ne (nA (by omega)), dropA_ne (nA (by omega)), dropA_ne (nA (by omega))]; exact e5)
    have h6 : ∀ d, (d = N + 5 ∨ d = N + 3 ∨ d = N + 4 ∨ d = N ∨ d = N + 1 ∨ d = N + 2) → drop6 H1 N d = none := fun d hd => by
      unfold drop6 dropA
      rcases hd with rfl | rfl | rfl | rfl | rfl | rfl <;> simp
    refine ⟨_, _, _, _, drop6 H1 N, rfl, J5, turn_zip3 sep n1 n2 n3, ⟨hz, z3.1, z4.1, z0.1, z1.1, z2.1, Nat.zero_le _, Nat.zero_le _, Nat.zero_le _⟩, fun d hd => ?_, q⟩
    simp only [List.mem_cons, List.not_mem_nil, or_false] at hd
    have hk := h6 d hd
    rcases hd with rfl | rfl | rfl | rfl | rfl | rfl
    · exact fp_drop I1 e5 (by omega) hk
    · exact fp_drop I1 e3 (by omega) hk
    · exact fp_drop I1 e4 (by omega) hk
    · exact fp_drop I1 e0 (by omega) hk
    · exact fp_drop I1 e1 (by omega) hk
    · exact fp_drop I1 e2 (by omega) hk)
end G
/-! A zip of three that waits in a name: data. -/
namespace G
open PySem L2 PySem.Spec PyProof.Rows
def zipO (t1 t2 t3 : Bool) (a b c : Addr) (N : Nat) (xs ys zs : List D) : Store :=
  [(N + 5, .ext (zFZ N) [(.ref a, seqD t1 xs), (.ref b, seqD t2 ys), (.ref c, seqD t3 zs)]), (N + 4, .ext (zFO N) []), (N + 3, .ext (zFI N) []), (N + 2, .ext (zF0 t3 (N + 2) c) []), (N + 1, .ext (zF0 t2 (N + 1) b) []), (N, .ext (zF0 t1 N a) [])]
section
variable {K : PySem.W.Frag} {ρ : Rho} {O : Store} {B H : Hp} {F : Store}
theorem hs_ext {a : Addr} {φ : Heap → Prop} {rs : List (V × D)} (hs : Hs K B H F) (h : H a = none) (hr : ∀ r ∈ rs, Rep K B r.1 r.2) : Hs K B (upd H a (.ext φ)) ((a, .ext φ rs) :: F) := hs.newOwn h ⟨upd_same, hr⟩
theorem hs_zip {t1 t2 t3 : Bool} {a b c : Addr} {N : Nat} {xs ys zs : List D} (hs : Hs K B H F) (fr : ∀ d, N ≤ d → H d = none) (ra : Rep K B (.ref a) (seqD t1 xs)) (rb : Rep K B (.ref b) (seqD t2 ys)) (rc : Rep K B (.ref c) (seqD t3 zs)) : Hs K B (zipH H t1 t2 t3 a b c N) (zipO t1 t2 t3 a b c N xs ys zs ++ F) := by
  have n0 : ∀ r ∈ ([] : List (V × D)), Rep K B r.1 r.2 := fun _ h => nomatch h
  have h0 := hs_ext (φ := zF0 t1 N a) hs (fr _ (Nat.le_refl _)) n0
  have h1 := hs_ext (a := N + 1) (φ := zF0 t2 (N + 1) b) h0 (by rw [upd_ne (nA (by omega))]; exact fr _ (Nat.le_add_right _ _)) n0
  have h2 := hs_ext (a := N + 2) (φ := zF0 t3 (N + 2) c) h1 (by rw [upd_ne (nA (by omega)), upd_ne (nA (by omega))]; exact fr _ (Nat.le_add_right _ _)) n0
  have h3 := hs_ext (a := N + 3) (φ := zFI N) h2 (by rw [upd_ne (nA (by omega)), upd_ne (nA (by omega)), upd_ne (nA (by omega))]; exact fr _ (Nat.le_add_right _ _)) n0
  have h4 := hs_ext (a := N + 4) (φ := zFO N) h3 (by rw [upd_ne (nA (by omega)), upd_ne (nA (by omega)), upd_ne (nA (by omega)), upd_ne (nA (by omega))]; exact fr _ (Nat.le_add_right _ _)) n0
  exact hs_ext (a := N + 5) (φ := zFZ N) h4 (by rw [upd_ne (nA (by omega)), upd_ne (nA (by omega)), upd_ne (nA (by omega)), upd_ne (nA (by omega)), upd_ne (nA (by omega))]; exact fr _ (Nat.le_add_right _ _)) fun r hr => by
    simp only [List.mem_cons, List.not_mem_nil, or_false] at hr
    rcases hr with rfl | rfl | rfl
    · exact ra
    · exact rb
    · exact rc
theorem hs_dropA {a : Addr} {w : Own} (hs : Hs K B H ((a, w) :: F)) : Hs K B (dropA H a) F := by
  have hb : B a = none := (hs.own _ List.mem_cons_self).1
  refine ⟨fun c u e => ?_, fun q hq => ?_, hs.tail.nd⟩
  · rw [dropA_ne (fun z => by rw [z, hb] at e; cases e)]
    exact hs.ex c u e
  · obtain ⟨h1, h2⟩ := hs.own q (List.mem_cons_of_mem _ hq)
    have hne : q.1 ≠ a := fun e => (List.nodup_cons.mp hs.nd).1 (by rw [← e]; exact List.mem_map.mpr ⟨q, hq, rfl⟩)
    exact ⟨h1, h2.mono (Evl.Ex.refl B) (dropA_ne hne)⟩
theorem drop6_eq {N : Nat} : dropA (dropA (dropA (dropA (dropA (dropA H (N + 5)) (N + 4)) (N + 3)) (N + 2)) (N + 1)) N = drop6 H N := by
  funext c
  unfold drop6 dropA
  by_cases h0 : c = N
  · subst h0; simp
  by_cases h1 : c = N + 1
  · subst h1; simp
  by_cases h2 : c = N + 2
  · subst h2; simp
  by_cases h3 : c = N + 3
  · subst h3; simp
  by_cases h4 : c = N + 4
  · subst h4; simp
  by_cases h5 : c = N + 5
  · subst h5; simp
  simp [h0, h1, h2, h3, h4, h5]
theorem e_zip3v {n : Nat} {ta : TA} {P : D → Store → Prop} (h : wA K ta ρ O fun ds O1 => ∃ t1 t2 t3 xs ys zs, ds = [seqD t1 xs, seqD t2 ys, seqD t3 zs] ∧ ∀ (N : Nat) (a b c : Addr), n ≤ N → a < N → b < N → c < N → P (.loc (N + 5)) (zipO t1 t2 t3 a b c N xs ys zs ++ O1)) : wE K (tZip3 K n ta) ρ O P := fun F σ B H e hs Q q =>
  h F σ B H e hs _ fun vs ds O1 B1 H1 p1 e1 hs1 r => by
    obtain ⟨t1, t2, t3, xs, ys, zs, rfl, p⟩ := p1
    cases r with
    | cons r1 r =>
      cases r with
      | cons r2 r =>
        cases r with
        | cons r3 r =>
          cases r
          obtain ⟨a, us, rfl, k1, q1⟩ := kd_rep r1
          obtain ⟨b, vs, rfl, k2, q2⟩ := kd_rep r2
          obtain ⟨c, ws, rfl, k3, q3⟩ := kd_rep r3
          refine ⟨t1, t2, t3, a, b, c, us, vs, ws, rfl, kd_sq k1 (Evl.Ex.refl _) hs1, kd_sq k2 (Evl.Ex.refl _) hs1, kd_sq k3 (Evl.Ex.refl _) hs1, fun N hn ha hb hc fr => ?_⟩
          refine q _ _ _ _ _ (p N a b c hn ha hb hc) e1 ?_ (.raw _)
          rw [List.append_assoc]
          exact hs_zip hs1 fr r1 r2 r3
theorem i_zipv {n : Nat} {tl : TE} {P : List D → Store → Prop} (h : wE K tl ρ O fun d O1 => ∃ (t1 t2 t3 : Bool) (a b c : Addr) (N : Nat) (xs ys zs : List D) (O2 : Store), d = .loc (N + 5) ∧ O1 = zipO t1 t2 t3 a b c N xs ys zs ++ O2 ∧ n ≤ N ∧ a < N ∧ b < N ∧ c < N ∧ xs.length < 100000 ∧ P (zipD3 xs ys zs) O2) : wI K (iZipV K n tl) ρ O P := fun F σ B H e hs R q =>
  h F σ B H e hs _ fun v d O1 B1 H1 p1 e1 hs1 r => by
    obtain ⟨t1, t2, t3, a, b, c, N, xs, ys, zs, O2, rfl, rfl, hn, ha, hb, hc, hl, p⟩ := p1
    cases r
    rw [List.append_assoc] at hs1
    have hm : ∀ x ∈ zipO t1 t2 t3 a b c N xs ys zs, x ∈ zipO t1 t2 t3 a b c N xs ys zs ++ (O2 ++ F) := fun x hx => List.mem_append_left _ hx
    have g5 := (hs1.own (N + 5, _) (hm _ List.mem_cons_self)).2
    have g4 := (hs1.own (N + 4, _) (hm _ (.tail _ (.head _)))).2
    have g3 := (hs1.own (N + 3, _) (hm _ (.tail _ (.tail _ (.head _))))).2
    have g2 := (hs1.own (N + 2, _) (hm _ (.tail _ (.tail _ (.tail _ (.head _)))))).2
    have g1 := (hs1.own (N + 1, _) (hm _ (.tail _ (.tail _ (.tail _ (.tail _ (.head _))))))).2
    have g0 := (hs1.own (N, _) (hm _ (.tail _ (.tail _ (.tail _ (.tail _ (.tail _ (.head _)))))))).2
    obtain ⟨a', us, ea, k1, q1⟩ := kd_rep (g5.2 (.ref a, seqD t1 xs) List.mem_cons_self)
    obtain ⟨b', vs, eb, k2, q2⟩ := kd_rep (g5.2 (.ref b, seqD t2 ys) (.tail _ (.head _)))
    obtain ⟨c', ws, ec, k3, q3⟩ := kd_rep (g5.2 (.ref c, seqD t3 zs) (.tail _ (.tail _ (.head _))))
    cases ea; cases eb; cases ec
    refine ⟨N, t1, t2, t3, a, b, c, us, vs, ws, rfl, hn, ha, hb, hc, by rw [q1.length]; exact hl, g0.1, g1.1, g2.1, g3.1, g4.1, g5.1, ?_⟩
    refine q _ _ O2 B1 _ p e1 ?_ (itOk_zip3 k1 q1 k2 q2 k3 q3)
    have d5 := hs_dropA hs1
    have d4 := hs_dropA d5
    have d3 := hs_dropA d4
    have d2 := hs_dropA d3
    have d1 := hs_dropA d2
    have d0 := hs_dropA d1
    rw [drop6_eq] at d0
    exact d0
end
end G
/-! Matching lamps: the weights. -/
namespace G
open PySem L2 PySem.Spec PyProof.Rows
def hdB (bs : List (List Nat)) (i : Nat) : Nat := (bs.getD i []).headD 0
def stF (n t : Nat) : Nat := if t < n - 4 then t else n - 4
def pkF (bs : List (List Nat)) (t band i : Nat) : Nat := if i = t then band else hdB bs i
def fourF (bs : List (List Nat)) (t band : Nat) : F4 := (pkF bs t band (stF bs.length t), pkF bs t band (stF bs.length t + 1), pkF bs t band (stF bs.length t + 2), pkF bs t band (stF bs.length t + 3))
def itemsW (gs : List I3) (p : F4) : List (Nat × Int) := [(p.1, detI (gI gs p.2.1) (gI gs p.2.2.1) (gI gs p.2.2.2)), (p.2.1, detI (gI gs p.1) (gI gs p.2.2.1) (gI gs p.2.2.2)), (p.2.2.1, detI (gI gs p.1) (gI gs p.2.1) (gI gs p.2.2.2)), (p.2.2.2, detI (gI gs p.1) (gI gs p.2.1) (gI gs p.2.2.1))]
def addE (es : List Int) (x : Nat × Int) : List Int := es.set x.1 (es.getD x.1 0 + x.2)
def addF (gs : List I3) (es : List Int) (p : F4) : List Int := (itemsW gs p).foldl addE es
def rowB (bs : List (List Nat)) (t : Nat) : List F4 := (bs.getD t []).map (fourF bs t)
def psT (bs : List (List Nat)) (t : Nat) : List F4 := (List.range t).flatMap (rowB bs)
def zE (n : Nat) : List Int := List.replicate n 0
def sizeF (q : Rat) : Rat := if q < 0 then -q else q
def wOf (ds : List Rat) (es : List Int) : List Rat := (List.range ds.length).map fun k => if ds.getD k 0 = 0 then 1 else ((es.getD k 0 : Int) : Rat) / sizeF (ds.getD k 0)
def esF (gs : List I3) (ds : List Rat) : List Int := (psT (blksF ds) (blksF ds).length).foldl (addF gs) (zE gs.length)
def lampW (gs : List I3) (ds : List Rat) : Option (List Rat) := if (blksF ds).length = 0 then some (List.replicate gs.length 1) else if (blksF ds).length < 4 then none else some (wOf ds (esF gs ds))
theorem psT_succ (bs : List (List Nat)) (t : Nat) : psT bs (t + 1) = psT bs t ++ rowB bs t := by
  unfold psT
  rw [List.range_succ, List.flatMap_append]
  simp
theorem addE_len (es : List Int) (x : Nat × Int) : (addE es x).length = es.length := List.length_set
theorem foldE_len : ∀ (xs : List (Nat × Int)) (es : List Int), (xs.foldl addE es).length = es.length
  | [], _ => rfl
  | x :: xs, es => by rw [List.foldl_cons, foldE_len xs, addE_len]
theorem addF_len (gs : List I3) (es : List Int) (p : F4) : (addF gs es p).length = es.length := foldE_len _ _
theorem foldF_len (gs : List I3) : ∀ (ps : List F4) (es : List Int), (ps.foldl (addF gs) es).length = es.length
  | [], _ => rfl
  | p :: ps, es => by rw [List.foldl_cons, foldF_len gs ps, addF_len]
theorem addE_get {es : List Int} {x : Nat × Int} {k : Nat} (hx : x.1 < es.length) : (addE es x).getD k 0 = if k = x.1 then es.getD k 0 + x.2 else es.getD k 0 := by
  unfold addE
  rw [List.getD_eq_getElem?_getD, List.getElem?_set]
  by_cases h : x.1 = k
  · rw [if_pos h, if_pos (by omega), if_pos h.symm, ← h]
    rfl
  · rw [if_neg h, if_neg (fun z => h z.symm), List.getD_eq_getElem?_getD]
def goodP (ds : List Rat) (p : F4) : Prop := in4 p ds.length ∧ ∃ s : Int, (s = 1 ∨ s = -1) ∧ sgn (ds.getD p.1 0) = s ∧ sgn (ds.getD p.2.1 0) = -s ∧ sgn (ds.getD p.2.2.1 0) = s ∧ sgn (ds.getD p.2.2.2 0) = -s
theorem hd_mem {bs : List (List Nat)} {i : Nat} {b : List Nat} (h : bs[i]? = some b) (hne : b ≠ []) : hdB bs i ∈ b := by
  unfold hdB
  rw [List.getD_eq_getElem?_getD, h]
  match b, hne with
  | x :: xs, _ => exact List.mem_cons_self
theorem pk_mem {ds : List Rat} {t band i : Nat} {b : List Nat} (ht : (blksF ds)[t]? = some b) (hb : band ∈ b) (hi : i < (blksF ds).length) : ∃ c, (blksF ds)[i]? = some c ∧ pkF (blksF ds) t band i ∈ c := by
  have H := bks_ok ds
  unfold pkF
  by_cases e : i = t
  · rw [if_pos e, e]
    exact ⟨b, ht, hb⟩
  · rw [if_neg e]
    have := List.getElem?_eq_getElem hi
    exact ⟨_, this, hd_mem this (H.ne _ _ this)⟩
theorem four_good {ds : List Rat} {t band : Nat} {b : List Nat} (h4 : 4 ≤ (blksF ds).length) (ht : (blksF ds)[t]? = some b) (hb : band ∈ b) : goodP ds (fourF (blksF ds) t band) := by
  have H := bks_ok ds
  have hs : stF (blksF ds).length t + 3 < (blksF ds).length := by
    unfold stF
    split <;> omega
  unfold goodP fourF in4
  simp only
  generalize stF (blksF ds).length t = s at hs
  obtain ⟨b0, e0, m0⟩ := pk_mem ht hb (show s < _ by omega)
  obtain ⟨b1, e1, m1⟩ := pk_mem ht hb (show s + 1 < _ by omega)
  obtain ⟨b2, e2, m2⟩ := pk_mem ht hb (show s + 2 < _ by omega)
  obtain ⟨b3, e3, m3⟩ := pk_mem ht hb (show s + 3 < _ by omega)
  have a1 := H.alt _ _ _ _ _ e0 e1 m0 m1
  have a2 := H.alt _ _ _ _ _ e1 e2 m1 m2
  have a3 := H.alt _ _ _ _ _ e2 e3 m2 m3
  refine ⟨⟨H.asc _ _ _ _ _ _ (by omega) e0 e1 m0 m1, H.asc _ _ _ _ _ _ (by omega) e1 e2 m1 m2, H.asc _ _ _ _ _ _ (by omega) e2 e3 m2 m3, (H.mem _ _ _ e3 m3).1⟩, _, ?_, rfl, a1, by omega, by omega⟩
  have := (H.mem _ _ _ e0 m0).2
  rcases sgn_pm (ds.getD (pkF (blksF ds) t band s) 0) with h | h | h
  · exact .inl h
  · exact .inr h
  · exact absurd h this
/-! what is added -/
theorem addF_get {gs : List I3} {es : List Int} {p : F4} {k : Nat} (hp : in4 p es.length) : (addF gs es p).getD k 0 = if k = p.1 then es.getD k 0 + detI (gI gs p.2.1) (gI gs p.2.2.1) (gI gs p.2.2.2) else if k = p.2.1 then es.getD k 0 + detI (gI gs p.1) (gI gs p.2.2.1) (gI gs p.2.2.2) else if k = p.2.2.1 then es.getD k 0 + detI (gI gs p.1) (gI gs p.2.1) (gI gs p.2.2.2) else if k = p.2.2.2 then es.getD k 0 + detI (gI gs p.1) (gI gs p.2.1) (gI gs p.2.2.1) else es.getD k 0 := by
  obtain ⟨i, j, l, m⟩ := p
  obtain ⟨h1, h2, h3, h4⟩ := hp
  simp only at h1 h2 h3 h4
  unfold addF itemsW
  simp only [List.foldl_cons, List.foldl_nil]
  rw [addE_get (by rw [addE_len, addE_len, addE_len]; exact h4), addE_get (by rw [addE_len, addE_len]; simp only; omega), addE_get (by rw [addE_len]; simp only; omega), addE_get (by simp only; omega)]
  simp only
  by_cases e1 : k = i
  · rw [if_pos e1, if_neg (by omega), if_neg (by omega), if_neg (by omega), if_pos e1]
  by_cases e2 : k = j
  · rw [if_neg e1, if_neg (by omega), if_neg (by omega), if_pos e2, if_neg e1, if_pos e2]
  by_cases e3 : k = l
  · rw [if_neg e1, if_neg e2, if_neg (by omega), if_pos e3, if_neg e2, if_neg e1, if_pos e3]
  by_cases e4 : k = m
  · simp only [if_neg e1, if_neg e2, if_neg e3, if_pos e4]
  · simp only [if_neg e1, if_neg e2, if_neg e3, if_neg e4]
/-- what the weighted differences add up to, part by part -/
def cancelS (gs : List I3) (ds : List Rat) (es : List Int) (f : I3 → Int) : Int := sR gs.length fun k => es.getD k 0 * (sgn (ds.getD k 0) * f (gI gs k))
/-- what is kept while fours are added -/
structure EsOk (gs : List I3) (ds : List Rat) (ps : List F4) (es : List Int) : Prop where
  len : es.length = gs.length
  nn : ∀ k, 0 ≤ es.getD k 0
  x : cancelS gs ds es I3.x = 0
  y : cancelS gs ds es I3.y = 0
  z : cancelS gs ds es I3.z = 0
  pos : ∀ p ∈ ps, ∀ k, k ∈ [p.1, p.2.1, p.2.2.1, p.2.2.2] → 0 < es.getD k 0
theorem zE_get (n k : Nat) : (zE n).getD k 0 = 0 := by
  unfold zE
  rw [List.getD_eq_getElem?_getD, List.getElem?_replicate]
  split <;> rfl
theorem psT_good {ds : List Rat} (h4 : 4 ≤ (blksF ds).length) {t : Nat} (ht : t ≤ (blksF ds).length) : ∀ p ∈ psT (blksF ds) t, goodP ds p := fun p hp => by
  unfold psT at hp
  obtain ⟨u, hu, hp⟩ := List.mem_flatMap.mp hp
  have hu := List.mem_range.mp hu
  unfold rowB at hp
  obtain ⟨b, hb, rfl⟩ := List.mem_map.mp hp
  have e := List.getElem?_eq_getElem (show u < (blksF ds).length by omega)
  rw [List.getD_eq_getElem?_getD, e] at hb
  exact four_good h4 e hb
end G
/-! Matching lamps: what the weights do. -/
namespace G
open PySem L2 PySem.Spec PyProof.Rows
theorem wOf_len (ds : List Rat) (es : List Int) : (wOf ds es).length = ds.length := by simp [wOf]
theorem wOf_get {ds : List Rat} {es : List Int} {k : Nat} (hk : k < ds.length) : (wOf ds es)[k]? = some (if ds.getD k 0 = 0 then 1 else ((es.getD k 0 : Int) : Rat) / sizeF (ds.getD k 0)) := by
  unfold wOf
  rw [List.getElem?_map, List.getElem?_range hk]
  rfl
theorem wOf_at {ds : List Rat} {es : List Int} {k : Nat} (hk : k < ds.length) : (wOf ds es).getD k 0 = if ds.getD k 0 = 0 then 1 else ((es.getD k 0 : Int) : Rat) / sizeF (ds.getD k 0) := by
  rw [List.getD_eq_getElem?_getD, wOf_get hk]
  rfl
theorem size_ne {q : Rat} (h : q ≠ 0) : sizeF q ≠ 0 := by
  unfold sizeF
  split
  · grind
  · exact h
theorem bits_size {q : Rat} {m : Nat} (h : bits q m) : bits (sizeF q) m := by
  unfold sizeF
  split
  · exact bits_neg h
  · exact h
theorem wOf_set {ds : List Rat} {es : List Int} {k : Nat} {e : Int} (hk : k < ds.length) (hes : es.length = ds.length) (hne : ds.getD k 0 ≠ 0) : (wOf ds es).set k ((wOf ds es).getD k 0 + (e : Rat) / sizeF (ds.getD k 0)) = wOf ds (addE es (k, e)) := by
  apply List.ext_getElem?
  intro j
  by_cases hj : j < ds.length
  · rw [List.getElem?_set, wOf_get hj, wOf_get hj, addE_get (by simp only; omega)]
    simp only
    by_cases h : k = j
    · subst h
      rw [if_pos rfl, if_pos (by rw [wOf_len]; exact hk), if_neg hne, if_pos rfl, wOf_at hk, if_neg hne, Rat.intCast_add]
      have := size_ne hne
      congr 1
      grind
    · rw [if_neg h, if_neg (show ¬ j = k from fun z => h z.symm)]
  · rw [List.getElem?_eq_none (by rw [List.length_set, wOf_len]; omega), List.getElem?_eq_none (by rw [wOf_len]; omega)]
theorem wOf_zero (ds : List Rat) : wOf ds (zE ds.length) = ds.map fun d => if d = 0 then 1 else 0 := by
  apply List.ext_getElem?
  intro k
  by_cases hk : k < ds.length
  · rw [wOf_get hk, List.getElem?_map, List.getElem?_eq_getElem hk, zE_get, List.getD_eq_getElem?_getD, List.getElem?_eq_getElem hk]
    simp only [Option.map_some, Option.getD_some]
    congr 1
    split
    · rfl
    · show (0 : Rat) / _ = 0
      grind
  · rw [List.getElem?_eq_none (by rw [wOf_len]; omega), List.getElem?_eq_none (by rw [List.length_map]; omega)]
/-! how great they are -/
theorem bk_flat (qs : List Rat) : ∀ i, (bkS qs i).1.flatten.length ≤ i
  | 0 => Nat.le_refl _
  | i + 1 => by
    have ih := bk_flat qs i
    have hz := (bk_ok qs i).zero
    unfold bkS
    split
    · omega
    · split
      · rename_i h0 h1
        have hne : (bkS qs i).1 ≠ [] := fun z => h0 (by rw [h1]; exact hz z)
        generalize (bkS qs i).1 = bs at *
        obtain ⟨cs, c, rfl⟩ := last_snoc bs hne
        have ea : appL (cs ++ [c]) i = cs ++ [c ++ [i]] := by
          unfold appL
          rw [List.getLast?_append, List.getLast?_singleton]
          simp
        show (appL (cs ++ [c]) i).flatten.length ≤ _
        rw [ea]
        simp at ih ⊢
        omega
      · simp
        simp at ih
        omega
theorem psT_flat (bs : List (List Nat)) : ∀ t, t ≤ bs.length → (psT bs t).length = (bs.take t).flatten.length
  | 0, _ => by simp [psT]
  | t + 1, h => by
    rw [psT_succ, List.length_append, psT_flat bs t (by omega), List.take_succ]
    have e := List.getElem?_eq_getElem (show t < bs.length by omega)
    rw [e, List.flatten_append, List.length_append]
    unfold rowB
    rw [List.length_map, List.getD_eq_getElem?_getD, e]
    simp
theorem psT_le (ds : List Rat) {t : Nat} (ht : t ≤ (blksF ds).length) : (psT (blksF ds) t).length ≤ ds.length := by
  rw [psT_flat _ _ ht]
  have := bk_flat ds ds.length
  change (blksF ds).flatten.length ≤ _ at this
  have h2 : ((blksF ds).take t).flatten.length ≤ (blksF ds).flatten.length := by
    have := congrArg List.flatten (List.take_append_drop t (blksF ds))
    rw [List.flatten_append] at this
    rw [← this, List.length_append]
    omega
  omega
theorem es_bound {gs : List I3} (hg : smallG gs) : ∀ (ps : List F4) (es : List Int) (B : Nat), es.length = gs.length → (∀ p ∈ ps, in4 p gs.length) → (∀ k, (es.getD k 0).natAbs ≤ B) → ∀ k, ((ps.foldl (addF gs) es).getD k 0).natAbs ≤ B + ps.length * 375000000
  | [], es, B, _, _, h, k => by simpa using h k
  | p :: ps, es, B, hl, hp, h, k => by
    rw [List.foldl_cons, List.length_cons]
    have h4 := hp p List.mem_cons_self
    have := es_bound hg ps (addF gs es p) (B + 375000000) (by rw [addF_len]; exact hl) (fun q hq => hp q (List.mem_cons_of_mem _ hq)) (fun j => by
      rw [addF_get (by rw [hl]; exact h4)]
      obtain ⟨h1, h2, h3, h5⟩ := h4
      have a := h j
      have d1 := det_sm hg (i := p.2.1) (j := p.2.2.1) (k := p.2.2.2) (by omega) (by omega) (by omega)
      have d2 := det_sm hg (i := p.1) (j := p.2.2.1) (k := p.2.2.2) (by omega) (by omega) (by omega)
      have d3 := det_sm hg (i := p.1) (j := p.2.1) (k := p.2.2.2) (by omega) (by omega) (by omega)
      have d4 := det_sm hg (i := p.1) (j := p.2.1) (k := p.2.2.1) (by omega) (by omega) (by omega)
      split
      · omega
      · split
        · omega
        · split
          · omega
          · split <;> omega) k
    omega
theorem w_bits {ds : List Rat} {es : List Int} {m : Nat} (hb : ∀ q ∈ ds, bits q m) (he : ∀ k, (es.getD k 0).natAbs < 2 ^ 32) : ∀ q ∈ wOf ds es, bits q (m + 33) := fun q hq => by
  unfold wOf at hq
  obtain ⟨k, hk, rfl⟩ := List.mem_map.mp hq
  have hk := List.mem_range.mp hk
  split
  · exact bits_mono bits_one (by omega)
  · rename_i hne
    have b1 : bits ((es.getD k 0 : Int) : Rat) 32 := bits_whole (he k) (by decide)
    have b2 := bits_size (hb (ds.getD k 0) (getD_memR hk))
    exact bits_mono (bits_over (size_ne hne) b1 b2) (by omega)
theorem pre_bits {gs : List I3} {ds : List Rat} (hg : smallG gs) (hl : ds.length = gs.length) (ps : List F4) (hp : ∀ p ∈ ps, in4 p gs.length) (h7 : ps.length ≤ 7) : ∀ k, ((ps.foldl (addF gs) (zE gs.length)).getD k 0).natAbs < 2 ^ 32 := fun k => by
  have := es_bound hg ps (zE gs.length) 0 List.length_replicate hp (fun k => by rw [zE_get]; decide) k
  have h := Nat.mul_le_mul_right 375000000 h7
  omega
/-! they match -/
theorem bkS_succ (qs : List Rat) (i : Nat) : bkS qs (i + 1) = if sgn (qs.getD i 0) = 0 then bkS qs i else if sgn (qs.getD i 0) = (bkS qs i).2 then (appL (bkS qs i).1 i, (bkS qs i).2) else ((bkS qs i).1 ++ [[i]], sgn (qs.getD i 0)) := rfl
theorem blk_bst (qs : List Rat) : ∀ i, i ≤ qs.length → ((bkS qs i).1.length, (bkS qs i).2) = bst (qs.take i)
  | 0, _ => rfl
  | i + 1, h => by
    have e := List.getElem?_eq_getElem (show i < qs.length by omega)
    have hd : qs.getD i 0 = qs[i] := by rw [List.getD_eq_getElem?_getD, e]; rfl
    rw [bst_take e, ← blk_bst qs i (by omega)]
    have hz := (bk_ok qs i).zero
    rw [bkS_succ]
    unfold bstep
    rw [hd]
    by_cases h0 : sgn qs[i] = 0
    · rw [if_pos h0, if_pos h0]
    · rw [if_neg h0, if_neg h0]
      by_cases h1 : sgn qs[i] = (bkS qs i).2
      · rw [if_pos h1, if_pos h1]
        have hne : (bkS qs i).1 ≠ [] := fun z => h0 (by rw [h1]; exact hz z)
        generalize (bkS qs i).1 = bs at hne ⊢
        obtain ⟨cs, c, rfl⟩ := last_snoc bs hne
        have ea : appL (cs ++ [c]) i = cs ++ [c ++ [i]] := by
          unfold appL
          rw [List.getLast?_append, List.getLast?_singleton]
          simp
        simp only
        rw [ea]
        simp
      · rw [if_neg h1, if_neg h1]
        simp
theorem blk_len (qs : List Rat) : (blksF qs).length = (bst qs).1 := by
  have := blk_bst qs qs.length (Nat.le_refl _)
  rw [List.take_length] at this
  exact congrArg Prod.fst this
end G
/-! A list of lists that changes no more; words of lamps. -/
namespace G
open PySem L2 PySem.Spec PyProof.Rows
section
variable {K : PySem.W.Frag} {ρ ρ' : Rho} {O O' : Store} {H : Hp} {ts : TS} {PS : Out → Store → Prop}
theorem hs_freezeAll : ∀ (ls : List (Addr × List D)) (R : Store) (B : Hp), Hs K B H ((ls.map fun l => (l.1, Own.lst l.2)) ++ R) → ∃ B', Ex B B' ∧ Hs K B' H R ∧ ∀ l ∈ ls, Rep K B' (.ref l.1) (.lst l.2)
  | [], R, B, hs => ⟨B, Evl.Ex.refl B, hs, fun _ h => nomatch h⟩
  | l :: ls, R, B, hs => by
    have hs : Hs K B H ((l.1, Own.lst l.2) :: ((ls.map fun l => (l.1, Own.lst l.2)) ++ R)) := hs
    obtain ⟨vs, h1, r⟩ := (hs.own _ List.mem_cons_self).2
    obtain ⟨hs2, e2⟩ := hs.freeze h1
    obtain ⟨B', e', hs', hr⟩ := hs_freezeAll ls R _ hs2
    refine ⟨B', e2.trans e', hs', fun m hm => ?_⟩
    rcases List.mem_cons.mp hm with rfl | hm
    · exact .lst (e' _ _ upd_same) (r.mono (e2.trans e'))
    · exact hr m hm
theorem reps_locs : ∀ {ls : List (Addr × List D)} {B : Hp} {vs : List V}, Reps K B vs (ls.map fun l => D.loc l.1) → (∀ l ∈ ls, Rep K B (.ref l.1) (.lst l.2)) → Reps K B vs (ls.map fun l => D.lst l.2)
  | [], _, _, .nil, _ => .nil
  | l :: ls, _, _, .cons h r, hr => by
    cases h
    exact .cons (hr l List.mem_cons_self) (reps_locs r fun m hm => hr m (List.mem_cons_of_mem _ hm))
theorem s_deep {xb : Addr} {ls : List (Addr × List D)} (hp : O.Perm ((xb, .lst (ls.map fun l => .loc l.1)) :: ((ls.map fun l => (l.1, Own.lst l.2)) ++ O')))
    (hlen : ρ'.length = ρ.length) (hρ : ∀ (i : Nat) (d : D), ρ'[i]? = some (some d) → ρ[i]? = some (some d) ∨ (ρ[i]? = some (some (.loc xb)) ∧ d = .lst (ls.map fun l => .lst l.2))) (h : wS K ts ρ' O' PS) : wS K ts ρ O PS := fun F σ B H e hs Dn q => by
  have hs1 : Hs K B H (((ls.map fun l => (l.1, Own.lst l.2)) ++ ((xb, .lst (ls.map fun l => .loc l.1)) :: (O' ++ F)))) := hs.perm ((hp.append_right F).trans (by
    rw [List.cons_append, List.append_assoc]
    exact List.perm_middle.symm))
  obtain ⟨B1, e1, hs2, hr⟩ := hs_freezeAll ls _ B hs1
  obtain ⟨vs, h1, r⟩ := (hs2.own _ List.mem_cons_self).2
  have r2 := reps_locs r hr
  obtain ⟨hs3, e3⟩ := hs2.freeze h1
  refine h F σ _ H ⟨by rw [e.len, hlen], fun i d hd => ?_⟩ hs3 Dn (q.ex (e1.trans e3))
  rcases hρ i d hd with hd2 | ⟨hd2, hde⟩
  · obtain ⟨v, hv, rv⟩ := e.get i d hd2
    exact ⟨v, hv, rv.mono (e1.trans e3)⟩
  · subst hde
    obtain ⟨v, hv, rv⟩ := e.get i (.loc xb) hd2
    cases rv
    exact ⟨_, hv, .lst upd_same (r2.mono e3)⟩
end
def blkD (bs : List (List Nat)) : D := .lst (bs.map fun b => .lst (b.map fun (k : Nat) => D.int (k : Int)))
def fL (p : F4) : D := .lst [.int (p.1 : Int), .int (p.2.1 : Int), .int (p.2.2.1 : Int), .int (p.2.2.2 : Int)]
theorem blkD_at {bs : List (List Nat)} {i : Int} (h0 : 0 ≤ i) (h : i < (bs.length : Int)) : atI (bs.map fun b => D.lst (b.map fun (k : Nat) => D.int (k : Int))) i = some (.lst ((bs.getD i.toNat []).map fun (k : Nat) => D.int (k : Int))) := by
  rw [atI_nat' h0 (by rw [List.length_map]; exact h), List.getElem?_map, List.getElem?_eq_getElem (show i.toNat < bs.length by omega), List.getD_eq_getElem?_getD, List.getElem?_eq_getElem (show i.toNat < bs.length by omega)]
  rfl
def W_sblkF (C : Addr) (ds : List D) (P : D → Prop) : Prop := ∃ qs : List Rat, ds = [.tup (qs.map (dQ C))] ∧ qs.length ≤ 1000 ∧ P (blkD (blksF qs))
def W_size (C : Addr) (ds : List D) (P : D → Prop) : Prop := ∃ (q : Rat) (m : Nat), ds = [dQ C q] ∧ bits q m ∧ m ≤ 2000 ∧ P (dQ C (sizeF q))
def W_four (ds : List D) (P : D → Prop) : Prop := ∃ (bs : List (List Nat)) (t band : Nat), ds = [blkD bs, .int (t : Int), .int (band : Int)] ∧ 4 ≤ bs.length ∧ bs.length ≤ 100 ∧ (∀ b ∈ bs, b ≠ []) ∧ P (fL (fourF bs t band))
def W_odetsL (C : Addr) (ds : List D) (P : D → Prop) : Prop := ∃ (gs : List I3) (p : F4), ds = [vD C gs, fL p] ∧ smallG gs ∧ in4 p gs.length ∧ P (detsD C gs p)
def W_wts (C : Addr) (ds : List D) (P : D → Prop) : Prop := ∃ (gs : List I3) (qs : List Rat) (m : Nat), ds = [vD C gs, .tup (qs.map (dQ C)), blkD (blksF qs)] ∧ smallG gs ∧ qs.length = gs.length ∧ (∀ q ∈ qs, bits q m) ∧ m ≤ 300 ∧ 4 ≤ (blksF qs).length ∧ P (.tup ((wOf qs (esF gs qs)).map (dQ C)))
def difF (xs ys : List Rat) : List Rat := List.zipWith (fun x y => x - y) xs ys
def W_mlamp (CO C : Addr) (ds : List D) (P : D → Prop) : Prop := ∃ (bs : List I3) (xs ys : List Rat) (m : Nat), ds = [dObs CO C bs, .tup (xs.map (dQ C)), .tup (ys.map (dQ C))] ∧ okBands bs ∧ xs.length = bs.length ∧ ys.length = bs.length ∧ (∀ q ∈ xs, bits q m ∧ 0 ≤ q ∧ q ≤ 1) ∧ (∀ q ∈ ys, bits q m ∧ 0 ≤ q ∧ q ≤ 1) ∧ m ≤ 140 ∧ P (encM C (lampW bs (difF xs ys)))
theorem ok_small {bs : List I3} (h : okBands bs) : smallG bs := ⟨h.2.1, fun r hr => by
  obtain ⟨⟨a, b⟩, ⟨c, d⟩, e, f⟩ := h.2.2 r hr
  exact ⟨⟨a, by omega⟩, ⟨c, by omega⟩, e, by omega⟩⟩
end G
/-! Papers of lamps. -/
namespace G
open PySem L2 PySem.Spec PyProof.Rows
section
variable {K : PySem.W.Frag}
theorem go_three {i j k n : Nat} {vs : List Nat} (hi : i ∈ vs) (hj : j ∈ vs) (hk : k ∈ vs) : GOnly (gTup K n (gCons (gName i) (gCons (gName j) (gCons (gName k) gNil)))) vs :=
  go_tup (gs_cons (go_name hi) gm_name (gs_cons (go_name hj) gm_name (gs_cons (go_name hk) gm_name gs_nil gms_nil) (gms_cons gm_name gms_nil)) (gms_cons gm_name (gms_cons gm_name gms_nil)))
theorem gm_three {i j k n : Nat} : GMono (gTup K n (gCons (gName i) (gCons (gName j) (gCons (gName k) gNil)))) := gm_tup (gms_cons gm_name (gms_cons gm_name (gms_cons gm_name gms_nil)))
end
def mulL (xs ys : List Rat) : List Rat := List.zipWith (fun x y => x * y) xs ys
def matchF (bs : List I3) (ws ds : List Rat) : Bool := decide (colV bs (mulL ws ds) = zV)
def jlF (bs : List I3) (xs ys : List Rat) (d : D) : Bool := (formF d (Str.ofString "lamp") 2 && (weightsF bs.length (itemD d 1) && matchF bs (qsOf (itemD d 1)) (difF xs ys))) || (formF d (Str.ofString "few") 2 && (numF (itemD d 1) 0 2 && (!decide (xs = ys) && decide (crossN (difF xs ys) = (natOf (itemD d 1) : Int)))))
def W_domatch (CO C : Addr) (ds : List D) (P : D → Prop) : Prop := ∃ (bs : List I3) (xs ys ws : List Rat) (m : Nat), ds = [dObs CO C bs, .tup (xs.map (dQ C)), .tup (ys.map (dQ C)), .tup (ws.map (dQ C))] ∧ okBands bs ∧ xs.length = bs.length ∧ ys.length = bs.length ∧ ws.length = bs.length ∧ (∀ q ∈ xs, bits q m) ∧ (∀ q ∈ ys, bits q m) ∧ m ≤ 100 ∧ (∀ q ∈ ws, bits q 600) ∧ P (.bl (matchF bs ws (difF xs ys)))
def W_jlG (CO C CB : Addr) (ds : List D) (P : D → Prop) (PX : Addr → Prop) : Prop := ∃ (bs : List I3) (d1 d2 d : D), ds = [dObs CO C bs, d1, d2, d] ∧ okBands bs ∧ Thg C d1 ∧ Thg C d2 ∧ Thg C d ∧ (reflF bs.length d1 = false → PX CB) ∧ (reflF bs.length d1 = true → reflF bs.length d2 = false → PX CB) ∧
  (reflF bs.length d1 = true → reflF bs.length d2 = true → ∃ (xs ys : List Rat) (m : Nat), d1 = .tup (xs.map (dQ C)) ∧ d2 = .tup (ys.map (dQ C)) ∧ xs.length = bs.length ∧ ys.length = bs.length ∧ (∀ q ∈ xs, bits q m) ∧ (∀ q ∈ ys, bits q m) ∧ m ≤ 100 ∧ P (.bl (jlF bs xs ys d)))
def lampPap (C : Addr) (bs : List I3) (xs ys : List Rat) : D := match lampW bs (difF xs ys) with
  | some ws => .tup [.raw (.str (Str.ofString "lamp")), .tup (ws.map (dQ C))]
  | none => .tup [.raw (.str (Str.ofString "few")), .int (crossN (difF xs ys))]
def W_expllamp (CO C : Addr) (ds : List D) (P : D → Prop) : Prop := ∃ (bs : List I3) (xs ys : List Rat) (m : Nat), ds = [dObs CO C bs, .tup (xs.map (dQ C)), .tup (ys.map (dQ C))] ∧ okBands bs ∧ xs.length = bs.length ∧ ys.length = bs.length ∧ (∀ q ∈ xs, bits q m ∧ 0 ≤ q ∧ q ≤ 1) ∧ (∀ q ∈ ys, bits q m ∧ 0 ≤ q ∧ q ≤ 1) ∧ m ≤ 100 ∧ P (lampPap C bs xs ys)
theorem ws_quo {C : Addr} : ∀ (ds : List D), (∀ d ∈ ds, Thg C d) → ds.all weightF = true → ∃ ws : List Rat, ds = ws.map (dQ C) ∧ ∀ q ∈ ws, bits q 600 ∧ 0 < q
  | [], _, _ => ⟨[], rfl, fun _ h => nomatch h⟩
  | d :: ds, hd, h => by
    rw [List.all_cons, Bool.and_eq_true] at h
    obtain ⟨ws, rfl, hq⟩ := ws_quo ds (fun x hx => hd x (List.mem_cons_of_mem _ hx)) h.2
    have h1 := h.1
    have hd1 := hd d List.mem_cons_self
    cases hd1 with
    | quo q hb =>
      refine ⟨q :: ws, rfl, fun x hx => ?_⟩
      rcases List.mem_cons.mp hx with rfl | hx
      · refine ⟨hb, ?_⟩
        unfold weightF at h1
        rw [qOf_dQ] at h1
        exact of_decide_eq_true h1
      · exact hq x hx
    | _ => exact absurd (show (false = true) from h1) (by decide)
theorem weights_quo {C : Addr} {n : Nat} {d : D} (hd : Thg C d) (h : weightsF n d = true) : ∃ ws : List Rat, d = .tup (ws.map (dQ C)) ∧ ws.length = n ∧ ∀ q ∈ ws, bits q 600 ∧ 0 < q := by
  unfold weightsF at h
  split at h
  · rename_i ds
    rw [Bool.and_eq_true, decide_eq_true_eq] at h
    cases hd with
    | tup _ hd =>
      obtain ⟨ws, rfl, hq⟩ := ws_quo ds hd h.2
      exact ⟨ws, rfl, by rw [← h.1, List.length_map], hq⟩
  · cases h
theorem difF_len {xs ys : List Rat} {n : Nat} (hx : xs.length = n) (hy : ys.length = n) : (difF xs ys).length = n := by
  unfold difF
  rw [List.length_zipWith]
  omega
theorem difF_bits {xs ys : List Rat} {m : Nat} (hx : ∀ q ∈ xs, bits q m) (hy : ∀ q ∈ ys, bits q m) : ∀ q ∈ difF xs ys, bits q (m + m + 1) := fun q hq => by
  obtain ⟨k, hk, rfl⟩ := List.mem_iff_getElem.mp hq
  unfold difF at hk ⊢
  rw [List.length_zipWith] at hk
  rw [List.getElem_zipWith]
  exact bits_sub (hx _ (List.getElem_mem _)) (hy _ (List.getElem_mem _))
theorem hd_at {b : List Nat} (h : b ≠ []) : atI (b.map fun (k : Nat) => D.int (k : Int)) 0 = some (.int ((b.headD 0 : Nat) : Int)) := by
  match b, h with
  | x :: xs, _ =>
    rw [atI_nat' (by omega) (by rw [List.length_map, List.length_cons]; omega)]
    rfl
end G
namespace G
open PySem L2 PySem.Spec PyProof.Rows
theorem zip_itemsW (C : Addr) (gs : List I3) (p : F4) : zipD [D.int (p.1 : Int), D.int (p.2.1 : Int), D.int (p.2.2.1 : Int), D.int (p.2.2.2 : Int)] [dQ C ((detI (gI gs p.2.1) (gI gs p.2.2.1) (gI gs p.2.2.2) : Int) : Rat), dQ C ((detI (gI gs p.1) (gI gs p.2.2.1) (gI gs p.2.2.2) : Int) : Rat), dQ C ((detI (gI gs p.1) (gI gs p.2.1) (gI gs p.2.2.2) : Int) : Rat), dQ C ((detI (gI gs p.1) (gI gs p.2.1) (gI gs p.2.2.1) : Int) : Rat)] = (itemsW gs p).map fun x => D.tup [.int (x.1 : Int), dQ C ((x.2 : Int) : Rat)] := rfl
theorem sgn_ne {q : Rat} {s : Int} (h : sgn q = s) (hs : s = 1 ∨ s = -1) : q ≠ 0 := fun z => by
  rw [z, show sgn 0 = 0 by decide] at h
  omega
theorem itemsW_ok {gs : List I3} {ds : List Rat} {p : F4} (hg : smallG gs) (hl : ds.length = gs.length) (hp : goodP ds p) : ∀ x ∈ itemsW gs p, x.1 < gs.length ∧ ds.getD x.1 0 ≠ 0 ∧ x.2.natAbs < 2 ^ 30 := fun x hx => by
  obtain ⟨⟨h1, h2, h3, h5⟩, s, hs, s1, s2, s3, s4⟩ := hp
  have hs' : -s = 1 ∨ -s = -1 := by omega
  have d1 := det_sm hg (i := p.2.1) (j := p.2.2.1) (k := p.2.2.2) (by omega) (by omega) (by omega)
  have d2 := det_sm hg (i := p.1) (j := p.2.2.1) (k := p.2.2.2) (by omega) (by omega) (by omega)
  have d3 := det_sm hg (i := p.1) (j := p.2.1) (k := p.2.2.2) (by omega) (by omega) (by omega)
  have d4 := det_sm hg (i := p.1) (j := p.2.1) (k := p.2.2.1) (by omega) (by omega) (by omega)
  simp only [itemsW, List.mem_cons, List.not_mem_nil, or_false] at hx
  rcases hx with rfl | rfl | rfl | rfl
  · exact ⟨by simp only; omega, sgn_ne s1 hs, by simp only; omega⟩
  · exact ⟨by simp only; omega, sgn_ne s2 hs', by simp only; omega⟩
  · exact ⟨by simp only; omega, sgn_ne s3 hs, by simp only; omega⟩
  · exact ⟨by simp only; omega, sgn_ne s4 hs', by simp only; omega⟩
theorem foldE_bound : ∀ (xs : List (Nat × Int)) (es : List Int) (B : Nat), (∀ x ∈ xs, x.1 < es.length ∧ x.2.natAbs < 2 ^ 30) → (∀ k, (es.getD k 0).natAbs ≤ B) → ∀ k, ((xs.foldl addE es).getD k 0).natAbs ≤ B + xs.length * 2 ^ 30
  | [], es, B, _, h, k => by simpa using h k
  | x :: xs, es, B, hx, h, k => by
    rw [List.foldl_cons, List.length_cons]
    obtain ⟨h1, h2⟩ := hx x List.mem_cons_self
    have := foldE_bound xs (addE es x) (B + 2 ^ 30) (fun y hy => by rw [addE_len]; exact hx y (List.mem_cons_of_mem _ hy)) (fun j => by
      rw [addE_get h1]
      have := h j
      split <;> omega) k
    omega
theorem blk_few {ds : List Rat} {n : Nat} (h : ds.length = n) : (blksF ds).length ≤ n ∧ ∀ b ∈ blksF ds, b ≠ [] ∧ b.length ≤ n := by
  have H := bks_ok ds
  have hf := bk_flat ds ds.length
  change (blksF ds).flatten.length ≤ _ at hf
  have hne : ∀ b ∈ blksF ds, b ≠ [] := fun b hb => by
    obtain ⟨t, ht, e⟩ := List.mem_iff_getElem.mp hb
    exact H.ne t b (by rw [List.getElem?_eq_getElem ht, e])
  have h1 : ∀ bs : List (List Nat), (∀ b ∈ bs, b ≠ []) → bs.length ≤ bs.flatten.length ∧ ∀ b ∈ bs, b.length ≤ bs.flatten.length := fun bs => by
    induction bs with
    | nil => exact fun _ => ⟨Nat.le_refl _, fun _ h => nomatch h⟩
    | cons b bs ih =>
      intro h
      obtain ⟨a1, a2⟩ := ih fun c hc => h c (List.mem_cons_of_mem _ hc)
      have h2 : 0 < b.length := List.length_pos_iff.mpr (h b List.mem_cons_self)
      rw [List.flatten_cons, List.length_append, List.length_cons]
      refine ⟨by omega, fun c hc => ?_⟩
      rcases List.mem_cons.mp hc with rfl | hc
      · omega
      · have := a2 c hc
        omega
  obtain ⟨a1, a2⟩ := h1 _ hne
  exact ⟨by omega, fun b hb => ⟨hne b hb, by have := a2 b hb; omega⟩⟩
end G
namespace G
open PySem L2 PySem.Spec PyProof.Rows
theorem w_bitsN {ds : List Rat} {es : List Int} {m N : Nat} (hN : 0 < N) (hb : ∀ q ∈ ds, bits q m) (he : ∀ k, (es.getD k 0).natAbs < 2 ^ N) : ∀ q ∈ wOf ds es, bits q (m + N + 1) := fun q hq => by
  unfold wOf at hq
  obtain ⟨k, hk, rfl⟩ := List.mem_map.mp hq
  have hk := List.mem_range.mp hk
  split
  · exact bits_mono bits_one (by omega)
  · rename_i hne
    have b1 : bits ((es.getD k 0 : Int) : Rat) N := bits_whole (he k) hN
    have b2 := bits_size (hb (ds.getD k 0) (getD_memR hk))
    exact bits_mono (bits_over (size_ne hne) b1 b2) (by omega)
end G
/-! == of a great color with black; walked rows of lamps. -/
namespace G
open PySem L2 PySem.Spec PyProof.Rows
theorem btup_q2 {K : PySem.W.Frag} {C : Addr} {xs ys : List Rat} {m n : Nat} {B H : Hp} {v u : V} (hl : xs.length = ys.length) (hx : ∀ q ∈ xs, bits q m) (hy : ∀ q ∈ ys, bits q n) (hm : m + n ≤ 8900) (e : Ex B H) (rx : Rep K B v (.tup (xs.map (dQ C)))) (ry : Rep K B u (.tup (ys.map (dQ C)))) :
    BTup K (BQ K C) v u H (decide (xs = ys)) := by
  cases rx with
  | tup h1 r1 =>
    cases ry with
    | tup h2 r2 =>
      have l1 := r1.length
      have l2 := r2.length
      rw [List.length_map] at l1 l2
      refine ⟨_, _, _, _, nthEq xs ys, rfl, rfl, Evl.ex_t e h1, Evl.ex_t e h2, by omega, fun i a b ha hb H' e' => ?_, by rw [l1, allB_eq hl]⟩
      have hi : i < xs.length := by
        have := (List.getElem?_eq_some_iff.mp ha).1
        omega
      obtain ⟨d1, g1, q1⟩ := r1.get' ha
      obtain ⟨d2, g2, q2⟩ := r2.get' hb
      rw [List.getElem?_map, List.getElem?_eq_getElem hi] at g1
      rw [List.getElem?_map, List.getElem?_eq_getElem (show i < ys.length by omega)] at g2
      cases g1
      cases g2
      have w1 := q1.mono (e.trans e')
      have w2 := q2.mono (e.trans e')
      have k1 := w1
      have k2 := w2
      cases k1 with
      | ins _ _ =>
        cases k2 with
        | ins _ _ =>
          refine ⟨_, _, xs[i], ys[i], m, n, rfl, rfl, w1, w2, hx _ (List.getElem_mem hi), hy _ (List.getElem_mem _), hm, ?_⟩
          unfold nthEq
          rw [List.getElem?_eq_getElem hi, List.getElem?_eq_getElem (show i < ys.length by omega)]
          simp
theorem r_eqV2 {K : PySem.W.Frag} {O : Store} {P : D → Store → Prop} {C : Addr} {v u : V3} {m n : Nat} (hv : bitsV v m) (hu : bitsV u n) (hm : m + n ≤ 8900) (p : P (.bl (decide (v = u))) O) : wR K (rEqB (BTup K (BQ K C))) (dV C v) (dV C u) O P := by
  have mem : ∀ {v : V3} {m : Nat}, bitsV v m → ∀ q ∈ [v.x, v.y, v.z], bits q m := fun h q hq => by
    obtain ⟨h1, h2, h3⟩ := h
    simp at hq
    rcases hq with rfl | rfl | rfl <;> assumption
  have e : decide ([v.x, v.y, v.z] = [u.x, u.y, u.z]) = decide (v = u) := by
    rw [Bool.eq_iff_iff, decide_eq_true_iff, decide_eq_true_iff]
    constructor
    · intro h
      simp at h
      exact V3.ext' h.1 h.2.1 h.2.2
    · rintro rfl
      rfl
  rw [← e] at p
  exact fun F v' u' B H rx ry hs Q q => ⟨_, btup_q2 (xs := [v.x, v.y, v.z]) (ys := [u.x, u.y, u.z]) rfl (mem hv) (mem hu) hm hs.ex rx ry, fun H' e => q _ _ O B H' p (Evl.Ex.refl B) (hs_keep hs e) (.raw _)⟩
theorem range_map_succ {α : Type} (n : Nat) (F : Nat → α) : (List.range (n + 1)).map F = F 0 :: (List.range n).map (fun k => F (k + 1)) := by
  rw [List.range_succ_eq_map, List.map_cons, List.map_map]
  rfl
theorem zip3_rows (C : Addr) : ∀ (ws ds : List Rat) (bs : List I3), ws.length = bs.length → ds.length = bs.length → zipD3 (ws.map (dQ C)) (ds.map (dQ C)) (bs.map fun r => dV C (vI r)) = (List.range bs.length).map fun k => D.tup [dQ C (ws.getD k 0), dQ C (ds.getD k 0), dV C (vI (gI bs k))]
  | [], [], [], _, _ => rfl
  | w :: ws, d :: ds, b :: bs, h1, h2 => by
    rw [List.length_cons, range_map_succ]
    show D.tup [dQ C w, dQ C d, dV C (vI b)] :: zipD3 (ws.map (dQ C)) (ds.map (dQ C)) (bs.map fun r => dV C (vI r)) = _
    rw [zip3_rows C ws ds bs (by simpa using h1) (by simpa using h2)]
    rfl
  | [], _ :: _, [], _, h => by cases h
  | _ :: _, _, [], h, _ => by cases h
  | [], _, _ :: _, h, _ => by cases h
  | _ :: _, [], _ :: _, _, h => by cases h
theorem mulL_rows : ∀ (ws ds : List Rat) (bs : List I3), ws.length = bs.length → ds.length = bs.length → List.zipWith (fun q g => mulV q (vI g)) (mulL ws ds) bs = (List.range bs.length).map fun k => mulV (ws.getD k 0 * ds.getD k 0) (vI (gI bs k))
  | [], [], [], _, _ => rfl
  | w :: ws, d :: ds, b :: bs, h1, h2 => by
    rw [List.length_cons, range_map_succ]
    show mulV (w * d) (vI b) :: List.zipWith (fun q g => mulV q (vI g)) (mulL ws ds) bs = _
    rw [mulL_rows ws ds bs (by simpa using h1) (by simpa using h2)]
    rfl
  | [], _ :: _, [], _, h => by cases h
  | _ :: _, _, [], h, _ => by cases h
  | [], _, _ :: _, h, _ => by cases h
  | _ :: _, [], _ :: _, _, h => by cases h
theorem mulL_bits {ws ds : List Rat} {m n : Nat} (h1 : ∀ q ∈ ws, bits q m) (h2 : ∀ q ∈ ds, bits q n) : ∀ q ∈ mulL ws ds, bits q (m + n) := fun q hq => by
  obtain ⟨k, hk, rfl⟩ := List.mem_iff_getElem.mp hq
  unfold mulL at hk ⊢
  rw [List.length_zipWith] at hk
  rw [List.getElem_zipWith]
  exact bits_mono (bits_mul (h1 _ (List.getElem_mem _)) (h2 _ (List.getElem_mem _))) (by omega)
end G
/-! Crossings as a law counts them; weights that match, in whole numbers. -/
namespace G
open PySem L2 PySem.Spec PyProof.Rows
def chgN (sg : List Int) : Int := sR (sg.length - 1) fun k => if sg.getD k 0 ≠ sg.getD (k + 1) 0 then 1 else 0
theorem chg_snoc {sg : List Int} {a b : Int} : chgN ((sg ++ [a]) ++ [b]) = chgN (sg ++ [a]) + if a ≠ b then 1 else 0 := by
  unfold chgN
  rw [List.length_append, List.length_append, List.length_singleton, List.length_singleton]
  show sR (sg.length + 1) _ = sR (sg.length) _ + _
  rw [sR_succ]
  congr 1
  · refine sR_congr fun k hk => ?_
    have e : ∀ j, j < sg.length + 1 → ((sg ++ [a]) ++ [b]).getD j 0 = (sg ++ [a]).getD j 0 := fun j hj => by
      rw [List.getD_eq_getElem?_getD, List.getD_eq_getElem?_getD, List.getElem?_append_left (by rw [List.length_append, List.length_singleton]; exact hj)]
    rw [e k (by omega), e (k + 1) (by omega)]
  · have e1 : ((sg ++ [a]) ++ [b]).getD sg.length 0 = a := by
      rw [List.getD_eq_getElem?_getD, List.getElem?_append_left (by rw [List.length_append, List.length_singleton]; omega), List.getElem?_append_right (Nat.le_refl _), Nat.sub_self]
      rfl
    have e2 : ((sg ++ [a]) ++ [b]).getD (sg.length + 1) 0 = b := by
      rw [List.getD_eq_getElem?_getD, List.getElem?_append_right (by rw [List.length_append, List.length_singleton]; omega), List.length_append, List.length_singleton, Nat.sub_self]
      rfl
    rw [e1, e2]
def sgM (qs : List Rat) : List Int := (qs.filter fun q => decide (q ≠ 0)).map fun q => if 0 < q then 1 else 0
theorem sgn_cases (q : Rat) : (q = 0 ∧ sgn q = 0) ∨ (0 < q ∧ sgn q = 1) ∨ (q < 0 ∧ sgn q = -1) := by
  have hp : (0 < q) ↔ 0 < q.num := by rw [Rat.lt_iff]; simp
  have hn : (q < 0) ↔ q.num < 0 := by rw [Rat.lt_iff]; simp
  unfold sgn
  by_cases h1 : 0 < q.num
  · exact .inr (.inl ⟨hp.mpr h1, if_pos h1⟩)
  · by_cases h2 : q.num < 0
    · exact .inr (.inr ⟨hn.mpr h2, by rw [if_neg h1, if_pos h2]⟩)
    · exact .inl ⟨Rat.num_eq_zero.mp (by omega), by rw [if_neg h1, if_neg h2]⟩
theorem sg_bst : ∀ (n : Nat) (qs : List Rat), qs.length = n → (sgM qs = [] ∧ bst qs = (0, 0)) ∨ ∃ sg a, sgM qs = sg ++ [a] ∧ (((bst qs).1 : Nat) : Int) = chgN (sgM qs) + 1 ∧ ((a = 1 ∧ (bst qs).2 = 1) ∨ (a = 0 ∧ (bst qs).2 = -1))
  | 0, [], _ => .inl ⟨rfl, rfl⟩
  | n + 1, qs, h => by
    obtain ⟨rs, q, rfl⟩ := last_snoc qs (by intro z; rw [z] at h; cases h)
    have ih := sg_bst n rs (by simpa using h)
    have hb : bst (rs ++ [q]) = bstep (bst rs) q := by
      unfold bst
      rw [List.foldl_append]
      rfl
    have hs : sgM (rs ++ [q]) = sgM rs ++ (if q = 0 then [] else [if 0 < q then 1 else 0]) := by
      unfold sgM
      rw [List.filter_append, List.map_append]
      congr 1
      by_cases h0 : q = 0
      · simp [h0]
      · simp [h0]
    rw [hb, hs]
    unfold bstep
    rcases sgn_cases q with ⟨h0, e⟩ | ⟨h0, e⟩ | ⟨h0, e⟩
    · rw [if_pos e, if_pos h0, List.append_nil]
      exact ih
    · have hne : q ≠ 0 := by grind
      rw [if_neg (show ¬ sgn q = 0 by omega), if_neg hne, if_pos h0]
      rcases ih with ⟨e1, e2⟩ | ⟨sg, a, e1, e2, e3⟩
      · rw [e1, e2, e]
        refine .inr ⟨[], 1, rfl, ?_, .inl ⟨rfl, ?_⟩⟩
        · rw [if_neg (by decide)]
          rfl
        · rw [if_neg (by decide)]
      · refine .inr ⟨sgM rs, 1, rfl, ?_, .inl ⟨rfl, ?_⟩⟩
        · rw [e1, chg_snoc, ← e1, e]
          rcases e3 with ⟨rfl, e4⟩ | ⟨rfl, e4⟩
          · rw [if_pos e4.symm, if_neg (by decide)]
            omega
          · rw [if_neg (by omega), if_pos (by decide)]
            simp only
            omega
        · rw [e]
          split
          · rename_i z
            exact z.symm
          · rfl
    · have hne : q ≠ 0 := by grind
      have hnp : ¬ 0 < q := by grind
      rw [if_neg (show ¬ sgn q = 0 by omega), if_neg hne, if_neg hnp]
      rcases ih with ⟨e1, e2⟩ | ⟨sg, a, e1, e2, e3⟩
      · rw [e1, e2, e]
        refine .inr ⟨[], 0, rfl, ?_, .inr ⟨rfl, ?_⟩⟩
        · rw [if_neg (by decide)]
          rfl
        · rw [if_neg (by decide)]
      · refine .inr ⟨sgM rs, 0, rfl, ?_, .inr ⟨rfl, ?_⟩⟩
        · rw [e1, chg_snoc, ← e1, e]
          rcases e3 with ⟨rfl, e4⟩ | ⟨rfl, e4⟩
          · rw [if_neg (by omega), if_pos (by decide)]
            simp only
            omega
          · rw [if_pos e4.symm, if_neg (by decide)]
            omega
        · rw [e]
          split
          · rename_i z
            exact z.symm
          · rfl
theorem chg_cross (qs : List Rat) : chgN (sgM qs) = crossN qs := by
  unfold crossN
  rcases sg_bst qs.length qs rfl with ⟨e1, e2⟩ | ⟨sg, a, e1, e2, e3⟩
  · rw [e1, e2]
    rfl
  · have hnn : 0 ≤ chgN (sgM qs) := sR_nn fun k hk => by split <;> decide
    rw [if_pos (by omega)]
    omega
/-! whole numbers -/
def difI (fs ss : List Int) (k : Nat) : Int := fs.getD k 0 - ss.getD k 0
theorem difF_12 {fs ss : List Int} {n : Nat} (hf : fs.length = n) (hs : ss.length = n) : difF (fs.map fun v => Rat.divInt v 12) (ss.map fun v => Rat.divInt v 12) = (List.range n).map fun k => Rat.divInt (difI fs ss k) 12 := by
  apply List.ext_getElem?
  intro k
  unfold difF
  by_cases hk : k < n
  · rw [List.getElem?_zipWith, List.getElem?_map, List.getElem?_map, List.getElem?_map, List.getElem?_range hk, List.getElem?_eq_getElem (show k < fs.length by omega), List.getElem?_eq_getElem (show k < ss.length by omega)]
    simp only [Option.map_some]
    congr 1
    unfold difI
    rw [List.getD_eq_getElem?_getD, List.getD_eq_getElem?_getD, List.getElem?_eq_getElem (show k < fs.length by omega), List.getElem?_eq_getElem (show k < ss.length by omega)]
    simp only [Option.getD_some, Rat.divInt_eq_div, Rat.intCast_sub]
    grind
  · rw [List.getElem?_eq_none (by simp; omega), List.getElem?_eq_none (by simp; omega)]
theorem div12_cases (z : Int) : (Rat.divInt z 12 = 0 ↔ z = 0) ∧ (0 < Rat.divInt z 12 ↔ 0 < z) := by
  have e : Rat.divInt z 12 * 12 = (z : Rat) := by rw [Rat.divInt_eq_div]; grind
  have hz : (z : Rat) = 0 ↔ z = 0 := by
    constructor
    · intro h
      exact Rat.intCast_inj.mp (show (z : Rat) = ((0 : Int) : Rat) from h)
    · rintro rfl; rfl
  have hp : 0 < (z : Rat) ↔ 0 < z := by
    constructor
    · intro h
      exact Rat.intCast_lt_intCast.mp (show ((0 : Int) : Rat) < (z : Rat) from h)
    · intro h
      exact Rat.intCast_lt_intCast.mpr h
  generalize Rat.divInt z 12 = q at e
  refine ⟨?_, ?_⟩
  · rw [← hz]
    constructor <;> intro h <;> grind
  · rw [← hp]
    constructor <;> intro h <;> grind
def sgI (fs ss : List Int) : List Int := ((List.range fs.length).filter fun k => decide (fs.getD k 0 ≠ ss.getD k 0)).map fun k => if ss.getD k 0 < fs.getD k 0 then 1 else 0
theorem sgI_L {fs ss : List Int} {n : Nat} (hf : fs.length = n) (hs : ss.length = n) : sgM (difF (fs.map fun v => Rat.divInt v 12) (ss.map fun v => Rat.divInt v 12)) = sgI fs ss := by
  rw [difF_12 hf hs]
  unfold sgM sgI
  rw [List.filter_map, List.map_map, hf]
  have e : ((fun q => decide (q ≠ 0)) ∘ fun k => Rat.divInt (difI fs ss k) 12) = fun k => decide (fs.getD k 0 ≠ ss.getD k 0) := by
    funext k
    simp only [Function.comp]
    apply decide_eq_decide.mpr
    rw [Ne, (div12_cases _).1]
    unfold difI
    omega
  rw [e]
  refine List.map_congr_left fun k _ => ?_
  simp only [Function.comp]
  have := (div12_cases (difI fs ss k)).2
  unfold difI at *
  by_cases h : ss.getD k 0 < fs.getD k 0
  · rw [if_pos (this.mpr (by omega)), if_pos h]
  · rw [if_neg (fun z => h (by have := this.mp z; omega)), if_neg h]
theorem cross_law {fs ss : List Int} {n : Nat} (hf : fs.length = n) (hs : ss.length = n) : chgN (sgI fs ss) = crossN (difF (fs.map fun v => Rat.divInt v 12) (ss.map fun v => Rat.divInt v 12)) := by
  rw [← sgI_L hf hs, chg_cross]
def lampN (bs : List I3) (ws : List Rat) (fs ss : List Int) (f : I3 → Int) : Bool := decide ((sR bs.length fun k => ((ws.getD k 0).num * (dProd ws / ((ws.getD k 0).den : Int)) * f (gI bs k)) * difI fs ss k) = 0)
theorem vecI_zero {n : Int} (hn : n ≠ 0) (c : I3) : vecI n c = zV ↔ c.x = 0 ∧ c.y = 0 ∧ c.z = 0 := by
  have z : ∀ a : Int, Rat.divInt a n = 0 ↔ a = 0 := fun a => by
    have hm := div_mul (n := a) (d := n) hn
    have hc := rc_ne hn
    constructor
    · intro h
      rw [h] at hm
      have : (a : Rat) = ((0 : Int) : Rat) := by
        rw [← hm]
        show (0 : Rat) * _ = 0
        grind
      exact Rat.intCast_inj.mp this
    · rintro rfl
      exact Rat.zero_divInt _
  constructor
  · intro h
    exact ⟨(z _).mp (congrArg V3.x h), (z _).mp (congrArg V3.y h), (z _).mp (congrArg V3.z h)⟩
  · rintro ⟨h1, h2, h3⟩
    exact V3.ext' ((z _).mpr h1) ((z _).mpr h2) ((z _).mpr h3)
theorem match_law {bs : List I3} {ws : List Rat} {fs ss : List Int} (hf : fs.length = bs.length) (hs : ss.length = bs.length) (hw : ws.length = bs.length) :
    matchF bs ws (difF (fs.map fun v => Rat.divInt v 12) (ss.map fun v => Rat.divInt v 12)) = (lampN bs ws fs ss (fun x => x.x) && (lampN bs ws fs ss (fun x => x.y) && lampN bs ws fs ss (fun x => x.z))) := by
  have hW : dProd ws ≠ 0 := by have := dProd_pos ws; omega
  have hn : dProd ws * 12 ≠ 0 := by omega
  have e : mulL ws (difF (fs.map fun v => Rat.divInt v 12) (ss.map fun v => Rat.divInt v 12)) = ((List.range bs.length).map fun k => (ws.getD k 0).num * (dProd ws / ((ws.getD k 0).den : Int)) * difI fs ss k).map fun v => Rat.divInt v (dProd ws * 12) := by
    rw [difF_12 hf hs]
    conv => lhs; rw [nums_of ws]
    apply List.ext_getElem?
    intro k
    unfold mulL
    by_cases hk : k < bs.length
    · have hwk := List.getElem?_eq_getElem (show k < ws.length by omega)
      rw [List.getElem?_zipWith, List.map_map, List.getElem?_map, List.getElem?_map, List.getElem?_map, List.getElem?_range hk]
      unfold numsOf
      rw [List.getElem?_map, hwk]
      have hg : ws.getD k 0 = ws[k] := by rw [List.getD_eq_getElem?_getD, hwk]; rfl
      simp only [Option.map_some, Function.comp, hg]
      congr 1
      have hc := rc_ne hW
      simp only [Rat.divInt_eq_div, Rat.intCast_mul]
      generalize ((dProd ws : Int) : Rat) = W at hc
      show _ / W * (_ / ((12 : Int) : Rat)) = _ / (W * ((12 : Int) : Rat))
      have h12 : ((12 : Int) : Rat) ≠ 0 := by decide
      grind
    · rw [List.getElem?_eq_none (by simp; omega), List.getElem?_eq_none (by simp; omega)]
  unfold matchF lampN
  rw [e, colV_sum hn bs _ (by simp), Bool.eq_iff_iff, Bool.and_eq_true, Bool.and_eq_true]
  simp only [decide_eq_true_eq]
  have hS : ∀ f : I3 → Int, (sR bs.length fun k => ((List.range bs.length).map fun k => (ws.getD k 0).num * (dProd ws / ((ws.getD k 0).den : Int)) * difI fs ss k).getD k 0 * f (gI bs k)) = sR bs.length fun k => ((ws.getD k 0).num * (dProd ws / ((ws.getD k 0).den : Int)) * f (gI bs k)) * difI fs ss k := fun f => sR_congr fun k hk => by
    rw [List.getD_eq_getElem?_getD, List.getElem?_map, List.getElem?_range hk]
    simp only [Option.map_some, Option.getD_some]
    grind
  rw [vecI_zero hn, ← hS (fun x => x.x), ← hS (fun x => x.y), ← hS (fun x => x.z)]
  exact Iff.rfl
end G
namespace G
open PySem L2 PySem.Spec PyProof.Rows
def W_lcross (ds : List D) (P : D → Prop) : Prop := ∃ fs ss : List Int, ds = [dL fs, dL ss] ∧ fs.length = ss.length ∧ fs.length ≤ 7 ∧ P (.int (chgN (sgI fs ss)))
def q12 (fs : List Int) : List Rat := fs.map fun v => Rat.divInt v 12
def W_ljudL (C : Addr) (ds : List D) (P : D → Prop) : Prop := ∃ (bs : List I3) (fs ss : List Int) (d : D), ds = [bD bs, dL fs, dL ss, d] ∧ okBands bs ∧ fs.length = bs.length ∧ ss.length = bs.length ∧ (∀ v ∈ fs, v.natAbs ≤ 100) ∧ (∀ v ∈ ss, v.natAbs ≤ 100) ∧ Thp C d ∧ P (.bl (jlF bs (q12 fs) (q12 ss) d))
theorem q12_inj {fs ss : List Int} : (q12 fs = q12 ss) ↔ fs = ss := by
  constructor
  · intro h
    have := congrArg (List.map fun q : Rat => q * 12) h
    unfold q12 at this
    rw [List.map_map, List.map_map] at this
    have e : ((fun q : Rat => q * 12) ∘ fun v => Rat.divInt v 12) = fun v : Int => (v : Rat) := by
      funext v
      simp only [Function.comp]
      rw [Rat.divInt_eq_div]
      grind
    rw [e] at this
    have inj : ∀ (xs ys : List Int), xs.map (fun v : Int => (v : Rat)) = ys.map (fun v : Int => (v : Rat)) → xs = ys := fun xs => by
      induction xs with
      | nil => intro ys h; cases ys with
        | nil => rfl
        | cons y ys => cases h
      | cons x xs ih => intro ys h; cases ys with
        | nil => cases h
        | cons y ys =>
          rw [List.map_cons, List.map_cons] at h
          injection h with h1 h2
          rw [Rat.intCast_inj.mp h1, ih ys h2]
    exact inj _ _ this
  · rintro rfl; rfl
end G
namespace My
open PySem L2 PySem.Spec PyProof.Rows G
def topS (i : Nat) : Stmt := PySem.Challenge.pw_colormatch_k58_judge_of_lamps.main.body.getD i (.Pass ⟨0, 0, 0, 0⟩)
abbrev s_Quotient_init : Stmt := inClass (topS 12) 0
abbrev N_Quotient_init : List Str := ["self", "top", "bottom", "common"]
theorem sc_Quotient_init : FnScope N_Quotient_init ["self", "top", "bottom"] (defScope s_Quotient_init) := ⟨rfl, rfl, rfl, by decide +kernel, rfl, by decide +kernel, by decide +kernel⟩
abbrev s_Quotient_add : Stmt := inClass (topS 12) 1
abbrev N_Quotient_add : List Str := ["self", "other"]
theorem sc_Quotient_add : FnScope N_Quotient_add ["self", "other"] (defScope s_Quotient_add) := ⟨rfl, rfl, rfl, by decide +kernel, rfl, by decide +kernel, by decide +kernel⟩
abbrev s_Quotient_sub : Stmt := inClass (topS 12) 2
abbrev N_Quotient_sub : List Str := ["self", "other"]
theorem sc_Quotient_sub : FnScope N_Quotient_sub ["self", "other"] (defScope s_Quotient_sub) := ⟨rfl, rfl, rfl, by decide +kernel, rfl, by decide +kernel, by decide +kernel⟩
abbrev s_Quotient_mul : Stmt := inClass (topS 12) 3
abbrev N_Quotient_mul : List Str := ["self", "other"]
theorem sc_Quotient_mul : FnScope N_Quotient_mul ["self", "other"] (defScope s_Quotient_mul) := ⟨rfl, rfl, rfl, by decide +kernel, rfl, by decide +kernel, by decide +kernel⟩
abbrev s_Quotient_neg : Stmt := inClass (topS 12) 4
abbrev N_Quotient_neg : List Str := ["self"]
theorem sc_Quotient_neg : FnScope N_Quotient_neg ["self"] (defScope s_Quotient_neg) := ⟨rfl, rfl, rfl, by decide +kernel, rfl, by decide +kernel, by decide +kernel⟩
abbrev s_Quotient_eq : Stmt := inClass (topS 12) 5
abbrev N_Quotient_eq : List Str := ["self", "other"]
theorem sc_Quotient_eq : FnScope N_Quotient_eq ["self", "other"] (defScope s_Quotient_eq) := ⟨rfl, rfl, rfl, by decide +kernel, rfl, by decide +kernel, by decide +kernel⟩
abbrev s_Quotient_lt : Stmt := inClass (topS 12) 6
abbrev N_Quotient_lt : List Str := ["self", "other"]
theorem sc_Quotient_lt : FnScope N_Quotient_lt ["self", "other"] (defScope s_Quotient_lt) := ⟨rfl, rfl, rfl, by decide +kernel, rfl, by decide +kernel, by decide +kernel⟩
abbrev s_Quotient_le : Stmt := inClass (topS 12) 7
abbrev N_Quotient_le : List Str := ["self", "other"]
theorem sc_Quotient_le : FnScope N_Quotient_le ["self", "other"] (defScope s_Quotient_le) := ⟨rfl, rfl, rfl, by decide +kernel, rfl, by decide +kernel, by decide +kernel⟩
abbrev s_Quotient_over : Stmt := inClass (topS 12) 9
abbrev N_Quotient_over : List Str := ["self", "other"]
theorem sc_Quotient_over : FnScope N_Quotient_over ["self", "other"] (defScope s_Quotient_over) := ⟨rfl, rfl, rfl, by decide +kernel, rfl, by decide +kernel, by decide +kernel⟩
abbrev s_whole : Stmt := topS 13
abbrev N_whole : List Str := ["number"]
theorem sc_whole : FnScope N_whole ["number"] (defScope s_whole) := ⟨rfl, rfl, rfl, by decide +kernel, rfl, by decide +kernel, by decide +kernel⟩
abbrev s_zero : Stmt := topS 14
abbrev N_zero : List Str := []
theorem sc_zero : FnScope N_zero [] (defScope s_zero) := ⟨rfl, rfl, rfl, by decide +kernel, rfl, by decide +kernel, by decide +kernel⟩
abbrev s_one : Stmt := topS 15
abbrev N_one : List Str := []
theorem sc_one : FnScope N_one [] (defScope s_one) := ⟨rfl, rfl, rfl, by decide +kernel, rfl, by decide +kernel, by decide +kernel⟩
abbrev s_is_quotient : Stmt := topS 16
abbrev N_is_quotient : List Str := ["value"]
theorem sc_is_quotient : FnScope N_is_quotient ["value"] (defScope s_is_quotient) := ⟨rfl, rfl, rfl, by decide +kernel, rfl, by decide +kernel, by decide +kernel⟩
abbrev s_sign_of : Stmt := topS 17
abbrev N_sign_of : List Str := ["quotient"]
theorem sc_sign_of : FnScope N_sign_of ["quotient"] (defScope s_sign_of) := ⟨rfl, rfl, rfl, by decide +kernel, rfl, by decide +kernel, by decide +kernel⟩
abbrev s_size_of : Stmt := topS 18
abbrev N_size_of : List Str := ["quotient"]
theorem sc_size_of : FnScope N_size_of ["quotient"] (defScope s_size_of) := ⟨rfl, rfl, rfl, by decide +kernel, rfl, by decide +kernel, by decide +kernel⟩
abbrev s_black : Stmt := topS 21
abbrev N_black : List Str := []
theorem sc_black : FnScope N_black [] (defScope s_black) := ⟨rfl, rfl, rfl, by decide +kernel, rfl, by decide +kernel, by decide +kernel⟩
abbrev s_det : Stmt := topS 22
abbrev N_det : List Str := ["first", "second", "third", "a", "b", "c", "d", "e", "f", "g", "h", "i"]
theorem sc_det : FnScope N_det ["first", "second", "third"] (defScope s_det) := ⟨rfl, rfl, rfl, by decide +kernel, rfl, by decide +kernel, by decide +kernel⟩
abbrev s_scaled : Stmt := topS 23
abbrev N_scaled : List Str := ["factor", "vector", "part"]
theorem sc_scaled : FnScope N_scaled ["factor", "vector"] (defScope s_scaled) := ⟨rfl, rfl, rfl, by decide +kernel, rfl, by decide +kernel, by decide +kernel⟩
abbrev s_added : Stmt := topS 24
abbrev N_added : List Str := ["first", "second", "part", "other"]
theorem sc_added : FnScope N_added ["first", "second"] (defScope s_added) := ⟨rfl, rfl, rfl, by decide +kernel, rfl, by decide +kernel, by decide +kernel⟩
abbrev s_taken : Stmt := topS 25
abbrev N_taken : List Str := ["first", "second", "part", "other"]
theorem sc_taken : FnScope N_taken ["first", "second"] (defScope s_taken) := ⟨rfl, rfl, rfl, by decide +kernel, rfl, by decide +kernel, by decide +kernel⟩
abbrev s_sum_of : Stmt := topS 26
abbrev N_sum_of : List Str := ["vectors", "result", "vector"]
theorem sc_sum_of : FnScope N_sum_of ["vectors"] (defScope s_sum_of) := ⟨rfl, rfl, rfl, by decide +kernel, rfl, by decide +kernel, by decide +kernel⟩
abbrev s_Observer_init : Stmt := inClass (topS 32) 2
abbrev N_Observer_init : List Str := ["self", "bands", "vectors", "triple", "band", "part"]
theorem sc_Observer_init : FnScope N_Observer_init ["self", "bands"] (defScope s_Observer_init) := ⟨rfl, rfl, rfl, by decide +kernel, rfl, by decide +kernel, by decide +kernel⟩
abbrev s_Observer_len : Stmt := inClass (topS 32) 3
abbrev N_Observer_len : List Str := ["self"]
theorem sc_Observer_len : FnScope N_Observer_len ["self"] (defScope s_Observer_len) := ⟨rfl, rfl, rfl, by decide +kernel, rfl, by decide +kernel, by decide +kernel⟩
abbrev s_View_init : Stmt := inClass (topS 33) 0
abbrev N_View_init : List Str := ["self", "observer", "lamp", "light", "vector"]
theorem sc_View_init : FnScope N_View_init ["self", "observer", "lamp"] (defScope s_View_init) := ⟨rfl, rfl, rfl, by decide +kernel, rfl, by decide +kernel, by decide +kernel⟩
abbrev s_View_len : Stmt := inClass (topS 33) 1
abbrev N_View_len : List Str := ["self"]
theorem sc_View_len : FnScope N_View_len ["self"] (defScope s_View_len) := ⟨rfl, rfl, rfl, by decide +kernel, rfl, by decide +kernel, by decide +kernel⟩
abbrev s_require_reflectance : Stmt := topS 34
abbrev N_require_reflectance : List Str := ["view", "value"]
theorem sc_require_reflectance : FnScope N_require_reflectance ["view", "value"] (defScope s_require_reflectance) := ⟨rfl, rfl, rfl, by decide +kernel, rfl, by decide +kernel, by decide +kernel⟩
abbrev s_is_reflectance : Stmt := topS 35
abbrev N_is_reflectance : List Str := ["view", "value", "part"]
theorem sc_is_reflectance : FnScope N_is_reflectance ["view", "value"] (defScope s_is_reflectance) := ⟨rfl, rfl, rfl, by decide +kernel, rfl, by decide +kernel, by decide +kernel⟩
abbrev s_is_number : Stmt := topS 36
abbrev N_is_number : List Str := ["value", "least", "most"]
theorem sc_is_number : FnScope N_is_number ["value", "least", "most"] (defScope s_is_number) := ⟨rfl, rfl, rfl, by decide +kernel, rfl, by decide +kernel, by decide +kernel⟩
abbrev s_is_share : Stmt := topS 37
abbrev N_is_share : List Str := ["value"]
theorem sc_is_share : FnScope N_is_share ["value"] (defScope s_is_share) := ⟨rfl, rfl, rfl, by decide +kernel, rfl, by decide +kernel, by decide +kernel⟩
abbrev s_are_bands : Stmt := topS 38
abbrev N_are_bands : List Str := ["bands", "band"]
theorem sc_are_bands : FnScope N_are_bands ["bands"] (defScope s_are_bands) := ⟨rfl, rfl, rfl, by decide +kernel, rfl, by decide +kernel, by decide +kernel⟩
abbrev s_is_band : Stmt := topS 39
abbrev N_is_band : List Str := ["band", "part"]
theorem sc_is_band : FnScope N_is_band ["band"] (defScope s_is_band) := ⟨rfl, rfl, rfl, by decide +kernel, rfl, by decide +kernel, by decide +kernel⟩
abbrev s_is_lamp : Stmt := topS 40
abbrev N_is_lamp : List Str := ["observer", "lamp", "light"]
theorem sc_is_lamp : FnScope N_is_lamp ["observer", "lamp"] (defScope s_is_lamp) := ⟨rfl, rfl, rfl, by decide +kernel, rfl, by decide +kernel, by decide +kernel⟩
abbrev s_first_irregular : Stmt := topS 41
abbrev N_first_irregular : List Str := ["vectors", "count", "i", "j", "k"]
theorem sc_first_irregular : FnScope N_first_irregular ["vectors"] (defScope s_first_irregular) := ⟨rfl, rfl, rfl, by decide +kernel, rfl, by decide +kernel, by decide +kernel⟩
abbrev s_crossings : Stmt := topS 43
abbrev N_crossings : List Str := ["first", "second", "blocks"]
theorem sc_crossings : FnScope N_crossings ["first", "second"] (defScope s_crossings) := ⟨rfl, rfl, rfl, by decide +kernel, rfl, by decide +kernel, by decide +kernel⟩
abbrev s_sign_blocks : Stmt := topS 44
abbrev N_sign_blocks : List Str := ["differences", "blocks", "last_sign", "place", "difference", "sign"]
theorem sc_sign_blocks : FnScope N_sign_blocks ["differences"] (defScope s_sign_blocks) := ⟨rfl, rfl, rfl, by decide +kernel, rfl, by decide +kernel, by decide +kernel⟩
abbrev s_require_equal_lengths : Stmt := topS 45
abbrev N_require_equal_lengths : List Str := ["first", "second"]
theorem sc_require_equal_lengths : FnScope N_require_equal_lengths ["first", "second"] (defScope s_require_equal_lengths) := ⟨rfl, rfl, rfl, by decide +kernel, rfl, by decide +kernel, by decide +kernel⟩
abbrev s_matching_lamp : Stmt := topS 48
abbrev N_matching_lamp : List Str := ["observer", "first", "second", "differences", "blocks"]
theorem sc_matching_lamp : FnScope N_matching_lamp ["observer", "first", "second"] (defScope s_matching_lamp) := ⟨rfl, rfl, rfl, by decide +kernel, rfl, by decide +kernel, by decide +kernel⟩
abbrev s_weights : Stmt := topS 49
abbrev N_weights : List Str := ["vectors", "differences", "blocks", "weights", "number", "block", "band", "bands", "member", "determinant", "share", "difference"]
theorem sc_weights : FnScope N_weights ["vectors", "differences", "blocks"] (defScope s_weights) := ⟨rfl, rfl, rfl, by decide +kernel, rfl, by decide +kernel, by decide +kernel⟩
abbrev s_four_of_blocks : Stmt := topS 50
abbrev N_four_of_blocks : List Str := ["blocks", "number", "band", "last_start", "start", "at"]
theorem sc_four_of_blocks : FnScope N_four_of_blocks ["blocks", "number", "band"] (defScope s_four_of_blocks) := ⟨rfl, rfl, rfl, by decide +kernel, rfl, by decide +kernel, by decide +kernel⟩
abbrev s_other_determinants : Stmt := topS 51
abbrev N_other_determinants : List Str := ["vectors", "bands", "first", "second", "third", "fourth", "band"]
theorem sc_other_determinants : FnScope N_other_determinants ["vectors", "bands"] (defScope s_other_determinants) := ⟨rfl, rfl, rfl, by decide +kernel, rfl, by decide +kernel, by decide +kernel⟩
abbrev s_judge_lamp : Stmt := topS 56
abbrev N_judge_lamp : List Str := ["observer", "first", "second", "paper"]
theorem sc_judge_lamp : FnScope N_judge_lamp ["observer", "first", "second", "paper"] (defScope s_judge_lamp) := ⟨rfl, rfl, rfl, by decide +kernel, rfl, by decide +kernel, by decide +kernel⟩
abbrev s_explain_lamp : Stmt := topS 57
abbrev N_explain_lamp : List Str := ["observer", "first", "second", "weights"]
theorem sc_explain_lamp : FnScope N_explain_lamp ["observer", "first", "second"] (defScope s_explain_lamp) := ⟨rfl, rfl, rfl, by decide +kernel, rfl, by decide +kernel, by decide +kernel⟩
abbrev s_has_form : Stmt := topS 58
abbrev N_has_form : List Str := ["paper", "word", "length"]
theorem sc_has_form : FnScope N_has_form ["paper", "word", "length"] (defScope s_has_form) := ⟨rfl, rfl, rfl, by decide +kernel, rfl, by decide +kernel, by decide +kernel⟩
abbrev s_is_word : Stmt := topS 59
abbrev N_is_word : List Str := ["value", "words"]
theorem sc_is_word : FnScope N_is_word ["value", "words"] (defScope s_is_word) := ⟨rfl, rfl, rfl, by decide +kernel, rfl, by decide +kernel, by decide +kernel⟩
abbrev s_are_weights : Stmt := topS 60
abbrev N_are_weights : List Str := ["observer", "value", "weight"]
theorem sc_are_weights : FnScope N_are_weights ["observer", "value"] (defScope s_are_weights) := ⟨rfl, rfl, rfl, by decide +kernel, rfl, by decide +kernel, by decide +kernel⟩
abbrev s_do_match : Stmt := topS 61
abbrev N_do_match : List Str := ["observer", "first", "second", "weights", "rows", "weight", "difference", "vector"]
theorem sc_do_match : FnScope N_do_match ["observer", "first", "second", "weights"] (defScope s_do_match) := ⟨rfl, rfl, rfl, by decide +kernel, rfl, by decide +kernel, by decide +kernel⟩
abbrev s_law_cell : Stmt := topS 63
abbrev N_law_cell : List Str := ["script", "k"]
theorem sc_law_cell : FnScope N_law_cell ["script", "k"] (defScope s_law_cell) := ⟨rfl, rfl, rfl, by decide +kernel, rfl, by decide +kernel, by decide +kernel⟩
abbrev s_law_draws : Stmt := topS 64
abbrev N_law_draws : List Str := ["cell", "count", "result", "rest", "k", "mixed"]
theorem sc_law_draws : FnScope N_law_draws ["cell", "count"] (defScope s_law_draws) := ⟨rfl, rfl, rfl, by decide +kernel, rfl, by decide +kernel, by decide +kernel⟩
abbrev s_law_bands : Stmt := topS 65
abbrev N_law_bands : List Str := ["cell", "n", "count", "bands", "t", "k", "m", "row", "turn"]
theorem sc_law_bands : FnScope N_law_bands ["cell"] (defScope s_law_bands) := ⟨rfl, rfl, rfl, by decide +kernel, rfl, by decide +kernel, by decide +kernel⟩
abbrev s_law_lamp : Stmt := topS 66
abbrev N_law_lamp : List Str := ["cell", "count", "n", "k"]
theorem sc_law_lamp : FnScope N_law_lamp ["cell", "count"] (defScope s_law_lamp) := ⟨rfl, rfl, rfl, by decide +kernel, rfl, by decide +kernel, by decide +kernel⟩
abbrev s_law_values : Stmt := topS 67
abbrev N_law_values : List Str := ["cell", "count", "n", "first", "second", "inner", "values", "k"]
theorem sc_law_values : FnScope N_law_values ["cell", "count"] (defScope s_law_values) := ⟨rfl, rfl, rfl, by decide +kernel, rfl, by decide +kernel, by decide +kernel⟩
abbrev s_law_generators : Stmt := topS 68
abbrev N_law_generators : List Str := ["bands", "lamp", "k", "part"]
theorem sc_law_generators : FnScope N_law_generators ["bands", "lamp"] (defScope s_law_generators) := ⟨rfl, rfl, rfl, by decide +kernel, rfl, by decide +kernel, by decide +kernel⟩
abbrev s_law_sum : Stmt := topS 69
abbrev N_law_sum : List Str := ["generators", "values", "x", "k"]
theorem sc_law_sum : FnScope N_law_sum ["generators", "values"] (defScope s_law_sum) := ⟨rfl, rfl, rfl, by decide +kernel, rfl, by decide +kernel, by decide +kernel⟩
abbrev s_law_colored : Stmt := topS 70
abbrev N_law_colored : List Str := ["cell", "generators", "values", "n", "color", "part", "x"]
theorem sc_law_colored : FnScope N_law_colored ["cell", "generators", "values"] (defScope s_law_colored) := ⟨rfl, rfl, rfl, by decide +kernel, rfl, by decide +kernel, by decide +kernel⟩
abbrev s_law_quotients : Stmt := topS 71
abbrev N_law_quotients : List Str := ["values", "value"]
theorem sc_law_quotients : FnScope N_law_quotients ["values"] (defScope s_law_quotients) := ⟨rfl, rfl, rfl, by decide +kernel, rfl, by decide +kernel, by decide +kernel⟩
abbrev s_law_scene : Stmt := topS 72
abbrev N_law_scene : List Str := ["script", "bands", "lamp", "values", "generators", "color"]
theorem sc_law_scene : FnScope N_law_scene ["script"] (defScope s_law_scene) := ⟨rfl, rfl, rfl, by decide +kernel, rfl, by decide +kernel, by decide +kernel⟩
abbrev s_law_is_band : Stmt := topS 73
abbrev N_law_is_band : List Str := ["value", "count"]
theorem sc_law_is_band : FnScope N_law_is_band ["value", "count"] (defScope s_law_is_band) := ⟨rfl, rfl, rfl, by decide +kernel, rfl, by decide +kernel, by decide +kernel⟩
abbrev s_law_kind : Stmt := topS 74
abbrev N_law_kind : List Str := ["paper", "kind", "length"]
theorem sc_law_kind : FnScope N_law_kind ["paper", "kind", "length"] (defScope s_law_kind) := ⟨rfl, rfl, rfl, by decide +kernel, rfl, by decide +kernel, by decide +kernel⟩
abbrev s_law_turned : Stmt := topS 75
abbrev N_law_turned : List Str := ["paper", "digits", "at", "k", "things"]
theorem sc_law_turned : FnScope N_law_turned ["paper", "digits", "at"] (defScope s_law_turned) := ⟨rfl, rfl, rfl, by decide +kernel, rfl, by decide +kernel, by decide +kernel⟩
abbrev s_law_crossings : Stmt := topS 76
abbrev N_law_crossings : List Str := ["first", "second", "signs", "k"]
theorem sc_law_crossings : FnScope N_law_crossings ["first", "second"] (defScope s_law_crossings) := ⟨rfl, rfl, rfl, by decide +kernel, rfl, by decide +kernel, by decide +kernel⟩
abbrev s_law_judged : Stmt := topS 77
abbrev N_law_judged : List Str := ["bands", "first", "second", "paper", "whole_v", "weight", "x", "parts", "k"]
theorem sc_law_judged : FnScope N_law_judged ["bands", "first", "second", "paper"] (defScope s_law_judged) := ⟨rfl, rfl, rfl, by decide +kernel, rfl, by decide +kernel, by decide +kernel⟩
abbrev s_law_refused : Stmt := topS 78
abbrev N_law_refused : List Str := ["observer", "first", "second", "e"]
theorem sc_law_refused : FnScope N_law_refused ["observer", "first", "second"] (defScope s_law_refused) := ⟨rfl, rfl, rfl, by decide +kernel, rfl, by decide +kernel, by decide +kernel⟩
abbrev s_law : Stmt := topS 79
abbrev N_law : List Str := ["script", "view", "generators", "first", "color", "second", "observer", "bands", "one_v", "two", "paper", "k"]
theorem sc_law : FnScope N_law ["script"] (defScope s_law) := ⟨rfl, rfl, rfl, by decide +kernel, rfl, by decide +kernel, by decide +kernel⟩
structure Lay where
  C_ColorError : Addr
  C_BadQuotient : Addr
  C_BadObserver : Addr
  C_Irregular : Addr
  C_BadLamp : Addr
  C_BadReflectance : Addr
  C_LengthsDiffer : Addr
  C_Quotient : Addr
  C_Observer : Addr
  C_View : Addr
  f_Quotient_init : Addr
  d_Quotient_init : FuncData
  f_Quotient_add : Addr
  d_Quotient_add : FuncData
  f_Quotient_sub : Addr
  d_Quotient_sub : FuncData
  f_Quotient_mul : Addr
  d_Quotient_mul : FuncData
  f_Quotient_neg : Addr
  d_Quotient_neg : FuncData
  f_Quotient_eq : Addr
  d_Quotient_eq : FuncData
  f_Quotient_lt : Addr
  d_Quotient_lt : FuncData
  f_Quotient_le : Addr
  d_Quotient_le : FuncData
  f_Quotient_over : Addr
  d_Quotient_over : FuncData
  f_whole : Addr
  d_whole : FuncData
  f_zero : Addr
  d_zero : FuncData
  f_one : Addr
  d_one : FuncData
  f_is_quotient : Addr
  d_is_quotient : FuncData
  f_sign_of : Addr
  d_sign_of : FuncData
  f_size_of : Addr
  d_size_of : FuncData
  f_black : Addr
  d_black : FuncData
  f_det : Addr
  d_det : FuncData
  f_scaled : Addr
  d_scaled : FuncData
  f_added : Addr
  d_added : FuncData
  f_taken : Addr
  d_taken : FuncData
  f_sum_of : Addr
  d_sum_of : FuncData
  f_Observer_init : Addr
  d_Observer_init : FuncData
  f_Observer_len : Addr
  d_Observer_len : FuncData
  f_View_init : Addr
  d_View_init : FuncData
  f_View_len : Addr
  d_View_len : FuncData
  f_require_reflectance : Addr
  d_require_reflectance : FuncData
  f_is_reflectance : Addr
  d_is_reflectance : FuncData
  f_is_number : Addr
  d_is_number : FuncData
  f_is_share : Addr
  d_is_share : FuncData
  f_are_bands : Addr
  d_are_bands : FuncData
  f_is_band : Addr
  d_is_band : FuncData
  f_is_lamp : Addr
  d_is_lamp : FuncData
  f_first_irregular : Addr
  d_first_irregular : FuncData
  f_crossings : Addr
  d_crossings : FuncData
  f_sign_blocks : Addr
  d_sign_blocks : FuncData
  f_require_equal_lengths : Addr
  d_require_equal_lengths : FuncData
  f_matching_lamp : Addr
  d_matching_lamp : FuncData
  f_weights : Addr
  d_weights : FuncData
  f_four_of_blocks : Addr
  d_four_of_blocks : FuncData
  f_other_determinants : Addr
  d_other_determinants : FuncData
  f_judge_lamp : Addr
  d_judge_lamp : FuncData
  f_explain_lamp : Addr
  d_explain_lamp : FuncData
  f_has_form : Addr
  d_has_form : FuncData
  f_is_word : Addr
  d_is_word : FuncData
  f_are_weights : Addr
  d_are_weights : FuncData
  f_do_match : Addr
  d_do_match : FuncData
  f_law_cell : Addr
  d_law_cell : FuncData
  f_law_draws : Addr
  d_law_draws : FuncData
  f_law_bands : Addr
  d_law_bands : FuncData
  f_law_lamp : Addr
  d_law_lamp : FuncData
  f_law_values : Addr
  d_law_values : FuncData
  f_law_generators : Addr
  d_law_generators : FuncData
  f_law_sum : Addr
  d_law_sum : FuncData
  f_law_colored : Addr
  d_law_colored : FuncData
  f_law_quotients : Addr
  d_law_quotients : FuncData
  f_law_scene : Addr
  d_law_scene : FuncData
  f_law_is_band : Addr
  d_law_is_band : FuncData
  f_law_kind : Addr
  d_law_kind : FuncData
  f_law_turned : Addr
  d_law_turned : FuncData
  f_law_crossings : Addr
  d_law_crossings : FuncData
  f_law_judged : Addr
  d_law_judged : FuncData
  f_law_refused : Addr
  d_law_refused : FuncData
  f_law : Addr
  d_law : FuncData
structure Txt (K : PySem.W.Frag) (mg : Str → Option Value) (L : Lay) : Prop where
  F_Quotient_init : Fun K "__init__" "Quotient.__init__" s_Quotient_init L.f_Quotient_init L.d_Quotient_init
  b_Quotient_init : Binds K L.d_Quotient_init ["self", "top", "bottom"] []
  fi_Quotient_init : PySem.W.findIn K (.ref L.C_Quotient) "__init__" = some (some (.ref L.f_Quotient_init))
  fn_Quotient_init : PySem.W.isFn K (.ref L.f_Quotient_init) = true
  me_Quotient_init : Meth K L.C_Quotient "__init__" L.f_Quotient_init
  F_Quotient_add : Fun K "__add__" "Quotient.__add__" s_Quotient_add L.f_Quotient_add L.d_Quotient_add
  b_Quotient_add : Binds K L.d_Quotient_add ["self", "other"] []
  fi_Quotient_add : PySem.W.findIn K (.ref L.C_Quotient) "__add__" = some (some (.ref L.f_Quotient_add))
  fn_Quotient_add : PySem.W.isFn K (.ref L.f_Quotient_add) = true
  me_Quotient_add : Meth K L.C_Quotient "__add__" L.f_Quotient_add
  F_Quotient_sub : Fun K "__sub__" "Quotient.__sub__" s_Quotient_sub L.f_Quotient_sub L.d_Quotient_sub
  b_Quotient_sub : Binds K L.d_Quotient_sub ["self", "other"] []
  fi_Quotient_sub : PySem.W.findIn K (.ref L.C_Quotient) "__sub__" = some (some (.ref L.f_Quotient_sub))
  fn_Quotient_sub : PySem.W.isFn K (.ref L.f_Quotient_sub) = true
  me_Quotient_sub : Meth K L.C_Quotient "__sub__" L.f_Quotient_sub
  F_Quotient_mul : Fun K "__mul__" "Quotient.__mul__" s_Quotient_mul L.f_Quotient_mul L.d_Quotient_mul
  b_Quotient_mul : Binds K L.d_Quotient_mul ["self", "other"] []
  fi_Quotient_mul : PySem.W.findIn K (.ref L.C_Quotient) "__mul__" = some (some (.ref L.f_Quotient_mul))
  fn_Quotient_mul : PySem.W.isFn K (.ref L.f_Quotient_mul) = true
  me_Quotient_mul : Meth K L.C_Quotient "__mul__" L.f_Quotient_mul
  F_Quotient_neg : Fun K "__neg__" "Quotient.__neg__" s_Quotient_neg L.f_Quotient_neg L.d_Quotient_neg
  b_Quotient_neg : Binds K L.d_Quotient_neg ["self"] []
  fi_Quotient_neg : PySem.W.findIn K (.ref L.C_Quotient) "__neg__" = some (some (.ref L.f_Quotient_neg))
  fn_Quotient_neg : PySem.W.isFn K (.ref L.f_Quotient_neg) = true
  me_Quotient_neg : Meth K L.C_Quotient "__neg__" L.f_Quotient_neg
  F_Quotient_eq : Fun K "__eq__" "Quotient.__eq__" s_Quotient_eq L.f_Quotient_eq L.d_Quotient_eq
  b_Quotient_eq : Binds K L.d_Quotient_eq ["self", "other"] []
  fi_Quotient_eq : PySem.W.findIn K (.ref L.C_Quotient) "__eq__" = some (some (.ref L.f_Quotient_eq))
  fn_Quotient_eq : PySem.W.isFn K (.ref L.f_Quotient_eq) = true
  me_Quotient_eq : Meth K L.C_Quotient "__eq__" L.f_Quotient_eq
  F_Quotient_lt : Fun K "__lt__" "Quotient.__lt__" s_Quotient_lt L.f_Quotient_lt L.d_Quotient_lt
  b_Quotient_lt : Binds K L.d_Quotient_lt ["self", "other"] []
  fi_Quotient_lt : PySem.W.findIn K (.ref L.C_Quotient) "__lt__" = some (some (.ref L.f_Quotient_lt))
  fn_Quotient_lt : PySem.W.isFn K (.ref L.f_Quotient_lt) = true
  me_Quotient_lt : Meth K L.C_Quotient "__lt__" L.f_Quotient_lt
  F_Quotient_le : Fun K "__le__" "Quotient.__le__" s_Quotient_le L.f_Quotient_le L.d_Quotient_le
  b_Quotient_le : Binds K L.d_Quotient_le ["self", "other"] []
  fi_Quotient_le : PySem.W.findIn K (.ref L.C_Quotient) "__le__" = some (some (.ref L.f_Quotient_le))
  fn_Quotient_le : PySem.W.isFn K (.ref L.f_Quotient_le) = true
  me_Quotient_le : Meth K L.C_Quotient "__le__" L.f_Quotient_le
  F_Quotient_over : Fun K "over" "Quotient.over" s_Quotient_over L.f_Quotient_over L.d_Quotient_over
  b_Quotient_over : Binds K L.d_Quotient_over ["self", "other"] []
  fi_Quotient_over : PySem.W.findIn K (.ref L.C_Quotient) "over" = some (some (.ref L.f_Quotient_over))
  fn_Quotient_over : PySem.W.isFn K (.ref L.f_Quotient_over) = true
  me_Quotient_over : Meth K L.C_Quotient "over" L.f_Quotient_over
  F_whole : Fun K "whole" "whole" s_whole L.f_whole L.d_whole
  b_whole : Binds K L.d_whole ["number"] []
  m_whole : mg "whole" = some (.ref L.f_whole)
  F_zero : Fun K "zero" "zero" s_zero L.f_zero L.d_zero
  b_zero : Binds K L.d_zero [] []
  m_zero : mg "zero" = some (.ref L.f_zero)
  F_one : Fun K "one" "one" s_one L.f_one L.d_one
  b_one : Binds K L.d_one [] []
  m_one : mg "one" = some (.ref L.f_one)
  F_is_quotient : Fun K "is_quotient" "is_quotient" s_is_quotient L.f_is_quotient L.d_is_quotient
  b_is_quotient : Binds K L.d_is_quotient ["value"] []
  m_is_quotient : mg "is_quotient" = some (.ref L.f_is_quotient)
  F_sign_of : Fun K "sign_of" "sign_of" s_sign_of L.f_sign_of L.d_sign_of
  b_sign_of : Binds K L.d_sign_of ["quotient"] []
  m_sign_of : mg "sign_of" = some (.ref L.f_sign_of)
  F_size_of : Fun K "size_of" "size_of" s_size_of L.f_size_of L.d_size_of
  b_size_of : Binds K L.d_size_of ["quotient"] []
  m_size_of : mg "size_of" = some (.ref L.f_size_of)
  F_black : Fun K "black" "black" s_black L.f_black L.d_black
  b_black : Binds K L.d_black [] []
  m_black : mg "black" = some (.ref L.f_black)
  F_det : Fun K "det" "det" s_det L.f_det L.d_det
  b_det : Binds K L.d_det ["first", "second", "third"] []
  m_det : mg "det" = some (.ref L.f_det)
  F_scaled : Fun K "scaled" "scaled" s_scaled L.f_scaled L.d_scaled
  b_scaled : Binds K L.d_scaled ["factor", "vector"] []
  m_scaled : mg "scaled" = some (.ref L.f_scaled)
  F_added : Fun K "added" "added" s_added L.f_added L.d_added
  b_added : Binds K L.d_added ["first", "second"] []
  m_added : mg "added" = some (.ref L.f_added)
  F_taken : Fun K "taken" "taken" s_taken L.f_taken L.d_taken
  b_taken : Binds K L.d_taken ["first", "second"] []
  m_taken : mg "taken" = some (.ref L.f_taken)
  F_sum_of : Fun K "sum_of" "sum_of" s_sum_of L.f_sum_of L.d_sum_of
  b_sum_of : Binds K L.d_sum_of ["vectors"] []
  m_sum_of : mg "sum_of" = some (.ref L.f_sum_of)
  F_Observer_init : Fun K "__init__" "Observer.__init__" s_Observer_init L.f_Observer_init L.d_Observer_init
  b_Observer_init : Binds K L.d_Observer_init ["self", "bands"] []
  fi_Observer_init : PySem.W.findIn K (.ref L.C_Observer) "__init__" = some (some (.ref L.f_Observer_init))
  fn_Observer_init : PySem.W.isFn K (.ref L.f_Observer_init) = true
  me_Observer_init : Meth K L.C_Observer "__init__" L.f_Observer_init
  F_Observer_len : Fun K "__len__" "Observer.__len__" s_Observer_len L.f_Observer_len L.d_Observer_len
  b_Observer_len : Binds K L.d_Observer_len ["self"] []
  fi_Observer_len : PySem.W.findIn K (.ref L.C_Observer) "__len__" = some (some (.ref L.f_Observer_len))
  fn_Observer_len : PySem.W.isFn K (.ref L.f_Observer_len) = true
  me_Observer_len : Meth K L.C_Observer "__len__" L.f_Observer_len
  F_View_init : Fun K "__init__" "View.__init__" s_View_init L.f_View_init L.d_View_init
  b_View_init : Binds K L.d_View_init ["self", "observer", "lamp"] []
  fi_View_init : PySem.W.findIn K (.ref L.C_View) "__init__" = some (some (.ref L.f_View_init))
  fn_View_init : PySem.W.isFn K (.ref L.f_View_init) = true
  me_View_init : Meth K L.C_View "__init__" L.f_View_init
  F_View_len : Fun K "__len__" "View.__len__" s_View_len L.f_View_len L.d_View_len
  b_View_len : Binds K L.d_View_len ["self"] []
  fi_View_len : PySem.W.findIn K (.ref L.C_View) "__len__" = some (some (.ref L.f_View_len))
  fn_View_len : PySem.W.isFn K (.ref L.f_View_len) = true
  me_View_len : Meth K L.C_View "__len__" L.f_View_len
  F_require_reflectance : Fun K "require_reflectance" "require_reflectance" s_require_reflectance L.f_require_reflectance L.d_require_reflectance
  b_require_reflectance : Binds K L.d_require_reflectance ["view", "value"] []
  m_require_reflectance : mg "require_reflectance" = some (.ref L.f_require_reflectance)
  F_is_reflectance : Fun K "is_reflectance" "is_reflectance" s_is_reflectance L.f_is_reflectance L.d_is_reflectance
  b_is_reflectance : Binds K L.d_is_reflectance ["view", "value"] []
  m_is_reflectance : mg "is_reflectance" = some (.ref L.f_is_reflectance)
  F_is_number : Fun K "is_number" "is_number" s_is_number L.f_is_number L.d_is_number
  b_is_number : Binds K L.d_is_number ["value", "least", "most"] []
  m_is_number : mg "is_number" = some (.ref L.f_is_number)
  F_is_share : Fun K "_is_share" "_is_share" s_is_share L.f_is_share L.d_is_share
  b_is_share : Binds K L.d_is_share ["value"] []
  m_is_share : mg "_is_share" = some (.ref L.f_is_share)
  F_are_bands : Fun K "_are_bands" "_are_bands" s_are_bands L.f_are_bands L.d_are_bands
  b_are_bands : Binds K L.d_are_bands ["bands"] []
  m_are_bands : mg "_are_bands" = some (.ref L.f_are_bands)
  F_is_band : Fun K "_is_band" "_is_band" s_is_band L.f_is_band L.d_is_band
  b_is_band : Binds K L.d_is_band ["band"] []
  m_is_band : mg "_is_band" = some (.ref L.f_is_band)
  F_is_lamp : Fun K "_is_lamp" "_is_lamp" s_is_lamp L.f_is_lamp L.d_is_lamp
  b_is_lamp : Binds K L.d_is_lamp ["observer", "lamp"] []
  m_is_lamp : mg "_is_lamp" = some (.ref L.f_is_lamp)
  F_first_irregular : Fun K "_first_irregular" "_first_irregular" s_first_irregular L.f_first_irregular L.d_first_irregular
  b_first_irregular : Binds K L.d_first_irregular ["vectors"] []
  m_first_irregular : mg "_first_irregular" = some (.ref L.f_first_irregular)
  F_crossings : Fun K "crossings" "crossings" s_crossings L.f_crossings L.d_crossings
  b_crossings : Binds K L.d_crossings ["first", "second"] []
  m_crossings : mg "crossings" = some (.ref L.f_crossings)
  F_sign_blocks : Fun K "sign_blocks" "sign_blocks" s_sign_blocks L.f_sign_blocks L.d_sign_blocks
  b_sign_blocks : Binds K L.d_sign_blocks ["differences"] []
  m_sign_blocks : mg "sign_blocks" = some (.ref L.f_sign_blocks)
  F_require_equal_lengths : Fun K "_require_equal_lengths" "_require_equal_lengths" s_require_equal_lengths L.f_require_equal_lengths L.d_require_equal_lengths
  b_require_equal_lengths : Binds K L.d_require_equal_lengths ["first", "second"] []
  m_require_equal_lengths : mg "_require_equal_lengths" = some (.ref L.f_require_equal_lengths)
  F_matching_lamp : Fun K "matching_lamp" "matching_lamp" s_matching_lamp L.f_matching_lamp L.d_matching_lamp
  b_matching_lamp : Binds K L.d_matching_lamp ["observer", "first", "second"] []
  m_matching_lamp : mg "matching_lamp" = some (.ref L.f_matching_lamp)
  F_weights : Fun K "_weights" "_weights" s_weights L.f_weights L.d_weights
  b_weights : Binds K L.d_weights ["vectors", "differences", "blocks"] []
  m_weights : mg "_weights" = some (.ref L.f_weights)
  F_four_of_blocks : Fun K "_four_of_blocks" "_four_of_blocks" s_four_of_blocks L.f_four_of_blocks L.d_four_of_blocks
  b_four_of_blocks : Binds K L.d_four_of_blocks ["blocks", "number", "band"] []
  m_four_of_blocks : mg "_four_of_blocks" = some (.ref L.f_four_of_blocks)
  F_other_determinants : Fun K "_other_determinants" "_other_determinants" s_other_determinants L.f_other_determinants L.d_other_determinants
  b_other_determinants : Binds K L.d_other_determinants ["vectors", "bands"] []
  m_other_determinants : mg "_other_determinants" = some (.ref L.f_other_determinants)
  F_judge_lamp : Fun K "judge_lamp" "judge_lamp" s_judge_lamp L.f_judge_lamp L.d_judge_lamp
  b_judge_lamp : Binds K L.d_judge_lamp ["observer", "first", "second", "paper"] []
  m_judge_lamp : mg "judge_lamp" = some (.ref L.f_judge_lamp)
  F_explain_lamp : Fun K "explain_lamp" "explain_lamp" s_explain_lamp L.f_explain_lamp L.d_explain_lamp
  b_explain_lamp : Binds K L.d_explain_lamp ["observer", "first", "second"] []
  m_explain_lamp : mg "explain_lamp" = some (.ref L.f_explain_lamp)
  F_has_form : Fun K "_has_form" "_has_form" s_has_form L.f_has_form L.d_has_form
  b_has_form : Binds K L.d_has_form ["paper", "word", "length"] []
  m_has_form : mg "_has_form" = some (.ref L.f_has_form)
  F_is_word : Fun K "_is_word" "_is_word" s_is_word L.f_is_word L.d_is_word
  b_is_word : Binds K L.d_is_word ["value", "words"] []
  m_is_word : mg "_is_word" = some (.ref L.f_is_word)
  F_are_weights : Fun K "_are_weights" "_are_weights" s_are_weights L.f_are_weights L.d_are_weights
  b_are_weights : Binds K L.d_are_weights ["observer", "value"] []
  m_are_weights : mg "_are_weights" = some (.ref L.f_are_weights)
  F_do_match : Fun K "_do_match" "_do_match" s_do_match L.f_do_match L.d_do_match
  b_do_match : Binds K L.d_do_match ["observer", "first", "second", "weights"] []
  m_do_match : mg "_do_match" = some (.ref L.f_do_match)
  F_law_cell : Fun K "_law_cell" "_law_cell" s_law_cell L.f_law_cell L.d_law_cell
  b_law_cell : Binds K L.d_law_cell ["script", "k"] []
  m_law_cell : mg "_law_cell" = some (.ref L.f_law_cell)
  F_law_draws : Fun K "_law_draws" "_law_draws" s_law_draws L.f_law_draws L.d_law_draws
  b_law_draws : Binds K L.d_law_draws ["cell", "count"] []
  m_law_draws : mg "_law_draws" = some (.ref L.f_law_draws)
  F_law_bands : Fun K "_law_bands" "_law_bands" s_law_bands L.f_law_bands L.d_law_bands
  b_law_bands : Binds K L.d_law_bands ["cell"] []
  m_law_bands : mg "_law_bands" = some (.ref L.f_law_bands)
  F_law_lamp : Fun K "_law_lamp" "_law_lamp" s_law_lamp L.f_law_lamp L.d_law_lamp
  b_law_lamp : Binds K L.d_law_lamp ["cell", "count"] []
  m_law_lamp : mg "_law_lamp" = some (.ref L.f_law_lamp)
  F_law_values : Fun K "_law_values" "_law_values" s_law_values L.f_law_values L.d_law_values
  b_law_values : Binds K L.d_law_values ["cell", "count"] []
  m_law_values : mg "_law_values" = some (.ref L.f_law_values)
  F_law_generators : Fun K "_law_generators" "_law_generators" s_law_generators L.f_law_generators L.d_law_generators
  b_law_generators : Binds K L.d_law_generators ["bands", "lamp"] []
  m_law_generators : mg "_law_generators" = some (.ref L.f_law_generators)
  F_law_sum : Fun K "_law_sum" "_law_sum" s_law_sum L.f_law_sum L.d_law_sum
  b_law_sum : Binds K L.d_law_sum ["generators", "values"] []
  m_law_sum : mg "_law_sum" = some (.ref L.f_law_sum)
  F_law_colored : Fun K "_law_colored" "_law_colored" s_law_colored L.f_law_colored L.d_law_colored
  b_law_colored : Binds K L.d_law_colored ["cell", "generators", "values"] []
  m_law_colored : mg "_law_colored" = some (.ref L.f_law_colored)
  F_law_quotients : Fun K "_law_quotients" "_law_quotients" s_law_quotients L.f_law_quotients L.d_law_quotients
  b_law_quotients : Binds K L.d_law_quotients ["values"] []
  m_law_quotients : mg "_law_quotients" = some (.ref L.f_law_quotients)
  F_law_scene : Fun K "_law_scene" "_law_scene" s_law_scene L.f_law_scene L.d_law_scene
  b_law_scene : Binds K L.d_law_scene ["script"] []
  m_law_scene : mg "_law_scene" = some (.ref L.f_law_scene)
  F_law_is_band : Fun K "_law_is_band" "_law_is_band" s_law_is_band L.f_law_is_band L.d_law_is_band
  b_law_is_band : Binds K L.d_law_is_band ["value", "count"] []
  m_law_is_band : mg "_law_is_band" = some (.ref L.f_law_is_band)
  F_law_kind : Fun K "_law_kind" "_law_kind" s_law_kind L.f_law_kind L.d_law_kind
  b_law_kind : Binds K L.d_law_kind ["paper", "kind", "length"] []
  m_law_kind : mg "_law_kind" = some (.ref L.f_law_kind)
  F_law_turned : Fun K "_law_turned" "_law_turned" s_law_turned L.f_law_turned L.d_law_turned
  b_law_turned : Binds K L.d_law_turned ["paper", "digits", "at"] []
  m_law_turned : mg "_law_turned" = some (.ref L.f_law_turned)
  F_law_crossings : Fun K "_law_crossings" "_law_crossings" s_law_crossings L.f_law_crossings L.d_law_crossings
  b_law_crossings : Binds K L.d_law_crossings ["first", "second"] []
  m_law_crossings : mg "_law_crossings" = some (.ref L.f_law_crossings)
  F_law_judged : Fun K "_law_judged" "_law_judged" s_law_judged L.f_law_judged L.d_law_judged
  b_law_judged : Binds K L.d_law_judged ["bands", "first", "second", "paper"] []
  m_law_judged : mg "_law_judged" = some (.ref L.f_law_judged)
  F_law_refused : Fun K "_law_refused" "_law_refused" s_law_refused L.f_law_refused L.d_law_refused
  b_law_refused : Binds K L.d_law_refused ["observer", "first", "second"] []
  m_law_refused : mg "_law_refused" = some (.ref L.f_law_refused)
  F_law : Fun K "law" "law" s_law L.f_law L.d_law
  b_law : Binds K L.d_law ["script"] []
  m_law : mg "law" = some (.ref L.f_law)
  mg_ColorError : mg "ColorError" = some (.ref L.C_ColorError)
  mg_BadQuotient : mg "BadQuotient" = some (.ref L.C_BadQuotient)
  mg_BadObserver : mg "BadObserver" = some (.ref L.C_BadObserver)
  mg_Irregular : mg "Irregular" = some (.ref L.C_Irregular)
  mg_BadLamp : mg "BadLamp" = some (.ref L.C_BadLamp)
  mg_BadReflectance : mg "BadReflectance" = some (.ref L.C_BadReflectance)
  mg_LengthsDiffer : mg "LengthsDiffer" = some (.ref L.C_LengthsDiffer)
  mg_Quotient : mg "Quotient" = some (.ref L.C_Quotient)
  mg_Observer : mg "Observer" = some (.ref L.C_Observer)
  mg_View : mg "View" = some (.ref L.C_View)
  k_Quotient : KC K L.C_Quotient
  sf_Quotient : PySem.W.selfFirst K L.C_Quotient = true
  mk_Quotient : Mk K L.C_Quotient L.f_Quotient_init
  na_Quotient_top : NoAttr K L.C_Quotient "top"
  na_Quotient_bottom : NoAttr K L.C_Quotient "bottom"
  k_Observer : KC K L.C_Observer
  sf_Observer : PySem.W.selfFirst K L.C_Observer = true
  mk_Observer : Mk K L.C_Observer L.f_Observer_init
  na_Observer_bands : NoAttr K L.C_Observer "bands"
  na_Observer_vectors : NoAttr K L.C_Observer "vectors"
  k_View : KC K L.C_View
  sf_View : PySem.W.selfFirst K L.C_View = true
  mk_View : Mk K L.C_View L.f_View_init
  na_View_observer : NoAttr K L.C_View "observer"
  na_View_lamp : NoAttr K L.C_View "lamp"
  na_View_generators : NoAttr K L.C_View "generators"
  kit_Quotient_Quotient : PySem.W.kitOne K (.ref L.C_Quotient) (.ref L.C_Quotient) = some true
  kit_bool_bool : PySem.W.kitOne K (.type "bool") (.type "bool") = some true
  kit_int_int : PySem.W.kitOne K (.type "int") (.type "int") = some true
  kit_int_bool : PySem.W.kitOne K (.type "int") (.type "bool") = some false
  kit_tuple_tuple : PySem.W.kitOne K (.type "tuple") (.type "tuple") = some true
  kit_int_tuple : PySem.W.kitOne K (.type "int") (.type "tuple") = some false
  kit_str_tuple : PySem.W.kitOne K (.type "str") (.type "tuple") = some false
  kit_NoneType_tuple : PySem.W.kitOne K (.type "NoneType") (.type "tuple") = some false
  kit_list_tuple : PySem.W.kitOne K (.type "list") (.type "tuple") = some false
  kit_dict_tuple : PySem.W.kitOne K (.type "dict") (.type "tuple") = some false
  kit_Quotient_tuple : PySem.W.kitOne K (.ref L.C_Quotient) (.type "tuple") = some false
  kit_int_Quotient : PySem.W.kitOne K (.type "int") (.ref L.C_Quotient) = some false
  kit_str_Quotient : PySem.W.kitOne K (.type "str") (.ref L.C_Quotient) = some false
  kit_NoneType_Quotient : PySem.W.kitOne K (.type "NoneType") (.ref L.C_Quotient) = some false
  kit_list_Quotient : PySem.W.kitOne K (.type "list") (.ref L.C_Quotient) = some false
  kit_dict_Quotient : PySem.W.kitOne K (.type "dict") (.ref L.C_Quotient) = some false
  kit_tuple_Quotient : PySem.W.kitOne K (.type "tuple") (.ref L.C_Quotient) = some false
  kit_str_int : PySem.W.kitOne K (.type "str") (.type "int") = some false
  kit_NoneType_int : PySem.W.kitOne K (.type "NoneType") (.type "int") = some false
  kit_list_int : PySem.W.kitOne K (.type "list") (.type "int") = some false
  kit_dict_int : PySem.W.kitOne K (.type "dict") (.type "int") = some false
  kit_tuple_int : PySem.W.kitOne K (.type "tuple") (.type "int") = some false
  kit_Quotient_int : PySem.W.kitOne K (.ref L.C_Quotient) (.type "int") = some false
  kit_int_str : PySem.W.kitOne K (.type "int") (.type "str") = some false
  kit_NoneType_str : PySem.W.kitOne K (.type "NoneType") (.type "str") = some false
  kit_list_str : PySem.W.kitOne K (.type "list") (.type "str") = some false
  kit_dict_str : PySem.W.kitOne K (.type "dict") (.type "str") = some false
  kit_tuple_str : PySem.W.kitOne K (.type "tuple") (.type "str") = some false
  kit_Quotient_str : PySem.W.kitOne K (.ref L.C_Quotient) (.type "str") = some false
  kit_str_str : PySem.W.kitOne K (.type "str") (.type "str") = some true
  kit_BadReflectance_ColorError : PySem.W.kitOne K (.ref L.C_BadReflectance) (.ref L.C_ColorError) = some true
  x_BadQuotient : PySem.W.excIn K L.C_BadQuotient [.type "ValueError", .type "Exception", .type "BaseException", .type "object"] "ValueError.__new__" = true
  kc_BadQuotient : PySem.W.keepIn K (.ref L.C_BadQuotient) = true
  xb_BadQuotient : PySem.W.subIn K (.ref L.C_BadQuotient) (.type "BaseException") = some true
  xd_BadQuotient : PySem.W.hasDictIn K L.C_BadQuotient = true
  xt_BadQuotient : PySem.W.typeIn K (.ref L.C_BadQuotient) = some (.type "type")
  xi_BadQuotient : PySem.W.isClsIn K L.C_BadQuotient = true
  xs_BadQuotient : PySem.W.subIn K (.ref L.C_BadQuotient) (.ref L.C_BadQuotient) = some true
  x_BadObserver : PySem.W.excIn K L.C_BadObserver [.type "ValueError", .type "Exception", .type "BaseException", .type "object"] "ValueError.__new__" = true
  kc_BadObserver : PySem.W.keepIn K (.ref L.C_BadObserver) = true
  xb_BadObserver : PySem.W.subIn K (.ref L.C_BadObserver) (.type "BaseException") = some true
  xd_BadObserver : PySem.W.hasDictIn K L.C_BadObserver = true
  xt_BadObserver : PySem.W.typeIn K (.ref L.C_BadObserver) = some (.type "type")
  xi_BadObserver : PySem.W.isClsIn K L.C_BadObserver = true
  xs_BadObserver : PySem.W.subIn K (.ref L.C_BadObserver) (.ref L.C_BadObserver) = some true
  x_BadLamp : PySem.W.excIn K L.C_BadLamp [.type "ValueError", .type "Exception", .type "BaseException", .type "object"] "ValueError.__new__" = true
  kc_BadLamp : PySem.W.keepIn K (.ref L.C_BadLamp) = true
  xb_BadLamp : PySem.W.subIn K (.ref L.C_BadLamp) (.type "BaseException") = some true
  xd_BadLamp : PySem.W.hasDictIn K L.C_BadLamp = true
  xt_BadLamp : PySem.W.typeIn K (.ref L.C_BadLamp) = some (.type "type")
  xi_BadLamp : PySem.W.isClsIn K L.C_BadLamp = true
  xs_BadLamp : PySem.W.subIn K (.ref L.C_BadLamp) (.ref L.C_BadLamp) = some true
  x_BadReflectance : PySem.W.excIn K L.C_BadReflectance [.type "ValueError", .type "Exception", .type "BaseException", .type "object"] "ValueError.__new__" = true
  kc_BadReflectance : PySem.W.keepIn K (.ref L.C_BadReflectance) = true
  xb_BadReflectance : PySem.W.subIn K (.ref L.C_BadReflectance) (.type "BaseException") = some true
  xd_BadReflectance : PySem.W.hasDictIn K L.C_BadReflectance = true
  xt_BadReflectance : PySem.W.typeIn K (.ref L.C_BadReflectance) = some (.type "type")
  xi_BadReflectance : PySem.W.isClsIn K L.C_BadReflectance = true
  xs_BadReflectance : PySem.W.subIn K (.ref L.C_BadReflectance) (.ref L.C_BadReflectance) = some true
  x_LengthsDiffer : PySem.W.excIn K L.C_LengthsDiffer [.type "ValueError", .type "Exception", .type "BaseException", .type "object"] "ValueError.__new__" = true
  kc_LengthsDiffer : PySem.W.keepIn K (.ref L.C_LengthsDiffer) = true
  xb_LengthsDiffer : PySem.W.subIn K (.ref L.C_LengthsDiffer) (.type "BaseException") = some true
  xd_LengthsDiffer : PySem.W.hasDictIn K L.C_LengthsDiffer = true
  xt_LengthsDiffer : PySem.W.typeIn K (.ref L.C_LengthsDiffer) = some (.type "type")
  xi_LengthsDiffer : PySem.W.isClsIn K L.C_LengthsDiffer = true
  xs_LengthsDiffer : PySem.W.subIn K (.ref L.C_LengthsDiffer) (.ref L.C_LengthsDiffer) = some true
  rd_Observer : PySem.W.readsIn K L.C_Observer (.type "type") = true
  cc_Observer_LEAST_BANDS : ∃ t : Tok, PySem.W.findCls K (.ref L.C_Observer) (.type "type") "LEAST_BANDS" = some (.val (.int 4 t))
  cc_Observer_MOST_BANDS : ∃ t : Tok, PySem.W.findCls K (.ref L.C_Observer) (.type "type") "MOST_BANDS" = some (.val (.int 7 t))
  eg_BadReflectance : PySem.W.findIn K (.ref L.C_BadReflectance) "__getattribute__" = some (some (.builtin "BaseException.__getattribute__"))
  ek_BadReflectance : PySem.W.findIn K (.ref L.C_BadReflectance) "__getattr__" = some none
  ea_BadReflectance : PySem.W.findIn K (.ref L.C_BadReflectance) "__class__" = some (some (.builtin "object.__class__"))
  en_BadReflectance : PySem.W.specialIn K (.builtin "object.__class__") "__get__" = some (some (.builtin "getset_descriptor.__get__"))
  et_BadReflectance : PySem.W.takesIn K (.builtin "object.__class__") = some true
  em_BadReflectance : PySem.W.mroIn K L.C_BadReflectance (.type "object") = some true
  nf_str : PySem.W.notFirst K L.C_Quotient (.type "str") = true
  ss_str : PySem.W.subIn K (.ref L.C_Quotient) (.type "str") = some false
  c_FEW : ∃ u, mg "FEW" = some u ∧ RelV (.str "few") u
  c_LAMP : ∃ u, mg "LAMP" = some u ∧ RelV (.str "lamp") u
  n_abs : mg "abs" = none
  n_all : mg "all" = none
  n_bool : mg "bool" = none
  n_divmod : mg "divmod" = none
  n_enumerate : mg "enumerate" = none
  n_int : mg "int" = none
  n_isinstance : mg "isinstance" = none
  n_len : mg "len" = none
  n_list : mg "list" = none
  n_range : mg "range" = none
  n_str : mg "str" = none
  n_sum : mg "sum" = none
  n_tuple : mg "tuple" = none
  n_zip : mg "zip" = none
  n_ValueError : mg "ValueError" = none
  i_gcd : mg "gcd" = some (.builtin "math.gcd")
  c_PIECE_DIGITS : ∃ u, mg "PIECE_DIGITS" = some u ∧ RelV (.int 18) u
  c_PIECE : ∃ u, mg "PIECE" = some u ∧ RelV (.int 1000000000000000000) u
  c_PARTS : ∃ u, mg "PARTS" = some u ∧ RelV (.int 3) u
  c_MOST_PART : ∃ u, mg "MOST_PART" = some u ∧ RelV (.int 100) u
  c_LEAST_LIGHT : ∃ u, mg "LEAST_LIGHT" = some u ∧ RelV (.int 1) u
  c_MOST_LIGHT : ∃ u, mg "MOST_LIGHT" = some u ∧ RelV (.int 100) u
  c_FOUR : ∃ u, mg "FOUR" = some u ∧ RelV (.int 4) u
  c_MOST_FEW : ∃ u, mg "MOST_FEW" = some u ∧ RelV (.int 2) u
theorem Txt.ec_BadReflectance {K : PySem.W.Frag} {mg : Str → Option Value} {L : Lay} (T : Txt K mg L) : ExcC K L.C_BadReflectance := ⟨T.eg_BadReflectance, T.ek_BadReflectance, T.xb_BadReflectance, T.xd_BadReflectance, T.ea_BadReflectance, T.en_BadReflectance, T.et_BadReflectance, T.em_BadReflectance⟩
theorem Txt.ex_BadQuotient {K : PySem.W.Frag} {mg : Str → Option Value} {L : Lay} (T : Txt K mg L) : PySem.W.exmOne K (.ref L.C_BadQuotient) (.ref L.C_BadQuotient) = some true := PySem.W.exm_ref T.xb_BadQuotient T.xd_BadQuotient T.xt_BadQuotient T.xs_BadQuotient
theorem Txt.ex_BadObserver {K : PySem.W.Frag} {mg : Str → Option Value} {L : Lay} (T : Txt K mg L) : PySem.W.exmOne K (.ref L.C_BadObserver) (.ref L.C_BadObserver) = some true := PySem.W.exm_ref T.xb_BadObserver T.xd_BadObserver T.xt_BadObserver T.xs_BadObserver
theorem Txt.ex_BadLamp {K : PySem.W.Frag} {mg : Str → Option Value} {L : Lay} (T : Txt K mg L) : PySem.W.exmOne K (.ref L.C_BadLamp) (.ref L.C_BadLamp) = some true := PySem.W.exm_ref T.xb_BadLamp T.xd_BadLamp T.xt_BadLamp T.xs_BadLamp
theorem Txt.ex_BadReflectance {K : PySem.W.Frag} {mg : Str → Option Value} {L : Lay} (T : Txt K mg L) : PySem.W.exmOne K (.ref L.C_BadReflectance) (.ref L.C_BadReflectance) = some true := PySem.W.exm_ref T.xb_BadReflectance T.xd_BadReflectance T.xt_BadReflectance T.xs_BadReflectance
theorem Txt.ex_LengthsDiffer {K : PySem.W.Frag} {mg : Str → Option Value} {L : Lay} (T : Txt K mg L) : PySem.W.exmOne K (.ref L.C_LengthsDiffer) (.ref L.C_LengthsDiffer) = some true := PySem.W.exm_ref T.xb_LengthsDiffer T.xd_LengthsDiffer T.xt_LengthsDiffer T.xs_LengthsDiffer
section
variable {Pr : Program} {w : World} {K : PySem.W.Frag} {mg : Str → Option Value} {base : Heap} {L : Lay}
local macro_rules | `(tactic| walk_at "bz") => `(tactic| first
  | with_reducible assumption
  | with_reducible exact bits_zero
  | with_reducible exact bits_one
  | with_reducible exact bits_add (by walk_at "bz") (by walk_at "bz")
  | with_reducible exact bits_sub (by walk_at "bz") (by walk_at "bz")
  | with_reducible exact bits_mul (by walk_at "bz") (by walk_at "bz")
  | with_reducible exact bits_neg (by walk_at "bz"))
local macro_rules | `(tactic| walk_at "qq") => `(tactic| first
  | refine t_or ?_
  | refine t_and ?_
  | refine e_call (a_nil ⟨rfl, rfl, ?_⟩))
local macro_rules | `(tactic| walk_at "qq") => `(tactic| first
  | refine e_var rfl ?_
  | refine e_c ?_
  | refine r_own ⟨_, _, _, _, rfl, by walk_at "bz", by walk_at "bz", by decide, ?_⟩
  | refine r_own1 ⟨_, _, rfl, by walk_at "bz", by decide, ?_⟩
  | refine e_op ?_
  | refine e_un ?_
  | refine t_test ?_
  | refine t_not ?_)
local macro_rules | `(tactic| walk_at "qv") => `(tactic| first
  | refine e_var rfl ?_
  | refine e_c ?_
  | refine r_own ⟨_, _, _, _, rfl, by walk_at "bz", by walk_at "bz", by omega, ?_⟩
  | refine r_own1 ⟨_, _, rfl, by walk_at "bz", by omega, ?_⟩
  | refine e_op ?_
  | refine e_un ?_)
local macro_rules | `(tactic| walk_at "ii") => `(tactic| first
  | refine e_var rfl ?_
  | refine e_c ?_
  | refine r_rI0 ?_
  | refine r_rI (wide_q (by assumption) (by assumption) (by decide)) ?_
  | refine r_ixT rfl ?_
  | refine e_op ?_)
local macro_rules | `(tactic| walk_at "bv") => `(tactic| first
  | with_reducible assumption
  | with_reducible exact bitsV_zero
  | with_reducible exact bitsV_add (by walk_at "bv") (by walk_at "bv")
  | with_reducible exact bitsV_sub (by walk_at "bv") (by walk_at "bv")
  | with_reducible exact bits_det (m := 6) (by assumption) (by assumption) (by assumption)
  | with_reducible exact bits_det (m := 13) (by walk_at "bv") (by assumption) (by assumption)
  | with_reducible exact bits_neg (by walk_at "bv")
  | with_reducible exact bits_add (by walk_at "bv") (by walk_at "bv"))
local macro_rules | `(tactic| walk_at "vv") => `(tactic| first
  | refine a_nil ⟨rfl, _, _, _, 6, rfl, by assumption, by assumption, by assumption, by decide, ?_⟩
  | refine a_nil ⟨rfl, _, _, _, _, rfl, by walk_at "bv", by walk_at "bv", by decide, ?_⟩
  | refine a_nil ⟨rfl, rfl, ?_⟩)
local macro_rules | `(tactic| walk_at "vv") => `(tactic| first
  | with_reducible refine e_un ?_
  | refine e_call ?_
  | refine r_own ⟨_, _, _, _, rfl, by walk_at "bv", by walk_at "bv", by decide, ?_⟩
  | refine r_own1 ⟨_, _, rfl, by walk_at "bv", by decide, ?_⟩
  | refine r_ixT (at_dV (by assumption)) ?_
  | refine r_ixL (at_row (by assumption)) ?_
  | refine r_ixL rfl ?_
  | refine r_rI0 ?_)
local macro_rules | `(tactic| walk_at "vv") => `(tactic| first
  | refine t_not ?_
  | refine t_or ?_
  | refine t_test ?_
  | refine t_B ?_
  | refine e_var rfl ?_
  | refine e_c ?_
  | with_reducible refine a_cons ?_
  | with_reducible refine e_op ?_)
theorem e_top {te : TE} {ρ : Rho} {O : Store} {P : D → Store → Prop} (T : Txt K mg L) (h : wE K te ρ O fun x O1 => ∃ q, x = dQ L.C_Quotient q ∧ P (.int q.num) O1) : wE K (tFld K te "top") ρ O P :=
  e_fld (h.mono fun d O' z => by obtain ⟨q, rfl, p⟩ := z; exact ⟨_, _, _, rfl, T.k_Quotient.cl, T.na_Quotient_top, rfl, p⟩)
theorem e_bot {te : TE} {ρ : Rho} {O : Store} {P : D → Store → Prop} (T : Txt K mg L) (h : wE K te ρ O fun x O1 => ∃ q, x = dQ L.C_Quotient q ∧ P (.int (q.den : Int)) O1) : wE K (tFld K te "bottom") ρ O P :=
  e_fld (h.mono fun d O' z => by obtain ⟨q, rfl, p⟩ := z; exact ⟨_, _, _, rfl, T.k_Quotient.cl, T.na_Quotient_bottom, rfl, p⟩)
theorem e_topv {ρ : Rho} {O : Store} {P : D → Store → Prop} {i : Nat} {q : Rat} (T : Txt K mg L) (h : ρ[i]? = some (some (dQ L.C_Quotient q))) (p : P (.int q.num) O) : wE K (tFld K (tVar i) "top") ρ O P := e_top T (e_var h ⟨q, rfl, p⟩)
theorem e_botv {ρ : Rho} {O : Store} {P : D → Store → Prop} {i : Nat} {q : Rat} (T : Txt K mg L) (h : ρ[i]? = some (some (dQ L.C_Quotient q))) (p : P (.int (q.den : Int)) O) : wE K (tFld K (tVar i) "bottom") ρ O P := e_bot T (e_var h ⟨q, rfl, p⟩)
theorem ok_Quotient_init (T : Txt K mg L) : FnOk Pr w K mg base (L2.CX Pr w) 1 L.f_Quotient_init L.d_Quotient_init ["self", "top", "bottom"] (spI K L.C_Quotient 2 (W_Qinit L.C_BadQuotient)) := by
  refine okI T.F_Quotient_init sc_Quotient_init rfl (fun cdv A outer s H0 E hr => ⟨_, (pss_cons (ps_if (pt_cmpR op_eq (pv 2) pe_int (nomark _)) (pss_one (ps_raise rfl (takes_of rfl rfl rfl rfl) (pmk_own PySem.F.excBase_ValueError T.x_BadQuotient T.mg_BadQuotient T.kc_BadQuotient (raises_own T.xb_BadQuotient T.xt_BadQuotient) (by rfl)))) pss_nil)
    (pss_cons (ps_set (i := 3) sc_Quotient_init.nd rfl (by first | exact Or.inl rfl | exact Or.inr rfl) (pe_callBfun cr_gcd (by rfl) T.i_gcd (pa_cons (pv 1) (pa_cons (pv 2) pa_nil))))
    (pss_cons (ps_if (pt_cmpR op_lt (pv 2) pe_int (nomark _)) (pss_one (ps_set (i := 3) sc_Quotient_init.nd rfl (by first | exact Or.inl rfl | exact Or.inr rfl) (pe_un un_neg (pv 3)))) pss_nil)
    (pss_cons (ps_fld (pv 0) (pe_op op_fdivG (pv 1) (pv 3)) rfl)
    (pss_one (ps_fld (pv 0) (pe_op op_fdivG (pv 2) (pv 3)) rfl)))))), ?_⟩)
  rintro ds PF PX hl ⟨t, b, rfl, h0, h1⟩ xa F1 B H σ Q e hs q qx
  refine t_run (P := fun bb O' => bb = decide (b = 0) ∧ O' = [(xa, .ins L.C_Quotient [])]) (O := [(xa, .ins L.C_Quotient [])]) ?_ e hs ?_
  · refine t_test (e_op (e_var rfl (e_c (r_eq rfl ⟨_, rfl, ?_, rfl⟩))))
    rw [Bool.eq_iff_iff]
    simp
  · rintro bb O' B2 H2 ⟨rfl, rfl⟩ e2 hs2
    by_cases hb : b = 0
    · rw [decide_eq_true hb]
      exact qx _ B2 H2 (h0 hb) e2 hs2.tail
    · obtain ⟨hbits, hPF⟩ := h1 hb
      rw [decide_eq_false hb]
      refine iteF ?_
      dsimp only [tNext]
      refine init_rest (C := L.C_Quotient) (PF := PF) ?_ (e.mono e2) hs2 e2 q
      refine s_seq (s_asg (e_cb (a_cons (e_var rfl (a_cons (e_var rfl (a_nil (c_gcd ?_))))))))
      refine s_seq (wS.mono (PS := fun o O' => o = .nx [some (.loc xa), some (.int t), some (.int b), some (.int (common t b))] ∧ O' = [(xa, .ins L.C_Quotient [])]) ?_ ?_)
      · refine s_if (t_test (e_op (e_var rfl (e_c (r_rI0 ⟨_, rfl, fun hn => ?_, fun hn => ?_⟩)))))
        · refine s_asg (e_un (e_var rfl (r_rU ⟨?_, rfl⟩)))
          unfold common
          rw [if_pos (of_decide_eq_true hn)]
          rfl
        · refine s_next ⟨?_, rfl⟩
          unfold common
          rw [if_neg (of_decide_eq_false hn)]
          rfl
      · rintro o O' ⟨rfl, rfl⟩
        have hc := common_ne (t := t) hb
        have hcb : (common t b).natAbs < 2 ^ 8990 := Nat.lt_of_le_of_lt (common_le hb) hbits
        refine s_seq (s_fld (e_op (e_var rfl (e_var rfl (r_rI (cdivG hc hcb (by decide)) (e_var rfl ⟨xa, L.C_Quotient, [], _, rfl, .here, T.k_Quotient.cl, T.na_Quotient_top, by decide, ?_⟩))))))
        refine s_fld (e_op (e_var rfl (e_var rfl (r_rI (cdivG hc hcb (by decide)) (e_var rfl ⟨xa, L.C_Quotient, _, _, rfl, .here, T.k_Quotient.cl, T.na_Quotient_bottom, (by show 1 < 1000; decide), ?_⟩)))))
        refine ⟨_, rfl, ?_⟩
        rw [quo_num hb, quo_den hb]
        exact hPF
theorem ok_whole (T : Txt K mg L) : FnOk Pr w K mg base CX0 3 L.f_whole L.d_whole ["number"] (spP K 1 (W_whole L.C_Quotient)) := by
  refine okP T.F_whole sc_whole rfl (fun cdv A outer s H E hr => ⟨_, (pss_one (ps_ret (pe_make T.mk_Quotient (ok_Quotient_init T) (hr.mono (by decide)) (by rfl) T.mg_Quotient T.b_Quotient_init .nil passL (pa_cons (pv 0) (pa_cons pe_int pa_nil))))), ?_⟩)
  rintro ds P hl ⟨n, rfl, p⟩
  refine s_ret (e_make (a_cons (e_var rfl (a_cons (e_c (a_nil ⟨rfl, n, 1, rfl, fun z => absurd z (by decide), fun _ => ⟨one_small, ?_⟩⟩))))))
  rw [q_whole]
  exact p
theorem ok_zero (T : Txt K mg L) : FnOk Pr w K mg base CX0 4 L.f_zero L.d_zero [] (spP K 0 (W_q0 L.C_Quotient 0)) := by
  refine okP T.F_zero sc_zero rfl (fun cdv A outer s H E hr => ⟨_, (pss_one (ps_ret (pe_call (ok_whole T) (hr.mono (by decide)) (by rfl) T.m_whole T.F_whole.kp T.b_whole .nil pass0 (pa_cons pe_int pa_nil)))), ?_⟩)
  rintro ds P hl ⟨rfl, p⟩
  exact s_ret (e_call (a_cons (e_c (a_nil ⟨rfl, 0, rfl, p⟩))))
theorem ok_one (T : Txt K mg L) : FnOk Pr w K mg base CX0 4 L.f_one L.d_one [] (spP K 0 (W_q0 L.C_Quotient 1)) := by
  refine okP T.F_one sc_one rfl (fun cdv A outer s H E hr => ⟨_, (pss_one (ps_ret (pe_call (ok_whole T) (hr.mono (by decide)) (by rfl) T.m_whole T.F_whole.kp T.b_whole .nil pass0 (pa_cons pe_int pa_nil)))), ?_⟩)
  rintro ds P hl ⟨rfl, p⟩
  exact s_ret (e_call (a_cons (e_c (a_nil ⟨rfl, 1, rfl, p⟩))))
/-- a quotient made of two parts -/
theorem e_quo {ta tb : TE} {ρ : Rho} {O : Store} {P : D → Store → Prop} {C CB : Addr} {E : XK} (h : wE K ta ρ O fun x O1 => wE K tb ρ O1 fun y O2 => ∃ t b : Int, x = .int t ∧ y = .int b ∧ b ≠ 0 ∧ b.natAbs < 2 ^ 8990 ∧ P (dQ C (Rat.divInt t b)) O2) :
    wE K (tMake C (spI K C 2 (W_Qinit CB)) [] E (tCons ta (tCons tb tNil))) ρ O P :=
  e_make (a_cons (h.mono fun x O1 h1 => a_cons (h1.mono fun y O2 h2 => a_nil (by
    obtain ⟨t, b, rfl, rfl, hb, hz, p⟩ := h2
    exact ⟨rfl, t, b, rfl, fun z => absurd z hb, fun _ => ⟨hz, p⟩⟩))))
theorem ok_Quotient_add (T : Txt K mg L) : FnOk Pr w K mg base CX0 3 L.f_Quotient_add L.d_Quotient_add ["self", "other"] (spP K 2 (W_q2 L.C_Quotient fun x y => dQ L.C_Quotient (x + y))) := by
  refine okP T.F_Quotient_add sc_Quotient_add rfl (fun cdv A outer s H E hr => ⟨_, (pss_one (ps_ret (pe_make T.mk_Quotient (ok_Quotient_init T) (hr.mono (by decide)) (by rfl) T.mg_Quotient T.b_Quotient_init .nil passL (pa_cons (pe_op op_add (pe_op op_mulW (pe_fld (pv 0) rfl) (pe_fld (pv 1) rfl)) (pe_op op_mulW (pe_fld (pv 1) rfl) (pe_fld (pv 0) rfl))) (pa_cons (pe_op op_mulW (pe_fld (pv 0) rfl) (pe_fld (pv 1) rfl)) pa_nil))))), ?_⟩)
  rintro ds P hl ⟨x, y, m, n, rfl, hx, hy, hmn, p⟩
  refine s_ret (e_quo (e_op (e_op (e_topv T (q := x) rfl (e_botv T (q := y) rfl (r_rI (wide_q hx.1 (bits_den hy) (by omega)) ?_))))))
  refine e_op (e_topv T (q := y) rfl (e_botv T (q := x) rfl (r_rI (wide_q hy.1 (bits_den hx) (by omega)) (r_rI0 ?_))))
  refine e_op (e_botv T (q := x) rfl (e_botv T (q := y) rfl (r_rI (wide_q (bits_den hx) (bits_den hy) (by omega)) ⟨_, _, rfl, rfl, den_mul_ne x y, small_of (natAbs_mul_lt (bits_den hx) (bits_den hy)) (by omega), ?_⟩)))
  rw [q_add]
  exact p
theorem ok_Quotient_sub (T : Txt K mg L) : FnOk Pr w K mg base CX0 3 L.f_Quotient_sub L.d_Quotient_sub ["self", "other"] (spP K 2 (W_q2 L.C_Quotient fun x y => dQ L.C_Quotient (x - y))) := by
  refine okP T.F_Quotient_sub sc_Quotient_sub rfl (fun cdv A outer s H E hr => ⟨_, (pss_one (ps_ret (pe_make T.mk_Quotient (ok_Quotient_init T) (hr.mono (by decide)) (by rfl) T.mg_Quotient T.b_Quotient_init .nil passL (pa_cons (pe_op op_sub (pe_op op_mulW (pe_fld (pv 0) rfl) (pe_fld (pv 1) rfl)) (pe_op op_mulW (pe_fld (pv 1) rfl) (pe_fld (pv 0) rfl))) (pa_cons (pe_op op_mulW (pe_fld (pv 0) rfl) (pe_fld (pv 1) rfl)) pa_nil))))), ?_⟩)
  rintro ds P hl ⟨x, y, m, n, rfl, hx, hy, hmn, p⟩
  refine s_ret (e_quo (e_op (e_op (e_topv T (q := x) rfl (e_botv T (q := y) rfl (r_rI (wide_q hx.1 (bits_den hy) (by omega)) ?_))))))
  refine e_op (e_topv T (q := y) rfl (e_botv T (q := x) rfl (r_rI (wide_q hy.1 (bits_den hx) (by omega)) (r_rI0 ?_))))
  refine e_op (e_botv T (q := x) rfl (e_botv T (q := y) rfl (r_rI (wide_q (bits_den hx) (bits_den hy) (by omega)) ⟨_, _, rfl, rfl, den_mul_ne x y, small_of (natAbs_mul_lt (bits_den hx) (bits_den hy)) (by omega), ?_⟩)))
  rw [q_sub]
  exact p
theorem ok_Quotient_mul (T : Txt K mg L) : FnOk Pr w K mg base CX0 3 L.f_Quotient_mul L.d_Quotient_mul ["self", "other"] (spP K 2 (W_q2 L.C_Quotient fun x y => dQ L.C_Quotient (x * y))) := by
  refine okP T.F_Quotient_mul sc_Quotient_mul rfl (fun cdv A outer s H E hr => ⟨_, (pss_one (ps_ret (pe_make T.mk_Quotient (ok_Quotient_init T) (hr.mono (by decide)) (by rfl) T.mg_Quotient T.b_Quotient_init .nil passL (pa_cons (pe_op op_mulW (pe_fld (pv 0) rfl) (pe_fld (pv 1) rfl)) (pa_cons (pe_op op_mulW (pe_fld (pv 0) rfl) (pe_fld (pv 1) rfl)) pa_nil))))), ?_⟩)
  rintro ds P hl ⟨x, y, m, n, rfl, hx, hy, hmn, p⟩
  refine s_ret (e_quo (e_op (e_topv T (q := x) rfl (e_topv T (q := y) rfl (r_rI (wide_q hx.1 hy.1 (by omega)) ?_)))))
  refine e_op (e_botv T (q := x) rfl (e_botv T (q := y) rfl (r_rI (wide_q (bits_den hx) (bits_den hy) (by omega)) ⟨_, _, rfl, rfl, den_mul_ne x y, small_of (natAbs_mul_lt (bits_den hx) (bits_den hy)) (by omega), ?_⟩)))
  rw [q_mul]
  exact p
theorem ok_Quotient_neg (T : Txt K mg L) : FnOk Pr w K mg base CX0 3 L.f_Quotient_neg L.d_Quotient_neg ["self"] (spP K 1 (W_q1 L.C_Quotient fun x => dQ L.C_Quotient (-x))) := by
  refine okP T.F_Quotient_neg sc_Quotient_neg rfl (fun cdv A outer s H E hr => ⟨_, (pss_one (ps_ret (pe_make T.mk_Quotient (ok_Quotient_init T) (hr.mono (by decide)) (by rfl) T.mg_Quotient T.b_Quotient_init .nil passL (pa_cons (pe_un un_neg (pe_fld (pv 0) rfl)) (pa_cons (pe_fld (pv 0) rfl) pa_nil))))), ?_⟩)
  rintro ds P hl ⟨x, m, rfl, hx, hm, p⟩
  refine s_ret (e_quo (e_un (e_topv T (q := x) rfl (r_rU ?_))))
  refine e_botv T (q := x) rfl ⟨_, _, rfl, rfl, den_ne x, small_of (bits_den hx) (by omega), ?_⟩
  rw [q_neg]
  exact p
theorem ok_Quotient_eq (T : Txt K mg L) : FnOk Pr w K mg base CX0 1 L.f_Quotient_eq L.d_Quotient_eq ["self", "other"] (spP K 2 (W_q2 L.C_Quotient fun x y => .bl (decide (x = y)))) := by
  refine okP T.F_Quotient_eq sc_Quotient_eq rfl (fun cdv A outer s H E hr => ⟨_, (pss_one (ps_ret (pe_and (pe_callB (r := rIsi K) call_isi rfl T.n_isinstance (by decide +kernel) (pa_cons (pv 1) (pa_cons (pe_glob (v := .ref L.C_Quotient) (by rfl) T.mg_Quotient rfl) pa_nil))) (pe_and (pe_cmpR op_eq (pe_fld (pv 0) rfl) (pe_fld (pv 1) rfl) (nomark _)) (pe_one (pe_cmpR op_eq (pe_fld (pv 0) rfl) (pe_fld (pv 1) rfl) (nomark _))))))), ?_⟩)
  rintro ds P hl ⟨x, y, m, n, rfl, hx, hy, hmn, p⟩
  dsimp only at p
  rw [← q_eq] at p
  refine s_ret (e_and (e_cb (a_cons (e_var rfl (a_cons (e_c (a_nil (c_isi (.ins _ _ T.k_Quotient) (.own _) T.kit_Quotient_Quotient ⟨true, rfl, fun _ => ?_, fun z => nomatch z⟩))))))))
  refine e_and (e_op (e_topv T (q := x) rfl (e_topv T (q := y) rfl (r_eq rfl ⟨_, rfl, fun h1 => ?_, fun h1 => ?_⟩))))
  · refine e_op (e_botv T (q := x) rfl (e_botv T (q := y) rfl (r_eq rfl ?_)))
    rw [dec_ints] at h1 ⊢
    rw [h1] at p
    exact p
  · rw [dec_ints] at h1
    rw [h1] at p
    exact p
theorem ok_Quotient_lt (T : Txt K mg L) : FnOk Pr w K mg base CX0 1 L.f_Quotient_lt L.d_Quotient_lt ["self", "other"] (spP K 2 (W_q2 L.C_Quotient fun x y => .bl (decide (x < y)))) := by
  refine okP T.F_Quotient_lt sc_Quotient_lt rfl (fun cdv A outer s H E hr => ⟨_, (pss_one (ps_ret (pe_cmpR op_lt (pe_op op_mulW (pe_fld (pv 0) rfl) (pe_fld (pv 1) rfl)) (pe_op op_mulW (pe_fld (pv 1) rfl) (pe_fld (pv 0) rfl)) (nomark _)))), ?_⟩)
  rintro ds P hl ⟨x, y, m, n, rfl, hx, hy, hmn, p⟩
  dsimp only at p
  rw [← q_lt] at p
  refine s_ret (e_op (e_op (e_topv T (q := x) rfl (e_botv T (q := y) rfl (r_rI (wide_q hx.1 (bits_den hy) (by omega)) ?_)))))
  exact e_op (e_topv T (q := y) rfl (e_botv T (q := x) rfl (r_rI (wide_q hy.1 (bits_den hx) (by omega)) (r_rI0 p))))
theorem ok_Quotient_le (T : Txt K mg L) : FnOk Pr w K mg base CX0 1 L.f_Quotient_le L.d_Quotient_le ["self", "other"] (spP K 2 (W_q2 L.C_Quotient fun x y => .bl (decide (x ≤ y)))) := by
  refine okP T.F_Quotient_le sc_Quotient_le rfl (fun cdv A outer s H E hr => ⟨_, (pss_one (ps_ret (pe_cmpR op_le (pe_op op_mulW (pe_fld (pv 0) rfl) (pe_fld (pv 1) rfl)) (pe_op op_mulW (pe_fld (pv 1) rfl) (pe_fld (pv 0) rfl)) (nomark _)))), ?_⟩)
  rintro ds P hl ⟨x, y, m, n, rfl, hx, hy, hmn, p⟩
  dsimp only at p
  rw [← q_le] at p
  refine s_ret (e_op (e_op (e_topv T (q := x) rfl (e_botv T (q := y) rfl (r_rI (wide_q hx.1 (bits_den hy) (by omega)) ?_)))))
  exact e_op (e_topv T (q := y) rfl (e_botv T (q := x) rfl (r_rI (wide_q hy.1 (bits_den hx) (by omega)) (r_rI0 p))))
theorem ok_Quotient_over (T : Txt K mg L) : FnOk Pr w K mg base (L2.CX Pr w) 3 L.f_Quotient_over L.d_Quotient_over ["self", "other"] (spX K 2 (W_over L.C_Quotient L.C_BadQuotient)) := by
  refine okX T.F_Quotient_over sc_Quotient_over rfl (fun cdv A outer s H0 E hr => ⟨_, (pss_one (ps_ret (pe_make T.mk_Quotient (ok_Quotient_init T) (hr.mono (by decide)) (by rfl) T.mg_Quotient T.b_Quotient_init .nil (passes_call (takes_of rfl rfl rfl rfl) (fun _ _ _ _ h => h)) (pa_cons (pe_op op_mulW (pe_fld (pv 0) rfl) (pe_fld (pv 1) rfl)) (pa_cons (pe_op op_mulW (pe_fld (pv 0) rfl) (pe_fld (pv 1) rfl)) pa_nil))))), ?_⟩)
  rintro ds P PX hl ⟨x, y, m, n, rfl, hx, hy, hmn, h0, h1⟩ F1 B H σ Q e hs q qx
  refine makeX (P := P) (PX := PX) ?_ e hs q qx
  refine a_cons (e_op (e_topv T (q := x) rfl (e_botv T (q := y) rfl (r_rI (wide_q hx.1 (bits_den hy) (by omega)) ?_))))
  refine a_cons (e_op (e_botv T (q := x) rfl (e_topv T (q := y) rfl (r_rI (wide_q (bits_den hx) hy.1 (by omega)) (a_nil ⟨rfl, rfl, _, _, rfl, ?_, ?_⟩)))))
  · intro z
    refine h0 ?_
    rcases Int.mul_eq_zero.mp z with h | h
    · exact absurd h (den_ne x)
    · exact Rat.num_eq_zero.mp h
  · intro z
    refine ⟨small_of (natAbs_mul_lt (bits_den hx) hy.1) (by omega), ?_⟩
    rw [q_over]
    refine h1 fun hy0 => z ?_
    rw [hy0]
    simp
theorem ok_black (T : Txt K mg L) : FnOk Pr w K mg base CX0 5 L.f_black L.d_black [] (spP K 0 (W_v0 L.C_Quotient)) := by
  refine okP T.F_black sc_black rfl (fun cdv A outer s H E hr => ⟨_, (pss_one (ps_ret (pe_tup (pa_cons (pe_call0 (ok_zero T) (hr.mono (by decide)) (by rfl) T.m_zero T.F_zero.kp T.b_zero .nil pass0) (pa_cons (pe_call0 (ok_zero T) (hr.mono (by decide)) (by rfl) T.m_zero T.F_zero.kp T.b_zero .nil pass0) (pa_cons (pe_call0 (ok_zero T) (hr.mono (by decide)) (by rfl) T.m_zero T.F_zero.kp T.b_zero .nil pass0) pa_nil)))))), ?_⟩)
  rintro ds P hl ⟨rfl, p⟩
  exact s_ret (e_tup (a_cons (e_call (a_nil ⟨rfl, rfl, a_cons (e_call (a_nil ⟨rfl, rfl, a_cons (e_call (a_nil ⟨rfl, rfl, a_nil ⟨(by show 3 ≤ 100000; decide), p⟩⟩))⟩))⟩))))
theorem ok_det (T : Txt K mg L) : FnOk Pr w K mg base CX0 4 L.f_det L.d_det ["first", "second", "third"] (spP K 3 (W_det L.C_Quotient)) := by
  refine okP T.F_det sc_det rfl (fun cdv A outer s H E hr => ⟨_, (pss_cons (ps_asg (pv 0) (pg_tup (by rfl) (pgs_cons (pg_name (i := 3) sc_det.nd rfl (by first | exact Or.inl rfl | exact Or.inr rfl)) (pgs_cons (pg_name (i := 4) sc_det.nd rfl (by first | exact Or.inl rfl | exact Or.inr rfl)) (pgs_cons (pg_name (i := 5) sc_det.nd rfl (by first | exact Or.inl rfl | exact Or.inr rfl)) pgs_nil)))))
    (pss_cons (ps_asg (pv 1) (pg_tup (by rfl) (pgs_cons (pg_name (i := 6) sc_det.nd rfl (by first | exact Or.inl rfl | exact Or.inr rfl)) (pgs_cons (pg_name (i := 7) sc_det.nd rfl (by first | exact Or.inl rfl | exact Or.inr rfl)) (pgs_cons (pg_name (i := 8) sc_det.nd rfl (by first | exact Or.inl rfl | exact Or.inr rfl)) pgs_nil)))))
    (pss_cons (ps_asg (pv 2) (pg_tup (by rfl) (pgs_cons (pg_name (i := 9) sc_det.nd rfl (by first | exact Or.inl rfl | exact Or.inr rfl)) (pgs_cons (pg_name (i := 10) sc_det.nd rfl (by first | exact Or.inl rfl | exact Or.inr rfl)) (pgs_cons (pg_name (i := 11) sc_det.nd rfl (by first | exact Or.inl rfl | exact Or.inr rfl)) pgs_nil)))))
    (pss_one (ps_ret (pe_op (op_own (ok_Quotient_add T) (hr.mono (by decide)) T.b_Quotient_add pass0 T.sf_Quotient T.fi_Quotient_add T.fn_Quotient_add) (pe_op (op_own (ok_Quotient_sub T) (hr.mono (by decide)) T.b_Quotient_sub pass0 T.sf_Quotient T.fi_Quotient_sub T.fn_Quotient_sub) (pe_op (op_own (ok_Quotient_mul T) (hr.mono (by decide)) T.b_Quotient_mul pass0 T.sf_Quotient T.fi_Quotient_mul T.fn_Quotient_mul) (pv 3) (pe_op (op_own (ok_Quotient_sub T) (hr.mono (by decide)) T.b_Quotient_sub pass0 T.sf_Quotient T.fi_Quotient_sub T.fn_Quotient_sub) (pe_op (op_own (ok_Quotient_mul T) (hr.mono (by decide)) T.b_Quotient_mul pass0 T.sf_Quotient T.fi_Quotient_mul T.fn_Quotient_mul) (pv 7) (pv 11)) (pe_op (op_own (ok_Quotient_mul T) (hr.mono (by decide)) T.b_Quotient_mul pass0 T.sf_Quotient T.fi_Quotient_mul T.fn_Quotient_mul) (pv 8) (pv 10)))) (pe_op (op_own (ok_Quotient_mul T) (hr.mono (by decide)) T.b_Quotient_mul pass0 T.sf_Quotient T.fi_Quotient_mul T.fn_Quotient_mul) (pv 4) (pe_op (op_own (ok_Quotient_sub T) (hr.mono (by decide)) T.b_Quotient_sub pass0 T.sf_Quotient T.fi_Quotient_sub T.fn_Quotient_sub) (pe_op (op_own (ok_Quotient_mul T) (hr.mono (by decide)) T.b_Quotient_mul pass0 T.sf_Quotient T.fi_Quotient_mul T.fn_Quotient_mul) (pv 6) (pv 11)) (pe_op (op_own (ok_Quotient_mul T) (hr.mono (by decide)) T.b_Quotient_mul pass0 T.sf_Quotient T.fi_Quotient_mul T.fn_Quotient_mul) (pv 8) (pv 9))))) (pe_op (op_own (ok_Quotient_mul T) (hr.mono (by decide)) T.b_Quotient_mul pass0 T.sf_Quotient T.fi_Quotient_mul T.fn_Quotient_mul) (pv 5) (pe_op (op_own (ok_Quotient_sub T) (hr.mono (by decide)) T.b_Quotient_sub pass0 T.sf_Quotient T.fi_Quotient_sub T.fn_Quotient_sub) (pe_op (op_own (ok_Quotient_mul T) (hr.mono (by decide)) T.b_Quotient_mul pass0 T.sf_Quotient T.fi_Quotient_mul T.fn_Quotient_mul) (pv 6) (pv 10)) (pe_op (op_own (ok_Quotient_mul T) (hr.mono (by decide)) T.b_Quotient_mul pass0 T.sf_Quotient T.fi_Quotient_mul T.fn_Quotient_mul) (pv 7) (pv 9)))))))))), ?_⟩)
  rintro ds P hl ⟨u, v, t, m, rfl, hu, hv, ht, hm, p⟩
  obtain ⟨u1, u2, u3⟩ := hu
  obtain ⟨v1, v2, v3⟩ := hv
  obtain ⟨t1, t2, t3⟩ := ht
  refine s_seq (s_asgG (e_var rfl (g_tup rfl (gs_cons' (g_name (gs_cons' (g_name (gs_cons' (g_name (gs_nil' ?_))))))))))
  refine s_seq (s_asgG (e_var rfl (g_tup rfl (gs_cons' (g_name (gs_cons' (g_name (gs_cons' (g_name (gs_nil' ?_))))))))))
  refine s_seq (s_asgG (e_var rfl (g_tup rfl (gs_cons' (g_name (gs_cons' (g_name (gs_cons' (g_name (gs_nil' ?_))))))))))
  refine s_rho (ρ' := [some (dV L.C_Quotient u), some (dV L.C_Quotient v), some (dV L.C_Quotient t), some (dQ L.C_Quotient u.x), some (dQ L.C_Quotient u.y), some (dQ L.C_Quotient u.z), some (dQ L.C_Quotient v.x), some (dQ L.C_Quotient v.y), some (dQ L.C_Quotient v.z), some (dQ L.C_Quotient t.x), some (dQ L.C_Quotient t.y), some (dQ L.C_Quotient t.z)]) rfl ?_
  refine s_ret ?_
  repeat walk_at "qv"
  exact p
theorem ok_scaled (T : Txt K mg L) : FnOk Pr w K mg base CX0 4 L.f_scaled L.d_scaled ["factor", "vector"] (spP K 2 (W_scaled L.C_Quotient)) := by
  refine okP T.F_scaled sc_scaled rfl (fun cdv A outer s H E hr => ⟨_, (pss_one (ps_ret (pe_callTy (r := rTupOf K) call_tuple_of rfl T.n_tuple (by decide +kernel) (pa_cons (pe_lc (own := [("part", 2)]) (g := gName 2) rfl sc_scaled.nd (pi_tup (pv 1)) (blkOk_by (own := [("part", 2)]) (N := N_scaled) (sc := defScope s_scaled) (by decide +kernel)) (fun _ _ _ _ _ => (pg_name (i := 2) sc_scaled.nd rfl (by first | exact Or.inl rfl | exact Or.inr rfl))) (fun _ _ _ _ _ => pts_nil) (fun _ _ _ _ _ => (pe_op (op_own (ok_Quotient_mul T) (hr.mono (by decide)) T.b_Quotient_mul pass0 T.sf_Quotient T.fi_Quotient_mul T.fn_Quotient_mul) (pv 0) (pv 2)))) pa_nil)))), ?_⟩)
  rintro ds P hl ⟨q, v, m, n, rfl, hq, ⟨v1, v2, v3⟩, hm, p⟩
  refine s_ret (e_cb (a_cons (e_lcM (go_name (by decide)) gm_name (i_tup (e_var rfl ⟨_, rfl, (by show 3 < 90000; decide), [dQ L.C_Quotient (q * v.x), dQ L.C_Quotient (q * v.y), dQ L.C_Quotient (q * v.z)], rfl, step3 ?_ ?_ ?_, a_nil (c_tup p)⟩)))))
  · exact g_name ⟨rfl, e_op (e_var rfl (e_var rfl (r_own ⟨_, _, _, _, rfl, hq, v1, hm, rfl, rfl⟩)))⟩
  · exact g_name ⟨rfl, e_op (e_var rfl (e_var rfl (r_own ⟨_, _, _, _, rfl, hq, v2, hm, rfl, rfl⟩)))⟩
  · exact g_name ⟨rfl, e_op (e_var rfl (e_var rfl (r_own ⟨_, _, _, _, rfl, hq, v3, hm, rfl, rfl⟩)))⟩
theorem ok_added (T : Txt K mg L) : FnOk Pr w K mg base CX0 4 L.f_added L.d_added ["first", "second"] (spP K 2 (W_v2 L.C_Quotient addV)) := by
  refine okP T.F_added sc_added rfl (fun cdv A outer s H E hr => ⟨_, (pss_one (ps_ret (pe_callTy (r := rTupOf K) call_tuple_of rfl T.n_tuple (by decide +kernel) (pa_cons (pe_lc (own := [("part", 2), ("other", 3)]) (g := gTup K 2 (gCons (gName 2) (gCons (gName 3) gNil))) rfl sc_added.nd (RZ.pi_zipA (by rfl) T.n_zip (pa_cons (pv 0) (pa_cons (pv 1) pa_nil))) (blkOk_by (own := [("part", 2), ("other", 3)]) (N := N_added) (sc := defScope s_added) (by decide +kernel)) (fun _ _ _ _ _ => (by exact (pg_tup (by rfl) (pgs_cons (pg_name (i := 2) sc_added.nd rfl (by first | exact Or.inl rfl | exact Or.inr rfl)) (pgs_cons (pg_name (i := 3) sc_added.nd rfl (by first | exact Or.inl rfl | exact Or.inr rfl)) pgs_nil))))) (fun _ _ _ _ _ => pts_nil) (fun _ _ _ _ _ => (pe_op (op_own (ok_Quotient_add T) (hr.mono (by decide)) T.b_Quotient_add pass0 T.sf_Quotient T.fi_Quotient_add T.fn_Quotient_add) (pv 2) (pv 3)))) pa_nil)))), ?_⟩)
  rintro ds P hl ⟨u, v, m, n, rfl, ⟨u1, u2, u3⟩, ⟨v1, v2, v3⟩, hm, p⟩
  refine s_ret (e_cb (a_cons (e_lcM (go_two (by decide) (by decide)) gm_two (i_zip (a_cons (e_var rfl (a_cons (e_var rfl (a_nil ⟨_, _, .inl rfl, (by show 3 < 90000; decide), [dQ L.C_Quotient (u.x + v.x), dQ L.C_Quotient (u.y + v.y), dQ L.C_Quotient (u.z + v.z)], rfl, step3 ?_ ?_ ?_, a_nil (c_tup p)⟩)))))))))
  · exact g_tup rfl (gs_cons' (g_name (gs_cons' (g_name (gs_nil' ⟨rfl, e_op (e_var rfl (e_var rfl (r_own ⟨_, _, _, _, rfl, u1, v1, hm, rfl, rfl⟩)))⟩)))))
  · exact g_tup rfl (gs_cons' (g_name (gs_cons' (g_name (gs_nil' ⟨rfl, e_op (e_var rfl (e_var rfl (r_own ⟨_, _, _, _, rfl, u2, v2, hm, rfl, rfl⟩)))⟩)))))
  · exact g_tup rfl (gs_cons' (g_name (gs_cons' (g_name (gs_nil' ⟨rfl, e_op (e_var rfl (e_var rfl (r_own ⟨_, _, _, _, rfl, u3, v3, hm, rfl, rfl⟩)))⟩)))))
theorem ok_taken (T : Txt K mg L) : FnOk Pr w K mg base CX0 4 L.f_taken L.d_taken ["first", "second"] (spP K 2 (W_v2 L.C_Quotient subV)) := by
  refine okP T.F_taken sc_taken rfl (fun cdv A outer s H E hr => ⟨_, (pss_one (ps_ret (pe_callTy (r := rTupOf K) call_tuple_of rfl T.n_tuple (by decide +kernel) (pa_cons (pe_lc (own := [("part", 2), ("other", 3)]) (g := gTup K 2 (gCons (gName 2) (gCons (gName 3) gNil))) rfl sc_taken.nd (RZ.pi_zipA (by rfl) T.n_zip (pa_cons (pv 0) (pa_cons (pv 1) pa_nil))) (blkOk_by (own := [("part", 2), ("other", 3)]) (N := N_taken) (sc := defScope s_taken) (by decide +kernel)) (fun _ _ _ _ _ => (by exact (pg_tup (by rfl) (pgs_cons (pg_name (i := 2) sc_taken.nd rfl (by first | exact Or.inl rfl | exact Or.inr rfl)) (pgs_cons (pg_name (i := 3) sc_taken.nd rfl (by first | exact Or.inl rfl | exact Or.inr rfl)) pgs_nil))))) (fun _ _ _ _ _ => pts_nil) (fun _ _ _ _ _ => (pe_op (op_own (ok_Quotient_sub T) (hr.mono (by decide)) T.b_Quotient_sub pass0 T.sf_Quotient T.fi_Quotient_sub T.fn_Quotient_sub) (pv 2) (pv 3)))) pa_nil)))), ?_⟩)
  rintro ds P hl ⟨u, v, m, n, rfl, ⟨u1, u2, u3⟩, ⟨v1, v2, v3⟩, hm, p⟩
  refine s_ret (e_cb (a_cons (e_lcM (go_two (by decide) (by decide)) gm_two (i_zip (a_cons (e_var rfl (a_cons (e_var rfl (a_nil ⟨_, _, .inl rfl, (by show 3 < 90000; decide), [dQ L.C_Quotient (u.x - v.x), dQ L.C_Quotient (u.y - v.y), dQ L.C_Quotient (u.z - v.z)], rfl, step3 ?_ ?_ ?_, a_nil (c_tup p)⟩)))))))))
  · exact g_tup rfl (gs_cons' (g_name (gs_cons' (g_name (gs_nil' ⟨rfl, e_op (e_var rfl (e_var rfl (r_own ⟨_, _, _, _, rfl, u1, v1, hm, rfl, rfl⟩)))⟩)))))
  · exact g_tup rfl (gs_cons' (g_name (gs_cons' (g_name (gs_nil' ⟨rfl, e_op (e_var rfl (e_var rfl (r_own ⟨_, _, _, _, rfl, u2, v2, hm, rfl, rfl⟩)))⟩)))))
  · exact g_tup rfl (gs_cons' (g_name (gs_cons' (g_name (gs_nil' ⟨rfl, e_op (e_var rfl (e_var rfl (r_own ⟨_, _, _, _, rfl, u3, v3, hm, rfl, rfl⟩)))⟩)))))
theorem ok_sum_of (T : Txt K mg L) : FnOk Pr w K mg base CX0 6 L.f_sum_of L.d_sum_of ["vectors"] (spP K 1 (W_sumV L.C_Quotient)) := by
  refine okP T.F_sum_of sc_sum_of rfl (fun cdv A outer s H E hr => ⟨_, (pss_cons (ps_set (i := 1) sc_sum_of.nd rfl (by first | exact Or.inl rfl | exact Or.inr rfl) (pe_call0 (ok_black T) (hr.mono (by decide)) (by rfl) T.m_black T.F_black.kp T.b_black .nil pass0))
    (pss_cons (ps_for PassesOwn.never rfl (pi_seq (pv 0)) (pg_name (i := 2) sc_sum_of.nd rfl (by first | exact Or.inl rfl | exact Or.inr rfl)) (pss_one (ps_set (i := 1) sc_sum_of.nd rfl (by first | exact Or.inl rfl | exact Or.inr rfl) (pe_call (ok_added T) (hr.mono (by decide)) (by rfl) T.m_added T.F_added.kp T.b_added .nil pass0 (pa_cons (pv 1) (pa_cons (pv 2) pa_nil))))))
    (pss_one (ps_ret (pv 1))))), ?_⟩)
  rintro ds P hl ⟨vs, m, hds, hb, hm, p⟩
  have hd : ∃ d, ds = [d] ∧ (d = .lst (vs.map (dV L.C_Quotient)) ∨ d = .tup (vs.map (dV L.C_Quotient))) := by
    rcases hds with rfl | rfl
    · exact ⟨_, rfl, .inl rfl⟩
    · exact ⟨_, rfl, .inr rfl⟩
  obtain ⟨d, rfl, hd⟩ := hd
  refine s_seq (s_asg (e_call (a_nil ⟨rfl, rfl, ?_⟩)))
  refine s_seq (s_for (i_seq (e_var rfl ⟨_, hd, ?_⟩)))
  refine ⟨fun i ρ O => (∃ x, ρ = [some d, some (dV L.C_Quotient (sumV (vs.take i))), x]) ∧ O = [], ⟨⟨_, rfl⟩, rfl⟩, ?_, ?_⟩
  · rintro i x ρ' O' hi ⟨⟨y, rfl⟩, rfl⟩
    rw [List.getElem?_map] at hi
    cases hq : vs[i]? with
    | none => rw [hq] at hi; cases hi
    | some q =>
      rw [hq] at hi
      cases hi
      have hlt := (List.getElem?_eq_some_iff.mp hq).1
      refine g_name (s_asg (e_call (a_cons (e_var rfl (a_cons (e_var rfl (a_nil ⟨rfl, _, _, _, _, rfl, bitsV_sum vs i hb (by omega), hb q (List.mem_of_getElem? hq), ?_, ?_⟩)))))))
      · have : (m + 1) * i ≤ (m + 1) * vs.length := Nat.mul_le_mul_left _ (by omega)
        rw [Nat.mul_succ] at hm
        omega
      · refine ⟨⟨some (dV L.C_Quotient q), ?_⟩, rfl⟩
        rw [sumV_take hq]
        rfl
  · rintro ρ' O' ⟨⟨y, rfl⟩, rfl⟩
    rw [List.length_map, List.take_length]
    exact s_ret (e_var rfl p)
local macro_rules | `(tactic| walk_at "cl") => `(tactic| first | dsimp only [L2.cxOf, L2.Cx.nox, L2.Cx.wish, L2.Cx.blk, List.map] | skip)
local macro_rules | `(tactic| walk_at "bnV") => `(tactic| first
  | with_reducible assumption
  | with_reducible exact bnV_zero
  | ((with_reducible refine' bnV_add ?h1 ?h2); (case h1 => walk_at "bnV"); (case h2 => walk_at "bnV"))
  | ((with_reducible refine' bnV_sub ?h1 ?h2); (case h1 => walk_at "bnV"); (case h2 => walk_at "bnV"))
  | ((with_reducible refine' bnV_mul ?h1 ?h2); (case h1 => walk_at "bn"); (case h2 => walk_at "bnV")))
local macro_rules | `(tactic| walk_at "bn") => `(tactic| first
  | ((with_reducible refine' bn_mul ?h1 ?h2); (case h1 => walk_at "bn"); (case h2 => walk_at "bn"))
  | ((with_reducible refine' bn_over ?h1 ?h2 ?h3); (case h1 => assumption); (case h2 => walk_at "bn"); (case h3 => walk_at "bn"))
  | ((with_reducible refine' bn_detM ?h1 ?h2 ?h3); (case h1 => walk_at "bnV"); (case h2 => walk_at "bnV"); (case h3 => walk_at "bnV")))
local macro_rules | `(tactic| walk_at "bn") => `(tactic| first
  | with_reducible assumption
  | with_reducible exact bn_zero
  | with_reducible exact bn_one
  | ((with_reducible refine' bnV_x ?h1); (case h1 => walk_at "bnV"))
  | ((with_reducible refine' bnV_y ?h1); (case h1 => walk_at "bnV"))
  | ((with_reducible refine' bnV_z ?h1); (case h1 => walk_at "bnV"))
  | ((with_reducible refine' bn_addM ?h1 ?h2); (case h1 => walk_at "bn"); (case h2 => walk_at "bn"))
  | ((with_reducible refine' bn_subM ?h1 ?h2); (case h1 => walk_at "bn"); (case h2 => walk_at "bn")))
local macro_rules | `(tactic| walk_at "bV") => `(tactic| first
  | with_reducible assumption
  | with_reducible exact bitsV_zero
  | ((with_reducible refine' bitsV_add ?h1 ?h2); (case h1 => walk_at "bV"); (case h2 => walk_at "bV"))
  | ((with_reducible refine' bitsV_sub ?h1 ?h2); (case h1 => walk_at "bV"); (case h2 => walk_at "bV"))
  | ((with_reducible refine' bitsV_mul ?h1 ?h2); (case h1 => walk_at "bq"); (case h2 => walk_at "bV"))
  | ((with_reducible refine' bitsV_cr ?h1 ?h2 ?h3 ?h4 ?h5); (case h1 => assumption); (case h2 => walk_at "bV"); (case h3 => walk_at "bV"); (case h4 => walk_at "bV"); (case h5 => walk_at "bV"))
  | ((with_reducible refine' bitsV_mix3 ?h1 ?h2 ?h3 ?h4); (case h1 => walk_at "bV"); (case h2 => walk_at "bV"); (case h3 => walk_at "bV"); (case h4 => walk_at "bV"))
  | ((with_reducible refine' bitsV_bn ?h1); (case h1 => walk_at "bnV")))
local macro_rules | `(tactic| walk_at "bq") => `(tactic| first
  | ((with_reducible refine' bits_mul ?h1 ?h2); (case h1 => walk_at "bq"); (case h2 => walk_at "bq"))
  | ((with_reducible refine' bits_neg ?h1); (case h1 => walk_at "bq"))
  | ((with_reducible refine' bits_over ?h1 ?h2 ?h3); (case h1 => assumption); (case h2 => walk_at "bq"); (case h3 => walk_at "bq"))
  | ((with_reducible refine' bits_dist ?h1 ?h2); (case h1 => walk_at "bV"); (case h2 => walk_at "bV"))
  | ((with_reducible refine' bits_detM ?h1 ?h2 ?h3); (case h1 => walk_at "bV"); (case h2 => walk_at "bV"); (case h3 => walk_at "bV"))
  | ((with_reducible refine' bits_bn ?h1); (case h1 => walk_at "bn")))
local macro_rules | `(tactic| walk_at "bq") => `(tactic| first
  | with_reducible assumption
  | with_reducible exact bits_zero
  | with_reducible exact bits_one
  | ((with_reducible refine' bitsV_x ?h1); (case h1 => walk_at "bV"))
  | ((with_reducible refine' bitsV_y ?h1); (case h1 => walk_at "bV"))
  | ((with_reducible refine' bitsV_z ?h1); (case h1 => walk_at "bV"))
  | ((with_reducible refine' bits_add ?h1 ?h2); (case h1 => walk_at "bq"); (case h2 => walk_at "bq"))
  | ((with_reducible refine' bits_sub ?h1 ?h2); (case h1 => walk_at "bq"); (case h2 => walk_at "bq")))
local macro_rules | `(tactic| walk_at "le") => `(tactic| first | decide | omega | (simp only [Nat.max_def]; omega))
local macro_rules | `(tactic| walk_at "ne0") => `(tactic| first | with_reducible assumption | with_reducible exact den_ne _ | decide | omega)
local macro_rules | `(tactic| walk_at "sz") => `(tactic| first
  | with_reducible assumption
  | ((with_reducible refine' bn_den ?h1); (case h1 => walk_at "bn"))
  | ((with_reducible refine' num_lt ?h1); (case h1 => walk_at "bn"))
  | ((with_reducible refine' small10 ?h1); (case h1 => omega)))
local macro_rules | `(tactic| walk_at "wj") => `(tactic| first
  | ((with_reducible refine' r_bD ?h1 ?_); (case h1 => assumption))
  | ((with_reducible refine' r_vD ?h1 ?_); (case h1 => assumption))
  | ((with_reducible refine' k_isBandT ?h1 ?_); (case h1 => assumption))
  | ((with_reducible refine' k_fdet ?h1 ?h2 ?h3 ?h4 ?_); (case h1 => walk_at "bnV"); (case h2 => walk_at "bnV"); (case h3 => walk_at "bnV"); (case h4 => walk_at "le"))
  | ((with_reducible refine' k_init ?h1 ?h2 ?h3 ?_); (case h1 => walk_at "ne0"); (case h2 => walk_at "sz"); (case h3 => walk_at "le"))
  | ((with_reducible refine' k_mix3 ?h1 ?h2 ?h3 ?h4 ?h5 ?_); (case h1 => walk_at "bV"); (case h2 => walk_at "bV"); (case h3 => walk_at "bV"); (case h4 => walk_at "bV"); (case h5 => walk_at "le"))
  | ((with_reducible refine' k_mixture ?h1 ?h2 ?h3 ?h4 ?h5 ?h6 ?_); (case h1 => assumption); (case h2 => walk_at "bV"); (case h3 => walk_at "bV"); (case h4 => walk_at "bV"); (case h5 => walk_at "bV"); (case h6 => walk_at "le"))
  | ((with_reducible refine' mt_q ?hm ?_); (case hm => exact rfl)))
local macro_rules | `(tactic| walk_at "wj") => `(tactic| first
  | ((with_reducible refine' k_p20 ?h1 ?h2 ?_); (case h1 => walk_at "bn"); (case h2 => walk_at "le"))
  | ((with_reducible refine' k_ldist ?h1 ?h2 ?h3 ?_); (case h1 => assumption); (case h2 => assumption); (case h3 => walk_at "le"))
  | with_reducible refine c_lenO ?_
  | with_reducible refine c_lstV ?_
  | with_reducible refine r_last ?_
  | ((with_reducible refine' r_ixGL ?h1 ?_); (case h1 => assumption))
  | ((with_reducible refine' k_isIntT ?h1 ?_); (case h1 => omega))
  | ((with_reducible refine' ex_rg2 ?h1 ?_); (case h1 => omega)))
local macro_rules | `(tactic| walk_at "wj") => `(tactic| first
  | ((with_reducible refine' k_dist ?h1 ?h2 ?h3 ?_); (case h1 => walk_at "bV"); (case h2 => walk_at "bV"); (case h3 => walk_at "le"))
  | with_reducible refine c_lstL ?_
  | ((with_reducible refine' k_quotR ?h1 ?h2 ?_); (case h1 => assumption); (case h2 => assumption))
  | ((with_reducible refine' k_quotR2 ?h1 ?h2 ?_); (case h1 => assumption); (case h2 => assumption))
  | ((with_reducible refine' k_colorR ?h1 ?h2 ?_); (case h1 => assumption); (case h2 => assumption))
  | ((with_reducible refine' k_colorR2 ?h1 ?h2 ?_); (case h1 => assumption); (case h2 => assumption))
  | with_reducible refine r_neInts ?_
  | with_reducible refine r_eqInts ?_)
local macro_rules | `(tactic| walk_at "wj") => `(tactic| first
  | ((with_reducible refine' k_mixed2 ?h1 ?h2 ?h3 ?h4 ?_); (case h1 => assumption); (case h2 => assumption); (case h3 => assumption); (case h4 => assumption))
  | with_reducible refine r_neRef ?_
  | with_reducible refine r_eqRef ?_
  | with_reducible refine r_eqE0 ?_
  | with_reducible refine r_eqE3 ?_
  | ((with_reducible refine' r_neV ?h1 ?h2 ?h3 ?_); (case h1 => walk_at "bV"); (case h2 => walk_at "bV"); (case h3 => walk_at "le"))
  | ((with_reducible refine' r_eqV ?h1 ?h2 ?h3 ?_); (case h1 => walk_at "bV"); (case h2 => walk_at "bV"); (case h3 => walk_at "le"))
  | ((with_reducible refine' k_total3 ?h1 ?h2 ?h3 ?h4 ?_); (case h1 => walk_at "bq"); (case h2 => walk_at "bq"); (case h3 => walk_at "bq"); (case h4 => walk_at "le")))
local macro_rules | `(tactic| walk_at "wj") => `(tactic| first
  | with_reducible refine xs_liftG ?_
  | with_reducible refine xs_liftN ?_
  | ((with_reducible refine' k_areL ?h1 ?h2 ?h3 ?h4 ?_); (case h1 => walk_at "bn"); (case h2 => walk_at "bn"); (case h3 => walk_at "bn"); (case h4 => walk_at "le"))
  | ((with_reducible refine' k_areI ?h1 ?_); (case h1 => first | decide | omega))
  | ((with_reducible refine' k_told0 ?h1 ?h2 ?h3 ?h4 ?h5 ?h6 ?_); (case h1 => assumption); (case h2 => walk_at "bV"); (case h3 => walk_at "bV"); (case h4 => walk_at "bV"); (case h5 => walk_at "bV"); (case h6 => walk_at "le"))
  | ((with_reducible refine' k_told1 ?h1 ?h2 ?h3 ?h4 ?h5 ?h6 ?_); (case h1 => assumption); (case h2 => walk_at "bV"); (case h3 => walk_at "bV"); (case h4 => walk_at "bV"); (case h5 => walk_at "bV"); (case h6 => walk_at "le"))
  | ((with_reducible refine' k_cramer0 ?h1 ?h2 ?h3 ?h4 ?h5 ?h6 ?_); (case h1 => assumption); (case h2 => walk_at "bnV"); (case h3 => walk_at "bnV"); (case h4 => walk_at "bnV"); (case h5 => walk_at "bnV"); (case h6 => simp only [dk, dn]; omega))
  | ((with_reducible refine' k_cramer1 ?h1 ?h2 ?h3 ?h4 ?h5 ?h6 ?_); (case h1 => assumption); (case h2 => walk_at "bnV"); (case h3 => walk_at "bnV"); (case h4 => walk_at "bnV"); (case h5 => walk_at "bnV"); (case h6 => simp only [dk, dn]; omega)))
local macro_rules | `(tactic| walk_at "wj") => `(tactic| first
  | with_reducible refine z_o2 ?_
  | with_reducible refine z_lst ?_
  | with_reducible refine z_tup ?_
  | with_reducible refine z_dV ?_
  | with_reducible refine z_lV ?_
  | with_reducible refine xs_seq ?_
  | with_reducible refine thx_nx ?_
  | with_reducible refine xs_liftA ?_)
local macro_rules | `(tactic| walk_at "wj") => `(tactic| first
  | with_reducible refine o_some ?_
  | with_reducible refine e_sl ?_
  | with_reducible refine z_t3a ?_
  | with_reducible refine z_t3b ?_
  | with_reducible refine z_l3a ?_
  | with_reducible refine z_l3b ?_
  | with_reducible refine r_cat21 ?_
  | with_reducible refine r_catA21 ?_)
local macro_rules | `(tactic| walk_at "wj") => `(tactic| first
  | with_reducible refine ex_rl ?_
  | with_reducible refine ex_int ?_
  | with_reducible refine l90_0 ?_
  | with_reducible refine l90_1 ?_
  | with_reducible refine l90_2 ?_
  | with_reducible refine l90_3 ?_
  | with_reducible refine l90_4 ?_
  | with_reducible refine o_none ?_)
local macro_rules | `(tactic| walk_at "wj") => `(tactic| first
  | with_reducible refine ex_lst ?_
  | with_reducible refine ex_tup ?_
  | with_reducible refine ex_dV ?_
  | with_reducible refine ex_lV ?_
  | ((with_reducible refine' ex_rgI ?h1 ?_); (case h1 => first | decide | omega))
  | with_reducible refine ex_r2 ?_
  | with_reducible refine ex_r3 ?_
  | with_reducible refine ex_r4 ?_)
local macro_rules | `(tactic| walk_at "wj") => `(tactic| first
  | ((with_reducible refine' e_bot ?hT ?_); (case hT => assumption))
  | ((with_reducible refine' k_mkP ?h1 ?h2 ?_); (case h1 => walk_at "bn"); (case h2 => walk_at "le"))
  | ((with_reducible refine' k_mkQ ?h1 ?h2 ?h3 ?_); (case h1 => walk_at "ne0"); (case h2 => walk_at "sz"); (case h3 => walk_at "le"))
  | with_reducible refine ex_dQ ?_
  | with_reducible refine li_nx ?_
  | with_reducible refine li_ct ?_
  | with_reducible refine li_bk ?_
  | with_reducible refine li_ret ?_)
local macro_rules | `(tactic| walk_at "wj") => `(tactic| first
  | with_reducible refine un_4 ?_
  | with_reducible refine un_nil ?_
  | with_reducible refine i_list ?_
  | with_reducible refine i_tup ?_
  | with_reducible refine i_rngL ?_
  | with_reducible refine i_rng2 ?_
  | with_reducible refine i_zip ?_
  | ((with_reducible refine' e_top ?hT ?_); (case hT => assumption)))
local macro_rules | `(tactic| walk_at "wj") => `(tactic| first
  | with_reducible refine up_bk ?_
  | with_reducible refine up_ret ?_
  | with_reducible refine uf_cons ?_
  | with_reducible refine uf_nil ?_
  | with_reducible refine un_0 ?_
  | with_reducible refine un_1 ?_
  | with_reducible refine un_2 ?_
  | with_reducible refine un_3 ?_)
local macro_rules | `(tactic| walk_at "wj") => `(tactic| first
  | ((with_reducible refine' k_quot ?h1 ?h2 ?_); (case h1 => assumption); (case h2 => assumption))
  | ((with_reducible refine' k_quot2 ?h1 ?h2 ?_); (case h1 => assumption); (case h2 => assumption))
  | ((with_reducible refine' k_color ?h1 ?h2 ?_); (case h1 => assumption); (case h2 => assumption))
  | ((with_reducible refine' k_color2 ?h1 ?h2 ?_); (case h1 => assumption); (case h2 => assumption))
  | ((with_reducible refine' k_colorO ?h1 ?h2 ?_); (case h1 => assumption); (case h2 => assumption))
  | ((with_reducible refine' k_stream ?h1 ?h2 ?h3 ?h4 ?_); (case h1 => decide); (case h2 => decide); (case h3 => decide); (case h4 => decide))
  | with_reducible refine up_nx ?_
  | with_reducible refine up_ct ?_)
local macro_rules | `(tactic| walk_at "wj") => `(tactic| first
  | ((with_reducible refine' k_quotsV ?h1 ?h2 ?_); (case h1 => walk_at "bnV"); (case h2 => walk_at "le"))
  | ((with_reducible refine' k_areV ?h1 ?h2 ?_); (case h1 => walk_at "bnV"); (case h2 => walk_at "le"))
  | ((with_reducible refine' k_over ?h1 ?h2 ?h3 ?h4 ?_); (case h1 => assumption); (case h2 => walk_at "bq"); (case h3 => walk_at "bq"); (case h4 => walk_at "le"))
  | with_reducible refine k_isInt ?_
  | ((with_reducible refine' k_totalV ?h1 ?h2 ?_); (case h1 => walk_at "bV"); (case h2 => walk_at "le"))
  | ((with_reducible refine' k_next ?h1 ?h2 ?h3 ?_); (case h1 => assumption); (case h2 => assumption); (case h3 => walk_at "le"))
  | ((with_reducible refine' k_next2 ?h1 ?h2 ?h3 ?_); (case h1 => assumption); (case h2 => assumption); (case h3 => walk_at "le"))
  | ((with_reducible refine' k_next3 ?h1 ?h2 ?h3 ?_); (case h1 => assumption); (case h2 => assumption); (case h3 => walk_at "le")))
local macro_rules | `(tactic| walk_at "wj") => `(tactic| first
  | with_reducible refine k_v0 ?_
  | with_reducible refine k_whole ?_
  | ((with_reducible refine' k_p2 ?h1 ?h2 ?h3 ?_); (case h1 => walk_at "bn"); (case h2 => walk_at "bn"); (case h3 => walk_at "le"))
  | ((with_reducible refine' k_pBy ?h1 ?h2 ?h3 ?h4 ?_); (case h1 => assumption); (case h2 => walk_at "bn"); (case h3 => walk_at "bn"); (case h4 => walk_at "le"))
  | ((with_reducible refine' k_isPair ?h1 ?h2 ?_); (case h1 => walk_at "bn"); (case h2 => walk_at "le"))
  | ((with_reducible refine' k_v2 ?h1 ?h2 ?h3 ?_); (case h1 => walk_at "bV"); (case h2 => walk_at "bV"); (case h3 => walk_at "le"))
  | ((with_reducible refine' k_scaled ?h1 ?h2 ?h3 ?_); (case h1 => walk_at "bq"); (case h2 => walk_at "bV"); (case h3 => walk_at "le"))
  | ((with_reducible refine' k_det ?h1 ?h2 ?h3 ?h4 ?_); (case h1 => walk_at "bV"); (case h2 => walk_at "bV"); (case h3 => walk_at "bV"); (case h4 => walk_at "le")))
local macro_rules | `(tactic| walk_at "wj") => `(tactic| first
  | with_reducible refine ll1 ?_
  | with_reducible refine ll2 ?_
  | with_reducible refine ll3 ?_
  | with_reducible refine ll4 ?_
  | with_reducible refine lm0 ?_
  | with_reducible refine lm1 ?_
  | with_reducible refine lm2 ?_
  | with_reducible refine k_q0 ?_)
local macro_rules | `(tactic| walk_at "wj") => `(tactic| first
  | with_reducible refine rw_ret ?_
  | with_reducible refine ro_ret ?_
  | with_reducible refine le0 ?_
  | with_reducible refine le1 ?_
  | with_reducible refine le2 ?_
  | with_reducible refine le3 ?_
  | with_reducible refine le4 ?_
  | with_reducible refine ll0 ?_)
local macro_rules | `(tactic| walk_at "wj") => `(tactic| first
  | with_reducible refine lp_nx ?_
  | with_reducible refine lp_ct ?_
  | with_reducible refine lp_bk ?_
  | with_reducible refine lp_ret ?_
  | with_reducible refine th_ret ?_
  | with_reducible refine th_bk ?_
  | with_reducible refine th_ct ?_
  | with_reducible refine rp_ret ?_)
local macro_rules | `(tactic| walk_at "wj") => `(tactic| first
  | with_reducible refine c_len (.inl rfl) ?_
  | with_reducible refine c_len (.inr (.inl rfl)) ?_
  | with_reducible refine c_int ?_
  | with_reducible refine c_intB ?_
  | with_reducible refine c_abs ?_
  | with_reducible refine c_tup ?_
  | ((with_reducible refine' r_q2 ?h1 ?h2 ?h3 ?_); (case h1 => walk_at "bq"); (case h2 => walk_at "bq"); (case h3 => walk_at "le"))
  | ((with_reducible refine' r_q1 ?h1 ?h2 ?_); (case h1 => walk_at "bq"); (case h2 => walk_at "le")))
local macro_rules | `(tactic| walk_at "wj") => `(tactic| first
  | with_reducible refine r_t1 ?_
  | with_reducible refine r_t2 ?_
  | with_reducible refine r_l0 ?_
  | with_reducible refine r_l1 ?_
  | with_reducible refine r_l2 ?_
  | with_reducible refine c_lenB ?_
  | with_reducible refine c_lenL ?_
  | with_reducible refine c_lenV ?_)
local macro_rules | `(tactic| walk_at "wj") => `(tactic| first
  | with_reducible refine r_lV1 ?_
  | with_reducible refine r_lV2 ?_
  | with_reducible refine r_dV0 ?_
  | with_reducible refine r_dV1 ?_
  | with_reducible refine r_dV2 ?_
  | with_reducible refine r_o0 ?_
  | with_reducible refine r_o1 ?_
  | with_reducible refine r_t0 ?_)
local macro_rules | `(tactic| walk_at "wj") => `(tactic| first
  | with_reducible refine tt_f ?_
  | with_reducible refine r_rI0 ?_
  | with_reducible refine r_eqI ?_
  | with_reducible refine r_neI ?_
  | with_reducible refine r_rU ?_
  | with_reducible refine r_P0 ?_
  | with_reducible refine r_P1 ?_
  | with_reducible refine r_lV0 ?_)
local macro_rules | `(tactic| walk_at "wj") => `(tactic| first
  | with_reducible refine gs_nil' ?_
  | with_reducible refine gs_cons' ?_
  | ((with_reducible refine' g_dV ?hn ?_); (case hn => exact rfl))
  | ((with_reducible refine' g_dP ?hn ?_); (case hn => exact rfl))
  | ((with_reducible refine' g_tup2 ?hn ?_); (case hn => exact rfl))
  | ((with_reducible refine' g_tup3 ?hn ?_); (case hn => exact rfl))
  | ((with_reducible refine' g_tup4 ?hn ?_); (case hn => exact rfl))
  | with_reducible refine tt_t ?_)
local macro_rules | `(tactic| walk_at "wj") => `(tactic| first
  | ((with_reducible refine' gz3 ?hn ?_); (case hn => exact rfl))
  | ((with_reducible refine' gz4 ?hn ?_); (case hn => exact rfl))
  | ((with_reducible refine' gz5 ?hn ?_); (case hn => exact rfl))
  | ((with_reducible refine' gz6 ?hn ?_); (case hn => exact rfl))
  | ((with_reducible refine' gz7 ?hn ?_); (case hn => exact rfl))
  | ((with_reducible refine' gz8 ?hn ?_); (case hn => exact rfl))
  | ((with_reducible refine' gz9 ?hn ?_); (case hn => exact rfl))
  | ((with_reducible refine' gz10 ?hn ?_); (case hn => exact rfl)))
local macro_rules | `(tactic| walk_at "wj") => `(tactic| first
  | ((with_reducible refine' gx6 ?hn ?_); (case hn => exact rfl))
  | ((with_reducible refine' gx7 ?hn ?_); (case hn => exact rfl))
  | ((with_reducible refine' gx8 ?hn ?_); (case hn => exact rfl))
  | ((with_reducible refine' gx9 ?hn ?_); (case hn => exact rfl))
  | ((with_reducible refine' gx10 ?hn ?_); (case hn => exact rfl))
  | ((with_reducible refine' gz0 ?hn ?_); (case hn => exact rfl))
  | ((with_reducible refine' gz1 ?hn ?_); (case hn => exact rfl))
  | ((with_reducible refine' gz2 ?hn ?_); (case hn => exact rfl)))
local macro_rules | `(tactic| walk_at "wj") => `(tactic| first
  | with_reducible refine gw10 ?_
  | with_reducible refine gw11 ?_
  | ((with_reducible refine' gx0 ?hn ?_); (case hn => exact rfl))
  | ((with_reducible refine' gx1 ?hn ?_); (case hn => exact rfl))
  | ((with_reducible refine' gx2 ?hn ?_); (case hn => exact rfl))
  | ((with_reducible refine' gx3 ?hn ?_); (case hn => exact rfl))
  | ((with_reducible refine' gx4 ?hn ?_); (case hn => exact rfl))
  | ((with_reducible refine' gx5 ?hn ?_); (case hn => exact rfl)))
local macro_rules | `(tactic| walk_at "wj") => `(tactic| first
  | with_reducible refine gw2 ?_
  | with_reducible refine gw3 ?_
  | with_reducible refine gw4 ?_
  | with_reducible refine gw5 ?_
  | with_reducible refine gw6 ?_
  | with_reducible refine gw7 ?_
  | with_reducible refine gw8 ?_
  | with_reducible refine gw9 ?_)
local macro_rules | `(tactic| walk_at "wj") => `(tactic| first
  | with_reducible refine gn6 ?_
  | with_reducible refine gn7 ?_
  | with_reducible refine gn8 ?_
  | with_reducible refine gn9 ?_
  | with_reducible refine gn10 ?_
  | with_reducible refine gn11 ?_
  | with_reducible refine gw0 ?_
  | with_reducible refine gw1 ?_)
local macro_rules | `(tactic| walk_at "wj") => `(tactic| first
  | with_reducible refine e_not ?_
  | with_reducible refine e_if ?_
  | with_reducible refine gn0 ?_
  | with_reducible refine gn1 ?_
  | with_reducible refine gn2 ?_
  | with_reducible refine gn3 ?_
  | with_reducible refine gn4 ?_
  | with_reducible refine gn5 ?_)
local macro_rules | `(tactic| walk_at "wj") => `(tactic| first
  | with_reducible refine t_and ?_
  | with_reducible refine t_or ?_
  | with_reducible refine t_yes ?_
  | with_reducible refine s_asgG ?_
  | with_reducible refine e_tup ?_
  | with_reducible refine e_revT ?_
  | with_reducible refine e_and ?_
  | with_reducible refine e_or ?_)
local macro_rules | `(tactic| walk_at "wj") => `(tactic| first
  | with_reducible refine s_next ?_
  | with_reducible refine s_retN ?_
  | with_reducible refine s_drop ?_
  | with_reducible refine s_cont ?_
  | with_reducible refine s_break ?_
  | with_reducible refine t_test ?_
  | with_reducible refine t_not ?_
  | with_reducible refine t_B ?_)
local macro_rules | `(tactic| walk_at "wj") => `(tactic| first
  | with_reducible refine e_callX ?_
  | with_reducible refine e_methX ?_
  | with_reducible refine e_meth ?_
  | with_reducible refine e_makeQ ?_
  | with_reducible refine e_make ?_
  | with_reducible refine e_cb ?_
  | with_reducible refine e_un ?_
  | with_reducible refine s_ret ?_)
local macro_rules | `(tactic| walk_at "wj") => `(tactic| first
  | with_reducible refine sa7 ?_
  | with_reducible refine sa8 ?_
  | with_reducible refine sa9 ?_
  | with_reducible refine sa10 ?_
  | with_reducible refine sa11 ?_
  | with_reducible refine a_nil ?_
  | with_reducible refine e_call ?_
  | with_reducible refine e_callW ?_)
local macro_rules | `(tactic| walk_at "wj") => `(tactic| first
  | with_reducible refine ev11 ?_
  | with_reducible refine sa0 ?_
  | with_reducible refine sa1 ?_
  | with_reducible refine sa2 ?_
  | with_reducible refine sa3 ?_
  | with_reducible refine sa4 ?_
  | with_reducible refine sa5 ?_
  | with_reducible refine sa6 ?_)
local macro_rules | `(tactic| walk_at "wj") => `(tactic| first
  | with_reducible refine ev3 ?_
  | with_reducible refine ev4 ?_
  | with_reducible refine ev5 ?_
  | with_reducible refine ev6 ?_
  | with_reducible refine ev7 ?_
  | with_reducible refine ev8 ?_
  | with_reducible refine ev9 ?_
  | with_reducible refine ev10 ?_)
local macro_rules | `(tactic| walk_at "wj") => `(tactic| first
  | with_reducible refine th_nx ?_
  | with_reducible refine s_seq ?_
  | with_reducible refine e_op ?_
  | with_reducible refine a_cons ?_
  | with_reducible refine e_c ?_
  | with_reducible refine ev0 ?_
  | with_reducible refine ev1 ?_
  | with_reducible refine ev2 ?_)
local macro_rules | `(tactic| walk_at "wk") => `(tactic| first | walk_at "wj" | with_reducible refine e_lst ?_ | with_reducible refine s_if ?_ | with_reducible refine xs_if ?_)
theorem ok_is_number (T : Txt K mg L) : FnOk Pr w K mg base CX0 1 L.f_is_number L.d_is_number ["value", "least", "most"] (spP K 3 W_isIntT) := by
  refine okP T.F_is_number sc_is_number rfl (fun cdv A outer s H E hr => ⟨_, (pss_one (ps_ret (pe_and (pe_callB (r := rIsi K) call_isi rfl T.n_isinstance (by decide +kernel) (pa_cons (pv 0) (pa_cons (pe_bltn (v := .ty "int") (by rfl) T.n_int (by decide +kernel) rfl) pa_nil))) (pe_and (pe_not (pe_callB (r := rIsi K) call_isi rfl T.n_isinstance (by decide +kernel) (pa_cons (pv 0) (pa_cons (pe_bltn (v := .ty "bool") (by rfl) T.n_bool (by decide +kernel) rfl) pa_nil)))) (pe_and (pe_cmpR op_le (pv 1) (pv 0) (nomark _)) (pe_one (pe_cmpR op_le (pv 0) (pv 2) (nomark _)))))))), ?_⟩)
  walk_at "cl"
  rintro ds P hl ⟨v, a, b, rfl, h1, h2, p⟩
  refine s_rho (ρ' := [some _, some _, some _]) rfl ?_
  repeat walk_at "wj"
  refine c_isi (.int _) (.ty _) T.kit_int_int (sb_t ?_)
  repeat walk_at "wj"
  refine c_isi (.int _) (.ty _) T.kit_int_bool ⟨_, rfl, ?_⟩
  refine sb_t ?_
  repeat walk_at "wj"
  refine sp_y h1 ?_
  repeat walk_at "wj"
  rw [decide_eq_true h2]
  exact p
theorem ok_is_band (T : Txt K mg L) : FnOk Pr w K mg base CX0 2 L.f_is_band L.d_is_band ["band"] (spP K 1 W_isBandT) := by
  refine okP T.F_is_band sc_is_band rfl (fun cdv A outer s H E hr => ⟨_, (pss_one (ps_ret (pe_and (pe_callB (r := rIsi K) call_isi rfl T.n_isinstance (by decide +kernel) (pa_cons (pv 0) (pa_cons (pe_bltn (v := .ty "tuple") (by rfl) T.n_tuple (by decide +kernel) rfl) pa_nil))) (pe_and (pe_cmpR op_eq (pe_callB (r := Evl.rLenS K) call_len_seq rfl T.n_len (by decide +kernel) (pa_cons (pv 0) pa_nil)) (C8.pe_gc (by rfl) T.c_PARTS) (nomark _)) (pe_one (pe_callB (r := rAll K) (cr_all rfl) rfl T.n_all (by decide +kernel) (pa_cons (pe_lc (own := [("part", 1)]) (g := gName 1) rfl sc_is_band.nd (pi_tup (pv 0)) (blkOk_by (own := [("part", 1)]) (N := N_is_band) (sc := defScope s_is_band) (by decide +kernel)) (fun _ _ _ _ _ => (pg_name (i := 1) sc_is_band.nd rfl (by first | exact Or.inl rfl | exact Or.inr rfl))) (fun _ _ _ _ _ => pts_nil) (fun _ _ _ _ _ => (pe_call (ok_is_number T) (hr.mono (by decide)) (by rfl) T.m_is_number T.F_is_number.kp T.b_is_number .nil pass0 (pa_cons (pv 1) (pa_cons pe_int (pa_cons (C8.pe_gc (by rfl) T.c_MOST_PART) pa_nil)))))) pa_nil))))))), ?_⟩)
  walk_at "cl"
  rintro ds P hl ⟨r, rfl, ⟨⟨a, b⟩, ⟨c, d⟩, e, f⟩, p⟩
  refine s_rho (ρ' := [some _, none]) rfl ?_
  repeat walk_at "wj"
  refine c_isi (.tup _) (.ty _) T.kit_tuple_tuple (sb_t ?_)
  repeat walk_at "wj"
  refine sp_y rfl ?_
  repeat walk_at "wj"
  refine e_lcU (go_name (by decide)) gm_name ?_
  repeat walk_at "wj"
  refine c_all (bs := [true, true, true]) ?_
  exact p
theorem ok_are_bands (T : Txt K mg L) : FnOk Pr w K mg base CX0 3 L.f_are_bands L.d_are_bands ["bands"] (spP K 1 W_areBandsT) := by
  refine okP T.F_are_bands sc_are_bands rfl (fun cdv A outer s H E hr => ⟨_, (pss_cons (ps_if (pt_not (pt_val (pe_callB (r := rIsi K) call_isi rfl T.n_isinstance (by decide +kernel) (pa_cons (pv 0) (pa_cons (pe_bltn (v := .ty "tuple") (by rfl) T.n_tuple (by decide +kernel) rfl) pa_nil))))) (pss_one (ps_ret pe_bl)) pss_nil)
    (pss_cons (ps_if (PW.pt (pw_or (pt_cmpR op_lt (pe_callB (r := Evl.rLenS K) call_len_seq rfl T.n_len (by decide +kernel) (pa_cons (pv 0) pa_nil)) (pe_clsConE (by rfl) T.mg_Observer T.rd_Observer T.cc_Observer_LEAST_BANDS) (nomark _)) (pw_or1 (pt_cmpR op_gt (pe_callB (r := Evl.rLenS K) call_len_seq rfl T.n_len (by decide +kernel) (pa_cons (pv 0) pa_nil)) (pe_clsConE (by rfl) T.mg_Observer T.rd_Observer T.cc_Observer_MOST_BANDS) (nomark _))))) (pss_one (ps_ret pe_bl)) pss_nil)
    (pss_one (ps_ret (pe_callB (r := rAll K) (cr_all rfl) rfl T.n_all (by decide +kernel) (pa_cons (pe_lc (own := [("band", 1)]) (g := gName 1) rfl sc_are_bands.nd (pi_tup (pv 0)) (blkOk_by (own := [("band", 1)]) (N := N_are_bands) (sc := defScope s_are_bands) (by decide +kernel)) (fun _ _ _ _ _ => (pg_name (i := 1) sc_are_bands.nd rfl (by first | exact Or.inl rfl | exact Or.inr rfl))) (fun _ _ _ _ _ => pts_nil) (fun _ _ _ _ _ => (pe_call (ok_is_band T) (hr.mono (by decide)) (by rfl) T.m_is_band T.F_is_band.kp T.b_is_band .nil pass0 (pa_cons (pv 1) pa_nil)))) pa_nil)))))), ?_⟩)
  walk_at "cl"
  rintro ds P hl ⟨bs, rfl, ⟨h4, h7, hok⟩, p⟩
  refine s_rho (ρ' := [some _, none]) rfl ?_
  repeat walk_at "wk"
  refine c_isi (.tup _) (.ty _) T.kit_tuple_tuple (sbn_t ?_)
  repeat walk_at "wk"
  refine sp_nd (fun z => absurd z (by omega)) (fun _ => ?_)
  repeat walk_at "wk"
  refine sp_n (by omega) ?_
  repeat walk_at "wk"
  refine e_lcX tRow (fun _ => D.bl true) (go_name (by decide)) gm_name ?_
  repeat walk_at "wk"
  refine ⟨bs.map tRow, rfl, bs, rfl, by omega, fun r hr' => ?_, ?_⟩
  · have hokr := hok r hr'
    repeat walk_at "wk"
    exact ⟨rfl, rfl⟩
  repeat walk_at "wk"
  refine c_allT ?_
  repeat walk_at "wk"
  exact p
theorem ok_first_irregular (T : Txt K mg L) : FnOk Pr w K mg base CX0 5 L.f_first_irregular L.d_first_irregular ["vectors"] (spP K 1 (W_irrT L.C_Quotient)) := by
  refine okP T.F_first_irregular sc_first_irregular rfl (fun cdv A outer s H E hr => ⟨_, (pss_cons (ps_set (i := 1) sc_first_irregular.nd rfl (by first | exact Or.inl rfl | exact Or.inr rfl) (pe_callB (r := Evl.rLenS K) call_len_seq rfl T.n_len (by decide +kernel) (pa_cons (pv 0) pa_nil)))
    (pss_cons (ps_for PassesOwn.never rfl (pi_range1 (by rfl) T.n_range (pa_cons (pv 1) pa_nil)) (pg_name (i := 2) sc_first_irregular.nd rfl (by first | exact Or.inl rfl | exact Or.inr rfl)) (pss_one (ps_for PassesOwn.never rfl (pi_range2 (by rfl) T.n_range (pa_cons (pe_op op_add (pv 2) pe_int) (pa_cons (pv 1) pa_nil))) (pg_name (i := 3) sc_first_irregular.nd rfl (by first | exact Or.inl rfl | exact Or.inr rfl)) (pss_one (ps_for PassesOwn.never rfl (pi_range2 (by rfl) T.n_range (pa_cons (pe_op op_add (pv 3) pe_int) (pa_cons (pv 1) pa_nil))) (pg_name (i := 4) sc_first_irregular.nd rfl (by first | exact Or.inl rfl | exact Or.inr rfl)) (pss_one (ps_if (pt_cmpR (op_cmpOwn (op := .LtE) (ok_Quotient_le T) (hr.mono (by decide)) T.b_Quotient_le pass0 T.fi_Quotient_le T.fn_Quotient_le (fun _ _ => rfl)) (pe_call (ok_det T) (hr.mono (by decide)) (by rfl) T.m_det T.F_det.kp T.b_det .nil pass0 (pa_cons (pe_ix (r := rIxT K) ix_tup (pv 0) (pv 2) (fun _ _ => rfl)) (pa_cons (pe_ix (r := rIxT K) ix_tup (pv 0) (pv 3) (fun _ _ => rfl)) (pa_cons (pe_ix (r := rIxT K) ix_tup (pv 0) (pv 4) (fun _ _ => rfl)) pa_nil)))) (pe_call0 (ok_zero T) (hr.mono (by decide)) (by rfl) T.m_zero T.F_zero.kp T.b_zero .nil pass0) (nomark _)) (pss_one (ps_ret (pe_tup (pa_cons (pv 2) (pa_cons (pv 3) (pa_cons (pv 4) pa_nil)))))) pss_nil)))))))
    (pss_one (ps_ret pe_non)))), ?_⟩)
  walk_at "cl"
  rintro ds P hl ⟨bs, rfl, ⟨h4, h7, hok⟩, hreg, p⟩
  refine s_rho (ρ' := [some _, none, none, none, none]) rfl ?_
  repeat walk_at "wk"
  refine s_for ?_
  repeat walk_at "wk"
  refine ⟨fun _ ρ O => (∃ k2 k3 k4, ρ = [some (vD L.C_Quotient bs), some (.int bs.length), k2, k3, k4]) ∧ O = [], ⟨⟨_, _, _, rfl⟩, rfl⟩, ?_, ?_⟩
  rotate_left
  · rintro ρ' O' ⟨⟨k2, k3, k4, rfl⟩, rfl⟩
    repeat walk_at "wk"
    exact p
  rintro i d ρ' O' hd ⟨⟨k2, k3, k4, rfl⟩, rfl⟩
  obtain ⟨hi, rfl⟩ := rangeD_get hd
  rw [show (0 + (i : Int)) = (i : Int) by omega]
  repeat walk_at "wk"
  refine s_for ?_
  repeat walk_at "wk"
  refine ⟨fun _ ρ O => (∃ k3 k4, ρ = [some (vD L.C_Quotient bs), some (.int bs.length), some (.int i), k3, k4]) ∧ O = [], ⟨⟨_, _, rfl⟩, rfl⟩, ?_, ?_⟩
  rotate_left
  · rintro ρ' O' ⟨⟨k3, k4, rfl⟩, rfl⟩
    repeat walk_at "wk"
    exact ⟨⟨_, _, _, rfl⟩, rfl⟩
  rintro j' d ρ' O' hd ⟨⟨k3, k4, rfl⟩, rfl⟩
  obtain ⟨hj, rfl⟩ := rangeD_get hd
  obtain ⟨j, ej⟩ : ∃ j : Nat, ((i : Int) + 1 + (j' : Int)) = (j : Int) := ⟨i + 1 + j', by omega⟩
  rw [ej]
  repeat walk_at "wk"
  refine s_for ?_
  repeat walk_at "wk"
  refine ⟨fun _ ρ O => (∃ k4, ρ = [some (vD L.C_Quotient bs), some (.int bs.length), some (.int i), some (.int j), k4]) ∧ O = [], ⟨⟨_, rfl⟩, rfl⟩, ?_, ?_⟩
  rotate_left
  · rintro ρ' O' ⟨⟨k4, rfl⟩, rfl⟩
    repeat walk_at "wk"
    exact ⟨⟨_, _, rfl⟩, rfl⟩
  rintro k' d ρ' O' hd ⟨⟨k4, rfl⟩, rfl⟩
  obtain ⟨hk, rfl⟩ := rangeD_get hd
  obtain ⟨k, ek⟩ : ∃ k : Nat, ((j : Int) + 1 + (k' : Int)) = (k : Int) := ⟨j + 1 + k', by omega⟩
  rw [ek]
  have hi' : i < bs.length := by omega
  have hj' : j < bs.length := by omega
  have hk' : k < bs.length := by omega
  have bi := bits_vI (hok _ (getD_mem hi'))
  have bj := bits_vI (hok _ (getD_mem hj'))
  have bk := bits_vI (hok _ (getD_mem hk'))
  have pos := cast_pos (hreg i j k (by omega) (by omega) hk')
  rw [← det_vI] at pos
  repeat walk_at "wk"
  refine sp_n (Rat.not_le.mpr pos) ?_
  repeat walk_at "wk"
  exact ⟨⟨_, rfl⟩, rfl⟩
theorem ok_Observer_init (T : Txt K mg L) : FnOk Pr w K mg base (L2.CX Pr w) 6 L.f_Observer_init L.d_Observer_init ["self", "bands"] (spI K L.C_Observer 1 (W_ObsT L.C_Quotient)) := by
  refine okI T.F_Observer_init sc_Observer_init rfl (fun cdv A outer s H0 E hr => ⟨_, (pss_cons (ps_if (pt_not (pt_val (pe_call (ok_are_bands T) (hr.mono (by decide)) (by rfl) T.m_are_bands T.F_are_bands.kp T.b_are_bands .nil pass0 (pa_cons (pv 1) pa_nil)))) (pss_one (ps_raise rfl (takes_of rfl rfl rfl rfl) (pmk_own PySem.F.excBase_ValueError T.x_BadObserver T.mg_BadObserver T.kc_BadObserver (raises_own T.xb_BadObserver T.xt_BadObserver) (by rfl)))) pss_nil)
    (pss_cons (ps_set (i := 2) sc_Observer_init.nd rfl (by first | exact Or.inl rfl | exact Or.inr rfl) (pe_callTy (r := rTupOf K) call_tuple_of rfl T.n_tuple (by decide +kernel) (pa_cons (pe_lc (own := [("band", 4)]) (g := gName 4) rfl sc_Observer_init.nd (pi_tup (pv 1)) (blkOk_by (own := [("band", 4)]) (N := N_Observer_init) (sc := defScope s_Observer_init) (by decide +kernel)) (fun _ _ _ _ _ => (pg_name (i := 4) sc_Observer_init.nd rfl (by first | exact Or.inl rfl | exact Or.inr rfl))) (fun _ _ _ _ _ => pts_nil) (fun _ _ _ _ _ => (pe_callTy (r := rTupOf K) call_tuple_of rfl T.n_tuple (by decide +kernel) (pa_cons (pe_lc (own := [("part", 5)]) (wi := iTup K (tVar 4)) (g := gName 5) rfl sc_Observer_init.nd (pi_tup (pv 4)) (blkOk_by (own := [("part", 5)]) (by first | decide +kernel | rfl)) (fun _ _ _ _ _ => (pg_name (i := 5) sc_Observer_init.nd rfl (by first | exact Or.inl rfl | exact Or.inr rfl))) (fun _ _ _ _ _ => pts_nil) (fun _ _ _ _ _ => (pe_call (ok_whole T) (hr.mono (by decide)) (by rfl) T.m_whole T.F_whole.kp T.b_whole .nil pass0 (pa_cons (pv 5) pa_nil)))) pa_nil)))) pa_nil)))
    (pss_cons (ps_set (i := 3) sc_Observer_init.nd rfl (by first | exact Or.inl rfl | exact Or.inr rfl) (pe_call (ok_first_irregular T) (hr.mono (by decide)) (by rfl) T.m_first_irregular T.F_first_irregular.kp T.b_first_irregular .nil pass0 (pa_cons (pv 2) pa_nil)))
    (pss_cons (ps_if (pt_cmp (pc_notN (pv 3)) rfl) (pss_one ps_never) pss_nil)
    (pss_cons (ps_fld (pv 0) (pv 1) rfl)
    (pss_one (ps_fld (pv 0) (pv 2) rfl))))))), ?_⟩)
  walk_at "cl"
  rintro ds PF PX hl ⟨bs, rfl, hok, hreg, p⟩ xa F1 B H σ Q e hs q qx
  refine init_rest (C := L.C_Observer) (PF := PF) ?_ e hs (Evl.Ex.refl _) q
  refine s_rho (ρ' := [some (.loc xa), some (bD bs), none, none, none, none]) rfl ?_
  repeat walk_at "wk"
  refine ⟨bs, rfl, hok, sbn_t ?_⟩
  repeat walk_at "wk"
  refine e_lcX tRow (fun r => dV L.C_Quotient (vI r)) (go_name (by decide)) gm_name ?_
  repeat walk_at "wk"
  refine ⟨bs.map tRow, rfl, bs, rfl, by have := hok.2.1; omega, fun r hr' => ?_, ?_⟩
  · repeat walk_at "wk"
    refine e_lcU (go_name (by decide)) gm_name ?_
    repeat walk_at "wk"
    exact ⟨rfl, rfl⟩
  repeat walk_at "wk"
  refine ⟨bs, rfl, hok, hreg, ?_⟩
  repeat walk_at "wk"
  refine e_notN ?_
  repeat walk_at "wk"
  refine ⟨fun _ => ?_, fun z => absurd rfl z⟩
  refine sb_f ?_
  repeat walk_at "wk"
  refine s_fld ?_
  repeat walk_at "wk"
  refine fl_1 T.k_Observer.cl T.na_Observer_bands (by decide) ?_
  repeat walk_at "wk"
  refine s_fld ?_
  repeat walk_at "wk"
  refine fl_1 T.k_Observer.cl T.na_Observer_vectors (by show 1 < 1000; decide) ?_
  exact ⟨_, rfl, p⟩
theorem ok_Observer_len (T : Txt K mg L) : FnOk Pr w K mg base CX0 1 L.f_Observer_len L.d_Observer_len ["self"] (spP K 1 (W_lenObs L.C_Observer L.C_Quotient)) := by
  refine okP T.F_Observer_len sc_Observer_len rfl (fun cdv A outer s H E hr => ⟨_, (pss_one (ps_ret (pe_callB (r := Evl.rLenS K) call_len_seq rfl T.n_len (by decide +kernel) (pa_cons (pe_fld (pv 0) rfl) pa_nil)))), ?_⟩)
  walk_at "cl"
  rintro ds P hl ⟨bs, rfl, p⟩
  refine s_rho (ρ' := [some _]) rfl ?_
  repeat walk_at "wk"
  refine e_fld ?_
  repeat walk_at "wk"
  refine ⟨_, _, _, rfl, T.k_Observer.cl, T.na_Observer_bands, rfl, ?_⟩
  repeat walk_at "wk"
  exact p
theorem ok_is_lamp (T : Txt K mg L) : FnOk Pr w K mg base CX0 3 L.f_is_lamp L.d_is_lamp ["observer", "lamp"] (spP K 2 (W_isLampT L.C_Observer L.C_Quotient)) := by
  refine okP T.F_is_lamp sc_is_lamp rfl (fun cdv A outer s H E hr => ⟨_, (pss_cons (ps_if (PW.pt (pw_or (pt_not (pt_val (pe_callB (r := rIsi K) call_isi rfl T.n_isinstance (by decide +kernel) (pa_cons (pv 1) (pa_cons (pe_bltn (v := .ty "tuple") (by rfl) T.n_tuple (by decide +kernel) rfl) pa_nil))))) (pw_or1 (pt_cmpR op_ne (pe_callB (r := Evl.rLenS K) call_len_seq rfl T.n_len (by decide +kernel) (pa_cons (pv 1) pa_nil)) (pe_callB (call_lenO (ok_Observer_len T) (hr.mono (by decide)) T.b_Observer_len T.fi_Observer_len T.fn_Observer_len) rfl T.n_len (by decide +kernel) (pa_cons (pv 0) pa_nil)) (nomark _))))) (pss_one (ps_ret pe_bl)) pss_nil)
    (pss_one (ps_ret (pe_callB (r := rAll K) (cr_all rfl) rfl T.n_all (by decide +kernel) (pa_cons (pe_lc (own := [("light", 2)]) (g := gName 2) rfl sc_is_lamp.nd (pi_tup (pv 1)) (blkOk_by (own := [("light", 2)]) (N := N_is_lamp) (sc := defScope s_is_lamp) (by decide +kernel)) (fun _ _ _ _ _ => (pg_name (i := 2) sc_is_lamp.nd rfl (by first | exact Or.inl rfl | exact Or.inr rfl))) (fun _ _ _ _ _ => pts_nil) (fun _ _ _ _ _ => (pe_call (ok_is_number T) (hr.mono (by decide)) (by rfl) T.m_is_number T.F_is_number.kp T.b_is_number .nil pass0 (pa_cons (pv 2) (pa_cons (C8.pe_gc (by rfl) T.c_LEAST_LIGHT) (pa_cons (C8.pe_gc (by rfl) T.c_MOST_LIGHT) pa_nil)))))) pa_nil))))), ?_⟩)
  walk_at "cl"
  rintro ds P hl ⟨bs, ls, rfl, hb, ⟨hlen, hls⟩, p⟩
  have h7 := hb.2.1
  refine s_rho (ρ' := [some _, some _, none]) rfl ?_
  repeat walk_at "wk"
  refine c_isi (.tup _) (.ty _) T.kit_tuple_tuple (sbn_ot ?_)
  repeat walk_at "wk"
  refine c_lenOI ⟨bs, rfl, _, rfl, by omega, by omega, ?_⟩
  repeat walk_at "wk"
  refine sm_y (by omega) ?_
  repeat walk_at "wk"
  refine e_lcX (fun i => D.int i) (fun _ => D.bl true) (go_name (by decide)) gm_name ?_
  repeat walk_at "wk"
  refine ⟨_, rfl, ls, rfl, by omega, fun l hl' => ?_, ?_⟩
  · have hl1 := hls l hl'
    repeat walk_at "wk"
    exact ⟨rfl, rfl⟩
  repeat walk_at "wk"
  refine c_allT ?_
  repeat walk_at "wk"
  exact p
theorem ok_View_init (T : Txt K mg L) : FnOk Pr w K mg base (L2.CX Pr w) 5 L.f_View_init L.d_View_init ["self", "observer", "lamp"] (spI K L.C_View 2 (W_ViewT L.C_Observer L.C_Quotient)) := by
  refine okI T.F_View_init sc_View_init rfl (fun cdv A outer s H0 E hr => ⟨_, (pss_cons (ps_if (pt_not (pt_val (pe_call (ok_is_lamp T) (hr.mono (by decide)) (by rfl) T.m_is_lamp T.F_is_lamp.kp T.b_is_lamp .nil pass0 (pa_cons (pv 1) (pa_cons (pv 2) pa_nil))))) (pss_one (ps_raise rfl (takes_of rfl rfl rfl rfl) (pmk_own PySem.F.excBase_ValueError T.x_BadLamp T.mg_BadLamp T.kc_BadLamp (raises_own T.xb_BadLamp T.xt_BadLamp) (by rfl)))) pss_nil)
    (pss_cons (ps_fld (pv 0) (pv 1) rfl)
    (pss_cons (ps_fld (pv 0) (pv 2) rfl)
    (pss_one (ps_fld (pv 0) (pe_callTy (r := rTupOf K) call_tuple_of rfl T.n_tuple (by decide +kernel) (pa_cons (pe_lc (own := [("light", 3), ("vector", 4)]) (g := gTup K 2 (gCons (gName 3) (gCons (gName 4) gNil))) rfl sc_View_init.nd (RZ.pi_zipA (by rfl) T.n_zip (pa_cons (pv 2) (pa_cons (pe_fld (pv 1) rfl) pa_nil))) (blkOk_by (own := [("light", 3), ("vector", 4)]) (N := N_View_init) (sc := defScope s_View_init) (by decide +kernel)) (fun _ _ _ _ _ => (by exact (pg_tup (by rfl) (pgs_cons (pg_name (i := 3) sc_View_init.nd rfl (by first | exact Or.inl rfl | exact Or.inr rfl)) (pgs_cons (pg_name (i := 4) sc_View_init.nd rfl (by first | exact Or.inl rfl | exact Or.inr rfl)) pgs_nil))))) (fun _ _ _ _ _ => pts_nil) (fun _ _ _ _ _ => (pe_call (ok_scaled T) (hr.mono (by decide)) (by rfl) T.m_scaled T.F_scaled.kp T.b_scaled .nil pass0 (pa_cons (pe_call (ok_whole T) (hr.mono (by decide)) (by rfl) T.m_whole T.F_whole.kp T.b_whole .nil pass0 (pa_cons (pv 3) pa_nil)) (pa_cons (pv 4) pa_nil))))) pa_nil)) rfl))))), ?_⟩)
  walk_at "cl"
  rintro ds PF PX hl ⟨bs, ls, rfl, hb, hL, p⟩ xa F1 B H σ Q e hs q qx
  have h7 := hb.2.1
  refine init_rest (C := L.C_View) (PF := PF) ?_ e hs (Evl.Ex.refl _) q
  refine s_rho (ρ' := [some (.loc xa), some (dObs L.C_Observer L.C_Quotient bs), some (lampD ls), none, none]) rfl ?_
  repeat walk_at "wk"
  refine ⟨bs, ls, rfl, hb, hL, sbn_t ?_⟩
  repeat walk_at "wk"
  refine s_fld ?_
  repeat walk_at "wk"
  refine fl_1 T.k_View.cl T.na_View_observer (by decide) ?_
  repeat walk_at "wk"
  refine s_fld ?_
  repeat walk_at "wk"
  refine fl_1 T.k_View.cl T.na_View_lamp (by show 1 < 1000; decide) ?_
  repeat walk_at "wk"
  refine s_fld ?_
  repeat walk_at "wk"
  refine e_lcM (go_two (by decide) (by decide)) gm_two ?_
  repeat walk_at "wk"
  refine e_fld ?_
  repeat walk_at "wk"
  refine ⟨_, _, _, rfl, T.k_Observer.cl, T.na_Observer_vectors, rfl, ?_⟩
  repeat walk_at "wk"
  refine ⟨_, _, .inl rfl, ?_, (gens bs ls).map (fun r => dV L.C_Quotient (vI r)), ?_, ?_, ?_⟩
  · rw [zipD_len, List.length_map, List.length_map]; have := hL.1; omega
  · rw [zipD_len, List.length_map, List.length_map, List.length_map, gens_len hL.1]; have := hL.1; omega
  · intro i d e hd he
    obtain ⟨x, y, hx, hy, rfl⟩ := zipD_get hd
    rw [List.getElem?_map] at hx hy he
    cases hli : ls[i]? with
    | none => rw [hli] at hx; cases hx
    | some li =>
      cases hbi : bs[i]? with
      | none => rw [hbi] at hy; cases hy
      | some b =>
        rw [hli] at hx
        rw [hbi] at hy
        unfold gens at he
        rw [List.getElem?_zipWith, hli, hbi] at he
        cases hx; cases hy; cases he
        have bb := bits_vI (hb.2.2 b (List.mem_of_getElem? hbi))
        have hl1 := hL.2 li (List.mem_of_getElem? hli)
        have bl : bits (li : Rat) 7 := bits_whole (by omega) (by decide)
        repeat walk_at "wk"
        refine ⟨rfl, ?_⟩
        repeat walk_at "wk"
        rw [mul_vI]
        exact ⟨rfl, rfl⟩
  repeat walk_at "wk"
  refine fl_1 T.k_View.cl T.na_View_generators (by show 2 < 1000; decide) ?_
  exact ⟨_, rfl, p⟩
theorem ok_View_len (T : Txt K mg L) : FnOk Pr w K mg base CX0 1 L.f_View_len L.d_View_len ["self"] (spP K 1 (W_lenView L.C_View L.C_Observer L.C_Quotient)) := by
  refine okP T.F_View_len sc_View_len rfl (fun cdv A outer s H E hr => ⟨_, (pss_one (ps_ret (pe_callB (r := Evl.rLenS K) call_len_seq rfl T.n_len (by decide +kernel) (pa_cons (pe_fld (pv 0) rfl) pa_nil)))), ?_⟩)
  walk_at "cl"
  rintro ds P hl ⟨bs, ls, rfl, p⟩
  refine s_rho (ρ' := [some _]) rfl ?_
  repeat walk_at "wk"
  refine e_fld ?_
  repeat walk_at "wk"
  refine ⟨_, _, _, rfl, T.k_View.cl, T.na_View_lamp, rfl, ?_⟩
  repeat walk_at "wk"
  exact p
theorem e_gen {te : TE} {ρ : Rho} {O : Store} {P : D → Store → Prop} (T : Txt K mg L) (h : wE K te ρ O fun x O1 => ∃ bs ls, x = dView L.C_View L.C_Observer L.C_Quotient bs ls ∧ P (vD L.C_Quotient (gens bs ls)) O1) : wE K (tFld K te "generators") ρ O P :=
  e_fld (h.mono fun d O' z => by obtain ⟨bs, ls, rfl, p⟩ := z; exact ⟨_, _, _, rfl, T.k_View.cl, T.na_View_generators, rfl, p⟩)
theorem e_lmp {te : TE} {ρ : Rho} {O : Store} {P : D → Store → Prop} (T : Txt K mg L) (h : wE K te ρ O fun x O1 => ∃ bs ls, x = dView L.C_View L.C_Observer L.C_Quotient bs ls ∧ P (lampD ls) O1) : wE K (tFld K te "lamp") ρ O P :=
  e_fld (h.mono fun d O' z => by obtain ⟨bs, ls, rfl, p⟩ := z; exact ⟨_, _, _, rfl, T.k_View.cl, T.na_View_lamp, rfl, p⟩)
theorem e_obf {te : TE} {ρ : Rho} {O : Store} {P : D → Store → Prop} (T : Txt K mg L) (h : wE K te ρ O fun x O1 => ∃ bs ls, x = dView L.C_View L.C_Observer L.C_Quotient bs ls ∧ P (dObs L.C_Observer L.C_Quotient bs) O1) : wE K (tFld K te "observer") ρ O P :=
  e_fld (h.mono fun d O' z => by obtain ⟨bs, ls, rfl, p⟩ := z; exact ⟨_, _, _, rfl, T.k_View.cl, T.na_View_observer, rfl, p⟩)
theorem ex_dView {CV CO C : Addr} {bs : List I3} {ls : List Int} {Q : List I3 → List Int → Prop} (h : Q bs ls) : ∃ bs' ls', dView CV CO C bs ls = dView CV CO C bs' ls' ∧ Q bs' ls' := ⟨bs, ls, rfl, h⟩
local macro_rules | `(tactic| walk_at "wj") => `(tactic| first
  | ((with_reducible refine' k_lgens ?h1 ?h2 ?_); (case h1 => assumption); (case h2 => assumption))
  | ((with_reducible refine' k_lsum ?h1 ?h2 ?h3 ?_); (case h1 => assumption); (case h2 => assumption); (case h3 => assumption))
  | ((with_reducible refine' k_lquots ?h1 ?_); (case h1 => omega))
  | with_reducible refine k_lquotsR ?_
  | with_reducible refine k_scene ?_)
local macro_rules | `(tactic| walk_at "wj") => `(tactic| first
  | with_reducible refine ex_lRow ?_
  | with_reducible refine r_lR0 ?_
  | with_reducible refine r_lR1 ?_
  | with_reducible refine r_lR2 ?_
  | ((with_reducible refine' k_cellS ?h1 ?_); (case h1 => omega))
  | with_reducible refine k_lbands ?_
  | ((with_reducible refine' k_llamp ?h1 ?_); (case h1 => omega))
  | ((with_reducible refine' k_lvals ?h1 ?_); (case h1 => omega)))
local macro_rules | `(tactic| walk_at "wj") => `(tactic| first
  | with_reducible refine le8 ?_
  | with_reducible refine ll5 ?_
  | with_reducible refine ll6 ?_
  | with_reducible refine ll7 ?_
  | with_reducible refine ll8 ?_
  | ((with_reducible refine' s_retZ ?h1 ?_); (case h1 => exact rfl))
  | with_reducible refine c_lenDL ?_
  | with_reducible refine c_lenDG ?_)
local macro_rules | `(tactic| walk_at "wj") => `(tactic| first
  | ((with_reducible refine' r_tAB ?h1 ?_); (case h1 => assumption))
  | with_reducible refine c_tupRow ?_
  | with_reducible refine g_setL ?_
  | ((with_reducible refine' st_setI ?h1 ?_); (case h1 => (simp only [List.length_map, List.length_set]; omega)))
  | with_reducible refine c_sumR ?_
  | with_reducible refine le5 ?_
  | with_reducible refine le6 ?_
  | with_reducible refine le7 ?_)
local macro_rules | `(tactic| walk_at "wj") => `(tactic| first
  | ((with_reducible refine' r_mulC ?h1 ?_); (case h1 => omega))
  | with_reducible refine r_eqB ?_
  | with_reducible refine r_eqS ?_
  | with_reducible refine e_chain ?_
  | with_reducible refine c_sumL ?_
  | ((with_reducible refine' k_drw ?h1 ?_); (case h1 => omega))
  | ((with_reducible refine' z_tA ?h1 ?_); (case h1 => assumption))
  | ((with_reducible refine' z_tB ?h1 ?_); (case h1 => assumption)))
local macro_rules | `(tactic| walk_at "wj") => `(tactic| first
  | ((with_reducible refine' r_drw ?h1 ?_); (case h1 => omega))
  | ((with_reducible refine' r_dL ?h1 ?_); (case h1 => omega))
  | ((with_reducible refine' r_tL ?h1 ?_); (case h1 => omega))
  | ((with_reducible refine' r_dG ?h1 ?_); (case h1 => omega))
  | ((with_reducible refine' r_bG ?h1 ?_); (case h1 => omega))
  | ((with_reducible refine' r_mod ?h1 ?_); (case h1 => omega))
  | ((with_reducible refine' r_fdv ?h1 ?_); (case h1 => omega))
  | ((with_reducible refine' r_mulS ?h1 ?_); (case h1 => omega)))
local macro_rules | `(tactic| walk_at "wj") => `(tactic| first
  | ((with_reducible refine' k_stest ?h1 ?h2 ?h3 ?_); (case h1 => assumption); (case h2 => assumption); (case h3 => assumption))
  | ((with_reducible refine' k_ltest ?h1 ?h2 ?_); (case h1 => assumption); (case h2 => assumption))
  | with_reducible refine r_neTest ?_)
local macro_rules | `(tactic| walk_at "wj") => `(tactic| first
  | ((with_reducible refine' k_lpairs ?h1 ?_); (case h1 => omega))
  | ((with_reducible refine' k_lfailed ?h1 ?h2 ?h3 ?_); (case h1 => assumption); (case h2 => assumption); (case h3 => omega))
  | with_reducible refine r_neC ?_
  | with_reducible refine zb_t ?_
  | with_reducible refine zb_f ?_
  | with_reducible refine zc_t ?_
  | with_reducible refine zc_f ?_
  | with_reducible refine i_enumL ?_)
local macro_rules | `(tactic| walk_at "wj") => `(tactic| first
  | with_reducible refine r_xT1 ?_
  | with_reducible refine r_xT2 ?_
  | ((with_reducible refine' k_colQ ?h1 ?h2 ?h3 ?h4 ?_); (case h1 => assumption); (case h2 => assumption); (case h3 => assumption); (case h4 => assumption))
  | ((with_reducible refine' k_lowhigh ?h1 ?h2 ?h3 ?_); (case h1 => assumption); (case h2 => assumption); (case h3 => omega))
  | ((with_reducible refine' k_ldetT ?h1 ?h2 ?h3 ?_); (case h1 => assumption); (case h2 => assumption); (case h3 => assumption))
  | ((with_reducible refine' k_ldetL ?h1 ?h2 ?h3 ?_); (case h1 => assumption); (case h2 => assumption); (case h3 => assumption))
  | ((with_reducible refine' k_lboundL ?h1 ?h2 ?_); (case h1 => assumption); (case h2 => omega))
  | ((with_reducible refine' k_lboundH ?h1 ?h2 ?_); (case h1 => assumption); (case h2 => omega)))
local macro_rules | `(tactic| walk_at "wj") => `(tactic| first
  | ((with_reducible refine' e_gen ?hT ?_); (case hT => assumption))
  | ((with_reducible refine' e_lmp ?hT ?_); (case hT => assumption))
  | ((with_reducible refine' e_obf ?hT ?_); (case hT => assumption))
  | with_reducible refine ex_dView ?_
  | with_reducible refine r_xR0 ?_
  | with_reducible refine r_xR1 ?_
  | with_reducible refine r_xR2 ?_
  | with_reducible refine r_xT0 ?_)
theorem ok_law_cell (T : Txt K mg L) : FnOk Pr w K mg base CX0 1 L.f_law_cell L.d_law_cell ["script", "k"] (spP K 2 W_cell) := by
  refine okP T.F_law_cell sc_law_cell rfl (fun cdv A outer s H E hr => ⟨_, (pss_cons (ps_if (pt_cmpR op_lt (pv 1) (pe_callB (r := Evl.rLenS K) call_len_seq rfl T.n_len (by decide +kernel) (pa_cons (pv 0) pa_nil)) (nomark _)) (pss_one (ps_ret (pe_ix (r := rIxL K) ix_list (pv 0) (pv 1) (fun _ _ => rfl)))) pss_nil)
    (pss_one (ps_ret pe_int))), ?_⟩)
  rintro ds P hl ⟨ns, k, rfl, h0, p⟩
  refine s_seq (s_if (t_test (e_op (e_var rfl (e_cb (a_cons (e_var rfl (a_nil (c_len (.inr (.inr rfl)) (r_rI0 ⟨_, rfl, fun h => ?_, fun h => ?_⟩))))))))))
  · have h' : k < ns.length := by have := of_decide_eq_true h; rwa [scr_len] at this
    exact s_ret (e_op (e_var rfl (e_var rfl (r_ixZ (cell_lt h0 h') p))))
  · have h' : ¬ k < ns.length := by have := of_decide_eq_false h; rwa [scr_len] at this
    refine s_next (s_ret (e_c ?_))
    rw [cell_ge h' h0] at p
    exact p
theorem ok_law_draws (T : Txt K mg L) : FnOk Pr w K mg base CX0 1 L.f_law_draws L.d_law_draws ["cell", "count"] (spP K 2 W_drw) := by
  refine okP T.F_law_draws sc_law_draws rfl (fun cdv A outer s H E hr => ⟨_, (pss_cons (ps_set (i := 2) sc_law_draws.nd rfl (by first | exact Or.inl rfl | exact Or.inr rfl) (pe_lst pa_nil))
    (pss_cons (ps_set (i := 3) sc_law_draws.nd rfl (by first | exact Or.inl rfl | exact Or.inr rfl) (pe_callTy (r := rInt1) call_int1 rfl T.n_int (by decide +kernel) (pa_cons (pv 0) pa_nil)))
    (pss_cons (ps_for PassesOwn.never rfl (pi_range1 (by rfl) T.n_range (pa_cons (pv 1) pa_nil)) (pg_name (i := 4) sc_law_draws.nd rfl (by first | exact Or.inl rfl | exact Or.inr rfl)) (pss_cons (ps_set (i := 5) sc_law_draws.nd rfl (by first | exact Or.inl rfl | exact Or.inr rfl) (pe_op op_mod (pe_callTy (r := rInt1) call_int1 rfl T.n_int (by decide +kernel) (pa_cons (pe_op op_add (pe_op op_add (pe_op op_mul (pv 0) pe_int) (pe_op op_mul (pv 4) pe_int)) pe_int) pa_nil)) pe_int))
    (pss_one (ps_if (pt_cmpR op_ge (pv 0) (pe_op op_pow pe_int pe_int) (nomark _)) (pss_cons (ps_expr (pe_bm PySem.F.plainAttrs_list PySem.F.slot_list_append PySem.F.type_list_append mt_append (pv 2) (pa_cons (pe_op op_mod (pv 3) pe_int) pa_nil)))
    (pss_one (ps_set (i := 3) sc_law_draws.nd rfl (by first | exact Or.inl rfl | exact Or.inr rfl) (pe_op op_fdivG (pv 3) pe_int)))) (pss_one (ps_expr (pe_bm PySem.F.plainAttrs_list PySem.F.slot_list_append PySem.F.type_list_append mt_append (pv 2) (pa_cons (pe_op op_fdivG (pe_op op_mod (pe_callTy (r := rInt1) call_int1 rfl T.n_int (by decide +kernel) (pa_cons (pe_op op_add (pe_op op_mul (pv 5) (pv 5)) (pe_op op_mul (pv 5) pe_int)) pa_nil)) pe_int) pe_int) pa_nil))))))))
    (pss_one (ps_ret (pv 2)))))), ?_⟩)
  walk_at "cl"
  rintro ds P hl ⟨c, n, rfl, h60, p⟩
  refine s_rho (ρ' := [some _, some _, none, none, none, none]) rfl ?_
  refine s_seq (s_asg (e_lstO (a_nil ⟨by decide, fun q => ?_⟩)))
  refine s_rho (ρ' := [some (.int c), some (.int (n : Int)), some (.loc q), none, none, none]) rfl ?_
  repeat walk_at "wk"
  refine s_for ?_
  repeat walk_at "wk"
  refine ⟨fun i ρ O => (∃ k x, ρ = [some (.int c), some (.int (n : Int)), some (.loc q), some (.int (if (1000000000000000000 : Int) ≤ c then c / 1009 ^ i else c)), k, x]) ∧ O = [(q, .lst ((drw c i).map fun i => D.int i))], ⟨⟨none, none, ?_⟩, rfl⟩, ?_, ?_⟩
  · rw [show c / 1009 ^ 0 = c by simp]
    simp
  · rintro i d ρ' O' hi ⟨⟨k, x, rfl⟩, rfl⟩
    obtain ⟨hin, rfl⟩ := rangeD_get hi
    rw [Int.zero_add]
    refine g_name (s_rho (ρ' := [some (.int c), some (.int (n : Int)), some (.loc q), some (.int (if (1000000000000000000 : Int) ≤ c then c / 1009 ^ i else c)), some (.int (i : Int)), x]) rfl ?_)
    have llen : ((drw c i).map fun i => D.int i).length < 100000 := by
      rw [List.length_map, drw_len]
      omega
    have put : ∀ v : Int, ((drw c i).map fun i => D.int i) ++ [D.int v] = (drw c i ++ [v]).map fun i => D.int i := fun v => by rw [List.map_append]; rfl
    repeat walk_at "wk"
    refine r_rI cpow18 ?_
    repeat walk_at "wk"
    refine sp_d (fun h => ?_) (fun h => ?_)
    · have h' : (1000000000000000000 : Int) ≤ c := h
      rw [if_pos h']
      repeat walk_at "wk"
      refine e_append ?_
      repeat walk_at "wk"
      refine ⟨q, _, rfl, List.mem_cons_self, ?_⟩
      repeat walk_at "wk"
      refine ⟨_, _, llen, .here, ?_⟩
      repeat walk_at "wk"
      have e : drwAt c i = c / 1009 ^ i % 1009 := by unfold drwAt; rw [if_pos h']
      rw [if_pos h', ← rest_succ, put, drw_succ, e]
      exact ⟨⟨_, _, rfl⟩, rfl⟩
    · have h' : ¬ (1000000000000000000 : Int) ≤ c := h
      rw [if_neg h']
      have y0 : 0 ≤ mixI c i ∧ mixI c i < 2147483647 := by unfold mixI; omega
      change wS K _ [some (.int c), some (.int (n : Int)), some (.loc q), some (.int c), some (.int (i : Int)), some (.int (mixI c i))] _ _
      generalize hm : mixI c i = y at y0
      repeat walk_at "wk"
      refine e_append ?_
      repeat walk_at "wk"
      refine ⟨q, _, rfl, List.mem_cons_self, ?_⟩
      repeat walk_at "wk"
      refine ⟨_, _, llen, .here, ?_⟩
      repeat walk_at "wk"
      have e : drwAt c i = (y * y + y * 40692) % 2147483399 / 7 := by unfold drwAt; rw [if_neg h', hm]
      rw [if_neg h', put, drw_succ, e]
      exact ⟨⟨_, _, rfl⟩, rfl⟩
  · rintro ρ' O' ⟨⟨k, x, rfl⟩, rfl⟩
    rw [rangeD_len, Int.toNat_natCast]
    refine s_sub (ρ' := [none, none, some (.loc q), none, none, none]) (.drop (.drop (.same (.drop (.drop (.drop .nil)))))) (s_frz (ρ' := [none, none, some (dL (drw c n)), none, none, none]) .here ?_ ?_)
    · simp [frz]
    exact s_ret (e_var rfl p)
theorem ok_law_bands (T : Txt K mg L) : FnOk Pr w K mg base CX0 2 L.f_law_bands L.d_law_bands ["cell"] (spP K 1 W_lbands) := by
  refine okP T.F_law_bands sc_law_bands rfl (fun cdv A outer s H E hr => ⟨_, (pss_cons (ps_set (i := 1) sc_law_bands.nd rfl (by first | exact Or.inl rfl | exact Or.inr rfl) (pe_call (ok_law_draws T) (hr.mono (by decide)) (by rfl) T.m_law_draws T.F_law_draws.kp T.b_law_draws .nil pass0 (pa_cons (pv 0) (pa_cons pe_int pa_nil))))
    (pss_cons (ps_set (i := 2) sc_law_bands.nd rfl (by first | exact Or.inl rfl | exact Or.inr rfl) (pe_op op_add (pe_op op_mod (pe_ix (r := rIxL K) ix_list (pv 1) pe_int (fun _ _ => rfl)) pe_int) pe_int))
    (pss_cons (ps_set (i := 3) sc_law_bands.nd rfl (by first | exact Or.inl rfl | exact Or.inr rfl) (pe_lst pa_nil))
    (pss_cons (ps_set (i := 4) sc_law_bands.nd rfl (by first | exact Or.inl rfl | exact Or.inr rfl) pe_int)
    (pss_cons (ps_for PassesOwn.never rfl (pi_range1 (by rfl) T.n_range (pa_cons (pv 2) pa_nil)) (pg_name (i := 5) sc_law_bands.nd rfl (by first | exact Or.inl rfl | exact Or.inr rfl)) (pss_cons (ps_set (i := 6) sc_law_bands.nd rfl (by first | exact Or.inl rfl | exact Or.inr rfl) (pe_op op_add (pe_op op_mod (pe_ix (r := rIxL K) ix_list (pv 1) (pe_op op_add pe_int (pv 5)) (fun _ _ => rfl)) pe_int) pe_int))
    (pss_cons (ps_if (pt_cmpR op_gt (pe_op op_mulW (pe_op op_mulW (pv 6) (pv 4)) (pv 4)) pe_int (nomark _)) (pss_one (ps_set (i := 6) sc_law_bands.nd rfl (by first | exact Or.inl rfl | exact Or.inr rfl) pe_int)) pss_nil)
    (pss_cons (ps_set (i := 7) sc_law_bands.nd rfl (by first | exact Or.inl rfl | exact Or.inr rfl) (pe_lst (pa_cons (pv 6) (pa_cons (pe_op op_mulW (pv 6) (pv 4)) (pa_cons (pe_op op_mulW (pe_op op_mulW (pv 6) (pv 4)) (pv 4)) pa_nil)))))
    (pss_cons (ps_set (i := 8) sc_law_bands.nd rfl (by first | exact Or.inl rfl | exact Or.inr rfl) (pe_op op_mod (pe_ix (r := rIxL K) ix_list (pv 1) pe_int (fun _ _ => rfl)) pe_int))
    (pss_cons (ps_expr (pe_bm PySem.F.plainAttrs_list PySem.F.slot_list_append PySem.F.type_list_append mt_append (pv 3) (pa_cons (pe_callTy (r := rTupOf K) call_tuple_of rfl T.n_tuple (by decide +kernel) (pa_cons (pe_op op_cat (pe_slice sl_list (pv 7) (po_some (pv 8)) po_none) (pe_slice sl_list (pv 7) po_none (po_some (pv 8)))) pa_nil)) pa_nil)))
    (pss_one (ps_set (i := 4) sc_law_bands.nd rfl (by first | exact Or.inl rfl | exact Or.inr rfl) (pe_op op_add (pe_op op_add (pv 4) pe_int) (pe_op op_mulW (pe_op op_mod (pe_ix (r := rIxL K) ix_list (pv 1) (pe_op op_add pe_int (pv 5)) (fun _ _ => rfl)) pe_int) (pe_callTy (r := rInt1) call_int1 rfl T.n_int (by decide +kernel) (pa_cons (pe_cmpR op_le (pe_op op_sub (pe_op op_add (pv 4) (pv 2)) (pv 5)) pe_int (nomark _)) pa_nil))))))))))))
    (pss_cons (ps_set (i := 8) sc_law_bands.nd rfl (by first | exact Or.inl rfl | exact Or.inr rfl) (pe_op op_mod (pe_ix (r := rIxL K) ix_list (pv 1) pe_int (fun _ _ => rfl)) (pv 2)))
    (pss_one (ps_ret (pe_callTy (r := rTupOf K) call_tuple_of rfl T.n_tuple (by decide +kernel) (pa_cons (pe_op op_cat (pe_slice sl_list (pv 3) (po_some (pv 8)) po_none) (pe_slice sl_list (pv 3) po_none (po_some (pv 8)))) pa_nil)))))))))), ?_⟩)
  walk_at "cl"
  rintro ds P hl ⟨c, rfl, p⟩
  refine s_rho (ρ' := [some _, none, none, none, none, none, none, none, none]) rfl ?_
  repeat walk_at "wj"
  have hc0 := drwAt_nn c 0
  obtain ⟨n, hn, hn4, hn7⟩ : ∃ n : Nat, drwAt c 0 % 4 + 4 = (n : Int) ∧ 4 ≤ n ∧ n ≤ 7 := ⟨(drwAt c 0 % 4 + 4).toNat, by omega, by omega, by omega⟩
  rw [show (Int.toNat 0) = 0 from rfl, hn]
  repeat walk_at "wj"
  refine e_lstO ?_
  repeat walk_at "wj"
  intro q
  repeat walk_at "wj"
  refine s_for ?_
  repeat walk_at "wj"
  have htn : drwAt c 18 % 3 = 0 ∨ drwAt c 18 % 3 = 1 ∨ drwAt c 18 % 3 = 2 := by omega
  refine ⟨fun i ρ O => (∃ ps t k5 k6 k7 k8, ρ = [some (.int c), some (dL (drw c 20)), some (.int (n : Int)), some (.loc q), some (.int t), k5, k6, k7, k8] ∧ ps.length = i ∧ ascB ps t ∧ 0 ≤ t ∧ t + ((n : Int) - i) ≤ 11 ∧ O = [(q, .lst ((rowsB ps (drwAt c 18 % 3)).map tRow))]), ⟨[], 0, _, _, _, _, rfl, rfl, ascB_nil, Int.le_refl 0, by omega, rfl⟩, ?_, ?_⟩
  · rintro i d ρ' O' hi ⟨ps, t, k5, k6, k7, k8, rfl, hlen, hasc, t0, t11, rfl⟩
    obtain ⟨hin, rfl⟩ := rangeD_get hi
    rw [Int.zero_add]
    have hin' : i < n := by omega
    have t10 : t ≤ 10 := by omega
    refine g_name (s_rho (ρ' := [some (.int c), some (dL (drw c 20)), some (.int (n : Int)), some (.loc q), some (.int t), some (.int (i : Int)), k6, k7, k8]) rfl ?_)
    repeat walk_at "wj"
    have hm0 := drwAt_nn c (1 + (i : Int)).toNat
    generalize drwAt c (1 + (i : Int)).toNat = d1 at hm0
    refine wS.mono (PS := fun o O1 => ∃ m, o = .nx [some (.int c), some (dL (drw c 20)), some (.int (n : Int)), some (.loc q), some (.int t), some (.int (i : Int)), some (.int m), k7, k8] ∧ O1 = [(q, .lst ((rowsB ps (drwAt c 18 % 3)).map tRow))] ∧ 1 ≤ m ∧ m ≤ 3 ∧ m * t * t ≤ 100) ?_ ?_
    · repeat walk_at "wk"
      have mt : -18446744073709551616 < (d1 % 3 + 1) * t ∧ (d1 % 3 + 1) * t < 18446744073709551616 := by
        have h1 : (d1 % 3 + 1) * t ≤ 3 * 10 := Int.mul_le_mul (by omega) t10 t0 (by decide)
        have h2 : 0 ≤ (d1 % 3 + 1) * t := Int.mul_nonneg (by omega) t0
        omega
      repeat walk_at "wk"
      refine sp_d (fun h => ?_) (fun h => ?_)
      · repeat walk_at "wk"
        refine ⟨1, rfl, rfl, by decide, by decide, ?_⟩
        have h1 : 1 * t * t ≤ 10 * 10 := Int.mul_le_mul (by omega) t10 t0 (by decide)
        omega
      · repeat walk_at "wk"
        exact ⟨_, rfl, rfl, by omega, by omega, by omega⟩
    rintro o O1 ⟨m, rfl, rfl, m1, m3, m100⟩
    have mt : -18446744073709551616 < m * t ∧ m * t < 18446744073709551616 := by
      have h1 : m * t ≤ 3 * 10 := Int.mul_le_mul m3 t10 t0 (by decide)
      have h2 : 0 ≤ m * t := Int.mul_nonneg (by omega) t0
      omega
    repeat walk_at "wk"
    refine e_append ?_
    repeat walk_at "wk"
    refine ow_1 ?_
    rw [show (Int.toNat 18) = 18 from rfl]
    change wE K _ [some (.int c), some (dL (drw c 20)), some (.int (n : Int)), some (.loc q), some (.int t), some (.int (i : Int)), some (.int m), some (lRow (mt3 m t)), some (.int (drwAt c 18 % 3))] _ _
    repeat walk_at "wk"
    refine ⟨_, _, by rw [List.length_map]; unfold rowsB; rw [List.length_map]; omega, .here, ?_⟩
    have hd0 := drwAt_nn c (8 + (i : Int)).toNat
    repeat walk_at "wk"
    generalize drwAt c (8 + (i : Int)).toNat = d2 at hd0
    have rows : (rowsB ps (drwAt c 18 % 3)).map tRow ++ [tRow (turn3 (mt3 m t) (drwAt c 18 % 3))] = (rowsB (ps ++ [(m, t)]) (drwAt c 18 % 3)).map tRow := by
      unfold rowsB
      rw [List.map_append, List.map_append]
      rfl
    by_cases h : t + (n : Int) - (i : Int) ≤ 10
    · rw [decide_eq_true h, if_pos rfl]
      repeat walk_at "wk"
      rw [rows]
      exact ⟨_, _, _, _, _, _, rfl, by rw [List.length_append, hlen]; rfl, ascB_snoc hasc m1 m3 t0 m100 (by omega), by omega, by omega, rfl⟩
    · rw [decide_eq_false h, if_neg Bool.false_ne_true]
      repeat walk_at "wk"
      rw [rows]
      exact ⟨_, _, _, _, _, _, rfl, by rw [List.length_append, hlen]; rfl, ascB_snoc hasc m1 m3 t0 m100 (by omega), by omega, by omega, rfl⟩
  · rintro ρ' O' ⟨ps, t, k5, k6, k7, k8, rfl, hlen, hasc, t0, t11, rfl⟩
    rw [rangeD_len, Int.toNat_natCast] at hlen
    refine th_nx ?_
    refine s_sub (ρ' := [none, some (dL (drw c 20)), some (.int (n : Int)), some (.loc q), none, none, none, none, none]) (.drop (.same (.same (.same (.drop (.drop (.drop (.drop (.drop .nil))))))))) (s_frz (ρ' := [none, some (dL (drw c 20)), some (.int (n : Int)), some (dG (rowsB ps (drwAt c 18 % 3))), none, none, none, none, none]) .here ?_ ?_)
    · simp [frz]
    have hrl : (rowsB ps (drwAt c 18 % 3)).length = n := by unfold rowsB; rw [List.length_map, hlen]
    have hokB : okBands (rowsB ps (drwAt c 18 % 3)) := ⟨by omega, by omega, ok_rows _ hasc⟩
    have hregB := reg_rows (drwAt c 18 % 3) hasc
    generalize rowsB ps (drwAt c 18 % 3) = bs at hrl hokB hregB
    repeat walk_at "wk"
    have hd19 := drwAt_nn c 19
    rw [show (Int.toNat 19) = 19 from rfl]
    obtain ⟨u, hu, hun⟩ : ∃ u : Nat, drwAt c 19 % (n : Int) = (u : Int) ∧ u ≤ bs.length := ⟨(drwAt c 19 % (n : Int)).toNat, by have := Int.emod_nonneg (drwAt c 19) (show (n : Int) ≠ 0 by omega); omega, by have := Int.emod_nonneg (drwAt c 19) (show (n : Int) ≠ 0 by omega); have := Int.emod_lt_of_pos (drwAt c 19) (show 0 < (n : Int) by omega); omega⟩
    rw [hu]
    repeat walk_at "wk"
    rw [cutD_from, cutD_upto, ← List.map_drop, ← List.map_take]
    refine r_cat (by rw [List.length_map, List.length_map, List.length_drop, List.length_take]; omega) ?_
    repeat walk_at "wk"
    rw [← List.map_append]
    exact p _ (ok_rot hun hokB) (reg_rot hun hregB)
theorem ok_law_lamp (T : Txt K mg L) : FnOk Pr w K mg base CX0 2 L.f_law_lamp L.d_law_lamp ["cell", "count"] (spP K 2 W_llamp) := by
  refine okP T.F_law_lamp sc_law_lamp rfl (fun cdv A outer s H E hr => ⟨_, (pss_cons (ps_set (i := 2) sc_law_lamp.nd rfl (by first | exact Or.inl rfl | exact Or.inr rfl) (pe_call (ok_law_draws T) (hr.mono (by decide)) (by rfl) T.m_law_draws T.F_law_draws.kp T.b_law_draws .nil pass0 (pa_cons (pv 0) (pa_cons pe_int pa_nil))))
    (pss_one (ps_ret (pe_callTy (r := rTupOf K) call_tuple_of rfl T.n_tuple (by decide +kernel) (pa_cons (pe_lc (own := [("k", 3)]) (g := gName 3) rfl sc_law_lamp.nd (pi_range1 (by rfl) T.n_range (pa_cons (pv 1) pa_nil)) (blkOk_by (own := [("k", 3)]) (N := N_law_lamp) (sc := defScope s_law_lamp) (by decide +kernel)) (fun _ _ _ _ _ => (pg_name (i := 3) sc_law_lamp.nd rfl (by first | exact Or.inl rfl | exact Or.inr rfl))) (fun _ _ _ _ _ => pts_nil) (fun _ _ _ _ _ => (pe_op op_add (pe_op op_mod (pe_ix (r := rIxL K) ix_list (pv 2) (pv 3) (fun _ _ => rfl)) pe_int) pe_int))) pa_nil))))), ?_⟩)
  walk_at "cl"
  rintro ds P hl ⟨c, n, rfl, h8, p⟩
  refine s_rho (ρ' := [some _, some _, none, none]) rfl ?_
  repeat walk_at "wj"
  refine e_lcX (fun k : Nat => D.int (0 + (k : Int))) (fun k => D.int (drwAt c k % 5 + 1)) (go_name (by decide)) gm_name ?_
  repeat walk_at "wj"
  refine ⟨List.range n, by rw [Int.toNat_natCast]; rfl, by rw [List.length_range]; omega, fun k hk => ?_, ?_⟩
  · have hk' := List.mem_range.mp hk
    rw [Int.zero_add]
    repeat walk_at "wj"
    exact ⟨rfl, rfl⟩
  repeat walk_at "wj"
  have e : (List.range n).map (fun k => D.int (drwAt c k % 5 + 1)) = (lampF c n).map fun i => D.int i := by
    unfold lampF
    rw [List.map_map]
    rfl
  rw [e]
  exact p
theorem ok_law_values (T : Txt K mg L) : FnOk Pr w K mg base CX0 2 L.f_law_values L.d_law_values ["cell", "count"] (spP K 2 W_lvals) := by
  refine okP T.F_law_values sc_law_values rfl (fun cdv A outer s H E hr => ⟨_, (pss_cons (ps_set (i := 2) sc_law_values.nd rfl (by first | exact Or.inl rfl | exact Or.inr rfl) (pe_call (ok_law_draws T) (hr.mono (by decide)) (by rfl) T.m_law_draws T.F_law_draws.kp T.b_law_draws .nil pass0 (pa_cons (pv 0) (pa_cons pe_int pa_nil))))
    (pss_cons (ps_if (pt_cmpR op_eq (pe_op op_mod (pe_ix (r := rIxL K) ix_list (pv 2) pe_int (fun _ _ => rfl)) pe_int) pe_int (nomark _)) (pss_one (ps_ret (pe_lc (own := [("k", 7)]) (g := gName 7) rfl sc_law_values.nd (pi_range1 (by rfl) T.n_range (pa_cons (pv 1) pa_nil)) (blkOk_by (own := [("k", 7)]) (N := N_law_values) (sc := defScope s_law_values) (by decide +kernel)) (fun _ _ _ _ _ => (pg_name (i := 7) sc_law_values.nd rfl (by first | exact Or.inl rfl | exact Or.inr rfl))) (fun _ _ _ _ _ => pts_nil) (fun _ _ _ _ _ => (pe_op op_mod (pe_ix (r := rIxL K) ix_list (pv 2) (pe_op op_add pe_int (pv 7)) (fun _ _ => rfl)) pe_int))))) pss_nil)
    (pss_cons (ps_if (pt_cmpR op_eq (pe_op op_mod (pe_ix (r := rIxL K) ix_list (pv 2) pe_int (fun _ _ => rfl)) pe_int) pe_int (nomark _)) (pss_one (ps_ret (pe_lc (own := [("k", 7)]) (g := gName 7) rfl sc_law_values.nd (pi_range1 (by rfl) T.n_range (pa_cons (pv 1) pa_nil)) (blkOk_by (own := [("k", 7)]) (N := N_law_values) (sc := defScope s_law_values) (by decide +kernel)) (fun _ _ _ _ _ => (pg_name (i := 7) sc_law_values.nd rfl (by first | exact Or.inl rfl | exact Or.inr rfl))) (fun _ _ _ _ _ => pts_nil) (fun _ _ _ _ _ => (pe_ix (r := rIxT K) ix_tup (pe_tup (pa_cons pe_int (pa_cons pe_int (pa_cons pe_int (pa_cons pe_int (pa_cons pe_int pa_nil)))))) (pe_op op_mod (pe_ix (r := rIxL K) ix_list (pv 2) (pe_op op_add pe_int (pv 7)) (fun _ _ => rfl)) pe_int) (fun _ _ => rfl)))))) pss_nil)
    (pss_cons (ps_set (i := 3) sc_law_values.nd rfl (by first | exact Or.inl rfl | exact Or.inr rfl) (pe_op op_mod (pe_ix (r := rIxL K) ix_list (pv 2) pe_int (fun _ _ => rfl)) (pe_op op_sub (pv 1) pe_int)))
    (pss_cons (ps_set (i := 4) sc_law_values.nd rfl (by first | exact Or.inl rfl | exact Or.inr rfl) (pe_op op_add (pe_op op_add (pv 3) pe_int) (pe_op op_mod (pe_ix (r := rIxL K) ix_list (pv 2) pe_int (fun _ _ => rfl)) (pe_op op_sub (pe_op op_sub (pv 1) pe_int) (pv 3)))))
    (pss_cons (ps_set (i := 5) sc_law_values.nd rfl (by first | exact Or.inl rfl | exact Or.inr rfl) (pe_op op_mulW pe_int (pe_op op_mod (pe_ix (r := rIxL K) ix_list (pv 2) pe_int (fun _ _ => rfl)) pe_int)))
    (pss_cons (ps_setLc (i := 6) (own := [("k", 7)]) (g := gName 7) rfl sc_law_values.nd rfl rfl (sw_true rfl rfl rfl (by decide +kernel)) (pi_range1 (by rfl) T.n_range (pa_cons (pv 1) pa_nil)) (blkOk_by (own := [("k", 7)]) (N := N_law_values) (sc := defScope s_law_values) (by decide +kernel)) (fun _ _ _ _ _ => (pg_name (i := 7) sc_law_values.nd rfl (by first | exact Or.inl rfl | exact Or.inr rfl))) (fun _ _ _ _ _ => pts_nil) (fun _ _ _ _ _ => (pe_ifExp (pt_chain op_lt op_lt (pv 3) (pv 7) (pv 4)) (pv 5) (pe_op op_sub pe_int (pv 5)))))
    (pss_cons (ps_asg (pe_op op_mod (pe_ix (r := rIxL K) ix_list (pv 2) pe_int (fun _ _ => rfl)) pe_int) (pg_sub (pv 6) (pv 3) set_list))
    (pss_cons (ps_asg (pe_op op_mod (pe_ix (r := rIxL K) ix_list (pv 2) pe_int (fun _ _ => rfl)) pe_int) (pg_sub (pv 6) (pv 4) set_list))
    (pss_one (ps_ret (pv 6)))))))))))), ?_⟩)
  walk_at "cl"
  rintro ds P hl ⟨c, n, rfl, h4, h7, p⟩
  refine s_rho (ρ' := [some _, some _, none, none, none, none, none, none]) rfl ?_
  repeat walk_at "wk"
  rw [show (Int.toNat 0) = 0 from rfl]
  unfold valsF at p
  refine sp_d (fun h0 => ?_) (fun h0 => ?_)
  · rw [if_pos (show drwAt c 0 % 3 = 0 from h0)] at p
    repeat walk_at "wj"
    refine e_lcX (fun k : Nat => D.int (0 + (k : Int))) (fun k => D.int (drwAt c (1 + k) % 13)) (go_name (by decide)) gm_name ?_
    repeat walk_at "wj"
    refine ⟨List.range n, by rw [Int.toNat_natCast]; rfl, by rw [List.length_range]; omega, fun k hk => ?_, ?_⟩
    · have hk' := List.mem_range.mp hk
      rw [Int.zero_add]
      repeat walk_at "wj"
      rw [show (1 + (k : Int)).toNat = 1 + k by omega]
      exact ⟨rfl, rfl⟩
    repeat walk_at "wj"
    have e : (List.range n).map (fun k => D.int (drwAt c (1 + k) % 13)) = (val0 c n).map fun i => D.int i := by
      unfold val0
      rw [List.map_map]
      rfl
    rw [e]
    exact p
  rw [if_neg (show ¬ drwAt c 0 % 3 = 0 from h0)] at p
  repeat walk_at "wk"
  refine sp_d (fun h1 => ?_) (fun h1 => ?_)
  · rw [if_pos (show drwAt c 0 % 3 = 1 from h1)] at p
    repeat walk_at "wj"
    refine e_lcX (fun k : Nat => D.int (0 + (k : Int))) (fun k => D.int (([0, 12, 12, 6, 0] : List Int).getD (drwAt c (1 + k) % 5).toNat 0)) (go_name (by decide)) gm_name ?_
    repeat walk_at "wj"
    refine ⟨List.range n, by rw [Int.toNat_natCast]; rfl, by rw [List.length_range]; omega, fun k hk => ?_, ?_⟩
    · have hk' := List.mem_range.mp hk
      rw [Int.zero_add]
      repeat walk_at "wj"
      refine r_tL (l := [0, 12, 12, 6, 0]) ⟨Int.emod_nonneg _ (by decide), Int.emod_lt_of_pos _ (by decide)⟩ ?_
      rw [show (1 + (k : Int)).toNat = 1 + k by omega]
      exact ⟨rfl, rfl⟩
    repeat walk_at "wj"
    have e : (List.range n).map (fun k => D.int (([0, 12, 12, 6, 0] : List Int).getD (drwAt c (1 + k) % 5).toNat 0)) = (val1 c n).map fun i => D.int i := by
      unfold val1
      rw [List.map_map]
      rfl
    rw [e]
    exact p
  rw [if_neg (show ¬ drwAt c 0 % 3 = 1 from h1)] at p
  have hf := fst2_ok (c := c) (n := n) (by omega)
  have hs := snd2_ok (c := c) (n := n) (by omega)
  repeat walk_at "wj"
  rw [show drwAt c (Int.toNat 1) % ((n : Int) - 1) = fst2 c n from rfl]
  repeat walk_at "wj"
  rw [show fst2 c n + 1 + drwAt c (Int.toNat 2) % ((n : Int) - 1 - fst2 c n) = snd2 c n from rfl]
  repeat walk_at "wj"
  refine e_lcXO (fun k : Nat => D.int (0 + (k : Int))) (fun k => D.int (if fst2 c n < (k : Int) ∧ (k : Int) < snd2 c n then 12 * (drwAt c 3 % 2) else 12 - 12 * (drwAt c 3 % 2))) (go_name (by decide)) gm_name ?_
  repeat walk_at "wj"
  refine ⟨List.range n, by rw [Int.toNat_natCast]; rfl, by rw [List.length_range]; omega, fun k hk => ?_, fun a => ?_⟩
  · have hk' := List.mem_range.mp hk
    rw [Int.zero_add]
    repeat walk_at "wj"
    by_cases h2 : fst2 c n < (k : Int)
    · refine sp_y h2 ?_
      repeat walk_at "wj"
      by_cases h3 : (k : Int) < snd2 c n
      · refine sp_y h3 ?_
        repeat walk_at "wj"
        rw [if_pos ⟨h2, h3⟩]
        exact ⟨rfl, rfl⟩
      · refine sp_n h3 ?_
        repeat walk_at "wj"
        rw [if_neg fun z => h3 z.2]
        exact ⟨rfl, rfl⟩
    · refine sp_n h2 ?_
      refine ⟨false, rfl, (fun z => nomatch z), fun _ => ?_⟩
      repeat walk_at "wj"
      rw [if_neg fun z => h2 z.1]
      exact ⟨rfl, rfl⟩
  have e : (List.range n).map (fun (k : Nat) => D.int (if fst2 c n < (k : Int) ∧ (k : Int) < snd2 c n then 12 * (drwAt c 3 % 2) else 12 - 12 * (drwAt c 3 % 2))) = (base2 c n).map fun i => D.int i := by
    unfold base2
    rw [List.map_map]
    rfl
  have hbl : (base2 c n).length = n := by simp [base2]
  rw [e]
  repeat walk_at "wj"
  rw [map_setI, map_setI]
  exact p
theorem ok_law_generators (T : Txt K mg L) : FnOk Pr w K mg base CX0 1 L.f_law_generators L.d_law_generators ["bands", "lamp"] (spP K 2 W_lgens) := by
  refine okP T.F_law_generators sc_law_generators rfl (fun cdv A outer s H E hr => ⟨_, (pss_one (ps_ret (pe_lc (own := [("k", 2)]) (g := gName 2) rfl sc_law_generators.nd (pi_range1 (by rfl) T.n_range (pa_cons (pe_callB (r := Evl.rLenS K) call_len_seq rfl T.n_len (by decide +kernel) (pa_cons (pv 0) pa_nil)) pa_nil)) (blkOk_by (own := [("k", 2)]) (N := N_law_generators) (sc := defScope s_law_generators) (by decide +kernel)) (fun _ _ _ _ _ => (pg_name (i := 2) sc_law_generators.nd rfl (by first | exact Or.inl rfl | exact Or.inr rfl))) (fun _ _ _ _ _ => pts_nil) (fun _ _ _ _ _ => (pe_callTy (r := rTupOf K) call_tuple_of rfl T.n_tuple (by decide +kernel) (pa_cons (pe_lc (own := [("part", 3)]) (wi := iTup K (tOp (rIxT K) (tVar 0) (tVar 2))) (g := gName 3) rfl sc_law_generators.nd (pi_tup (pe_ix (r := rIxT K) ix_tup (pv 0) (pv 2) (fun _ _ => rfl))) (blkOk_by (own := [("part", 3)]) (by first | decide +kernel | rfl)) (fun _ _ _ _ _ => (pg_name (i := 3) sc_law_generators.nd rfl (by first | exact Or.inl rfl | exact Or.inr rfl))) (fun _ _ _ _ _ => pts_nil) (fun _ _ _ _ _ => (pe_op op_mulW (pe_ix (r := rIxT K) ix_tup (pv 1) (pv 2) (fun _ _ => rfl)) (pv 3)))) pa_nil)))))), ?_⟩)
  walk_at "cl"
  rintro ds P hl ⟨bs, ls, rfl, ⟨h4, h7, hok⟩, ⟨hlen, hls⟩, p⟩
  refine s_rho (ρ' := [some _, some _, none, none]) rfl ?_
  repeat walk_at "wj"
  refine e_lcX (fun k : Nat => D.int (0 + (k : Int))) (fun k => tRow (mulI (ls.getD k 0) (gI bs k))) (go_name (by decide)) gm_name ?_
  repeat walk_at "wj"
  refine ⟨List.range bs.length, by rw [Int.toNat_natCast]; rfl, by rw [List.length_range]; omega, fun k hk => ?_, ?_⟩
  · have hk' := List.mem_range.mp hk
    have hl5 : 1 ≤ ls.getD (k : Int).toNat 0 ∧ ls.getD (k : Int).toNat 0 ≤ 5 := getD_all hls (by omega)
    obtain ⟨⟨x0, x1⟩, ⟨y0, y1⟩, z0, z1⟩ : okRow (gI bs (k : Int).toNat) := gI_ok hok (by omega)
    rw [Int.zero_add]
    repeat walk_at "wj"
    refine e_lcU (go_name (by decide)) gm_name ?_
    repeat walk_at "wj"
    rw [Int.toNat_natCast]
    exact ⟨rfl, rfl⟩
  repeat walk_at "wj"
  rw [gens_eq hlen]
  exact p
theorem ok_law_sum (T : Txt K mg L) : FnOk Pr w K mg base CX0 1 L.f_law_sum L.d_law_sum ["generators", "values"] (spP K 2 W_lsum) := by
  refine okP T.F_law_sum sc_law_sum rfl (fun cdv A outer s H E hr => ⟨_, (pss_one (ps_ret (pe_lc (own := [("x", 2)]) (g := gName 2) rfl sc_law_sum.nd (pi_range1 (by rfl) T.n_range (pa_cons pe_int pa_nil)) (blkOk_by (own := [("x", 2)]) (N := N_law_sum) (sc := defScope s_law_sum) (by decide +kernel)) (fun _ _ _ _ _ => (pg_name (i := 2) sc_law_sum.nd rfl (by first | exact Or.inl rfl | exact Or.inr rfl))) (fun _ _ _ _ _ => pts_nil) (fun _ _ _ _ _ => (pe_callB (r := rSum K) (cr_sum rfl) rfl T.n_sum (by decide +kernel) (pa_cons (pe_lc (own := [("k", 3)]) (wi := iRng1 (tCons (tCB (Evl.rLenS K) (tCons (tVar 1) tNil)) tNil)) (g := gName 3) rfl sc_law_sum.nd (pi_range1 (by rfl) T.n_range (pa_cons (pe_callB (r := Evl.rLenS K) call_len_seq rfl T.n_len (by decide +kernel) (pa_cons (pv 1) pa_nil)) pa_nil)) (blkOk_by (own := [("k", 3)]) (by first | decide +kernel | rfl)) (fun _ _ _ _ _ => (pg_name (i := 3) sc_law_sum.nd rfl (by first | exact Or.inl rfl | exact Or.inr rfl))) (fun _ _ _ _ _ => pts_nil) (fun _ _ _ _ _ => (pe_op op_mulW (pe_ix (r := rIxL K) ix_list (pv 1) (pv 3) (fun _ _ => rfl)) (pe_ix (r := rIxT K) ix_tup (pe_ix (r := rIxL K) ix_list (pv 0) (pv 3) (fun _ _ => rfl)) (pv 2) (fun _ _ => rfl))))) pa_nil)))))), ?_⟩)
  walk_at "cl"
  rintro ds P hl ⟨gs, vs, rfl, hlen, hg, hv, p⟩
  refine s_rho (ρ' := [some _, some _, none, none]) rfl ?_
  repeat walk_at "wj"
  refine e_lcU (go_name (by decide)) gm_name ?_
  repeat walk_at "wj"
  have hv' : ∀ k, k < gs.length → 0 ≤ vs.getD k 0 ∧ vs.getD k 0 ≤ 12 := fun k hk => getD_all hv (by omega)
  have hg' := fun k => gI_sm hg (k := k)
  have h7 := hg.1
  have step : ∀ k, k ∈ List.range vs.length → (0 ≤ vs.getD (k : Int).toNat 0 ∧ vs.getD (k : Int).toNat 0 ≤ 12) ∧ k < vs.length ∧ (0 ≤ (gI gs (k : Int).toNat).x ∧ (gI gs (k : Int).toNat).x ≤ 500) ∧ (0 ≤ (gI gs (k : Int).toNat).y ∧ (gI gs (k : Int).toNat).y ≤ 500) ∧ (0 ≤ (gI gs (k : Int).toNat).z ∧ (gI gs (k : Int).toNat).z ≤ 500) := fun k hk => by
    have hk' := List.mem_range.mp hk
    rw [Int.toNat_natCast]
    exact ⟨hv' k (by omega), hk', hg' k (by omega)⟩
  refine e_lcX (fun k : Nat => D.int (0 + (k : Int))) (fun k => D.int (vs.getD k 0 * (gI gs k).x)) (go_name (by decide)) gm_name ?_
  repeat walk_at "wj"
  refine ⟨List.range vs.length, by rw [Int.toNat_natCast]; rfl, by rw [List.length_range]; omega, fun k hk => ?_, ?_⟩
  · obtain ⟨b1, b2, b3, b4, b5⟩ := step k hk
    rw [Int.zero_add]
    repeat walk_at "wj"
    exact ⟨rfl, rfl⟩
  repeat walk_at "wj"
  refine e_lcX (fun k : Nat => D.int (0 + (k : Int))) (fun k => D.int (vs.getD k 0 * (gI gs k).y)) (go_name (by decide)) gm_name ?_
  repeat walk_at "wj"
  refine ⟨List.range vs.length, by rw [Int.toNat_natCast]; rfl, by rw [List.length_range]; omega, fun k hk => ?_, ?_⟩
  · obtain ⟨b1, b2, b3, b4, b5⟩ := step k hk
    rw [Int.zero_add]
    repeat walk_at "wj"
    exact ⟨rfl, rfl⟩
  repeat walk_at "wj"
  refine e_lcX (fun k : Nat => D.int (0 + (k : Int))) (fun k => D.int (vs.getD k 0 * (gI gs k).z)) (go_name (by decide)) gm_name ?_
  repeat walk_at "wj"
  refine ⟨List.range vs.length, by rw [Int.toNat_natCast]; rfl, by rw [List.length_range]; omega, fun k hk => ?_, ?_⟩
  · obtain ⟨b1, b2, b3, b4, b5⟩ := step k hk
    rw [Int.zero_add]
    repeat walk_at "wj"
    exact ⟨rfl, rfl⟩
  repeat walk_at "wj"
  rw [hlen]
  exact p
theorem ok_law_colored (T : Txt K mg L) : FnOk Pr w K mg base CX0 2 L.f_law_colored L.d_law_colored ["cell", "generators", "values"] (spP K 3 W_lcolored) := by
  refine okP T.F_law_colored sc_law_colored rfl (fun cdv A outer s H E hr => ⟨_, (pss_cons (ps_set (i := 3) sc_law_colored.nd rfl (by first | exact Or.inl rfl | exact Or.inr rfl) (pe_call (ok_law_draws T) (hr.mono (by decide)) (by rfl) T.m_law_draws T.F_law_draws.kp T.b_law_draws .nil pass0 (pa_cons (pv 0) (pa_cons pe_int pa_nil))))
    (pss_cons (ps_set (i := 4) sc_law_colored.nd rfl (by first | exact Or.inl rfl | exact Or.inr rfl) (pe_call (ok_law_sum T) (hr.mono (by decide)) (by rfl) T.m_law_sum T.F_law_sum.kp T.b_law_sum .nil pass0 (pa_cons (pv 1) (pa_cons (pv 2) pa_nil))))
    (pss_cons (ps_if (pt_cmpR op_eq (pe_op op_mod (pe_ix (r := rIxL K) ix_list (pv 3) pe_int (fun _ _ => rfl)) pe_int) pe_int (nomark _)) (pss_one (ps_ret (pv 4))) pss_nil)
    (pss_cons (ps_if (pt_cmpR op_eq (pe_op op_mod (pe_ix (r := rIxL K) ix_list (pv 3) pe_int (fun _ _ => rfl)) pe_int) pe_int (nomark _)) (pss_one (ps_ret (pe_lc (own := [("part", 5)]) (g := gName 5) rfl sc_law_colored.nd (pi_list (pv 4)) (blkOk_by (own := [("part", 5)]) (N := N_law_colored) (sc := defScope s_law_colored) (by decide +kernel)) (fun _ _ _ _ _ => (pg_name (i := 5) sc_law_colored.nd rfl (by first | exact Or.inl rfl | exact Or.inr rfl))) (fun _ _ _ _ _ => pts_nil) (fun _ _ _ _ _ => (pe_op op_fdivG (pe_op op_mulW (pv 5) (pe_op op_add (pe_op op_mod (pe_ix (r := rIxL K) ix_list (pv 3) pe_int (fun _ _ => rfl)) pe_int) pe_int)) pe_int))))) pss_nil)
    (pss_cons (ps_if (pt_cmpR op_eq (pe_op op_mod (pe_ix (r := rIxL K) ix_list (pv 3) pe_int (fun _ _ => rfl)) pe_int) pe_int (nomark _)) (pss_one (ps_ret (pe_lc (own := [("x", 6)]) (g := gName 6) rfl sc_law_colored.nd (pi_range1 (by rfl) T.n_range (pa_cons pe_int pa_nil)) (blkOk_by (own := [("x", 6)]) (N := N_law_colored) (sc := defScope s_law_colored) (by decide +kernel)) (fun _ _ _ _ _ => (pg_name (i := 6) sc_law_colored.nd rfl (by first | exact Or.inl rfl | exact Or.inr rfl))) (fun _ _ _ _ _ => pts_nil) (fun _ _ _ _ _ => (pe_op op_sub (pe_op op_add (pe_ix (r := rIxL K) ix_list (pv 4) (pv 6) (fun _ _ => rfl)) (pe_op op_mod (pe_ix (r := rIxL K) ix_list (pv 3) (pe_op op_add pe_int (pv 6)) (fun _ _ => rfl)) pe_int)) pe_int))))) pss_nil)
    (pss_one (ps_ret (pe_lc (own := [("x", 6)]) (g := gName 6) rfl sc_law_colored.nd (pi_range1 (by rfl) T.n_range (pa_cons pe_int pa_nil)) (blkOk_by (own := [("x", 6)]) (N := N_law_colored) (sc := defScope s_law_colored) (by decide +kernel)) (fun _ _ _ _ _ => (pg_name (i := 6) sc_law_colored.nd rfl (by first | exact Or.inl rfl | exact Or.inr rfl))) (fun _ _ _ _ _ => pts_nil) (fun _ _ _ _ _ => (pe_op op_sub (pe_op op_mod (pe_ix (r := rIxL K) ix_list (pv 3) (pe_op op_add pe_int (pv 6)) (fun _ _ => rfl)) pe_int) pe_int)))))))))), ?_⟩)
  walk_at "cl"
  rintro ds P hl ⟨c, gs, vs, rfl, hlen, hg, hv, p⟩
  refine s_rho (ρ' := [some _, some _, some _, none, none, none, none]) rfl ?_
  repeat walk_at "wk"
  obtain ⟨⟨x0, x1⟩, ⟨y0, y1⟩, z0, z1⟩ := sumI_bound hlen hg hv
  generalize sumI gs vs = r at x0 x1 y0 y1 z0 z1
  have hd : ∀ k, 0 ≤ drwAt c k := drwAt_nn c
  refine sp_d (fun h0 => ?_) (fun h0 => ?_)
  · repeat walk_at "wk"
    exact p r ⟨by omega, by omega, by omega⟩
  repeat walk_at "wk"
  refine sp_d (fun h1 => ?_) (fun h1 => ?_)
  · have d1 := hd (Int.toNat 1)
    have m1 : ∀ x : Int, 0 ≤ x → x ≤ 42000 → 0 ≤ x * (drwAt c (Int.toNat 1) % 5 + 1) ∧ x * (drwAt c (Int.toNat 1) % 5 + 1) ≤ 210000 := fun x hx0 hx1 => by
      have q1 : x * (drwAt c (Int.toNat 1) % 5 + 1) ≤ 42000 * 5 := Int.mul_le_mul hx1 (by omega) (by omega) (by decide)
      have q2 : 0 ≤ x * (drwAt c (Int.toNat 1) % 5 + 1) := Int.mul_nonneg hx0 (by omega)
      omega
    have mx := m1 r.x x0 x1
    have my := m1 r.y y0 y1
    have mz := m1 r.z z0 z1
    repeat walk_at "wk"
    refine e_lcU (go_name (by decide)) gm_name ?_
    repeat walk_at "wk"
    have bd : ∀ x : Int, 0 ≤ x ∧ x ≤ 210000 → (x / 2).natAbs < 2 ^ 18 := fun x hx => by omega
    exact p ⟨_, _, _⟩ ⟨bd _ mx, bd _ my, bd _ mz⟩
  repeat walk_at "wk"
  refine sp_d (fun h2 => ?_) (fun h2 => ?_)
  · repeat walk_at "wk"
    refine e_lcU (go_name (by decide)) gm_name ?_
    repeat walk_at "wk"
    have bd : ∀ x y : Int, 0 ≤ x → x ≤ 42000 → 0 ≤ y → (x + y % 25 - 12).natAbs < 2 ^ 18 := fun x y h1 h2 h3 => by omega
    exact p ⟨_, _, _⟩ ⟨bd _ _ x0 x1 (hd _), bd _ _ y0 y1 (hd _), bd _ _ z0 z1 (hd _)⟩
  repeat walk_at "wk"
  refine e_lcU (go_name (by decide)) gm_name ?_
  repeat walk_at "wk"
  have bd : ∀ y : Int, 0 ≤ y → (y % 201 - 30).natAbs < 2 ^ 18 := fun y h3 => by omega
  exact p ⟨_, _, _⟩ ⟨bd _ (hd _), bd _ (hd _), bd _ (hd _)⟩
theorem ok_law_quotients (T : Txt K mg L) : FnOk Pr w K mg base CX0 3 L.f_law_quotients L.d_law_quotients ["values"] (spP K 1 (W_lquots L.C_Quotient)) := by
  refine okP T.F_law_quotients sc_law_quotients rfl (fun cdv A outer s H E hr => ⟨_, (pss_one (ps_ret (pe_callTy (r := rTupOf K) call_tuple_of rfl T.n_tuple (by decide +kernel) (pa_cons (pe_lc (own := [("value", 1)]) (g := gName 1) rfl sc_law_quotients.nd (pi_list (pv 0)) (blkOk_by (own := [("value", 1)]) (N := N_law_quotients) (sc := defScope s_law_quotients) (by decide +kernel)) (fun _ _ _ _ _ => (pg_name (i := 1) sc_law_quotients.nd rfl (by first | exact Or.inl rfl | exact Or.inr rfl))) (fun _ _ _ _ _ => pts_nil) (fun _ _ _ _ _ => (pe_make T.mk_Quotient (ok_Quotient_init T) (hr.mono (by decide)) (by rfl) T.mg_Quotient T.b_Quotient_init .nil passL (pa_cons (pv 1) (pa_cons pe_int pa_nil))))) pa_nil)))), ?_⟩)
  walk_at "cl"
  rintro ds P hl ⟨vs, rfl, h100, p⟩
  refine s_rho (ρ' := [some _, none]) rfl ?_
  repeat walk_at "wj"
  refine e_lcX (fun v : Int => D.int v) (fun v => dQ L.C_Quotient (Rat.divInt v 12)) (go_name (by decide)) gm_name ?_
  repeat walk_at "wj"
  refine ⟨vs, rfl, by omega, fun v hv => ?_, ?_⟩
  · repeat walk_at "wj"
    exact ⟨rfl, rfl⟩
  repeat walk_at "wj"
  exact p
theorem ok_law_scene (T : Txt K mg L) : FnOk Pr w K mg base CX0 8 L.f_law_scene L.d_law_scene ["script"] (spP K 1 (W_scene L.C_View L.C_Observer L.C_Quotient)) := by
  refine okP T.F_law_scene sc_law_scene rfl (fun cdv A outer s H E hr => ⟨_, (pss_cons (ps_set (i := 1) sc_law_scene.nd rfl (by first | exact Or.inl rfl | exact Or.inr rfl) (pe_call (ok_law_bands T) (hr.mono (by decide)) (by rfl) T.m_law_bands T.F_law_bands.kp T.b_law_bands .nil pass0 (pa_cons (pe_callTy (r := rInt1) call_int1 rfl T.n_int (by decide +kernel) (pa_cons (pe_call (ok_law_cell T) (hr.mono (by decide)) (by rfl) T.m_law_cell T.F_law_cell.kp T.b_law_cell .nil pass0 (pa_cons (pv 0) (pa_cons pe_int pa_nil))) pa_nil)) pa_nil)))
    (pss_cons (ps_set (i := 2) sc_law_scene.nd rfl (by first | exact Or.inl rfl | exact Or.inr rfl) (pe_call (ok_law_lamp T) (hr.mono (by decide)) (by rfl) T.m_law_lamp T.F_law_lamp.kp T.b_law_lamp .nil pass0 (pa_cons (pe_callTy (r := rInt1) call_int1 rfl T.n_int (by decide +kernel) (pa_cons (pe_call (ok_law_cell T) (hr.mono (by decide)) (by rfl) T.m_law_cell T.F_law_cell.kp T.b_law_cell .nil pass0 (pa_cons (pv 0) (pa_cons pe_int pa_nil))) pa_nil)) (pa_cons (pe_callB (r := Evl.rLenS K) call_len_seq rfl T.n_len (by decide +kernel) (pa_cons (pv 1) pa_nil)) pa_nil))))
    (pss_cons (ps_set (i := 3) sc_law_scene.nd rfl (by first | exact Or.inl rfl | exact Or.inr rfl) (pe_call (ok_law_values T) (hr.mono (by decide)) (by rfl) T.m_law_values T.F_law_values.kp T.b_law_values .nil pass0 (pa_cons (pe_callTy (r := rInt1) call_int1 rfl T.n_int (by decide +kernel) (pa_cons (pe_call (ok_law_cell T) (hr.mono (by decide)) (by rfl) T.m_law_cell T.F_law_cell.kp T.b_law_cell .nil pass0 (pa_cons (pv 0) (pa_cons pe_int pa_nil))) pa_nil)) (pa_cons (pe_callB (r := Evl.rLenS K) call_len_seq rfl T.n_len (by decide +kernel) (pa_cons (pv 1) pa_nil)) pa_nil))))
    (pss_cons (ps_set (i := 4) sc_law_scene.nd rfl (by first | exact Or.inl rfl | exact Or.inr rfl) (pe_call (ok_law_generators T) (hr.mono (by decide)) (by rfl) T.m_law_generators T.F_law_generators.kp T.b_law_generators .nil pass0 (pa_cons (pv 1) (pa_cons (pv 2) pa_nil))))
    (pss_cons (ps_set (i := 5) sc_law_scene.nd rfl (by first | exact Or.inl rfl | exact Or.inr rfl) (pe_call (ok_law_colored T) (hr.mono (by decide)) (by rfl) T.m_law_colored T.F_law_colored.kp T.b_law_colored .nil pass0 (pa_cons (pe_callTy (r := rInt1) call_int1 rfl T.n_int (by decide +kernel) (pa_cons (pe_call (ok_law_cell T) (hr.mono (by decide)) (by rfl) T.m_law_cell T.F_law_cell.kp T.b_law_cell .nil pass0 (pa_cons (pv 0) (pa_cons pe_int pa_nil))) pa_nil)) (pa_cons (pv 4) (pa_cons (pv 3) pa_nil)))))
    (pss_one (ps_ret (pe_tup (pa_cons (pe_make T.mk_View (ok_View_init T) (hr.mono (by decide)) (by rfl) T.mg_View T.b_View_init .nil passL (pa_cons (pe_make T.mk_Observer (ok_Observer_init T) (hr.mono (by decide)) (by rfl) T.mg_Observer T.b_Observer_init .nil passL (pa_cons (pv 1) pa_nil)) (pa_cons (pv 2) pa_nil))) (pa_cons (pv 4) (pa_cons (pv 3) (pa_cons (pv 5) pa_nil)))))))))))), ?_⟩)
  walk_at "cl"
  rintro ds P hl ⟨ns, rfl, p⟩
  refine s_rho (ρ' := [some _, none, none, none, none, none]) rfl ?_
  repeat walk_at "wj"
  intro bs hok hreg
  have h4 := hok.1
  have h7 := hok.2.1
  repeat walk_at "wj"
  have hlm := lamp_ok (cell ns 1) (n := bs.length)
  have hl5 : okLamp5 bs (lampF (cell ns 1) bs.length) := ⟨hlm.1, hlm.2⟩
  generalize lampF (cell ns 1) bs.length = ls at hl5
  repeat walk_at "wj"
  have hvs := vals_ok (cell ns 2) (n := bs.length)
  generalize valsF (cell ns 2) bs.length = vs at hvs
  repeat walk_at "wj"
  have hgs := gens_small hok hl5
  have hgl : vs.length = (gens bs ls).length := by rw [gens_len hl5.1]; exact hvs.1
  refine ⟨_, _, _, rfl, hgl, hgs, hvs.2, fun r hr => ?_⟩
  repeat walk_at "wj"
  refine ⟨bs, rfl, hok, hreg, ?_⟩
  repeat walk_at "wj"
  refine ⟨bs, ls, rfl, hok, hl5.lamp, ?_⟩
  repeat walk_at "wj"
  exact p bs ls vs r hok hreg hl5 hvs.1 hvs.2 hr
theorem ok_Quotient_eqS (T : Txt K mg L) : FnOk Pr w K mg base CX0 1 L.f_Quotient_eq L.d_Quotient_eq ["self", "other"] (spP K 2 (W_eqS L.C_Quotient)) := by
  refine okP T.F_Quotient_eq sc_Quotient_eq rfl (fun cdv A outer s H E hr => ⟨_, (pss_one (ps_ret (pe_and (pe_callB (r := rIsi K) call_isi rfl T.n_isinstance (by decide +kernel) (pa_cons (pv 1) (pa_cons (pe_glob (v := .ref L.C_Quotient) (by rfl) T.mg_Quotient rfl) pa_nil))) (pe_and (pe_cmpR op_eq (pe_fld (pv 0) rfl) (pe_fld (pv 1) rfl) (nomark _)) (pe_one (pe_cmpR op_eq (pe_fld (pv 0) rfl) (pe_fld (pv 1) rfl) (nomark _))))))), ?_⟩)
  walk_at "cl"
  rintro ds P hl ⟨q, t, rfl, hq, p⟩
  refine s_rho (ρ' := [some _, some _]) rfl ?_
  repeat walk_at "wk"
  refine c_isi (.str _) (.own _) T.kit_str_Quotient ?_
  exact zb_f p
theorem c_isTup {O : Store} {P : D → Store → Prop} {d : D} (T : Txt K mg L) (h : Thg L.C_Quotient d) (p1 : ∀ ds, d = .tup ds → P (.bl true) O) (p2 : (∀ ds, d ≠ .tup ds) → P (.bl false) O) : wC K (rIsi K) [d, .raw (.ty "tuple")] O P := by
  cases h with
  | int i => exact c_isi (.int _) (.ty _) T.kit_int_tuple (p2 fun ds z => nomatch z)
  | str s => exact c_isi (.str _) (.ty _) T.kit_str_tuple (p2 fun ds z => nomatch z)
  | non => exact c_isi .non (.ty _) T.kit_NoneType_tuple (p2 fun ds z => nomatch z)
  | tup ds h => exact c_isi (.tup _) (.ty _) T.kit_tuple_tuple (p1 ds rfl)
  | lst ds => exact c_isi (.lst _) (.ty _) T.kit_list_tuple (p2 fun ds z => nomatch z)
  | dct => exact c_isi .dct (.ty _) T.kit_dict_tuple (p2 fun ds z => nomatch z)
  | quo q hb => exact c_isi (.ins _ _ T.k_Quotient) (.ty _) T.kit_Quotient_tuple (p2 fun ds z => nomatch z)
theorem c_isQuo {O : Store} {P : D → Store → Prop} {d : D} (T : Txt K mg L) (h : Thg L.C_Quotient d) (p : P (.bl (qOf d).isSome) O) : wC K (rIsi K) [d, .raw (.ref L.C_Quotient)] O P := by
  cases h with
  | int i => exact c_isi (.int _) (.own _) T.kit_int_Quotient p
  | str s => exact c_isi (.str _) (.own _) T.kit_str_Quotient p
  | non => exact c_isi .non (.own _) T.kit_NoneType_Quotient p
  | tup ds h => exact c_isi (.tup _) (.own _) T.kit_tuple_Quotient p
  | lst ds => exact c_isi (.lst _) (.own _) T.kit_list_Quotient p
  | dct => exact c_isi .dct (.own _) T.kit_dict_Quotient p
  | quo q hb =>
    rw [qOf_dQ] at p
    exact c_isi (.ins _ _ T.k_Quotient) (.own _) T.kit_Quotient_Quotient p
theorem c_isInt {O : Store} {P : D → Store → Prop} {d : D} (T : Txt K mg L) (h : Thg L.C_Quotient d) (p1 : ∀ v, d = .int v → P (.bl true) O) (p2 : (∀ v, d ≠ .int v) → P (.bl false) O) : wC K (rIsi K) [d, .raw (.ty "int")] O P := by
  cases h with
  | int i => exact c_isi (.int _) (.ty _) T.kit_int_int (p1 i rfl)
  | str s => exact c_isi (.str _) (.ty _) T.kit_str_int (p2 fun ds z => nomatch z)
  | non => exact c_isi .non (.ty _) T.kit_NoneType_int (p2 fun ds z => nomatch z)
  | tup ds h => exact c_isi (.tup _) (.ty _) T.kit_tuple_int (p2 fun ds z => nomatch z)
  | lst ds => exact c_isi (.lst _) (.ty _) T.kit_list_int (p2 fun ds z => nomatch z)
  | dct => exact c_isi .dct (.ty _) T.kit_dict_int (p2 fun ds z => nomatch z)
  | quo q hb => exact c_isi (.ins _ _ T.k_Quotient) (.ty _) T.kit_Quotient_int (p2 fun ds z => nomatch z)
theorem c_isStr {O : Store} {P : D → Store → Prop} {d : D} (T : Txt K mg L) (h : Thg L.C_Quotient d) (p1 : ∀ s, d = .raw (.str s) → P (.bl true) O) (p2 : (∀ s, d ≠ .raw (.str s)) → P (.bl false) O) : wC K (rIsi K) [d, .raw (.ty "str")] O P := by
  cases h with
  | int i => exact c_isi (.int _) (.ty _) T.kit_int_str (p2 fun ds z => nomatch z)
  | str s => exact c_isi (.str _) (.ty _) T.kit_str_str (p1 s rfl)
  | non => exact c_isi .non (.ty _) T.kit_NoneType_str (p2 fun ds z => nomatch z)
  | tup ds h => exact c_isi (.tup _) (.ty _) T.kit_tuple_str (p2 fun ds z => nomatch z)
  | lst ds => exact c_isi (.lst _) (.ty _) T.kit_list_str (p2 fun ds z => nomatch z)
  | dct => exact c_isi .dct (.ty _) T.kit_dict_str (p2 fun ds z => nomatch z)
  | quo q hb => exact c_isi (.ins _ _ T.k_Quotient) (.ty _) T.kit_Quotient_str (p2 fun ds z => nomatch z)
theorem ok_is_quotient (T : Txt K mg L) : FnOk Pr w K mg base CX0 1 L.f_is_quotient L.d_is_quotient ["value"] (spP K 1 (W_isqG L.C_Quotient)) := by
  refine okP T.F_is_quotient sc_is_quotient rfl (fun cdv A outer s H E hr => ⟨_, (pss_one (ps_ret (pe_callB (r := rIsi K) call_isi rfl T.n_isinstance (by decide +kernel) (pa_cons (pv 0) (pa_cons (pe_glob (v := .ref L.C_Quotient) (by rfl) T.mg_Quotient rfl) pa_nil))))), ?_⟩)
  walk_at "cl"
  rintro ds P hl ⟨d, rfl, hd, p⟩
  refine s_rho (ρ' := [some _]) rfl ?_
  repeat walk_at "wk"
  exact c_isQuo T hd p
theorem ok_is_share (T : Txt K mg L) : FnOk Pr w K mg base CX0 5 L.f_is_share L.d_is_share ["value"] (spP K 1 (W_shareG L.C_Quotient)) := by
  refine okP T.F_is_share sc_is_share rfl (fun cdv A outer s H E hr => ⟨_, (pss_one (ps_ret (pe_and (pe_call (ok_is_quotient T) (hr.mono (by decide)) (by rfl) T.m_is_quotient T.F_is_quotient.kp T.b_is_quotient .nil pass0 (pa_cons (pv 0) pa_nil)) (pe_and (pe_cmpR (op_cmpOwn (op := .LtE) (ok_Quotient_le T) (hr.mono (by decide)) T.b_Quotient_le pass0 T.fi_Quotient_le T.fn_Quotient_le (fun _ _ => rfl)) (pe_call0 (ok_zero T) (hr.mono (by decide)) (by rfl) T.m_zero T.F_zero.kp T.b_zero .nil pass0) (pv 0) (nomark _)) (pe_one (pe_cmpR (op_cmpOwn (op := .LtE) (ok_Quotient_le T) (hr.mono (by decide)) T.b_Quotient_le pass0 T.fi_Quotient_le T.fn_Quotient_le (fun _ _ => rfl)) (pv 0) (pe_call0 (ok_one T) (hr.mono (by decide)) (by rfl) T.m_one T.F_one.kp T.b_one .nil pass0) (nomark _))))))), ?_⟩)
  walk_at "cl"
  rintro ds P hl ⟨d, rfl, hd, p⟩
  refine s_rho (ρ' := [some _]) rfl ?_
  repeat walk_at "wk"
  refine ⟨d, rfl, hd, ?_⟩
  cases hq : qOf d with
  | none =>
    unfold shareF at p
    rw [hq] at p
    refine zb_f ?_
    exact p
  | some q =>
    obtain ⟨q', rfl, hb⟩ : ∃ q', d = dQ L.C_Quotient q' ∧ bits q' 600 := by
      cases hd with
      | quo q' hb => exact ⟨q', rfl, hb⟩
      | int i => cases hq
      | str s => cases hq
      | non => cases hq
      | tup ds h => cases hq
      | lst ds => cases hq
      | dct => cases hq
    unfold shareF at p
    rw [qOf_dQ] at p
    have p : P (.bl (decide (0 ≤ q') && decide (q' ≤ 1))) := p
    refine zb_t ?_
    repeat walk_at "wk"
    by_cases h0 : 0 ≤ q'
    · refine sp_y h0 ?_
      repeat walk_at "wk"
      rw [decide_eq_true h0] at p
      exact p
    · refine sp_n h0 ?_
      rw [decide_eq_false h0] at p
      exact p
theorem ok_is_numberG (T : Txt K mg L) : FnOk Pr w K mg base CX0 1 L.f_is_number L.d_is_number ["value", "least", "most"] (spP K 3 (W_isNumG L.C_Quotient)) := by
  refine okP T.F_is_number sc_is_number rfl (fun cdv A outer s H E hr => ⟨_, (pss_one (ps_ret (pe_and (pe_callB (r := rIsi K) call_isi rfl T.n_isinstance (by decide +kernel) (pa_cons (pv 0) (pa_cons (pe_bltn (v := .ty "int") (by rfl) T.n_int (by decide +kernel) rfl) pa_nil))) (pe_and (pe_not (pe_callB (r := rIsi K) call_isi rfl T.n_isinstance (by decide +kernel) (pa_cons (pv 0) (pa_cons (pe_bltn (v := .ty "bool") (by rfl) T.n_bool (by decide +kernel) rfl) pa_nil)))) (pe_and (pe_cmpR op_le (pv 1) (pv 0) (nomark _)) (pe_one (pe_cmpR op_le (pv 0) (pv 2) (nomark _)))))))), ?_⟩)
  walk_at "cl"
  rintro ds P hl ⟨d, a, b, rfl, hd, p⟩
  refine s_rho (ρ' := [some _, some _, some _]) rfl ?_
  repeat walk_at "wk"
  refine c_isInt T hd (fun v hv => ?_) (fun hn => ?_)
  · subst hv
    refine zb_t ?_
    repeat walk_at "wk"
    refine c_isi (.int _) (.ty _) T.kit_int_bool ⟨_, rfl, ?_⟩
    refine sb_t ?_
    repeat walk_at "wk"
    unfold numF at p
    by_cases h : a ≤ v
    · refine sp_y h ?_
      repeat walk_at "wk"
      simp only [decide_eq_true h, Bool.true_and] at p
      exact p
    · refine sp_n h ?_
      simp only [decide_eq_false h, Bool.false_and] at p
      exact p
  · have e : numF d a b = false := by
      unfold numF
      split
      · rename_i v
        exact absurd rfl (hn v)
      · rfl
    rw [e] at p
    exact zb_f p
theorem ok_is_reflectance (T : Txt K mg L) : FnOk Pr w K mg base CX0 6 L.f_is_reflectance L.d_is_reflectance ["view", "value"] (spP K 2 (W_isReflG L.C_View L.C_Observer L.C_Quotient)) := by
  refine okP T.F_is_reflectance sc_is_reflectance rfl (fun cdv A outer s H E hr => ⟨_, (pss_one (ps_ret (pe_and (pe_callB (r := rIsi K) call_isi rfl T.n_isinstance (by decide +kernel) (pa_cons (pv 1) (pa_cons (pe_bltn (v := .ty "tuple") (by rfl) T.n_tuple (by decide +kernel) rfl) pa_nil))) (pe_and (pe_cmpR op_eq (pe_callB (r := Evl.rLenS K) call_len_seq rfl T.n_len (by decide +kernel) (pa_cons (pv 1) pa_nil)) (pe_callB (call_lenO (ok_View_len T) (hr.mono (by decide)) T.b_View_len T.fi_View_len T.fn_View_len) rfl T.n_len (by decide +kernel) (pa_cons (pv 0) pa_nil)) (nomark _)) (pe_one (pe_callB (r := rAll K) (cr_all rfl) rfl T.n_all (by decide +kernel) (pa_cons (pe_lc (own := [("part", 2)]) (g := gName 2) rfl sc_is_reflectance.nd (pi_tup (pv 1)) (blkOk_by (own := [("part", 2)]) (N := N_is_reflectance) (sc := defScope s_is_reflectance) (by decide +kernel)) (fun _ _ _ _ _ => (pg_name (i := 2) sc_is_reflectance.nd rfl (by first | exact Or.inl rfl | exact Or.inr rfl))) (fun _ _ _ _ _ => pts_nil) (fun _ _ _ _ _ => (pe_call (ok_is_share T) (hr.mono (by decide)) (by rfl) T.m_is_share T.F_is_share.kp T.b_is_share .nil pass0 (pa_cons (pv 2) pa_nil)))) pa_nil))))))), ?_⟩)
  walk_at "cl"
  rintro ds P hl ⟨bs, ls, d, rfl, hb, hL, hd, p⟩
  have h7 := hb.2.1
  have hll := hL.1
  refine s_rho (ρ' := [some _, some _, none]) rfl ?_
  repeat walk_at "wk"
  refine c_isTup T hd (fun ds hds => ?_) (fun hn => ?_)
  rotate_left
  · have e : reflF bs.length d = false := by
      unfold reflF
      split
      · rename_i v
        exact absurd rfl (hn v)
      · rfl
    rw [e] at p
    exact zb_f p
  subst hds
  refine zb_t ?_
  repeat walk_at "wk"
  refine c_lenOI ⟨bs, ls, rfl, _, rfl, by omega, by omega, ?_⟩
  repeat walk_at "wk"
  unfold reflF at p
  by_cases hlen : ds.length = bs.length
  · refine sp_y (by omega) ?_
    repeat walk_at "wk"
    simp only [decide_eq_true hlen, Bool.true_and] at p
    refine e_lcX (fun d => d) (fun d => D.bl (shareF d)) (go_name (by decide)) gm_name ?_
    repeat walk_at "wk"
    refine ⟨ds, by rw [List.map_id'], by omega, fun d hd' => ?_, ?_⟩
    · repeat walk_at "wk"
      exact ⟨d, rfl, hd.mem hd', rfl, rfl⟩
    repeat walk_at "wk"
    refine c_allM ?_
    repeat walk_at "wk"
    exact p
  · refine sp_n (by omega) ?_
    simp only [decide_eq_false hlen, Bool.false_and] at p
    exact p
theorem ok_is_word (T : Txt K mg L) : FnOk Pr w K mg base CX0 1 L.f_is_word L.d_is_word ["value", "words"] (spP K 2 (W_isWordG L.C_Quotient)) := by
  refine okP T.F_is_word sc_is_word rfl (fun cdv A outer s H E hr => ⟨_, (pss_one (ps_ret (pe_and (pe_callB (r := rIsi K) call_isi rfl T.n_isinstance (by decide +kernel) (pa_cons (pv 0) (pa_cons (pe_bltn (v := .ty "str") (by rfl) T.n_str (by decide +kernel) rfl) pa_nil))) (pe_one (pe_cmpR op_in_seq (pv 0) (pv 1) (by rfl)))))), ?_⟩)
  walk_at "cl"
  rintro ds P hl ⟨d, ws, rfl, hd, hw, p⟩
  refine s_rho (ρ' := [some _, some _]) rfl ?_
  repeat walk_at "wk"
  refine c_isStr T hd (fun s hs => ?_) (fun hn => ?_)
  · subst hs
    refine zb_t ?_
    repeat walk_at "wk"
    exact r_inW p
  · have e : wordF d ws = false := by
      unfold wordF
      split
      · rename_i v
        exact absurd rfl (hn v)
      · rfl
    rw [e] at p
    exact zb_f p
theorem ok_has_form (T : Txt K mg L) : FnOk Pr w K mg base CX0 2 L.f_has_form L.d_has_form ["paper", "word", "length"] (spP K 3 (W_formG L.C_Quotient)) := by
  refine okP T.F_has_form sc_has_form rfl (fun cdv A outer s H E hr => ⟨_, (pss_one (ps_ret (pe_and (pe_callB (r := rIsi K) call_isi rfl T.n_isinstance (by decide +kernel) (pa_cons (pv 0) (pa_cons (pe_bltn (v := .ty "tuple") (by rfl) T.n_tuple (by decide +kernel) rfl) pa_nil))) (pe_and (pe_cmpR op_eq (pe_callB (r := Evl.rLenS K) call_len_seq rfl T.n_len (by decide +kernel) (pa_cons (pv 0) pa_nil)) (pv 2) (nomark _)) (pe_one (pe_call (ok_is_word T) (hr.mono (by decide)) (by rfl) T.m_is_word T.F_is_word.kp T.b_is_word .nil pass0 (pa_cons (pe_ix (r := rIx K) ix_seq (pv 0) pe_int (fun _ _ => rfl)) (pa_cons (pe_tup (pa_cons (pv 1) pa_nil)) pa_nil)))))))), ?_⟩)
  walk_at "cl"
  rintro ds P hl ⟨d, w, n, rfl, hd, hn1, p⟩
  refine s_rho (ρ' := [some _, some _, some _]) rfl ?_
  repeat walk_at "wk"
  refine c_isTup T hd (fun ds hds => ?_) (fun hn => ?_)
  rotate_left
  · have e : formF d w n = false := by
      unfold formF
      split
      · rename_i v
        exact absurd rfl (hn v)
      · rfl
    rw [e] at p
    exact zb_f p
  subst hds
  refine zb_t ?_
  repeat walk_at "wk"
  unfold formF at p
  by_cases hlen : ds.length = n
  · refine sp_y (by omega) ?_
    repeat walk_at "wk"
    simp only [decide_eq_true hlen, Bool.true_and] at p
    obtain ⟨x, hx⟩ : ∃ x, ds[0]? = some x := ⟨_, List.getElem?_eq_getElem (by omega)⟩
    have a0 : atI ds 0 = some x := by rw [atI_nat' (by decide) (by omega)]; exact hx
    have e0 : ds.getD 0 .non = x := by rw [List.getD_eq_getElem?_getD, hx]; rfl
    rw [e0] at p
    refine r_ixOr2 (r_ixT a0 ?_)
    repeat walk_at "wk"
    exact ⟨x, [w], rfl, hd.item hx, by show 1 ≤ 10; decide, p⟩
  · refine sp_n (by omega) ?_
    simp only [decide_eq_false hlen, Bool.false_and] at p
    exact p
theorem ok_is_reflectanceOG (T : Txt K mg L) : FnOk Pr w K mg base CX0 6 L.f_is_reflectance L.d_is_reflectance ["view", "value"] (spP K 2 (W_isReflOG L.C_Observer L.C_Quotient)) := by
  refine okP T.F_is_reflectance sc_is_reflectance rfl (fun cdv A outer s H E hr => ⟨_, (pss_one (ps_ret (pe_and (pe_callB (r := rIsi K) call_isi rfl T.n_isinstance (by decide +kernel) (pa_cons (pv 1) (pa_cons (pe_bltn (v := .ty "tuple") (by rfl) T.n_tuple (by decide +kernel) rfl) pa_nil))) (pe_and (pe_cmpR op_eq (pe_callB (r := Evl.rLenS K) call_len_seq rfl T.n_len (by decide +kernel) (pa_cons (pv 1) pa_nil)) (pe_callB (call_lenO (ok_Observer_len T) (hr.mono (by decide)) T.b_Observer_len T.fi_Observer_len T.fn_Observer_len) rfl T.n_len (by decide +kernel) (pa_cons (pv 0) pa_nil)) (nomark _)) (pe_one (pe_callB (r := rAll K) (cr_all rfl) rfl T.n_all (by decide +kernel) (pa_cons (pe_lc (own := [("part", 2)]) (g := gName 2) rfl sc_is_reflectance.nd (pi_tup (pv 1)) (blkOk_by (own := [("part", 2)]) (N := N_is_reflectance) (sc := defScope s_is_reflectance) (by decide +kernel)) (fun _ _ _ _ _ => (pg_name (i := 2) sc_is_reflectance.nd rfl (by first | exact Or.inl rfl | exact Or.inr rfl))) (fun _ _ _ _ _ => pts_nil) (fun _ _ _ _ _ => (pe_call (ok_is_share T) (hr.mono (by decide)) (by rfl) T.m_is_share T.F_is_share.kp T.b_is_share .nil pass0 (pa_cons (pv 2) pa_nil)))) pa_nil))))))), ?_⟩)
  walk_at "cl"
  rintro ds P hl ⟨bs, d, rfl, hb, hd, p⟩
  have h7 := hb.2.1
  refine s_rho (ρ' := [some _, some _, none]) rfl ?_
  repeat walk_at "wk"
  refine c_isTup T hd (fun ds hds => ?_) (fun hn => ?_)
  rotate_left
  · have e : reflF bs.length d = false := by
      unfold reflF
      split
      · rename_i v
        exact absurd rfl (hn v)
      · rfl
    rw [e] at p
    exact zb_f p
  subst hds
  refine zb_t ?_
  repeat walk_at "wk"
  refine c_lenOI ⟨bs, rfl, _, rfl, by omega, by omega, ?_⟩
  repeat walk_at "wk"
  unfold reflF at p
  by_cases hlen : ds.length = bs.length
  · refine sp_y (by omega) ?_
    repeat walk_at "wk"
    simp only [decide_eq_true hlen, Bool.true_and] at p
    refine e_lcX (fun d => d) (fun d => D.bl (shareF d)) (go_name (by decide)) gm_name ?_
    repeat walk_at "wk"
    refine ⟨ds, by rw [List.map_id'], by omega, fun d hd' => ?_, ?_⟩
    · repeat walk_at "wk"
      exact ⟨d, rfl, hd.mem hd', rfl, rfl⟩
    repeat walk_at "wk"
    refine c_allM ?_
    repeat walk_at "wk"
    exact p
  · refine sp_n (by omega) ?_
    simp only [decide_eq_false hlen, Bool.false_and] at p
    exact p
theorem ok_require_reflectance (T : Txt K mg L) : FnOk Pr w K mg base (L2.CX Pr w) 7 L.f_require_reflectance L.d_require_reflectance ["view", "value"] (spX K 2 (W_reqReflG L.C_View L.C_Observer L.C_Quotient L.C_BadReflectance)) := by
  refine okY T.F_require_reflectance sc_require_reflectance rfl (fun cdv A outer s H0 E hr => ⟨_, (pss_one (ps_if (pt_not (pt_val (pe_call (ok_is_reflectance T) (hr.mono (by decide)) (by rfl) T.m_is_reflectance T.F_is_reflectance.kp T.b_is_reflectance .nil pass0 (pa_cons (pv 0) (pa_cons (pv 1) pa_nil))))) (pss_one (ps_raise rfl (takes_of rfl rfl rfl rfl) (pmk_own PySem.F.excBase_ValueError T.x_BadReflectance T.mg_BadReflectance T.kc_BadReflectance (raises_own T.xb_BadReflectance T.xt_BadReflectance) (by rfl)))) pss_nil)), ?_⟩)
  walk_at "cl"
  rintro ds P PX hl ⟨bs, ls, d, rfl, hb, hL, hd, p, px⟩ F1 B0 lets
  refine xs_rho (ρ' := [some _, some _]) rfl ?_
  repeat walk_at "wk"
  refine ⟨bs, ls, d, rfl, hb, hL, hd, ?_⟩
  cases h : reflF bs.length d with
  | true =>
    refine sbn_t ?_
    refine xs_lift ?_
    repeat walk_at "wk"
    exact p h
  | false =>
    refine sbn_f ?_
    exact xs_raise lets (px h)
theorem ok_require_reflectanceO (T : Txt K mg L) : FnOk Pr w K mg base (L2.CX Pr w) 7 L.f_require_reflectance L.d_require_reflectance ["view", "value"] (spX K 2 (W_reqReflOG L.C_Observer L.C_Quotient L.C_BadReflectance)) := by
  refine okY T.F_require_reflectance sc_require_reflectance rfl (fun cdv A outer s H0 E hr => ⟨_, (pss_one (ps_if (pt_not (pt_val (pe_call (ok_is_reflectanceOG T) (hr.mono (by decide)) (by rfl) T.m_is_reflectance T.F_is_reflectance.kp T.b_is_reflectance .nil pass0 (pa_cons (pv 0) (pa_cons (pv 1) pa_nil))))) (pss_one (ps_raise rfl (takes_of rfl rfl rfl rfl) (pmk_own PySem.F.excBase_ValueError T.x_BadReflectance T.mg_BadReflectance T.kc_BadReflectance (raises_own T.xb_BadReflectance T.xt_BadReflectance) (by rfl)))) pss_nil)), ?_⟩)
  walk_at "cl"
  rintro ds P PX hl ⟨bs, d, rfl, hb, hd, p, px⟩ F1 B0 lets
  refine xs_rho (ρ' := [some _, some _]) rfl ?_
  repeat walk_at "wk"
  refine ⟨bs, d, rfl, hb, hd, ?_⟩
  cases h : reflF bs.length d with
  | true =>
    refine sbn_t ?_
    refine xs_lift ?_
    repeat walk_at "wk"
    exact p h
  | false =>
    refine sbn_f ?_
    exact xs_raise lets (px h)
theorem ok_takenN (T : Txt K mg L) : FnOk Pr w K mg base CX0 4 L.f_taken L.d_taken ["first", "second"] (spP K 2 (W_takenN L.C_Quotient)) := by
  refine okP T.F_taken sc_taken rfl (fun cdv A outer s H E hr => ⟨_, (pss_one (ps_ret (pe_callTy (r := rTupOf K) call_tuple_of rfl T.n_tuple (by decide +kernel) (pa_cons (pe_lc (own := [("part", 2), ("other", 3)]) (g := gTup K 2 (gCons (gName 2) (gCons (gName 3) gNil))) rfl sc_taken.nd (RZ.pi_zipA (by rfl) T.n_zip (pa_cons (pv 0) (pa_cons (pv 1) pa_nil))) (blkOk_by (own := [("part", 2), ("other", 3)]) (N := N_taken) (sc := defScope s_taken) (by decide +kernel)) (fun _ _ _ _ _ => (by exact (pg_tup (by rfl) (pgs_cons (pg_name (i := 2) sc_taken.nd rfl (by first | exact Or.inl rfl | exact Or.inr rfl)) (pgs_cons (pg_name (i := 3) sc_taken.nd rfl (by first | exact Or.inl rfl | exact Or.inr rfl)) pgs_nil))))) (fun _ _ _ _ _ => pts_nil) (fun _ _ _ _ _ => (pe_op (op_own (ok_Quotient_sub T) (hr.mono (by decide)) T.b_Quotient_sub pass0 T.sf_Quotient T.fi_Quotient_sub T.fn_Quotient_sub) (pv 2) (pv 3)))) pa_nil)))), ?_⟩)
  walk_at "cl"
  rintro ds P hl ⟨xs, ys, m, rfl, hlen, h1000, hx, hy, hm, p⟩
  refine s_rho (ρ' := [some _, some _, none, none]) rfl ?_
  repeat walk_at "wk"
  refine e_lcM (go_two (by decide) (by decide)) gm_two ?_
  repeat walk_at "wk"
  refine ⟨_, _, .inl rfl, by rw [zipD_len, List.length_map, List.length_map]; omega, (List.zipWith (fun x y => x - y) xs ys).map (dQ L.C_Quotient), by rw [zipD_len, List.length_map, List.length_map, List.length_map, List.length_zipWith], ?_, ?_⟩
  · intro i d e hd he
    obtain ⟨x, y, hx', hy', rfl⟩ := zipD_get hd
    rw [List.getElem?_map] at hx' hy' he
    cases h1 : xs[i]? with
    | none => rw [h1] at hx'; cases hx'
    | some a =>
      cases h2 : ys[i]? with
      | none => rw [h2] at hy'; cases hy'
      | some b =>
        rw [h1] at hx'
        rw [h2] at hy'
        rw [List.getElem?_zipWith, h1, h2] at he
        cases hx'; cases hy'; cases he
        have b1 := hx a (List.mem_of_getElem? h1)
        have b2 := hy b (List.mem_of_getElem? h2)
        repeat walk_at "wk"
        refine ⟨rfl, ?_⟩
        repeat walk_at "wk"
        exact ⟨rfl, rfl⟩
  repeat walk_at "wk"
  exact p
theorem ok_sign_of (T : Txt K mg L) : FnOk Pr w K mg base CX0 1 L.f_sign_of L.d_sign_of ["quotient"] (spP K 1 (W_sign L.C_Quotient)) := by
  refine okP T.F_sign_of sc_sign_of rfl (fun cdv A outer s H E hr => ⟨_, (pss_cons (ps_if (pt_cmpR op_gt (pe_fld (pv 0) rfl) pe_int (nomark _)) (pss_one (ps_ret pe_int)) pss_nil)
    (pss_one (ps_ret (pe_ifExp (pt_cmpR op_lt (pe_fld (pv 0) rfl) pe_int (nomark _)) (pe_un un_neg pe_int) pe_int)))), ?_⟩)
  walk_at "cl"
  rintro ds P hl ⟨q, rfl, p⟩
  unfold sgn at p
  refine s_rho (ρ' := [some _]) rfl ?_
  repeat walk_at "wk"
  refine sp_d (fun h => ?_) (fun h => ?_)
  · rw [if_pos h] at p
    repeat walk_at "wk"
    exact p
  · rw [if_neg h] at p
    repeat walk_at "wk"
    refine sp_d (fun h2 => ?_) (fun h2 => ?_)
    · rw [if_pos h2] at p
      repeat walk_at "wk"
      exact p
    · rw [if_neg h2] at p
      repeat walk_at "wk"
      exact p
theorem ok_sign_blocks (T : Txt K mg L) : FnOk Pr w K mg base CX0 2 L.f_sign_blocks L.d_sign_blocks ["differences"] (spP K 1 (W_sblkF L.C_Quotient)) := by
  refine okP T.F_sign_blocks sc_sign_blocks rfl (fun cdv A outer s H E hr => ⟨_, (pss_cons (ps_set (i := 1) sc_sign_blocks.nd rfl (by first | exact Or.inl rfl | exact Or.inr rfl) (pe_lst pa_nil))
    (pss_cons (ps_set (i := 2) sc_sign_blocks.nd rfl (by first | exact Or.inl rfl | exact Or.inr rfl) pe_int)
    (pss_cons (ps_for PassesOwn.never rfl (pi_enumT (by rfl) T.n_enumerate (pa_cons (pv 0) pa_nil)) (pg_tup (by rfl) (pgs_cons (pg_name (i := 3) sc_sign_blocks.nd rfl (by first | exact Or.inl rfl | exact Or.inr rfl)) (pgs_cons (pg_name (i := 4) sc_sign_blocks.nd rfl (by first | exact Or.inl rfl | exact Or.inr rfl)) pgs_nil))) (pss_cons (ps_set (i := 5) sc_sign_blocks.nd rfl (by first | exact Or.inl rfl | exact Or.inr rfl) (pe_call (ok_sign_of T) (hr.mono (by decide)) (by rfl) T.m_sign_of T.F_sign_of.kp T.b_sign_of .nil pass0 (pa_cons (pv 4) pa_nil)))
    (pss_cons (ps_if (pt_cmpR op_eq (pv 5) pe_int (nomark _)) (pss_one ps_continue) pss_nil)
    (pss_cons (ps_if (pt_cmpR op_ne (pv 5) (pv 2) (nomark _)) (pss_one (ps_expr (pe_bm PySem.F.plainAttrs_list PySem.F.slot_list_append PySem.F.type_list_append mt_append (pv 1) (pa_cons (pe_lst pa_nil) pa_nil)))) pss_nil)
    (pss_cons (ps_expr (pe_bm PySem.F.plainAttrs_list PySem.F.slot_list_append PySem.F.type_list_append mt_append (pe_ix (r := rIxL K) ix_list (pv 1) (pe_un un_neg pe_int) (fun _ _ => rfl)) (pa_cons (pv 3) pa_nil)))
    (pss_one (ps_set (i := 2) sc_sign_blocks.nd rfl (by first | exact Or.inl rfl | exact Or.inr rfl) (pv 5))))))))
    (pss_one (ps_ret (pv 1)))))), ?_⟩)
  walk_at "cl"
  rintro ds P hl ⟨qs, rfl, h1000, fin⟩
  refine s_rho (ρ' := [some _, none, none, none, none, none]) rfl ?_
  repeat walk_at "wj"
  refine e_lstO ?_
  repeat walk_at "wj"
  intro xb
  repeat walk_at "wj"
  refine s_for (i_enumT ?_)
  repeat walk_at "wj"
  refine ⟨_, rfl, fun i ρ O' => ∃ (k3 k4 k5 : Option D) (ls : List (Addr × List D)), ρ = [some (.tup (qs.map (dQ L.C_Quotient))), some (.loc xb), some (.int (bkS qs i).2), k3, k4, k5] ∧ O'.Perm ((xb, .lst (ls.map fun l => .loc l.1)) :: ((ls.map fun l => (l.1, Own.lst l.2)) ++ [])) ∧ ls.map Prod.snd = (bkS qs i).1.map (fun b => b.map fun (k : Nat) => D.int (k : Int)),
    ⟨_, _, _, [], rfl, List.Perm.refl _, rfl⟩, ?_, ?_⟩
  · rintro i d ρ' O' hd ⟨k3, k4, k5, ls, rfl, hperm, hls⟩
    rw [enumD_get, List.getElem?_map, Nat.zero_add] at hd
    cases hq : qs[i]? with
    | none => rw [hq] at hd; cases hd
    | some q =>
      rw [hq] at hd
      cases hd
      have hi := (List.getElem?_eq_some_iff.mp hq).1
      have hgq : qs.getD i 0 = q := by rw [List.getD_eq_getElem?_getD, hq]; rfl
      have hz := (bk_ok qs i).zero
      have hfl := bk_flat qs i
      have hne := (bk_ok qs i).ne
      have hlen : ls.length = (bkS qs i).1.length := by
        have := congrArg List.length hls
        rw [List.length_map, List.length_map] at this
        exact this
      have hcount : ∀ bs : List (List Nat), (∀ b ∈ bs, b ≠ []) → bs.length ≤ bs.flatten.length := fun bs => by
        induction bs with
        | nil => intro _; exact Nat.le_refl _
        | cons b bs ih =>
          intro h
          have h1 := ih fun c hc => h c (List.mem_cons_of_mem _ hc)
          have h2 : 0 < b.length := List.length_pos_iff.mpr (h b List.mem_cons_self)
          rw [List.flatten_cons, List.length_append, List.length_cons]
          omega
      have hlc := hcount (bkS qs i).1 fun b hb => by
        obtain ⟨t, ht, e⟩ := List.mem_iff_getElem.mp hb
        exact hne t b (by rw [List.getElem?_eq_getElem ht, e])
      have hmem : ∀ l ∈ ls, l.2.length ≤ i := fun l hl => by
        have : l.2 ∈ ls.map Prod.snd := List.mem_map.mpr ⟨l, hl, rfl⟩
        rw [hls] at this
        obtain ⟨b, hb, e⟩ := List.mem_map.mp this
        rw [← e, List.length_map]
        have h2 : ∀ bs : List (List Nat), b ∈ bs → b.length ≤ bs.flatten.length := fun bs => by
          induction bs with
          | nil => intro h; cases h
          | cons c bs ih =>
            intro h
            rw [List.flatten_cons, List.length_append]
            rcases List.mem_cons.mp h with rfl | h
            · omega
            · have := ih h
              omega
        have := h2 _ hb
        omega
      refine g_perm hperm ?_
      repeat walk_at "wj"
      refine k_sign ?_
      repeat walk_at "wk"
      refine sp_d (fun h0 => ?_) (fun h0 => ?_)
      · repeat walk_at "wk"
        have en : bkS qs (i + 1) = bkS qs i := by
          rw [bkS_succ, hgq, if_pos h0]
        rw [en]
        exact ⟨_, _, _, ls, rfl, List.Perm.refl _, hls⟩
      · repeat walk_at "wj"
        refine wS.mono (PS := fun o O1 => ∃ (cs : List (Addr × List D)) (xl : Addr) (l : List D), o = .nx [some (.tup (qs.map (dQ L.C_Quotient))), some (.loc xb), some (.int (bkS qs i).2), some (.int i), some (dQ L.C_Quotient q), some (.int (sgn q))] ∧ O1.Perm ((xl, .lst l) :: (xb, .lst ((cs ++ [(xl, l)]).map fun l => .loc l.1)) :: (cs.map fun l => (l.1, Own.lst l.2))) ∧ l.length ≤ i ∧ (cs ++ [(xl, l ++ [D.int (i : Int)])]).map Prod.snd = (bkS qs (i + 1)).1.map (fun b => b.map fun (k : Nat) => D.int (k : Int))) ?_ ?_
        · repeat walk_at "wk"
          refine sm_d (fun he => ?_) (fun he => ?_)
          · repeat walk_at "wk"
            have hbn : (bkS qs i).1 ≠ [] := fun z => h0 (he.trans (hz z))
            obtain ⟨bs, b, hbs⟩ := last_snoc _ hbn
            have hln : ls ≠ [] := fun z => by
              rw [z, hbs] at hlen
              simp at hlen
            obtain ⟨cs, ⟨xl, l⟩, rfl⟩ := last_snoc ls hln
            have en : (bkS qs (i + 1)).1 = bs ++ [b ++ [i]] := by
              rw [bkS_succ, hgq, if_neg h0, if_pos he]
              show appL (bkS qs i).1 i = _
              rw [hbs]
              unfold appL
              rw [List.getLast?_append, List.getLast?_singleton]
              simp
            rw [hbs, List.map_append, List.map_append] at hls
            obtain ⟨e1, e2⟩ := List.append_inj' hls rfl
            have e2 : [l] = [b.map fun (k : Nat) => D.int (k : Int)] := e2
            cases e2
            refine ⟨cs, xl, _, rfl, ?_, hmem (xl, b.map fun (k : Nat) => D.int (k : Int)) (List.mem_append_right _ List.mem_cons_self), ?_⟩
            · rw [List.append_nil]
              have e : (cs ++ [(xl, b.map fun (k : Nat) => D.int (k : Int))]).map (fun l => (l.1, Own.lst l.2)) = cs.map (fun l => (l.1, Own.lst l.2)) ++ [(xl, Own.lst (b.map fun (k : Nat) => D.int (k : Int)))] := List.map_append
              rw [e]
              exact (List.Perm.cons _ (List.perm_append_singleton _ _)).trans (List.Perm.swap _ _ _)
            · rw [en, List.map_append, List.map_append, e1, List.map_cons, List.map_cons, List.map_append]
              rfl
          · repeat walk_at "wj"
            refine e_append ?_
            repeat walk_at "wj"
            refine ow_1 ?_
            refine e_lstO ?_
            repeat walk_at "wj"
            intro xn
            refine ⟨ls.map (fun l => .loc l.1), _, by rw [List.length_map]; omega, .there .here, ?_⟩
            have en : (bkS qs (i + 1)).1 = (bkS qs i).1 ++ [[i]] := by
              rw [bkS_succ, hgq, if_neg h0, if_neg he]
            refine ⟨ls, xn, [], rfl, ?_, Nat.zero_le _, ?_⟩
            · rw [List.append_nil, List.map_append]
              exact List.Perm.refl _
            · rw [en, List.map_append, List.map_append, hls]
              rfl
        rintro o O1 ⟨cs, xl, l, rfl, hp2, hl', hcs⟩
        refine th_nx ?_
        refine s_perm hp2 ?_
        repeat walk_at "wj"
        refine e_append ?_
        repeat walk_at "wj"
        refine r_lastO (ds := cs.map fun l => .loc l.1) (d := .loc xl) (by rw [List.map_append]; simp) ?_
        refine ow_1 ?_
        repeat walk_at "wj"
        refine st_app (by omega) ?_
        repeat walk_at "wj"
        have es : (bkS qs (i + 1)).2 = sgn q := by
          rw [bkS_succ, hgq, if_neg h0]
          split
          · rename_i z
            exact z.symm
          · rfl
        rw [es]
        refine ⟨_, _, _, cs ++ [(xl, l ++ [D.int (i : Int)])], rfl, ?_, hcs⟩
        rw [List.append_nil, List.map_append, List.map_append, List.map_append]
        exact (List.Perm.swap _ _ _).trans (List.Perm.cons _ (List.perm_append_singleton _ _).symm)
  · rintro ρ' O' ⟨k3, k4, k5, ls, rfl, hperm, hls⟩
    rw [enumD_len, List.length_map] at hls
    have e2 : (ls.map fun l => D.lst l.2) = (blksF qs).map fun b => .lst (b.map fun (k : Nat) => D.int (k : Int)) := by
      have := congrArg (List.map D.lst) hls
      rw [List.map_map, List.map_map] at this
      exact this
    refine th_nx (s_deep (ρ' := [some (.tup (qs.map (dQ L.C_Quotient))), some (blkD (blksF qs)), none, none, none, none]) hperm rfl (fun i d hd => ?_) ?_)
    · rcases i with _ | _ | _ | _ | _ | _ | i
      · exact .inl hd
      · refine .inr ⟨rfl, ?_⟩
        have hd : some (some (blkD (blksF qs))) = some (some d) := hd
        cases hd
        unfold blkD
        rw [e2]
      · cases hd
      · cases hd
      · cases hd
      · cases hd
      · simp at hd
    repeat walk_at "wj"
    exact fin
theorem ok_require_equal_lengths (T : Txt K mg L) : FnOk Pr w K mg base (L2.CX Pr w) 1 L.f_require_equal_lengths L.d_require_equal_lengths ["first", "second"] (spX K 2 (W_reqLen L.C_LengthsDiffer)) := by
  refine okY T.F_require_equal_lengths sc_require_equal_lengths rfl (fun cdv A outer s H0 E hr => ⟨_, (pss_one (ps_if (pt_cmpR op_ne (pe_callB (r := Evl.rLenS K) call_len_seq rfl T.n_len (by decide +kernel) (pa_cons (pv 0) pa_nil)) (pe_callB (r := Evl.rLenS K) call_len_seq rfl T.n_len (by decide +kernel) (pa_cons (pv 1) pa_nil)) (nomark _)) (pss_one (ps_raise rfl (takes_of rfl rfl rfl rfl) (pmk_own PySem.F.excBase_ValueError T.x_LengthsDiffer T.mg_LengthsDiffer T.kc_LengthsDiffer (raises_own T.xb_LengthsDiffer T.xt_LengthsDiffer) (by rfl)))) pss_nil)), ?_⟩)
  walk_at "cl"
  rintro ds P PX hl ⟨xs, ys, rfl, h1, h2, px, pn⟩ F1 B0 lets
  refine xs_rho (ρ' := [some _, some _]) rfl ?_
  repeat walk_at "wk"
  refine sm_d (fun h => ?_) (fun h => xs_raise lets (px (by omega)))
  refine xs_lift ?_
  repeat walk_at "wk"
  exact pn (by omega)
theorem ok_crossings (T : Txt K mg L) : FnOk Pr w K mg base (L2.CX Pr w) 5 L.f_crossings L.d_crossings ["first", "second"] (spX K 2 (W_cross L.C_Quotient L.C_LengthsDiffer)) := by
  refine okY T.F_crossings sc_crossings rfl (fun cdv A outer s H0 E hr => ⟨_, (pss_cons (ps_expr (pe_call (ok_require_equal_lengths T) (hr.mono (by decide)) (by rfl) T.m_require_equal_lengths T.F_require_equal_lengths.kp T.b_require_equal_lengths .nil (passes_call (takes_of rfl rfl rfl rfl) (fun _ _ _ _ h => h)) (pa_cons (pv 0) (pa_cons (pv 1) pa_nil))))
    (pss_cons (ps_set (i := 2) sc_crossings.nd rfl (by first | exact Or.inl rfl | exact Or.inr rfl) (pe_call (ok_sign_blocks T) (hr.mono (by decide)) (by rfl) T.m_sign_blocks T.F_sign_blocks.kp T.b_sign_blocks .nil pass0 (pa_cons (pe_call (ok_takenN T) (hr.mono (by decide)) (by rfl) T.m_taken T.F_taken.kp T.b_taken .nil pass0 (pa_cons (pv 0) (pa_cons (pv 1) pa_nil))) pa_nil)))
    (pss_one (ps_ret (pe_ifExp (pt_cmpR op_gt (pe_callB (r := Evl.rLenS K) call_len_seq rfl T.n_len (by decide +kernel) (pa_cons (pv 2) pa_nil)) pe_int (nomark _)) (pe_op op_sub (pe_callB (r := Evl.rLenS K) call_len_seq rfl T.n_len (by decide +kernel) (pa_cons (pv 2) pa_nil)) pe_int) pe_int))))), ?_⟩)
  walk_at "cl"
  rintro ds P PX hl ⟨xs, ys, m, rfl, h1, h2, hx, hy, hm, px, pn⟩ F1 B0 lets
  refine xs_rho (ρ' := [some _, some _, none]) rfl ?_
  refine xs_seq (xs_dropX (P' := fun _ => True) lets ?_)
  repeat walk_at "wk"
  refine ⟨_, _, rfl, by rw [List.length_map]; exact h1, by rw [List.length_map]; exact h2, fun z => px (by simpa using z), fun z => ?_⟩
  have hlen : xs.length = ys.length := by simpa using z
  have p := pn hlen
  repeat walk_at "wk"
  refine ⟨xs, ys, m, rfl, hlen, h1, hx, hy, hm, ?_⟩
  repeat walk_at "wk"
  refine ⟨_, rfl, by rw [List.length_zipWith]; omega, ?_⟩
  repeat walk_at "wk"
  refine xs_lift ?_
  have hl' := blk_len (List.zipWith (fun x y => x - y) xs ys)
  have hl2 : ((blksF (List.zipWith (fun x y => x - y) xs ys)).map fun b => D.lst (b.map fun (k : Nat) => D.int (k : Int))).length = _ := (List.length_map ..).trans hl'
  unfold crossN at p
  unfold blkD
  repeat walk_at "wk"
  refine sp_d (fun h => ?_) (fun h => ?_)
  · rw [if_pos (by omega)] at p
    repeat walk_at "wk"
    rw [hl2]
    exact p
  · rw [if_neg (by omega)] at p
    repeat walk_at "wk"
    exact p
theorem ok_law_turned_s (T : Txt K mg L) {j : Nat} (G : FnOk Pr w K mg base CX0 (30 + j) L.f_law_turned L.d_law_turned ["paper", "digits", "at"] (spP K 3 (W_turned L.C_Quotient j))) : FnOk Pr w K mg base CX0 (30 + j + 1) L.f_law_turned L.d_law_turned ["paper", "digits", "at"] (spP K 3 (W_turned L.C_Quotient (j + 1))) := by
  refine okP T.F_law_turned sc_law_turned rfl (fun cdv A outer s H E hr => ⟨_, (pss_cons (ps_if (PW.pt (pw_and (pt_val (pe_callB (r := rIsi K) call_isi rfl T.n_isinstance (by decide +kernel) (pa_cons (pv 0) (pa_cons (pe_bltn (v := .ty "tuple") (by rfl) T.n_tuple (by decide +kernel) rfl) pa_nil)))) (pw_and (pt_cmpR op_gt (pe_callB (r := Evl.rLenS K) call_len_seq rfl T.n_len (by decide +kernel) (pa_cons (pv 0) pa_nil)) pe_int (nomark _)) (pw_and (pt_cmpR op_gt (pe_op op_mod (pe_ix (r := rIxL K) ix_list (pv 1) (pv 2) (fun _ _ => rfl)) pe_int) pe_int (nomark _)) (pw_and1 (pt_cmpR op_lt (pe_op op_add (pv 2) pe_int) (pe_callB (r := Evl.rLenS K) call_len_seq rfl T.n_len (by decide +kernel) (pa_cons (pv 1) pa_nil)) (nomark _))))))) (pss_cons (ps_set (i := 3) sc_law_turned.nd rfl (by first | exact Or.inl rfl | exact Or.inr rfl) (pe_op op_mod (pe_op op_fdivG (pe_ix (r := rIxL K) ix_list (pv 1) (pv 2) (fun _ _ => rfl)) pe_int) (pe_callB (r := Evl.rLenS K) call_len_seq rfl T.n_len (by decide +kernel) (pa_cons (pv 0) pa_nil))))
    (pss_one (ps_ret (pe_op op_catA (pe_op op_catA (pe_slice sl_tupA (pv 0) po_none (po_some (pv 3))) (pe_tup (pa_cons (pe_call G (hr.mono (by omega)) (by rfl) T.m_law_turned T.F_law_turned.kp T.b_law_turned .nil pass0 (pa_cons (pe_ix (r := rIx K) ix_seq (pv 0) (pv 3) (fun _ _ => rfl)) (pa_cons (pv 1) (pa_cons (pe_op op_add (pv 2) pe_int) pa_nil)))) pa_nil))) (pe_slice sl_tupA (pv 0) (po_some (pe_op op_add (pv 3) pe_int)) po_none))))) pss_nil)
    (pss_cons (ps_set (i := 4) sc_law_turned.nd rfl (by first | exact Or.inl rfl | exact Or.inr rfl) (pe_lst (pa_cons pe_int (pa_cons pe_int (pa_cons pe_int (pa_cons pe_int (pa_cons pe_str (pa_cons pe_str (pa_cons pe_str (pa_cons pe_str (pa_cons pe_non (pa_cons (pe_tup (pa_cons pe_str pa_nil)) (pa_cons (pe_tup pa_nil) (pa_cons (pv 0) (pa_cons (pe_make T.mk_Quotient (ok_Quotient_init T) (hr.mono (by omega)) (by rfl) T.mg_Quotient T.b_Quotient_init .nil passL (pa_cons pe_int (pa_cons pe_int pa_nil))) (pa_cons (pe_make T.mk_Quotient (ok_Quotient_init T) (hr.mono (by omega)) (by rfl) T.mg_Quotient T.b_Quotient_init .nil passL (pa_cons pe_int (pa_cons pe_int pa_nil))) pa_nil))))))))))))))))
    (pss_cons (ps_expr (pe_bm PySem.F.plainAttrs_list PySem.F.slot_list_extend PySem.F.type_list_extend mt_extend (pv 4) (pa_cons (pe_lst (pa_cons (pe_make T.mk_Quotient (ok_Quotient_init T) (hr.mono (by omega)) (by rfl) T.mg_Quotient T.b_Quotient_init .nil passL (pa_cons pe_int (pa_cons pe_int pa_nil))) (pa_cons (pe_make T.mk_Quotient (ok_Quotient_init T) (hr.mono (by omega)) (by rfl) T.mg_Quotient T.b_Quotient_init .nil passL (pa_cons pe_int (pa_cons pe_int pa_nil))) (pa_cons (pe_make T.mk_Quotient (ok_Quotient_init T) (hr.mono (by omega)) (by rfl) T.mg_Quotient T.b_Quotient_init .nil passL (pa_cons (pe_un un_neg pe_int) (pa_cons pe_int pa_nil))) pa_nil)))) pa_nil)))
    (pss_one (ps_ret (pe_ix (r := rIxL K) ix_list (pv 4) (pe_op op_mod (pe_ix (r := rIxL K) ix_list (pv 1) (pe_op op_add (pv 2) pe_int) (fun _ _ => rfl)) (pe_callB (r := Evl.rLenS K) call_len_seq rfl T.n_len (by decide +kernel) (pa_cons (pv 4) pa_nil))) (fun _ _ => rfl))))))), ?_⟩)
  walk_at "cl"
  rintro ds P hl ⟨d, c, a, rfl, hd, ha, haj, p⟩
  refine s_rho (ρ' := [some _, some _, some _, none, none]) rfl ?_
  refine s_seq ?_
  refine wS.mono (PS := fun o O => (o = .nx [some d, some (dL (drw c 8)), some (.int (a : Int)), none, none] ∧ O = []) ∨ ∃ t, o = .ret t ∧ Thp L.C_Quotient t) ?_ ?_
  · repeat walk_at "wk"
    refine c_isTup T hd.thg (fun ds hds => ?_) (fun hn => ?_)
    rotate_left
    · refine zb_f ?_
      repeat walk_at "wk"
      exact .inl ⟨rfl, rfl⟩
    subst hds
    refine zb_t ?_
    repeat walk_at "wk"
    by_cases h1 : 0 < ds.length
    rotate_left
    · refine sp_n (by omega) ?_
      repeat walk_at "wk"
      exact .inl ⟨rfl, rfl⟩
    refine sp_y (by omega) ?_
    repeat walk_at "wj"
    refine sp_d (fun h2 => ?_) (fun h2 => ?_)
    rotate_left
    · repeat walk_at "wk"
      exact .inl ⟨rfl, rfl⟩
    repeat walk_at "wj"
    rw [drw_len]
    refine sp_d (fun h3 => ?_) (fun h3 => ?_)
    rotate_left
    · repeat walk_at "wk"
      exact .inl ⟨rfl, rfl⟩
    have hdl := hd.len
    have hk0 := Int.emod_nonneg (drwAt c (a : Int).toNat / 6) (show (ds.length : Int) ≠ 0 by omega)
    have hk1 := Int.emod_lt_of_pos (drwAt c (a : Int).toNat / 6) (show (0 : Int) < (ds.length : Int) by omega)
    repeat walk_at "wj"
    obtain ⟨kn, hkn⟩ : ∃ kn : Nat, drwAt c (a : Int).toNat / 6 % (ds.length : Int) = (kn : Int) := ⟨_, (Int.toNat_of_nonneg hk0).symm⟩
    rw [hkn] at hk1 ⊢
    obtain ⟨x, hx⟩ : ∃ x, ds[kn]? = some x := ⟨_, List.getElem?_eq_getElem (by omega)⟩
    have a0 : atI ds (kn : Int) = some x := by rw [atI_nat' (by omega) (by omega), Int.toNat_natCast]; exact hx
    refine r_ixOr2 (r_ixT a0 ?_)
    repeat walk_at "wk"
    refine ⟨x, c, a + 1, by rw [show ((a + 1 : Nat) : Int) = (a : Int) + 1 by omega], hd.item hx, by omega, by omega, fun t ht => ?_⟩
    repeat walk_at "wk"
    rw [cutD_upto]
    refine r_catA (by rw [List.length_take]; show _ + 1 ≤ 100000; omega) ?_
    repeat walk_at "wk"
    rw [show ((kn : Int) + 1) = ((kn + 1 : Nat) : Int) by omega, cutD_from]
    refine r_catA (by simp only [List.length_append, List.length_take, List.length_drop, List.length_cons, List.length_nil]; omega) ?_
    repeat walk_at "wk"
    exact .inr ⟨_, rfl, hd.put ht (by omega)⟩
  · rintro o O (⟨rfl, rfl⟩ | ⟨t, rfl, ht⟩)
    rotate_left
    · exact p t ht
    refine th_nx ?_
    refine s_seq ?_
    refine s_asg ?_
    refine e_lstO ?_
    repeat (first | walk_at "wk" | ((with_reducible refine' llN ?h ?_); (case h => exact rfl)))
    intro xv
    refine th_nx ?_
    refine s_rho (ρ' := [some d, some (dL (drw c 8)), some (.int (a : Int)), none, some (.loc xv)]) rfl ?_
    refine s_seq ?_
    refine s_drop ?_
    refine e_extend ?_
    repeat walk_at "wk"
    refine ow_1 ?_
    refine e_lst ?_
    repeat walk_at "wk"
    refine ⟨_, _, _, rfl, Nat.le_of_ble_eq_true rfl, .here, ?_⟩
    refine th_nx ?_
    repeat walk_at "wk"
    refine r_mod (show (0 : Int) < ((17 : Nat) : Int) by decide) ?_
    have hn := Int.emod_nonneg (drwAt c ((a : Int) + 1).toNat) (show (17 : Int) ≠ 0 by decide)
    have hl2 := Int.emod_lt_of_pos (drwAt c ((a : Int) + 1).toNat) (show (0 : Int) < 17 by decide)
    change wR K (rIxL K) (D.loc xv) (D.int (drwAt c ((a : Int) + 1).toNat % 17)) _ _
    obtain ⟨m, hm, hlt⟩ : ∃ m : Nat, drwAt c ((a : Int) + 1).toNat % 17 = (m : Int) ∧ m < 17 := ⟨_, (Int.toNat_of_nonneg hn).symm, by omega⟩
    rw [hm]
    have hm17 : m = 0 ∨ m = 1 ∨ m = 2 ∨ m = 3 ∨ m = 4 ∨ m = 5 ∨ m = 6 ∨ m = 7 ∨ m = 8 ∨ m = 9 ∨ m = 10 ∨ m = 11 ∨ m = 12 ∨ m = 13 ∨ m = 14 ∨ m = 15 ∨ m = 16 := by omega
    have t1 : Thp L.C_Quotient (.tup [.raw (.str (Str.ofString "bound"))]) := .tup _ (fun x hx => by rw [List.mem_singleton.mp hx]; exact .str _) (by decide)
    have t0 : Thp L.C_Quotient (.tup []) := .tup _ (fun x hx => nomatch hx) (by decide)
    have q1 : Thp L.C_Quotient (dQ L.C_Quotient (Rat.divInt 1 2)) := .quo _ (by unfold bits; decide +kernel)
    have q2 : Thp L.C_Quotient (dQ L.C_Quotient (Rat.divInt 0 1)) := .quo _ (by unfold bits; decide +kernel)
    have q3 : Thp L.C_Quotient (dQ L.C_Quotient (Rat.divInt 1 1)) := .quo _ (by unfold bits; decide +kernel)
    have q4 : Thp L.C_Quotient (dQ L.C_Quotient (Rat.divInt 2 1)) := .quo _ (by unfold bits; decide +kernel)
    have q5 : Thp L.C_Quotient (dQ L.C_Quotient (Rat.divInt (-1) 3)) := .quo _ (by unfold bits; decide +kernel)
    rcases hm17 with rfl | rfl | rfl | rfl | rfl | rfl | rfl | rfl | rfl | rfl | rfl | rfl | rfl | rfl | rfl | rfl | rfl
    · exact r_ixO List.mem_cons_self rfl (p _ (.int _))
    · exact r_ixO List.mem_cons_self rfl (p _ (.int _))
    · exact r_ixO List.mem_cons_self rfl (p _ (.int _))
    · exact r_ixO List.mem_cons_self rfl (p _ (.int _))
    · exact r_ixO List.mem_cons_self rfl (p _ (.str _))
    · exact r_ixO List.mem_cons_self rfl (p _ (.str _))
    · exact r_ixO List.mem_cons_self rfl (p _ (.str _))
    · exact r_ixO List.mem_cons_self rfl (p _ (.str _))
    · exact r_ixO List.mem_cons_self rfl (p _ .non)
    · exact r_ixO List.mem_cons_self rfl (p _ t1)
    · exact r_ixO List.mem_cons_self rfl (p _ t0)
    · exact r_ixO List.mem_cons_self rfl (p _ hd)
    · exact r_ixO List.mem_cons_self rfl (p _ q1)
    · exact r_ixO List.mem_cons_self rfl (p _ q2)
    · exact r_ixO List.mem_cons_self rfl (p _ q3)
    · exact r_ixO List.mem_cons_self rfl (p _ q4)
    · exact r_ixO List.mem_cons_self rfl (p _ q5)
theorem ok_law_turned_n (T : Txt K mg L) : ∀ j : Nat, FnOk Pr w K mg base CX0 (30 + j) L.f_law_turned L.d_law_turned ["paper", "digits", "at"] (spP K 3 (W_turned L.C_Quotient j))
  | 0 => by
    refine okP (k := 29) T.F_law_turned sc_law_turned rfl (fun cdv A outer s H E hr => ⟨_, pss_never, ?_⟩)
    rintro ds P hl ⟨d, c, a, _, _, h6, h7, _⟩
    omega
  | j + 1 => ok_law_turned_s T (ok_law_turned_n T j)
theorem ok_law_turned (T : Txt K mg L) : FnOk Pr w K mg base CX0 37 L.f_law_turned L.d_law_turned ["paper", "digits", "at"] (spP K 3 (W_turned L.C_Quotient 7)) := ok_law_turned_n T 7
theorem ok_law_kind (T : Txt K mg L) : FnOk Pr w K mg base CX0 3 L.f_law_kind L.d_law_kind ["paper", "kind", "length"] (spP K 3 (W_lkind L.C_Quotient)) := by
  refine okP T.F_law_kind sc_law_kind rfl (fun cdv A outer s H E hr => ⟨_, (pss_one (ps_ret (pe_and (pe_callB (r := rIsi K) call_isi rfl T.n_isinstance (by decide +kernel) (pa_cons (pv 0) (pa_cons (pe_bltn (v := .ty "tuple") (by rfl) T.n_tuple (by decide +kernel) rfl) pa_nil))) (pe_and (pe_cmpR op_eq (pe_callB (r := Evl.rLenS K) call_len_seq rfl T.n_len (by decide +kernel) (pa_cons (pv 0) pa_nil)) (pv 2) (nomark _)) (pe_one (pe_cmpR (op_eqS (ok_Quotient_eqS T) (hr.mono (by decide)) T.fi_Quotient_eq T.fn_Quotient_eq T.b_Quotient_eq T.nf_str) (pe_ix (r := rIx K) ix_seq (pv 0) pe_int (fun _ _ => rfl)) (pv 1) (nomark _))))))), ?_⟩)
  walk_at "cl"
  rintro ds P hl ⟨d, w, n, rfl, hd, hn1, p⟩
  refine s_rho (ρ' := [some _, some _, some _]) rfl ?_
  repeat walk_at "wk"
  refine c_isTup T hd.thg (fun ds hds => ?_) (fun hn => ?_)
  rotate_left
  · have e : formF d w n = false := by
      unfold formF
      split
      · rename_i v
        exact absurd rfl (hn v)
      · rfl
    rw [e] at p
    exact zb_f p
  subst hds
  refine zb_t ?_
  repeat walk_at "wk"
  unfold formF at p
  by_cases hlen : ds.length = n
  · refine sp_y (by omega) ?_
    repeat walk_at "wk"
    simp only [decide_eq_true hlen, Bool.true_and] at p
    obtain ⟨x, hx⟩ : ∃ x, ds[0]? = some x := ⟨_, List.getElem?_eq_getElem (by omega)⟩
    have a0 : atI ds 0 = some x := by rw [atI_nat' (by decide) (by omega)]; exact hx
    have e0 : ds.getD 0 .non = x := by rw [List.getD_eq_getElem?_getD, hx]; rfl
    rw [e0] at p
    refine r_ixOr2 (r_ixT a0 ?_)
    repeat walk_at "wk"
    exact r_eqTx (hd.item hx) p
  · refine sp_n (by omega) ?_
    simp only [decide_eq_false hlen, Bool.false_and] at p
    exact p
theorem ok_law_is_band (T : Txt K mg L) : FnOk Pr w K mg base CX0 1 L.f_law_is_band L.d_law_is_band ["value", "count"] (spP K 2 (W_lband L.C_Quotient)) := by
  refine okP T.F_law_is_band sc_law_is_band rfl (fun cdv A outer s H E hr => ⟨_, (pss_one (ps_ret (pe_and (pe_callB (r := rIsi K) call_isi rfl T.n_isinstance (by decide +kernel) (pa_cons (pv 0) (pa_cons (pe_bltn (v := .ty "int") (by rfl) T.n_int (by decide +kernel) rfl) pa_nil))) (pe_and (pe_not (pe_callB (r := rIsi K) call_isi rfl T.n_isinstance (by decide +kernel) (pa_cons (pv 0) (pa_cons (pe_bltn (v := .ty "bool") (by rfl) T.n_bool (by decide +kernel) rfl) pa_nil)))) (pe_one (pe_chain op_le op_lt pe_int (pv 0) (pv 1))))))), ?_⟩)
  walk_at "cl"
  rintro ds P hl ⟨d, n, rfl, hd, p⟩
  refine s_rho (ρ' := [some _, some _]) rfl ?_
  repeat walk_at "wk"
  refine c_isInt T hd.thg (fun v hv => ?_) (fun hn => ?_)
  · subst hv
    refine zb_t ?_
    repeat walk_at "wk"
    refine c_isi (.int _) (.ty _) T.kit_int_bool ⟨_, rfl, ?_⟩
    refine sb_t ?_
    repeat walk_at "wk"
    have p : P (.bl (decide ((0 : Int) ≤ v) && decide (v ≤ (n : Int) - 1))) := p
    by_cases h : (0 : Int) ≤ v
    · refine ⟨true, by rw [decide_eq_true h], fun _ => ?_, (fun z => nomatch z)⟩
      repeat walk_at "wk"
      rw [decide_eq_true h, Bool.true_and, show decide (v ≤ (n : Int) - 1) = decide (v < (n : Int)) from decide_eq_decide.mpr (by omega)] at p
      exact p
    · refine ⟨false, by rw [decide_eq_false h], (fun z => nomatch z), fun _ => ?_⟩
      rw [decide_eq_false h, Bool.false_and] at p
      exact p
  · have e : numF d 0 ((n : Int) - 1) = false := by
      unfold numF
      split
      · rename_i v
        exact absurd rfl (hn v)
      · rfl
    rw [e] at p
    exact zb_f p
theorem t_f {A : Prop} (h : true = false) : A := nomatch h
theorem f_t {A : Prop} (h : false = true) : A := nomatch h
local macro_rules | `(tactic| walk_at "cj") => `(tactic| first
  | refine ⟨t_f, fun _ => ?_⟩
  | refine ⟨f_t, fun _ => ?_⟩
  | refine ⟨fun _ => ?_, t_f⟩
  | refine ⟨fun _ => ?_, f_t⟩)
theorem ok_size_of (T : Txt K mg L) : FnOk Pr w K mg base CX0 4 L.f_size_of L.d_size_of ["quotient"] (spP K 1 (W_size L.C_Quotient)) := by
  refine okP T.F_size_of sc_size_of rfl (fun cdv A outer s H E hr => ⟨_, (pss_one (ps_ret (pe_ifExp (pt_cmpR op_lt (pe_fld (pv 0) rfl) pe_int (nomark _)) (pe_un (un_own (ok_Quotient_neg T) (hr.mono (by decide)) T.b_Quotient_neg pass0 T.fi_Quotient_neg T.fn_Quotient_neg) (pv 0)) (pv 0)))), ?_⟩)
  walk_at "cl"
  rintro ds P hl ⟨q, m, rfl, hq, hm, p⟩
  refine s_rho (ρ' := [some _]) rfl ?_
  have hn : (q < 0) ↔ q.num < 0 := by rw [Rat.lt_iff]; simp
  unfold sizeF at p
  repeat walk_at "wk"
  by_cases h : q < 0
  · rw [if_pos h] at p
    refine sp_y (hn.mp h) ?_
    repeat walk_at "wk"
    exact p
  · rw [if_neg h] at p
    refine sp_n (fun z => h (hn.mpr z)) ?_
    repeat walk_at "wk"
    exact p
theorem ok_four_of_blocks (T : Txt K mg L) : FnOk Pr w K mg base CX0 1 L.f_four_of_blocks L.d_four_of_blocks ["blocks", "number", "band"] (spP K 3 W_four) := by
  refine okP T.F_four_of_blocks sc_four_of_blocks rfl (fun cdv A outer s H E hr => ⟨_, (pss_cons (ps_set (i := 3) sc_four_of_blocks.nd rfl (by first | exact Or.inl rfl | exact Or.inr rfl) (pe_op op_sub (pe_callB (r := Evl.rLenS K) call_len_seq rfl T.n_len (by decide +kernel) (pa_cons (pv 0) pa_nil)) (C8.pe_gc (by rfl) T.c_FOUR)))
    (pss_cons (ps_set (i := 4) sc_four_of_blocks.nd rfl (by first | exact Or.inl rfl | exact Or.inr rfl) (pe_ifExp (pt_cmpR op_lt (pv 1) (pv 3) (nomark _)) (pv 1) (pv 3)))
    (pss_one (ps_ret (pe_lc (own := [("at", 5)]) (g := gName 5) rfl sc_four_of_blocks.nd (pi_range2 (by rfl) T.n_range (pa_cons (pv 4) (pa_cons (pe_op op_add (pv 4) (C8.pe_gc (by rfl) T.c_FOUR)) pa_nil))) (blkOk_by (own := [("at", 5)]) (N := N_four_of_blocks) (sc := defScope s_four_of_blocks) (by decide +kernel)) (fun _ _ _ _ _ => (pg_name (i := 5) sc_four_of_blocks.nd rfl (by first | exact Or.inl rfl | exact Or.inr rfl))) (fun _ _ _ _ _ => pts_nil) (fun _ _ _ _ _ => (pe_ifExp (pt_cmpR op_eq (pv 5) (pv 1) (nomark _)) (pv 2) (pe_ix (r := rIxL K) ix_list (pe_ix (r := rIxL K) ix_list (pv 0) (pv 5) (fun _ _ => rfl)) pe_int (fun _ _ => rfl))))))))), ?_⟩)
  walk_at "cl"
  rintro ds P hl ⟨bs, t, band, rfl, h4, h100, hne, p⟩
  have hl2 : (bs.map fun b => D.lst (b.map fun (k : Nat) => D.int (k : Int))).length = bs.length := List.length_map ..
  unfold blkD
  refine s_rho (ρ' := [some _, some _, some _, none, none, none]) rfl ?_
  repeat walk_at "wk"
  rw [hl2]
  rw [show ((bs.length : Int) - 4) = ((bs.length - 4 : Nat) : Int) by omega]
  by_cases ht : t < bs.length - 4
  · refine ⟨true, by rw [decide_eq_true (by omega)], ?_⟩
    repeat (first | walk_at "wk" | walk_at "cj")
    refine e_lcX (fun i : Nat => D.int (((t : Nat) : Int) + (i : Int))) (fun i => D.int ((pkF bs t band (t + i) : Nat) : Int)) (go_name (by decide)) gm_name ?_
    repeat walk_at "wk"
    refine ⟨List.range 4, by rw [show (((t : Nat) : Int) + 4 - ((t : Nat) : Int)).toNat = 4 by omega]; rfl, Nat.le_of_ble_eq_true rfl, fun i hi => ?_, ?_⟩
    · have hi := List.mem_range.mp hi
      repeat walk_at "wk"
      by_cases he : t + i = t
      · refine ⟨true, by rw [decide_eq_true (by omega)], ?_⟩
        repeat (first | walk_at "wk" | walk_at "cj")
        unfold pkF
        rw [if_pos he]
        exact ⟨rfl, rfl⟩
      · refine ⟨false, by rw [decide_eq_false (by omega)], ?_⟩
        repeat (first | walk_at "wk" | walk_at "cj")
        refine r_ixL (blkD_at (by omega) (by omega)) ?_
        repeat (first | walk_at "wk" | walk_at "cj")
        rw [show (((t : Nat) : Int) + (i : Int)).toNat = t + i by omega]
        have hm : bs.getD (t + i) [] ∈ bs := by
          rw [List.getD_eq_getElem?_getD, List.getElem?_eq_getElem (show t + i < bs.length by omega)]
          exact List.getElem_mem _
        refine r_ixL (hd_at (hne _ hm)) ?_
        unfold pkF
        rw [if_neg he]
        exact ⟨rfl, rfl⟩
    repeat walk_at "wk"
    unfold fL fourF at p
    rw [show stF bs.length t = t from if_pos ht] at p
    exact p
  · refine ⟨false, by rw [decide_eq_false (by omega)], ?_⟩
    repeat (first | walk_at "wk" | walk_at "cj")
    refine e_lcX (fun i : Nat => D.int ((((bs.length - 4) : Nat) : Int) + (i : Int))) (fun i => D.int ((pkF bs t band ((bs.length - 4) + i) : Nat) : Int)) (go_name (by decide)) gm_name ?_
    repeat walk_at "wk"
    refine ⟨List.range 4, by rw [show ((((bs.length - 4) : Nat) : Int) + 4 - (((bs.length - 4) : Nat) : Int)).toNat = 4 by omega]; rfl, Nat.le_of_ble_eq_true rfl, fun i hi => ?_, ?_⟩
    · have hi := List.mem_range.mp hi
      repeat walk_at "wk"
      by_cases he : (bs.length - 4) + i = t
      · refine ⟨true, by rw [decide_eq_true (by omega)], ?_⟩
        repeat (first | walk_at "wk" | walk_at "cj")
        unfold pkF
        rw [if_pos he]
        exact ⟨rfl, rfl⟩
      · refine ⟨false, by rw [decide_eq_false (by omega)], ?_⟩
        repeat (first | walk_at "wk" | walk_at "cj")
        refine r_ixL (blkD_at (by omega) (by omega)) ?_
        repeat (first | walk_at "wk" | walk_at "cj")
        rw [show ((((bs.length - 4) : Nat) : Int) + (i : Int)).toNat = (bs.length - 4) + i by omega]
        have hm : bs.getD ((bs.length - 4) + i) [] ∈ bs := by
          rw [List.getD_eq_getElem?_getD, List.getElem?_eq_getElem (show (bs.length - 4) + i < bs.length by omega)]
          exact List.getElem_mem _
        refine r_ixL (hd_at (hne _ hm)) ?_
        unfold pkF
        rw [if_neg he]
        exact ⟨rfl, rfl⟩
    repeat walk_at "wk"
    unfold fL fourF at p
    rw [show stF bs.length t = bs.length - 4 from if_neg ht] at p
    exact p
theorem ok_other_determinantsL (T : Txt K mg L) : FnOk Pr w K mg base CX0 5 L.f_other_determinants L.d_other_determinants ["vectors", "bands"] (spP K 2 (W_odetsL L.C_Quotient)) := by
  refine okP T.F_other_determinants sc_other_determinants rfl (fun cdv A outer s H E hr => ⟨_, (pss_cons (ps_asg (pe_lc (own := [("band", 6)]) (g := gName 6) rfl sc_other_determinants.nd (pi_list (pv 1)) (blkOk_by (own := [("band", 6)]) (N := N_other_determinants) (sc := defScope s_other_determinants) (by decide +kernel)) (fun _ _ _ _ _ => (pg_name (i := 6) sc_other_determinants.nd rfl (by first | exact Or.inl rfl | exact Or.inr rfl))) (fun _ _ _ _ _ => pts_nil) (fun _ _ _ _ _ => (pe_ix (r := rIxT K) ix_tup (pv 0) (pv 6) (fun _ _ => rfl)))) (pg_lst (by rfl) (pgs_cons (pg_name (i := 2) sc_other_determinants.nd rfl (by first | exact Or.inl rfl | exact Or.inr rfl)) (pgs_cons (pg_name (i := 3) sc_other_determinants.nd rfl (by first | exact Or.inl rfl | exact Or.inr rfl)) (pgs_cons (pg_name (i := 4) sc_other_determinants.nd rfl (by first | exact Or.inl rfl | exact Or.inr rfl)) (pgs_cons (pg_name (i := 5) sc_other_determinants.nd rfl (by first | exact Or.inl rfl | exact Or.inr rfl)) pgs_nil))))))
    (pss_one (ps_ret (pe_lst (pa_cons (pe_call (ok_det T) (hr.mono (by decide)) (by rfl) T.m_det T.F_det.kp T.b_det .nil pass0 (pa_cons (pv 3) (pa_cons (pv 4) (pa_cons (pv 5) pa_nil)))) (pa_cons (pe_call (ok_det T) (hr.mono (by decide)) (by rfl) T.m_det T.F_det.kp T.b_det .nil pass0 (pa_cons (pv 2) (pa_cons (pv 4) (pa_cons (pv 5) pa_nil)))) (pa_cons (pe_call (ok_det T) (hr.mono (by decide)) (by rfl) T.m_det T.F_det.kp T.b_det .nil pass0 (pa_cons (pv 2) (pa_cons (pv 3) (pa_cons (pv 5) pa_nil)))) (pa_cons (pe_call (ok_det T) (hr.mono (by decide)) (by rfl) T.m_det T.F_det.kp T.b_det .nil pass0 (pa_cons (pv 2) (pa_cons (pv 3) (pa_cons (pv 4) pa_nil)))) pa_nil)))))))), ?_⟩)
  walk_at "cl"
  rintro ds P hl ⟨gs, ⟨i, j, k, l⟩, rfl, hg, ⟨h1, h2, h3, h4⟩, p⟩
  simp only at h1 h2 h3 h4
  refine s_rho (ρ' := [some _, some _, none, none, none, none, none]) rfl ?_
  have hi : i < gs.length := by omega
  have hj : j < gs.length := by omega
  have hk : k < gs.length := by omega
  have bi := bits_big (small_big hg _ (getD_mem hi))
  have bj := bits_big (small_big hg _ (getD_mem hj))
  have bk := bits_big (small_big hg _ (getD_mem hk))
  have bl := bits_big (small_big hg _ (getD_mem h4))
  repeat walk_at "wk"
  refine e_lcX (fun x : Nat => D.int (x : Int)) (fun x => dV L.C_Quotient (vI (gs.getD x zI))) (go_name (by decide)) gm_name ?_
  refine i_list ?_
  repeat walk_at "wk"
  refine ⟨_, rfl, [i, j, k, l], rfl, Nat.le_of_ble_eq_true rfl, fun x hx => ?_, ?_⟩
  · have hxl : x < gs.length := by
      simp only [List.mem_cons, List.not_mem_nil, or_false] at hx
      rcases hx with rfl | rfl | rfl | rfl <;> omega
    repeat walk_at "wk"
    exact ⟨rfl, rfl⟩
  refine g_lst rfl ?_
  show wGs K _ [dV L.C_Quotient (vI (gs.getD i zI)), dV L.C_Quotient (vI (gs.getD j zI)), dV L.C_Quotient (vI (gs.getD k zI)), dV L.C_Quotient (vI (gs.getD l zI))] _ _ _
  repeat walk_at "wk"
  unfold detsD at p
  simp only at p
  rw [← det_vI, ← det_vI, ← det_vI, ← det_vI] at p
  exact p
theorem ok_weights (T : Txt K mg L) : FnOk Pr w K mg base CX0 6 L.f_weights L.d_weights ["vectors", "differences", "blocks"] (spP K 3 (W_wts L.C_Quotient)) := by
  refine okP T.F_weights sc_weights rfl (fun cdv A outer s H E hr => ⟨_, (pss_cons (ps_setLc (i := 3) (own := [("difference", 11)]) (g := gName 11) rfl sc_weights.nd rfl rfl (sw_true rfl rfl rfl (by decide +kernel)) (pi_tup (pv 1)) (blkOk_by (own := [("difference", 11)]) (N := N_weights) (sc := defScope s_weights) (by decide +kernel)) (fun _ _ _ _ _ => (pg_name (i := 11) sc_weights.nd rfl (by first | exact Or.inl rfl | exact Or.inr rfl))) (fun _ _ _ _ _ => pts_nil) (fun _ _ _ _ _ => (pe_ifExp (pt_cmpR (op_cmpOwn (op := .Eq) (ok_Quotient_eq T) (hr.mono (by decide)) T.b_Quotient_eq pass0 T.fi_Quotient_eq T.fn_Quotient_eq (fun _ _ => rfl)) (pv 11) (pe_call0 (ok_zero T) (hr.mono (by decide)) (by rfl) T.m_zero T.F_zero.kp T.b_zero .nil pass0) (nomark _)) (pe_call0 (ok_one T) (hr.mono (by decide)) (by rfl) T.m_one T.F_one.kp T.b_one .nil pass0) (pe_call0 (ok_zero T) (hr.mono (by decide)) (by rfl) T.m_zero T.F_zero.kp T.b_zero .nil pass0))))
    (pss_cons (ps_for PassesOwn.never rfl (pi_enum (by rfl) T.n_enumerate (pa_cons (pv 2) pa_nil)) (pg_tup (by rfl) (pgs_cons (pg_name (i := 4) sc_weights.nd rfl (by first | exact Or.inl rfl | exact Or.inr rfl)) (pgs_cons (pg_name (i := 5) sc_weights.nd rfl (by first | exact Or.inl rfl | exact Or.inr rfl)) pgs_nil))) (pss_one (ps_for PassesOwn.never rfl (pi_list (pv 5)) (pg_name (i := 6) sc_weights.nd rfl (by first | exact Or.inl rfl | exact Or.inr rfl)) (pss_cons (ps_set (i := 7) sc_weights.nd rfl (by first | exact Or.inl rfl | exact Or.inr rfl) (pe_call (ok_four_of_blocks T) (hr.mono (by decide)) (by rfl) T.m_four_of_blocks T.F_four_of_blocks.kp T.b_four_of_blocks .nil pass0 (pa_cons (pv 2) (pa_cons (pv 4) (pa_cons (pv 6) pa_nil)))))
    (pss_one (ps_for PassesOwn.never rfl (RZ.pi_zipA (by rfl) T.n_zip (pa_cons (pv 7) (pa_cons (pe_call (ok_other_determinantsL T) (hr.mono (by decide)) (by rfl) T.m_other_determinants T.F_other_determinants.kp T.b_other_determinants .nil pass0 (pa_cons (pv 0) (pa_cons (pv 7) pa_nil))) pa_nil))) (pg_tup (by rfl) (pgs_cons (pg_name (i := 8) sc_weights.nd rfl (by first | exact Or.inl rfl | exact Or.inr rfl)) (pgs_cons (pg_name (i := 9) sc_weights.nd rfl (by first | exact Or.inl rfl | exact Or.inr rfl)) pgs_nil))) (pss_cons (ps_set (i := 10) sc_weights.nd rfl (by first | exact Or.inl rfl | exact Or.inr rfl) (pe_meth (pv 9) T.k_Quotient.cl T.me_Quotient_over (ok_Quotient_over T) (hr.mono (by decide)) T.b_Quotient_over .nil passL (pa_cons (pe_call (ok_size_of T) (hr.mono (by decide)) (by rfl) T.m_size_of T.F_size_of.kp T.b_size_of .nil pass0 (pa_cons (pe_ix (r := rIxT K) ix_tup (pv 1) (pv 8) (fun _ _ => rfl)) pa_nil)) pa_nil)))
    (pss_one (ps_asg (pe_op (op_own (ok_Quotient_add T) (hr.mono (by decide)) T.b_Quotient_add pass0 T.sf_Quotient T.fi_Quotient_add T.fn_Quotient_add) (pe_ix (r := rIxL K) ix_list (pv 3) (pv 8) (fun _ _ => rfl)) (pv 10)) (pg_sub (pv 3) (pv 8) set_list))))))))))
    (pss_one (ps_ret (pe_callTy (r := rTupOf K) call_tuple_of rfl T.n_tuple (by decide +kernel) (pa_cons (pv 3) pa_nil)))))), ?_⟩)
  walk_at "cl"
  rintro ds P hl ⟨gs, qs, m, rfl, hg, hlen, hq, hm, h4, p⟩
  have h7 := hg.1
  refine s_rho (ρ' := [some _, some _, some _, none, none, none, none, none, none, none, none, none]) rfl ?_
  repeat walk_at "wj"
  refine e_lcXO (fun d : Rat => dQ L.C_Quotient d) (fun d => dQ L.C_Quotient (if d = 0 then 1 else 0)) (go_name (by decide)) gm_name ?_
  repeat walk_at "wj"
  refine ⟨qs, rfl, by omega, fun d hd => ?_, fun xw => ?_⟩
  · have bd := hq d hd
    repeat walk_at "wj"
    by_cases h0 : d = 0
    · refine ⟨true, by rw [decide_eq_true h0], ?_⟩
      repeat (first | walk_at "wj" | walk_at "cj")
      rw [if_pos h0]
      exact ⟨rfl, rfl⟩
    · refine ⟨false, by rw [decide_eq_false h0], ?_⟩
      repeat (first | walk_at "wj" | walk_at "cj")
      rw [if_neg h0]
      exact ⟨rfl, rfl⟩
  have e0 : (qs.map fun d => dQ L.C_Quotient (if d = 0 then 1 else 0)) = (wOf qs (zE gs.length)).map (dQ L.C_Quotient) := by
    rw [← hlen, wOf_zero, List.map_map]
    rfl
  rw [e0]
  obtain ⟨hbl, hbb⟩ := blk_few hlen
  have hpre : ∀ t u, t ≤ (blksF qs).length → u ≤ (rowB (blksF qs) t).length → (t = (blksF qs).length → u = 0) → (psT (blksF qs) t ++ (rowB (blksF qs) t).take u).length ≤ 7 := fun t u ht hu hz => by
    rw [List.length_append, List.length_take]
    rcases Nat.lt_or_ge t (blksF qs).length with q | q
    · have := psT_le qs (show t + 1 ≤ (blksF qs).length by omega)
      rw [psT_succ, List.length_append] at this
      omega
    · have := psT_le qs ht
      have := hz (by omega)
      omega
  have hgood : ∀ t u, t ≤ (blksF qs).length → ∀ p ∈ psT (blksF qs) t ++ (rowB (blksF qs) t).take u, goodP qs p := fun t u ht p hp => by
    rcases List.mem_append.mp hp with hp | hp
    · exact psT_good h4 ht p hp
    · rcases Nat.lt_or_ge t (blksF qs).length with q | q
      · exact psT_good h4 (show t + 1 ≤ _ by omega) p (by rw [psT_succ]; exact List.mem_append_right _ (List.mem_of_mem_take hp))
      · unfold rowB at hp
        rw [List.getD_eq_getElem?_getD, List.getElem?_eq_none q] at hp
        simp at hp
  have hin : ∀ t u, t ≤ (blksF qs).length → ∀ p ∈ psT (blksF qs) t ++ (rowB (blksF qs) t).take u, in4 p gs.length := fun t u ht p hp => by
    rw [← hlen]
    exact (hgood t u ht p hp).1
  refine th_nx (s_seq ?_)
  refine s_for (i_enumL ?_)
  repeat walk_at "wj"
  refine ⟨_, rfl, fun t ρ O => (∃ k4 k5 k6 k7 k8 k9 k10 k11, ρ = [some (vD L.C_Quotient gs), some (.tup (qs.map (dQ L.C_Quotient))), some (blkD (blksF qs)), some (.loc xw), k4, k5, k6, k7, k8, k9, k10, k11]) ∧ O = [(xw, .lst ((wOf qs ((psT (blksF qs) t).foldl (addF gs) (zE gs.length))).map (dQ L.C_Quotient)))], ⟨⟨_, _, _, _, _, _, _, _, rfl⟩, rfl⟩, ?_, ?_⟩
  · rintro t d ρ' O' hd ⟨⟨k4, k5, k6, k7, k8, k9, k10, k11, rfl⟩, rfl⟩
    rw [enumD_get, List.getElem?_map, Nat.zero_add] at hd
    cases hb : (blksF qs)[t]? with
    | none => rw [hb] at hd; cases hd
    | some block =>
      rw [hb] at hd
      cases hd
      have ht := (List.getElem?_eq_some_iff.mp hb).1
      have hrow : rowB (blksF qs) t = block.map (fourF (blksF qs) t) := by
        unfold rowB
        rw [List.getD_eq_getElem?_getD, hb]
        rfl
      repeat walk_at "wj"
      refine s_for (i_list ?_)
      repeat walk_at "wj"
      refine ⟨fun u ρ O => (∃ k6 k7 k8 k9 k10 k11, ρ = [some (vD L.C_Quotient gs), some (.tup (qs.map (dQ L.C_Quotient))), some (blkD (blksF qs)), some (.loc xw), some (.int (t : Int)), some (.lst (block.map fun (k : Nat) => D.int (k : Int))), k6, k7, k8, k9, k10, k11]) ∧ O = [(xw, .lst ((wOf qs ((psT (blksF qs) t ++ (rowB (blksF qs) t).take u).foldl (addF gs) (zE gs.length))).map (dQ L.C_Quotient)))], ⟨⟨_, _, _, _, _, _, rfl⟩, by rw [List.take_zero, List.append_nil]⟩, ?_, ?_⟩
      · rintro u d ρ' O' hd ⟨⟨k6, k7, k8, k9, k10, k11, rfl⟩, rfl⟩
        rw [List.getElem?_map] at hd
        cases hbd : block[u]? with
        | none => rw [hbd] at hd; cases hd
        | some band =>
          rw [hbd] at hd
          cases hd
          have hul := (List.getElem?_eq_some_iff.mp hbd).1
          have hgp := four_good h4 hb (List.mem_of_getElem? hbd)
          have hit := itemsW_ok hg hlen hgp
          have hin4 : in4 (fourF (blksF qs) t band) gs.length := by rw [← hlen]; exact hgp.1
          have hnext : (psT (blksF qs) t ++ (rowB (blksF qs) t).take (u + 1)).foldl (addF gs) (zE gs.length) = addF gs ((psT (blksF qs) t ++ (rowB (blksF qs) t).take u).foldl (addF gs) (zE gs.length)) (fourF (blksF qs) t band) := by
            rw [List.take_succ, hrow, List.getElem?_map, hbd, ← List.append_assoc, List.foldl_append]
            rfl
          have hpb := pre_bits hg hlen _ (hin t u (by omega)) (hpre t u (by omega) (by rw [hrow, List.length_map]; omega) (fun z => by omega))
          have hel : ((psT (blksF qs) t ++ (rowB (blksF qs) t).take u).foldl (addF gs) (zE gs.length)).length = qs.length := by
            rw [foldF_len, hlen]
            exact List.length_replicate
          generalize (psT (blksF qs) t ++ (rowB (blksF qs) t).take u).foldl (addF gs) (zE gs.length) = es at hpb hel hnext ⊢
          refine g_name (s_rho (ρ' := [some (vD L.C_Quotient gs), some (.tup (qs.map (dQ L.C_Quotient))), some (blkD (blksF qs)), some (.loc xw), some (.int (t : Int)), some (.lst (block.map fun (k : Nat) => D.int (k : Int))), some (.int (band : Int)), k7, k8, k9, k10, k11]) rfl ?_)
          repeat walk_at "wj"
          refine ⟨blksF qs, t, band, rfl, h4, by omega, fun b hb' => (hbb b hb').1, ?_⟩
          repeat walk_at "wj"
          refine s_for ?_
          repeat walk_at "wj"
          refine ⟨gs, fourF (blksF qs) t band, rfl, hg, hin4, ?_⟩
          repeat walk_at "wj"
          rw [show ∀ e p, addF gs e p = (itemsW gs p).foldl addE e from fun _ _ => rfl] at hnext
          generalize fourF (blksF qs) t band = p4 at hit hnext ⊢
          unfold detsD
          refine ⟨_, _, .inr rfl, ?_⟩
          rw [zip_itemsW]
          refine ⟨fun v ρ O => (∃ k8 k9 k10, ρ = [some (vD L.C_Quotient gs), some (.tup (qs.map (dQ L.C_Quotient))), some (blkD (blksF qs)), some (.loc xw), some (.int (t : Int)), some (.lst (block.map fun (k : Nat) => D.int (k : Int))), some (.int (band : Int)), some (fL p4), k8, k9, k10, k11]) ∧ O = [(xw, .lst ((wOf qs (((itemsW gs p4).take v).foldl addE es)).map (dQ L.C_Quotient)))], ⟨⟨_, _, _, rfl⟩, rfl⟩, ?_, ?_⟩
          · rintro v d ρ' O' hd ⟨⟨k8, k9, k10, rfl⟩, rfl⟩
            rw [List.getElem?_map] at hd
            cases hx : (itemsW gs p4)[v]? with
            | none => rw [hx] at hd; cases hd
            | some x =>
              rw [hx] at hd
              cases hd
              obtain ⟨x1, x2, x3⟩ := hit x (List.mem_of_getElem? hx)
              have htf := take_fold (f := addE) (b := es) hx
              have hel' : (((itemsW gs p4).take v).foldl addE es).length = qs.length := by
                rw [foldE_len]
                exact hel
              have hb2 := foldE_bound ((itemsW gs p4).take v) es (2 ^ 32) (fun y hy => ⟨by rw [hel, hlen]; exact (hit y (List.mem_of_mem_take hy)).1, (hit y (List.mem_of_mem_take hy)).2.2⟩) (fun k => Nat.le_of_lt (hpb k))
              have hv4 : ((itemsW gs p4).take v).length ≤ 4 := by
                rw [List.length_take]
                exact Nat.min_le_right _ _
              have hb3 : ∀ k, ((((itemsW gs p4).take v).foldl addE es).getD k 0).natAbs < 2 ^ 34 := fun k => by
                have := hb2 k
                omega
              generalize ((itemsW gs p4).take v).foldl addE es = es2 at htf hel' hb3 ⊢
              obtain ⟨b, e⟩ := x
              simp only at x1 x2 x3
              have bw := w_bitsN (m := m) (by decide) hq hb3 ((wOf qs es2).getD b 0) (getD_memR (by rw [wOf_len]; omega))
              have ax := at_qs (C := L.C_Quotient) (qs := wOf qs es2) (t := b) (by rw [wOf_len]; omega)
              have ad := at_qs (C := L.C_Quotient) (qs := qs) (t := b) (by omega)
              have bd := hq (qs.getD b 0) (getD_memR (by omega))
              have be : bits ((e : Int) : Rat) 30 := bits_whole x3 (by decide)
              have bs := bits_size bd
              have hs0 := size_ne x2
              have hset := wOf_set (e := e) (show b < qs.length by omega) hel' x2
              change wG K _ (D.tup [.int (b : Int), dQ L.C_Quotient ((e : Int) : Rat)]) _ _ _
              repeat walk_at "wj"
              refine r_ixT ad ?_
              repeat walk_at "wj"
              refine ⟨_, m, rfl, bd, by omega, ?_⟩
              repeat walk_at "wj"
              refine r_ixO List.mem_cons_self ax ?_
              repeat walk_at "wj"
              refine st_setI (by simp only [List.length_map, wOf_len]; omega) ?_
              repeat walk_at "wj"
              refine ⟨⟨_, _, _, rfl⟩, ?_⟩
              rw [htf, ← hset, List.map_set, Int.toNat_natCast]
          · rintro ρ' O' ⟨⟨k8, k9, k10, rfl⟩, rfl⟩
            rw [List.length_map, List.take_length]
            refine ⟨⟨_, _, _, _, _, _, rfl⟩, ?_⟩
            rw [hnext]
      · rintro ρ' O' ⟨⟨k6, k7, k8, k9, k10, k11, rfl⟩, rfl⟩
        rw [List.length_map, show block.length = (rowB (blksF qs) t).length by rw [hrow, List.length_map], List.take_length, ← psT_succ]
        repeat walk_at "wj"
        exact ⟨⟨_, _, _, _, _, _, _, _, rfl⟩, rfl⟩
  · rintro ρ' O' ⟨⟨k4, k5, k6, k7, k8, k9, k10, k11, rfl⟩, rfl⟩
    rw [enumD_len, List.length_map]
    repeat walk_at "wj"
    refine c_tupO ?_
    exact p
theorem ok_are_weights (T : Txt K mg L) : FnOk Pr w K mg base CX0 5 L.f_are_weights L.d_are_weights ["observer", "value"] (spP K 2 (W_weightsG L.C_Observer L.C_Quotient)) := by
  refine okP T.F_are_weights sc_are_weights rfl (fun cdv A outer s H E hr => ⟨_, (pss_cons (ps_if (PW.pt (pw_or (pt_not (pt_val (pe_callB (r := rIsi K) call_isi rfl T.n_isinstance (by decide +kernel) (pa_cons (pv 1) (pa_cons (pe_bltn (v := .ty "tuple") (by rfl) T.n_tuple (by decide +kernel) rfl) pa_nil))))) (pw_or1 (pt_cmpR op_ne (pe_callB (r := Evl.rLenS K) call_len_seq rfl T.n_len (by decide +kernel) (pa_cons (pv 1) pa_nil)) (pe_callB (call_lenO (ok_Observer_len T) (hr.mono (by decide)) T.b_Observer_len T.fi_Observer_len T.fn_Observer_len) rfl T.n_len (by decide +kernel) (pa_cons (pv 0) pa_nil)) (nomark _))))) (pss_one (ps_ret pe_bl)) pss_nil)
    (pss_one (ps_ret (pe_callB (r := rAll K) (cr_all rfl) rfl T.n_all (by decide +kernel) (pa_cons (pe_lc (own := [("weight", 2)]) (g := gName 2) rfl sc_are_weights.nd (pi_tup (pv 1)) (blkOk_by (own := [("weight", 2)]) (N := N_are_weights) (sc := defScope s_are_weights) (by decide +kernel)) (fun _ _ _ _ _ => (pg_name (i := 2) sc_are_weights.nd rfl (by first | exact Or.inl rfl | exact Or.inr rfl))) (fun _ _ _ _ _ => pts_nil) (fun _ _ _ _ _ => (pe_and (pe_call (ok_is_quotient T) (hr.mono (by decide)) (by rfl) T.m_is_quotient T.F_is_quotient.kp T.b_is_quotient .nil pass0 (pa_cons (pv 2) pa_nil)) (pe_one (pe_cmpR (op_cmpOwn (op := .Lt) (ok_Quotient_lt T) (hr.mono (by decide)) T.b_Quotient_lt pass0 T.fi_Quotient_lt T.fn_Quotient_lt (fun _ _ => rfl)) (pe_call0 (ok_zero T) (hr.mono (by decide)) (by rfl) T.m_zero T.F_zero.kp T.b_zero .nil pass0) (pv 2) (nomark _)))))) pa_nil))))), ?_⟩)
  walk_at "cl"
  rintro ds P hl ⟨bs, d, rfl, hb, hd, p⟩
  have h7 := hb.2.1
  refine s_rho (ρ' := [some _, some _, none]) rfl ?_
  repeat walk_at "wk"
  refine c_isTup T hd (fun ds hds => ?_) (fun hn => ?_)
  rotate_left
  · have e : weightsF bs.length d = false := by
      unfold weightsF
      split
      · rename_i v
        exact absurd rfl (hn v)
      · rfl
    rw [e] at p
    refine ⟨false, rfl, (fun z => nomatch z), fun _ => ?_⟩
    repeat walk_at "wk"
    exact p
  subst hds
  refine ⟨true, rfl, fun _ => ?_, (fun z => nomatch z)⟩
  repeat walk_at "wk"
  refine c_lenOI ⟨bs, rfl, _, rfl, by omega, by omega, ?_⟩
  repeat walk_at "wk"
  unfold weightsF at p
  by_cases hlen : ds.length = bs.length
  · refine sm_y (by omega) ?_
    repeat walk_at "wk"
    simp only [decide_eq_true hlen, Bool.true_and] at p
    refine e_lcX (fun d => d) (fun d => D.bl (weightF d)) (go_name (by decide)) gm_name ?_
    repeat walk_at "wk"
    refine ⟨ds, by rw [List.map_id'], by omega, fun d hd' => ?_, ?_⟩
    · repeat walk_at "wk"
      refine ⟨d, rfl, hd.mem hd', ?_⟩
      cases hq : (qOf d).isSome with
      | false =>
        refine zb_f ⟨?_, rfl⟩
        unfold weightF
        split
        · rename_i h
          rw [h] at hq
          cases hq
        · rfl
      | true =>
        obtain ⟨q', rfl, hbq⟩ : ∃ q', d = dQ L.C_Quotient q' ∧ bits q' 600 := by
          have ht : Thg L.C_Quotient d := hd.mem hd'
          cases ht with
          | quo q' hb => exact ⟨q', rfl, hb⟩
          | int i => cases hq
          | str s => cases hq
          | non => cases hq
          | tup ds h => cases hq
          | lst ds => cases hq
          | dct => cases hq
        refine zb_t ?_
        repeat walk_at "wk"
        refine ⟨?_, rfl⟩
        unfold weightF
        rw [qOf_dQ]
    repeat walk_at "wk"
    refine c_allM ?_
    repeat walk_at "wk"
    exact p
  · refine sm_n (by omega) ?_
    repeat walk_at "wk"
    simp only [decide_eq_false hlen, Bool.false_and] at p
    exact p
theorem ok_matching_lamp (T : Txt K mg L) : FnOk Pr w K mg base CX0 8 L.f_matching_lamp L.d_matching_lamp ["observer", "first", "second"] (spP K 3 (W_mlamp L.C_Observer L.C_Quotient)) := by
  refine okP T.F_matching_lamp sc_matching_lamp rfl (fun cdv A outer s H E hr => ⟨_, (pss_cons (ps_expr (pe_call (ok_require_reflectanceO T) (hr.mono (by decide)) (by rfl) T.m_require_reflectance T.F_require_reflectance.kp T.b_require_reflectance .nil passL (pa_cons (pv 0) (pa_cons (pv 1) pa_nil))))
    (pss_cons (ps_expr (pe_call (ok_require_reflectanceO T) (hr.mono (by decide)) (by rfl) T.m_require_reflectance T.F_require_reflectance.kp T.b_require_reflectance .nil passL (pa_cons (pv 0) (pa_cons (pv 2) pa_nil))))
    (pss_cons (ps_set (i := 3) sc_matching_lamp.nd rfl (by first | exact Or.inl rfl | exact Or.inr rfl) (pe_call (ok_takenN T) (hr.mono (by decide)) (by rfl) T.m_taken T.F_taken.kp T.b_taken .nil pass0 (pa_cons (pv 1) (pa_cons (pv 2) pa_nil))))
    (pss_cons (ps_set (i := 4) sc_matching_lamp.nd rfl (by first | exact Or.inl rfl | exact Or.inr rfl) (pe_call (ok_sign_blocks T) (hr.mono (by decide)) (by rfl) T.m_sign_blocks T.F_sign_blocks.kp T.b_sign_blocks .nil pass0 (pa_cons (pv 3) pa_nil)))
    (pss_cons (ps_if (pt_cmpR op_eq (pe_callB (r := Evl.rLenS K) call_len_seq rfl T.n_len (by decide +kernel) (pa_cons (pv 4) pa_nil)) pe_int (nomark _)) (pss_one (ps_ret (pe_op op_repT (pe_tup (pa_cons (pe_call0 (ok_one T) (hr.mono (by decide)) (by rfl) T.m_one T.F_one.kp T.b_one .nil pass0) pa_nil)) (pe_callB (call_lenO (ok_Observer_len T) (hr.mono (by decide)) T.b_Observer_len T.fi_Observer_len T.fn_Observer_len) rfl T.n_len (by decide +kernel) (pa_cons (pv 0) pa_nil))))) pss_nil)
    (pss_cons (ps_if (pt_cmpR op_lt (pe_callB (r := Evl.rLenS K) call_len_seq rfl T.n_len (by decide +kernel) (pa_cons (pv 4) pa_nil)) (C8.pe_gc (by rfl) T.c_FOUR) (nomark _)) (pss_one (ps_ret pe_non)) pss_nil)
    (pss_one (ps_ret (pe_call (ok_weights T) (hr.mono (by decide)) (by rfl) T.m_weights T.F_weights.kp T.b_weights .nil pass0 (pa_cons (pe_fld (pv 0) rfl) (pa_cons (pv 3) (pa_cons (pv 4) pa_nil)))))))))))), ?_⟩)
  walk_at "cl"
  rintro ds P hl ⟨bs, xs, ys, m, rfl, hb, hx, hy, hqx, hqy, hm, p⟩
  have h7 := hb.2.1
  have h4 := hb.1
  have hgs := ok_small hb
  have hx1 : ∀ q ∈ xs, bits q m := fun q hq => (hqx q hq).1
  have hy1 : ∀ q ∈ ys, bits q m := fun q hq => (hqy q hq).1
  have hrx : reflF bs.length (.tup (xs.map (dQ L.C_Quotient))) = true := by
    have := refl_map (C := L.C_Quotient) fun q hq => (hqx q hq).2
    rw [hx] at this
    exact this
  have hry : reflF bs.length (.tup (ys.map (dQ L.C_Quotient))) = true := by
    have := refl_map (C := L.C_Quotient) fun q hq => (hqy q hq).2
    rw [hy] at this
    exact this
  have hdl := difF_len hx hy
  have hdb := difF_bits hx1 hy1
  refine s_rho (ρ' := [some _, some _, some _, none, none]) rfl ?_
  repeat walk_at "wk"
  refine ⟨bs, _, rfl, hb, thg_row hx1 (by omega), fun _ => ?_, fun z => by rw [hrx] at z; cases z⟩
  repeat walk_at "wk"
  refine ⟨bs, _, rfl, hb, thg_row hy1 (by omega), fun _ => ?_, fun z => by rw [hry] at z; cases z⟩
  repeat walk_at "wk"
  refine ⟨xs, ys, m, rfl, by omega, by omega, hx1, hy1, by omega, ?_⟩
  repeat walk_at "wk"
  refine ⟨difF xs ys, rfl, by omega, ?_⟩
  have hbl := (blk_few hdl).1
  have hl2 : ((blksF (difF xs ys)).map fun b => D.lst (b.map fun (k : Nat) => D.int (k : Int))).length = (blksF (difF xs ys)).length := List.length_map ..
  unfold lampW at p
  change thenP K _ _ (Out.nx [some (dObs L.C_Observer L.C_Quotient bs), some (.tup (xs.map (dQ L.C_Quotient))), some (.tup (ys.map (dQ L.C_Quotient))), some (.tup ((difF xs ys).map (dQ L.C_Quotient))), some (.lst ((blksF (difF xs ys)).map fun b => D.lst (b.map fun (k : Nat) => D.int (k : Int))))]) _
  repeat walk_at "wk"
  rw [hl2]
  by_cases h0 : (blksF (difF xs ys)).length = 0
  · rw [if_pos h0] at p
    refine ⟨true, by rw [decide_eq_true (show (((blksF (difF xs ys)).length : Nat) : Int) = 0 by omega)], ?_⟩
    repeat (first | walk_at "wk" | walk_at "cj")
    refine c_lenOI ⟨bs, rfl, _, rfl, by omega, by omega, ?_⟩
    repeat (first | walk_at "wk" | walk_at "cj")
    refine r_repT (fun z => nomatch z) ⟨by omega, by omega, Nat.le_of_ble_eq_true rfl⟩ ?_
    repeat (first | walk_at "wk" | walk_at "cj")
    have e : (List.replicate (bs.length : Int).toNat [dQ L.C_Quotient 1]).flatten = (List.replicate bs.length (1 : Rat)).map (dQ L.C_Quotient) := by
      rw [Int.toNat_natCast, List.map_replicate]
      induction bs.length with
      | zero => rfl
      | succ n ih => rw [List.replicate_succ, List.flatten_cons, ih, List.replicate_succ]; rfl
    rw [e]
    exact p
  rw [if_neg h0] at p
  refine ⟨false, by rw [decide_eq_false (show ¬ (((blksF (difF xs ys)).length : Nat) : Int) = 0 by omega)], ?_⟩
  repeat (first | walk_at "wk" | walk_at "cj")
  rw [hl2]
  by_cases h1 : (blksF (difF xs ys)).length < 4
  · rw [if_pos h1] at p
    refine ⟨true, by rw [decide_eq_true (show (((blksF (difF xs ys)).length : Nat) : Int) < 4 by omega)], ?_⟩
    repeat (first | walk_at "wk" | walk_at "cj")
    exact p
  rw [if_neg h1] at p
  refine ⟨false, by rw [decide_eq_false (show ¬ (((blksF (difF xs ys)).length : Nat) : Int) < 4 by omega)], ?_⟩
  repeat (first | walk_at "wk" | walk_at "cj")
  refine e_fld (e_var rfl ⟨_, _, _, rfl, T.k_Observer.cl, T.na_Observer_vectors, rfl, ?_⟩)
  repeat walk_at "wk"
  exact ⟨bs, difF xs ys, m + m + 1, rfl, hgs, hdl, hdb, by omega, by omega, p⟩
theorem ok_do_match (T : Txt K mg L) : FnOk Pr w K mg base CX0 7 L.f_do_match L.d_do_match ["observer", "first", "second", "weights"] (spP K 4 (W_domatch L.C_Observer L.C_Quotient)) := by
  refine okP T.F_do_match sc_do_match rfl (fun cdv A outer s H E hr => ⟨_, (pss_cons (ps_set (i := 4) sc_do_match.nd rfl (by first | exact Or.inl rfl | exact Or.inr rfl) (pe_zip3v (by rfl) T.n_zip (pa_cons (pv 3) (pa_cons (pe_call (ok_takenN T) (hr.mono (by decide)) (by rfl) T.m_taken T.F_taken.kp T.b_taken .nil pass0 (pa_cons (pv 1) (pa_cons (pv 2) pa_nil))) (pa_cons (pe_fld (pv 0) rfl) pa_nil)))))
    (pss_one (ps_ret (pe_cmpR (op_eqTB (eqB_q (ok_Quotient_eq T) T.fi_Quotient_eq T.fn_Quotient_eq T.b_Quotient_eq) (hr.mono (by decide))) (pe_call (ok_sum_of T) (hr.mono (by decide)) (by rfl) T.m_sum_of T.F_sum_of.kp T.b_sum_of .nil pass0 (pa_cons (pe_lc (own := [("weight", 5), ("difference", 6), ("vector", 7)]) (g := gTup K 3 (gCons (gName 5) (gCons (gName 6) (gCons (gName 7) gNil)))) rfl sc_do_match.nd (pi_zipv (pv 4)) (blkOk_by (own := [("weight", 5), ("difference", 6), ("vector", 7)]) (N := N_do_match) (sc := defScope s_do_match) (by decide +kernel)) (fun _ _ _ _ _ => (by exact (pg_tup (by rfl) (pgs_cons (pg_name (i := 5) sc_do_match.nd rfl (by first | exact Or.inl rfl | exact Or.inr rfl)) (pgs_cons (pg_name (i := 6) sc_do_match.nd rfl (by first | exact Or.inl rfl | exact Or.inr rfl)) (pgs_cons (pg_name (i := 7) sc_do_match.nd rfl (by first | exact Or.inl rfl | exact Or.inr rfl)) pgs_nil)))))) (fun _ _ _ _ _ => pts_nil) (fun _ _ _ _ _ => (pe_call (ok_scaled T) (hr.mono (by decide)) (by rfl) T.m_scaled T.F_scaled.kp T.b_scaled .nil pass0 (pa_cons (pe_op (op_own (ok_Quotient_mul T) (hr.mono (by decide)) T.b_Quotient_mul pass0 T.sf_Quotient T.fi_Quotient_mul T.fn_Quotient_mul) (pv 5) (pv 6)) (pa_cons (pv 7) pa_nil))))) pa_nil)) (pe_call0 (ok_black T) (hr.mono (by decide)) (by rfl) T.m_black T.F_black.kp T.b_black .nil pass0) (nomark _))))), ?_⟩)
  walk_at "cl"
  rintro ds P hl ⟨bs, xs, ys, ws, m, rfl, hb, hx, hy, hw, hqx, hqy, hm, hqw, p⟩
  have h7 := hb.2.1
  have hgs := ok_small hb
  have hdl := difF_len hx hy
  have hdb := difF_bits hqx hqy
  refine s_rho (ρ' := [some _, some _, some _, some _, none, none, none, none]) rfl ?_
  repeat walk_at "wk"
  refine e_zip3v ?_
  repeat walk_at "wk"
  refine ⟨xs, ys, m, rfl, by omega, by omega, hqx, hqy, by omega, ?_⟩
  repeat walk_at "wk"
  refine e_fld (e_var rfl ⟨_, _, _, rfl, T.k_Observer.cl, T.na_Observer_vectors, rfl, ?_⟩)
  repeat walk_at "wk"
  refine ⟨true, true, true, _, _, _, rfl, fun N a b c hn ha hb' hc => ?_⟩
  repeat walk_at "wk"
  refine e_lcX (fun k : Nat => D.tup [dQ L.C_Quotient (ws.getD k 0), dQ L.C_Quotient ((difF xs ys).getD k 0), dV L.C_Quotient (vI (gI bs k))]) (fun k => dV L.C_Quotient (mulV (ws.getD k 0 * (difF xs ys).getD k 0) (vI (gI bs k)))) (go_three (by decide) (by decide) (by decide)) gm_three ?_
  refine i_zipv ?_
  repeat walk_at "wk"
  refine ⟨true, true, true, a, b, c, N, _, _, _, [], rfl, rfl, hn, ha, hb', hc, by rw [List.length_map]; omega, ?_⟩
  have hbq : ∀ k, k < bs.length → bits (ws.getD k 0) 600 ∧ bits ((difF xs ys).getD k 0) (m + m + 1) ∧ bitsV (vI (gI bs k)) 14 := fun k hk => ⟨hqw _ (getD_memR (by omega)), hdb _ (getD_memR (by omega)), bits_big (small_big hgs _ (getD_mem hk))⟩
  refine ⟨List.range bs.length, zip3_rows L.C_Quotient ws (difF xs ys) bs hw hdl, by rw [List.length_range]; omega, fun k hk => ?_, ?_⟩
  · have hk := List.mem_range.mp hk
    obtain ⟨b1, b2, b3⟩ := hbq k hk
    refine g_tup rfl (gs_cons' (g_name (gs_cons' (g_name (gs_cons' (g_name (gs_nil' ?_)))))))
    change wE K _ [some (dObs L.C_Observer L.C_Quotient bs), some (.tup (xs.map (dQ L.C_Quotient))), some (.tup (ys.map (dQ L.C_Quotient))), some (.tup (ws.map (dQ L.C_Quotient))), some (.loc (N + 5)), some (dQ L.C_Quotient (ws.getD k 0)), some (dQ L.C_Quotient ((difF xs ys).getD k 0)), some (dV L.C_Quotient (vI (gI bs k)))] _ _
    repeat walk_at "wk"
    exact ⟨rfl, rfl⟩
  repeat walk_at "wk"
  refine ⟨(List.range bs.length).map fun k => mulV (ws.getD k 0 * (difF xs ys).getD k 0) (vI (gI bs k)), 816, .inl (by rw [List.map_map]; rfl), fun v hv => ?_, ?_, ?_⟩
  · obtain ⟨k, hk, rfl⟩ := List.mem_map.mp hv
    have hk := List.mem_range.mp hk
    obtain ⟨b1, b2, b3⟩ := hbq k hk
    exact bitsV_mono (bitsV_mul (bits_mul b1 b2) b3) (by omega)
  · rw [List.length_map, List.length_range]
    have : (816 + 1) * (bs.length + 1) ≤ (816 + 1) * 8 := Nat.mul_le_mul_left _ (by omega)
    omega
  rw [← mulL_rows ws (difF xs ys) bs hw hdl]
  change wE K _ _ _ _
  have hcb := bits_colV (mulL_bits hqw hdb) (small_big hgs) h7
  unfold matchF at p
  change wE K _ _ _ fun y O2 => wR K _ (dV L.C_Quotient (colV bs (mulL ws (difF xs ys)))) y O2 _
  repeat walk_at "wk"
  refine r_eqV2 (n := 1) hcb bitsV_zero (by omega) ?_
  exact p
theorem ok_explain_lamp (T : Txt K mg L) : FnOk Pr w K mg base CX0 9 L.f_explain_lamp L.d_explain_lamp ["observer", "first", "second"] (spP K 3 (W_expllamp L.C_Observer L.C_Quotient)) := by
  refine okP T.F_explain_lamp sc_explain_lamp rfl (fun cdv A outer s H E hr => ⟨_, (pss_cons (ps_set (i := 3) sc_explain_lamp.nd rfl (by first | exact Or.inl rfl | exact Or.inr rfl) (pe_call (ok_matching_lamp T) (hr.mono (by decide)) (by rfl) T.m_matching_lamp T.F_matching_lamp.kp T.b_matching_lamp .nil pass0 (pa_cons (pv 0) (pa_cons (pv 1) (pa_cons (pv 2) pa_nil)))))
    (pss_cons (ps_if (pt_cmp (pc_isN (pv 3)) rfl) (pss_one (ps_ret (pe_tup (pa_cons (C8.pe_gc (by rfl) T.c_FEW) (pa_cons (pe_call (ok_crossings T) (hr.mono (by decide)) (by rfl) T.m_crossings T.F_crossings.kp T.b_crossings .nil passL (pa_cons (pv 1) (pa_cons (pv 2) pa_nil))) pa_nil))))) pss_nil)
    (pss_one (ps_ret (pe_tup (pa_cons (C8.pe_gc (by rfl) T.c_LAMP) (pa_cons (pv 3) pa_nil))))))), ?_⟩)
  walk_at "cl"
  rintro ds P hl ⟨bs, xs, ys, m, rfl, hb, hx, hy, hqx, hqy, hm, p⟩
  have h7 := hb.2.1
  refine s_rho (ρ' := [some _, some _, some _, none]) rfl ?_
  unfold lampPap at p
  repeat walk_at "wk"
  refine ⟨bs, xs, ys, m, rfl, hb, hx, hy, hqx, hqy, by omega, ?_⟩
  repeat walk_at "wk"
  refine e_isN ?_
  repeat walk_at "wk"
  cases hw : lampW bs (difF xs ys) with
  | some ws =>
    rw [hw] at p
    refine isn_tup ?_
    repeat walk_at "wk"
    exact p
  | none =>
    rw [hw] at p
    refine isn_non ?_
    repeat walk_at "wk"
    refine ⟨xs, ys, m, rfl, by omega, by omega, fun q hq => (hqx q hq).1, fun q hq => (hqy q hq).1, by omega, fun z => absurd (by omega) z, fun _ => ?_⟩
    repeat walk_at "wk"
    exact p
local macro_rules | `(tactic| walk_at "cj") => `(tactic| first
  | refine ⟨t_f, fun _ => ?_⟩
  | refine ⟨f_t, fun _ => ?_⟩
  | refine ⟨fun _ => ?_, t_f⟩
  | refine ⟨fun _ => ?_, f_t⟩)
theorem ok_judge_lamp (T : Txt K mg L) : FnOk Pr w K mg base (L2.CX Pr w) 8 L.f_judge_lamp L.d_judge_lamp ["observer", "first", "second", "paper"] (spX K 4 (W_jlG L.C_Observer L.C_Quotient L.C_BadReflectance)) := by
  refine okY T.F_judge_lamp sc_judge_lamp rfl (fun cdv A outer s H0 E hr => ⟨_, (pss_cons (ps_expr (pe_call (ok_require_reflectanceO T) (hr.mono (by decide)) (by rfl) T.m_require_reflectance T.F_require_reflectance.kp T.b_require_reflectance .nil (passes_call (takes_of rfl rfl rfl rfl) (fun _ _ _ _ h => h)) (pa_cons (pv 0) (pa_cons (pv 1) pa_nil))))
    (pss_cons (ps_expr (pe_call (ok_require_reflectanceO T) (hr.mono (by decide)) (by rfl) T.m_require_reflectance T.F_require_reflectance.kp T.b_require_reflectance .nil (passes_call (takes_of rfl rfl rfl rfl) (fun _ _ _ _ h => h)) (pa_cons (pv 0) (pa_cons (pv 2) pa_nil))))
    (pss_cons (ps_if (pt_val (pe_call (ok_has_form T) (hr.mono (by decide)) (by rfl) T.m_has_form T.F_has_form.kp T.b_has_form .nil pass0 (pa_cons (pv 3) (pa_cons (C8.pe_gc (by rfl) T.c_LAMP) (pa_cons pe_int pa_nil))))) (pss_one (ps_ret (pe_and (pe_call (ok_are_weights T) (hr.mono (by decide)) (by rfl) T.m_are_weights T.F_are_weights.kp T.b_are_weights .nil pass0 (pa_cons (pv 0) (pa_cons (pe_ix (r := rIx K) ix_seq (pv 3) pe_int (fun _ _ => rfl)) pa_nil))) (pe_one (pe_call (ok_do_match T) (hr.mono (by decide)) (by rfl) T.m_do_match T.F_do_match.kp T.b_do_match .nil pass0 (pa_cons (pv 0) (pa_cons (pv 1) (pa_cons (pv 2) (pa_cons (pe_ix (r := rIx K) ix_seq (pv 3) pe_int (fun _ _ => rfl)) pa_nil))))))))) pss_nil)
    (pss_cons (ps_if (pt_not (pt_val (pe_call (ok_has_form T) (hr.mono (by decide)) (by rfl) T.m_has_form T.F_has_form.kp T.b_has_form .nil pass0 (pa_cons (pv 3) (pa_cons (C8.pe_gc (by rfl) T.c_FEW) (pa_cons pe_int pa_nil)))))) (pss_one (ps_ret pe_bl)) pss_nil)
    (pss_one (ps_ret (pe_and (pe_call (ok_is_numberG T) (hr.mono (by decide)) (by rfl) T.m_is_number T.F_is_number.kp T.b_is_number .nil pass0 (pa_cons (pe_ix (r := rIx K) ix_seq (pv 3) pe_int (fun _ _ => rfl)) (pa_cons pe_int (pa_cons (C8.pe_gc (by rfl) T.c_MOST_FEW) pa_nil)))) (pe_and (pe_cmpR (op_neTB (eqB_q (ok_Quotient_eq T) T.fi_Quotient_eq T.fn_Quotient_eq T.b_Quotient_eq) (hr.mono (by decide))) (pv 1) (pv 2) (nomark _)) (pe_one (pe_cmpR op_eq (pe_call (ok_crossings T) (hr.mono (by decide)) (by rfl) T.m_crossings T.F_crossings.kp T.b_crossings .nil (passes_call (takes_of rfl rfl rfl rfl) (fun _ _ _ _ h => h)) (pa_cons (pv 1) (pa_cons (pv 2) pa_nil))) (pe_ix (r := rIx K) ix_seq (pv 3) pe_int (fun _ _ => rfl)) (nomark _))))))))))), ?_⟩)
  walk_at "cl"
  rintro ds P PX hl ⟨bs, d1, d2, d, rfl, hb, h1, h2, hd, px1, px2, pg⟩ F1 B0 lets
  have h7 := hb.2.1
  refine xs_rho (ρ' := [some _, some _, some _, some _]) rfl ?_
  refine xs_seq (xs_dropX (P' := fun _ => True) lets ?_)
  repeat walk_at "wk"
  refine ⟨bs, d1, rfl, hb, h1, fun r1 => ?_, fun z => px1 z⟩
  repeat walk_at "wk"
  refine xs_dropX (P' := fun _ => True) lets ?_
  repeat walk_at "wk"
  refine ⟨bs, d2, rfl, hb, h2, fun r2 => ?_, fun z => px2 r1 z⟩
  obtain ⟨xs, ys, m, rfl, rfl, hx, hy, hqx, hqy, hm, p⟩ := pg r1 r2
  unfold jlF at p
  repeat walk_at "wk"
  refine ⟨d, Str.ofString "lamp", 2, rfl, hd, by decide, ?_⟩
  cases h : formF d (Str.ofString "lamp") 2 with
  | true =>
    rw [h, Bool.true_and] at p
    obtain ⟨ds, rfl, h2', h3⟩ := form_tup h
    obtain ⟨a, b, rfl⟩ := len2 h2'
    have ea : a = .raw (.str (Str.ofString "lamp")) := h3
    have hno : formF (.tup [a, b]) (Str.ofString "few") 2 = false := by rw [ea]; rfl
    rw [hno, Bool.false_and, Bool.or_false] at p
    change P (.bl (weightsF bs.length b && matchF bs (qsOf b) (difF xs ys))) at p
    refine zb_t ?_
    refine xs_lift ?_
    repeat walk_at "wk"
    refine r_ixOr2 (r_t1 ?_)
    repeat walk_at "wk"
    refine ⟨bs, b, rfl, hb, hd.item (i := 1) rfl, ?_⟩
    cases hw : weightsF bs.length b with
    | false =>
      rw [hw, Bool.false_and] at p
      refine zb_f ?_
      repeat walk_at "wk"
      exact p
    | true =>
      rw [hw, Bool.true_and] at p
      obtain ⟨ws, rfl, hwl, hwq⟩ := weights_quo (hd.item (i := 1) rfl) hw
      rw [qsOf_map] at p
      refine zb_t ?_
      repeat walk_at "wk"
      refine r_ixOr2 (r_t1 ?_)
      repeat walk_at "wk"
      exact ⟨bs, xs, ys, ws, m, rfl, hb, hx, hy, hwl, hqx, hqy, hm, fun q hq => (hwq q hq).1, p⟩
  | false =>
    rw [h, Bool.false_and, Bool.false_or] at p
    refine zb_f ?_
    repeat walk_at "wk"
    refine ⟨d, Str.ofString "few", 2, rfl, hd, by decide, ?_⟩
    cases h' : formF d (Str.ofString "few") 2 with
    | false =>
      rw [h', Bool.false_and] at p
      refine zd_f ?_
      refine xs_lift ?_
      repeat walk_at "wk"
      exact p
    | true =>
      rw [h', Bool.true_and] at p
      obtain ⟨ds, rfl, h2', h3⟩ := form_tup h'
      obtain ⟨a, b, rfl⟩ := len2 h2'
      change P (.bl (numF b 0 2 && (!decide (xs = ys) && decide (crossN (difF xs ys) = (natOf b : Int))))) at p
      refine zd_t ?_
      repeat walk_at "wk"
      refine xs_lift ?_
      repeat walk_at "wk"
      refine r_ixOr2 (r_t1 ?_)
      repeat walk_at "wk"
      refine ⟨b, _, _, rfl, hd.item (i := 1) rfl, ?_⟩
      cases hn : numF b 0 2 with
      | false =>
        rw [hn, Bool.false_and] at p
        refine zb_f ?_
        repeat walk_at "wk"
        exact p
      | true =>
        rw [hn, Bool.true_and] at p
        obtain ⟨i, rfl, hi0, hi2⟩ := num_int hn
        have hi : 0 ≤ i := by
          unfold numF at hn
          rw [Bool.and_eq_true, decide_eq_true_eq] at hn
          exact hn.1
        rw [show ((natOf (D.int i) : Nat) : Int) = i from Int.toNat_of_nonneg hi] at p
        refine zb_t ?_
        repeat walk_at "wk"
        refine r_neTB (m := m) (by omega) hqx hqy (by omega) ?_
        by_cases he : xs = ys
        · rw [decide_eq_true he, Bool.not_true, Bool.false_and] at p
          refine ⟨false, by rw [decide_eq_true he]; rfl, ?_⟩
          repeat (first | walk_at "wk" | walk_at "cj")
          exact p
        · rw [decide_eq_false he, Bool.not_false, Bool.true_and] at p
          refine ⟨true, by rw [decide_eq_false he]; rfl, ?_⟩
          repeat (first | walk_at "wk" | walk_at "cj")
          refine ⟨xs, ys, m, rfl, by omega, by omega, hqx, hqy, by omega, fun z => absurd (by omega) z, fun _ => ?_⟩
          repeat walk_at "wk"
          refine r_ixOr2 (r_t1 ?_)
          repeat walk_at "wk"
          exact p
theorem ok_law_crossings (T : Txt K mg L) : FnOk Pr w K mg base CX0 1 L.f_law_crossings L.d_law_crossings ["first", "second"] (spP K 2 W_lcross) := by
  refine okP T.F_law_crossings sc_law_crossings rfl (fun cdv A outer s H E hr => ⟨_, (pss_cons (ps_set (i := 2) sc_law_crossings.nd rfl (by first | exact Or.inl rfl | exact Or.inr rfl) (pe_lc (own := [("k", 3)]) (g := gName 3) rfl sc_law_crossings.nd (pi_range1 (by rfl) T.n_range (pa_cons (pe_callB (r := Evl.rLenS K) call_len_seq rfl T.n_len (by decide +kernel) (pa_cons (pv 0) pa_nil)) pa_nil)) (blkOk_by (own := [("k", 3)]) (N := N_law_crossings) (sc := defScope s_law_crossings) (by decide +kernel)) (fun _ _ _ _ _ => (pg_name (i := 3) sc_law_crossings.nd rfl (by first | exact Or.inl rfl | exact Or.inr rfl))) (fun _ _ _ _ _ => (pts_one (pt_cmpR op_ne (pe_ix (r := rIxL K) ix_list (pv 0) (pv 3) (fun _ _ => rfl)) (pe_ix (r := rIxL K) ix_list (pv 1) (pv 3) (fun _ _ => rfl)) (nomark _)))) (fun _ _ _ _ _ => (pe_callTy (r := rInt1) call_int1 rfl T.n_int (by decide +kernel) (pa_cons (pe_cmpR op_gt (pe_ix (r := rIxL K) ix_list (pv 0) (pv 3) (fun _ _ => rfl)) (pe_ix (r := rIxL K) ix_list (pv 1) (pv 3) (fun _ _ => rfl)) (nomark _)) pa_nil)))))
    (pss_one (ps_ret (pe_callB (r := rSum K) (cr_sum rfl) rfl T.n_sum (by decide +kernel) (pa_cons (pe_lc (own := [("k", 3)]) (g := gName 3) rfl sc_law_crossings.nd (pi_range1 (by rfl) T.n_range (pa_cons (pe_op op_sub (pe_callB (r := Evl.rLenS K) call_len_seq rfl T.n_len (by decide +kernel) (pa_cons (pv 2) pa_nil)) pe_int) pa_nil)) (blkOk_by (own := [("k", 3)]) (N := N_law_crossings) (sc := defScope s_law_crossings) (by decide +kernel)) (fun _ _ _ _ _ => (pg_name (i := 3) sc_law_crossings.nd rfl (by first | exact Or.inl rfl | exact Or.inr rfl))) (fun _ _ _ _ _ => pts_nil) (fun _ _ _ _ _ => (pe_callTy (r := rInt1) call_int1 rfl T.n_int (by decide +kernel) (pa_cons (pe_cmpR op_ne (pe_ix (r := rIxL K) ix_list (pv 2) (pv 3) (fun _ _ => rfl)) (pe_ix (r := rIxL K) ix_list (pv 2) (pe_op op_add (pv 3) pe_int) (fun _ _ => rfl)) (nomark _)) pa_nil)))) pa_nil))))), ?_⟩)
  walk_at "cl"
  rintro ds P hl ⟨fs, ss, rfl, hlen, h7, p⟩
  refine s_rho (ρ' := [some _, some _, none, none]) rfl ?_
  repeat walk_at "wk"
  refine e_lcF (fun k : Nat => D.int (0 + (k : Int))) (fun k => decide (fs.getD k 0 ≠ ss.getD k 0)) (fun k => D.int (if ss.getD k 0 < fs.getD k 0 then 1 else 0)) (go_name (by decide)) gm_name ?_
  repeat walk_at "wk"
  refine ⟨List.range fs.length, by rw [Int.toNat_natCast]; rfl, by rw [List.length_range]; omega, fun k hk => ?_, ?_⟩
  · have hk := List.mem_range.mp hk
    repeat walk_at "wk"
    rw [show (0 + (k : Int)).toNat = k by omega]
    refine ⟨_, rfl, by simp, rfl, fun _ => ?_⟩
    repeat walk_at "wk"
    rw [show (0 + (k : Int)).toNat = k by omega]
    refine ⟨?_, rfl⟩
    by_cases h : ss.getD k 0 < fs.getD k 0
    · rw [decide_eq_true h, if_pos h]
      rfl
    · rw [decide_eq_false h, if_neg h]
      rfl
  have e : (((List.range fs.length).filter fun k => decide (fs.getD k 0 ≠ ss.getD k 0)).map fun k => D.int (if ss.getD k 0 < fs.getD k 0 then 1 else 0)) = (sgI fs ss).map fun i => D.int i := by
    unfold sgI
    rw [List.map_map]
    rfl
  rw [e]
  have hsl : (sgI fs ss).length ≤ 7 := by
    unfold sgI
    rw [List.length_map]
    have := List.length_filter_le (fun k => decide (fs.getD k 0 ≠ ss.getD k 0)) (List.range fs.length)
    rw [List.length_range] at this
    omega
  change P (.int (sR ((sgI fs ss).length - 1) fun k => if (sgI fs ss).getD k 0 ≠ (sgI fs ss).getD (k + 1) 0 then 1 else 0)) at p
  generalize sgI fs ss = sg at hsl p ⊢
  repeat walk_at "wk"
  refine e_lcX (fun k : Nat => D.int (0 + (k : Int))) (fun k => D.int (if sg.getD k 0 ≠ sg.getD (k + 1) 0 then 1 else 0)) (go_name (by decide)) gm_name ?_
  repeat walk_at "wk"
  refine ⟨List.range (sg.length - 1), by rw [show ((sg.length : Int) - 1).toNat = sg.length - 1 by omega]; rfl, by rw [List.length_range]; omega, fun k hk => ?_, ?_⟩
  · have hk := List.mem_range.mp hk
    repeat walk_at "wk"
    rw [show (0 + (k : Int)).toNat = k by omega, show (0 + (k : Int) + 1).toNat = k + 1 by omega]
    refine ⟨?_, rfl⟩
    by_cases h : sg.getD k 0 = sg.getD (k + 1) 0
    · rw [if_neg (show ¬ (sg.getD k 0 ≠ sg.getD (k + 1) 0) from fun z => z h), decide_eq_true h]
      rfl
    · rw [if_pos (show sg.getD k 0 ≠ sg.getD (k + 1) 0 from h), decide_eq_false h]
      rfl
  repeat walk_at "wk"
  exact p
theorem lt_pow3 {n m : Nat} (h : n ≤ 7) : n * 2 ^ m < 2 ^ (m + 3) := by
  have := Nat.two_pow_pos m
  rw [Nat.pow_succ, Nat.pow_succ, Nat.pow_succ]
  have : n * 2 ^ m ≤ 7 * 2 ^ m := Nat.mul_le_mul_right _ h
  omega
def prj (t : Nat) (g : I3) : Int := match t with | 0 => g.x | 1 => g.y | _ => g.z
theorem weights_some : ∀ (ds : List D), ds.all weightF = true → (ds.all fun d => (qOf d).isSome) = true
  | [], _ => rfl
  | d :: ds, h => by
    rw [List.all_cons, Bool.and_eq_true] at h ⊢
    refine ⟨?_, weights_some ds h.2⟩
    have h1 := h.1
    unfold weightF at h1
    cases hq : qOf d with
    | none => rw [hq] at h1; cases h1
    | some q => rfl
theorem weightF_quo {C : Addr} {q : Rat} : weightF (dQ C q) = decide (0 < q.num) := by
  unfold weightF
  rw [qOf_dQ]
  exact decide_eq_decide.mpr (by rw [Rat.lt_iff]; simp)
theorem thp_quo {C : Addr} {d : D} (hd : Thp C d) (h : (qOf d).isSome = true) : ∃ q, d = dQ C q ∧ bits q 600 := by
  cases hd with
  | quo q hb => exact ⟨q, rfl, hb⟩
  | _ => exact absurd (show (false = true) from h) (by decide)
theorem toPs_intI : ∀ xs : List Int, toPs (xs.map fun i => D.int i) = xs.map PyData.int
  | [] => by rw [List.map_nil, toPs]; rfl
  | x :: xs => by rw [List.map_cons, toPs, toPs_intI xs]; rfl
theorem plDs_intI : ∀ xs : List Int, plDs (xs.map fun i => D.int i) = true
  | [] => rfl
  | i :: is => by
    show (plD (.int i) && plDs (is.map fun i => D.int i)) = true
    rw [plDs_intI is]
    rfl
theorem shaped_intI (is : List Int) : SeqAt.shaped (toP (dL is)) = true := by
  unfold SeqAt.shaped
  rw [Bool.and_eq_true]
  constructor
  · rw [toP, toPs_intI, PyData.canLay0]
    refine canLayAll_of fun p hp => ?_
    obtain ⟨i, _, rfl⟩ := List.mem_map.mp hp
    rfl
  · rw [decide_eq_true_iff, toP, toPs_intI, PyData.depth]
    have : PyData.depthAll (is.map PyData.int) ≤ 0 := depthAll_le fun p hp => by
      obtain ⟨i, _, rfl⟩ := List.mem_map.mp hp
      exact Nat.le_refl _
    omega
theorem eqv_intI : ∀ xs ys : List Int, PyData.eqvAll (xs.map PyData.int) (ys.map PyData.int) = decide (xs = ys)
  | [], [] => rfl
  | [], y :: ys => by simp [PyData.eqvAll]
  | x :: xs, [] => by simp [PyData.eqvAll]
  | x :: xs, y :: ys => by
    rw [List.map_cons, List.map_cons, PyData.eqvAll, eqv_intI xs ys, Bool.eq_iff_iff]
    simp [PyData.eqv]
theorem r_neIntL {K : PySem.W.Frag} {O : Store} {P : D → Store → Prop} {xs ys : List Int} (p : P (.bl (!decide (xs = ys))) O) : wR K (rNeD K) (dL xs) (dL ys) O P := r_neDD (by show plD (.lst _) = true; simp only [plD]; exact plDs_intI xs) (by show plD (.lst _) = true; simp only [plD]; exact plDs_intI ys) (shaped_intI xs) (shaped_intI ys) (by
  rw [show toP (dL xs) = PyData.list (xs.map PyData.int) from by rw [toP, toPs_intI], show toP (dL ys) = PyData.list (ys.map PyData.int) from by rw [toP, toPs_intI], PyData.eqv, eqv_intI]
  exact p)
theorem ok_law_judged (T : Txt K mg L) : FnOk Pr w K mg base CX0 4 L.f_law_judged L.d_law_judged ["bands", "first", "second", "paper"] (spP K 4 (W_ljudL L.C_Quotient)) := by
  refine okP T.F_law_judged sc_law_judged rfl (fun cdv A outer s H E hr => ⟨_, (pss_cons (ps_if (pt_val (pe_call (ok_law_kind T) (hr.mono (by decide)) (by rfl) T.m_law_kind T.F_law_kind.kp T.b_law_kind .nil pass0 (pa_cons (pv 3) (pa_cons pe_str (pa_cons pe_int pa_nil))))) (pss_one (ps_ret (pe_and (pe_cmpR (op_neD (hr.units)) (pv 1) (pv 2) (nomark _)) (pe_and (pe_call (ok_law_is_band T) (hr.mono (by decide)) (by rfl) T.m_law_is_band T.F_law_is_band.kp T.b_law_is_band .nil pass0 (pa_cons (pe_ix (r := rIx K) ix_seq (pv 3) pe_int (fun _ _ => rfl)) (pa_cons pe_int pa_nil))) (pe_one (pe_cmpR op_eq (pe_call (ok_law_crossings T) (hr.mono (by decide)) (by rfl) T.m_law_crossings T.F_law_crossings.kp T.b_law_crossings .nil pass0 (pa_cons (pv 1) (pa_cons (pv 2) pa_nil))) (pe_ix (r := rIx K) ix_seq (pv 3) pe_int (fun _ _ => rfl)) (nomark _))))))) pss_nil)
    (pss_cons (ps_if (PW.pt (pw_or (pt_not (pt_val (pe_call (ok_law_kind T) (hr.mono (by decide)) (by rfl) T.m_law_kind T.F_law_kind.kp T.b_law_kind .nil pass0 (pa_cons (pv 3) (pa_cons pe_str (pa_cons pe_int pa_nil)))))) (pw_or (pt_not (pt_val (pe_callB (r := rIsi K) call_isi rfl T.n_isinstance (by decide +kernel) (pa_cons (pe_ix (r := rIx K) ix_seq (pv 3) pe_int (fun _ _ => rfl)) (pa_cons (pe_bltn (v := .ty "tuple") (by rfl) T.n_tuple (by decide +kernel) rfl) pa_nil))))) (pw_or1 (pt_cmpR op_ne (pe_callB (r := Evl.rLenS K) call_len_seq rfl T.n_len (by decide +kernel) (pa_cons (pe_ix (r := rIx K) ix_seq (pv 3) pe_int (fun _ _ => rfl)) pa_nil)) (pe_callB (r := Evl.rLenS K) call_len_seq rfl T.n_len (by decide +kernel) (pa_cons (pv 0) pa_nil)) (nomark _)))))) (pss_one (ps_ret pe_bl)) pss_nil)
    (pss_cons (ps_if (pt_not (pt_val (pe_callB (r := rAll K) (cr_all rfl) rfl T.n_all (by decide +kernel) (pa_cons (pe_lc (own := [("weight", 5)]) (g := gName 5) rfl sc_law_judged.nd (pi_tup (pe_ix (r := rIx K) ix_seq (pv 3) pe_int (fun _ _ => rfl))) (blkOk_by (own := [("weight", 5)]) (N := N_law_judged) (sc := defScope s_law_judged) (by decide +kernel)) (fun _ _ _ _ _ => (pg_name (i := 5) sc_law_judged.nd rfl (by first | exact Or.inl rfl | exact Or.inr rfl))) (fun _ _ _ _ _ => pts_nil) (fun _ _ _ _ _ => (pe_and (pe_callB (r := rIsi K) call_isi rfl T.n_isinstance (by decide +kernel) (pa_cons (pv 5) (pa_cons (pe_glob (v := .ref L.C_Quotient) (by rfl) T.mg_Quotient rfl) pa_nil))) (pe_one (pe_cmpR op_gt (pe_fldK (K := K) rfl (pv 5) rfl) pe_int (nomark _)))))) pa_nil)))) (pss_one (ps_ret pe_bl)) pss_nil)
    (pss_cons (ps_set (i := 4) sc_law_judged.nd rfl (by first | exact Or.inl rfl | exact Or.inr rfl) pe_int)
    (pss_cons (ps_for PassesOwn.never rfl (pi_tup (pe_ix (r := rIx K) ix_seq (pv 3) pe_int (fun _ _ => rfl))) (pg_name (i := 5) sc_law_judged.nd rfl (by first | exact Or.inl rfl | exact Or.inr rfl)) (pss_one (ps_set (i := 4) sc_law_judged.nd rfl (by first | exact Or.inl rfl | exact Or.inr rfl) (pe_op op_mulW (pv 4) (pe_fld (pv 5) rfl)))))
    (pss_cons (ps_for PassesOwn.never rfl (pi_range1 (by rfl) T.n_range (pa_cons pe_int pa_nil)) (pg_name (i := 6) sc_law_judged.nd rfl (by first | exact Or.inl rfl | exact Or.inr rfl)) (pss_cons (ps_set (i := 7) sc_law_judged.nd rfl (by first | exact Or.inl rfl | exact Or.inr rfl) (pe_lc (own := [("k", 8)]) (g := gName 8) rfl sc_law_judged.nd (pi_range1 (by rfl) T.n_range (pa_cons (pe_callB (r := Evl.rLenS K) call_len_seq rfl T.n_len (by decide +kernel) (pa_cons (pv 0) pa_nil)) pa_nil)) (blkOk_by (own := [("k", 8)]) (N := N_law_judged) (sc := defScope s_law_judged) (by decide +kernel)) (fun _ _ _ _ _ => (pg_name (i := 8) sc_law_judged.nd rfl (by first | exact Or.inl rfl | exact Or.inr rfl))) (fun _ _ _ _ _ => pts_nil) (fun _ _ _ _ _ => (pe_op op_mulW (pe_op op_mulW (pe_fldK (K := K) rfl (pe_ix (r := rIx K) ix_seq (pe_ix (r := rIx K) ix_seq (pv 3) pe_int (fun _ _ => rfl)) (pv 8) (fun _ _ => rfl)) rfl) (pe_op op_fdivG (pv 4) (pe_fldK (K := K) rfl (pe_ix (r := rIx K) ix_seq (pe_ix (r := rIx K) ix_seq (pv 3) pe_int (fun _ _ => rfl)) (pv 8) (fun _ _ => rfl)) rfl))) (pe_ix (r := rIxT K) ix_tup (pe_ix (r := rIxT K) ix_tup (pv 0) (pv 8) (fun _ _ => rfl)) (pv 6) (fun _ _ => rfl))))))
    (pss_one (ps_if (pt_cmpR op_ne (pe_callB (r := rSum K) (cr_sum rfl) rfl T.n_sum (by decide +kernel) (pa_cons (pe_lc (own := [("k", 8)]) (g := gName 8) rfl sc_law_judged.nd (pi_range1 (by rfl) T.n_range (pa_cons (pe_callB (r := Evl.rLenS K) call_len_seq rfl T.n_len (by decide +kernel) (pa_cons (pv 0) pa_nil)) pa_nil)) (blkOk_by (own := [("k", 8)]) (N := N_law_judged) (sc := defScope s_law_judged) (by decide +kernel)) (fun _ _ _ _ _ => (pg_name (i := 8) sc_law_judged.nd rfl (by first | exact Or.inl rfl | exact Or.inr rfl))) (fun _ _ _ _ _ => pts_nil) (fun _ _ _ _ _ => (pe_op op_mulW (pe_ix (r := rIxL K) ix_list (pv 7) (pv 8) (fun _ _ => rfl)) (pe_op op_sub (pe_ix (r := rIxL K) ix_list (pv 1) (pv 8) (fun _ _ => rfl)) (pe_ix (r := rIxL K) ix_list (pv 2) (pv 8) (fun _ _ => rfl)))))) pa_nil)) pe_int (nomark _)) (pss_one (ps_ret pe_bl)) pss_nil))))
    (pss_one (ps_ret pe_bl)))))))), ?_⟩)
  walk_at "cl"
  rintro ds P hl ⟨bs, fs, ss, d, rfl, hb, hf, hs, hfb, hsb, hd, p⟩
  have h7 := hb.2.1
  have h4 := hb.1
  have hg := ok_small hb
  unfold jlF at p
  refine s_rho (ρ' := [some _, some _, some _, some _, none, none, none, none, none]) rfl ?_
  repeat walk_at "wk"
  refine ⟨d, Str.ofString "few", 2, rfl, hd, by decide, ?_⟩
  cases h : formF d (Str.ofString "few") 2 with
  | true =>
    obtain ⟨ds, rfl, h2, h3⟩ := form_tup h
    obtain ⟨a, b, rfl⟩ := len2 h2
    have ea : a = .raw (.str (Str.ofString "few")) := h3
    have hno : formF (.tup [a, b]) (Str.ofString "lamp") 2 = false := by rw [ea]; rfl
    rw [h, hno, Bool.false_and, Bool.false_or, Bool.true_and] at p
    change P (.bl (numF b 0 2 && (!decide (q12 fs = q12 ss) && decide (crossN (difF (q12 fs) (q12 ss)) = (natOf b : Int))))) at p
    have e12 : decide (q12 fs = q12 ss) = decide (fs = ss) := decide_eq_decide.mpr q12_inj
    rw [e12, show crossN (difF (q12 fs) (q12 ss)) = chgN (sgI fs ss) from (cross_law hf hs).symm] at p
    refine ⟨true, rfl, ?_⟩
    repeat (first | walk_at "wk" | walk_at "cj")
    refine r_neIntL ?_
    by_cases he : fs = ss
    · rw [decide_eq_true he, Bool.not_true, Bool.false_and, Bool.and_false] at p
      refine ⟨false, by rw [decide_eq_true he]; rfl, ?_⟩
      repeat (first | walk_at "wk" | walk_at "cj")
      exact p
    rw [decide_eq_false he, Bool.not_false, Bool.true_and] at p
    refine ⟨true, by rw [decide_eq_false he]; rfl, ?_⟩
    repeat (first | walk_at "wk" | walk_at "cj")
    refine r_ixOr2 (r_t1 ?_)
    repeat (first | walk_at "wk" | walk_at "cj")
    refine ⟨b, 3, rfl, hd.item (i := 1) rfl, ?_⟩
    rw [show (((3 : Nat) : Int) - 1) = 2 by decide]
    cases hn : numF b 0 2 with
    | false =>
      rw [hn, Bool.false_and] at p
      refine ⟨false, rfl, ?_⟩
      repeat (first | walk_at "wk" | walk_at "cj")
      exact p
    | true =>
      rw [hn, Bool.true_and] at p
      obtain ⟨i, rfl, hi0, hi2⟩ := num_int hn
      rw [show ((natOf (D.int i) : Nat) : Int) = i from Int.toNat_of_nonneg hi0] at p
      refine ⟨true, rfl, ?_⟩
      repeat (first | walk_at "wk" | walk_at "cj")
      refine ⟨fs, ss, rfl, by omega, by omega, ?_⟩
      repeat (first | walk_at "wk" | walk_at "cj")
      refine r_ixOr2 (r_t1 ?_)
      repeat (first | walk_at "wk" | walk_at "cj")
      exact p
  | false =>
    rw [h, Bool.false_and, Bool.or_false] at p
    refine ⟨false, rfl, ?_⟩
    repeat (first | walk_at "wk" | walk_at "cj")
    refine ⟨d, Str.ofString "lamp", 2, rfl, hd, by decide, ?_⟩
    cases h' : formF d (Str.ofString "lamp") 2 with
    | false =>
      rw [h', Bool.false_and] at p
      refine ⟨false, rfl, ?_⟩
      repeat (first | walk_at "wk" | walk_at "cj")
      exact p
    | true =>
      rw [h', Bool.true_and] at p
      obtain ⟨ds, rfl, h2, h3⟩ := form_tup h'
      obtain ⟨a, b, rfl⟩ := len2 h2
      change P (.bl (weightsF bs.length b && matchF bs (qsOf b) (difF (q12 fs) (q12 ss)))) at p
      have hdb : Thp L.C_Quotient b := hd.item (i := 1) rfl
      refine ⟨true, rfl, ?_⟩
      repeat (first | walk_at "wk" | walk_at "cj")
      refine r_ixOr2 (r_t1 ?_)
      repeat (first | walk_at "wk" | walk_at "cj")
      refine c_isTup T hdb.thg (fun ds hds => ?_) (fun hn => ?_)
      rotate_left
      · have e : weightsF bs.length b = false := by
          unfold weightsF
          split
          · rename_i v
            exact absurd rfl (hn v)
          · rfl
        rw [e, Bool.false_and] at p
        refine ⟨false, rfl, ?_⟩
        repeat (first | walk_at "wk" | walk_at "cj")
        exact p
      subst hds
      have hdl := hdb.len
      refine ⟨true, rfl, ?_⟩
      repeat (first | walk_at "wk" | walk_at "cj")
      refine r_ixOr2 (r_t1 ?_)
      repeat (first | walk_at "wk" | walk_at "cj")
      by_cases hlen : ds.length = bs.length
      rotate_left
      · rw [show weightsF bs.length (.tup ds) = (decide (ds.length = bs.length) && ds.all weightF) from rfl, decide_eq_false hlen, Bool.false_and, Bool.false_and] at p
        refine ⟨true, by rw [decide_eq_false (by omega)]; rfl, ?_⟩
        repeat (first | walk_at "wk" | walk_at "cj")
        exact p
      rw [show weightsF bs.length (.tup ds) = (decide (ds.length = bs.length) && ds.all weightF) from rfl, decide_eq_true hlen, Bool.true_and] at p
      refine ⟨false, by rw [decide_eq_true (by omega)]; rfl, ?_⟩
      repeat (first | walk_at "wk" | walk_at "cj")
      refine e_lcX (fun d => d) (fun d => D.bl (weightF d)) (go_name (by decide)) gm_name ?_
      repeat (first | walk_at "wk" | walk_at "cj")
      refine r_ixOr2 (r_t1 ?_)
      repeat (first | walk_at "wk" | walk_at "cj")
      refine ⟨ds, by rw [List.map_id'], by omega, fun d hd' => ?_, ?_⟩
      · have hd1 := hdb.mem hd'
        repeat (first | walk_at "wk" | walk_at "cj")
        refine c_isQuo T hd1.thg ?_
        cases hq : (qOf d).isSome with
        | false =>
          refine ⟨false, rfl, ?_⟩
          repeat (first | walk_at "wk" | walk_at "cj")
          unfold weightF
          rw [Option.isSome_eq_false_iff, Option.isNone_iff_eq_none] at hq
          rw [hq]
          exact ⟨rfl, rfl⟩
        | true =>
          obtain ⟨q, rfl, hbq⟩ := thp_quo hd1 hq
          refine ⟨true, rfl, ?_⟩
          repeat (first | walk_at "wk" | walk_at "cj")
          rw [weightF_quo]
          exact ⟨rfl, rfl⟩
      repeat (first | walk_at "wk" | walk_at "cj")
      refine c_allM ?_
      cases hq : ds.all weightF with
      | false =>
        rw [hq, Bool.false_and] at p
        refine ⟨false, rfl, ?_⟩
        repeat (first | walk_at "wk" | walk_at "cj")
        exact p
      | true =>
        rw [hq, Bool.true_and] at p
        refine ⟨true, rfl, ?_⟩
        repeat (first | walk_at "wk" | walk_at "cj")
        obtain ⟨ws, rfl, hwq⟩ := ws_quo ds (fun d hd' => (hdb.mem hd').thg) hq
        rw [List.length_map] at hlen hdl
        rw [qsOf_map, show difF (q12 fs) (q12 ss) = difF (fs.map fun v => Rat.divInt v 12) (ss.map fun v => Rat.divInt v 12) from rfl, match_law hf hs hlen] at p
        have hwb : ∀ q ∈ ws, bits q 600 := fun q hq' => (hwq q hq').1
        refine s_for ?_
        repeat (first | walk_at "wk" | walk_at "cj")
        refine r_ixOr2 (r_t1 ?_)
        repeat (first | walk_at "wk" | walk_at "cj")
        refine ⟨fun t ρ O => (∃ k5, ρ = [some (bD bs), some (dL fs), some (dL ss), some (.tup [a, .tup (ws.map (dQ L.C_Quotient))]), some (.int (dProd (ws.take t))), k5, none, none, none]) ∧ O = [], ⟨⟨_, rfl⟩, rfl⟩, ?_, ?_⟩
        · rintro t d ρ' O' hd' ⟨⟨k5, rfl⟩, rfl⟩
          rw [List.getElem?_map] at hd'
          cases hqt : ws[t]? with
          | none => rw [hqt] at hd'; cases hd'
          | some q =>
            rw [hqt] at hd'
            cases hd'
            have ht := (List.getElem?_eq_some_iff.mp hqt).1
            have bq := hwb q (List.mem_of_getElem? hqt)
            have bw := dProd_lt (m := 600) (qs := ws.take t) fun x hx => hwb x (List.mem_of_mem_take hx)
            rw [List.length_take, Nat.min_eq_left (by omega)] at bw
            have e : dProd (ws.take (t + 1)) = dProd (ws.take t) * (q.den : Int) := by rw [List.take_succ, hqt]; exact dProd_snoc _ _
            repeat walk_at "wk"
            refine r_rI (wide_mul bw (b := 600) (by rw [Int.natAbs_natCast]; exact bq.2) (by omega) (by decide) (by omega)) ?_
            refine ⟨⟨some (dQ L.C_Quotient q), ?_⟩, rfl⟩
            rw [e]
        rintro ρ' O' ⟨⟨k5, rfl⟩, rfl⟩
        rw [List.length_map, List.take_length]
        have bw := dProd_lt hwb
        have wp := dProd_pos ws
        refine th_nx ?_
        refine s_seq ?_
        refine s_for ?_
        repeat walk_at "wk"
        refine ⟨fun t ρ O => (∃ k6 k7 k8, ρ = [some (bD bs), some (dL fs), some (dL ss), some (.tup [a, .tup (ws.map (dQ L.C_Quotient))]), some (.int (dProd ws)), k5, k6, k7, k8]) ∧ O = [] ∧ ∀ t' < t, lampN bs ws fs ss (prj t') = true, ⟨⟨_, _, _, rfl⟩, rfl, fun t' h => by omega⟩, ?_, ?_⟩
        · rintro t d ρ' O' hd' ⟨⟨k6, k7, k8, rfl⟩, rfl, hall⟩
          obtain ⟨ht, rfl⟩ : t < 3 ∧ d = .int (t : Int) := by
            match t, hd' with
            | 0, hd' => exact ⟨by omega, by cases hd'; rfl⟩
            | 1, hd' => exact ⟨by omega, by cases hd'; rfl⟩
            | 2, hd' => exact ⟨by omega, by cases hd'; rfl⟩
            | t + 3, hd' => cases hd'
          refine g_name (s_rho (ρ' := [some (bD bs), some (dL fs), some (dL ss), some (.tup [a, .tup (ws.map (dQ L.C_Quotient))]), some (.int (dProd ws)), k5, some (.int (t : Int)), k7, k8]) rfl ?_)
          repeat walk_at "wk"
          refine e_lcX (fun k : Nat => D.int (0 + (k : Int))) (fun k : Nat => D.int ((ws.getD k 0).num * (dProd ws / ((ws.getD k 0).den : Int)) * prj t (gI bs k))) (go_name (by decide)) gm_name ?_
          repeat walk_at "wk"
          refine ⟨List.range bs.length, by rw [Int.toNat_natCast]; rfl, by rw [List.length_range]; omega, fun k hk => ?_, ?_⟩
          · have hk := List.mem_range.mp hk
            have hgk : gI bs k ∈ bs := getD_mem (by omega)
            obtain ⟨⟨gx0, gx1⟩, ⟨gy0, gy1⟩, gz0, gz1⟩ := hg.2 _ hgk
            have hq0 : ws[k]? = some (ws.getD k 0) := by rw [List.getD_eq_getElem?_getD, List.getElem?_eq_getElem (show k < ws.length by omega)]; rfl
            have a0 : atI (ws.map (dQ L.C_Quotient)) (0 + (k : Int)) = some (dQ L.C_Quotient (ws.getD k 0)) := by
              rw [atI_nat' (by omega) (by rw [List.length_map]; omega), show (0 + (k : Int)).toNat = k by omega, List.getElem?_map, hq0]
              rfl
            have bq := hwb _ (List.mem_of_getElem? hq0)
            generalize ws.getD k 0 = q at a0 bq ⊢
            have hden : 0 < (q.den : Int) := by have := q.den_pos; omega
            have bd : (dProd ws / (q.den : Int)).natAbs < 2 ^ (600 * ws.length + 1) := Nat.lt_of_le_of_lt (by rw [Int.natAbs_ediv_of_nonneg (by omega)]; exact Nat.div_le_self _ _) bw
            have bg : (prj t (gI bs k)).natAbs < 2 ^ 9 := by
              unfold prj
              split <;> omega
            have at3 : atI [D.int (gI bs k).x, D.int (gI bs k).y, D.int (gI bs k).z] (t : Int) = some (.int (prj t (gI bs k))) := by
              match t, ht with
              | 0, _ => rfl
              | 1, _ => rfl
              | 2, _ => rfl
            repeat walk_at "wk"
            refine r_ixOr2 (r_t1 ?_)
            repeat walk_at "wk"
            refine r_ixOr2 (r_ixT a0 ?_)
            repeat walk_at "wk"
            refine r_ixOr2 (r_t1 ?_)
            repeat walk_at "wk"
            refine r_ixOr2 (r_ixT a0 ?_)
            repeat walk_at "wk"
            refine r_rI (cdivG (n := 600) (by omega) (by rw [Int.natAbs_natCast]; exact bq.2) (by decide)) ?_
            rw [Int.fdiv_eq_ediv_of_nonneg _ (by omega)]
            have b1 := wide_lt bq.1 bd
            refine r_rI (wide_mul bq.1 bd (by decide) (by omega) (by omega)) ?_
            repeat walk_at "wk"
            rw [show (0 + (k : Int)).toNat = k by omega]
            refine r_ixT at3 ?_
            exact r_rI (wide_mul b1 bg (by omega) (by decide) (by omega)) ⟨rfl, rfl⟩
          have bpart : ∀ k, k < bs.length → ((ws.getD k 0).num * (dProd ws / ((ws.getD k 0).den : Int)) * prj t (gI bs k)).natAbs < 2 ^ (600 + (600 * ws.length + 1) + 9) := fun k hk => by
            have hgk : gI bs k ∈ bs := getD_mem hk
            obtain ⟨⟨gx0, gx1⟩, ⟨gy0, gy1⟩, gz0, gz1⟩ := hg.2 _ hgk
            have bq := hwb _ (getD_memR (qs := ws) (show k < ws.length by omega))
            have bd : (dProd ws / ((ws.getD k 0).den : Int)).natAbs < 2 ^ (600 * ws.length + 1) := Nat.lt_of_le_of_lt (by rw [Int.natAbs_ediv_of_nonneg (by omega)]; exact Nat.div_le_self _ _) bw
            have bg : (prj t (gI bs k)).natAbs < 2 ^ 9 := by
              unfold prj
              split <;> omega
            exact wide_lt (wide_lt bq.1 bd) bg
          have hF : lampN bs ws fs ss (prj t) = decide ((sR bs.length fun k => ((ws.getD k 0).num * (dProd ws / ((ws.getD k 0).den : Int)) * prj t (gI bs k)) * difI fs ss k) = 0) := rfl
          generalize hgp : (fun k : Nat => (ws.getD k 0).num * (dProd ws / ((ws.getD k 0).den : Int)) * prj t (gI bs k)) = part
          have hpk : ∀ k, (ws.getD k 0).num * (dProd ws / ((ws.getD k 0).den : Int)) * prj t (gI bs k) = part k := fun k => by rw [← hgp]
          simp only [hpk] at bpart hF ⊢
          have atp : ∀ k, k < bs.length → atI ((List.range bs.length).map fun k => D.int (part k)) (0 + (k : Int)) = some (.int (part k)) := fun k hk => by
            rw [atI_nat' (by omega) (by rw [List.length_map, List.length_range]; omega), show (0 + (k : Int)).toNat = k by omega, List.getElem?_map, List.getElem?_range hk]
            rfl
          repeat walk_at "wk"
          refine e_lcX (fun k : Nat => D.int (0 + (k : Int))) (fun k : Nat => D.int (part k * difI fs ss k)) (go_name (by decide)) gm_name ?_
          repeat walk_at "wk"
          refine ⟨List.range bs.length, by rw [Int.toNat_natCast]; rfl, by rw [List.length_range]; omega, fun k hk => ?_, ?_⟩
          · have hk := List.mem_range.mp hk
            have b1 := bpart k hk
            have f1 := hfb (fs.getD k 0) (by rw [List.getD_eq_getElem?_getD, List.getElem?_eq_getElem (show k < fs.length by omega)]; exact List.getElem_mem _)
            have s1 := hsb (ss.getD k 0) (by rw [List.getD_eq_getElem?_getD, List.getElem?_eq_getElem (show k < ss.length by omega)]; exact List.getElem_mem _)
            have b2 : (difI fs ss k).natAbs < 2 ^ 8 := by
              unfold difI
              omega
            repeat walk_at "wk"
            refine r_ixL (atp k hk) ?_
            repeat walk_at "wk"
            rw [show (0 + (k : Int)).toNat = k by omega]
            exact r_rI (wide_mul b1 b2 (by omega) (by decide) (by omega)) ⟨rfl, rfl⟩
          repeat walk_at "wk"
          by_cases he : (sR bs.length fun k => part k * difI fs ss k) = 0
          · refine ⟨false, by rw [decide_eq_true he]; rfl, ?_⟩
            repeat (first | walk_at "wk" | walk_at "cj")
            refine ⟨⟨_, _, _, rfl⟩, rfl, fun t' h' => ?_⟩
            rcases Nat.lt_succ_iff_lt_or_eq.mp h' with h' | rfl
            · exact hall t' h'
            · rw [hF]
              exact decide_eq_true he
          · refine ⟨true, by rw [decide_eq_false he]; rfl, ?_⟩
            repeat (first | walk_at "wk" | walk_at "cj")
            rw [decide_eq_false he] at hF
            have e : (lampN bs ws fs ss (fun x => x.x) && (lampN bs ws fs ss (fun x => x.y) && lampN bs ws fs ss (fun x => x.z))) = false := by
              match t, ht with
              | 0, _ => rw [show lampN bs ws fs ss (fun x => x.x) = false from hF]; rfl
              | 1, _ => rw [show lampN bs ws fs ss (fun x => x.y) = false from hF]; simp
              | 2, _ => rw [show lampN bs ws fs ss (fun x => x.z) = false from hF]; simp
            rw [e] at p
            exact p
        · rintro ρ' O' ⟨⟨k6, k7, k8, rfl⟩, rfl, hall⟩
          have g0 := hall 0 (by decide)
          have g1 := hall 1 (by decide)
          have g2 := hall 2 (by decide)
          rw [show lampN bs ws fs ss (fun x => x.x) = true from g0, show lampN bs ws fs ss (fun x => x.y) = true from g1, show lampN bs ws fs ss (fun x => x.z) = true from g2] at p
          repeat walk_at "wk"
          exact p
theorem c_lstT {O : Store} {P : D → Store → Prop} {ds : List D} (p : P (.lst ds) O) : wC K (Evl.rListS K) [.tup ds] O P := fun F vs B H r hs Q q => by
  cases r with
  | cons r1 r =>
    cases r
    cases r1 with
    | tup h rr =>
      refine ⟨_, _, rfl, .inr (Evl.ex_t hs.ex h), fun l hl => ?_⟩
      obtain ⟨hs2, e2⟩ := hs.new (o := .lst _) hl
      exact q _ _ O _ _ p e2 hs2 (.lst upd_same (rr.mono e2))
def W_lrefL (CO C : Addr) (ds : List D) (P : D → Prop) : Prop := ∃ (bs : List I3) (d1 d2 : D), ds = [dObs CO C bs, d1, d2] ∧ okBands bs ∧ Thg C d1 ∧ Thg C d2 ∧ (reflF bs.length d1 = false ∨ reflF bs.length d2 = false) ∧ P (.bl true)
theorem ok_law_refused (T : Txt K mg L) : FnOk Pr w K mg base CX0 9 L.f_law_refused L.d_law_refused ["observer", "first", "second"] (spP K 3 (W_lrefL L.C_Observer L.C_Quotient)) := by
  refine okP T.F_law_refused sc_law_refused rfl (fun cdv A outer s H E hr => ⟨_, (pss_cons (ps_try_as (i := 3) rfl rfl sc_law_refused.nd rfl rfl ⟨by rfl, by decide, .inl T.mg_BadReflectance⟩ takes0 (fun W pn xe tk pas => (pss_one (ps_expr (pe_callS (ok_judge_lamp T) (hr.mono (by decide)) (by rfl) T.m_judge_lamp T.F_judge_lamp.kp T.b_judge_lamp (passAt tk) (pa_cons (pv 0) (pa_cons (pv 1) (pa_cons (pv 2) (pa_cons pe_non pa_nil)))))))) (fun a oe cls d pn hz hf => (pss_guard fun hg => (pss_one (ps_ret (pe_callB (r := rIsE K L.C_BadReflectance a) (call_isE T.ec_BadReflectance (zc_of hz hg) hf) rfl T.n_isinstance (by decide +kernel) (pa_cons (pv 3) (pa_cons (pe_glob (v := .ref L.C_ColorError) (by rfl) T.mg_ColorError rfl) pa_nil))))))))
    (pss_one (ps_ret pe_bl))), ?_⟩)
  rintro ds P hl ⟨bs, d1, d2, rfl, hb, h1, h2, hbad, p⟩
  refine s_rho (ρ' := [some _, some _, some _, none]) rfl ?_
  refine s_seq ?_
  refine s_tryDropAs (P := fun _ => False) (PX := fun x => x = L.C_BadReflectance) ?_ (fun _ z => z.elim) ?_
  · repeat walk_at "wk"
    exact ⟨rfl, rfl, bs, d1, d2, .non, rfl, hb, h1, h2, .non, fun _ => rfl, fun _ _ => rfl, fun z1 z2 => by
      rcases hbad with h | h
      · rw [h] at z1; cases z1
      · rw [h] at z2; cases z2⟩
  · rintro x rfl
    refine ⟨T.ex_BadReflectance, fun a => s_guard ⟨rfl, rfl⟩ (s_ret (e_cb (a_cons (e_var rfl (a_cons (e_c (a_nil (c_isEC T.kit_BadReflectance_ColorError ?_))))))))⟩
    exact p
theorem lampPap_thp {C : Addr} {bs : List I3} {xs ys : List Rat} {m : Nat} (hb : okBands bs) (hx : xs.length = bs.length) (hy : ys.length = bs.length) (bx : ∀ q ∈ xs, bits q m) (bY : ∀ q ∈ ys, bits q m) (hm : m ≤ 200) : Thp C (lampPap C bs xs ys) := by
  have hdl := difF_len hx hy
  have hdb := difF_bits bx bY
  have h7 := hb.2.1
  unfold lampPap
  cases hw : lampW bs (difF xs ys) with
  | none =>
    refine .tup _ (fun x hx => ?_) (Nat.le_of_ble_eq_true rfl)
    rcases List.mem_cons.mp hx with rfl | hx
    · exact .str _
    · rw [List.mem_singleton.mp hx]
      exact .int _
  | some ws =>
    refine .tup _ (fun x hx => ?_) (Nat.le_of_ble_eq_true rfl)
    rcases List.mem_cons.mp hx with rfl | hx
    · exact .str _
    rw [List.mem_singleton.mp hx]
    unfold lampW at hw
    split at hw
    · cases hw
      refine thp_row (m := 1) (by rw [List.length_replicate]; omega) (fun q hq => ?_) (by decide)
      rw [List.eq_of_mem_replicate hq]
      exact bits_one
    · split at hw
      · cases hw
      · cases hw
        refine thp_row (by rw [wOf_len, hdl]; omega) (w_bits hdb (pre_bits (ok_small hb) hdl _ (fun p hp => ?_) ?_)) (by omega)
        · have := (psT_good (show 4 ≤ (blksF (difF xs ys)).length by omega) (Nat.le_refl _) p hp).1
          rw [hdl] at this
          exact this
        · have := psT_le (difF xs ys) (Nat.le_refl _)
          omega
theorem jl_same {bs : List I3} {xs : List Rat} : jlF bs xs xs (.tup [.raw (.str (Str.ofString "few")), .int 0]) = false := by
  show ((false && _) || (true && (true && (!decide (xs = xs) && _)))) = false
  rw [decide_eq_true rfl]
  rfl
theorem few_thp {C : Addr} (i : Int) : Thp C (.tup [.raw (.str (Str.ofString "few")), .int i]) := .tup _ (fun x hx => by
  rcases List.mem_cons.mp hx with rfl | hx
  · exact .str _
  · rw [List.mem_singleton.mp hx]
    exact .int _) (Nat.le_of_ble_eq_true rfl)
theorem ok_law (T : Txt K mg L) : FnOk Pr w K mg base CX0 38 L.f_law L.d_law ["script"] (spLaw K) := by
  refine okLaw T.F_law sc_law rfl (fun cdv A outer s H E hr => ⟨_, (pss_cons (ps_asg (pe_call (ok_law_scene T) (hr.mono (by decide)) (by rfl) T.m_law_scene T.F_law_scene.kp T.b_law_scene .nil pass0 (pa_cons (pv 0) pa_nil)) (pg_tup (by rfl) (pgs_cons (pg_name (i := 1) sc_law.nd rfl (by first | exact Or.inl rfl | exact Or.inr rfl)) (pgs_cons (pg_name (i := 2) sc_law.nd rfl (by first | exact Or.inl rfl | exact Or.inr rfl)) (pgs_cons (pg_name (i := 3) sc_law.nd rfl (by first | exact Or.inl rfl | exact Or.inr rfl)) (pgs_cons (pg_name (i := 4) sc_law.nd rfl (by first | exact Or.inl rfl | exact Or.inr rfl)) pgs_nil))))))
    (pss_cons (ps_set (i := 5) sc_law.nd rfl (by first | exact Or.inl rfl | exact Or.inr rfl) (pe_call (ok_law_values T) (hr.mono (by decide)) (by rfl) T.m_law_values T.F_law_values.kp T.b_law_values .nil pass0 (pa_cons (pe_callTy (r := rInt1) call_int1 rfl T.n_int (by decide +kernel) (pa_cons (pe_call (ok_law_cell T) (hr.mono (by decide)) (by rfl) T.m_law_cell T.F_law_cell.kp T.b_law_cell .nil pass0 (pa_cons (pv 0) (pa_cons pe_int pa_nil))) pa_nil)) (pa_cons (pe_callB (r := Evl.rLenS K) call_len_seq rfl T.n_len (by decide +kernel) (pa_cons (pv 3) pa_nil)) pa_nil))))
    (pss_cons (ps_if (pt_cmpR op_eq (pe_op op_mod (pe_callTy (r := rInt1) call_int1 rfl T.n_int (by decide +kernel) (pa_cons (pe_call (ok_law_cell T) (hr.mono (by decide)) (by rfl) T.m_law_cell T.F_law_cell.kp T.b_law_cell .nil pass0 (pa_cons (pv 0) (pa_cons pe_int pa_nil))) pa_nil)) pe_int) pe_int (nomark _)) (pss_one (ps_set (i := 5) sc_law.nd rfl (by first | exact Or.inl rfl | exact Or.inr rfl) (pe_lc (own := [("k", 11)]) (g := gName 11) rfl sc_law.nd (pi_range1 (by rfl) T.n_range (pa_cons (pe_callB (r := Evl.rLenS K) call_len_seq rfl T.n_len (by decide +kernel) (pa_cons (pv 3) pa_nil)) pa_nil)) (blkOk_by (own := [("k", 11)]) (N := N_law) (sc := defScope s_law) (by decide +kernel)) (fun _ _ _ _ _ => (pg_name (i := 11) sc_law.nd rfl (by first | exact Or.inl rfl | exact Or.inr rfl))) (fun _ _ _ _ _ => pts_nil) (fun _ _ _ _ _ => (pe_ifExp (pt_chain op_le op_le pe_int (pe_ix (r := rIxL K) ix_list (pv 3) (pv 11) (fun _ _ => rfl)) pe_int) (pe_op op_add (pe_ix (r := rIxL K) ix_list (pv 3) (pv 11) (fun _ _ => rfl)) (pe_ix (r := rIxT K) ix_tup (pe_tup (pa_cons pe_int (pa_cons (pe_un un_neg pe_int) (pa_cons pe_int (pa_cons (pe_un un_neg pe_int) (pa_cons pe_int (pa_cons (pe_un un_neg pe_int) (pa_cons pe_int pa_nil)))))))) (pv 11) (fun _ _ => rfl))) (pe_ix (r := rIxL K) ix_list (pv 5) (pv 11) (fun _ _ => rfl))))))) pss_nil)
    (pss_cons (ps_set (i := 6) sc_law.nd rfl (by first | exact Or.inl rfl | exact Or.inr rfl) (pe_fld (pv 1) rfl))
    (pss_cons (ps_set (i := 7) sc_law.nd rfl (by first | exact Or.inl rfl | exact Or.inr rfl) (pe_fld (pv 6) rfl))
    (pss_cons (ps_set (i := 8) sc_law.nd rfl (by first | exact Or.inl rfl | exact Or.inr rfl) (pe_call (ok_law_quotients T) (hr.mono (by decide)) (by rfl) T.m_law_quotients T.F_law_quotients.kp T.b_law_quotients .nil pass0 (pa_cons (pv 3) pa_nil)))
    (pss_cons (ps_set (i := 9) sc_law.nd rfl (by first | exact Or.inl rfl | exact Or.inr rfl) (pe_call (ok_law_quotients T) (hr.mono (by decide)) (by rfl) T.m_law_quotients T.F_law_quotients.kp T.b_law_quotients .nil pass0 (pa_cons (pv 5) pa_nil)))
    (pss_cons (ps_if (PW.pt (pw_or (pt_val (pe_call (ok_judge_lamp T) (hr.mono (by decide)) (by rfl) T.m_judge_lamp T.F_judge_lamp.kp T.b_judge_lamp .nil passL (pa_cons (pv 6) (pa_cons (pv 8) (pa_cons (pv 8) (pa_cons (pe_tup (pa_cons pe_str (pa_cons pe_int pa_nil))) pa_nil)))))) (pw_or (pt_not (pt_val (pe_call (ok_law_refused T) (hr.mono (by decide)) (by rfl) T.m_law_refused T.F_law_refused.kp T.b_law_refused .nil pass0 (pa_cons (pv 6) (pa_cons (pe_slice sl_tupA (pv 8) (po_some pe_int) po_none) (pa_cons (pv 9) pa_nil)))))) (pw_or1 (pt_not (pt_val (pe_call (ok_law_refused T) (hr.mono (by decide)) (by rfl) T.m_law_refused T.F_law_refused.kp T.b_law_refused .nil pass0 (pa_cons (pv 6) (pa_cons (pv 8) (pa_cons (pe_callTy (r := Evl.rListS K) call_list_of rfl T.n_list (by decide +kernel) (pa_cons (pv 9) pa_nil)) pa_nil)))))))))) (pss_one (ps_ret pe_bl)) pss_nil)
    (pss_cons (ps_set (i := 10) sc_law.nd rfl (by first | exact Or.inl rfl | exact Or.inr rfl) (pe_call (ok_explain_lamp T) (hr.mono (by decide)) (by rfl) T.m_explain_lamp T.F_explain_lamp.kp T.b_explain_lamp .nil pass0 (pa_cons (pv 6) (pa_cons (pv 8) (pa_cons (pv 9) pa_nil)))))
    (pss_cons (ps_for PassesOwn.never rfl (pi_range1 (by rfl) T.n_range (pa_cons pe_int pa_nil)) (pg_name (i := 11) sc_law.nd rfl (by first | exact Or.inl rfl | exact Or.inr rfl)) (pss_cons (ps_if (pt_cmpR op_ne (pe_call (ok_judge_lamp T) (hr.mono (by decide)) (by rfl) T.m_judge_lamp T.F_judge_lamp.kp T.b_judge_lamp .nil passL (pa_cons (pv 6) (pa_cons (pv 8) (pa_cons (pv 9) (pa_cons (pv 10) pa_nil))))) (pe_call (ok_law_judged T) (hr.mono (by decide)) (by rfl) T.m_law_judged T.F_law_judged.kp T.b_law_judged .nil pass0 (pa_cons (pv 7) (pa_cons (pv 3) (pa_cons (pv 5) (pa_cons (pv 10) pa_nil))))) (nomark _)) (pss_one (ps_ret pe_bl)) pss_nil)
    (pss_one (ps_set (i := 10) sc_law.nd rfl (by first | exact Or.inl rfl | exact Or.inr rfl) (pe_call (ok_law_turned T) (hr.mono (by decide)) (by rfl) T.m_law_turned T.F_law_turned.kp T.b_law_turned .nil pass0 (pa_cons (pv 10) (pa_cons (pe_call (ok_law_draws T) (hr.mono (by decide)) (by rfl) T.m_law_draws T.F_law_draws.kp T.b_law_draws .nil pass0 (pa_cons (pe_callTy (r := rInt1) call_int1 rfl T.n_int (by decide +kernel) (pa_cons (pe_call (ok_law_cell T) (hr.mono (by decide)) (by rfl) T.m_law_cell T.F_law_cell.kp T.b_law_cell .nil pass0 (pa_cons (pv 0) (pa_cons (pe_op op_add pe_int (pv 11)) pa_nil))) pa_nil)) (pa_cons pe_int pa_nil))) (pa_cons pe_int pa_nil))))))))
    (pss_one (ps_ret (pe_cmpR op_eq (pe_call (ok_judge_lamp T) (hr.mono (by decide)) (by rfl) T.m_judge_lamp T.F_judge_lamp.kp T.b_judge_lamp .nil passL (pa_cons (pv 6) (pa_cons (pv 8) (pa_cons (pv 9) (pa_cons (pv 10) pa_nil))))) (pe_call (ok_law_judged T) (hr.mono (by decide)) (by rfl) T.m_law_judged T.F_law_judged.kp T.b_law_judged .nil pass0 (pa_cons (pv 7) (pa_cons (pv 3) (pa_cons (pv 5) (pa_cons (pv 10) pa_nil))))) (nomark _)))))))))))))), ?_⟩)
  walk_at "cl"
  intro ns hns
  refine s_rho (ρ' := [some _, none, none, none, none, none, none, none, none, none, none, none]) rfl ?_
  repeat walk_at "wk"
  intro bs ls fs c hok hreg hl5 hlen hv hc
  have h7 := hok.2.1
  have h4 := hok.1
  repeat walk_at "wj"
  obtain ⟨hsl0, hsv0⟩ := vals_ok (cell ns 4) (n := fs.length)
  generalize valsF (cell ns 4) fs.length = ss0 at hsl0 hsv0 ⊢
  refine wS.mono (PS := fun o O => ∃ ss : List Int, ss.length = fs.length ∧ ok12 ss ∧ o = .nx [some (scr ns), some (dView L.C_View L.C_Observer L.C_Quotient bs ls), some (dG (gens bs ls)), some (dL fs), some (lRow c), some (dL ss), none, none, none, none, none, none] ∧ O = []) ?_ ?_
  · refine s_if ?_
    repeat walk_at "wk"
    refine sp_d (fun h => ?_) (fun h => ?_)
    · repeat walk_at "wk"
      refine e_lcX (fun k : Nat => D.int (0 + (k : Int))) (fun k => D.int (if 2 ≤ fs.getD k 0 ∧ fs.getD k 0 ≤ 10 then fs.getD k 0 + ([1, -1, 1, -1, 2, -1, 1] : List Int).getD k 0 else ss0.getD k 0)) (go_name (by decide)) gm_name ?_
      repeat walk_at "wk"
      refine ⟨List.range fs.length, by rw [Int.toNat_natCast]; rfl, by rw [List.length_range]; omega, fun k hk => ?_, ?_⟩
      · have hk := List.mem_range.mp hk
        have hk7 : k < 7 := by omega
        have at7 : atI [D.int 1, D.int (-1), D.int 1, D.int (-1), D.int 2, D.int (-1), D.int 1] (0 + (k : Int)) = some (.int (([1, -1, 1, -1, 2, -1, 1] : List Int).getD k 0)) := by
          match k, hk7 with
          | 0, _ => rfl
          | 1, _ => rfl
          | 2, _ => rfl
          | 3, _ => rfl
          | 4, _ => rfl
          | 5, _ => rfl
          | 6, _ => rfl
        generalize ([1, -1, 1, -1, 2, -1, 1] : List Int).getD k 0 = u at at7 ⊢
        have e0 : (0 + (k : Int)).toNat = k := by omega
        repeat walk_at "wk"
        rw [e0]
        by_cases h1 : 2 ≤ fs.getD k 0
        · refine ⟨true, by rw [decide_eq_true h1], ?_⟩
          repeat (first | walk_at "wk" | walk_at "cj")
          by_cases h2 : fs.getD k 0 ≤ 10
          · refine ⟨true, by rw [decide_eq_true h2], ?_⟩
            repeat (first | walk_at "wk" | walk_at "cj")
            refine r_ixT at7 ?_
            repeat (first | walk_at "wk" | walk_at "cj")
            rw [if_pos ⟨h1, h2⟩]
            rw [e0]
            exact ⟨rfl, rfl⟩
          · refine ⟨false, by rw [decide_eq_false h2], ?_⟩
            repeat (first | walk_at "wk" | walk_at "cj")
            rw [if_neg (fun z => h2 z.2)]
            rw [e0]
            exact ⟨rfl, rfl⟩
        · refine ⟨false, by rw [decide_eq_false h1], ?_⟩
          repeat (first | walk_at "wk" | walk_at "cj")
          rw [if_neg (fun z => h1 z.1)]
          rw [e0]
          exact ⟨rfl, rfl⟩
      repeat walk_at "wk"
      refine ⟨(List.range fs.length).map fun k => (if 2 ≤ fs.getD k 0 ∧ fs.getD k 0 ≤ 10 then fs.getD k 0 + ([1, -1, 1, -1, 2, -1, 1] : List Int).getD k 0 else ss0.getD k 0), by rw [List.length_map, List.length_range], fun v hv' => ?_, by unfold dL; rw [List.map_map]; rfl, rfl⟩
      obtain ⟨k, hk, rfl⟩ := List.mem_map.mp hv'
      have hk := List.mem_range.mp hk
      split
      · have : -1 ≤ ([1, -1, 1, -1, 2, -1, 1] : List Int).getD k 0 ∧ ([1, -1, 1, -1, 2, -1, 1] : List Int).getD k 0 ≤ 2 := by
          have hk7 : k < 7 := by omega
          match k, hk7 with
          | 0, _ => decide
          | 1, _ => decide
          | 2, _ => decide
          | 3, _ => decide
          | 4, _ => decide
          | 5, _ => decide
          | 6, _ => decide
        omega
      · exact getD_all hsv0 (by omega)
    · repeat walk_at "wk"
      exact ⟨ss0, hsl0, hsv0, rfl, rfl⟩
  rintro o O ⟨ss, hsl, hsv, rfl, rfl⟩
  have hfl : fs.length = bs.length := hlen
  have hshf := shares12 hv
  have hshs := shares12 hsv
  have hqf : (fs.map fun v => dQ L.C_Quotient (Rat.divInt v 12)) = (q12 fs).map (dQ L.C_Quotient) := by unfold q12; rw [List.map_map]; rfl
  have hqs : (ss.map fun v => dQ L.C_Quotient (Rat.divInt v 12)) = (q12 ss).map (dQ L.C_Quotient) := by unfold q12; rw [List.map_map]; rfl
  have hlf : (q12 fs).length = bs.length := by unfold q12; rw [List.length_map]; exact hfl
  have hls : (q12 ss).length = bs.length := by unfold q12; rw [List.length_map]; omega
  have hf1 : ∀ q ∈ q12 fs, bits q 4 := fun q hq => (hshf q hq).1
  have hs1 : ∀ q ∈ q12 ss, bits q 4 := fun q hq => (hshs q hq).1
  have tf : Thg L.C_Quotient (.tup ((q12 fs).map (dQ L.C_Quotient))) := thg_row hf1 (by decide)
  have ts : Thg L.C_Quotient (.tup ((q12 ss).map (dQ L.C_Quotient))) := thg_row hs1 (by decide)
  have rf : reflF bs.length (.tup ((q12 fs).map (dQ L.C_Quotient))) = true := by
    have := refl_map (C := L.C_Quotient) fun q hq => (hshf q hq).2
    rw [show (fs.map fun v => Rat.divInt v 12) = q12 fs from rfl, hlf] at this
    exact this
  have rs : reflF bs.length (.tup ((q12 ss).map (dQ L.C_Quotient))) = true := by
    have := refl_map (C := L.C_Quotient) fun q hq => (hshs q hq).2
    rw [show (ss.map fun v => Rat.divInt v 12) = q12 ss from rfl, hls] at this
    exact this
  have hjl : ∀ (d : D) (P : D → Prop), Thg L.C_Quotient d → P (.bl (jlF bs (q12 fs) (q12 ss) d)) → W_jlG L.C_Observer L.C_Quotient L.C_BadReflectance [dObs L.C_Observer L.C_Quotient bs, .tup ((q12 fs).map (dQ L.C_Quotient)), .tup ((q12 ss).map (dQ L.C_Quotient)), d] P fun _ => False := fun d P hd p => ⟨bs, _, _, d, rfl, hok, tf, ts, hd, (fun z => Bool.noConfusion (rf.symm.trans z)), (fun _ z => Bool.noConfusion (rs.symm.trans z)), fun _ _ => ⟨_, _, 4, rfl, rfl, hlf, hls, hf1, hs1, by decide, p⟩⟩
  repeat walk_at "wj"
  refine e_fld (e_var rfl ⟨_, _, _, rfl, T.k_Observer.cl, T.na_Observer_bands, rfl, ?_⟩)
  repeat walk_at "wj"
  rw [hqf]
  repeat walk_at "wj"
  rw [hqs]
  repeat walk_at "wk"
  refine ⟨bs, _, _, _, rfl, hok, tf, tf, (few_thp 0).thg, (fun z => Bool.noConfusion (rf.symm.trans z)), (fun _ z => Bool.noConfusion (rf.symm.trans z)), fun _ _ => ⟨q12 fs, q12 fs, 4, rfl, rfl, hlf, hlf, hf1, hf1, by decide, ?_⟩⟩
  rw [jl_same]
  refine ⟨false, rfl, ?_⟩
  repeat (first | walk_at "wk" | walk_at "cj")
  rw [show (some (1 : Int)) = some ((1 : Nat) : Int) from rfl, cutD_from, ← List.map_drop]
  refine ⟨bs, .tup (((q12 fs).drop 1).map (dQ L.C_Quotient)), _, rfl, hok, thg_row (fun q hq => hf1 q (List.mem_of_mem_drop hq)) (by decide), ts, .inl ?_, ?_⟩
  · show (decide ((((q12 fs).drop 1).map (dQ L.C_Quotient)).length = bs.length) && _) = false
    rw [decide_eq_false (by rw [List.length_map, List.length_drop]; omega)]
    rfl
  refine ⟨true, rfl, ?_⟩
  repeat (first | walk_at "wk" | walk_at "cj")
  refine c_lstT ?_
  repeat (first | walk_at "wk" | walk_at "cj")
  refine ⟨bs, _, _, rfl, hok, tf, .lst _, .inr rfl, ?_⟩
  refine ⟨true, rfl, ?_⟩
  repeat (first | walk_at "wk" | walk_at "cj")
  refine ⟨bs, q12 fs, q12 ss, 4, rfl, hok, hlf, hls, hshf, hshs, by decide, ?_⟩
  have hp0 := lampPap_thp (C := L.C_Quotient) hok hlf hls hf1 hs1 (by decide)
  generalize lampPap L.C_Quotient bs (q12 fs) (q12 ss) = paper at hp0 ⊢
  repeat (first | walk_at "wk" | walk_at "cj")
  have hab : ∀ {vs : List Int}, ok12 vs → ∀ v ∈ vs, v.natAbs ≤ 100 := fun h v hv => by
    have := h v hv
    omega
  refine s_for ?_
  repeat walk_at "wk"
  refine ⟨fun t ρ O => (∃ k11 d, Thp L.C_Quotient d ∧ ρ = [some (scr ns), some (dView L.C_View L.C_Observer L.C_Quotient bs ls), some (dG (gens bs ls)), some (dL fs), some (lRow c), some (dL ss), some (dObs L.C_Observer L.C_Quotient bs), some (bD bs), some (.tup ((q12 fs).map (dQ L.C_Quotient))), some (.tup ((q12 ss).map (dQ L.C_Quotient))), some d, k11]) ∧ O = [], ⟨⟨_, _, hp0, rfl⟩, rfl⟩, ?_, ?_⟩
  · rintro t d ρ' O' hd ⟨⟨k11, paper', hp, rfl⟩, rfl⟩
    obtain ⟨ht, rfl⟩ := rangeD_get hd
    refine g_name (s_rho (ρ' := [some (scr ns), some (dView L.C_View L.C_Observer L.C_Quotient bs ls), some (dG (gens bs ls)), some (dL fs), some (lRow c), some (dL ss), some (dObs L.C_Observer L.C_Quotient bs), some (bD bs), some (.tup ((q12 fs).map (dQ L.C_Quotient))), some (.tup ((q12 ss).map (dQ L.C_Quotient))), some paper', some (.int (0 + (t : Int)))]) rfl ?_)
    repeat walk_at "wk"
    refine hjl _ _ hp.thg ?_
    repeat walk_at "wk"
    refine ⟨bs, fs, ss, paper', rfl, hok, hfl, by omega, hab hv, hab hsv, hp, ?_⟩
    refine r_neB ?_
    rw [decide_eq_true rfl]
    refine ⟨false, rfl, (fun z => nomatch z), fun _ => ?_⟩
    repeat walk_at "wk"
    refine ⟨paper', _, 0, rfl, hp, by decide, by decide, fun t' ht' => ?_⟩
    repeat walk_at "wk"
    exact ⟨⟨_, _, ht', rfl⟩, rfl⟩
  · rintro ρ' O' ⟨⟨k11, paper', hp, rfl⟩, rfl⟩
    repeat walk_at "wk"
    refine hjl _ _ hp.thg ?_
    repeat walk_at "wk"
    refine ⟨bs, fs, ss, paper', rfl, hok, hfl, by omega, hab hv, hab hsv, hp, ?_⟩
    refine r_eqB ?_
    rw [decide_eq_true rfl]
    rfl
end
theorem all_mk {Pr : Program} {w : World} {K : PySem.W.Frag} {h : Heap} {mg : Str → Option Value} {fa C_ColorError C_BadQuotient C_BadObserver C_Irregular C_BadLamp C_BadReflectance C_LengthsDiffer C_Quotient C_Observer C_View f_Quotient_init f_Quotient_add f_Quotient_sub f_Quotient_mul f_Quotient_neg f_Quotient_eq f_Quotient_lt f_Quotient_le f_Quotient_over f_whole f_zero f_one f_is_quotient f_sign_of f_size_of f_black f_det f_scaled f_added f_taken f_sum_of f_Observer_init f_Observer_len f_View_init f_View_len f_require_reflectance f_is_reflectance f_is_number f_is_share f_are_bands f_is_band f_is_lamp f_first_irregular f_crossings f_sign_blocks f_require_equal_lengths f_matching_lamp f_weights f_four_of_blocks f_other_determinants f_judge_lamp f_explain_lamp f_has_form f_is_word f_are_weights f_do_match f_law_cell f_law_draws f_law_bands f_law_lamp f_law_values f_law_generators f_law_sum f_law_colored f_law_quotients f_law_scene f_law_is_band f_law_kind f_law_turned f_law_crossings f_law_judged f_law_refused f_law : Addr} (X : K.In h) (G : h.Ns mainGlobals mg) (hfa : mg "law" = some (.ref fa))
    {oc_Quotient_init kV_Quotient_init dc_Quotient_init pm_Quotient_init cd_Quotient_init ct_Quotient_init oc_Quotient_add kV_Quotient_add dc_Quotient_add pm_Quotient_add cd_Quotient_add ct_Quotient_add oc_Quotient_sub kV_Quotient_sub dc_Quotient_sub pm_Quotient_sub cd_Quotient_sub ct_Quotient_sub oc_Quotient_mul kV_Quotient_mul dc_Quotient_mul pm_Quotient_mul cd_Quotient_mul ct_Quotient_mul oc_Quotient_neg kV_Quotient_neg dc_Quotient_neg pm_Quotient_neg cd_Quotient_neg ct_Quotient_neg oc_Quotient_eq kV_Quotient_eq dc_Quotient_eq pm_Quotient_eq cd_Quotient_eq ct_Quotient_eq oc_Quotient_lt kV_Quotient_lt dc_Quotient_lt pm_Quotient_lt cd_Quotient_lt ct_Quotient_lt oc_Quotient_le kV_Quotient_le dc_Quotient_le pm_Quotient_le cd_Quotient_le ct_Quotient_le oc_Quotient_over kV_Quotient_over dc_Quotient_over pm_Quotient_over cd_Quotient_over ct_Quotient_over oc_whole kV_whole dc_whole pm_whole cd_whole ct_whole oc_zero kV_zero dc_zero pm_zero cd_zero ct_zero oc_one kV_one dc_one pm_one cd_one ct_one oc_is_quotient kV_is_quotient dc_is_quotient pm_is_quotient cd_is_quotient ct_is_quotient oc_sign_of kV_sign_of dc_sign_of pm_sign_of cd_sign_of ct_sign_of oc_size_of kV_size_of dc_size_of pm_size_of cd_size_of ct_size_of oc_black kV_black dc_black pm_black cd_black ct_black oc_det kV_det dc_det pm_det cd_det ct_det oc_scaled kV_scaled dc_scaled pm_scaled cd_scaled ct_scaled oc_added kV_added dc_added pm_added cd_added ct_added oc_taken kV_taken dc_taken pm_taken cd_taken ct_taken oc_sum_of kV_sum_of dc_sum_of pm_sum_of cd_sum_of ct_sum_of oc_Observer_init kV_Observer_init dc_Observer_init pm_Observer_init cd_Observer_init ct_Observer_init oc_Observer_len kV_Observer_len dc_Observer_len pm_Observer_len cd_Observer_len ct_Observer_len oc_View_init kV_View_init dc_View_init pm_View_init cd_View_init ct_View_init oc_View_len kV_View_len dc_View_len pm_View_len cd_View_len ct_View_len oc_require_reflectance kV_require_reflectance dc_require_reflectance pm_require_reflectance cd_require_reflectance ct_require_reflectance oc_is_reflectance kV_is_reflectance dc_is_reflectance pm_is_reflectance cd_is_reflectance ct_is_reflectance oc_is_number kV_is_number dc_is_number pm_is_number cd_is_number ct_is_number oc_is_share kV_is_share dc_is_share pm_is_share cd_is_share ct_is_share oc_are_bands kV_are_bands dc_are_bands pm_are_bands cd_are_bands ct_are_bands oc_is_band kV_is_band dc_is_band pm_is_band cd_is_band ct_is_band oc_is_lamp kV_is_lamp dc_is_lamp pm_is_lamp cd_is_lamp ct_is_lamp oc_first_irregular kV_first_irregular dc_first_irregular pm_first_irregular cd_first_irregular ct_first_irregular oc_crossings kV_crossings dc_crossings pm_crossings cd_crossings ct_crossings oc_sign_blocks kV_sign_blocks dc_sign_blocks pm_sign_blocks cd_sign_blocks ct_sign_blocks oc_require_equal_lengths kV_require_equal_lengths dc_require_equal_lengths pm_require_equal_lengths cd_require_equal_lengths ct_require_equal_lengths oc_matching_lamp kV_matching_lamp dc_matching_lamp pm_matching_lamp cd_matching_lamp ct_matching_lamp oc_weights kV_weights dc_weights pm_weights cd_weights ct_weights oc_four_of_blocks kV_four_of_blocks dc_four_of_blocks pm_four_of_blocks cd_four_of_blocks ct_four_of_blocks oc_other_determinants kV_other_determinants dc_other_determinants pm_other_determinants cd_other_determinants ct_other_determinants oc_judge_lamp kV_judge_lamp dc_judge_lamp pm_judge_lamp cd_judge_lamp ct_judge_lamp oc_explain_lamp kV_explain_lamp dc_explain_lamp pm_explain_lamp cd_explain_lamp ct_explain_lamp oc_has_form kV_has_form dc_has_form pm_has_form cd_has_form ct_has_form oc_is_word kV_is_word dc_is_word pm_is_word cd_is_word ct_is_word oc_are_weights kV_are_weights dc_are_weights pm_are_weights cd_are_weights ct_are_weights oc_do_match kV_do_match dc_do_match pm_do_match cd_do_match ct_do_match oc_law_cell kV_law_cell dc_law_cell pm_law_cell cd_law_cell ct_law_cell oc_law_draws kV_law_draws dc_law_draws pm_law_draws cd_law_draws ct_law_draws oc_law_bands kV_law_bands dc_law_bands pm_law_bands cd_law_bands ct_law_bands oc_law_lamp kV_law_lamp dc_law_lamp pm_law_lamp cd_law_lamp ct_law_lamp oc_law_values kV_law_values dc_law_values pm_law_values cd_law_values ct_law_values oc_law_generators kV_law_generators dc_law_generators pm_law_generators cd_law_generators ct_law_generators oc_law_sum kV_law_sum dc_law_sum pm_law_sum cd_law_sum ct_law_sum oc_law_colored kV_law_colored dc_law_colored pm_law_colored cd_law_colored ct_law_colored oc_law_quotients kV_law_quotients dc_law_quotients pm_law_quotients cd_law_quotients ct_law_quotients oc_law_scene kV_law_scene dc_law_scene pm_law_scene cd_law_scene ct_law_scene oc_law_is_band kV_law_is_band dc_law_is_band pm_law_is_band cd_law_is_band ct_law_is_band oc_law_kind kV_law_kind dc_law_kind pm_law_kind cd_law_kind ct_law_kind oc_law_turned kV_law_turned dc_law_turned pm_law_turned cd_law_turned ct_law_turned oc_law_crossings kV_law_crossings dc_law_crossings pm_law_crossings cd_law_crossings ct_law_crossings oc_law_judged kV_law_judged dc_law_judged pm_law_judged cd_law_judged ct_law_judged oc_law_refused kV_law_refused dc_law_refused pm_law_refused cd_law_refused ct_law_refused oc_law kV_law dc_law pm_law cd_law ct_law : Value} {od_Quotient_init an_Quotient_init od_Quotient_add an_Quotient_add od_Quotient_sub an_Quotient_sub od_Quotient_mul an_Quotient_mul od_Quotient_neg an_Quotient_neg od_Quotient_eq an_Quotient_eq od_Quotient_lt an_Quotient_lt od_Quotient_le an_Quotient_le od_Quotient_over an_Quotient_over od_whole an_whole od_zero an_zero od_one an_one od_is_quotient an_is_quotient od_sign_of an_sign_of od_size_of an_size_of od_black an_black od_det an_det od_scaled an_scaled od_added an_added od_taken an_taken od_sum_of an_sum_of od_Observer_init an_Observer_init od_Observer_len an_Observer_len od_View_init an_View_init od_View_len an_View_len od_require_reflectance an_require_reflectance od_is_reflectance an_is_reflectance od_is_number an_is_number od_is_share an_is_share od_are_bands an_are_bands od_is_band an_is_band od_is_lamp an_is_lamp od_first_irregular an_first_irregular od_crossings an_crossings od_sign_blocks an_sign_blocks od_require_equal_lengths an_require_equal_lengths od_matching_lamp an_matching_lamp od_weights an_weights od_four_of_blocks an_four_of_blocks od_other_determinants an_other_determinants od_judge_lamp an_judge_lamp od_explain_lamp an_explain_lamp od_has_form an_has_form od_is_word an_is_word od_are_weights an_are_weights od_do_match an_do_match od_law_cell an_law_cell od_law_draws an_law_draws od_law_bands an_law_bands od_law_lamp an_law_lamp od_law_values an_law_values od_law_generators an_law_generators od_law_sum an_law_sum od_law_colored an_law_colored od_law_quotients an_law_quotients od_law_scene an_law_scene od_law_is_band an_law_is_band od_law_kind an_law_kind od_law_turned an_law_turned od_law_crossings an_law_crossings od_law_judged an_law_judged od_law_refused an_law_refused od_law an_law : Option Addr} {sl_Quotient_init sl_Quotient_add sl_Quotient_sub sl_Quotient_mul sl_Quotient_neg sl_Quotient_eq sl_Quotient_lt sl_Quotient_le sl_Quotient_over sl_whole sl_zero sl_one sl_is_quotient sl_sign_of sl_size_of sl_black sl_det sl_scaled sl_added sl_taken sl_sum_of sl_Observer_init sl_Observer_len sl_View_init sl_View_len sl_require_reflectance sl_is_reflectance sl_is_number sl_is_share sl_are_bands sl_is_band sl_is_lamp sl_first_irregular sl_crossings sl_sign_blocks sl_require_equal_lengths sl_matching_lamp sl_weights sl_four_of_blocks sl_other_determinants sl_judge_lamp sl_explain_lamp sl_has_form sl_is_word sl_are_weights sl_do_match sl_law_cell sl_law_draws sl_law_bands sl_law_lamp sl_law_values sl_law_generators sl_law_sum sl_law_colored sl_law_quotients sl_law_scene sl_law_is_band sl_law_kind sl_law_turned sl_law_crossings sl_law_judged sl_law_refused sl_law : Array (Option Value)} {tc_Observer_LEAST_BANDS tc_Observer_MOST_BANDS : Tok} {t_FEW t_LAMP : Tok} {t_PIECE_DIGITS t_PIECE t_PARTS t_MOST_PART t_LEAST_LIGHT t_MOST_LIGHT t_FOUR t_MOST_FEW : Tok}
    (a_C_ColorError : PySem.W.nsIn K mainGlobals "ColorError" = some (some (.ref C_ColorError)))
    (a_C_BadQuotient : PySem.W.nsIn K mainGlobals "BadQuotient" = some (some (.ref C_BadQuotient)))
    (a_C_BadObserver : PySem.W.nsIn K mainGlobals "BadObserver" = some (some (.ref C_BadObserver)))
    (a_C_Irregular : PySem.W.nsIn K mainGlobals "Irregular" = some (some (.ref C_Irregular)))
    (a_C_BadLamp : PySem.W.nsIn K mainGlobals "BadLamp" = some (some (.ref C_BadLamp)))
    (a_C_BadReflectance : PySem.W.nsIn K mainGlobals "BadReflectance" = some (some (.ref C_BadReflectance)))
    (a_C_LengthsDiffer : PySem.W.nsIn K mainGlobals "LengthsDiffer" = some (some (.ref C_LengthsDiffer)))
    (a_C_Quotient : PySem.W.nsIn K mainGlobals "Quotient" = some (some (.ref C_Quotient)))
    (a_C_Observer : PySem.W.nsIn K mainGlobals "Observer" = some (some (.ref C_Observer)))
    (a_C_View : PySem.W.nsIn K mainGlobals "View" = some (some (.ref C_View)))
    (a_Quotient_init : PySem.W.findIn K (.ref C_Quotient) "__init__" = some (some (.ref f_Quotient_init)))
    (is_Quotient_init : PySem.W.isFn K (.ref f_Quotient_init) = true)
    (l_Quotient_init : K.lookup f_Quotient_init = some ⟨oc_Quotient_init, od_Quotient_init, .func (PySem.W.fnOf "__init__" "Quotient.__init__" (defArgs s_Quotient_init) (defBody s_Quotient_init) (defScope s_Quotient_init) .none kV_Quotient_init dc_Quotient_init pm_Quotient_init an_Quotient_init cd_Quotient_init ct_Quotient_init), sl_Quotient_init⟩)
    (cd2_Quotient_init : PySem.W.codeIn K cd_Quotient_init "Quotient.__init__" = true)
    (kp_Quotient_init : PySem.W.keepIn K (.ref f_Quotient_init) = true)
    (a_Quotient_add : PySem.W.findIn K (.ref C_Quotient) "__add__" = some (some (.ref f_Quotient_add)))
    (is_Quotient_add : PySem.W.isFn K (.ref f_Quotient_add) = true)
    (l_Quotient_add : K.lookup f_Quotient_add = some ⟨oc_Quotient_add, od_Quotient_add, .func (PySem.W.fnOf "__add__" "Quotient.__add__" (defArgs s_Quotient_add) (defBody s_Quotient_add) (defScope s_Quotient_add) .none kV_Quotient_add dc_Quotient_add pm_Quotient_add an_Quotient_add cd_Quotient_add ct_Quotient_add), sl_Quotient_add⟩)
    (cd2_Quotient_add : PySem.W.codeIn K cd_Quotient_add "Quotient.__add__" = true)
    (kp_Quotient_add : PySem.W.keepIn K (.ref f_Quotient_add) = true)
    (a_Quotient_sub : PySem.W.findIn K (.ref C_Quotient) "__sub__" = some (some (.ref f_Quotient_sub)))
    (is_Quotient_sub : PySem.W.isFn K (.ref f_Quotient_sub) = true)
    (l_Quotient_sub : K.lookup f_Quotient_sub = some ⟨oc_Quotient_sub, od_Quotient_sub, .func (PySem.W.fnOf "__sub__" "Quotient.__sub__" (defArgs s_Quotient_sub) (defBody s_Quotient_sub) (defScope s_Quotient_sub) .none kV_Quotient_sub dc_Quotient_sub pm_Quotient_sub an_Quotient_sub cd_Quotient_sub ct_Quotient_sub), sl_Quotient_sub⟩)
    (cd2_Quotient_sub : PySem.W.codeIn K cd_Quotient_sub "Quotient.__sub__" = true)
    (kp_Quotient_sub : PySem.W.keepIn K (.ref f_Quotient_sub) = true)
    (a_Quotient_mul : PySem.W.findIn K (.ref C_Quotient) "__mul__" = some (some (.ref f_Quotient_mul)))
    (is_Quotient_mul : PySem.W.isFn K (.ref f_Quotient_mul) = true)
    (l_Quotient_mul : K.lookup f_Quotient_mul = some ⟨oc_Quotient_mul, od_Quotient_mul, .func (PySem.W.fnOf "__mul__" "Quotient.__mul__" (defArgs s_Quotient_mul) (defBody s_Quotient_mul) (defScope s_Quotient_mul) .none kV_Quotient_mul dc_Quotient_mul pm_Quotient_mul an_Quotient_mul cd_Quotient_mul ct_Quotient_mul), sl_Quotient_mul⟩)
    (cd2_Quotient_mul : PySem.W.codeIn K cd_Quotient_mul "Quotient.__mul__" = true)
    (kp_Quotient_mul : PySem.W.keepIn K (.ref f_Quotient_mul) = true)
    (a_Quotient_neg : PySem.W.findIn K (.ref C_Quotient) "__neg__" = some (some (.ref f_Quotient_neg)))
    (is_Quotient_neg : PySem.W.isFn K (.ref f_Quotient_neg) = true)
    (l_Quotient_neg : K.lookup f_Quotient_neg = some ⟨oc_Quotient_neg, od_Quotient_neg, .func (PySem.W.fnOf "__neg__" "Quotient.__neg__" (defArgs s_Quotient_neg) (defBody s_Quotient_neg) (defScope s_Quotient_neg) .none kV_Quotient_neg dc_Quotient_neg pm_Quotient_neg an_Quotient_neg cd_Quotient_neg ct_Quotient_neg), sl_Quotient_neg⟩)
    (cd2_Quotient_neg : PySem.W.codeIn K cd_Quotient_neg "Quotient.__neg__" = true)
    (kp_Quotient_neg : PySem.W.keepIn K (.ref f_Quotient_neg) = true)
    (a_Quotient_eq : PySem.W.findIn K (.ref C_Quotient) "__eq__" = some (some (.ref f_Quotient_eq)))
    (is_Quotient_eq : PySem.W.isFn K (.ref f_Quotient_eq) = true)
    (l_Quotient_eq : K.lookup f_Quotient_eq = some ⟨oc_Quotient_eq, od_Quotient_eq, .func (PySem.W.fnOf "__eq__" "Quotient.__eq__" (defArgs s_Quotient_eq) (defBody s_Quotient_eq) (defScope s_Quotient_eq) .none kV_Quotient_eq dc_Quotient_eq pm_Quotient_eq an_Quotient_eq cd_Quotient_eq ct_Quotient_eq), sl_Quotient_eq⟩)
    (cd2_Quotient_eq : PySem.W.codeIn K cd_Quotient_eq "Quotient.__eq__" = true)
    (kp_Quotient_eq : PySem.W.keepIn K (.ref f_Quotient_eq) = true)
    (a_Quotient_lt : PySem.W.findIn K (.ref C_Quotient) "__lt__" = some (some (.ref f_Quotient_lt)))
    (is_Quotient_lt : PySem.W.isFn K (.ref f_Quotient_lt) = true)
    (l_Quotient_lt : K.lookup f_Quotient_lt = some ⟨oc_Quotient_lt, od_Quotient_lt, .func (PySem.W.fnOf "__lt__" "Quotient.__lt__" (defArgs s_Quotient_lt) (defBody s_Quotient_lt) (defScope s_Quotient_lt) .none kV_Quotient_lt dc_Quotient_lt pm_Quotient_lt an_Quotient_lt cd_Quotient_lt ct_Quotient_lt), sl_Quotient_lt⟩)
    (cd2_Quotient_lt : PySem.W.codeIn K cd_Quotient_lt "Quotient.__lt__" = true)
    (kp_Quotient_lt : PySem.W.keepIn K (.ref f_Quotient_lt) = true)
    (a_Quotient_le : PySem.W.findIn K (.ref C_Quotient) "__le__" = some (some (.ref f_Quotient_le)))
    (is_Quotient_le : PySem.W.isFn K (.ref f_Quotient_le) = true)
    (l_Quotient_le : K.lookup f_Quotient_le = some ⟨oc_Quotient_le, od_Quotient_le, .func (PySem.W.fnOf "__le__" "Quotient.__le__" (defArgs s_Quotient_le) (defBody s_Quotient_le) (defScope s_Quotient_le) .none kV_Quotient_le dc_Quotient_le pm_Quotient_le an_Quotient_le cd_Quotient_le ct_Quotient_le), sl_Quotient_le⟩)
    (cd2_Quotient_le : PySem.W.codeIn K cd_Quotient_le "Quotient.__le__" = true)
    (kp_Quotient_le : PySem.W.keepIn K (.ref f_Quotient_le) = true)
    (a_Quotient_over : PySem.W.findIn K (.ref C_Quotient) "over" = some (some (.ref f_Quotient_over)))
    (is_Quotient_over : PySem.W.isFn K (.ref f_Quotient_over) = true)
    (l_Quotient_over : K.lookup f_Quotient_over = some ⟨oc_Quotient_over, od_Quotient_over, .func (PySem.W.fnOf "over" "Quotient.over" (defArgs s_Quotient_over) (defBody s_Quotient_over) (defScope s_Quotient_over) .none kV_Quotient_over dc_Quotient_over pm_Quotient_over an_Quotient_over cd_Quotient_over ct_Quotient_over), sl_Quotient_over⟩)
    (cd2_Quotient_over : PySem.W.codeIn K cd_Quotient_over "Quotient.over" = true)
    (kp_Quotient_over : PySem.W.keepIn K (.ref f_Quotient_over) = true)
    (a_whole : PySem.W.nsIn K mainGlobals "whole" = some (some (.ref f_whole)))
    (l_whole : K.lookup f_whole = some ⟨oc_whole, od_whole, .func (PySem.W.fnOf "whole" "whole" (defArgs s_whole) (defBody s_whole) (defScope s_whole) .none kV_whole dc_whole pm_whole an_whole cd_whole ct_whole), sl_whole⟩)
    (cd2_whole : PySem.W.codeIn K cd_whole "whole" = true)
    (kp_whole : PySem.W.keepIn K (.ref f_whole) = true)
    (a_zero : PySem.W.nsIn K mainGlobals "zero" = some (some (.ref f_zero)))
    (l_zero : K.lookup f_zero = some ⟨oc_zero, od_zero, .func (PySem.W.fnOf "zero" "zero" (defArgs s_zero) (defBody s_zero) (defScope s_zero) .none kV_zero dc_zero pm_zero an_zero cd_zero ct_zero), sl_zero⟩)
    (cd2_zero : PySem.W.codeIn K cd_zero "zero" = true)
    (kp_zero : PySem.W.keepIn K (.ref f_zero) = true)
    (a_one : PySem.W.nsIn K mainGlobals "one" = some (some (.ref f_one)))
    (l_one : K.lookup f_one = some ⟨oc_one, od_one, .func (PySem.W.fnOf "one" "one" (defArgs s_one) (defBody s_one) (defScope s_one) .none kV_one dc_one pm_one an_one cd_one ct_one), sl_one⟩)
    (cd2_one : PySem.W.codeIn K cd_one "one" = true)
    (kp_one : PySem.W.keepIn K (.ref f_one) = true)
    (a_is_quotient : PySem.W.nsIn K mainGlobals "is_quotient" = some (some (.ref f_is_quotient)))
    (l_is_quotient : K.lookup f_is_quotient = some ⟨oc_is_quotient, od_is_quotient, .func (PySem.W.fnOf "is_quotient" "is_quotient" (defArgs s_is_quotient) (defBody s_is_quotient) (defScope s_is_quotient) .none kV_is_quotient dc_is_quotient pm_is_quotient an_is_quotient cd_is_quotient ct_is_quotient), sl_is_quotient⟩)
    (cd2_is_quotient : PySem.W.codeIn K cd_is_quotient "is_quotient" = true)
    (kp_is_quotient : PySem.W.keepIn K (.ref f_is_quotient) = true)
    (a_sign_of : PySem.W.nsIn K mainGlobals "sign_of" = some (some (.ref f_sign_of)))
    (l_sign_of : K.lookup f_sign_of = some ⟨oc_sign_of, od_sign_of, .func (PySem.W.fnOf "sign_of" "sign_of" (defArgs s_sign_of) (defBody s_sign_of) (defScope s_sign_of) .none kV_sign_of dc_sign_of pm_sign_of an_sign_of cd_sign_of ct_sign_of), sl_sign_of⟩)
    (cd2_sign_of : PySem.W.codeIn K cd_sign_of "sign_of" = true)
    (kp_sign_of : PySem.W.keepIn K (.ref f_sign_of) = true)
    (a_size_of : PySem.W.nsIn K mainGlobals "size_of" = some (some (.ref f_size_of)))
    (l_size_of : K.lookup f_size_of = some ⟨oc_size_of, od_size_of, .func (PySem.W.fnOf "size_of" "size_of" (defArgs s_size_of) (defBody s_size_of) (defScope s_size_of) .none kV_size_of dc_size_of pm_size_of an_size_of cd_size_of ct_size_of), sl_size_of⟩)
    (cd2_size_of : PySem.W.codeIn K cd_size_of "size_of" = true)
    (kp_size_of : PySem.W.keepIn K (.ref f_size_of) = true)
    (a_black : PySem.W.nsIn K mainGlobals "black" = some (some (.ref f_black)))
    (l_black : K.lookup f_black = some ⟨oc_black, od_black, .func (PySem.W.fnOf "black" "black" (defArgs s_black) (defBody s_black) (defScope s_black) .none kV_black dc_black pm_black an_black cd_black ct_black), sl_black⟩)
    (cd2_black : PySem.W.codeIn K cd_black "black" = true)
    (kp_black : PySem.W.keepIn K (.ref f_black) = true)
    (a_det : PySem.W.nsIn K mainGlobals "det" = some (some (.ref f_det)))
    (l_det : K.lookup f_det = some ⟨oc_det, od_det, .func (PySem.W.fnOf "det" "det" (defArgs s_det) (defBody s_det) (defScope s_det) .none kV_det dc_det pm_det an_det cd_det ct_det), sl_det⟩)
    (cd2_det : PySem.W.codeIn K cd_det "det" = true)
    (kp_det : PySem.W.keepIn K (.ref f_det) = true)
    (a_scaled : PySem.W.nsIn K mainGlobals "scaled" = some (some (.ref f_scaled)))
    (l_scaled : K.lookup f_scaled = some ⟨oc_scaled, od_scaled, .func (PySem.W.fnOf "scaled" "scaled" (defArgs s_scaled) (defBody s_scaled) (defScope s_scaled) .none kV_scaled dc_scaled pm_scaled an_scaled cd_scaled ct_scaled), sl_scaled⟩)
    (cd2_scaled : PySem.W.codeIn K cd_scaled "scaled" = true)
    (kp_scaled : PySem.W.keepIn K (.ref f_scaled) = true)
    (a_added : PySem.W.nsIn K mainGlobals "added" = some (some (.ref f_added)))
    (l_added : K.lookup f_added = some ⟨oc_added, od_added, .func (PySem.W.fnOf "added" "added" (defArgs s_added) (defBody s_added) (defScope s_added) .none kV_added dc_added pm_added an_added cd_added ct_added), sl_added⟩)
    (cd2_added : PySem.W.codeIn K cd_added "added" = true)
    (kp_added : PySem.W.keepIn K (.ref f_added) = true)
    (a_taken : PySem.W.nsIn K mainGlobals "taken" = some (some (.ref f_taken)))
    (l_taken : K.lookup f_taken = some ⟨oc_taken, od_taken, .func (PySem.W.fnOf "taken" "taken" (defArgs s_taken) (defBody s_taken) (defScope s_taken) .none kV_taken dc_taken pm_taken an_taken cd_taken ct_taken), sl_taken⟩)
    (cd2_taken : PySem.W.codeIn K cd_taken "taken" = true)
    (kp_taken : PySem.W.keepIn K (.ref f_taken) = true)
    (a_sum_of : PySem.W.nsIn K mainGlobals "sum_of" = some (some (.ref f_sum_of)))
    (l_sum_of : K.lookup f_sum_of = some ⟨oc_sum_of, od_sum_of, .func (PySem.W.fnOf "sum_of" "sum_of" (defArgs s_sum_of) (defBody s_sum_of) (defScope s_sum_of) .none kV_sum_of dc_sum_of pm_sum_of an_sum_of cd_sum_of ct_sum_of), sl_sum_of⟩)
    (cd2_sum_of : PySem.W.codeIn K cd_sum_of "sum_of" = true)
    (kp_sum_of : PySem.W.keepIn K (.ref f_sum_of) = true)
    (a_Observer_init : PySem.W.findIn K (.ref C_Observer) "__init__" = some (some (.ref f_Observer_init)))
    (is_Observer_init : PySem.W.isFn K (.ref f_Observer_init) = true)
    (l_Observer_init : K.lookup f_Observer_init = some ⟨oc_Observer_init, od_Observer_init, .func (PySem.W.fnOf "__init__" "Observer.__init__" (defArgs s_Observer_init) (defBody s_Observer_init) (defScope s_Observer_init) .none kV_Observer_init dc_Observer_init pm_Observer_init an_Observer_init cd_Observer_init ct_Observer_init), sl_Observer_init⟩)
    (cd2_Observer_init : PySem.W.codeIn K cd_Observer_init "Observer.__init__" = true)
    (kp_Observer_init : PySem.W.keepIn K (.ref f_Observer_init) = true)
    (a_Observer_len : PySem.W.findIn K (.ref C_Observer) "__len__" = some (some (.ref f_Observer_len)))
    (is_Observer_len : PySem.W.isFn K (.ref f_Observer_len) = true)
    (l_Observer_len : K.lookup f_Observer_len = some ⟨oc_Observer_len, od_Observer_len, .func (PySem.W.fnOf "__len__" "Observer.__len__" (defArgs s_Observer_len) (defBody s_Observer_len) (defScope s_Observer_len) .none kV_Observer_len dc_Observer_len pm_Observer_len an_Observer_len cd_Observer_len ct_Observer_len), sl_Observer_len⟩)
    (cd2_Observer_len : PySem.W.codeIn K cd_Observer_len "Observer.__len__" = true)
    (kp_Observer_len : PySem.W.keepIn K (.ref f_Observer_len) = true)
    (a_View_init : PySem.W.findIn K (.ref C_View) "__init__" = some (some (.ref f_View_init)))
    (is_View_init : PySem.W.isFn K (.ref f_View_init) = true)
    (l_View_init : K.lookup f_View_init = some ⟨oc_View_init, od_View_init, .func (PySem.W.fnOf "__init__" "View.__init__" (defArgs s_View_init) (defBody s_View_init) (defScope s_View_init) .none kV_View_init dc_View_init pm_View_init an_View_init cd_View_init ct_View_init), sl_View_init⟩)
    (cd2_View_init : PySem.W.codeIn K cd_View_init "View.__init__" = true)
    (kp_View_init : PySem.W.keepIn K (.ref f_View_init) = true)
    (a_View_len : PySem.W.findIn K (.ref C_View) "__len__" = some (some (.ref f_View_len)))
    (is_View_len : PySem.W.isFn K (.ref f_View_len) = true)
    (l_View_len : K.lookup f_View_len = some ⟨oc_View_len, od_View_len, .func (PySem.W.fnOf "__len__" "View.__len__" (defArgs s_View_len) (defBody s_View_len) (defScope s_View_len) .none kV_View_len dc_View_len pm_View_len an_View_len cd_View_len ct_View_len), sl_View_len⟩)
    (cd2_View_len : PySem.W.codeIn K cd_View_len "View.__len__" = true)
    (kp_View_len : PySem.W.keepIn K (.ref f_View_len) = true)
    (a_require_reflectance : PySem.W.nsIn K mainGlobals "require_reflectance" = some (some (.ref f_require_reflectance)))
    (l_require_reflectance : K.lookup f_require_reflectance = some ⟨oc_require_reflectance, od_require_reflectance, .func (PySem.W.fnOf "require_reflectance" "require_reflectance" (defArgs s_require_reflectance) (defBody s_require_reflectance) (defScope s_require_reflectance) .none kV_require_reflectance dc_require_reflectance pm_require_reflectance an_require_reflectance cd_require_reflectance ct_require_reflectance), sl_require_reflectance⟩)
    (cd2_require_reflectance : PySem.W.codeIn K cd_require_reflectance "require_reflectance" = true)
    (kp_require_reflectance : PySem.W.keepIn K (.ref f_require_reflectance) = true)
    (a_is_reflectance : PySem.W.nsIn K mainGlobals "is_reflectance" = some (some (.ref f_is_reflectance)))
    (l_is_reflectance : K.lookup f_is_reflectance = some ⟨oc_is_reflectance, od_is_reflectance, .func (PySem.W.fnOf "is_reflectance" "is_reflectance" (defArgs s_is_reflectance) (defBody s_is_reflectance) (defScope s_is_reflectance) .none kV_is_reflectance dc_is_reflectance pm_is_reflectance an_is_reflectance cd_is_reflectance ct_is_reflectance), sl_is_reflectance⟩)
    (cd2_is_reflectance : PySem.W.codeIn K cd_is_reflectance "is_reflectance" = true)
    (kp_is_reflectance : PySem.W.keepIn K (.ref f_is_reflectance) = true)
    (a_is_number : PySem.W.nsIn K mainGlobals "is_number" = some (some (.ref f_is_number)))
    (l_is_number : K.lookup f_is_number = some ⟨oc_is_number, od_is_number, .func (PySem.W.fnOf "is_number" "is_number" (defArgs s_is_number) (defBody s_is_number) (defScope s_is_number) .none kV_is_number dc_is_number pm_is_number an_is_number cd_is_number ct_is_number), sl_is_number⟩)
    (cd2_is_number : PySem.W.codeIn K cd_is_number "is_number" = true)
    (kp_is_number : PySem.W.keepIn K (.ref f_is_number) = true)
    (a_is_share : PySem.W.nsIn K mainGlobals "_is_share" = some (some (.ref f_is_share)))
    (l_is_share : K.lookup f_is_share = some ⟨oc_is_share, od_is_share, .func (PySem.W.fnOf "_is_share" "_is_share" (defArgs s_is_share) (defBody s_is_share) (defScope s_is_share) .none kV_is_share dc_is_share pm_is_share an_is_share cd_is_share ct_is_share), sl_is_share⟩)
    (cd2_is_share : PySem.W.codeIn K cd_is_share "_is_share" = true)
    (kp_is_share : PySem.W.keepIn K (.ref f_is_share) = true)
    (a_are_bands : PySem.W.nsIn K mainGlobals "_are_bands" = some (some (.ref f_are_bands)))
    (l_are_bands : K.lookup f_are_bands = some ⟨oc_are_bands, od_are_bands, .func (PySem.W.fnOf "_are_bands" "_are_bands" (defArgs s_are_bands) (defBody s_are_bands) (defScope s_are_bands) .none kV_are_bands dc_are_bands pm_are_bands an_are_bands cd_are_bands ct_are_bands), sl_are_bands⟩)
    (cd2_are_bands : PySem.W.codeIn K cd_are_bands "_are_bands" = true)
    (kp_are_bands : PySem.W.keepIn K (.ref f_are_bands) = true)
    (a_is_band : PySem.W.nsIn K mainGlobals "_is_band" = some (some (.ref f_is_band)))
    (l_is_band : K.lookup f_is_band = some ⟨oc_is_band, od_is_band, .func (PySem.W.fnOf "_is_band" "_is_band" (defArgs s_is_band) (defBody s_is_band) (defScope s_is_band) .none kV_is_band dc_is_band pm_is_band an_is_band cd_is_band ct_is_band), sl_is_band⟩)
    (cd2_is_band : PySem.W.codeIn K cd_is_band "_is_band" = true)
    (kp_is_band : PySem.W.keepIn K (.ref f_is_band) = true)
    (a_is_lamp : PySem.W.nsIn K mainGlobals "_is_lamp" = some (some (.ref f_is_lamp)))
    (l_is_lamp : K.lookup f_is_lamp = some ⟨oc_is_lamp, od_is_lamp, .func (PySem.W.fnOf "_is_lamp" "_is_lamp" (defArgs s_is_lamp) (defBody s_is_lamp) (defScope s_is_lamp) .none kV_is_lamp dc_is_lamp pm_is_lamp an_is_lamp cd_is_lamp ct_is_lamp), sl_is_lamp⟩)
    (cd2_is_lamp : PySem.W.codeIn K cd_is_lamp "_is_lamp" = true)
    (kp_is_lamp : PySem.W.keepIn K (.ref f_is_lamp) = true)
    (a_first_irregular : PySem.W.nsIn K mainGlobals "_first_irregular" = some (some (.ref f_first_irregular)))
    (l_first_irregular : K.lookup f_first_irregular = some ⟨oc_first_irregular, od_first_irregular, .func (PySem.W.fnOf "_first_irregular" "_first_irregular" (defArgs s_first_irregular) (defBody s_first_irregular) (defScope s_first_irregular) .none kV_first_irregular dc_first_irregular pm_first_irregular an_first_irregular cd_first_irregular ct_first_irregular), sl_first_irregular⟩)
    (cd2_first_irregular : PySem.W.codeIn K cd_first_irregular "_first_irregular" = true)
    (kp_first_irregular : PySem.W.keepIn K (.ref f_first_irregular) = true)
    (a_crossings : PySem.W.nsIn K mainGlobals "crossings" = some (some (.ref f_crossings)))
    (l_crossings : K.lookup f_crossings = some ⟨oc_crossings, od_crossings, .func (PySem.W.fnOf "crossings" "crossings" (defArgs s_crossings) (defBody s_crossings) (defScope s_crossings) .none kV_crossings dc_crossings pm_crossings an_crossings cd_crossings ct_crossings), sl_crossings⟩)
    (cd2_crossings : PySem.W.codeIn K cd_crossings "crossings" = true)
    (kp_crossings : PySem.W.keepIn K (.ref f_crossings) = true)
    (a_sign_blocks : PySem.W.nsIn K mainGlobals "sign_blocks" = some (some (.ref f_sign_blocks)))
    (l_sign_blocks : K.lookup f_sign_blocks = some ⟨oc_sign_blocks, od_sign_blocks, .func (PySem.W.fnOf "sign_blocks" "sign_blocks" (defArgs s_sign_blocks) (defBody s_sign_blocks) (defScope s_sign_blocks) .none kV_sign_blocks dc_sign_blocks pm_sign_blocks an_sign_blocks cd_sign_blocks ct_sign_blocks), sl_sign_blocks⟩)
    (cd2_sign_blocks : PySem.W.codeIn K cd_sign_blocks "sign_blocks" = true)
    (kp_sign_blocks : PySem.W.keepIn K (.ref f_sign_blocks) = true)
    (a_require_equal_lengths : PySem.W.nsIn K mainGlobals "_require_equal_lengths" = some (some (.ref f_require_equal_lengths)))
    (l_require_equal_lengths : K.lookup f_require_equal_lengths = some ⟨oc_require_equal_lengths, od_require_equal_lengths, .func (PySem.W.fnOf "_require_equal_lengths" "_require_equal_lengths" (defArgs s_require_equal_lengths) (defBody s_require_equal_lengths) (defScope s_require_equal_lengths) .none kV_require_equal_lengths dc_require_equal_lengths pm_require_equal_lengths an_require_equal_lengths cd_require_equal_lengths ct_require_equal_lengths), sl_require_equal_lengths⟩)
    (cd2_require_equal_lengths : PySem.W.codeIn K cd_require_equal_lengths "_require_equal_lengths" = true)
    (kp_require_equal_lengths : PySem.W.keepIn K (.ref f_require_equal_lengths) = true)
    (a_matching_lamp : PySem.W.nsIn K mainGlobals "matching_lamp" = some (some (.ref f_matching_lamp)))
    (l_matching_lamp : K.lookup f_matching_lamp = some ⟨oc_matching_lamp, od_matching_lamp, .func (PySem.W.fnOf "matching_lamp" "matching_lamp" (defArgs s_matching_lamp) (defBody s_matching_lamp) (defScope s_matching_lamp) .none kV_matching_lamp dc_matching_lamp pm_matching_lamp an_matching_lamp cd_matching_lamp ct_matching_lamp), sl_matching_lamp⟩)
    (cd2_matching_lamp : PySem.W.codeIn K cd_matching_lamp "matching_lamp" = true)
    (kp_matching_lamp : PySem.W.keepIn K (.ref f_matching_lamp) = true)
    (a_weights : PySem.W.nsIn K mainGlobals "_weights" = some (some (.ref f_weights)))
    (l_weights : K.lookup f_weights = some ⟨oc_weights, od_weights, .func (PySem.W.fnOf "_weights" "_weights" (defArgs s_weights) (defBody s_weights) (defScope s_weights) .none kV_weights dc_weights pm_weights an_weights cd_weights ct_weights), sl_weights⟩)
    (cd2_weights : PySem.W.codeIn K cd_weights "_weights" = true)
    (kp_weights : PySem.W.keepIn K (.ref f_weights) = true)
    (a_four_of_blocks : PySem.W.nsIn K mainGlobals "_four_of_blocks" = some (some (.ref f_four_of_blocks)))
    (l_four_of_blocks : K.lookup f_four_of_blocks = some ⟨oc_four_of_blocks, od_four_of_blocks, .func (PySem.W.fnOf "_four_of_blocks" "_four_of_blocks" (defArgs s_four_of_blocks) (defBody s_four_of_blocks) (defScope s_four_of_blocks) .none kV_four_of_blocks dc_four_of_blocks pm_four_of_blocks an_four_of_blocks cd_four_of_blocks ct_four_of_blocks), sl_four_of_blocks⟩)
    (cd2_four_of_blocks : PySem.W.codeIn K cd_four_of_blocks "_four_of_blocks" = true)
    (kp_four_of_blocks : PySem.W.keepIn K (.ref f_four_of_blocks) = true)
    (a_other_determinants : PySem.W.nsIn K mainGlobals "_other_determinants" = some (some (.ref f_other_determinants)))
    (l_other_determinants : K.lookup f_other_determinants = some ⟨oc_other_determinants, od_other_determinants, .func (PySem.W.fnOf "_other_determinants" "_other_determinants" (defArgs s_other_determinants) (defBody s_other_determinants) (defScope s_other_determinants) .none kV_other_determinants dc_other_determinants pm_other_determinants an_other_determinants cd_other_determinants ct_other_determinants), sl_other_determinants⟩)
    (cd2_other_determinants : PySem.W.codeIn K cd_other_determinants "_other_determinants" = true)
    (kp_other_determinants : PySem.W.keepIn K (.ref f_other_determinants) = true)
    (a_judge_lamp : PySem.W.nsIn K mainGlobals "judge_lamp" = some (some (.ref f_judge_lamp)))
    (l_judge_lamp : K.lookup f_judge_lamp = some ⟨oc_judge_lamp, od_judge_lamp, .func (PySem.W.fnOf "judge_lamp" "judge_lamp" (defArgs s_judge_lamp) (defBody s_judge_lamp) (defScope s_judge_lamp) .none kV_judge_lamp dc_judge_lamp pm_judge_lamp an_judge_lamp cd_judge_lamp ct_judge_lamp), sl_judge_lamp⟩)
    (cd2_judge_lamp : PySem.W.codeIn K cd_judge_lamp "judge_lamp" = true)
    (kp_judge_lamp : PySem.W.keepIn K (.ref f_judge_lamp) = true)
    (a_explain_lamp : PySem.W.nsIn K mainGlobals "explain_lamp" = some (some (.ref f_explain_lamp)))
    (l_explain_lamp : K.lookup f_explain_lamp = some ⟨oc_explain_lamp, od_explain_lamp, .func (PySem.W.fnOf "explain_lamp" "explain_lamp" (defArgs s_explain_lamp) (defBody s_explain_lamp) (defScope s_explain_lamp) .none kV_explain_lamp dc_explain_lamp pm_explain_lamp an_explain_lamp cd_explain_lamp ct_explain_lamp), sl_explain_lamp⟩)
    (cd2_explain_lamp : PySem.W.codeIn K cd_explain_lamp "explain_lamp" = true)
    (kp_explain_lamp : PySem.W.keepIn K (.ref f_explain_lamp) = true)
    (a_has_form : PySem.W.nsIn K mainGlobals "_has_form" = some (some (.ref f_has_form)))
    (l_has_form : K.lookup f_has_form = some ⟨oc_has_form, od_has_form, .func (PySem.W.fnOf "_has_form" "_has_form" (defArgs s_has_form) (defBody s_has_form) (defScope s_has_form) .none kV_has_form dc_has_form pm_has_form an_has_form cd_has_form ct_has_form), sl_has_form⟩)
    (cd2_has_form : PySem.W.codeIn K cd_has_form "_has_form" = true)
    (kp_has_form : PySem.W.keepIn K (.ref f_has_form) = true)
    (a_is_word : PySem.W.nsIn K mainGlobals "_is_word" = some (some (.ref f_is_word)))
    (l_is_word : K.lookup f_is_word = some ⟨oc_is_word, od_is_word, .func (PySem.W.fnOf "_is_word" "_is_word" (defArgs s_is_word) (defBody s_is_word) (defScope s_is_word) .none kV_is_word dc_is_word pm_is_word an_is_word cd_is_word ct_is_word), sl_is_word⟩)
    (cd2_is_word : PySem.W.codeIn K cd_is_word "_is_word" = true)
    (kp_is_word : PySem.W.keepIn K (.ref f_is_word) = true)
    (a_are_weights : PySem.W.nsIn K mainGlobals "_are_weights" = some (some (.ref f_are_weights)))
    (l_are_weights : K.lookup f_are_weights = some ⟨oc_are_weights, od_are_weights, .func (PySem.W.fnOf "_are_weights" "_are_weights" (defArgs s_are_weights) (defBody s_are_weights) (defScope s_are_weights) .none kV_are_weights dc_are_weights pm_are_weights an_are_weights cd_are_weights ct_are_weights), sl_are_weights⟩)
    (cd2_are_weights : PySem.W.codeIn K cd_are_weights "_are_weights" = true)
    (kp_are_weights : PySem.W.keepIn K (.ref f_are_weights) = true)
    (a_do_match : PySem.W.nsIn K mainGlobals "_do_match" = some (some (.ref f_do_match)))
    (l_do_match : K.lookup f_do_match = some ⟨oc_do_match, od_do_match, .func (PySem.W.fnOf "_do_match" "_do_match" (defArgs s_do_match) (defBody s_do_match) (defScope s_do_match) .none kV_do_match dc_do_match pm_do_match an_do_match cd_do_match ct_do_match), sl_do_match⟩)
    (cd2_do_match : PySem.W.codeIn K cd_do_match "_do_match" = true)
    (kp_do_match : PySem.W.keepIn K (.ref f_do_match) = true)
    (a_law_cell : PySem.W.nsIn K mainGlobals "_law_cell" = some (some (.ref f_law_cell)))
    (l_law_cell : K.lookup f_law_cell = some ⟨oc_law_cell, od_law_cell, .func (PySem.W.fnOf "_law_cell" "_law_cell" (defArgs s_law_cell) (defBody s_law_cell) (defScope s_law_cell) .none kV_law_cell dc_law_cell pm_law_cell an_law_cell cd_law_cell ct_law_cell), sl_law_cell⟩)
    (cd2_law_cell : PySem.W.codeIn K cd_law_cell "_law_cell" = true)
    (kp_law_cell : PySem.W.keepIn K (.ref f_law_cell) = true)
    (a_law_draws : PySem.W.nsIn K mainGlobals "_law_draws" = some (some (.ref f_law_draws)))
    (l_law_draws : K.lookup f_law_draws = some ⟨oc_law_draws, od_law_draws, .func (PySem.W.fnOf "_law_draws" "_law_draws" (defArgs s_law_draws) (defBody s_law_draws) (defScope s_law_draws) .none kV_law_draws dc_law_draws pm_law_draws an_law_draws cd_law_draws ct_law_draws), sl_law_draws⟩)
    (cd2_law_draws : PySem.W.codeIn K cd_law_draws "_law_draws" = true)
    (kp_law_draws : PySem.W.keepIn K (.ref f_law_draws) = true)
    (a_law_bands : PySem.W.nsIn K mainGlobals "_law_bands" = some (some (.ref f_law_bands)))
    (l_law_bands : K.lookup f_law_bands = some ⟨oc_law_bands, od_law_bands, .func (PySem.W.fnOf "_law_bands" "_law_bands" (defArgs s_law_bands) (defBody s_law_bands) (defScope s_law_bands) .none kV_law_bands dc_law_bands pm_law_bands an_law_bands cd_law_bands ct_law_bands), sl_law_bands⟩)
    (cd2_law_bands : PySem.W.codeIn K cd_law_bands "_law_bands" = true)
    (kp_law_bands : PySem.W.keepIn K (.ref f_law_bands) = true)
    (a_law_lamp : PySem.W.nsIn K mainGlobals "_law_lamp" = some (some (.ref f_law_lamp)))
    (l_law_lamp : K.lookup f_law_lamp = some ⟨oc_law_lamp, od_law_lamp, .func (PySem.W.fnOf "_law_lamp" "_law_lamp" (defArgs s_law_lamp) (defBody s_law_lamp) (defScope s_law_lamp) .none kV_law_lamp dc_law_lamp pm_law_lamp an_law_lamp cd_law_lamp ct_law_lamp), sl_law_lamp⟩)
    (cd2_law_lamp : PySem.W.codeIn K cd_law_lamp "_law_lamp" = true)
    (kp_law_lamp : PySem.W.keepIn K (.ref f_law_lamp) = true)
    (a_law_values : PySem.W.nsIn K mainGlobals "_law_values" = some (some (.ref f_law_values)))
    (l_law_values : K.lookup f_law_values = some ⟨oc_law_values, od_law_values, .func (PySem.W.fnOf "_law_values" "_law_values" (defArgs s_law_values) (defBody s_law_values) (defScope s_law_values) .none kV_law_values dc_law_values pm_law_values an_law_values cd_law_values ct_law_values), sl_law_values⟩)
    (cd2_law_values : PySem.W.codeIn K cd_law_values "_law_values" = true)
    (kp_law_values : PySem.W.keepIn K (.ref f_law_values) = true)
    (a_law_generators : PySem.W.nsIn K mainGlobals "_law_generators" = some (some (.ref f_law_generators)))
    (l_law_generators : K.lookup f_law_generators = some ⟨oc_law_generators, od_law_generators, .func (PySem.W.fnOf "_law_generators" "_law_generators" (defArgs s_law_generators) (defBody s_law_generators) (defScope s_law_generators) .none kV_law_generators dc_law_generators pm_law_generators an_law_generators cd_law_generators ct_law_generators), sl_law_generators⟩)
    (cd2_law_generators : PySem.W.codeIn K cd_law_generators "_law_generators" = true)
    (kp_law_generators : PySem.W.keepIn K (.ref f_law_generators) = true)
    (a_law_sum : PySem.W.nsIn K mainGlobals "_law_sum" = some (some (.ref f_law_sum)))
    (l_law_sum : K.lookup f_law_sum = some ⟨oc_law_sum, od_law_sum, .func (PySem.W.fnOf "_law_sum" "_law_sum" (defArgs s_law_sum) (defBody s_law_sum) (defScope s_law_sum) .none kV_law_sum dc_law_sum pm_law_sum an_law_sum cd_law_sum ct_law_sum), sl_law_sum⟩)
    (cd2_law_sum : PySem.W.codeIn K cd_law_sum "_law_sum" = true)
    (kp_law_sum : PySem.W.keepIn K (.ref f_law_sum) = true)
    (a_law_colored : PySem.W.nsIn K mainGlobals "_law_colored" = some (some (.ref f_law_colored)))
    (l_law_colored : K.lookup f_law_colored = some ⟨oc_law_colored, od_law_colored, .func (PySem.W.fnOf "_law_colored" "_law_colored" (defArgs s_law_colored) (defBody s_law_colored) (defScope s_law_colored) .none kV_law_colored dc_law_colored pm_law_colored an_law_colored cd_law_colored ct_law_colored), sl_law_colored⟩)
    (cd2_law_colored : PySem.W.codeIn K cd_law_colored "_law_colored" = true)
    (kp_law_colored : PySem.W.keepIn K (.ref f_law_colored) = true)
    (a_law_quotients : PySem.W.nsIn K mainGlobals "_law_quotients" = some (some (.ref f_law_quotients)))
    (l_law_quotients : K.lookup f_law_quotients = some ⟨oc_law_quotients, od_law_quotients, .func (PySem.W.fnOf "_law_quotients" "_law_quotients" (defArgs s_law_quotients) (defBody s_law_quotients) (defScope s_law_quotients) .none kV_law_quotients dc_law_quotients pm_law_quotients an_law_quotients cd_law_quotients ct_law_quotients), sl_law_quotients⟩)
    (cd2_law_quotients : PySem.W.codeIn K cd_law_quotients "_law_quotients" = true)
    (kp_law_quotients : PySem.W.keepIn K (.ref f_law_quotients) = true)
    (a_law_scene : PySem.W.nsIn K mainGlobals "_law_scene" = some (some (.ref f_law_scene)))
    (l_law_scene : K.lookup f_law_scene = some ⟨oc_law_scene, od_law_scene, .func (PySem.W.fnOf "_law_scene" "_law_scene" (defArgs s_law_scene) (defBody s_law_scene) (defScope s_law_scene) .none kV_law_scene dc_law_scene pm_law_scene an_law_scene cd_law_scene ct_law_scene), sl_law_scene⟩)
    (cd2_law_scene : PySem.W.codeIn K cd_law_scene "_law_scene" = true)
    (kp_law_scene : PySem.W.keepIn K (.ref f_law_scene) = true)
    (a_law_is_band : PySem.W.nsIn K mainGlobals "_law_is_band" = some (some (.ref f_law_is_band)))
    (l_law_is_band : K.lookup f_law_is_band = some ⟨oc_law_is_band, od_law_is_band, .func (PySem.W.fnOf "_law_is_band" "_law_is_band" (defArgs s_law_is_band) (defBody s_law_is_band) (defScope s_law_is_band) .none kV_law_is_band dc_law_is_band pm_law_is_band an_law_is_band cd_law_is_band ct_law_is_band), sl_law_is_band⟩)
    (cd2_law_is_band : PySem.W.codeIn K cd_law_is_band "_law_is_band" = true)
    (kp_law_is_band : PySem.W.keepIn K (.ref f_law_is_band) = true)
    (a_law_kind : PySem.W.nsIn K mainGlobals "_law_kind" = some (some (.ref f_law_kind)))
    (l_law_kind : K.lookup f_law_kind = some ⟨oc_law_kind, od_law_kind, .func (PySem.W.fnOf "_law_kind" "_law_kind" (defArgs s_law_kind) (defBody s_law_kind) (defScope s_law_kind) .none kV_law_kind dc_law_kind pm_law_kind an_law_kind cd_law_kind ct_law_kind), sl_law_kind⟩)
    (cd2_law_kind : PySem.W.codeIn K cd_law_kind "_law_kind" = true)
    (kp_law_kind : PySem.W.keepIn K (.ref f_law_kind) = true)
    (a_law_turned : PySem.W.nsIn K mainGlobals "_law_turned" = some (some (.ref f_law_turned)))
    (l_law_turned : K.lookup f_law_turned = some ⟨oc_law_turned, od_law_turned, .func (PySem.W.fnOf "_law_turned" "_law_turned" (defArgs s_law_turned) (defBody s_law_turned) (defScope s_law_turned) .none kV_law_turned dc_law_turned pm_law_turned an_law_turned cd_law_turned ct_law_turned), sl_law_turned⟩)
    (cd2_law_turned : PySem.W.codeIn K cd_law_turned "_law_turned" = true)
    (kp_law_turned : PySem.W.keepIn K (.ref f_law_turned) = true)
    (a_law_crossings : PySem.W.nsIn K mainGlobals "_law_crossings" = some (some (.ref f_law_crossings)))
    (l_law_crossings : K.lookup f_law_crossings = some ⟨oc_law_crossings, od_law_crossings, .func (PySem.W.fnOf "_law_crossings" "_law_crossings" (defArgs s_law_crossings) (defBody s_law_crossings) (defScope s_law_crossings) .none kV_law_crossings dc_law_crossings pm_law_crossings an_law_crossings cd_law_crossings ct_law_crossings), sl_law_crossings⟩)
    (cd2_law_crossings : PySem.W.codeIn K cd_law_crossings "_law_crossings" = true)
    (kp_law_crossings : PySem.W.keepIn K (.ref f_law_crossings) = true)
    (a_law_judged : PySem.W.nsIn K mainGlobals "_law_judged" = some (some (.ref f_law_judged)))
    (l_law_judged : K.lookup f_law_judged = some ⟨oc_law_judged, od_law_judged, .func (PySem.W.fnOf "_law_judged" "_law_judged" (defArgs s_law_judged) (defBody s_law_judged) (defScope s_law_judged) .none kV_law_judged dc_law_judged pm_law_judged an_law_judged cd_law_judged ct_law_judged), sl_law_judged⟩)
    (cd2_law_judged : PySem.W.codeIn K cd_law_judged "_law_judged" = true)
    (kp_law_judged : PySem.W.keepIn K (.ref f_law_judged) = true)
    (a_law_refused : PySem.W.nsIn K mainGlobals "_law_refused" = some (some (.ref f_law_refused)))
    (l_law_refused : K.lookup f_law_refused = some ⟨oc_law_refused, od_law_refused, .func (PySem.W.fnOf "_law_refused" "_law_refused" (defArgs s_law_refused) (defBody s_law_refused) (defScope s_law_refused) .none kV_law_refused dc_law_refused pm_law_refused an_law_refused cd_law_refused ct_law_refused), sl_law_refused⟩)
    (cd2_law_refused : PySem.W.codeIn K cd_law_refused "_law_refused" = true)
    (kp_law_refused : PySem.W.keepIn K (.ref f_law_refused) = true)
    (a_law : PySem.W.nsIn K mainGlobals "law" = some (some (.ref f_law)))
    (l_law : K.lookup f_law = some ⟨oc_law, od_law, .func (PySem.W.fnOf "law" "law" (defArgs s_law) (defBody s_law) (defScope s_law) .none kV_law dc_law pm_law an_law cd_law ct_law), sl_law⟩)
    (cd2_law : PySem.W.codeIn K cd_law "law" = true)
    (kp_law : PySem.W.keepIn K (.ref f_law) = true)
    (pg_Quotient : PySem.W.plainGet K C_Quotient Str.empty = true)
    (hd_Quotient : PySem.W.hasDictIn K C_Quotient = true)
    (po_Quotient : PySem.W.plainOver K C_Quotient = true)
    (sa_Quotient : PySem.W.findIn K (.ref C_Quotient) "__setattr__" = some (some (.builtin "object.__setattr__")))
    (mi_Quotient : PySem.W.makesIn K C_Quotient = true)
    (kc_Quotient : PySem.W.keepIn K (.ref C_Quotient) = true)
    (ha_Quotient : PySem.W.findIn K (.ref C_Quotient) "__class__" = some (some (.builtin "object.__class__")))
    (hn_Quotient : PySem.W.specialIn K (.builtin "object.__class__") "__get__" = some (some (.builtin "getset_descriptor.__get__")))
    (ht_Quotient : PySem.W.takesIn K (.builtin "object.__class__") = some true)
    (hm_Quotient : PySem.W.mroIn K C_Quotient (.type "object") = some true)
    (sf_Quotient : PySem.W.selfFirst K C_Quotient = true)
    (na_Quotient_top : PySem.W.findIn K (.ref C_Quotient) "top" = some none)
    (na_Quotient_bottom : PySem.W.findIn K (.ref C_Quotient) "bottom" = some none)
    (pg_Observer : PySem.W.plainGet K C_Observer Str.empty = true)
    (hd_Observer : PySem.W.hasDictIn K C_Observer = true)
    (po_Observer : PySem.W.plainOver K C_Observer = true)
    (sa_Observer : PySem.W.findIn K (.ref C_Observer) "__setattr__" = some (some (.builtin "object.__setattr__")))
    (mi_Observer : PySem.W.makesIn K C_Observer = true)
    (kc_Observer : PySem.W.keepIn K (.ref C_Observer) = true)
    (ha_Observer : PySem.W.findIn K (.ref C_Observer) "__class__" = some (some (.builtin "object.__class__")))
    (hn_Observer : PySem.W.specialIn K (.builtin "object.__class__") "__get__" = some (some (.builtin "getset_descriptor.__get__")))
    (ht_Observer : PySem.W.takesIn K (.builtin "object.__class__") = some true)
    (hm_Observer : PySem.W.mroIn K C_Observer (.type "object") = some true)
    (sf_Observer : PySem.W.selfFirst K C_Observer = true)
    (na_Observer_bands : PySem.W.findIn K (.ref C_Observer) "bands" = some none)
    (na_Observer_vectors : PySem.W.findIn K (.ref C_Observer) "vectors" = some none)
    (pg_View : PySem.W.plainGet K C_View Str.empty = true)
    (hd_View : PySem.W.hasDictIn K C_View = true)
    (po_View : PySem.W.plainOver K C_View = true)
    (sa_View : PySem.W.findIn K (.ref C_View) "__setattr__" = some (some (.builtin "object.__setattr__")))
    (mi_View : PySem.W.makesIn K C_View = true)
    (kc_View : PySem.W.keepIn K (.ref C_View) = true)
    (ha_View : PySem.W.findIn K (.ref C_View) "__class__" = some (some (.builtin "object.__class__")))
    (hn_View : PySem.W.specialIn K (.builtin "object.__class__") "__get__" = some (some (.builtin "getset_descriptor.__get__")))
    (ht_View : PySem.W.takesIn K (.builtin "object.__class__") = some true)
    (hm_View : PySem.W.mroIn K C_View (.type "object") = some true)
    (sf_View : PySem.W.selfFirst K C_View = true)
    (na_View_observer : PySem.W.findIn K (.ref C_View) "observer" = some none)
    (na_View_lamp : PySem.W.findIn K (.ref C_View) "lamp" = some none)
    (na_View_generators : PySem.W.findIn K (.ref C_View) "generators" = some none)
    (kit_Quotient_Quotient : PySem.W.kitOne K (.ref C_Quotient) (.ref C_Quotient) = some true)
    (kit_bool_bool : PySem.W.kitOne K (.type "bool") (.type "bool") = some true)
    (kit_int_int : PySem.W.kitOne K (.type "int") (.type "int") = some true)
    (kit_int_bool : PySem.W.kitOne K (.type "int") (.type "bool") = some false)
    (kit_tuple_tuple : PySem.W.kitOne K (.type "tuple") (.type "tuple") = some true)
    (kit_int_tuple : PySem.W.kitOne K (.type "int") (.type "tuple") = some false)
    (kit_str_tuple : PySem.W.kitOne K (.type "str") (.type "tuple") = some false)
    (kit_NoneType_tuple : PySem.W.kitOne K (.type "NoneType") (.type "tuple") = some false)
    (kit_list_tuple : PySem.W.kitOne K (.type "list") (.type "tuple") = some false)
    (kit_dict_tuple : PySem.W.kitOne K (.type "dict") (.type "tuple") = some false)
    (kit_Quotient_tuple : PySem.W.kitOne K (.ref C_Quotient) (.type "tuple") = some false)
    (kit_int_Quotient : PySem.W.kitOne K (.type "int") (.ref C_Quotient) = some false)
    (kit_str_Quotient : PySem.W.kitOne K (.type "str") (.ref C_Quotient) = some false)
    (kit_NoneType_Quotient : PySem.W.kitOne K (.type "NoneType") (.ref C_Quotient) = some false)
    (kit_list_Quotient : PySem.W.kitOne K (.type "list") (.ref C_Quotient) = some false)
    (kit_dict_Quotient : PySem.W.kitOne K (.type "dict") (.ref C_Quotient) = some false)
    (kit_tuple_Quotient : PySem.W.kitOne K (.type "tuple") (.ref C_Quotient) = some false)
    (kit_str_int : PySem.W.kitOne K (.type "str") (.type "int") = some false)
    (kit_NoneType_int : PySem.W.kitOne K (.type "NoneType") (.type "int") = some false)
    (kit_list_int : PySem.W.kitOne K (.type "list") (.type "int") = some false)
    (kit_dict_int : PySem.W.kitOne K (.type "dict") (.type "int") = some false)
    (kit_tuple_int : PySem.W.kitOne K (.type "tuple") (.type "int") = some false)
    (kit_Quotient_int : PySem.W.kitOne K (.ref C_Quotient) (.type "int") = some false)
    (kit_int_str : PySem.W.kitOne K (.type "int") (.type "str") = some false)
    (kit_NoneType_str : PySem.W.kitOne K (.type "NoneType") (.type "str") = some false)
    (kit_list_str : PySem.W.kitOne K (.type "list") (.type "str") = some false)
    (kit_dict_str : PySem.W.kitOne K (.type "dict") (.type "str") = some false)
    (kit_tuple_str : PySem.W.kitOne K (.type "tuple") (.type "str") = some false)
    (kit_Quotient_str : PySem.W.kitOne K (.ref C_Quotient) (.type "str") = some false)
    (kit_str_str : PySem.W.kitOne K (.type "str") (.type "str") = some true)
    (kit_BadReflectance_ColorError : PySem.W.kitOne K (.ref C_BadReflectance) (.ref C_ColorError) = some true)
    (x_BadQuotient : PySem.W.excIn K C_BadQuotient [.type "ValueError", .type "Exception", .type "BaseException", .type "object"] "ValueError.__new__" = true)
    (kc_BadQuotient : PySem.W.keepIn K (.ref C_BadQuotient) = true)
    (xb_BadQuotient : PySem.W.subIn K (.ref C_BadQuotient) (.type "BaseException") = some true)
    (xd_BadQuotient : PySem.W.hasDictIn K C_BadQuotient = true)
    (xt_BadQuotient : PySem.W.typeIn K (.ref C_BadQuotient) = some (.type "type"))
    (xi_BadQuotient : PySem.W.isClsIn K C_BadQuotient = true)
    (xs_BadQuotient : PySem.W.subIn K (.ref C_BadQuotient) (.ref C_BadQuotient) = some true)
    (x_BadObserver : PySem.W.excIn K C_BadObserver [.type "ValueError", .type "Exception", .type "BaseException", .type "object"] "ValueError.__new__" = true)
    (kc_BadObserver : PySem.W.keepIn K (.ref C_BadObserver) = true)
    (xb_BadObserver : PySem.W.subIn K (.ref C_BadObserver) (.type "BaseException") = some true)
    (xd_BadObserver : PySem.W.hasDictIn K C_BadObserver = true)
    (xt_BadObserver : PySem.W.typeIn K (.ref C_BadObserver) = some (.type "type"))
    (xi_BadObserver : PySem.W.isClsIn K C_BadObserver = true)
    (xs_BadObserver : PySem.W.subIn K (.ref C_BadObserver) (.ref C_BadObserver) = some true)
    (x_BadLamp : PySem.W.excIn K C_BadLamp [.type "ValueError", .type "Exception", .type "BaseException", .type "object"] "ValueError.__new__" = true)
    (kc_BadLamp : PySem.W.keepIn K (.ref C_BadLamp) = true)
    (xb_BadLamp : PySem.W.subIn K (.ref C_BadLamp) (.type "BaseException") = some true)
    (xd_BadLamp : PySem.W.hasDictIn K C_BadLamp = true)
    (xt_BadLamp : PySem.W.typeIn K (.ref C_BadLamp) = some (.type "type"))
    (xi_BadLamp : PySem.W.isClsIn K C_BadLamp = true)
    (xs_BadLamp : PySem.W.subIn K (.ref C_BadLamp) (.ref C_BadLamp) = some true)
    (x_BadReflectance : PySem.W.excIn K C_BadReflectance [.type "ValueError", .type "Exception", .type "BaseException", .type "object"] "ValueError.__new__" = true)
    (kc_BadReflectance : PySem.W.keepIn K (.ref C_BadReflectance) = true)
    (xb_BadReflectance : PySem.W.subIn K (.ref C_BadReflectance) (.type "BaseException") = some true)
    (xd_BadReflectance : PySem.W.hasDictIn K C_BadReflectance = true)
    (xt_BadReflectance : PySem.W.typeIn K (.ref C_BadReflectance) = some (.type "type"))
    (xi_BadReflectance : PySem.W.isClsIn K C_BadReflectance = true)
    (xs_BadReflectance : PySem.W.subIn K (.ref C_BadReflectance) (.ref C_BadReflectance) = some true)
    (x_LengthsDiffer : PySem.W.excIn K C_LengthsDiffer [.type "ValueError", .type "Exception", .type "BaseException", .type "object"] "ValueError.__new__" = true)
    (kc_LengthsDiffer : PySem.W.keepIn K (.ref C_LengthsDiffer) = true)
    (xb_LengthsDiffer : PySem.W.subIn K (.ref C_LengthsDiffer) (.type "BaseException") = some true)
    (xd_LengthsDiffer : PySem.W.hasDictIn K C_LengthsDiffer = true)
    (xt_LengthsDiffer : PySem.W.typeIn K (.ref C_LengthsDiffer) = some (.type "type"))
    (xi_LengthsDiffer : PySem.W.isClsIn K C_LengthsDiffer = true)
    (xs_LengthsDiffer : PySem.W.subIn K (.ref C_LengthsDiffer) (.ref C_LengthsDiffer) = some true)
    (eg_BadReflectance : PySem.W.findIn K (.ref C_BadReflectance) "__getattribute__" = some (some (.builtin "BaseException.__getattribute__")))
    (ek_BadReflectance : PySem.W.findIn K (.ref C_BadReflectance) "__getattr__" = some none)
    (ea_BadReflectance : PySem.W.findIn K (.ref C_BadReflectance) "__class__" = some (some (.builtin "object.__class__")))
    (en_BadReflectance : PySem.W.specialIn K (.builtin "object.__class__") "__get__" = some (some (.builtin "getset_descriptor.__get__")))
    (et_BadReflectance : PySem.W.takesIn K (.builtin "object.__class__") = some true)
    (em_BadReflectance : PySem.W.mroIn K C_BadReflectance (.type "object") = some true)
    (rd_Observer : PySem.W.readsIn K C_Observer (.type "type") = true)
    (cc_Observer_LEAST_BANDS : PySem.W.findCls K (.ref C_Observer) (.type "type") "LEAST_BANDS" = some (.val (.int 4 tc_Observer_LEAST_BANDS)))
    (cc_Observer_MOST_BANDS : PySem.W.findCls K (.ref C_Observer) (.type "type") "MOST_BANDS" = some (.val (.int 7 tc_Observer_MOST_BANDS)))
    (nf_str : PySem.W.notFirst K C_Quotient (.type "str") = true)
    (ss_str : PySem.W.subIn K (.ref C_Quotient) (.type "str") = some false)
    (c_FEW : PySem.W.nsIn K mainGlobals "FEW" = some (some (.str "few" t_FEW)))
    (c_LAMP : PySem.W.nsIn K mainGlobals "LAMP" = some (some (.str "lamp" t_LAMP)))
    (n_abs : PySem.W.nsIn K mainGlobals "abs" = some none)
    (n_all : PySem.W.nsIn K mainGlobals "all" = some none)
    (n_bool : PySem.W.nsIn K mainGlobals "bool" = some none)
    (n_divmod : PySem.W.nsIn K mainGlobals "divmod" = some none)
    (n_enumerate : PySem.W.nsIn K mainGlobals "enumerate" = some none)
    (n_int : PySem.W.nsIn K mainGlobals "int" = some none)
    (n_isinstance : PySem.W.nsIn K mainGlobals "isinstance" = some none)
    (n_len : PySem.W.nsIn K mainGlobals "len" = some none)
    (n_list : PySem.W.nsIn K mainGlobals "list" = some none)
    (n_range : PySem.W.nsIn K mainGlobals "range" = some none)
    (n_str : PySem.W.nsIn K mainGlobals "str" = some none)
    (n_sum : PySem.W.nsIn K mainGlobals "sum" = some none)
    (n_tuple : PySem.W.nsIn K mainGlobals "tuple" = some none)
    (n_zip : PySem.W.nsIn K mainGlobals "zip" = some none)
    (n_ValueError : PySem.W.nsIn K mainGlobals "ValueError" = some none)
    (i_gcd : PySem.W.nsIn K mainGlobals "gcd" = some (some (.builtin "math.gcd")))
    (c_PIECE_DIGITS : PySem.W.nsIn K mainGlobals "PIECE_DIGITS" = some (some (.int 18 t_PIECE_DIGITS)))
    (c_PIECE : PySem.W.nsIn K mainGlobals "PIECE" = some (some (.int 1000000000000000000 t_PIECE)))
    (c_PARTS : PySem.W.nsIn K mainGlobals "PARTS" = some (some (.int 3 t_PARTS)))
    (c_MOST_PART : PySem.W.nsIn K mainGlobals "MOST_PART" = some (some (.int 100 t_MOST_PART)))
    (c_LEAST_LIGHT : PySem.W.nsIn K mainGlobals "LEAST_LIGHT" = some (some (.int 1 t_LEAST_LIGHT)))
    (c_MOST_LIGHT : PySem.W.nsIn K mainGlobals "MOST_LIGHT" = some (some (.int 100 t_MOST_LIGHT)))
    (c_FOUR : PySem.W.nsIn K mainGlobals "FOUR" = some (some (.int 4 t_FOUR)))
    (c_MOST_FEW : PySem.W.nsIn K mainGlobals "MOST_FEW" = some (some (.int 2 t_MOST_FEW))) :
    ∃ fd : FuncData, (∀ (s : Shared) (v : Value), BindsTo s fd ⟨[v], []⟩ [("script", v)]) ∧ ∀ base : Heap, K.In base → base.Ns mainGlobals mg → FnOk Pr w K mg base CX0 38 fa fd ["script"] (spLaw K) := by
  have e : f_law = fa := by
    have e0 := hfa.symm.trans (PySem.W.mg_of X G a_law)
    cases e0
    rfl
  subst e
  have F_Quotient_init := fun_mk (st := s_Quotient_init) l_Quotient_init cd2_Quotient_init kp_Quotient_init
  have b_Quotient_init := F_Quotient_init.binds (ps := ["self", "top", "bottom"]) fun _ _ _ _ _ _ us hl => match us, hl with | [_, _, _], _ => rfl
  have F_Quotient_add := fun_mk (st := s_Quotient_add) l_Quotient_add cd2_Quotient_add kp_Quotient_add
  have b_Quotient_add := F_Quotient_add.binds (ps := ["self", "other"]) fun _ _ _ _ _ _ us hl => match us, hl with | [_, _], _ => rfl
  have F_Quotient_sub := fun_mk (st := s_Quotient_sub) l_Quotient_sub cd2_Quotient_sub kp_Quotient_sub
  have b_Quotient_sub := F_Quotient_sub.binds (ps := ["self", "other"]) fun _ _ _ _ _ _ us hl => match us, hl with | [_, _], _ => rfl
  have F_Quotient_mul := fun_mk (st := s_Quotient_mul) l_Quotient_mul cd2_Quotient_mul kp_Quotient_mul
  have b_Quotient_mul := F_Quotient_mul.binds (ps := ["self", "other"]) fun _ _ _ _ _ _ us hl => match us, hl with | [_, _], _ => rfl
  have F_Quotient_neg := fun_mk (st := s_Quotient_neg) l_Quotient_neg cd2_Quotient_neg kp_Quotient_neg
  have b_Quotient_neg := F_Quotient_neg.binds (ps := ["self"]) fun _ _ _ _ _ _ us hl => match us, hl with | [_], _ => rfl
  have F_Quotient_eq := fun_mk (st := s_Quotient_eq) l_Quotient_eq cd2_Quotient_eq kp_Quotient_eq
  have b_Quotient_eq := F_Quotient_eq.binds (ps := ["self", "other"]) fun _ _ _ _ _ _ us hl => match us, hl with | [_, _], _ => rfl
  have F_Quotient_lt := fun_mk (st := s_Quotient_lt) l_Quotient_lt cd2_Quotient_lt kp_Quotient_lt
  have b_Quotient_lt := F_Quotient_lt.binds (ps := ["self", "other"]) fun _ _ _ _ _ _ us hl => match us, hl with | [_, _], _ => rfl
  have F_Quotient_le := fun_mk (st := s_Quotient_le) l_Quotient_le cd2_Quotient_le kp_Quotient_le
  have b_Quotient_le := F_Quotient_le.binds (ps := ["self", "other"]) fun _ _ _ _ _ _ us hl => match us, hl with | [_, _], _ => rfl
  have F_Quotient_over := fun_mk (st := s_Quotient_over) l_Quotient_over cd2_Quotient_over kp_Quotient_over
  have b_Quotient_over := F_Quotient_over.binds (ps := ["self", "other"]) fun _ _ _ _ _ _ us hl => match us, hl with | [_, _], _ => rfl
  have F_whole := fun_mk (st := s_whole) l_whole cd2_whole kp_whole
  have b_whole := F_whole.binds (ps := ["number"]) fun _ _ _ _ _ _ us hl => match us, hl with | [_], _ => rfl
  have F_zero := fun_mk (st := s_zero) l_zero cd2_zero kp_zero
  have b_zero := F_zero.binds (ps := []) fun _ _ _ _ _ _ us hl => match us, hl with | [], _ => rfl
  have F_one := fun_mk (st := s_one) l_one cd2_one kp_one
  have b_one := F_one.binds (ps := []) fun _ _ _ _ _ _ us hl => match us, hl with | [], _ => rfl
  have F_is_quotient := fun_mk (st := s_is_quotient) l_is_quotient cd2_is_quotient kp_is_quotient
  have b_is_quotient := F_is_quotient.binds (ps := ["value"]) fun _ _ _ _ _ _ us hl => match us, hl with | [_], _ => rfl
  have F_sign_of := fun_mk (st := s_sign_of) l_sign_of cd2_sign_of kp_sign_of
  have b_sign_of := F_sign_of.binds (ps := ["quotient"]) fun _ _ _ _ _ _ us hl => match us, hl with | [_], _ => rfl
  have F_size_of := fun_mk (st := s_size_of) l_size_of cd2_size_of kp_size_of
  have b_size_of := F_size_of.binds (ps := ["quotient"]) fun _ _ _ _ _ _ us hl => match us, hl with | [_], _ => rfl
  have F_black := fun_mk (st := s_black) l_black cd2_black kp_black
  have b_black := F_black.binds (ps := []) fun _ _ _ _ _ _ us hl => match us, hl with | [], _ => rfl
  have F_det := fun_mk (st := s_det) l_det cd2_det kp_det
  have b_det := F_det.binds (ps := ["first", "second", "third"]) fun _ _ _ _ _ _ us hl => match us, hl with | [_, _, _], _ => rfl
  have F_scaled := fun_mk (st := s_scaled) l_scaled cd2_scaled kp_scaled
  have b_scaled := F_scaled.binds (ps := ["factor", "vector"]) fun _ _ _ _ _ _ us hl => match us, hl with | [_, _], _ => rfl
  have F_added := fun_mk (st := s_added) l_added cd2_added kp_added
  have b_added := F_added.binds (ps := ["first", "second"]) fun _ _ _ _ _ _ us hl => match us, hl with | [_, _], _ => rfl
  have F_taken := fun_mk (st := s_taken) l_taken cd2_taken kp_taken
  have b_taken := F_taken.binds (ps := ["first", "second"]) fun _ _ _ _ _ _ us hl => match us, hl with | [_, _], _ => rfl
  have F_sum_of := fun_mk (st := s_sum_of) l_sum_of cd2_sum_of kp_sum_of
  have b_sum_of := F_sum_of.binds (ps := ["vectors"]) fun _ _ _ _ _ _ us hl => match us, hl with | [_], _ => rfl
  have F_Observer_init := fun_mk (st := s_Observer_init) l_Observer_init cd2_Observer_init kp_Observer_init
  have b_Observer_init := F_Observer_init.binds (ps := ["self", "bands"]) fun _ _ _ _ _ _ us hl => match us, hl with | [_, _], _ => rfl
  have F_Observer_len := fun_mk (st := s_Observer_len) l_Observer_len cd2_Observer_len kp_Observer_len
  have b_Observer_len := F_Observer_len.binds (ps := ["self"]) fun _ _ _ _ _ _ us hl => match us, hl with | [_], _ => rfl
  have F_View_init := fun_mk (st := s_View_init) l_View_init cd2_View_init kp_View_init
  have b_View_init := F_View_init.binds (ps := ["self", "observer", "lamp"]) fun _ _ _ _ _ _ us hl => match us, hl with | [_, _, _], _ => rfl
  have F_View_len := fun_mk (st := s_View_len) l_View_len cd2_View_len kp_View_len
  have b_View_len := F_View_len.binds (ps := ["self"]) fun _ _ _ _ _ _ us hl => match us, hl with | [_], _ => rfl
  have F_require_reflectance := fun_mk (st := s_require_reflectance) l_require_reflectance cd2_require_reflectance kp_require_reflectance
  have b_require_reflectance := F_require_reflectance.binds (ps := ["view", "value"]) fun _ _ _ _ _ _ us hl => match us, hl with | [_, _], _ => rfl
  have F_is_reflectance := fun_mk (st := s_is_reflectance) l_is_reflectance cd2_is_reflectance kp_is_reflectance
  have b_is_reflectance := F_is_reflectance.binds (ps := ["view", "value"]) fun _ _ _ _ _ _ us hl => match us, hl with | [_, _], _ => rfl
  have F_is_number := fun_mk (st := s_is_number) l_is_number cd2_is_number kp_is_number
  have b_is_number := F_is_number.binds (ps := ["value", "least", "most"]) fun _ _ _ _ _ _ us hl => match us, hl with | [_, _, _], _ => rfl
  have F_is_share := fun_mk (st := s_is_share) l_is_share cd2_is_share kp_is_share
  have b_is_share := F_is_share.binds (ps := ["value"]) fun _ _ _ _ _ _ us hl => match us, hl with | [_], _ => rfl
  have F_are_bands := fun_mk (st := s_are_bands) l_are_bands cd2_are_bands kp_are_bands
  have b_are_bands := F_are_bands.binds (ps := ["bands"]) fun _ _ _ _ _ _ us hl => match us, hl with | [_], _ => rfl
  have F_is_band := fun_mk (st := s_is_band) l_is_band cd2_is_band kp_is_band
  have b_is_band := F_is_band.binds (ps := ["band"]) fun _ _ _ _ _ _ us hl => match us, hl with | [_], _ => rfl
  have F_is_lamp := fun_mk (st := s_is_lamp) l_is_lamp cd2_is_lamp kp_is_lamp
  have b_is_lamp := F_is_lamp.binds (ps := ["observer", "lamp"]) fun _ _ _ _ _ _ us hl => match us, hl with | [_, _], _ => rfl
  have F_first_irregular := fun_mk (st := s_first_irregular) l_first_irregular cd2_first_irregular kp_first_irregular
  have b_first_irregular := F_first_irregular.binds (ps := ["vectors"]) fun _ _ _ _ _ _ us hl => match us, hl with | [_], _ => rfl
  have F_crossings := fun_mk (st := s_crossings) l_crossings cd2_crossings kp_crossings
  have b_crossings := F_crossings.binds (ps := ["first", "second"]) fun _ _ _ _ _ _ us hl => match us, hl with | [_, _], _ => rfl
  have F_sign_blocks := fun_mk (st := s_sign_blocks) l_sign_blocks cd2_sign_blocks kp_sign_blocks
  have b_sign_blocks := F_sign_blocks.binds (ps := ["differences"]) fun _ _ _ _ _ _ us hl => match us, hl with | [_], _ => rfl
  have F_require_equal_lengths := fun_mk (st := s_require_equal_lengths) l_require_equal_lengths cd2_require_equal_lengths kp_require_equal_lengths
  have b_require_equal_lengths := F_require_equal_lengths.binds (ps := ["first", "second"]) fun _ _ _ _ _ _ us hl => match us, hl with | [_, _], _ => rfl
  have F_matching_lamp := fun_mk (st := s_matching_lamp) l_matching_lamp cd2_matching_lamp kp_matching_lamp
  have b_matching_lamp := F_matching_lamp.binds (ps := ["observer", "first", "second"]) fun _ _ _ _ _ _ us hl => match us, hl with | [_, _, _], _ => rfl
  have F_weights := fun_mk (st := s_weights) l_weights cd2_weights kp_weights
  have b_weights := F_weights.binds (ps := ["vectors", "differences", "blocks"]) fun _ _ _ _ _ _ us hl => match us, hl with | [_, _, _], _ => rfl
  have F_four_of_blocks := fun_mk (st := s_four_of_blocks) l_four_of_blocks cd2_four_of_blocks kp_four_of_blocks
  have b_four_of_blocks := F_four_of_blocks.binds (ps := ["blocks", "number", "band"]) fun _ _ _ _ _ _ us hl => match us, hl with | [_, _, _], _ => rfl
  have F_other_determinants := fun_mk (st := s_other_determinants) l_other_determinants cd2_other_determinants kp_other_determinants
  have b_other_determinants := F_other_determinants.binds (ps := ["vectors", "bands"]) fun _ _ _ _ _ _ us hl => match us, hl with | [_, _], _ => rfl
  have F_judge_lamp := fun_mk (st := s_judge_lamp) l_judge_lamp cd2_judge_lamp kp_judge_lamp
  have b_judge_lamp := F_judge_lamp.binds (ps := ["observer", "first", "second", "paper"]) fun _ _ _ _ _ _ us hl => match us, hl with | [_, _, _, _], _ => rfl
  have F_explain_lamp := fun_mk (st := s_explain_lamp) l_explain_lamp cd2_explain_lamp kp_explain_lamp
  have b_explain_lamp := F_explain_lamp.binds (ps := ["observer", "first", "second"]) fun _ _ _ _ _ _ us hl => match us, hl with | [_, _, _], _ => rfl
  have F_has_form := fun_mk (st := s_has_form) l_has_form cd2_has_form kp_has_form
  have b_has_form := F_has_form.binds (ps := ["paper", "word", "length"]) fun _ _ _ _ _ _ us hl => match us, hl with | [_, _, _], _ => rfl
  have F_is_word := fun_mk (st := s_is_word) l_is_word cd2_is_word kp_is_word
  have b_is_word := F_is_word.binds (ps := ["value", "words"]) fun _ _ _ _ _ _ us hl => match us, hl with | [_, _], _ => rfl
  have F_are_weights := fun_mk (st := s_are_weights) l_are_weights cd2_are_weights kp_are_weights
  have b_are_weights := F_are_weights.binds (ps := ["observer", "value"]) fun _ _ _ _ _ _ us hl => match us, hl with | [_, _], _ => rfl
  have F_do_match := fun_mk (st := s_do_match) l_do_match cd2_do_match kp_do_match
  have b_do_match := F_do_match.binds (ps := ["observer", "first", "second", "weights"]) fun _ _ _ _ _ _ us hl => match us, hl with | [_, _, _, _], _ => rfl
  have F_law_cell := fun_mk (st := s_law_cell) l_law_cell cd2_law_cell kp_law_cell
  have b_law_cell := F_law_cell.binds (ps := ["script", "k"]) fun _ _ _ _ _ _ us hl => match us, hl with | [_, _], _ => rfl
  have F_law_draws := fun_mk (st := s_law_draws) l_law_draws cd2_law_draws kp_law_draws
  have b_law_draws := F_law_draws.binds (ps := ["cell", "count"]) fun _ _ _ _ _ _ us hl => match us, hl with | [_, _], _ => rfl
  have F_law_bands := fun_mk (st := s_law_bands) l_law_bands cd2_law_bands kp_law_bands
  have b_law_bands := F_law_bands.binds (ps := ["cell"]) fun _ _ _ _ _ _ us hl => match us, hl with | [_], _ => rfl
  have F_law_lamp := fun_mk (st := s_law_lamp) l_law_lamp cd2_law_lamp kp_law_lamp
  have b_law_lamp := F_law_lamp.binds (ps := ["cell", "count"]) fun _ _ _ _ _ _ us hl => match us, hl with | [_, _], _ => rfl
  have F_law_values := fun_mk (st := s_law_values) l_law_values cd2_law_values kp_law_values
  have b_law_values := F_law_values.binds (ps := ["cell", "count"]) fun _ _ _ _ _ _ us hl => match us, hl with | [_, _], _ => rfl
  have F_law_generators := fun_mk (st := s_law_generators) l_law_generators cd2_law_generators kp_law_generators
  have b_law_generators := F_law_generators.binds (ps := ["bands", "lamp"]) fun _ _ _ _ _ _ us hl => match us, hl with | [_, _], _ => rfl
  have F_law_sum := fun_mk (st := s_law_sum) l_law_sum cd2_law_sum kp_law_sum
  have b_law_sum := F_law_sum.binds (ps := ["generators", "values"]) fun _ _ _ _ _ _ us hl => match us, hl with | [_, _], _ => rfl
  have F_law_colored := fun_mk (st := s_law_colored) l_law_colored cd2_law_colored kp_law_colored
  have b_law_colored := F_law_colored.binds (ps := ["cell", "generators", "values"]) fun _ _ _ _ _ _ us hl => match us, hl with | [_, _, _], _ => rfl
  have F_law_quotients := fun_mk (st := s_law_quotients) l_law_quotients cd2_law_quotients kp_law_quotients
  have b_law_quotients := F_law_quotients.binds (ps := ["values"]) fun _ _ _ _ _ _ us hl => match us, hl with | [_], _ => rfl
  have F_law_scene := fun_mk (st := s_law_scene) l_law_scene cd2_law_scene kp_law_scene
  have b_law_scene := F_law_scene.binds (ps := ["script"]) fun _ _ _ _ _ _ us hl => match us, hl with | [_], _ => rfl
  have F_law_is_band := fun_mk (st := s_law_is_band) l_law_is_band cd2_law_is_band kp_law_is_band
  have b_law_is_band := F_law_is_band.binds (ps := ["value", "count"]) fun _ _ _ _ _ _ us hl => match us, hl with | [_, _], _ => rfl
  have F_law_kind := fun_mk (st := s_law_kind) l_law_kind cd2_law_kind kp_law_kind
  have b_law_kind := F_law_kind.binds (ps := ["paper", "kind", "length"]) fun _ _ _ _ _ _ us hl => match us, hl with | [_, _, _], _ => rfl
  have F_law_turned := fun_mk (st := s_law_turned) l_law_turned cd2_law_turned kp_law_turned
  have b_law_turned := F_law_turned.binds (ps := ["paper", "digits", "at"]) fun _ _ _ _ _ _ us hl => match us, hl with | [_, _, _], _ => rfl
  have F_law_crossings := fun_mk (st := s_law_crossings) l_law_crossings cd2_law_crossings kp_law_crossings
  have b_law_crossings := F_law_crossings.binds (ps := ["first", "second"]) fun _ _ _ _ _ _ us hl => match us, hl with | [_, _], _ => rfl
  have F_law_judged := fun_mk (st := s_law_judged) l_law_judged cd2_law_judged kp_law_judged
  have b_law_judged := F_law_judged.binds (ps := ["bands", "first", "second", "paper"]) fun _ _ _ _ _ _ us hl => match us, hl with | [_, _, _, _], _ => rfl
  have F_law_refused := fun_mk (st := s_law_refused) l_law_refused cd2_law_refused kp_law_refused
  have b_law_refused := F_law_refused.binds (ps := ["observer", "first", "second"]) fun _ _ _ _ _ _ us hl => match us, hl with | [_, _, _], _ => rfl
  have F_law := fun_mk (st := s_law) l_law cd2_law kp_law
  have b_law := F_law.binds (ps := ["script"]) fun _ _ _ _ _ _ us hl => match us, hl with | [_], _ => rfl
  have T : Txt K mg {
      C_ColorError := C_ColorError,
      C_BadQuotient := C_BadQuotient,
      C_BadObserver := C_BadObserver,
      C_Irregular := C_Irregular,
      C_BadLamp := C_BadLamp,
      C_BadReflectance := C_BadReflectance,
      C_LengthsDiffer := C_LengthsDiffer,
      C_Quotient := C_Quotient,
      C_Observer := C_Observer,
      C_View := C_View,
      f_Quotient_init := f_Quotient_init,
      d_Quotient_init := PySem.W.fnOf "__init__" "Quotient.__init__" (defArgs s_Quotient_init) (defBody s_Quotient_init) (defScope s_Quotient_init) .none kV_Quotient_init dc_Quotient_init pm_Quotient_init an_Quotient_init cd_Quotient_init ct_Quotient_init,
      f_Quotient_add := f_Quotient_add,
      d_Quotient_add := PySem.W.fnOf "__add__" "Quotient.__add__" (defArgs s_Quotient_add) (defBody s_Quotient_add) (defScope s_Quotient_add) .none kV_Quotient_add dc_Quotient_add pm_Quotient_add an_Quotient_add cd_Quotient_add ct_Quotient_add,
      f_Quotient_sub := f_Quotient_sub,
      d_Quotient_sub := PySem.W.fnOf "__sub__" "Quotient.__sub__" (defArgs s_Quotient_sub) (defBody s_Quotient_sub) (defScope s_Quotient_sub) .none kV_Quotient_sub dc_Quotient_sub pm_Quotient_sub an_Quotient_sub cd_Quotient_sub ct_Quotient_sub,
      f_Quotient_mul := f_Quotient_mul,
      d_Quotient_mul := PySem.W.fnOf "__mul__" "Quotient.__mul__" (defArgs s_Quotient_mul) (defBody s_Quotient_mul) (defScope s_Quotient_mul) .none kV_Quotient_mul dc_Quotient_mul pm_Quotient_mul an_Quotient_mul cd_Quotient_mul ct_Quotient_mul,
      f_Quotient_neg := f_Quotient_neg,
      d_Quotient_neg := PySem.W.fnOf "__neg__" "Quotient.__neg__" (defArgs s_Quotient_neg) (defBody s_Quotient_neg) (defScope s_Quotient_neg) .none kV_Quotient_neg dc_Quotient_neg pm_Quotient_neg an_Quotient_neg cd_Quotient_neg ct_Quotient_neg,
      f_Quotient_eq := f_Quotient_eq,
      d_Quotient_eq := PySem.W.fnOf "__eq__" "Quotient.__eq__" (defArgs s_Quotient_eq) (defBody s_Quotient_eq) (defScope s_Quotient_eq) .none kV_Quotient_eq dc_Quotient_eq pm_Quotient_eq an_Quotient_eq cd_Quotient_eq ct_Quotient_eq,
      f_Quotient_lt := f_Quotient_lt,
      d_Quotient_lt := PySem.W.fnOf "__lt__" "Quotient.__lt__" (defArgs s_Quotient_lt) (defBody s_Quotient_lt) (defScope s_Quotient_lt) .none kV_Quotient_lt dc_Quotient_lt pm_Quotient_lt an_Quotient_lt cd_Quotient_lt ct_Quotient_lt,
      f_Quotient_le := f_Quotient_le,
      d_Quotient_le := PySem.W.fnOf "__le__" "Quotient.__le__" (defArgs s_Quotient_le) (defBody s_Quotient_le) (defScope s_Quotient_le) .none kV_Quotient_le dc_Quotient_le pm_Quotient_le an_Quotient_le cd_Quotient_le ct_Quotient_le,
      f_Quotient_over := f_Quotient_over,
      d_Quotient_over := PySem.W.fnOf "over" "Quotient.over" (defArgs s_Quotient_over) (defBody s_Quotient_over) (defScope s_Quotient_over) .none kV_Quotient_over dc_Quotient_over pm_Quotient_over an_Quotient_over cd_Quotient_over ct_Quotient_over,
      f_whole := f_whole,
      d_whole := PySem.W.fnOf "whole" "whole" (defArgs s_whole) (defBody s_whole) (defScope s_whole) .none kV_whole dc_whole pm_whole an_whole cd_whole ct_whole,
      f_zero := f_zero,
      d_zero := PySem.W.fnOf "zero" "zero" (defArgs s_zero) (defBody s_zero) (defScope s_zero) .none kV_zero dc_zero pm_zero an_zero cd_zero ct_zero,
      f_one := f_one,
      d_one := PySem.W.fnOf "one" "one" (defArgs s_one) (defBody s_one) (defScope s_one) .none kV_one dc_one pm_one an_one cd_one ct_one,
      f_is_quotient := f_is_quotient,
      d_is_quotient := PySem.W.fnOf "is_quotient" "is_quotient" (defArgs s_is_quotient) (defBody s_is_quotient) (defScope s_is_quotient) .none kV_is_quotient dc_is_quotient pm_is_quotient an_is_quotient cd_is_quotient ct_is_quotient,
      f_sign_of := f_sign_of,
      d_sign_of := PySem.W.fnOf "sign_of" "sign_of" (defArgs s_sign_of) (defBody s_sign_of) (defScope s_sign_of) .none kV_sign_of dc_sign_of pm_sign_of an_sign_of cd_sign_of ct_sign_of,
      f_size_of := f_size_of,
      d_size_of := PySem.W.fnOf "size_of" "size_of" (defArgs s_size_of) (defBody s_size_of) (defScope s_size_of) .none kV_size_of dc_size_of pm_size_of an_size_of cd_size_of ct_size_of,
      f_black := f_black,
      d_black := PySem.W.fnOf "black" "black" (defArgs s_black) (defBody s_black) (defScope s_black) .none kV_black dc_black pm_black an_black cd_black ct_black,
      f_det := f_det,
      d_det := PySem.W.fnOf "det" "det" (defArgs s_det) (defBody s_det) (defScope s_det) .none kV_det dc_det pm_det an_det cd_det ct_det,
      f_scaled := f_scaled,
      d_scaled := PySem.W.fnOf "scaled" "scaled" (defArgs s_scaled) (defBody s_scaled) (defScope s_scaled) .none kV_scaled dc_scaled pm_scaled an_scaled cd_scaled ct_scaled,
      f_added := f_added,
      d_added := PySem.W.fnOf "added" "added" (defArgs s_added) (defBody s_added) (defScope s_added) .none kV_added dc_added pm_added an_added cd_added ct_added,
      f_taken := f_taken,
      d_taken := PySem.W.fnOf "taken" "taken" (defArgs s_taken) (defBody s_taken) (defScope s_taken) .none kV_taken dc_taken pm_taken an_taken cd_taken ct_taken,
      f_sum_of := f_sum_of,
      d_sum_of := PySem.W.fnOf "sum_of" "sum_of" (defArgs s_sum_of) (defBody s_sum_of) (defScope s_sum_of) .none kV_sum_of dc_sum_of pm_sum_of an_sum_of cd_sum_of ct_sum_of,
      f_Observer_init := f_Observer_init,
      d_Observer_init := PySem.W.fnOf "__init__" "Observer.__init__" (defArgs s_Observer_init) (defBody s_Observer_init) (defScope s_Observer_init) .none kV_Observer_init dc_Observer_init pm_Observer_init an_Observer_init cd_Observer_init ct_Observer_init,
      f_Observer_len := f_Observer_len,
      d_Observer_len := PySem.W.fnOf "__len__" "Observer.__len__" (defArgs s_Observer_len) (defBody s_Observer_len) (defScope s_Observer_len) .none kV_Observer_len dc_Observer_len pm_Observer_len an_Observer_len cd_Observer_len ct_Observer_len,
      f_View_init := f_View_init,
      d_View_init := PySem.W.fnOf "__init__" "View.__init__" (defArgs s_View_init) (defBody s_View_init) (defScope s_View_init) .none kV_View_init dc_View_init pm_View_init an_View_init cd_View_init ct_View_init,
      f_View_len := f_View_len,
      d_View_len := PySem.W.fnOf "__len__" "View.__len__" (defArgs s_View_len) (defBody s_View_len) (defScope s_View_len) .none kV_View_len dc_View_len pm_View_len an_View_len cd_View_len ct_View_len,
      f_require_reflectance := f_require_reflectance,
      d_require_reflectance := PySem.W.fnOf "require_reflectance" "require_reflectance" (defArgs s_require_reflectance) (defBody s_require_reflectance) (defScope s_require_reflectance) .none kV_require_reflectance dc_require_reflectance pm_require_reflectance an_require_reflectance cd_require_reflectance ct_require_reflectance,
      f_is_reflectance := f_is_reflectance,
      d_is_reflectance := PySem.W.fnOf "is_reflectance" "is_reflectance" (defArgs s_is_reflectance) (defBody s_is_reflectance) (defScope s_is_reflectance) .none kV_is_reflectance dc_is_reflectance pm_is_reflectance an_is_reflectance cd_is_reflectance ct_is_reflectance,
      f_is_number := f_is_number,
      d_is_number := PySem.W.fnOf "is_number" "is_number" (defArgs s_is_number) (defBody s_is_number) (defScope s_is_number) .none kV_is_number dc_is_number pm_is_number an_is_number cd_is_number ct_is_number,
      f_is_share := f_is_share,
      d_is_share := PySem.W.fnOf "_is_share" "_is_share" (defArgs s_is_share) (defBody s_is_share) (defScope s_is_share) .none kV_is_share dc_is_share pm_is_share an_is_share cd_is_share ct_is_share,
      f_are_bands := f_are_bands,
      d_are_bands := PySem.W.fnOf "_are_bands" "_are_bands" (defArgs s_are_bands) (defBody s_are_bands) (defScope s_are_bands) .none kV_are_bands dc_are_bands pm_are_bands an_are_bands cd_are_bands ct_are_bands,
      f_is_band := f_is_band,
      d_is_band := PySem.W.fnOf "_is_band" "_is_band" (defArgs s_is_band) (defBody s_is_band) (defScope s_is_band) .none kV_is_band dc_is_band pm_is_band an_is_band cd_is_band ct_is_band,
      f_is_lamp := f_is_lamp,
      d_is_lamp := PySem.W.fnOf "_is_lamp" "_is_lamp" (defArgs s_is_lamp) (defBody s_is_lamp) (defScope s_is_lamp) .none kV_is_lamp dc_is_lamp pm_is_lamp an_is_lamp cd_is_lamp ct_is_lamp,
      f_first_irregular := f_first_irregular,
      d_first_irregular := PySem.W.fnOf "_first_irregular" "_first_irregular" (defArgs s_first_irregular) (defBody s_first_irregular) (defScope s_first_irregular) .none kV_first_irregular dc_first_irregular pm_first_irregular an_first_irregular cd_first_irregular ct_first_irregular,
      f_crossings := f_crossings,
      d_crossings := PySem.W.fnOf "crossings" "crossings" (defArgs s_crossings) (defBody s_crossings) (defScope s_crossings) .none kV_crossings dc_crossings pm_crossings an_crossings cd_crossings ct_crossings,
      f_sign_blocks := f_sign_blocks,
      d_sign_blocks := PySem.W.fnOf "sign_blocks" "sign_blocks" (defArgs s_sign_blocks) (defBody s_sign_blocks) (defScope s_sign_blocks) .none kV_sign_blocks dc_sign_blocks pm_sign_blocks an_sign_blocks cd_sign_blocks ct_sign_blocks,
      f_require_equal_lengths := f_require_equal_lengths,
      d_require_equal_lengths := PySem.W.fnOf "_require_equal_lengths" "_require_equal_lengths" (defArgs s_require_equal_lengths) (defBody s_require_equal_lengths) (defScope s_require_equal_lengths) .none kV_require_equal_lengths dc_require_equal_lengths pm_require_equal_lengths an_require_equal_lengths cd_require_equal_lengths ct_require_equal_lengths,
      f_matching_lamp := f_matching_lamp,
      d_matching_lamp := PySem.W.fnOf "matching_lamp" "matching_lamp" (defArgs s_matching_lamp) (defBody s_matching_lamp) (defScope s_matching_lamp) .none kV_matching_lamp dc_matching_lamp pm_matching_lamp an_matching_lamp cd_matching_lamp ct_matching_lamp,
      f_weights := f_weights,
      d_weights := PySem.W.fnOf "_weights" "_weights" (defArgs s_weights) (defBody s_weights) (defScope s_weights) .none kV_weights dc_weights pm_weights an_weights cd_weights ct_weights,
      f_four_of_blocks := f_four_of_blocks,
      d_four_of_blocks := PySem.W.fnOf "_four_of_blocks" "_four_of_blocks" (defArgs s_four_of_blocks) (defBody s_four_of_blocks) (defScope s_four_of_blocks) .none kV_four_of_blocks dc_four_of_blocks pm_four_of_blocks an_four_of_blocks cd_four_of_blocks ct_four_of_blocks,
      f_other_determinants := f_other_determinants,
      d_other_determinants := PySem.W.fnOf "_other_determinants" "_other_determinants" (defArgs s_other_determinants) (defBody s_other_determinants) (defScope s_other_determinants) .none kV_other_determinants dc_other_determinants pm_other_determinants an_other_determinants cd_other_determinants ct_other_determinants,
      f_judge_lamp := f_judge_lamp,
      d_judge_lamp := PySem.W.fnOf "judge_lamp" "judge_lamp" (defArgs s_judge_lamp) (defBody s_judge_lamp) (defScope s_judge_lamp) .none kV_judge_lamp dc_judge_lamp pm_judge_lamp an_judge_lamp cd_judge_lamp ct_judge_lamp,
      f_explain_lamp := f_explain_lamp,
      d_explain_lamp := PySem.W.fnOf "explain_lamp" "explain_lamp" (defArgs s_explain_lamp) (defBody s_explain_lamp) (defScope s_explain_lamp) .none kV_explain_lamp dc_explain_lamp pm_explain_lamp an_explain_lamp cd_explain_lamp ct_explain_lamp,
      f_has_form := f_has_form,
      d_has_form := PySem.W.fnOf "_has_form" "_has_form" (defArgs s_has_form) (defBody s_has_form) (defScope s_has_form) .none kV_has_form dc_has_form pm_has_form an_has_form cd_has_form ct_has_form,
      f_is_word := f_is_word,
      d_is_word := PySem.W.fnOf "_is_word" "_is_word" (defArgs s_is_word) (defBody s_is_word) (defScope s_is_word) .none kV_is_word dc_is_word pm_is_word an_is_word cd_is_word ct_is_word,
      f_are_weights := f_are_weights,
      d_are_weights := PySem.W.fnOf "_are_weights" "_are_weights" (defArgs s_are_weights) (defBody s_are_weights) (defScope s_are_weights) .none kV_are_weights dc_are_weights pm_are_weights an_are_weights cd_are_weights ct_are_weights,
      f_do_match := f_do_match,
      d_do_match := PySem.W.fnOf "_do_match" "_do_match" (defArgs s_do_match) (defBody s_do_match) (defScope s_do_match) .none kV_do_match dc_do_match pm_do_match an_do_match cd_do_match ct_do_match,
      f_law_cell := f_law_cell,
      d_law_cell := PySem.W.fnOf "_law_cell" "_law_cell" (defArgs s_law_cell) (defBody s_law_cell) (defScope s_law_cell) .none kV_law_cell dc_law_cell pm_law_cell an_law_cell cd_law_cell ct_law_cell,
      f_law_draws := f_law_draws,
      d_law_draws := PySem.W.fnOf "_law_draws" "_law_draws" (defArgs s_law_draws) (defBody s_law_draws) (defScope s_law_draws) .none kV_law_draws dc_law_draws pm_law_draws an_law_draws cd_law_draws ct_law_draws,
      f_law_bands := f_law_bands,
      d_law_bands := PySem.W.fnOf "_law_bands" "_law_bands" (defArgs s_law_bands) (defBody s_law_bands) (defScope s_law_bands) .none kV_law_bands dc_law_bands pm_law_bands an_law_bands cd_law_bands ct_law_bands,
      f_law_lamp := f_law_lamp,
      d_law_lamp := PySem.W.fnOf "_law_lamp" "_law_lamp" (defArgs s_law_lamp) (defBody s_law_lamp) (defScope s_law_lamp) .none kV_law_lamp dc_law_lamp pm_law_lamp an_law_lamp cd_law_lamp ct_law_lamp,
      f_law_values := f_law_values,
      d_law_values := PySem.W.fnOf "_law_values" "_law_values" (defArgs s_law_values) (defBody s_law_values) (defScope s_law_values) .none kV_law_values dc_law_values pm_law_values an_law_values cd_law_values ct_law_values,
      f_law_generators := f_law_generators,
      d_law_generators := PySem.W.fnOf "_law_generators" "_law_generators" (defArgs s_law_generators) (defBody s_law_generators) (defScope s_law_generators) .none kV_law_generators dc_law_generators pm_law_generators an_law_generators cd_law_generators ct_law_generators,
      f_law_sum := f_law_sum,
      d_law_sum := PySem.W.fnOf "_law_sum" "_law_sum" (defArgs s_law_sum) (defBody s_law_sum) (defScope s_law_sum) .none kV_law_sum dc_law_sum pm_law_sum an_law_sum cd_law_sum ct_law_sum,
      f_law_colored := f_law_colored,
      d_law_colored := PySem.W.fnOf "_law_colored" "_law_colored" (defArgs s_law_colored) (defBody s_law_colored) (defScope s_law_colored) .none kV_law_colored dc_law_colored pm_law_colored an_law_colored cd_law_colored ct_law_colored,
      f_law_quotients := f_law_quotients,
      d_law_quotients := PySem.W.fnOf "_law_quotients" "_law_quotients" (defArgs s_law_quotients) (defBody s_law_quotients) (defScope s_law_quotients) .none kV_law_quotients dc_law_quotients pm_law_quotients an_law_quotients cd_law_quotients ct_law_quotients,
      f_law_scene := f_law_scene,
      d_law_scene := PySem.W.fnOf "_law_scene" "_law_scene" (defArgs s_law_scene) (defBody s_law_scene) (defScope s_law_scene) .none kV_law_scene dc_law_scene pm_law_scene an_law_scene cd_law_scene ct_law_scene,
      f_law_is_band := f_law_is_band,
      d_law_is_band := PySem.W.fnOf "_law_is_band" "_law_is_band" (defArgs s_law_is_band) (defBody s_law_is_band) (defScope s_law_is_band) .none kV_law_is_band dc_law_is_band pm_law_is_band an_law_is_band cd_law_is_band ct_law_is_band,
      f_law_kind := f_law_kind,
      d_law_kind := PySem.W.fnOf "_law_kind" "_law_kind" (defArgs s_law_kind) (defBody s_law_kind) (defScope s_law_kind) .none kV_law_kind dc_law_kind pm_law_kind an_law_kind cd_law_kind ct_law_kind,
      f_law_turned := f_law_turned,
      d_law_turned := PySem.W.fnOf "_law_turned" "_law_turned" (defArgs s_law_turned) (defBody s_law_turned) (defScope s_law_turned) .none kV_law_turned dc_law_turned pm_law_turned an_law_turned cd_law_turned ct_law_turned,
      f_law_crossings := f_law_crossings,
      d_law_crossings := PySem.W.fnOf "_law_crossings" "_law_crossings" (defArgs s_law_crossings) (defBody s_law_crossings) (defScope s_law_crossings) .none kV_law_crossings dc_law_crossings pm_law_crossings an_law_crossings cd_law_crossings ct_law_crossings,
      f_law_judged := f_law_judged,
      d_law_judged := PySem.W.fnOf "_law_judged" "_law_judged" (defArgs s_law_judged) (defBody s_law_judged) (defScope s_law_judged) .none kV_law_judged dc_law_judged pm_law_judged an_law_judged cd_law_judged ct_law_judged,
      f_law_refused := f_law_refused,
      d_law_refused := PySem.W.fnOf "_law_refused" "_law_refused" (defArgs s_law_refused) (defBody s_law_refused) (defScope s_law_refused) .none kV_law_refused dc_law_refused pm_law_refused an_law_refused cd_law_refused ct_law_refused,
      f_law := f_law,
      d_law := PySem.W.fnOf "law" "law" (defArgs s_law) (defBody s_law) (defScope s_law) .none kV_law dc_law pm_law an_law cd_law ct_law } := {
      F_Quotient_init := F_Quotient_init,
      b_Quotient_init := b_Quotient_init,
      fi_Quotient_init := a_Quotient_init,
      fn_Quotient_init := is_Quotient_init,
      me_Quotient_init := ⟨a_Quotient_init, is_Quotient_init, kp_Quotient_init⟩,
      F_Quotient_add := F_Quotient_add,
      b_Quotient_add := b_Quotient_add,
      fi_Quotient_add := a_Quotient_add,
      fn_Quotient_add := is_Quotient_add,
      me_Quotient_add := ⟨a_Quotient_add, is_Quotient_add, kp_Quotient_add⟩,
      F_Quotient_sub := F_Quotient_sub,
      b_Quotient_sub := b_Quotient_sub,
      fi_Quotient_sub := a_Quotient_sub,
      fn_Quotient_sub := is_Quotient_sub,
      me_Quotient_sub := ⟨a_Quotient_sub, is_Quotient_sub, kp_Quotient_sub⟩,
      F_Quotient_mul := F_Quotient_mul,
      b_Quotient_mul := b_Quotient_mul,
      fi_Quotient_mul := a_Quotient_mul,
      fn_Quotient_mul := is_Quotient_mul,
      me_Quotient_mul := ⟨a_Quotient_mul, is_Quotient_mul, kp_Quotient_mul⟩,
      F_Quotient_neg := F_Quotient_neg,
      b_Quotient_neg := b_Quotient_neg,
      fi_Quotient_neg := a_Quotient_neg,
      fn_Quotient_neg := is_Quotient_neg,
      me_Quotient_neg := ⟨a_Quotient_neg, is_Quotient_neg, kp_Quotient_neg⟩,
      F_Quotient_eq := F_Quotient_eq,
      b_Quotient_eq := b_Quotient_eq,
      fi_Quotient_eq := a_Quotient_eq,
      fn_Quotient_eq := is_Quotient_eq,
      me_Quotient_eq := ⟨a_Quotient_eq, is_Quotient_eq, kp_Quotient_eq⟩,
      F_Quotient_lt := F_Quotient_lt,
      b_Quotient_lt := b_Quotient_lt,
      fi_Quotient_lt := a_Quotient_lt,
      fn_Quotient_lt := is_Quotient_lt,
      me_Quotient_lt := ⟨a_Quotient_lt, is_Quotient_lt, kp_Quotient_lt⟩,
      F_Quotient_le := F_Quotient_le,
      b_Quotient_le := b_Quotient_le,
      fi_Quotient_le := a_Quotient_le,
      fn_Quotient_le := is_Quotient_le,
      me_Quotient_le := ⟨a_Quotient_le, is_Quotient_le, kp_Quotient_le⟩,
      F_Quotient_over := F_Quotient_over,
      b_Quotient_over := b_Quotient_over,
      fi_Quotient_over := a_Quotient_over,
      fn_Quotient_over := is_Quotient_over,
      me_Quotient_over := ⟨a_Quotient_over, is_Quotient_over, kp_Quotient_over⟩,
      F_whole := F_whole,
      b_whole := b_whole,
      m_whole := PySem.W.mg_of X G a_whole,
      F_zero := F_zero,
      b_zero := b_zero,
      m_zero := PySem.W.mg_of X G a_zero,
      F_one := F_one,
      b_one := b_one,
      m_one := PySem.W.mg_of X G a_one,
      F_is_quotient := F_is_quotient,
      b_is_quotient := b_is_quotient,
      m_is_quotient := PySem.W.mg_of X G a_is_quotient,
      F_sign_of := F_sign_of,
      b_sign_of := b_sign_of,
      m_sign_of := PySem.W.mg_of X G a_sign_of,
      F_size_of := F_size_of,
      b_size_of := b_size_of,
      m_size_of := PySem.W.mg_of X G a_size_of,
      F_black := F_black,
      b_black := b_black,
      m_black := PySem.W.mg_of X G a_black,
      F_det := F_det,
      b_det := b_det,
      m_det := PySem.W.mg_of X G a_det,
      F_scaled := F_scaled,
      b_scaled := b_scaled,
      m_scaled := PySem.W.mg_of X G a_scaled,
      F_added := F_added,
      b_added := b_added,
      m_added := PySem.W.mg_of X G a_added,
      F_taken := F_taken,
      b_taken := b_taken,
      m_taken := PySem.W.mg_of X G a_taken,
      F_sum_of := F_sum_of,
      b_sum_of := b_sum_of,
      m_sum_of := PySem.W.mg_of X G a_sum_of,
      F_Observer_init := F_Observer_init,
      b_Observer_init := b_Observer_init,
      fi_Observer_init := a_Observer_init,
      fn_Observer_init := is_Observer_init,
      me_Observer_init := ⟨a_Observer_init, is_Observer_init, kp_Observer_init⟩,
      F_Observer_len := F_Observer_len,
      b_Observer_len := b_Observer_len,
      fi_Observer_len := a_Observer_len,
      fn_Observer_len := is_Observer_len,
      me_Observer_len := ⟨a_Observer_len, is_Observer_len, kp_Observer_len⟩,
      F_View_init := F_View_init,
      b_View_init := b_View_init,
      fi_View_init := a_View_init,
      fn_View_init := is_View_init,
      me_View_init := ⟨a_View_init, is_View_init, kp_View_init⟩,
      F_View_len := F_View_len,
      b_View_len := b_View_len,
      fi_View_len := a_View_len,
      fn_View_len := is_View_len,
      me_View_len := ⟨a_View_len, is_View_len, kp_View_len⟩,
      F_require_reflectance := F_require_reflectance,
      b_require_reflectance := b_require_reflectance,
      m_require_reflectance := PySem.W.mg_of X G a_require_reflectance,
      F_is_reflectance := F_is_reflectance,
      b_is_reflectance := b_is_reflectance,
      m_is_reflectance := PySem.W.mg_of X G a_is_reflectance,
      F_is_number := F_is_number,
      b_is_number := b_is_number,
      m_is_number := PySem.W.mg_of X G a_is_number,
      F_is_share := F_is_share,
      b_is_share := b_is_share,
      m_is_share := PySem.W.mg_of X G a_is_share,
      F_are_bands := F_are_bands,
      b_are_bands := b_are_bands,
      m_are_bands := PySem.W.mg_of X G a_are_bands,
      F_is_band := F_is_band,
      b_is_band := b_is_band,
      m_is_band := PySem.W.mg_of X G a_is_band,
      F_is_lamp := F_is_lamp,
      b_is_lamp := b_is_lamp,
      m_is_lamp := PySem.W.mg_of X G a_is_lamp,
      F_first_irregular := F_first_irregular,
      b_first_irregular := b_first_irregular,
      m_first_irregular := PySem.W.mg_of X G a_first_irregular,
      F_crossings := F_crossings,
      b_crossings := b_crossings,
      m_crossings := PySem.W.mg_of X G a_crossings,
      F_sign_blocks := F_sign_blocks,
      b_sign_blocks := b_sign_blocks,
      m_sign_blocks := PySem.W.mg_of X G a_sign_blocks,
      F_require_equal_lengths := F_require_equal_lengths,
      b_require_equal_lengths := b_require_equal_lengths,
      m_require_equal_lengths := PySem.W.mg_of X G a_require_equal_lengths,
      F_matching_lamp := F_matching_lamp,
      b_matching_lamp := b_matching_lamp,
      m_matching_lamp := PySem.W.mg_of X G a_matching_lamp,
      F_weights := F_weights,
      b_weights := b_weights,
      m_weights := PySem.W.mg_of X G a_weights,
      F_four_of_blocks := F_four_of_blocks,
      b_four_of_blocks := b_four_of_blocks,
      m_four_of_blocks := PySem.W.mg_of X G a_four_of_blocks,
      F_other_determinants := F_other_determinants,
      b_other_determinants := b_other_determinants,
      m_other_determinants := PySem.W.mg_of X G a_other_determinants,
      F_judge_lamp := F_judge_lamp,
      b_judge_lamp := b_judge_lamp,
      m_judge_lamp := PySem.W.mg_of X G a_judge_lamp,
      F_explain_lamp := F_explain_lamp,
      b_explain_lamp := b_explain_lamp,
      m_explain_lamp := PySem.W.mg_of X G a_explain_lamp,
      F_has_form := F_has_form,
      b_has_form := b_has_form,
      m_has_form := PySem.W.mg_of X G a_has_form,
      F_is_word := F_is_word,
      b_is_word := b_is_word,
      m_is_word := PySem.W.mg_of X G a_is_word,
      F_are_weights := F_are_weights,
      b_are_weights := b_are_weights,
      m_are_weights := PySem.W.mg_of X G a_are_weights,
      F_do_match := F_do_match,
      b_do_match := b_do_match,
      m_do_match := PySem.W.mg_of X G a_do_match,
      F_law_cell := F_law_cell,
      b_law_cell := b_law_cell,
      m_law_cell := PySem.W.mg_of X G a_law_cell,
      F_law_draws := F_law_draws,
      b_law_draws := b_law_draws,
      m_law_draws := PySem.W.mg_of X G a_law_draws,
      F_law_bands := F_law_bands,
      b_law_bands := b_law_bands,
      m_law_bands := PySem.W.mg_of X G a_law_bands,
      F_law_lamp := F_law_lamp,
      b_law_lamp := b_law_lamp,
      m_law_lamp := PySem.W.mg_of X G a_law_lamp,
      F_law_values := F_law_values,
      b_law_values := b_law_values,
      m_law_values := PySem.W.mg_of X G a_law_values,
      F_law_generators := F_law_generators,
      b_law_generators := b_law_generators,
      m_law_generators := PySem.W.mg_of X G a_law_generators,
      F_law_sum := F_law_sum,
      b_law_sum := b_law_sum,
      m_law_sum := PySem.W.mg_of X G a_law_sum,
      F_law_colored := F_law_colored,
      b_law_colored := b_law_colored,
      m_law_colored := PySem.W.mg_of X G a_law_colored,
      F_law_quotients := F_law_quotients,
      b_law_quotients := b_law_quotients,
      m_law_quotients := PySem.W.mg_of X G a_law_quotients,
      F_law_scene := F_law_scene,
      b_law_scene := b_law_scene,
      m_law_scene := PySem.W.mg_of X G a_law_scene,
      F_law_is_band := F_law_is_band,
      b_law_is_band := b_law_is_band,
      m_law_is_band := PySem.W.mg_of X G a_law_is_band,
      F_law_kind := F_law_kind,
      b_law_kind := b_law_kind,
      m_law_kind := PySem.W.mg_of X G a_law_kind,
      F_law_turned := F_law_turned,
      b_law_turned := b_law_turned,
      m_law_turned := PySem.W.mg_of X G a_law_turned,
      F_law_crossings := F_law_crossings,
      b_law_crossings := b_law_crossings,
      m_law_crossings := PySem.W.mg_of X G a_law_crossings,
      F_law_judged := F_law_judged,
      b_law_judged := b_law_judged,
      m_law_judged := PySem.W.mg_of X G a_law_judged,
      F_law_refused := F_law_refused,
      b_law_refused := b_law_refused,
      m_law_refused := PySem.W.mg_of X G a_law_refused,
      F_law := F_law,
      b_law := b_law,
      m_law := PySem.W.mg_of X G a_law,
      mg_ColorError := PySem.W.mg_of X G a_C_ColorError,
      mg_BadQuotient := PySem.W.mg_of X G a_C_BadQuotient,
      mg_BadObserver := PySem.W.mg_of X G a_C_BadObserver,
      mg_Irregular := PySem.W.mg_of X G a_C_Irregular,
      mg_BadLamp := PySem.W.mg_of X G a_C_BadLamp,
      mg_BadReflectance := PySem.W.mg_of X G a_C_BadReflectance,
      mg_LengthsDiffer := PySem.W.mg_of X G a_C_LengthsDiffer,
      mg_Quotient := PySem.W.mg_of X G a_C_Quotient,
      mg_Observer := PySem.W.mg_of X G a_C_Observer,
      mg_View := PySem.W.mg_of X G a_C_View,
      k_Quotient := ⟨⟨pg_Quotient, hd_Quotient, po_Quotient, sa_Quotient⟩, ha_Quotient, hn_Quotient, ht_Quotient, hm_Quotient⟩,
      sf_Quotient := sf_Quotient,
      mk_Quotient := ⟨mi_Quotient, a_Quotient_init, is_Quotient_init, kc_Quotient⟩,
      na_Quotient_top := na_Quotient_top,
      na_Quotient_bottom := na_Quotient_bottom,
      k_Observer := ⟨⟨pg_Observer, hd_Observer, po_Observer, sa_Observer⟩, ha_Observer, hn_Observer, ht_Observer, hm_Observer⟩,
      sf_Observer := sf_Observer,
      mk_Observer := ⟨mi_Observer, a_Observer_init, is_Observer_init, kc_Observer⟩,
      na_Observer_bands := na_Observer_bands,
      na_Observer_vectors := na_Observer_vectors,
      k_View := ⟨⟨pg_View, hd_View, po_View, sa_View⟩, ha_View, hn_View, ht_View, hm_View⟩,
      sf_View := sf_View,
      mk_View := ⟨mi_View, a_View_init, is_View_init, kc_View⟩,
      na_View_observer := na_View_observer,
      na_View_lamp := na_View_lamp,
      na_View_generators := na_View_generators,
      kit_Quotient_Quotient := kit_Quotient_Quotient,
      kit_bool_bool := kit_bool_bool,
      kit_int_int := kit_int_int,
      kit_int_bool := kit_int_bool,
      kit_tuple_tuple := kit_tuple_tuple,
      kit_int_tuple := kit_int_tuple,
      kit_str_tuple := kit_str_tuple,
      kit_NoneType_tuple := kit_NoneType_tuple,
      kit_list_tuple := kit_list_tuple,
      kit_dict_tuple := kit_dict_tuple,
      kit_Quotient_tuple := kit_Quotient_tuple,
      kit_int_Quotient := kit_int_Quotient,
      kit_str_Quotient := kit_str_Quotient,
      kit_NoneType_Quotient := kit_NoneType_Quotient,
      kit_list_Quotient := kit_list_Quotient,
      kit_dict_Quotient := kit_dict_Quotient,
      kit_tuple_Quotient := kit_tuple_Quotient,
      kit_str_int := kit_str_int,
      kit_NoneType_int := kit_NoneType_int,
      kit_list_int := kit_list_int,
      kit_dict_int := kit_dict_int,
      kit_tuple_int := kit_tuple_int,
      kit_Quotient_int := kit_Quotient_int,
      kit_int_str := kit_int_str,
      kit_NoneType_str := kit_NoneType_str,
      kit_list_str := kit_list_str,
      kit_dict_str := kit_dict_str,
      kit_tuple_str := kit_tuple_str,
      kit_Quotient_str := kit_Quotient_str,
      kit_str_str := kit_str_str,
      kit_BadReflectance_ColorError := kit_BadReflectance_ColorError,
      x_BadQuotient := x_BadQuotient,
      kc_BadQuotient := kc_BadQuotient,
      xb_BadQuotient := xb_BadQuotient,
      xd_BadQuotient := xd_BadQuotient,
      xt_BadQuotient := xt_BadQuotient,
      xi_BadQuotient := xi_BadQuotient,
      xs_BadQuotient := xs_BadQuotient,
      x_BadObserver := x_BadObserver,
      kc_BadObserver := kc_BadObserver,
      xb_BadObserver := xb_BadObserver,
      xd_BadObserver := xd_BadObserver,
      xt_BadObserver := xt_BadObserver,
      xi_BadObserver := xi_BadObserver,
      xs_BadObserver := xs_BadObserver,
      x_BadLamp := x_BadLamp,
      kc_BadLamp := kc_BadLamp,
      xb_BadLamp := xb_BadLamp,
      xd_BadLamp := xd_BadLamp,
      xt_BadLamp := xt_BadLamp,
      xi_BadLamp := xi_BadLamp,
      xs_BadLamp := xs_BadLamp,
      x_BadReflectance := x_BadReflectance,
      kc_BadReflectance := kc_BadReflectance,
      xb_BadReflectance := xb_BadReflectance,
      xd_BadReflectance := xd_BadReflectance,
      xt_BadReflectance := xt_BadReflectance,
      xi_BadReflectance := xi_BadReflectance,
      xs_BadReflectance := xs_BadReflectance,
      x_LengthsDiffer := x_LengthsDiffer,
      kc_LengthsDiffer := kc_LengthsDiffer,
      xb_LengthsDiffer := xb_LengthsDiffer,
      xd_LengthsDiffer := xd_LengthsDiffer,
      xt_LengthsDiffer := xt_LengthsDiffer,
      xi_LengthsDiffer := xi_LengthsDiffer,
      xs_LengthsDiffer := xs_LengthsDiffer,
      eg_BadReflectance := eg_BadReflectance,
      ek_BadReflectance := ek_BadReflectance,
      ea_BadReflectance := ea_BadReflectance,
      en_BadReflectance := en_BadReflectance,
      et_BadReflectance := et_BadReflectance,
      em_BadReflectance := em_BadReflectance,
      rd_Observer := rd_Observer,
      cc_Observer_LEAST_BANDS := ⟨_, cc_Observer_LEAST_BANDS⟩,
      cc_Observer_MOST_BANDS := ⟨_, cc_Observer_MOST_BANDS⟩,
      nf_str := nf_str,
      ss_str := ss_str,
      c_FEW := ⟨_, PySem.W.mg_of X G c_FEW, _, rfl⟩,
      c_LAMP := ⟨_, PySem.W.mg_of X G c_LAMP, _, rfl⟩,
      n_abs := PySem.W.mg_none_of X G n_abs,
      n_all := PySem.W.mg_none_of X G n_all,
      n_bool := PySem.W.mg_none_of X G n_bool,
      n_divmod := PySem.W.mg_none_of X G n_divmod,
      n_enumerate := PySem.W.mg_none_of X G n_enumerate,
      n_int := PySem.W.mg_none_of X G n_int,
      n_isinstance := PySem.W.mg_none_of X G n_isinstance,
      n_len := PySem.W.mg_none_of X G n_len,
      n_list := PySem.W.mg_none_of X G n_list,
      n_range := PySem.W.mg_none_of X G n_range,
      n_str := PySem.W.mg_none_of X G n_str,
      n_sum := PySem.W.mg_none_of X G n_sum,
      n_tuple := PySem.W.mg_none_of X G n_tuple,
      n_zip := PySem.W.mg_none_of X G n_zip,
      n_ValueError := PySem.W.mg_none_of X G n_ValueError,
      i_gcd := PySem.W.mg_of X G i_gcd,
      c_PIECE_DIGITS := ⟨_, PySem.W.mg_of X G c_PIECE_DIGITS, _, rfl⟩,
      c_PIECE := ⟨_, PySem.W.mg_of X G c_PIECE, _, rfl⟩,
      c_PARTS := ⟨_, PySem.W.mg_of X G c_PARTS, _, rfl⟩,
      c_MOST_PART := ⟨_, PySem.W.mg_of X G c_MOST_PART, _, rfl⟩,
      c_LEAST_LIGHT := ⟨_, PySem.W.mg_of X G c_LEAST_LIGHT, _, rfl⟩,
      c_MOST_LIGHT := ⟨_, PySem.W.mg_of X G c_MOST_LIGHT, _, rfl⟩,
      c_FOUR := ⟨_, PySem.W.mg_of X G c_FOUR, _, rfl⟩,
      c_MOST_FEW := ⟨_, PySem.W.mg_of X G c_MOST_FEW, _, rfl⟩ }
  exact ⟨_, fun s v => .of_eq rfl, fun base _ _ => ok_law T⟩
theorem walk {l : PySem.W.OpenLaw} {qq : Program} {loose : List Str} {XP : (Str → Option Value) → Heap → Prop} {YP : World → Heap → Prop} {d : DefRec} {K : Params → PySem.W.Frag} (hn : l.most = some 63) (hdf : d.params.defaults = [])
    (hY : ∀ (w : World) (h : Heap), YP w h → (K w.params).In h)
    (F : ∀ (w : World) (mg : Str → Option Value) (fa : Addr) (h : Heap), (K w.params).In h → h.Ns mainGlobals mg → mg d.name = some (.ref fa) →
      ∃ fd : FuncData, (∀ (s : Shared) (u : Value), BindsTo s fd ⟨[u], []⟩ [("script", u)]) ∧ ∀ base : Heap, (K w.params).In base → base.Ns mainGlobals mg → FnOk l.prog w (K w.params) mg base CX0 38 fa fd ["script"] (spLaw (K w.params))) :
    PySem.W.WalkO qq loose XP YP l.row.toRowW d [] (fun f vs => PySem.call f vs) :=
  L2.walk_of (n := 63) (k := 38) (x := "script") (CX := fun _ => CX0) (sp := fun w => spLaw (K w.params)) hn (by decide) hdf ⟨rfl, by decide, by decide⟩ hY F (fun _ _ a ns hl _ hS => ⟨a, ns, rfl, hS, hl, fun _ => rfl⟩) fun _ _ _ _ _ z => z
end My
open PySem PySem.W PyProof.Rows
set_option maxRecDepth 100000 in
set_option maxHeartbeats 0 in
theorem PySem.Challenge.cw_colormatch_k58_judge_of_lamps_holds : PySem.Challenge.rw_colormatch_k58_judge_of_lamps.Holds := by
  refine LawSaid0 ?_
  w_on; k_head; (case hw => w_witness2)
  k_fill
  refine My.walk (l := PySem.Challenge.rw_colormatch_k58_judge_of_lamps) rfl rfl (fun w h Y => PySem.W.kIn_of Y) ?F
  case F =>
    intro w mg fa h KX G hmg
    refine' My.all_mk KX G hmg ?a_C_ColorError ?a_C_BadQuotient ?a_C_BadObserver ?a_C_Irregular ?a_C_BadLamp ?a_C_BadReflectance ?a_C_LengthsDiffer ?a_C_Quotient ?a_C_Observer ?a_C_View ?a_Quotient_init ?is_Quotient_init ?l_Quotient_init ?cd2_Quotient_init ?kp_Quotient_init ?a_Quotient_add ?is_Quotient_add ?l_Quotient_add ?cd2_Quotient_add ?kp_Quotient_add ?a_Quotient_sub ?is_Quotient_sub ?l_Quotient_sub ?cd2_Quotient_sub ?kp_Quotient_sub ?a_Quotient_mul ?is_Quotient_mul ?l_Quotient_mul ?cd2_Quotient_mul ?kp_Quotient_mul ?a_Quotient_neg ?is_Quotient_neg ?l_Quotient_neg ?cd2_Quotient_neg ?kp_Quotient_neg ?a_Quotient_eq ?is_Quotient_eq ?l_Quotient_eq ?cd2_Quotient_eq ?kp_Quotient_eq ?a_Quotient_lt ?is_Quotient_lt ?l_Quotient_lt ?cd2_Quotient_lt ?kp_Quotient_lt ?a_Quotient_le ?is_Quotient_le ?l_Quotient_le ?cd2_Quotient_le ?kp_Quotient_le ?a_Quotient_over ?is_Quotient_over ?l_Quotient_over ?cd2_Quotient_over ?kp_Quotient_over ?a_whole ?l_whole ?cd2_whole ?kp_whole ?a_zero ?l_zero ?cd2_zero ?kp_zero ?a_one ?l_one ?cd2_one ?kp_one ?a_is_quotient ?l_is_quotient ?cd2_is_quotient ?kp_is_quotient ?a_sign_of ?l_sign_of ?cd2_sign_of ?kp_sign_of ?a_size_of ?l_size_of ?cd2_size_of ?kp_size_of ?a_black ?l_black ?cd2_black ?kp_black ?a_det ?l_det ?cd2_det ?kp_det ?a_scaled ?l_scaled ?cd2_scaled ?kp_scaled ?a_added ?l_added ?cd2_added ?kp_added ?a_taken ?l_taken ?cd2_taken ?kp_taken ?a_sum_of ?l_sum_of ?cd2_sum_of ?kp_sum_of ?a_Observer_init ?is_Observer_init ?l_Observer_init ?cd2_Observer_init ?kp_Observer_init ?a_Observer_len ?is_Observer_len ?l_Observer_len ?cd2_Observer_len ?kp_Observer_len ?a_View_init ?is_View_init ?l_View_init ?cd2_View_init ?kp_View_init ?a_View_len ?is_View_len ?l_View_len ?cd2_View_len ?kp_View_len ?a_require_reflectance ?l_require_reflectance ?cd2_require_reflectance ?kp_require_reflectance ?a_is_reflectance ?l_is_reflectance ?cd2_is_reflectance ?kp_is_reflectance ?a_is_number ?l_is_number ?cd2_is_number ?kp_is_number ?a_is_share ?l_is_share ?cd2_is_share ?kp_is_share ?a_are_bands ?l_are_bands ?cd2_are_bands ?kp_are_bands ?a_is_band ?l_is_band ?cd2_is_band ?kp_is_band ?a_is_lamp ?l_is_lamp ?cd2_is_lamp ?kp_is_lamp ?a_first_irregular ?l_first_irregular ?cd2_first_irregular ?kp_first_irregular ?a_crossings ?l_crossings ?cd2_crossings ?kp_crossings ?a_sign_blocks ?l_sign_blocks ?cd2_sign_blocks ?kp_sign_blocks ?a_require_equal_lengths ?l_require_equal_lengths ?cd2_require_equal_lengths ?kp_require_equal_lengths ?a_matching_lamp ?l_matching_lamp ?cd2_matching_lamp ?kp_matching_lamp ?a_weights ?l_weights ?cd2_weights ?kp_weights ?a_four_of_blocks ?l_four_of_blocks ?cd2_four_of_blocks ?kp_four_of_blocks ?a_other_determinants ?l_other_determinants ?cd2_other_determinants ?kp_other_determinants ?a_judge_lamp ?l_judge_lamp ?cd2_judge_lamp ?kp_judge_lamp ?a_explain_lamp ?l_explain_lamp ?cd2_explain_lamp ?kp_explain_lamp ?a_has_form ?l_has_form ?cd2_has_form ?kp_has_form ?a_is_word ?l_is_word ?cd2_is_word ?kp_is_word ?a_are_weights ?l_are_weights ?cd2_are_weights ?kp_are_weights ?a_do_match ?l_do_match ?cd2_do_match ?kp_do_match ?a_law_cell ?l_law_cell ?cd2_law_cell ?kp_law_cell ?a_law_draws ?l_law_draws ?cd2_law_draws ?kp_law_draws ?a_law_bands ?l_law_bands ?cd2_law_bands ?kp_law_bands ?a_law_lamp ?l_law_lamp ?cd2_law_lamp ?kp_law_lamp ?a_law_values ?l_law_values ?cd2_law_values ?kp_law_values ?a_law_generators ?l_law_generators ?cd2_law_generators ?kp_law_generators ?a_law_sum ?l_law_sum ?cd2_law_sum ?kp_law_sum ?a_law_colored ?l_law_colored ?cd2_law_colored ?kp_law_colored ?a_law_quotients ?l_law_quotients ?cd2_law_quotients ?kp_law_quotients ?a_law_scene ?l_law_scene ?cd2_law_scene ?kp_law_scene ?a_law_is_band ?l_law_is_band ?cd2_law_is_band ?kp_law_is_band ?a_law_kind ?l_law_kind ?cd2_law_kind ?kp_law_kind ?a_law_turned ?l_law_turned ?cd2_law_turned ?kp_law_turned ?a_law_crossings ?l_law_crossings ?cd2_law_crossings ?kp_law_crossings ?a_law_judged ?l_law_judged ?cd2_law_judged ?kp_law_judged ?a_law_refused ?l_law_refused ?cd2_law_refused ?kp_law_refused ?a_law ?l_law ?cd2_law ?kp_law ?pg_Quotient ?hd_Quotient ?po_Quotient ?sa_Quotient ?mi_Quotient ?kc_Quotient ?ha_Quotient ?hn_Quotient ?ht_Quotient ?hm_Quotient ?sf_Quotient ?na_Quotient_top ?na_Quotient_bottom ?pg_Observer ?hd_Observer ?po_Observer ?sa_Observer ?mi_Observer ?kc_Observer ?ha_Observer ?hn_Observer ?ht_Observer ?hm_Observer ?sf_Observer ?na_Observer_bands ?na_Observer_vectors ?pg_View ?hd_View ?po_View ?sa_View ?mi_View ?kc_View ?ha_View ?hn_View ?ht_View ?hm_View ?sf_View ?na_View_observer ?na_View_lamp ?na_View_generators ?kit_Quotient_Quotient ?kit_bool_bool ?kit_int_int ?kit_int_bool ?kit_tuple_tuple ?kit_int_tuple ?kit_str_tuple ?kit_NoneType_tuple ?kit_list_tuple ?kit_dict_tuple ?kit_Quotient_tuple ?kit_int_Quotient ?kit_str_Quotient ?kit_NoneType_Quotient ?kit_list_Quotient ?kit_dict_Quotient ?kit_tuple_Quotient ?kit_str_int ?kit_NoneType_int ?kit_list_int ?kit_dict_int ?kit_tuple_int ?kit_Quotient_int ?kit_int_str ?kit_NoneType_str ?kit_list_str ?kit_dict_str ?kit_tuple_str ?kit_Quotient_str ?kit_str_str ?kit_BadReflectance_ColorError ?x_BadQuotient ?kc_BadQuotient ?xb_BadQuotient ?xd_BadQuotient ?xt_BadQuotient ?xi_BadQuotient ?xs_BadQuotient ?x_BadObserver ?kc_BadObserver ?xb_BadObserver ?xd_BadObserver ?xt_BadObserver ?xi_BadObserver ?xs_BadObserver ?x_BadLamp ?kc_BadLamp ?xb_BadLamp ?xd_BadLamp ?xt_BadLamp ?xi_BadLamp ?xs_BadLamp ?x_BadReflectance ?kc_BadReflectance ?xb_BadReflectance ?xd_BadReflectance ?xt_BadReflectance ?xi_BadReflectance ?xs_BadReflectance ?x_LengthsDiffer ?kc_LengthsDiffer ?xb_LengthsDiffer ?xd_LengthsDiffer ?xt_LengthsDiffer ?xi_LengthsDiffer ?xs_LengthsDiffer ?eg_BadReflectance ?ek_BadReflectance ?ea_BadReflectance ?en_BadReflectance ?et_BadReflectance ?em_BadReflectance ?rd_Observer ?cc_Observer_LEAST_BANDS ?cc_Observer_MOST_BANDS ?nf_str ?ss_str ?c_FEW ?c_LAMP ?n_abs ?n_all ?n_bool ?n_divmod ?n_enumerate ?n_int ?n_isinstance ?n_len ?n_list ?n_range ?n_str ?n_sum ?n_tuple ?n_zip ?n_ValueError ?i_gcd ?c_PIECE_DIGITS ?c_PIECE ?c_PARTS ?c_MOST_PART ?c_LEAST_LIGHT ?c_MOST_LIGHT ?c_FOUR ?c_MOST_FEW
    (case a_C_ColorError => k_is)
    (case a_C_BadQuotient => k_is)
    (case a_C_BadObserver => k_is)
    (case a_C_Irregular => k_is)
    (case a_C_BadLamp => k_is)
    (case a_C_BadReflectance => k_is)
    (case a_C_LengthsDiffer => k_is)
    (case a_C_Quotient => k_is)
    (case a_C_Observer => k_is)
    (case a_C_View => k_is)
    (case a_Quotient_init => k_is)
    (case is_Quotient_init => k_is)
    (case l_Quotient_init => k_is)
    (case cd2_Quotient_init => k_is)
    (case kp_Quotient_init => k_is)
    (case a_Quotient_add => k_is)
    (case is_Quotient_add => k_is)
    (case l_Quotient_add => k_is)
    (case cd2_Quotient_add => k_is)
    (case kp_Quotient_add => k_is)
    (case a_Quotient_sub => k_is)
    (case is_Quotient_sub => k_is)
    (case l_Quotient_sub => k_is)
    (case cd2_Quotient_sub => k_is)
    (case kp_Quotient_sub => k_is)
    (case a_Quotient_mul => k_is)
    (case is_Quotient_mul => k_is)
    (case l_Quotient_mul => k_is)
    (case cd2_Quotient_mul => k_is)
    (case kp_Quotient_mul => k_is)
    (case a_Quotient_neg => k_is)
    (case is_Quotient_neg => k_is)
    (case l_Quotient_neg => k_is)
    (case cd2_Quotient_neg => k_is)
    (case kp_Quotient_neg => k_is)
    (case a_Quotient_eq => k_is)
    (case is_Quotient_eq => k_is)
    (case l_Quotient_eq => k_is)
    (case cd2_Quotient_eq => k_is)
    (case kp_Quotient_eq => k_is)
    (case a_Quotient_lt => k_is)
    (case is_Quotient_lt => k_is)
    (case l_Quotient_lt => k_is)
    (case cd2_Quotient_lt => k_is)
    (case kp_Quotient_lt => k_is)
    (case a_Quotient_le => k_is)
    (case is_Quotient_le => k_is)
    (case l_Quotient_le => k_is)
    (case cd2_Quotient_le => k_is)
    (case kp_Quotient_le => k_is)
    (case a_Quotient_over => k_is)
    (case is_Quotient_over => k_is)
    (case l_Quotient_over => k_is)
    (case cd2_Quotient_over => k_is)
    (case kp_Quotient_over => k_is)
    (case a_whole => k_is)
    (case l_whole => k_is)
    (case cd2_whole => k_is)
    (case kp_whole => k_is)
    (case a_zero => k_is)
    (case l_zero => k_is)
    (case cd2_zero => k_is)
    (case kp_zero => k_is)
    (case a_one => k_is)
    (case l_one => k_is)
    (case cd2_one => k_is)
    (case kp_one => k_is)
    (case a_is_quotient => k_is)
    (case l_is_quotient => k_is)
    (case cd2_is_quotient => k_is)
    (case kp_is_quotient => k_is)
    (case a_sign_of => k_is)
    (case l_sign_of => k_is)
    (case cd2_sign_of => k_is)
    (case kp_sign_of => k_is)
    (case a_size_of => k_is)
    (case l_size_of => k_is)
    (case cd2_size_of => k_is)
    (case kp_size_of => k_is)
    (case a_black => k_is)
    (case l_black => k_is)
    (case cd2_black => k_is)
    (case kp_black => k_is)
    (case a_det => k_is)
    (case l_det => k_is)
    (case cd2_det => k_is)
    (case kp_det => k_is)
    (case a_scaled => k_is)
    (case l_scaled => k_is)
    (case cd2_scaled => k_is)
    (case kp_scaled => k_is)
    (case a_added => k_is)
    (case l_added => k_is)
    (case cd2_added => k_is)
    (case kp_added => k_is)
    (case a_taken => k_is)
    (case l_taken => k_is)
    (case cd2_taken => k_is)
    (case kp_taken => k_is)
    (case a_sum_of => k_is)
    (case l_sum_of => k_is)
    (case cd2_sum_of => k_is)
    (case kp_sum_of => k_is)
    (case a_Observer_init => k_is)
    (case is_Observer_init => k_is)
    (case l_Observer_init => k_is)
    (case cd2_Observer_init => k_is)
    (case kp_Observer_init => k_is)
    (case a_Observer_len => k_is)
    (case is_Observer_len => k_is)
    (case l_Observer_len => k_is)
    (case cd2_Observer_len => k_is)
    (case kp_Observer_len => k_is)
    (case a_View_init => k_is)
    (case is_View_init => k_is)
    (case l_View_init => k_is)
    (case cd2_View_init => k_is)
    (case kp_View_init => k_is)
    (case a_View_len => k_is)
    (case is_View_len => k_is)
    (case l_View_len => k_is)
    (case cd2_View_len => k_is)
    (case kp_View_len => k_is)
    (case a_require_reflectance => k_is)
    (case l_require_reflectance => k_is)
    (case cd2_require_reflectance => k_is)
    (case kp_require_reflectance => k_is)
    (case a_is_reflectance => k_is)
    (case l_is_reflectance => k_is)
    (case cd2_is_reflectance => k_is)
    (case kp_is_reflectance => k_is)
    (case a_is_number => k_is)
    (case l_is_number => k_is)
    (case cd2_is_number => k_is)
    (case kp_is_number => k_is)
    (case a_is_share => k_is)
    (case l_is_share => k_is)
    (case cd2_is_share => k_is)
    (case kp_is_share => k_is)
    (case a_are_bands => k_is)
    (case l_are_bands => k_is)
    (case cd2_are_bands => k_is)
    (case kp_are_bands => k_is)
    (case a_is_band => k_is)
    (case l_is_band => k_is)
    (case cd2_is_band => k_is)
    (case kp_is_band => k_is)
    (case a_is_lamp => k_is)
    (case l_is_lamp => k_is)
    (case cd2_is_lamp => k_is)
    (case kp_is_lamp => k_is)
    (case a_first_irregular => k_is)
    (case l_first_irregular => k_is)
    (case cd2_first_irregular => k_is)
    (case kp_first_irregular => k_is)
    (case a_crossings => k_is)
    (case l_crossings => k_is)
    (case cd2_crossings => k_is)
    (case kp_crossings => k_is)
    (case a_sign_blocks => k_is)
    (case l_sign_blocks => k_is)
    (case cd2_sign_blocks => k_is)
    (case kp_sign_blocks => k_is)
    (case a_require_equal_lengths => k_is)
    (case l_require_equal_lengths => k_is)
    (case cd2_require_equal_lengths => k_is)
    (case kp_require_equal_lengths => k_is)
    (case a_matching_lamp => k_is)
    (case l_matching_lamp => k_is)
    (case cd2_matching_lamp => k_is)
    (case kp_matching_lamp => k_is)
    (case a_weights => k_is)
    (case l_weights => k_is)
    (case cd2_weights => k_is)
    (case kp_weights => k_is)
    (case a_four_of_blocks => k_is)
    (case l_four_of_blocks => k_is)
    (case cd2_four_of_blocks => k_is)
    (case kp_four_of_blocks => k_is)
    (case a_other_determinants => k_is)
    (case l_other_determinants => k_is)
    (case cd2_other_determinants => k_is)
    (case kp_other_determinants => k_is)
    (case a_judge_lamp => k_is)
    (case l_judge_lamp => k_is)
    (case cd2_judge_lamp => k_is)
    (case kp_judge_lamp => k_is)
    (case a_explain_lamp => k_is)
    (case l_explain_lamp => k_is)
    (case cd2_explain_lamp => k_is)
    (case kp_explain_lamp => k_is)
    (case a_has_form => k_is)
    (case l_has_form => k_is)
    (case cd2_has_form => k_is)
    (case kp_has_form => k_is)
    (case a_is_word => k_is)
    (case l_is_word => k_is)
    (case cd2_is_word => k_is)
    (case kp_is_word => k_is)
    (case a_are_weights => k_is)
    (case l_are_weights => k_is)
    (case cd2_are_weights => k_is)
    (case kp_are_weights => k_is)
    (case a_do_match => k_is)
    (case l_do_match => k_is)
    (case cd2_do_match => k_is)
    (case kp_do_match => k_is)
    (case a_law_cell => k_is)
    (case l_law_cell => k_is)
    (case cd2_law_cell => k_is)
    (case kp_law_cell => k_is)
    (case a_law_draws => k_is)
    (case l_law_draws => k_is)
    (case cd2_law_draws => k_is)
    (case kp_law_draws => k_is)
    (case a_law_bands => k_is)
    (case l_law_bands => k_is)
    (case cd2_law_bands => k_is)
    (case kp_law_bands => k_is)
    (case a_law_lamp => k_is)
    (case l_law_lamp => k_is)
    (case cd2_law_lamp => k_is)
    (case kp_law_lamp => k_is)
    (case a_law_values => k_is)
    (case l_law_values => k_is)
    (case cd2_law_values => k_is)
    (case kp_law_values => k_is)
    (case a_law_generators => k_is)
    (case l_law_generators => k_is)
    (case cd2_law_generators => k_is)
    (case kp_law_generators => k_is)
    (case a_law_sum => k_is)
    (case l_law_sum => k_is)
    (case cd2_law_sum => k_is)
    (case kp_law_sum => k_is)
    (case a_law_colored => k_is)
    (case l_law_colored => k_is)
    (case cd2_law_colored => k_is)
    (case kp_law_colored => k_is)
    (case a_law_quotients => k_is)
    (case l_law_quotients => k_is)
    (case cd2_law_quotients => k_is)
    (case kp_law_quotients => k_is)
    (case a_law_scene => k_is)
    (case l_law_scene => k_is)
    (case cd2_law_scene => k_is)
    (case kp_law_scene => k_is)
    (case a_law_is_band => k_is)
    (case l_law_is_band => k_is)
    (case cd2_law_is_band => k_is)
    (case kp_law_is_band => k_is)
    (case a_law_kind => k_is)
    (case l_law_kind => k_is)
    (case cd2_law_kind => k_is)
    (case kp_law_kind => k_is)
    (case a_law_turned => k_is)
    (case l_law_turned => k_is)
    (case cd2_law_turned => k_is)
    (case kp_law_turned => k_is)
    (case a_law_crossings => k_is)
    (case l_law_crossings => k_is)
    (case cd2_law_crossings => k_is)
    (case kp_law_crossings => k_is)
    (case a_law_judged => k_is)
    (case l_law_judged => k_is)
    (case cd2_law_judged => k_is)
    (case kp_law_judged => k_is)
    (case a_law_refused => k_is)
    (case l_law_refused => k_is)
    (case cd2_law_refused => k_is)
    (case kp_law_refused => k_is)
    (case a_law => k_is)
    (case l_law => k_is)
    (case cd2_law => k_is)
    (case kp_law => k_is)
    (case pg_Quotient => k_is)
    (case hd_Quotient => k_is)
    (case po_Quotient => k_is)
    (case sa_Quotient => k_is)
    (case mi_Quotient => k_is)
    (case kc_Quotient => k_is)
    (case ha_Quotient => k_is)
    (case hn_Quotient => k_is)
    (case ht_Quotient => k_is)
    (case hm_Quotient => k_is)
    (case sf_Quotient => k_is)
    (case na_Quotient_top => k_is)
    (case na_Quotient_bottom => k_is)
    (case pg_Observer => k_is)
    (case hd_Observer => k_is)
    (case po_Observer => k_is)
    (case sa_Observer => k_is)
    (case mi_Observer => k_is)
    (case kc_Observer => k_is)
    (case ha_Observer => k_is)
    (case hn_Observer => k_is)
    (case ht_Observer => k_is)
    (case hm_Observer => k_is)
    (case sf_Observer => k_is)
    (case na_Observer_bands => k_is)
    (case na_Observer_vectors => k_is)
    (case pg_View => k_is)
    (case hd_View => k_is)
    (case po_View => k_is)
    (case sa_View => k_is)
    (case mi_View => k_is)
    (case kc_View => k_is)
    (case ha_View => k_is)
    (case hn_View => k_is)
    (case ht_View => k_is)
    (case hm_View => k_is)
    (case sf_View => k_is)
    (case na_View_observer => k_is)
    (case na_View_lamp => k_is)
    (case na_View_generators => k_is)
    (case kit_Quotient_Quotient => first | rfl | k_is)
    (case kit_bool_bool => first | rfl | k_is)
    (case kit_int_int => first | rfl | k_is)
    (case kit_int_bool => first | rfl | k_is)
    (case kit_tuple_tuple => first | rfl | k_is)
    (case kit_int_tuple => first | rfl | k_is)
    (case kit_str_tuple => first | rfl | k_is)
    (case kit_NoneType_tuple => first | rfl | k_is)
    (case kit_list_tuple => first | rfl | k_is)
    (case kit_dict_tuple => first | rfl | k_is)
    (case kit_Quotient_tuple => first | rfl | k_is)
    (case kit_int_Quotient => first | rfl | k_is)
    (case kit_str_Quotient => first | rfl | k_is)
    (case kit_NoneType_Quotient => first | rfl | k_is)
    (case kit_list_Quotient => first | rfl | k_is)
    (case kit_dict_Quotient => first | rfl | k_is)
    (case kit_tuple_Quotient => first | rfl | k_is)
    (case kit_str_int => first | rfl | k_is)
    (case kit_NoneType_int => first | rfl | k_is)
    (case kit_list_int => first | rfl | k_is)
    (case kit_dict_int => first | rfl | k_is)
    (case kit_tuple_int => first | rfl | k_is)
    (case kit_Quotient_int => first | rfl | k_is)
    (case kit_int_str => first | rfl | k_is)
    (case kit_NoneType_str => first | rfl | k_is)
    (case kit_list_str => first | rfl | k_is)
    (case kit_dict_str => first | rfl | k_is)
    (case kit_tuple_str => first | rfl | k_is)
    (case kit_Quotient_str => first | rfl | k_is)
    (case kit_str_str => first | rfl | k_is)
    (case kit_BadReflectance_ColorError => first | rfl | k_is)
    (case x_BadQuotient => k_exc)
    (case kc_BadQuotient => k_is)
    (case xb_BadQuotient => k_is)
    (case xd_BadQuotient => k_is)
    (case xt_BadQuotient => k_is)
    (case xi_BadQuotient => k_is)
    (case xs_BadQuotient => first | rfl | k_is)
    (case x_BadObserver => k_exc)
    (case kc_BadObserver => k_is)
    (case xb_BadObserver => k_is)
    (case xd_BadObserver => k_is)
    (case xt_BadObserver => k_is)
    (case xi_BadObserver => k_is)
    (case xs_BadObserver => first | rfl | k_is)
    (case x_BadLamp => k_exc)
    (case kc_BadLamp => k_is)
    (case xb_BadLamp => k_is)
    (case xd_BadLamp => k_is)
    (case xt_BadLamp => k_is)
    (case xi_BadLamp => k_is)
    (case xs_BadLamp => first | rfl | k_is)
    (case x_BadReflectance => k_exc)
    (case kc_BadReflectance => k_is)
    (case xb_BadReflectance => k_is)
    (case xd_BadReflectance => k_is)
    (case xt_BadReflectance => k_is)
    (case xi_BadReflectance => k_is)
    (case xs_BadReflectance => first | rfl | k_is)
    (case x_LengthsDiffer => k_exc)
    (case kc_LengthsDiffer => k_is)
    (case xb_LengthsDiffer => k_is)
    (case xd_LengthsDiffer => k_is)
    (case xt_LengthsDiffer => k_is)
    (case xi_LengthsDiffer => k_is)
    (case xs_LengthsDiffer => first | rfl | k_is)
    (case eg_BadReflectance => k_is)
    (case ek_BadReflectance => k_is)
    (case ea_BadReflectance => k_is)
    (case en_BadReflectance => k_is)
    (case et_BadReflectance => k_is)
    (case em_BadReflectance => k_is)
    (case rd_Observer => first | rfl | k_is)
    (case cc_Observer_LEAST_BANDS => first | rfl | k_is)
    (case cc_Observer_MOST_BANDS => first | rfl | k_is)
    (case nf_str => first | rfl | k_is)
    (case ss_str => first | rfl | k_is)
    (case c_FEW => k_is)
    (case c_LAMP => k_is)
    (case n_abs => k_is)
    (case n_all => k_is)
    (case n_bool => k_is)
    (case n_divmod => k_is)
    (case n_enumerate => k_is)
    (case n_int => k_is)
    (case n_isinstance => k_is)
    (case n_len => k_is)
    (case n_list => k_is)
    (case n_range => k_is)
    (case n_str => k_is)
    (case n_sum => k_is)
    (case n_tuple => k_is)
    (case n_zip => k_is)
    (case n_ValueError => k_is)
    (case i_gcd => k_is)
    (case c_PIECE_DIGITS => k_is)
    (case c_PIECE => k_is)
    (case c_PARTS => k_is)
    (case c_MOST_PART => k_is)
    (case c_LEAST_LIGHT => k_is)
    (case c_MOST_LIGHT => k_is)
    (case c_FOUR => k_is)
    (case c_MOST_FEW => k_is)

