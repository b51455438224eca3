import PyProof.Rows.All
import Wide.All
import OpenK.AllK
import Wide.FinOn
import Open.SpecLaws
import KE.OsGo
import KE.KRevIter
import HandS.ForSpec
import HandS.ForMost
import HandS.Evl
import HandS.Wide
import HandS.Walk
import HandS.Lambda
import HandS.Nested
import HandS.CallLocal
import HandS.Rev
import HandS.SortKw
import KE.KMinKey
import KE.SortKeyHeap
import HandS.NestedK
import HandS.Deep
import HandS.Small
import HandS.SetFor
import HandS.Iter
import HandS.EndTab
import HandS.EndOwn
import KE.KNestM
import PySem.Challenge.RW_apartpolynomials_s01_answers
set_option Elab.async false
set_option linter.all false
set_option maxRecDepth 100000
set_option maxHeartbeats 4000000
/-! Shapes: what a value is, all the way down; states as lists of shapes; readings run over shapes. -/
namespace Py
open PySem PySem.Spec PyProof.Rows L2
open Evl (Ex ex_l ex_t sq_of st_of sz_of sz_lt)
inductive Sh where
  | i (n : Int)
  | b (x : Bool)
  | n
  | L (l : List Sh)
  | T (l : List Sh)
  | o (a : Addr)
  /-- whatever a word says of it that stays -/
  | p (P : Hp → V → Prop)
mutual
def IsV (F : Hp) : Sh → V → Prop
  | .i n, v => v = .int n
  | .b x, v => v = .bl x
  | .n, v => v = .non
  | .L l, v => ∃ a vs, v = .ref a ∧ F a = some (.lst vs) ∧ IsVs F l vs
  | .T l, v => ∃ a vs, v = .ref a ∧ F a = some (.tup vs) ∧ IsVs F l vs
  | .o a, v => v = .ref a
  | .p P, v => P F v ∧ ∀ F1 F2, Ex F1 F2 → P F1 v → P F2 v
def IsVs (F : Hp) : List Sh → List V → Prop
  | [], vs => vs = []
  | s :: ss, vs => ∃ v r, vs = v :: r ∧ IsV F s v ∧ IsVs F ss r
end
abbrev li (ns : List Int) : Sh := .L (ns.map .i)
mutual
theorem IsV.mono {F F' : Hp} (e : Ex F F') : ∀ (s : Sh) (v : V), IsV F s v → IsV F' s v
  | .i _, _, h => h
  | .b _, _, h => h
  | .n, _, h => h
  | .L l, v, h => by
    obtain ⟨a, vs, h1, h2, h3⟩ := h
    exact ⟨a, vs, h1, e _ _ h2, IsVs.mono e l vs h3⟩
  | .T l, v, h => by
    obtain ⟨a, vs, h1, h2, h3⟩ := h
    exact ⟨a, vs, h1, e _ _ h2, IsVs.mono e l vs h3⟩
  | .o _, _, h => h
  | .p P, v, h => ⟨h.2 F F' e h.1, h.2⟩
theorem IsVs.mono {F F' : Hp} (e : Ex F F') : ∀ (s : List Sh) (v : List V), IsVs F s v → IsVs F' s v
  | [], _, h => h
  | s :: ss, vs, h => by
    obtain ⟨v, r, h1, h2, h3⟩ := h
    exact ⟨v, r, h1, IsV.mono e s v h2, IsVs.mono e ss r h3⟩
end
section
variable {F F' : Hp}
theorem IsVs.nil : IsVs F [] [] := rfl
theorem IsVs.cons {s : Sh} {ss : List Sh} {v : V} {vs : List V} (h : IsV F s v) (hs : IsVs F ss vs) : IsVs F (s :: ss) (v :: vs) := ⟨v, vs, rfl, h, hs⟩
theorem IsVs.len : ∀ {ss : List Sh} {vs : List V}, IsVs F ss vs → vs.length = ss.length
  | [], vs, h => by rw [show vs = [] from h]; rfl
  | s :: ss, vs, h => by
    obtain ⟨v, r, rfl, _, h3⟩ := h
    rw [List.length_cons, List.length_cons, IsVs.len h3]
theorem IsVs.get : ∀ {ss : List Sh} {vs : List V} {i : Nat} {v : V}, IsVs F ss vs → vs[i]? = some v → ∃ s, ss[i]? = some s ∧ IsV F s v
  | [], vs, i, v, h, e => by rw [show vs = [] from h] at e; simp at e
  | s :: ss, vs, i, v, h, e => by
    obtain ⟨w, r, rfl, h2, h3⟩ := h
    cases i with
    | zero => exact ⟨s, rfl, by rw [← Option.some.inj e]; exact h2⟩
    | succ i => exact IsVs.get (i := i) h3 (by simpa using e)
theorem IsVs.get' : ∀ {ss : List Sh} {vs : List V} {i : Nat} {s : Sh}, IsVs F ss vs → ss[i]? = some s → ∃ v, vs[i]? = some v ∧ IsV F s v
  | [], vs, i, s, h, e => by simp at e
  | t :: ss, vs, i, s, h, e => by
    obtain ⟨w, r, rfl, h2, h3⟩ := h
    cases i with
    | zero => exact ⟨w, rfl, by rw [← Option.some.inj e]; exact h2⟩
    | succ i =>
      obtain ⟨v, e1, e2⟩ := IsVs.get' (i := i) h3 (by simpa using e)
      exact ⟨v, by simpa using e1, e2⟩
theorem IsVs.append : ∀ {ss ts : List Sh} {vs ws : List V}, IsVs F ss vs → IsVs F ts ws → IsVs F (ss ++ ts) (vs ++ ws)
  | [], ts, vs, ws, h, h' => by rw [show vs = [] from h]; exact h'
  | s :: ss, ts, vs, ws, h, h' => by
    obtain ⟨v, r, rfl, h2, h3⟩ := h
    exact ⟨v, r ++ ws, rfl, h2, IsVs.append h3 h'⟩
theorem IsVs.take : ∀ {ss : List Sh} {vs : List V} (n : Nat), IsVs F ss vs → IsVs F (ss.take n) (vs.take n)
  | _, _, 0, _ => rfl
  | [], vs, n + 1, h => by rw [show vs = [] from h]; rfl
  | s :: ss, vs, n + 1, h => by
    obtain ⟨v, r, rfl, h2, h3⟩ := h
    exact ⟨v, r.take n, rfl, h2, IsVs.take n h3⟩
theorem IsVs.drop : ∀ {ss : List Sh} {vs : List V} (n : Nat), IsVs F ss vs → IsVs F (ss.drop n) (vs.drop n)
  | _, _, 0, h => h
  | [], vs, n + 1, h => by rw [show vs = [] from h]; rfl
  | s :: ss, vs, n + 1, h => by
    obtain ⟨v, r, rfl, h2, h3⟩ := h
    exact IsVs.drop n h3
theorem IsVs.set : ∀ {ss : List Sh} {vs : List V} (n : Nat) {s : Sh} {v : V}, IsVs F ss vs → IsV F s v → IsVs F (ss.set n s) (vs.set n v)
  | [], vs, n, s, v, h, _ => by rw [show vs = [] from h]; rfl
  | t :: ss, vs, 0, s, v, h, h' => by
    obtain ⟨w, r, rfl, h2, h3⟩ := h
    exact ⟨v, r, rfl, h', h3⟩
  | t :: ss, vs, n + 1, s, v, h, h' => by
    obtain ⟨w, r, rfl, h2, h3⟩ := h
    exact ⟨w, r.set n v, rfl, h2, IsVs.set n h3 h'⟩
theorem isVs_ints : ∀ (ns : List Int) (vs : List V), IsVs F (ns.map Sh.i) vs ↔ vs = ns.map V.int
  | [], vs => Iff.rfl
  | n :: ns, vs => by
    constructor
    · rintro ⟨v, r, rfl, h2, h3⟩
      rw [(isVs_ints ns r).mp h3, show v = .int n from h2]; rfl
    · rintro rfl
      exact ⟨.int n, ns.map V.int, rfl, rfl, (isVs_ints ns _).mpr rfl⟩
theorem IsVs.reverse : ∀ {ss : List Sh} {vs : List V}, IsVs F ss vs → IsVs F ss.reverse vs.reverse
  | [], vs, h => by rw [show vs = [] from h]; rfl
  | s :: ss, vs, h => by
    obtain ⟨v, r, rfl, h2, h3⟩ := h
    rw [List.reverse_cons, List.reverse_cons]
    exact IsVs.append (IsVs.reverse h3) (IsVs.cons h2 IsVs.nil)
end
/-! ### what stands still, what is kept; a table of code objects may grow -/
/-- the name that a lambda of rational_roots has -/
def qR : Str := "rational_roots" ++ ".<locals>." ++ "<lambda>"
/-- what F says of a: that it stands there; of a table: that it tells lambdas of that name alone -/
def Hold (H : Hp) (a : Addr) (o : HO) : Prop := match o with
  | .tbl _ => LamX.TabS H a qR
  | o => H a = some o
def Fx (F H : Hp) : Prop := ∀ a o, F a = some o → Hold H a o
def Keeps (H : Hp) (a : Addr) (o : HO) : Prop := match o with
  | .tbl _ => ∃ ps, H a = some (.tbl ps)
  | o => H a = some o
def Hx (H H' : Hp) : Prop := ∀ a o, H a = some o → Keeps H' a o
/-- neither a table nor a code object -/
def nTab : Option HO → Prop
  | some (.tbl _) => False
  | some (.ext _) => False
  | _ => True
theorem Keeps.of {H : Hp} {a : Addr} {o : HO} (h : H a = some o) : Keeps H a o := by
  cases o <;> first | exact h | exact ⟨_, h⟩
theorem Hx.of {H H' : Hp} (e : Ex H H') : Hx H H' := fun a o h => by
  have h := e a o h
  cases o <;> first | exact h | exact ⟨_, h⟩
theorem Hx.refl (H : Hp) : Hx H H := Hx.of (Ex.refl H)
theorem Hx.trans {H H1 H2 : Hp} (a : Hx H H1) (b : Hx H1 H2) : Hx H H2 := fun x o h => by
  have h1 := a x o h
  cases o with
  | tbl ps =>
    obtain ⟨ps', h2⟩ := h1
    exact b x (.tbl ps') h2
  | _ => exact b x _ h1
theorem Hx.back {H H' : Hp} {p : Addr} (e : Hx H H') (h : H' p = none) : H p = none := by
  cases h1 : H p with
  | none => rfl
  | some o =>
    exfalso
    have h2 := e p o h1
    cases o with
    | tbl ps =>
      obtain ⟨ps', h3⟩ := h2
      rw [h] at h3; cases h3
    | _ =>
      have h3 : H' p = some _ := h2
      rw [h] at h3; cases h3
theorem Hold.here {H : Hp} {a : Addr} {o : HO} (h : Hold H a o) : ∃ u, H a = some u := by
  cases o with
  | tbl ps =>
    obtain ⟨ps', h1, _⟩ := h
    exact ⟨_, h1⟩
  | _ => exact ⟨_, h⟩
theorem Hold.ext {H H' : Hp} {a : Addr} {o : HO} (h : Hold H a o) (e : Ex H H') : Hold H' a o := by
  cases o with
  | tbl ps => exact LamX.TabS.ext h e
  | _ => exact e _ _ h
theorem Hold.upd {H : Hp} {a D : Addr} {o u : HO} (h : Hold H a o) (n : nTab (H D)) (ha : a ≠ D) : Hold (upd H D u) a o := by
  cases o with
  | tbl ps =>
    obtain ⟨ps', h1, h2, h3⟩ := h
    refine ⟨ps', by rw [upd_ne ha]; exact h1, h2, fun pos cv hc => ?_⟩
    obtain ⟨c, e1, e2⟩ := h3 pos cv hc
    refine ⟨c, e1, ?_⟩
    rw [upd_ne fun z => by rw [z] at e2; rw [e2] at n; exact n]
    exact e2
  | _ =>
    show L2.upd H D u a = _
    rw [upd_ne ha]
    exact h
theorem Fx.ext {F H H' : Hp} (h : Fx F H) (e : Ex H H') : Fx F H' := fun a o x => (h a o x).ext e
theorem Fx.back {F H : Hp} {p : Addr} (e : Fx F H) (h : H p = none) : F p = none := by
  cases h1 : F p with
  | none => rfl
  | some o =>
    obtain ⟨u, h2⟩ := (e p o h1).here
    rw [h] at h2; cases h2
theorem Fx.upd {F H : Hp} {D : Addr} {u : HO} (h : Fx F H) (n : nTab (H D)) (hF : F D = none) : Fx F (upd H D u) := fun a o x => (h a o x).upd n fun z => by rw [z, hF] at x; cases x
/-- what stands there, but no table, is frozen -/
theorem Fx.lay {F H : Hp} {p : Addr} {o : HO} (h : Fx F H) (hp : H p = some o) (n : nTab (some o)) : Fx (L2.upd F p o) H := fun a u x => by
  by_cases c : a = p
  · subst c
    rw [upd_same] at x
    cases x
    cases o <;> first | exact hp | exact n.elim
  · rw [upd_ne c] at x
    exact h a u x
theorem fx_l {K : PySem.W.Frag} {F H : Hp} {a : Addr} {xs : List V} (e : Fx F H) (h : SqL K F a xs) : SqL K H a xs := by
  rcases h with (h | ⟨o, h⟩) | h
  · exact Or.inl (Or.inl (e _ _ h))
  · exact Or.inl (Or.inr ⟨o, e _ _ h⟩)
  · exact Or.inr h
theorem hx_l {K : PySem.W.Frag} {F H : Hp} {a : Addr} {xs : List V} (e : Hx F H) (h : SqL K F a xs) : SqL K H a xs := by
  rcases h with (h | ⟨o, h⟩) | h
  · exact Or.inl (Or.inl (e _ _ h))
  · exact Or.inl (Or.inr ⟨o, e _ _ h⟩)
  · exact Or.inr h
/-- F: what stands still; H: the heap; what F' has more is new to H -/
structure Grow (F H F' H' : Hp) : Prop where
  ff : Ex F F'
  fh : Fx F' H'
  hh : Hx H H'
  new : ∀ a, F' a ≠ none → F a ≠ none ∨ H a = none
theorem Grow.refl {F H : Hp} (h : Fx F H) : Grow F H F H := ⟨Ex.refl F, h, Hx.refl H, fun _ h => Or.inl h⟩
theorem Grow.trans {F H F1 H1 F2 H2 : Hp} (a : Grow F H F1 H1) (b : Grow F1 H1 F2 H2) : Grow F H F2 H2 :=
  ⟨a.ff.trans b.ff, b.fh, a.hh.trans b.hh, fun x h => by
    rcases b.new x h with h1 | h1
    · exact a.new x h1
    · exact Or.inr (a.hh.back h1)⟩
theorem none_of_not {H : Hp} {a : Addr} (h : ¬ H a ≠ none) : H a = none := by
  cases e : H a with
  | none => rfl
  | some o => exact absurd (by rw [e]; simp) h
/-- a new object that stands still from now on -/
theorem Grow.lay {F H : Hp} {p : Addr} {o : HO} (h : Fx F H) (hp : H p = none) (n : nTab (some o) := by trivial) : Grow F H (upd F p o) (upd H p o) where
  ff := Ex.new (h.back hp)
  fh := (h.ext (Ex.new hp)).lay upd_same n
  hh := Hx.of (Ex.new hp)
  new := fun a ha => by
    by_cases c : a = p
    · subst c; exact Or.inr hp
    · rw [upd_ne c] at ha; exact Or.inl ha
/-- a new object that may change -/
theorem Grow.layO {F H : Hp} {p : Addr} {o : HO} (h : Fx F H) (hp : H p = none) : Grow F H F (upd H p o) where
  ff := Ex.refl F
  fh := h.ext (Ex.new hp)
  hh := Hx.of (Ex.new hp)
  new := fun a ha => Or.inl ha
inductive Sl where
  | x
  | v (s : Sh)
  | own (l : List Sh)
  /-- an object of the class at C.1, which may change: its two lists of whole numbers; at C.2 stands a table -/
  | ob (a : Addr) (C : Addr × Addr) (p q : List Int)
  /-- a dict of whole numbers to lists of whole numbers, which may change -/
  | dic (l : List (Int × List Int))
/-- what a dict holds -/
def IsD (F : Hp) (l : List (Int × List Int)) (kvs : List (Key × V)) : Prop := kvs.map (·.1) = l.map (fun p => Sum.inl p.1) ∧ IsVs F (l.map fun p => li p.2) (kvs.map (·.2))
/-- its attributes, in order -/
abbrev obF (v1 v2 : V) : List (Str × V) := [("first", v1), ("second", v2)]
def SlOk (H0 F H : Hp) : Sl → Option V → Prop
  | .x, _ => True
  | .v s, o => ∃ v, o = some v ∧ IsV F s v
  | .own l, o => ∃ a vs, o = some (.ref a) ∧ H0 a = none ∧ F a = none ∧ H a = some (.lst vs) ∧ IsVs F l vs
  | .ob a C p q, o => ∃ dx v1 v2, o = some (.ref a) ∧ H0 a = none ∧ F a = none ∧ H a = some (.ins C.1 dx (obF v1 v2)) ∧ IsV F (li p) v1 ∧ IsV F (li q) v2 ∧ F C.2 = some (.tbl #[])
  | .dic l, o => ∃ a kvs, o = some (.ref a) ∧ H0 a = none ∧ F a = none ∧ H a = some (.dK kvs) ∧ IsD F l kvs
def SlsOk (H0 F H : Hp) : List Sl → List (Option V) → Prop
  | [], σ => σ = []
  | s :: ss, σ => ∃ o r, σ = o :: r ∧ SlOk H0 F H s o ∧ SlsOk H0 F H ss r
/-- no two slots own the same list -/
def Apart (sls : List Sl) (σ : List (Option V)) : Prop := ∀ (i j : Nat) (l l' : List Sh) (a : Addr), sls[i]? = some (Sl.own l) → sls[j]? = some (Sl.own l') → σ[i]? = some (some (V.ref a)) → σ[j]? = some (some (V.ref a)) → i = j
structure Ok (F0 H0 F H : Hp) (σ : L2.St) (sls : List Sl) : Prop where
  e0 : Fx F0 H0
  g : Grow F0 H0 F H
  st : SlsOk H0 F H sls σ
  ap : Apart sls σ
section
variable {F0 H0 F H F' H' : Hp} {σ : L2.St} {sls : List Sl}
theorem SlOk.grow {s : Sl} {o : Option V} (h : SlOk H0 F H s o) (g : Grow F H F' H') : SlOk H0 F' H' s o := by
  cases s with
  | x => trivial
  | v s =>
    obtain ⟨v, h1, h2⟩ := h
    exact ⟨v, h1, IsV.mono g.ff _ _ h2⟩
  | own l =>
    obtain ⟨a, vs, h1, h2, h3, h4, h5⟩ := h
    refine ⟨a, vs, h1, h2, none_of_not fun hn => ?_, g.hh _ _ h4, IsVs.mono g.ff _ _ h5⟩
    rcases g.new a hn with z | z
    · exact z h3
    · rw [h4] at z; cases z
  | dic l =>
    obtain ⟨a, kvs, h1, h2, h3, h4, h5, h6⟩ := h
    refine ⟨a, kvs, h1, h2, none_of_not fun hn => ?_, g.hh _ _ h4, h5, IsVs.mono g.ff _ _ h6⟩
    rcases g.new a hn with z | z
    · exact z h3
    · rw [h4] at z; cases z
  | ob a C p q =>
    obtain ⟨dx, v1, v2, h1, h2, h3, h4, h5, h6, h7⟩ := h
    refine ⟨dx, v1, v2, h1, h2, none_of_not fun hn => ?_, g.hh _ _ h4, IsV.mono g.ff _ _ h5, IsV.mono g.ff _ _ h6, g.ff _ _ h7⟩
    rcases g.new a hn with z | z
    · exact z h3
    · rw [h4] at z; cases z
theorem SlsOk.grow : ∀ {sls : List Sl} {σ : List (Option V)}, SlsOk H0 F H sls σ → Grow F H F' H' → SlsOk H0 F' H' sls σ
  | [], _, h, _ => h
  | s :: ss, σ, h, g => by
    obtain ⟨o, r, h1, h2, h3⟩ := h
    exact ⟨o, r, h1, h2.grow g, SlsOk.grow h3 g⟩
theorem Ok.grow (k : Ok F0 H0 F H σ sls) (g : Grow F H F' H') : Ok F0 H0 F' H' σ sls := ⟨k.e0, k.g.trans g, k.st.grow g, k.ap⟩
theorem SlsOk.get : ∀ {sls : List Sl} {σ : List (Option V)} {i : Nat} {s : Sl}, SlsOk H0 F H sls σ → sls[i]? = some s → ∃ o, σ[i]? = some o ∧ SlOk H0 F H s o
  | [], _, i, s, h, e => by simp at e
  | t :: ss, σ, i, s, h, e => by
    obtain ⟨o, r, rfl, h2, h3⟩ := h
    cases i with
    | zero => exact ⟨o, rfl, by rw [← Option.some.inj e]; exact h2⟩
    | succ i =>
      obtain ⟨o', e1, e2⟩ := SlsOk.get (i := i) h3 (by simpa using e)
      exact ⟨o', by simpa using e1, e2⟩
theorem SlsOk.set : ∀ {sls : List Sl} {σ : List (Option V)} (i : Nat) {s : Sl} {o : Option V}, SlsOk H0 F H sls σ → SlOk H0 F H s o → SlsOk H0 F H (sls.set i s) (σ.set i o)
  | [], σ, i, s, o, h, _ => by rw [show σ = [] from h]; rfl
  | t :: ss, σ, 0, s, o, h, h' => by
    obtain ⟨o', r, rfl, h2, h3⟩ := h
    exact ⟨o, r, rfl, h', h3⟩
  | t :: ss, σ, i + 1, s, o, h, h' => by
    obtain ⟨o', r, rfl, h2, h3⟩ := h
    exact ⟨o', r.set i o, rfl, h2, SlsOk.set i h3 h'⟩
theorem SlsOk.len : ∀ {sls : List Sl} {σ : List (Option V)}, SlsOk H0 F H sls σ → σ.length = sls.length
  | [], σ, h => by rw [show σ = [] from h]; rfl
  | t :: ss, σ, h => by
    obtain ⟨o', r, rfl, h2, h3⟩ := h
    rw [List.length_cons, List.length_cons, SlsOk.len h3]
theorem Ok.fh (k : Ok F0 H0 F H σ sls) : Fx F H := k.g.fh
end
theorem e_own_raw {sls : List Sl} {i : Nat} {l : List Sh} (h : sls[i]? = some (.own l)) {F0 H0 F H : Hp} {σ : L2.St} (k : Ok F0 H0 F H σ sls) : ∃ a vs, σ[i]? = some (some (.ref a)) ∧ H0 a = none ∧ F a = none ∧ H a = some (.lst vs) ∧ IsVs F l vs := by
  obtain ⟨o, e, a, vs, rfl, h1, h2, h3, h4⟩ := k.st.get h
  exact ⟨a, vs, e, h1, h2, h3, h4⟩
/-! ### expressions -/
def E (te : TE) (sls : List Sl) (s : Sh) : Prop := ∀ F0 H0 F H σ, Ok F0 H0 F H σ sls → ∀ Q : VK, (∀ v F' H', Grow F H F' H' → IsV F' s v → Q v H') → te σ H Q
/-- a new list, which may still change -/
def EN (te : TE) (sls : List Sl) (l : List Sh) : Prop := ∀ F0 H0 F H σ, Ok F0 H0 F H σ sls → ∀ Q : VK, (∀ a vs F' H', Grow F H F' H' → H a = none → F' a = none → H' a = some (.lst vs) → IsVs F' l vs → Q (.ref a) H') → te σ H Q
def EA (ta : TA) (sls : List Sl) (ss : List Sh) : Prop := ∀ F0 H0 F H σ, Ok F0 H0 F H σ sls → ∀ Q : List V → Hp → Prop, (∀ vs F' H', Grow F H F' H' → IsVs F' ss vs → Q vs H') → ta σ H Q
def ET (t : TT) (sls : List Sl) (b : Bool) : Prop := ∀ F0 H0 F H σ, Ok F0 H0 F H σ sls → ∀ Q : Bool → Hp → Prop, (∀ F' H', Grow F H F' H' → Q b H') → t σ H Q
def EO (t : TO) (sls : List Sl) (o : Option Int) : Prop := ∀ F0 H0 F H σ, Ok F0 H0 F H σ sls → ∀ Q : Option Int → Hp → Prop, (∀ F' H', Grow F H F' H' → Q o H') → t σ H Q
section
variable {K : PySem.W.Frag} {sls : List Sl} {ta tb te : TE} {s s' : Sh} {a b c : Int}
theorem EN.e {l : List Sh} (h : EN te sls l) : E te sls (.L l) := fun F0 H0 F H σ k Q q => h F0 H0 F H σ k Q fun a vs F' H' g h1 h2 h3 h4 => by
  have g2 : Grow F H (upd F' a (.lst vs)) H' := ⟨g.ff.trans (Ex.new h2), g.fh.lay h3 trivial, g.hh, fun x hx => by
    by_cases c : x = a
    · subst c; exact Or.inr h1
    · rw [upd_ne c] at hx; exact g.new x hx⟩
  exact q _ _ _ g2 ⟨a, vs, rfl, upd_same, IsVs.mono (Ex.new h2) _ _ h4⟩
theorem e_is (h : E te sls s) (e : s = s') : E te sls s' := e ▸ h
theorem e_var {i : Nat} (h : sls[i]? = some (.v s)) : E (tVar i) sls s := fun F0 H0 F H σ k Q q => by
  obtain ⟨o, e, v, rfl, hv⟩ := k.st.get h
  exact ⟨v, e, q v F H (Grow.refl k.fh) hv⟩
theorem e_int : E (tC (.int a)) sls (.i a) := fun F0 H0 F H σ k Q q => q _ F H (Grow.refl k.fh) rfl
theorem e_bl {x : Bool} : E (tC (.bl x)) sls (.b x) := fun F0 H0 F H σ k Q q => q _ F H (Grow.refl k.fh) rfl
theorem e_C {v : V} (h : ∀ F, IsV F s v) : E (tC v) sls s := fun F0 H0 F H σ k Q q => q _ F H (Grow.refl k.fh) (h F)
theorem e_2 {r : R2} (ha : E ta sls s) (hb : E tb sls s') {s2 : Sh} (h : ∀ F H x y, Fx F H → IsV F s x → IsV F s' y → ∀ Q : VK, (∀ v F' H', Grow F H F' H' → IsV F' s2 v → Q v H') → r x y H Q) : E (tOp r ta tb) sls s2 := fun F0 H0 F H σ k Q q =>
  ha F0 H0 F H σ k _ fun x F1 H1 g1 h1 => hb F0 H0 F1 H1 σ (k.grow g1) _ fun y F2 H2 g2 h2 => h F2 H2 x y g2.fh (IsV.mono g2.ff _ _ h1) h2 Q fun v F3 H3 g3 h3 => q v F3 H3 ((g1.trans g2).trans g3) h3
theorem en_2 {r : R2} (ha : E ta sls s) (hb : E tb sls s') {l : List Sh} (h : ∀ F H x y, Fx F H → IsV F s x → IsV F s' y → ∀ Q : VK, (∀ a vs F' H', Grow F H F' H' → H a = none → F' a = none → H' a = some (.lst vs) → IsVs F' l vs → Q (.ref a) H') → r x y H Q) : EN (tOp r ta tb) sls l := fun F0 H0 F H σ k Q q =>
  ha F0 H0 F H σ k _ fun x F1 H1 g1 h1 => hb F0 H0 F1 H1 σ (k.grow g1) _ fun y F2 H2 g2 h2 => h F2 H2 x y g2.fh (IsV.mono g2.ff _ _ h1) h2 Q fun a vs F3 H3 g3 h3 h4 h5 h6 => q a vs F3 H3 ((g1.trans g2).trans g3) ((g1.hh.trans g2.hh).back h3) h4 h5 h6
theorem e_I0 {g : Int → Int → V} (ha : E ta sls (.i a)) (hb : E tb sls (.i b)) (h : ∀ F, IsV F s (g a b)) : E (tOp (rI0 g) ta tb) sls s := e_2 ha hb fun F H x y e h1 h2 Q q => ⟨a, b, h1, h2, q _ F H (Grow.refl e) (h F)⟩
theorem e_I {g : Int → Int → V} {C : Int → Int → Prop} (ha : E ta sls (.i a)) (hb : E tb sls (.i b)) (hc : C a b) (h : ∀ F, IsV F s (g a b)) : E (tOp (rI C g) ta tb) sls s := e_2 ha hb fun F H x y e h1 h2 Q q => ⟨a, b, h1, h2, hc, q _ F H (Grow.refl e) (h F)⟩
theorem e_add (ha : E ta sls (.i a)) (hb : E tb sls (.i b)) : E (tOp (rI0 fun i j => .int (i + j)) ta tb) sls (.i (a + b)) := e_I0 ha hb fun _ => rfl
theorem e_sub (ha : E ta sls (.i a)) (hb : E tb sls (.i b)) : E (tOp (rI0 fun i j => .int (i - j)) ta tb) sls (.i (a - b)) := e_I0 ha hb fun _ => rfl
theorem e_lt (ha : E ta sls (.i a)) (hb : E tb sls (.i b)) : E (tOp (rI0 fun i j => .bl (decide (i < j))) ta tb) sls (.b (decide (a < b))) := e_I0 ha hb fun _ => rfl
theorem e_le (ha : E ta sls (.i a)) (hb : E tb sls (.i b)) : E (tOp (rI0 fun i j => .bl (decide (i ≤ j))) ta tb) sls (.b (decide (a ≤ b))) := e_I0 ha hb fun _ => rfl
theorem e_gt (ha : E ta sls (.i a)) (hb : E tb sls (.i b)) : E (tOp (rI0 fun i j => .bl (decide (j < i))) ta tb) sls (.b (decide (b < a))) := e_I0 ha hb fun _ => rfl
theorem e_ge (ha : E ta sls (.i a)) (hb : E tb sls (.i b)) : E (tOp (rI0 fun i j => .bl (decide (j ≤ i))) ta tb) sls (.b (decide (b ≤ a))) := e_I0 ha hb fun _ => rfl
theorem dec_int (a b : Int) : decide (V.int a = V.int b) = decide (a = b) := by
  by_cases h : a = b
  · subst h; simp
  · rw [decide_eq_false h, decide_eq_false fun z => h (V.int.inj z)]
theorem e_eq (ha : E ta sls (.i a)) (hb : E tb sls (.i b)) : E (tOp rEq ta tb) sls (.b (decide (a = b))) := e_2 ha hb fun F H x y e h1 h2 Q q => by
  obtain rfl : x = .int a := h1
  obtain rfl : y = .int b := h2
  refine ⟨rfl, q _ F H (Grow.refl e) ?_⟩
  show V.bl _ = V.bl _
  rw [dec_int]
theorem e_ne (ha : E ta sls (.i a)) (hb : E tb sls (.i b)) : E (tOp rNe ta tb) sls (.b (!decide (a = b))) := e_2 ha hb fun F H x y e h1 h2 Q q => by
  obtain rfl : x = .int a := h1
  obtain rfl : y = .int b := h2
  refine ⟨rfl, q _ F H (Grow.refl e) ?_⟩
  show V.bl _ = V.bl _
  rw [dec_int]
theorem e_neg (ha : E ta sls (.i a)) : E (tUn (rU fun i => .int (-i)) ta) sls (.i (-a)) := fun F0 H0 F H σ k Q q =>
  ha F0 H0 F H σ k _ fun x F1 H1 g1 h1 => ⟨a, h1, q _ F1 H1 g1 rfl⟩
/-! arguments -/
theorem ea_nil : EA tNil sls [] := fun F0 H0 F H σ k Q q => q [] F H (Grow.refl k.fh) rfl
theorem ea_cons {tr : TA} {ss : List Sh} (h : E te sls s) (hr : EA tr sls ss) : EA (tCons te tr) sls (s :: ss) := fun F0 H0 F H σ k Q q =>
  h F0 H0 F H σ k _ fun x F1 H1 g1 h1 => hr F0 H0 F1 H1 σ (k.grow g1) _ fun vs F2 H2 g2 h2 => q _ F2 H2 (g1.trans g2) (IsVs.cons (IsV.mono g2.ff _ _ h1) h2)
theorem ea_1 (h : E te sls s) : EA (tCons te tNil) sls [s] := ea_cons h ea_nil
theorem en_lst {t : TA} {ss : List Sh} (h : EA t sls ss) (hl : ss.length ≤ 100000) : EN (tLst t) sls ss := fun F0 H0 F H σ k Q q =>
  h F0 H0 F H σ k _ fun vs F1 H1 g1 h1 => ⟨sz_of (by rw [h1.len]; exact hl), fun p hp => q p vs F1 _ (g1.trans (Grow.layO g1.fh hp)) (g1.hh.back hp) (g1.fh.back hp) upd_same h1⟩
theorem e_lst {t : TA} {ss : List Sh} (h : EA t sls ss) (hl : ss.length ≤ 100000) : E (tLst t) sls (.L ss) := (en_lst h hl).e
theorem e_tup {t : TA} {ss : List Sh} (h : EA t sls ss) (hl : ss.length ≤ 100000) : E (tTup t) sls (.T ss) := fun F0 H0 F H σ k Q q =>
  h F0 H0 F H σ k _ fun vs F1 H1 g1 h1 => ⟨sz_of (by rw [h1.len]; exact hl), fun p hp => q _ _ _ (g1.trans (Grow.lay g1.fh hp)) ⟨p, vs, rfl, upd_same, IsVs.mono (Ex.new (g1.fh.back hp)) _ _ h1⟩⟩
/-! lists -/
theorem e_len {l : List Sh} (h : E te sls (.L l)) : E (tCB (Evl.rLenS K) (tCons te tNil)) sls (.i l.length) := fun F0 H0 F H σ k Q q =>
  h F0 H0 F H σ k _ fun x F1 H1 g1 h1 => by
    obtain ⟨p, vs, rfl, h2, h3⟩ := h1
    refine ⟨p, vs, rfl, Or.inl (sq_of (g1.fh _ _ h2)), q _ F1 H1 g1 ?_⟩
    show V.int _ = V.int _
    rw [h3.len]
theorem e_abs (h : E te sls (.i a)) : E (tCB (fun xs H Q => ∃ i, xs = [.int i] ∧ Q (.int (if i < 0 then -i else i)) H) (tCons te tNil)) sls (.i (a.natAbs : Int)) := fun F0 H0 F H σ k Q q =>
  h F0 H0 F H σ k _ fun x F1 H1 g1 h1 => by
    obtain rfl : x = .int a := h1
    refine ⟨a, rfl, q _ F1 H1 g1 ?_⟩
    show V.int _ = V.int _
    congr 1
    split <;> omega
theorem e_max2 (ha : E ta sls (.i a)) (hb : E tb sls (.i b)) : E (tCB (fun xs H Q => ∃ i j, xs = [.int i, .int j] ∧ Q (.int (if j > i then j else i)) H) (tCons ta (tCons tb tNil))) sls (.i (max a b)) := fun F0 H0 F H σ k Q q =>
  ha F0 H0 F H σ k _ fun x F1 H1 g1 h1 => hb F0 H0 F1 H1 σ (k.grow g1) _ fun y F2 H2 g2 h2 => by
    obtain rfl : x = .int a := h1
    obtain rfl : y = .int b := h2
    refine ⟨a, b, rfl, q _ F2 H2 (g1.trans g2) ?_⟩
    show V.int _ = V.int _
    congr 1
    split <;> omega
theorem atI_sh {F : Hp} {ss : List Sh} {vs : List V} {i : Int} {t : Sh} (h : IsVs F ss vs) (e : atI ss i = some t) : ∃ v, atI vs i = some v ∧ IsV F t v := by
  unfold atI at e ⊢
  rw [h.len]
  cases hj : ixN ss.length i with
  | none => rw [hj] at e; cases e
  | some j =>
    rw [hj] at e
    exact h.get' e
theorem e_ixL {l : List Sh} {t : Sh} (ha : E ta sls (.L l)) (hb : E tb sls (.i a)) (h : atI l a = some t) : E (tOp (rIxL K) ta tb) sls t := e_2 ha hb fun F H x y e h1 h2 Q q => by
  obtain ⟨p, vs, rfl, h3, h4⟩ := h1
  obtain rfl : y = .int a := h2
  obtain ⟨v, h5, h6⟩ := atI_sh h4 h
  exact ⟨p, vs, a, v, rfl, rfl, sq_of (e _ _ h3), h5, q v F H (Grow.refl e) h6⟩
theorem e_ixT {l : List Sh} {t : Sh} (ha : E ta sls (.T l)) (hb : E tb sls (.i a)) (h : atI l a = some t) : E (tOp (rIxT K) ta tb) sls t := e_2 ha hb fun F H x y e h1 h2 Q q => by
  obtain ⟨p, vs, rfl, h3, h4⟩ := h1
  obtain rfl : y = .int a := h2
  obtain ⟨v, h5, h6⟩ := atI_sh h4 h
  exact ⟨p, vs, a, v, rfl, rfl, st_of (e _ _ h3), h5, q v F H (Grow.refl e) h6⟩
theorem eo_none : EO tNoPart sls none := fun F0 H0 F H σ k Q q => q F H (Grow.refl k.fh)
theorem eo_some (h : E te sls (.i a)) : EO (tPart te) sls (some a) := fun F0 H0 F H σ k Q q =>
  h F0 H0 F H σ k _ fun x F1 H1 g1 h1 => ⟨a, h1, q F1 H1 g1⟩
def cutS {A : Type} (xs : List A) (lo hi : Option Int) : List A := (xs.drop (HT.sIx xs.length 0 lo)).take (HT.sIx xs.length xs.length hi - HT.sIx xs.length 0 lo)
theorem IsVs.cut {F : Hp} {ss : List Sh} {vs : List V} (h : IsVs F ss vs) (lo hi : Option Int) : IsVs F (cutS ss lo hi) (cutV vs lo hi) := by
  unfold cutS cutV
  rw [h.len]
  exact (h.drop _).take _
theorem cutS_map {A B : Type} (f : A → B) (xs : List A) (lo hi : Option Int) : cutS (xs.map f) lo hi = (cutS xs lo hi).map f := by
  unfold cutS
  rw [List.length_map, List.map_take, List.map_drop]
theorem en_sl {tl th : TO} {l : List Sh} {lo hi : Option Int} (h : E te sls (.L l)) (h1 : EO tl sls lo) (h2 : EO th sls hi) : EN (tSl (rSlL K) te tl th) sls (cutS l lo hi) := fun F0 H0 F H σ k Q q =>
  h F0 H0 F H σ k _ fun x F1 H1 g1 v1 => h1 F0 H0 F1 H1 σ (k.grow g1) _ fun F2 H2 g2 => h2 F0 H0 F2 H2 σ ((k.grow g1).grow g2) _ fun F3 H3 g3 => by
    obtain ⟨p, vs, rfl, h3, h4⟩ := v1
    have g := (g1.trans g2).trans g3
    refine ⟨p, vs, rfl, sq_of ((g3.hh _ _ (g2.hh _ _ (g1.fh _ _ h3)))), fun r hr => q r _ F3 _ (g.trans (Grow.layO g.fh hr)) (g.hh.back hr) (g.fh.back hr) upd_same (IsVs.mono (g2.ff.trans g3.ff) _ _ (h4.cut lo hi))⟩
theorem en_cat {l m : List Sh} (ha : E ta sls (.L l)) (hb : E tb sls (.L m)) (hz : l.length + m.length ≤ 100000) : EN (tOp rCat ta tb) sls (l ++ m) := en_2 ha hb fun F H x y e h1 h2 Q q => by
  obtain ⟨p, vs, rfl, h3, h4⟩ := h1
  obtain ⟨p', ws, rfl, h5, h6⟩ := h2
  exact ⟨p, p', vs, ws, rfl, rfl, e _ _ h3, e _ _ h5, sz_of (by rw [h4.len, h6.len]; exact hz), fun r hr => q r _ F _ (Grow.layO e hr) hr (e.back hr) upd_same (h4.append h6)⟩
def repL {A : Type} (xs : List A) : Nat → List A
  | 0 => []
  | n + 1 => xs ++ repL xs n
/-! tests -/
theorem et_test {x : Bool} (h : E te sls (.b x)) : ET (tTest te) sls x := fun F0 H0 F H σ k Q q => h F0 H0 F H σ k _ fun v F1 H1 g1 h1 => ⟨x, h1, q F1 H1 g1⟩
theorem et_B {x : Bool} (h : E te sls (.b x)) : ET (tB te) sls x := fun F0 H0 F H σ k Q q => h F0 H0 F H σ k _ fun v F1 H1 g1 h1 => ⟨x, h1, q F1 H1 g1⟩
theorem et_is {t : TT} {x y : Bool} (h : ET t sls x) (e : x = y) : ET t sls y := e ▸ h
theorem et_and {t u : TT} {x y : Bool} (h1 : ET t sls x) (h2 : x = true → ET u sls y) : ET (tAnd t u) sls (x && y) := fun F0 H0 F H σ k Q q => h1 F0 H0 F H σ k _ fun F1 H1 g1 => by
  cases x with
  | true =>
    show u σ H1 Q
    exact h2 rfl F0 H0 F1 H1 σ (k.grow g1) Q fun F2 H2 g2 => q F2 H2 (g1.trans g2)
  | false =>
    show Q false H1
    exact q F1 H1 g1
theorem et_or {t u : TT} {x y : Bool} (h1 : ET t sls x) (h2 : x = false → ET u sls y) : ET (tOr t u) sls (x || y) := fun F0 H0 F H σ k Q q => h1 F0 H0 F H σ k _ fun F1 H1 g1 => by
  cases x with
  | true =>
    show Q true H1
    exact q F1 H1 g1
  | false =>
    show u σ H1 Q
    exact h2 rfl F0 H0 F1 H1 σ (k.grow g1) Q fun F2 H2 g2 => q F2 H2 (g1.trans g2)
theorem et_not {t : TT} {x : Bool} (h : ET t sls x) : ET (tNot t) sls (!x) := fun F0 H0 F H σ k Q q => h F0 H0 F H σ k _ fun F1 H1 g1 => q F1 H1 g1
/-! a def that hands back a value for values -/
def spP (R : List Sh → Sh → Prop) : Sp := fun vs H Q _ => ∃ F ss r, Fx F H ∧ IsVs F ss vs ∧ R ss r ∧ ∀ v F' H', Grow F H F' H' → IsV F' r v → Q v H'
theorem e_call {R : List Sh → Sh → Prop} {EX : XK} {t : TA} {ss : List Sh} {r : Sh} (h : EA t sls ss) (hR : R ss r) : E (tCall (spP R) [] EX t) sls r := fun F0 H0 F H σ k Q q =>
  h F0 H0 F H σ k _ fun vs F1 H1 g1 h1 => ⟨F1, ss, r, g1.fh, by rw [List.append_nil]; exact h1, hR, fun v F' H' g2 h2 => q v F' H' (g1.trans g2) h2⟩
end
/-! ### statements -/
section
variable {sls : List Sl} {s : Sh}
theorem Apart.put {σ : L2.St} {i : Nat} {s : Sl} {o : Option V} (h : Apart sls σ) (hs : ∀ l, s ≠ .own l) : Apart (sls.set i s) (σ.set i o) := fun p q l l' a h1 h2 h3 h4 => by
  have np : p ≠ i := fun e => by
    rw [e, List.getElem?_set] at h1
    split at h1
    · split at h1
      · exact hs l (Option.some.inj h1)
      · cases h1
    · rename_i hne; exact hne rfl
  have nq : q ≠ i := fun e => by
    rw [e, List.getElem?_set] at h2
    split at h2
    · split at h2
      · exact hs l' (Option.some.inj h2)
      · cases h2
    · rename_i hne; exact hne rfl
  rw [List.getElem?_set_ne np.symm] at h1 h3
  rw [List.getElem?_set_ne nq.symm] at h2 h4
  exact h p q l l' a h1 h2 h3 h4
theorem Ok.put {F0 H0 F H : Hp} {σ : L2.St} {i : Nat} {v : V} (k : Ok F0 H0 F H σ sls) (h : IsV F s v) : Ok F0 H0 F H (σ.set i (some v)) (sls.set i (.v s)) := ⟨k.e0, k.g, k.st.set i ⟨v, rfl, h⟩, k.ap.put fun l h => by cases h⟩
/-- a list that the heap did not know goes to slot i -/
theorem Ok.putO {F0 H0 F H F' H' : Hp} {σ : L2.St} {i : Nat} {a : Addr} {vs : List V} {l : List Sh} (k : Ok F0 H0 F H σ sls) (g : Grow F H F' H') (h1 : H a = none) (h2 : F' a = none) (h3 : H' a = some (.lst vs)) (h4 : IsVs F' l vs) :
    Ok F0 H0 F' H' (σ.set i (some (.ref a))) (sls.set i (.own l)) := by
  refine ⟨k.e0, k.g.trans g, ((k.grow g).st).set i ⟨a, vs, rfl, k.g.hh.back h1, h2, h3, h4⟩, fun p q l1 l2 b e1 e2 e3 e4 => ?_⟩
  have key : ∀ p l1, p ≠ i → (sls.set i (Sl.own l))[p]? = some (.own l1) → (σ.set i (some (.ref a)))[p]? = some (some (V.ref a)) → False := fun p l1 hp e1 e3 => by
    rw [List.getElem?_set_ne hp.symm] at e1 e3
    obtain ⟨a', vs', e5, _, _, h7, _⟩ := e_own_raw e1 k
    rw [e5] at e3
    have e6 : a' = a := by injection (Option.some.inj (Option.some.inj e3))
    rw [e6, h1] at h7
    cases h7
  by_cases hp : p = i
  · by_cases hq : q = i
    · rw [hp, hq]
    · exfalso
      rw [hp, List.getElem?_set] at e3
      have hi : i < σ.length := by
        apply Decidable.byContradiction
        intro hn
        rw [if_pos rfl, if_neg hn] at e3
        cases e3
      rw [if_pos rfl, if_pos hi] at e3
      have e6 : a = b := by injection (Option.some.inj (Option.some.inj e3))
      rw [← e6] at e4
      exact key q l2 hq e2 e4
  · by_cases hq : q = i
    · exfalso
      rw [hq, List.getElem?_set] at e4
      have hi : i < σ.length := by
        apply Decidable.byContradiction
        intro hn
        rw [if_pos rfl, if_neg hn] at e4
        cases e4
      rw [if_pos rfl, if_pos hi] at e4
      have e6 : a = b := by injection (Option.some.inj (Option.some.inj e4))
      rw [← e6] at e3
      exact key p l1 hp e1 e3
    · rw [List.getElem?_set_ne (Ne.symm hp)] at e1 e3
      rw [List.getElem?_set_ne (Ne.symm hq)] at e2 e4
      exact k.ap p q l1 l2 b e1 e2 e3 e4
end
/-- N: behind it; R: handed back; B, C: break, continue -/
def Run (t : TS) (sls : List Sl) (N : List Sl → Prop) (R : List Sl → Sh → Prop) (B : List Sl → Prop := fun _ => False) (C : List Sl → Prop := fun _ => False) : Prop :=
  ∀ F0 H0 F H σ, Ok F0 H0 F H σ sls → ∀ D : Ends, (∀ F' H' σ' s', Ok F0 H0 F' H' σ' s' → Ex F F' → N s' → D.nx σ' H') → (∀ v F' H' σ' s' s, Ok F0 H0 F' H' σ' s' → IsV F' s v → R s' s → D.rt v H') →
    (∀ F' H' σ' s', Ok F0 H0 F' H' σ' s' → Ex F F' → B s' → D.bk σ' H') → (∀ F' H' σ' s', Ok F0 H0 F' H' σ' s' → Ex F F' → C s' → D.ct σ' H') → t D σ H
section
variable {K : PySem.W.Frag} {sls : List Sl} {te : TE} {s : Sh} {N B C : List Sl → Prop} {R : List Sl → Sh → Prop} {tz tu tw : TS} {t : TT}
theorem Run.mono {N' B' C' : List Sl → Prop} {R' : List Sl → Sh → Prop} (h : Run tu sls N R B C) (h1 : ∀ s, N s → N' s) (h2 : ∀ s' s, R s' s → R' s' s) (h3 : ∀ s, B s → B' s) (h4 : ∀ s, C s → C' s) : Run tu sls N' R' B' C' := fun F0 H0 F H σ k D d1 d2 d3 d4 =>
  h F0 H0 F H σ k D (fun F' H' σ' s' k' e n => d1 F' H' σ' s' k' e (h1 s' n)) (fun v F' H' σ' s' s k' i r => d2 v F' H' σ' s' s k' i (h2 s' s r)) (fun F' H' σ' s' k' e n => d3 F' H' σ' s' k' e (h3 s' n)) (fun F' H' σ' s' k' e n => d4 F' H' σ' s' k' e (h4 s' n))
theorem run_next (h : N sls) : Run tNext sls N R B C := fun F0 H0 F H σ k D d1 _ _ _ => d1 F H σ sls k (Ex.refl F) h
theorem run_brk (h : B sls) : Run tBreak sls N R B C := fun F0 H0 F H σ k D _ _ d3 _ => d3 F H σ sls k (Ex.refl F) h
theorem run_cont (h : C sls) : Run tCont sls N R B C := fun F0 H0 F H σ k D _ _ _ d4 => d4 F H σ sls k (Ex.refl F) h
theorem run_seq {tu : TS} {M : List Sl → Prop} (h : Run tu sls M R B C) (hz : ∀ s', M s' → Run tz s' N R B C) : Run (tSeq tu tz) sls N R B C := fun F0 H0 F H σ k D d1 d2 d3 d4 =>
  h F0 H0 F H σ k { D with nx := tz D } (fun F' H' σ' s' k' e m => hz s' m F0 H0 F' H' σ' k' D (fun F2 H2 σ2 s2 k2 e2 n2 => d1 F2 H2 σ2 s2 k2 (e.trans e2) n2) d2 (fun F2 H2 σ2 s2 k2 e2 n2 => d3 F2 H2 σ2 s2 k2 (e.trans e2) n2) (fun F2 H2 σ2 s2 k2 e2 n2 => d4 F2 H2 σ2 s2 k2 (e.trans e2) n2)) d2 d3 d4
theorem run_ret (h : E te sls s) (hR : R sls s) : Run (tRet te) sls N R B C := fun F0 H0 F H σ k D _ d2 _ _ =>
  h F0 H0 F H σ k _ fun v F1 H1 g1 h1 => d2 v F1 H1 σ sls s (k.grow g1) h1 hR
theorem run_set {i : Nat} (h : E te sls s) (hN : N (sls.set i (.v s))) : Run (tAsg te (gName i)) sls N R B C := fun F0 H0 F H σ k D d1 _ _ _ =>
  h F0 H0 F H σ k _ fun v F1 H1 g1 h1 => d1 F1 H1 _ _ ((k.grow g1).put h1) g1.ff hN
theorem run_own {i : Nat} {l : List Sh} (h : EN te sls l) (hN : N (sls.set i (.own l))) : Run (tAsg te (gName i)) sls N R B C := fun F0 H0 F H σ k D d1 _ _ _ =>
  h F0 H0 F H σ k _ fun a vs F1 H1 g1 h1 h2 h3 h4 => d1 F1 H1 _ _ (k.putO g1 h1 h2 h3 h4) g1.ff hN
theorem q_set {i : Nat} (h : E te sls s) (hz : Run tz (sls.set i (.v s)) N R B C) : Run (tSeq (tAsg te (gName i)) tz) sls N R B C := run_seq (M := fun s' => s' = sls.set i (.v s)) (run_set h rfl) (fun s' e => by rw [e]; exact hz)
theorem q_own {i : Nat} {l : List Sh} (h : EN te sls l) (hz : Run tz (sls.set i (.own l)) N R B C) : Run (tSeq (tAsg te (gName i)) tz) sls N R B C := run_seq (M := fun s' => s' = sls.set i (.own l)) (run_own h rfl) (fun s' e => by rw [e]; exact hz)
theorem q_ret (h : E te sls s) (hR : R sls s) : Run (tSeq (tRet te) tz) sls N R B C := fun F0 H0 F H σ k D d1 d2 d3 d4 =>
  h F0 H0 F H σ k _ fun v F1 H1 g1 h1 => d2 v F1 H1 σ sls s (k.grow g1) h1 hR
/-- behind a growth -/
theorem Run.behind {F0 H0 F H F1 H1 : Hp} {σ : L2.St} {D : Ends} (h : Run tu sls N R B C) (k : Ok F0 H0 F H σ sls) (g1 : Grow F H F1 H1) (d1 : ∀ F' H' σ' s', Ok F0 H0 F' H' σ' s' → Ex F F' → N s' → D.nx σ' H') (d2 : ∀ v F' H' σ' s' s, Ok F0 H0 F' H' σ' s' → IsV F' s v → R s' s → D.rt v H')
    (d3 : ∀ F' H' σ' s', Ok F0 H0 F' H' σ' s' → Ex F F' → B s' → D.bk σ' H') (d4 : ∀ F' H' σ' s', Ok F0 H0 F' H' σ' s' → Ex F F' → C s' → D.ct σ' H') : tu D σ H1 :=
  h F0 H0 F1 H1 σ (k.grow g1) D (fun F' H' σ' s' k' e n => d1 F' H' σ' s' k' (g1.ff.trans e) n) d2 (fun F' H' σ' s' k' e n => d3 F' H' σ' s' k' (g1.ff.trans e) n) (fun F' H' σ' s' k' e n => d4 F' H' σ' s' k' (g1.ff.trans e) n)
theorem run_if {b : Bool} (h : ET t sls b) (h1 : b = true → Run tu sls N R B C) (h2 : b = false → Run tw sls N R B C) : Run (tIfS t tu tw) sls N R B C := fun F0 H0 F H σ k D d1 d2 d3 d4 =>
  h F0 H0 F H σ k _ fun F1 H1 g1 => by
    cases b with
    | true =>
      show tu D σ H1
      exact (h1 rfl).behind k g1 d1 d2 d3 d4
    | false =>
      show tw D σ H1
      exact (h2 rfl).behind k g1 d1 d2 d3 d4
theorem q_if {b : Bool} (h : ET t sls b) (h1 : b = true → Run (tSeq tu tz) sls N R B C) (h2 : b = false → Run (tSeq tw tz) sls N R B C) : Run (tSeq (tIfS t tu tw) tz) sls N R B C := fun F0 H0 F H σ k D d1 d2 d3 d4 =>
  h F0 H0 F H σ k _ fun F1 H1 g1 => by
    cases b with
    | true =>
      show tu { D with nx := tz D } σ H1
      exact (h1 rfl).behind k g1 d1 d2 d3 d4
    | false =>
      show tw { D with nx := tz D } σ H1
      exact (h2 rfl).behind k g1 d1 d2 d3 d4
theorem q_next (h : Run tz sls N R B C) : Run (tSeq tNext tz) sls N R B C := fun F0 H0 F H σ k D d1 d2 d3 d4 => h F0 H0 F H σ k D d1 d2 d3 d4
theorem q_when {b : Bool} (h : ET t sls b) (h1 : b = true → Run (tSeq tu tz) sls N R B C) (h2 : b = false → Run tz sls N R B C) : Run (tSeq (tIfS t tu tNext) tz) sls N R B C := q_if h h1 fun e => q_next (h2 e)
theorem q_assoc {t1 t2 t3 : TS} (h : Run (tSeq t1 (tSeq t2 t3)) sls N R B C) : Run (tSeq (tSeq t1 t2) t3) sls N R B C := h
theorem run_aug {i : Nat} {f : Int → Int → Int} {a b : Int} (hx : sls[i]? = some (.v (.i a))) (h : E te sls (.i b)) (hN : N (sls.set i (.v (.i (f a b))))) : Run (tAug i te (ipI f)) sls N R B C := fun F0 H0 F H σ k D d1 _ _ _ => by
  obtain ⟨o, e, v, rfl, hv⟩ := k.st.get hx
  obtain rfl : v = .int a := hv
  exact ⟨.int a, e, h F0 H0 F H σ k _ fun y F1 H1 g1 h1 => ⟨a, b, rfl, h1, d1 F1 H1 _ _ ((k.grow g1).put (s := .i (f a b)) rfl) g1.ff hN⟩⟩
theorem q_aug {i : Nat} {f : Int → Int → Int} {a b : Int} (hx : sls[i]? = some (.v (.i a))) (h : E te sls (.i b)) (hz : Run tz (sls.set i (.v (.i (f a b)))) N R B C) : Run (tSeq (tAug i te (ipI f)) tz) sls N R B C :=
  run_seq (M := fun s' => s' = sls.set i (.v (.i (f a b)))) (run_aug hx h rfl) (fun s' e => by rw [e]; exact hz)
/-- while: I by a number that falls -/
theorem run_while (I : Nat → List Sl → Prop) (m0 : Nat) (h0 : I m0 sls) (hs : ∀ m s', I m s' → ∃ b, ET t s' b ∧ (b = true → Run tu s' (fun s2 => ∃ m', m' < m ∧ I m' s2) R N (fun s2 => ∃ m', m' < m ∧ I m' s2)) ∧ (b = false → N s')) : Run (tWhile t tu) sls N R B C := fun F0 H0 F H σ k D d1 d2 d3 d4 =>
  ⟨fun m σ' H' => ∃ F' s', Ok F0 H0 F' H' σ' s' ∧ Ex F F' ∧ I m s', ⟨m0, F, sls, k, Ex.refl F, h0⟩, fun m σ' H' ⟨F', s', k', e', i⟩ => by
    obtain ⟨b, hb, h1, h2⟩ := hs m s' i
    refine hb F0 H0 F' H' σ' k' _ fun F1 H1 g1 => ?_
    cases b with
    | true =>
      refine ⟨fun σ2 H2 => ∃ m', m' < m ∧ ∃ F2 s2, Ok F0 H0 F2 H2 σ2 s2 ∧ Ex F F2 ∧ I m' s2, fun σ2 H2 n => n, ?_⟩
      exact (h1 rfl).behind k' g1 (fun F2 H2 σ2 s2 k2 e2 ⟨m', hm, i2⟩ => ⟨m', hm, F2, s2, k2, e'.trans e2, i2⟩) d2 (fun F2 H2 σ2 s2 k2 e2 n => d1 F2 H2 σ2 s2 k2 (e'.trans e2) n) (fun F2 H2 σ2 s2 k2 e2 ⟨m', hm, i2⟩ => ⟨m', hm, F2, s2, k2, e'.trans e2, i2⟩)
    | false => exact d1 F1 H1 σ' s' (k'.grow g1) (e'.trans g1.ff) (h2 rfl)⟩
theorem q_while (I : Nat → List Sl → Prop) (m0 : Nat) (h0 : I m0 sls) (hs : ∀ m s', I m s' → ∃ b, ET t s' b ∧ (b = true → Run tu s' (fun s2 => ∃ m', m' < m ∧ I m' s2) R (fun s2 => Run tz s2 N R B C) (fun s2 => ∃ m', m' < m ∧ I m' s2)) ∧ (b = false → Run tz s' N R B C)) : Run (tSeq (tWhile t tu) tz) sls N R B C :=
  run_seq (M := fun s' => Run tz s' N R B C) (run_while I m0 h0 hs) (fun s' h => h)
/-- for over a walk: what is given at turn i, told by shapes -/
theorem run_forW {J : It} {n : Nat} {G : Hp → Prop} {Y : Nat → Hp → V → Hp → Prop} (w : Walk J n G Y) {g : TG} {F0 H0 F H : Hp} {σ : L2.St} {D : Ends} (k : Ok F0 H0 F H σ sls)
    (d1 : ∀ F' H' σ' s', Ok F0 H0 F' H' σ' s' → Ex F F' → N s' → D.nx σ' H') (d2 : ∀ v F' H' σ' s' s, Ok F0 H0 F' H' σ' s' → IsV F' s v → R s' s → D.rt v H')
    (hG : ∀ F' H', Ex F F' → Fx F' H' → G H') (P : Nat → List Sl → List Sl → Prop)
    (hY : ∀ i σ' H' H'' F' s' x, i < n → Ok F0 H0 F' H' σ' s' → Ex F F' → Y i H' x H'' → ∀ Q : L2.St → Hp → Prop, (∀ F2 H2 σ2 s2, Ok F0 H0 F2 H2 σ2 s2 → Ex F' F2 → P i s' s2 → Q σ2 H2) → g x σ' H'' Q)
    (I : Nat → List Sl → Prop) (h0 : I 0 sls) (hs : ∀ i s' s2, i < n → I i s' → P i s' s2 → Run tu s2 (I (i + 1)) R N (I (i + 1))) (hd : ∀ s', I n s' → N s') :
    ∃ W : Nat → Nat → L2.St → Hp → Prop, (∃ m, W 0 m σ H) ∧ ∀ i m σ H, W i m σ H →
      (J.stop i H ∧ D.nx σ H) ∨ (J.go i H ∧ ∃ N : L2.St → Hp → Prop, (∀ σ' H', N σ' H' → ∃ m', m' < m ∧ W (i + 1) m' σ' H') ∧ ∀ x H', J.yld i H x H' → g x σ H' fun σ2 H2 => tu { D with nx := N, ct := N, bk := D.nx } σ2 H2) :=
  for_it w (fun i σ' H' => ∃ F' s', Ok F0 H0 F' H' σ' s' ∧ Ex F F' ∧ I i s') ⟨F, sls, k, Ex.refl F, h0⟩ (fun i σ' H' _ ⟨F', s', k', e', _⟩ => hG F' H' e' k'.fh)
    (fun i x σ' H' H'' hi ⟨F', s', k', e', hI⟩ y => hY i σ' H' H'' F' s' x hi k' e' y _ fun F2 H2 σ2 s2 k2 e2 p =>
      hs i s' s2 hi hI p F0 H0 F2 H2 σ2 k2 _ (fun F3 H3 σ3 s3 k3 e3 n3 => ⟨F3, s3, k3, (e'.trans e2).trans e3, n3⟩) d2 (fun F3 H3 σ3 s3 k3 e3 n3 => d1 F3 H3 σ3 s3 k3 ((e'.trans e2).trans e3) n3) (fun F3 H3 σ3 s3 k3 e3 n3 => ⟨F3, s3, k3, (e'.trans e2).trans e3, n3⟩))
    (fun σ' H' ⟨F', s', k', e', hI⟩ => d1 F' H' σ' s' k' e' (hd s' hI))
/-- for over a list that stands still -/
theorem run_for {tl : TE} {l : List Sh} {j : Nat} (h : E tl sls (.L l)) (I : Nat → List Sl → Prop) (h0 : I 0 sls) (hs : ∀ i s' x, l[i]? = some x → I i s' → Run tu (s'.set j (.v x)) (I (i + 1)) R N (I (i + 1))) (hd : ∀ s', I l.length s' → N s') : Run (tFor (iList K tl) (gName j) tu) sls N R B C := fun F0 H0 F H σ k D d1 d2 d3 d4 =>
  h F0 H0 F H σ k _ fun v F1 H1 g1 h1 => by
    obtain ⟨p, vs, rfl, h2, h3⟩ := h1
    have hl := h3.len
    refine ⟨p, rfl, ⟨vs, sq_of (g1.fh _ _ h2)⟩, run_forW (walk_list (xs := vs)) (k.grow g1) (fun F' H' σ' s' k' e n => d1 F' H' σ' s' k' (g1.ff.trans e) n) d2 (fun F' H' e e' => sq_of (e' _ _ (e _ _ h2))) (fun i s' s2 => ∃ x, l[i]? = some x ∧ s2 = s'.set j (.v x)) (fun i σ' H' H'' F' s' x hi k' e' y Q q => ?_) I h0 (fun i s' s2 hi hI ⟨x, hx, e⟩ => by rw [e]; exact hs i s' x hx hI) (fun s' hI => hd s' (by rw [← hl]; exact hI))⟩
    obtain ⟨rfl, hx⟩ := y
    obtain ⟨sx, es, hsx⟩ := h3.get hx
    exact q F' H'' _ _ (k'.put (IsV.mono e' _ _ hsx)) (Ex.refl F') ⟨sx, es, rfl⟩
theorem q_for {tl : TE} {l : List Sh} {j : Nat} (h : E tl sls (.L l)) (I : Nat → List Sl → Prop) (h0 : I 0 sls) (hs : ∀ i s' x, l[i]? = some x → I i s' → Run tu (s'.set j (.v x)) (I (i + 1)) R (fun s2 => Run tz s2 N R B C) (I (i + 1))) (hd : ∀ s', I l.length s' → Run tz s' N R B C) : Run (tSeq (tFor (iList K tl) (gName j) tu) tz) sls N R B C :=
  run_seq (M := fun s' => Run tz s' N R B C) (run_for h I h0 hs hd) (fun s' h => h)
end
/-! ### a def by shapes -/
section
variable {P : Program} {w : World} {K : PySem.W.Frag} {mg : Str → Option Value} {base : Heap}
theorem slsOk_app {H0 F H : Hp} : ∀ {a b : List Sl} {x y : List (Option V)}, SlsOk H0 F H a x → SlsOk H0 F H b y → SlsOk H0 F H (a ++ b) (x ++ y)
  | [], b, x, y, h, h' => by rw [show x = [] from h]; exact h'
  | s :: a, b, x, y, h, h' => by
    obtain ⟨o, r, rfl, h2, h3⟩ := h
    exact ⟨o, r ++ y, rfl, h2, slsOk_app h3 h'⟩
theorem slsOk_vals {H0 F H : Hp} : ∀ {ss : List Sh} {vs : List V}, IsVs F ss vs → SlsOk H0 F H (ss.map Sl.v) (vs.map some)
  | [], vs, h => by rw [show vs = [] from h]; rfl
  | s :: ss, vs, h => by
    obtain ⟨v, r, rfl, h2, h3⟩ := h
    exact ⟨some v, r.map some, rfl, ⟨v, rfl, h2⟩, slsOk_vals h3⟩
theorem slsOk_x {H0 F H : Hp} : ∀ n : Nat, SlsOk H0 F H (List.replicate n Sl.x) (List.replicate n none)
  | 0 => rfl
  | n + 1 => ⟨none, List.replicate n none, rfl, trivial, slsOk_x n⟩
theorem start_ok {N : List Str} {F H : Hp} {ss : List Sh} {vs : List V} (e : Fx F H) (h : IsVs F ss vs) : Ok F H F H (L2.start N vs) ((ss.map Sl.v) ++ List.replicate (N.length - ss.length) Sl.x) := by
  refine ⟨e, Grow.refl e, ?_, fun i j l l' a h1 _ _ _ => ?_⟩
  · unfold L2.start
    rw [h.len]
    exact slsOk_app (slsOk_vals h) (slsOk_x _)
  · exfalso
    have hm := List.mem_of_getElem? h1
    rcases List.mem_append.mp hm with hm | hm
    · obtain ⟨s, _, e⟩ := List.mem_map.mp hm
      cases e
    · have e := List.eq_of_mem_replicate hm
      cases e
/-- a def hands back r for ss -/
theorem fn_pure {x qual : Str} {st : Stmt} {f : Addr} {fd : FuncData} {N ps : List Str} {k : Nat} {R : List Sh → Sh → Prop} (F : Fun K x qual st f fd) (S : FnScope N ps (defScope st)) (len : ∀ ss r, R ss r → ss.length = ps.length)
    (hbody : ∀ (cdv : Value) (A : Around) (outer : List Env) (s : Shared) (H : Hp) (E : XK), Room k (A.deeper (envOfC qual (defScope st) s.heap.objs.size f cdv)) →
      ∃ t, PSs (cxOf CX0 P w K mg base N qual (defScope st) f cdv A outer s H E).nox (defBody st) t ∧ ∀ ss r, R ss r → Run t ((ss.map Sl.v) ++ List.replicate (N.length - ss.length) Sl.x) (fun _ => r = .n) (fun _ s => s = r)) : FnOk P w K mg base CX0 (k + 1) f fd ps (spP R) := by
  refine F.ok S (fun vs H Q E h => ?_) (fun cdv A outer s H vs Q E hr h => ?_)
  · obtain ⟨F, ss, r, _, h2, h3, _⟩ := h
    rw [h2.len, len ss r h3]
  · obtain ⟨F1, ss, r, h1, h2, h3, q⟩ := h
    obtain ⟨t, d, hrun⟩ := hbody cdv A outer s H E hr
    refine ⟨t, d, hrun ss r h3 F1 H F1 H _ (start_ok h1 h2) _ (fun F' H' σ' s' k' _ e => ?_) (fun v F' H' σ' s' s k' i e => q v F' H' k'.g (by rw [← e]; exact i)) (fun _ _ _ _ _ _ z => z.elim) (fun _ _ _ _ _ _ z => z.elim)⟩
    exact q .non F' H' k'.g (by rw [e]; rfl)
end
end Py
/-! Shapes: comprehensions, walks, lists that change. -/
namespace Py
open PySem PySem.Spec PyProof.Rows L2
open Evl (Ex ex_l ex_t sq_of st_of sz_of sz_lt)
def givenS (n : Nat) (p : Nat → Bool) (val : Nat → Sh) : List Sh := ((List.range n).filter p).map val
theorem givenS_yes {n : Nat} {p : Nat → Bool} {val : Nat → Sh} (h : p n = true) : givenS (n + 1) p val = givenS n p val ++ [val n] := by
  unfold givenS
  rw [List.range_succ, List.filter_append, List.map_append, List.filter_cons, if_pos h] <;> rfl
theorem givenS_no {n : Nat} {p : Nat → Bool} {val : Nat → Sh} (h : p n = false) : givenS (n + 1) p val = givenS n p val := by
  unfold givenS
  rw [List.range_succ, List.filter_append, List.map_append, List.filter_cons, if_neg (by rw [h]; decide)]
  show _ ++ [] = _
  rw [List.append_nil]
theorem givenS_len (n : Nat) (p : Nat → Bool) (val : Nat → Sh) : (givenS n p val).length ≤ n := by
  unfold givenS
  rw [List.length_map]
  have h := List.length_filter_le p (List.range n)
  rw [List.length_range] at h
  exact h
theorem givenS_all (n : Nat) (val : Nat → Sh) : givenS n (fun _ => true) val = (List.range n).map val := by
  unfold givenS
  rw [List.filter_eq_self.mpr fun _ _ => rfl]
/-- what nobody holds still may change -/
theorem Grow.mut {F H F' H' : Hp} {D : Addr} {o : HO} (g : Grow F H F' H') (h : H D = none) (hF : F' D = none) (n : nTab (H' D)) : Grow F H F' (upd H' D o) where
  ff := g.ff
  fh := g.fh.upd n hF
  hh := fun a u e => by
    have ne : a ≠ D := fun c => by rw [c, h] at e; cases e
    have e1 := g.hh a u e
    cases u with
    | tbl ps =>
      obtain ⟨ps', e2⟩ := e1
      exact ⟨ps', by rw [upd_ne ne]; exact e2⟩
    | _ =>
      show upd H' D o a = _
      rw [upd_ne ne]; exact e1
  new := g.new
section
variable {K : PySem.W.Frag} {sls slsw : List Sl} {te : TE} {tt : TT} {s : Sh}
theorem Ok.putX {F0 H0 F H : Hp} {σ : L2.St} {i : Nat} {o : Option V} (k : Ok F0 H0 F H σ sls) : Ok F0 H0 F H (σ.set i o) (sls.set i .x) := ⟨k.e0, k.g, k.st.set i trivial, k.ap.put fun l h => by cases h⟩
theorem lc_run {J : It} {n : Nat} {G : Hp → Prop} {Y : Nat → Hp → V → Hp → Prop} (w : Walk J n G Y) {g : TG} {vs : List Nat} {σ : L2.St} {F0 H0 F1 H1 : Hp} (k : Ok F0 H0 F1 H1 (wipe σ vs) slsw) (hG : ∀ F' H', Ex F1 F' → Fx F' H' → G H') {D : Addr} (hD : H1 D = none)
    (P : Nat → List Sl → Prop)
    (hY : ∀ i H' H'' F' x, i < n → Ex F1 F' → Ok F0 H0 F' H' (wipe σ vs) slsw → Y i H' x H'' → ∀ Q : L2.St → Hp → Prop, (∀ F2 H2 σ2 s2, Grow F' H' F2 H2 → Ok F0 H0 F2 H2 σ2 s2 → wipe σ2 vs = wipe σ vs → P i s2 → Q σ2 H2) → g x (wipe σ vs) H'' Q)
    (p : Nat → Bool) (val : Nat → Sh) (ht : ∀ i s2, i < n → P i s2 → ET tt s2 (p i)) (he : ∀ i s2, i < n → P i s2 → p i = true → E te s2 (val i)) (hn : n ≤ 40000) {Qd : Hp → Prop}
    (q : ∀ F' H' acc, Grow F1 H1 F' H' → F' D = none → H' D = some (.lst acc) → IsVs F' (givenS n p val) acc → Qd H') :
    ∃ W : Nat → Nat → Hp → Prop, (∃ m, W 0 m (upd H1 D (.lst []))) ∧ ∀ i m H, W i m H →
      (J.stop i H ∧ Qd H) ∨ (J.go i H ∧ ∃ Nx : Hp → Prop, (∀ H', Nx H' → ∃ m', m' < m ∧ W (i + 1) m' H') ∧ ∀ x H', J.yld i H x H' → g x (wipe σ vs) H' fun σ2 H2 => wipe σ2 vs = wipe σ vs ∧ tt σ2 H2 fun b H3 =>
        if b = true then te σ2 H3 fun y H4 => ∃ acc, H4 D = some (.lst acc) ∧ acc.length < sizeLine ∧ Nx (upd H4 D (.lst (acc ++ [y]))) else Nx H3) := by
  have noD : ∀ (i : Nat) (l : List Sh), slsw[i]? = some (Sl.own l) → (wipe σ vs)[i]? ≠ some (some (V.ref D)) := fun i l e z => by
    obtain ⟨a, ws, e1, _, _, e4, _⟩ := e_own_raw e k
    rw [e1] at z
    have : a = D := by injection (Option.some.inj (Option.some.inj z))
    rw [this, hD] at e4
    cases e4
  have okD : ∀ F' H' o wl, Grow F1 H1 F' H' → F' D = none → H' D = some (.lst wl) → Ok F0 H0 F' H' (wipe σ vs) slsw → Ok F0 H0 F' (upd H' D o) (wipe σ vs) slsw := fun F' H' o wl g hF hDl k' => by
    refine ⟨k'.e0, k'.g.mut (k.g.hh.back hD) hF (by rw [hDl]; trivial), ?_, k'.ap⟩
    have st := k'.st
    -- each slot keeps
    have gen : ∀ (ss : List Sl) (ρ : List (Option V)), (∀ (i : Nat) l, ss[i]? = some (.own l) → ρ[i]? ≠ some (some (V.ref D))) → SlsOk H0 F' H' ss ρ → SlsOk H0 F' (upd H' D o) ss ρ := by
      intro ss
      induction ss with
      | nil => intro ρ _ h; exact h
      | cons t ss ih =>
        intro ρ hno h
        obtain ⟨ov, r, rfl, h2, h3⟩ := h
        refine ⟨ov, r, rfl, ?_, ih r (fun i l e z => hno (i + 1) l (by simpa using e) (by simpa using z)) h3⟩
        cases t with
        | x => trivial
        | v s => exact h2
        | own l =>
          obtain ⟨a, ws, e1, e2, e3, e4, e5⟩ := h2
          refine ⟨a, ws, e1, e2, e3, ?_, e5⟩
          rw [upd_ne fun z => hno 0 l rfl (by rw [e1, z]; rfl)]
          exact e4
        | dic l =>
          obtain ⟨a, kvs, e1, e2, e3, e4, e5⟩ := h2
          refine ⟨a, kvs, e1, e2, e3, ?_, e5⟩
          rw [upd_ne fun z => by rw [z, hDl] at e4; cases e4]
          exact e4
        | ob a C p q =>
          obtain ⟨dx, v1, v2, e1, e2, e3, e4, e5, e6⟩ := h2
          refine ⟨dx, v1, v2, e1, e2, e3, ?_, e5, e6⟩
          rw [upd_ne fun z => by rw [z, hDl] at e4; cases e4]
          exact e4
    exact gen slsw _ noD st
  refine lc_it w (fun i H' => ∃ F', Grow F1 H1 F' H' ∧ F' D = none ∧ Ok F0 H0 F' H' (wipe σ vs) slsw ∧ ∃ acc, H' D = some (.lst acc) ∧ IsVs F' (givenS i p val) acc) ?_ (fun i H' _ ⟨F', g', _, k', _⟩ => hG F' H' g'.ff k'.fh) ?_ (fun H' ⟨F', g', hF, k', acc, h1, h2⟩ => q F' H' acc g' hF h1 h2)
  · have g0 : Grow F1 H1 F1 (upd H1 D (.lst [])) := Grow.layO k.fh hD
    exact ⟨F1, g0, k.fh.back hD, k.grow g0, [], upd_same, rfl⟩
  · rintro i x H' H'' hi ⟨F', g', hF, k', acc, h1, h2⟩ y
    refine hY i H' H'' F' x hi g'.ff k' y _ fun F2 H2 σ2 s2 g2 k2 hw hP => ⟨hw, ?_⟩
    have fD : ∀ {F2 H2 : Hp}, Grow F' H' F2 H2 → F2 D = none := fun {F2 H2} g2 => none_of_not fun hn => by
      rcases g2.new D hn with z | z
      · exact z hF
      · rw [h1] at z; cases z
    refine ht i s2 hi hP F0 H0 F2 H2 σ2 k2 _ fun F3 H3 g3 => ?_
    have g23 := g2.trans g3
    cases hp : p i with
    | false =>
      show ∃ F', _
      refine ⟨F3, g'.trans g23, fD g23, k'.grow g23, acc, g23.hh _ _ h1, ?_⟩
      rw [givenS_no hp]
      exact IsVs.mono g23.ff _ _ h2
    | true =>
      show te σ2 H3 _
      refine he i s2 hi hP hp F0 H0 F3 H3 σ2 (k2.grow g3) _ fun y F4 H4 g4 h4 => ?_
      have g24 := g23.trans g4
      have hF4 := fD g24
      refine ⟨acc, g24.hh _ _ h1, sz_lt (by rw [h2.len]; have := givenS_len i p val; omega), F4, (g'.trans g24).mut hD hF4 (by rw [show H4 D = some (.lst acc) from g24.hh _ _ h1]; trivial), hF4, okD F4 H4 _ acc (g'.trans g24) hF4 (g24.hh _ _ h1) (k'.grow g24), acc ++ [y], upd_same, ?_⟩
      rw [givenS_yes hp]
      exact (IsVs.mono g24.ff _ _ h2).append (IsVs.cons h4 IsVs.nil)
theorem wipe1 {σ : L2.St} {j : Nat} {o : Option V} : wipe ((wipe σ [j]).set j o) [j] = wipe σ [j] := by
  show ((σ.set j none).set j o).set j none = σ.set j none
  rw [List.set_set, List.set_set]
theorem wipe2 {σ : L2.St} {i j : Nat} {o o' : Option V} (h : i ≠ j) : wipe (((wipe σ [i, j]).set i o).set j o') [i, j] = wipe σ [i, j] := by
  show (((((σ.set j none).set i none).set i o).set j o').set j none).set i none = (σ.set j none).set i none
  rw [List.set_set, List.set_set, List.set_comm _ _ (Ne.symm h), List.set_set, List.set_comm _ _ h, List.set_set]
theorem et_yes : ET tYes sls true := fun F0 H0 F H σ k Q q => q F H (Grow.refl k.fh)
/-- [e for x in l if t] -/
theorem en_lcL {tl : TE} {l : List Sh} {j : Nat} (h : E tl sls (.L l)) (p : Nat → Bool) (val : Nat → Sh) (hl : l.length ≤ 40000) (ht : ∀ (i : Nat) x, l[i]? = some x → ET tt (sls.set j (.v x)) (p i)) (he : ∀ (i : Nat) x, l[i]? = some x → p i = true → E te (sls.set j (.v x)) (val i)) :
    EN (tLc (iList K tl) (gName j) tt te [j]) sls (givenS l.length p val) := fun F0 H0 F H σ k Q q =>
  h F0 H0 F H σ k _ fun v F1 H1 g1 h1 => by
    obtain ⟨a, vs, rfl, h2, h3⟩ := h1
    have hlen := h3.len
    refine ⟨a, rfl, ⟨vs, sq_of (g1.fh _ _ h2)⟩, fun D hD => lc_run (walk_list (xs := vs)) (σ := σ) (vs := [j]) (slsw := sls.set j .x) ((k.grow g1).putX) (fun F' H' e e' => sq_of (e' _ _ (e _ _ h2))) hD (fun i s2 => ∃ x, l[i]? = some x ∧ s2 = sls.set j (.v x)) (fun i H' H'' F' x hi e' k' y Q q => ?_) p val (fun i s2 hi ⟨x, hx, e⟩ => by rw [e]; exact ht i x hx) (fun i s2 hi ⟨x, hx, e⟩ hp => by rw [e]; exact he i x hx hp) (by rw [hlen]; exact hl) (fun F' H' acc g' h4 h5 h6 => q D acc F' H' (g1.trans g') (g1.hh.back hD) h4 h5 (by rw [← hlen]; exact h6))⟩
    obtain ⟨rfl, hx⟩ := y
    obtain ⟨sx, es, hsx⟩ := h3.get hx
    refine q F' H'' _ _ (Grow.refl k'.fh) (k'.put (i := j) (IsV.mono e' _ _ hsx)) wipe1 ⟨sx, es, ?_⟩
    rw [List.set_set]
/-- over ints, all of them, ints made -/
theorem en_lcI {tl : TE} {ns : List Int} {j : Nat} (h : E tl sls (li ns)) (f : Int → Sh) (hl : ns.length ≤ 40000) (he : ∀ c, c ∈ ns → E te (sls.set j (.v (.i c))) (f c)) : EN (tLc (iList K tl) (gName j) tYes te [j]) sls (ns.map f) := by
  have h0 := en_lcL (tt := tYes) (te := te) (K := K) (j := j) h (fun _ => true) (fun i => f (ns.getD i 0)) (by rw [List.length_map]; exact hl) (fun i x _ => et_yes) (fun i x hx _ => by
    rw [List.getElem?_map] at hx
    cases e : ns[i]? with
    | none => rw [e] at hx; cases hx
    | some c =>
      rw [e] at hx
      rw [← Option.some.inj hx, List.getD_eq_getElem?_getD, e]
      exact he c (List.mem_of_getElem? e))
  rw [givenS_all, List.length_map] at h0
  have e : (List.range ns.length).map (fun i => f (ns.getD i 0)) = ns.map f := by
    apply List.ext_getElem?
    intro i
    rw [List.getElem?_map, List.getElem?_map]
    by_cases hi : i < ns.length
    · rw [List.getElem?_range hi, List.getElem?_eq_getElem hi, Option.map_some, Option.map_some, List.getD_eq_getElem?_getD, List.getElem?_eq_getElem hi]; rfl
    · rw [List.getElem?_eq_none (by simpa using hi), List.getElem?_eq_none (by omega)]; rfl
  rw [e] at h0
  exact h0
/-- [e for k in range(n)] -/
theorem en_lcR {ta : TA} {n : Int} {j : Nat} (h : EA ta sls [.i n]) (val : Nat → Sh) (hn : n ≤ 40000) (h0 : -1000 ≤ n) (he : ∀ i : Nat, (i : Int) < n → E te (sls.set j (.v (.i (i : Int)))) (val i)) : EN (tLc (iRng1 ta) (gName j) tYes te [j]) sls ((List.range n.toNat).map val) := fun F0 H0 F H σ k Q q =>
  h F0 H0 F H σ k _ fun vs F1 H1 g1 h1 => by
    obtain ⟨v, r, rfl, hv, hr⟩ := h1
    obtain rfl : v = .int n := hv
    obtain rfl : r = [] := hr
    refine ⟨n, rfl, by omega, by omega, fun D hD => lc_run walk_range (σ := σ) (vs := [j]) (slsw := sls.set j .x) ((k.grow g1).putX) (fun _ _ _ _ => trivial) hD (fun i s2 => s2 = sls.set j (.v (.i (i : Int)))) (fun i H' H'' F' x hi e' k' y Q q => ?_) (fun _ => true) val (fun i s2 hi e => et_yes) (fun i s2 hi e _ => by rw [e]; exact he i (by omega)) (by omega) (fun F' H' acc g' h4 h5 h6 => q D acc F' H' (g1.trans g') (g1.hh.back hD) h4 h5 (by rw [← givenS_all]; exact h6))⟩
    obtain ⟨rfl, rfl⟩ := y
    refine q F' H'' _ _ (Grow.refl k'.fh) (k'.put (i := j) (s := .i (i : Int)) ?_) wipe1 (by rw [List.set_set])
    show V.int _ = V.int _
    congr 1
    omega
theorem pair_target {F0 H0 F H : Hp} {σ : L2.St} {i j : Nat} {T : Addr} {x y : V} {sx sy : Sh} (k : Ok F0 H0 F H σ sls) (hT : H T = none) (hx : IsV F sx x) (hy : IsV F sy y) {Q : L2.St → Hp → Prop}
    (q : Grow F H (upd F T (.tup [x, y])) (upd H T (.tup [x, y])) → Ok F0 H0 (upd F T (.tup [x, y])) (upd H T (.tup [x, y])) ((σ.set i (some x)).set j (some y)) ((sls.set i (.v sx)).set j (.v sy)) → Q ((σ.set i (some x)).set j (some y)) (upd H T (.tup [x, y]))) :
    gTup K 2 (gCons (gName i) (gCons (gName j) gNil)) (.ref T) σ (upd H T (.tup [x, y])) Q := by
  have g := Grow.lay (o := .tup [x, y]) k.fh hT
  refine ⟨T, [x, y], rfl, st_of upd_same, rfl, x, [y], rfl, y, [], rfl, rfl, ?_⟩
  exact q g (((k.grow g).put (IsV.mono g.ff _ _ hx)).put (IsV.mono g.ff _ _ hy))
theorem set2 {A : Type} {l : List A} {i j : Nat} {a b c d : A} (h : i ≠ j) : (((l.set j a).set i b).set i c).set j d = (l.set i c).set j d := by
  rw [List.set_set, List.set_comm _ _ (Ne.symm h), List.set_set]
/-- [e for a, b in zip(l, m)] -/
theorem en_lcZ {ta : TA} {l m : List Sh} {i j : Nat} (hij : i ≠ j) (h : EA ta sls [.L l, .L m]) (val : Nat → Sh) (hl : min l.length m.length ≤ 40000) (he : ∀ (n : Nat) x y, l[n]? = some x → m[n]? = some y → E te ((sls.set i (.v x)).set j (.v y)) (val n)) :
    EN (tLc (iZip K ta) (gTup K 2 (gCons (gName i) (gCons (gName j) gNil))) tYes te [i, j]) sls ((List.range (min l.length m.length)).map val) := fun F0 H0 F H σ k Q q =>
  h F0 H0 F H σ k _ fun vs F1 H1 g1 h1 => by
    obtain ⟨v1, r, rfl, hv1, v2, r', rfl, hv2, hr⟩ := h1
    obtain rfl : r' = [] := hr
    obtain ⟨a, xs, rfl, h2, h3⟩ := hv1
    obtain ⟨b, ys, rfl, h4, h5⟩ := hv2
    have l1 := h3.len
    have l2 := h5.len
    refine ⟨a, b, xs, ys, rfl, sq_of (g1.fh _ _ h2), sq_of (g1.fh _ _ h4), fun D hD => lc_run (walk_zip (xs := xs) (ys := ys) rfl) (σ := σ) (vs := [i, j]) (slsw := (sls.set j .x).set i .x) (((k.grow g1).putX).putX) (fun F' H' e e' => ⟨sq_of (e' _ _ (e _ _ h2)), sq_of (e' _ _ (e _ _ h4))⟩) hD (fun n s2 => ∃ x y, l[n]? = some x ∧ m[n]? = some y ∧ s2 = (sls.set i (.v x)).set j (.v y)) (fun n H' H'' F' x hi e' k' y Q q => ?_) (fun _ => true) val (fun n s2 hi _ => et_yes) (fun n s2 hi ⟨x, y, hx, hy, e⟩ _ => by rw [e]; exact he n x y hx hy) (by rw [l1, l2]; exact hl) (fun F' H' acc g' h4 h5 h6 => q D acc F' H' (g1.trans g') (g1.hh.back hD) h4 h5 (by rw [← givenS_all, ← l1, ← l2]; exact h6))⟩
    obtain ⟨T, x1, y1, rfl, hT, rfl, ex, ey⟩ := y
    obtain ⟨sx, es, hsx⟩ := h3.get ex
    obtain ⟨sy, es', hsy⟩ := h5.get ey
    refine pair_target k' hT (IsV.mono e' _ _ hsx) (IsV.mono e' _ _ hsy) fun g k2 => q _ _ _ _ g k2 (wipe2 hij) ⟨sx, sy, es, es', ?_⟩
    exact set2 hij
/-- [e for k, x in enumerate(l)] -/
theorem en_lcE {ta : TA} {l : List Sh} {i j : Nat} (hij : i ≠ j) (h : EA ta sls [.L l]) (val : Nat → Sh) (hl : l.length ≤ 40000) (he : ∀ (n : Nat) x, l[n]? = some x → E te ((sls.set i (.v (.i (n : Int)))).set j (.v x)) (val n)) :
    EN (tLc (iEnum K ta) (gTup K 2 (gCons (gName i) (gCons (gName j) gNil))) tYes te [i, j]) sls ((List.range l.length).map val) := fun F0 H0 F H σ k Q q =>
  h F0 H0 F H σ k _ fun vs F1 H1 g1 h1 => by
    obtain ⟨v1, r, rfl, hv1, hr⟩ := h1
    obtain rfl : r = [] := hr
    obtain ⟨a, xs, rfl, h2, h3⟩ := hv1
    have l1 := h3.len
    refine ⟨a, xs, rfl, sq_of (g1.fh _ _ h2), fun D hD => lc_run (walk_enum (xs := xs)) (σ := σ) (vs := [i, j]) (slsw := (sls.set j .x).set i .x) (((k.grow g1).putX).putX) (fun F' H' e e' => sq_of (e' _ _ (e _ _ h2))) hD (fun n s2 => ∃ x, l[n]? = some x ∧ s2 = (sls.set i (.v (.i (n : Int)))).set j (.v x)) (fun n H' H'' F' x hi e' k' y Q q => ?_) (fun _ => true) val (fun n s2 hi _ => et_yes) (fun n s2 hi ⟨x, hx, e⟩ _ => by rw [e]; exact he n x hx) (by rw [l1]; exact hl) (fun F' H' acc g' h4 h5 h6 => q D acc F' H' (g1.trans g') (g1.hh.back hD) h4 h5 (by rw [← givenS_all, ← l1]; exact h6))⟩
    obtain ⟨T, x1, y1, rfl, hT, rfl, ex, ey⟩ := y
    obtain ⟨sy, es', hsy⟩ := h3.get ey
    have ex' : x1 = .int (n : Int) := (Option.some.inj ex).symm
    refine pair_target (sx := .i (n : Int)) k' hT ex' (IsV.mono e' _ _ hsy) fun g k2 => q _ _ _ _ g k2 (wipe2 hij) ⟨sy, es', set2 hij⟩
end
end Py
/-! Shapes: great ints; own lists read, changed, lent, frozen; loops over ranges and pairs. -/
namespace Py
open PySem PySem.Spec PyProof.Rows L2
open Evl (Ex ex_l ex_t sq_of st_of sz_of sz_lt)
/-! ### ints -/
/-- // by a divisor that isn't 0, below 2 ^ 9000 -/
def CDivZ (_ j : Int) : Prop := j ≠ 0 ∧ j.natAbs.log2 < 9000
section
variable {X : Cx}
theorem op_fdivZ : OpR X (binaryOp .FloorDiv) (rI CDivZ fun i j => .int (i.fdiv j)) := opI fun i j _ _ _ _ _ hc q => floordiv_int hc.1 q (.inl (PyProof.noPylong_of_log2 hc.2))
theorem get_list : PGet X (rIxL X.K) := by
  intro pins s σ H x y v u Q I rx ry h
  obtain ⟨p, xs, i, z, rfl, rfl, hq, he, q⟩ := h
  cases rx
  obtain ⟨t, rfl⟩ := ry
  obtain ⟨its, r, pl, hz⟩ := I.list hq
  obtain ⟨j, h1, h2, h3, h4, h5⟩ := atI_get he
  obtain ⟨w, ew, rw'⟩ := r.get h2
  have hl := r.length
  have hn := line63
  have fin : EP X pins σ Q w s := ⟨z, H, I, rw', q⟩
  by_cases h0 : 0 ≤ i
  · have hj : i.toNat = j := by
      rw [seqIndex_of h0 h5] at h1
      exact Option.some.inj h1
    exact wpAny_getItem_list pl.isList h0 (by omega) (by rw [hj]; simpa using ew) fin
  · have hj : (i + (its.toArray.size : Int)).toNat = j := by
      rw [seqIndex_neg (by omega) h4] at h1
      rw [List.size_toArray, ← hl]
      exact Option.some.inj h1
    exact wpAny_getItem_list_neg pl.isList (by omega) (by rw [List.size_toArray] <;> omega) (by omega) (by rw [hj]; simpa using ew) fin
end
section
variable {X : Cx}
/-- (x, y) = .. , two names -/
theorem pg_pair {i j : Nat} {x y : Str} {p1 p2 pos : Pos} {k : Nat} (hc : X.calm = true) (hN : X.N.Nodup) (hi : X.N[i]? = some x) (hx : Loc X.env.scope x) (hj : X.N[j]? = some y) (hy : Loc X.env.scope y)
    (hf : X.fn x = true ∨ X.env.scope.names.lookup x = some .local := by first | exact .inl rfl | exact .inr rfl | assumption) (hf2 : X.fn y = true ∨ X.env.scope.names.lookup y = some .local := by first | exact .inl rfl | exact .inr rfl | assumption) :
    PG X (.Tuple [.Name x p1, .Name y p2] k pos) (gTup X.K 2 (gCons (gName i) (gCons (gName j) gNil))) := pg_tup hc (pgs_cons (pg_name hN hi hx hf) (pgs_cons (pg_name hN hj hy hf2) pgs_nil))
end
section
variable {K : PySem.W.Frag} {sls : List Sl} {ta tb te : TE} {s s' : Sh} {a b c : Int}
theorem e_fdiv (ha : E ta sls (.i a)) (hb : E tb sls (.i b)) (hc : b ≠ 0) (hz : b.natAbs.log2 < 9000) : E (tOp (rI CDivZ fun i j => .int (i.fdiv j)) ta tb) sls (.i (a.fdiv b)) := e_I ha hb ⟨hc, hz⟩ fun _ => rfl
theorem e_mod (ha : E ta sls (.i a)) (hb : E tb sls (.i b)) (hc : b ≠ 0) : E (tOp (rI (fun _ j => j ≠ 0) fun i j => .int (i.fmod j)) ta tb) sls (.i (a.fmod b)) := e_I ha hb hc fun _ => rfl
theorem e_mul (ha : E ta sls (.i a)) (hb : E tb sls (.i b)) (hc : a.natAbs.log2 + b.natAbs.log2 < 1000000) : E (tOp (rI CMulW fun i j => .int (i * j)) ta tb) sls (.i (a * b)) := e_I ha hb hc fun _ => rfl
theorem e_andV {x y : Bool} (h1 : E ta sls (.b x)) (h2 : x = true → E tb sls (.b y)) : E (tAndV ta tb) sls (.b (x && y)) := fun F0 H0 F H σ k Q q =>
  h1 F0 H0 F H σ k _ fun v F1 H1 g1 h3 => ⟨x, h3, by
    cases x with
    | true =>
      show tb σ H1 Q
      exact h2 rfl F0 H0 F1 H1 σ (k.grow g1) Q fun v F2 H2 g2 h4 => q v F2 H2 (g1.trans g2) h4
    | false =>
      show Q (.bl false) H1
      exact q _ F1 H1 g1 rfl⟩
theorem e_orV {x y : Bool} (h1 : E ta sls (.b x)) (h2 : x = false → E tb sls (.b y)) : E (tOrV ta tb) sls (.b (x || y)) := fun F0 H0 F H σ k Q q =>
  h1 F0 H0 F H σ k _ fun v F1 H1 g1 h3 => ⟨x, h3, by
    cases x with
    | true =>
      show Q (.bl true) H1
      exact q _ F1 H1 g1 rfl
    | false =>
      show tb σ H1 Q
      exact h2 rfl F0 H0 F1 H1 σ (k.grow g1) Q fun v F2 H2 g2 h4 => q v F2 H2 (g1.trans g2) h4⟩
theorem e_notV {x : Bool} (h1 : E ta sls (.b x)) : E (tNotV ta) sls (.b (!x)) := fun F0 H0 F H σ k Q q =>
  h1 F0 H0 F H σ k _ fun v F1 H1 g1 h3 => ⟨x, h3, q _ F1 H1 g1 rfl⟩
theorem e_ifE {t : TT} {x : Bool} (h : ET t sls x) (h1 : x = true → E ta sls s) (h2 : x = false → E tb sls s) : E (tIf t ta tb) sls s := fun F0 H0 F H σ k Q q =>
  h F0 H0 F H σ k _ fun F1 H1 g1 => by
    cases x with
    | true =>
      show ta σ H1 Q
      exact h1 rfl F0 H0 F1 H1 σ (k.grow g1) Q fun v F2 H2 g2 h4 => q v F2 H2 (g1.trans g2) h4
    | false =>
      show tb σ H1 Q
      exact h2 rfl F0 H0 F1 H1 σ (k.grow g1) Q fun v F2 H2 g2 h4 => q v F2 H2 (g1.trans g2) h4
/-! ### lists to be read, own or still -/
def EL (te : TE) (sls : List Sl) (l : List Sh) : Prop := ∀ F0 H0 F H σ, Ok F0 H0 F H σ sls → ∀ Q : VK, (∀ a vs F' H', Grow F H F' H' → H' a = some (.lst vs) → IsVs F' l vs → Q (.ref a) H') → te σ H Q
theorem E.el {l : List Sh} (h : E te sls (.L l)) : EL te sls l := fun F0 H0 F H σ k Q q => h F0 H0 F H σ k Q fun v F' H' g h1 => by
  obtain ⟨a, vs, rfl, h2, h3⟩ := h1
  exact q a vs F' H' g (g.fh _ _ h2) h3
theorem EN.el {l : List Sh} (h : EN te sls l) : EL te sls l := fun F0 H0 F H σ k Q q => h F0 H0 F H σ k Q fun a vs F' H' g _ _ h3 h4 => q a vs F' H' g h3 h4
theorem el_own {i : Nat} {l : List Sh} (h : sls[i]? = some (.own l)) : EL (tVar i) sls l := fun F0 H0 F H σ k Q q => by
  obtain ⟨a, vs, e, _, _, h3, h4⟩ := e_own_raw h k
  exact ⟨_, e, q a vs F H (Grow.refl k.fh) h3 h4⟩
theorem e_lenO {l : List Sh} (h : EL te sls l) : E (tCB (Evl.rLenS K) (tCons te tNil)) sls (.i l.length) := fun F0 H0 F H σ k Q q =>
  h F0 H0 F H σ k _ fun p vs F1 H1 g1 h2 h3 => ⟨p, vs, rfl, Or.inl (sq_of h2), q _ F1 H1 g1 (by show V.int _ = V.int _; rw [h3.len])⟩
theorem e_ixO {l : List Sh} {t : Sh} (ha : EL ta sls l) (hb : E tb sls (.i a)) (h : atI l a = some t) : E (tOp (rIxL K) ta tb) sls t := fun F0 H0 F H σ k Q q =>
  ha F0 H0 F H σ k _ fun p vs F1 H1 g1 h2 h3 => hb F0 H0 F1 H1 σ (k.grow g1) _ fun y F2 H2 g2 h4 => by
    obtain rfl : y = .int a := h4
    obtain ⟨v, h5, h6⟩ := atI_sh h3 h
    exact ⟨p, vs, a, v, rfl, rfl, sq_of (g2.hh _ _ h2), h5, q v F2 H2 (g1.trans g2) (IsV.mono g2.ff _ _ h6)⟩
theorem en_slO {tl th : TO} {l : List Sh} {lo hi : Option Int} (h : EL te sls l) (h1 : EO tl sls lo) (h2 : EO th sls hi) : EN (tSl (rSlL K) te tl th) sls (cutS l lo hi) := fun F0 H0 F H σ k Q q =>
  h F0 H0 F H σ k _ fun p vs F1 H1 g1 e1 e2 => h1 F0 H0 F1 H1 σ (k.grow g1) _ fun F2 H2 g2 => h2 F0 H0 F2 H2 σ ((k.grow g1).grow g2) _ fun F3 H3 g3 => by
    have g := (g1.trans g2).trans g3
    exact ⟨p, vs, rfl, sq_of (g3.hh _ _ (g2.hh _ _ e1)), fun r hr => q r _ F3 _ (g.trans (Grow.layO g.fh hr)) (g.hh.back hr) (g.fh.back hr) upd_same (IsVs.mono (g2.ff.trans g3.ff) _ _ (e2.cut lo hi))⟩
theorem en_catO {l m : List Sh} (ha : EL ta sls l) (hb : EL tb sls m) (hz : l.length + m.length ≤ 100000) : EN (tOp rCat ta tb) sls (l ++ m) := fun F0 H0 F H σ k Q q =>
  ha F0 H0 F H σ k _ fun p vs F1 H1 g1 h2 h3 => hb F0 H0 F1 H1 σ (k.grow g1) _ fun p' ws F2 H2 g2 h5 h6 => by
    have g := g1.trans g2
    exact ⟨p, p', vs, ws, rfl, rfl, g2.hh _ _ h2, h5, sz_of (by rw [h3.len, h6.len]; exact hz), fun r hr => q r _ F2 _ (g.trans (Grow.layO g.fh hr)) (g.hh.back hr) (g.fh.back hr) upd_same ((IsVs.mono g2.ff _ _ h3).append h6)⟩
theorem isVs_rep {F : Hp} {l : List Sh} {vs : List V} (h : IsVs F l vs) : ∀ n : Nat, IsVs F (List.replicate n l).flatten (List.replicate n vs).flatten
  | 0 => rfl
  | n + 1 => by
    rw [List.replicate_succ, List.replicate_succ, List.flatten_cons, List.flatten_cons]
    exact h.append (isVs_rep h n)
theorem en_rep {l : List Sh} (ha : EL ta sls l) (hb : E tb sls (.i a)) (h0 : -1000 ≤ a) (hz : l.length * a.toNat ≤ 100000) (h1 : a ≤ 100000) : EN (tOp rRep ta tb) sls (List.replicate a.toNat l).flatten := fun F0 H0 F H σ k Q q =>
  ha F0 H0 F H σ k _ fun p vs F1 H1 g1 h2 h3 => hb F0 H0 F1 H1 σ (k.grow g1) _ fun y F2 H2 g2 h4 => by
    obtain rfl : y = .int a := h4
    have g := g1.trans g2
    exact ⟨p, a, vs, rfl, rfl, g2.hh _ _ h2, by omega, by omega, sz_of (by rw [h3.len]; exact hz), fun r hr => q r _ F2 _ (g.trans (Grow.layO g.fh hr)) (g.hh.back hr) (g.fh.back hr) upd_same (isVs_rep (IsVs.mono g2.ff _ _ h3) _)⟩
theorem rep_one {A : Type} (x : A) : ∀ n : Nat, (List.replicate n [x]).flatten = List.replicate n x
  | 0 => rfl
  | n + 1 => by rw [List.replicate_succ, List.flatten_cons, rep_one x n, List.replicate_succ]; rfl
/-- list(x) -/
theorem en_list {l : List Sh} (h : EL te sls l) : EN (tCB (fun xs H Q => ∃ p ys, xs = [.ref p] ∧ (SqL K H p ys ∨ SqT K H p ys) ∧ ∀ r, H r = none → Q (.ref r) (upd H r (.lst ys))) (tCons te tNil)) sls l := fun F0 H0 F H σ k Q q =>
  h F0 H0 F H σ k _ fun p vs F1 H1 g1 h2 h3 => ⟨p, vs, rfl, Or.inl (sq_of h2), fun r hr => q r _ F1 _ (g1.trans (Grow.layO g1.fh hr)) (g1.hh.back hr) (g1.fh.back hr) upd_same h3⟩
/-! ### a list that is handed in -/
def sq (K : PySem.W.Frag) (P : Addr) (ns : List Int) : Sh := .p fun F v => (∃ a, v = .ref a ∧ SqL K F a (ns.map V.int)) ∧ F P = some (.tbl #[])
theorem sq_mk {F : Hp} {P : Addr} {ns : List Int} {a : Addr} (h : SqL K F a (ns.map V.int)) (hP : F P = some (.tbl #[])) : IsV F (sq K P ns) (.ref a) := ⟨⟨⟨a, rfl, h⟩, hP⟩, fun _ _ e ⟨⟨b, eb, hb⟩, z⟩ => ⟨⟨b, eb, ex_l e hb⟩, e _ _ z⟩⟩
theorem e_lenZ {P : Addr} {ns : List Int} (h : E te sls (sq K P ns)) : E (tCB (Evl.rLenS K) (tCons te tNil)) sls (.i ns.length) := fun F0 H0 F H σ k Q q =>
  h F0 H0 F H σ k _ fun v F1 H1 g1 h1 => by
    obtain ⟨⟨⟨a, rfl, ha⟩, _⟩, _⟩ := h1
    refine ⟨a, _, rfl, Or.inl (fx_l g1.fh ha), q _ F1 H1 g1 ?_⟩
    show V.int _ = V.int _
    rw [List.length_map]
theorem e_ixZ {P : Addr} {ns : List Int} {c : Int} (ha : E ta sls (sq K P ns)) (hb : E tb sls (.i a)) (h : atI ns a = some c) : E (tOp (rIxL K) ta tb) sls (.i c) := e_2 ha hb fun F H x y e h1 h2 Q q => by
  obtain ⟨⟨⟨p, rfl, hp⟩, _⟩, _⟩ := h1
  obtain rfl : y = .int a := h2
  refine ⟨p, _, a, .int c, rfl, rfl, fx_l e hp, ?_, q _ F H (Grow.refl e) rfl⟩
  unfold atI at h ⊢
  rw [List.length_map]
  cases hj : ixN ns.length a with
  | none => rw [hj] at h; cases h
  | some j =>
    rw [hj] at h
    have h2 : ns[j]? = some c := h
    show (ns.map V.int)[j]? = _
    rw [List.getElem?_map, h2]; rfl
theorem en_slZ {tl th : TO} {P : Addr} {ns : List Int} {lo hi : Option Int} (h : E te sls (sq K P ns)) (h1 : EO tl sls lo) (h2 : EO th sls hi) : EN (tSl (rSlL K) te tl th) sls ((cutS ns lo hi).map Sh.i) := fun F0 H0 F H σ k Q q =>
  h F0 H0 F H σ k _ fun v F1 H1 g1 hv => h1 F0 H0 F1 H1 σ (k.grow g1) _ fun F2 H2 g2 => h2 F0 H0 F2 H2 σ ((k.grow g1).grow g2) _ fun F3 H3 g3 => by
    obtain ⟨⟨⟨p, rfl, hp⟩, _⟩, _⟩ := hv
    have g := (g1.trans g2).trans g3
    refine ⟨p, _, rfl, hx_l (g2.hh.trans g3.hh) (fx_l g1.fh hp), fun r hr => q r _ F3 _ (g.trans (Grow.layO g.fh hr)) (g.hh.back hr) (g.fh.back hr) upd_same ?_⟩
    rw [isVs_ints]
    show cutS (ns.map V.int) lo hi = _
    rw [cutS_map]
/-! ### freezing and lending -/
theorem Ok.freeze {F0 H0 F H : Hp} {σ : L2.St} {i : Nat} {l : List Sh} (k : Ok F0 H0 F H σ sls) (h : sls[i]? = some (.own l)) : ∃ a vs, σ[i]? = some (some (.ref a)) ∧ F a = none ∧ H a = some (.lst vs) ∧ Ok F0 H0 (upd F a (.lst vs)) H σ (sls.set i (.v (.L l))) := by
  obtain ⟨a, vs, e, h0, h1, h2, h3⟩ := e_own_raw h k
  refine ⟨a, vs, e, h1, h2, k.e0, ?_, ?_, ?_⟩
  · refine ⟨k.g.ff.trans (Ex.new h1), k.fh.lay h2 trivial, k.g.hh, fun x hx => ?_⟩
    by_cases c : x = a
    · subst c; exact Or.inr h0
    · rw [upd_ne c] at hx; exact k.g.new x hx
  · have ap := k.ap
    have gen : ∀ (ss : List Sl) (ρ : List (Option V)) (n : Nat), ss[n]? = some (.own l) → ρ[n]? = some (some (.ref a)) → (∀ (j : Nat) l', ss[j]? = some (Sl.own l') → ρ[j]? = some (some (V.ref a)) → j = n) → SlsOk H0 F H ss ρ → SlsOk H0 (upd F a (.lst vs)) H (ss.set n (.v (.L l))) ρ := by
      have slot : ∀ (t : Sl) (o : Option V), (∀ l', t = .own l' → o ≠ some (.ref a)) → SlOk H0 F H t o → SlOk H0 (upd F a (.lst vs)) H t o := fun t o hno h => by
        cases t with
        | x => trivial
        | v s => obtain ⟨v, e1, e2⟩ := h; exact ⟨v, e1, IsV.mono (Ex.new h1) _ _ e2⟩
        | own l' =>
          obtain ⟨b, ws, e1, e2, e3, e4, e5⟩ := h
          refine ⟨b, ws, e1, e2, ?_, e4, IsVs.mono (Ex.new h1) _ _ e5⟩
          rw [upd_ne fun z => hno l' rfl (by rw [e1, z])]
          exact e3
        | dic l =>
          obtain ⟨b, kvs, e1, e2, e3, e4, e5, e6⟩ := h
          refine ⟨b, kvs, e1, e2, ?_, e4, e5, IsVs.mono (Ex.new h1) _ _ e6⟩
          rw [upd_ne fun z => by rw [z, h2] at e4; cases e4]
          exact e3
        | ob b C p q =>
          obtain ⟨dx, v1, v2, e1, e2, e3, e4, e5, e6, e7⟩ := h
          refine ⟨dx, v1, v2, e1, e2, ?_, e4, IsV.mono (Ex.new h1) _ _ e5, IsV.mono (Ex.new h1) _ _ e6, Ex.new h1 _ _ e7⟩
          rw [upd_ne fun z => by rw [z, h2] at e4; cases e4]
          exact e3
      have rest : ∀ (ss : List Sl) (ρ : List (Option V)), (∀ (j : Nat) l', ss[j]? = some (Sl.own l') → ρ[j]? ≠ some (some (V.ref a))) → SlsOk H0 F H ss ρ → SlsOk H0 (upd F a (.lst vs)) H ss ρ := by
        intro ss
        induction ss with
        | nil => intro ρ _ h; exact h
        | cons t ss ih =>
          intro ρ hno h
          obtain ⟨o, r, rfl, e2, e3⟩ := h
          exact ⟨o, r, rfl, slot t o (fun l' e => by have := hno 0 l' (by rw [e]; rfl); simpa using this) e2, ih r (fun j l' e => by have := hno (j + 1) l' (by simpa using e); simpa using this) e3⟩
      intro ss
      induction ss with
      | nil => intro ρ n e; simp at e
      | cons t ss ih =>
        intro ρ n e1 e2 e3 h
        obtain ⟨o, r, rfl, e4, e5⟩ := h
        cases n with
        | zero =>
          have et : t = .own l := Option.some.inj e1
          have eo : o = some (.ref a) := Option.some.inj e2
          refine ⟨o, r, rfl, ⟨.ref a, eo, a, vs, rfl, upd_same, IsVs.mono (Ex.new h1) _ _ h3⟩, rest ss r (fun j l' e z => ?_) e5⟩
          have := e3 (j + 1) l' (by simpa using e) (by simpa using z)
          omega
        | succ n =>
          refine ⟨o, r, rfl, slot t o (fun l' e z => ?_) e4, ih r n (by simpa using e1) (by simpa using e2) (fun j l' e z => ?_) e5⟩
          · have := e3 0 l' (by rw [e]; rfl) (by rw [z]; rfl)
            omega
          · have := e3 (j + 1) l' (by simpa using e) (by simpa using z)
            omega
    exact gen sls σ i h e (fun j l' e1 e2 => ap j i l' l a e1 h e2 e) k.st
  · intro p q l1 l2 b e1 e2 e3 e4
    have np : p ≠ i := fun z => by
      rw [z, List.getElem?_set] at e1
      split at e1
      · split at e1
        · cases e1
        · cases e1
      · rename_i hne; exact hne rfl
    have nq : q ≠ i := fun z => by
      rw [z, List.getElem?_set] at e2
      split at e2
      · split at e2
        · cases e2
        · cases e2
      · rename_i hne; exact hne rfl
    rw [List.getElem?_set_ne np.symm] at e1
    rw [List.getElem?_set_ne nq.symm] at e2
    exact k.ap p q l1 l2 b e1 e2 e3 e4
/-- whole numbers, truth values, None -/
def Sc : Sh → Prop
  | .i _ => True
  | .b _ => True
  | .n => True
  | _ => False
theorem Sc.any {F F' : Hp} {s : Sh} {v : V} (h : Sc s) (hv : IsV F s v) : IsV F' s v := by
  cases s with
  | i n => exact hv
  | b x => exact hv
  | n => exact hv
  | L l => exact h.elim
  | T l => exact h.elim
  | o a => exact h.elim
  | p P => exact h.elim
theorem e_lend {i : Nat} {l : List Sh} (h : sls[i]? = some (.own l)) (he : E te (sls.set i (.v (.L l))) s) (hs : Sc s) : E te sls s := fun F0 H0 F H σ k Q q => by
  obtain ⟨a, vs, e, h1, h2, k'⟩ := k.freeze h
  refine he F0 H0 _ H σ k' Q fun v F1 H1 g1 hv => ?_
  refine q v (fun x => if x = a then none else F1 x) H1 ⟨fun x u ex => ?_, fun x u ex => ?_, g1.hh, fun x hx => ?_⟩ (hs.any hv)
  · have c : x ≠ a := fun z => by rw [z, h1] at ex; cases ex
    show (if x = a then none else F1 x) = some u
    rw [if_neg c]
    exact g1.ff x u (by rw [upd_ne c]; exact ex)
  · have ex : (if x = a then none else F1 x) = some u := ex
    by_cases c : x = a
    · rw [if_pos c] at ex; cases ex
    · rw [if_neg c] at ex; exact g1.fh x u ex
  · have hx : (if x = a then none else F1 x) ≠ none := hx
    by_cases c : x = a
    · rw [if_pos c] at hx; exact absurd rfl hx
    · rw [if_neg c] at hx
      rcases g1.new x hx with z | z
      · left; rw [upd_ne c] at z; exact z
      · exact Or.inr z
end
section
variable {K : PySem.W.Frag} {sls : List Sl} {ta tb te : TE} {s : Sh} {N B C : List Sl → Prop} {R : List Sl → Sh → Prop} {tz tu tw : TS} {t : TT}
theorem run_freeze {i : Nat} {l : List Sh} (h : sls[i]? = some (.own l)) (hz : Run tz (sls.set i (.v (.L l))) N R B C) : Run tz sls N R B C := fun F0 H0 F H σ k D d1 d2 d3 d4 => by
  obtain ⟨a, vs, e, h1, h2, k'⟩ := k.freeze h
  have e1 : Ex F (upd F a (.lst vs)) := Ex.new h1
  exact hz F0 H0 _ H σ k' D (fun F' H' σ' s' k' e n => d1 F' H' σ' s' k' (e1.trans e) n) d2 (fun F' H' σ' s' k' e n => d3 F' H' σ' s' k' (e1.trans e) n) (fun F' H' σ' s' k' e n => d4 F' H' σ' s' k' (e1.trans e) n)
/-! ### own lists change -/
theorem Ok.change {F0 H0 F H : Hp} {σ : L2.St} {i : Nat} {l m : List Sh} {a : Addr} {ws : List V} (k : Ok F0 H0 F H σ sls) (h : sls[i]? = some (.own l)) (e : σ[i]? = some (some (.ref a))) (hw : IsVs F m ws) : Ok F0 H0 F (upd H a (.lst ws)) σ (sls.set i (.own m)) := by
  obtain ⟨a', vs, e', h0, h1, h2, h3⟩ := e_own_raw h k
  have ea : a' = a := by
    rw [e] at e'
    injection (Option.some.inj (Option.some.inj e')) with z
    exact z.symm
  subst ea
  refine ⟨k.e0, k.g.mut h0 h1 (by rw [h2]; trivial), ?_, ?_⟩
  · have gen : ∀ (ss : List Sl) (ρ : List (Option V)) (n : Nat), ss[n]? = some (.own l) → ρ[n]? = some (some (.ref a')) → (∀ (j : Nat) l', ss[j]? = some (Sl.own l') → ρ[j]? = some (some (V.ref a')) → j = n) → SlsOk H0 F H ss ρ → SlsOk H0 F (upd H a' (.lst ws)) (ss.set n (.own m)) ρ := by
      have slot : ∀ (t : Sl) (o : Option V), (∀ l', t = .own l' → o ≠ some (.ref a')) → SlOk H0 F H t o → SlOk H0 F (upd H a' (.lst ws)) t o := fun t o hno h => by
        cases t with
        | x => trivial
        | v s => exact h
        | own l' =>
          obtain ⟨b, xs, e1, e2, e3, e4, e5⟩ := h
          refine ⟨b, xs, e1, e2, e3, ?_, e5⟩
          rw [upd_ne fun z => hno l' rfl (by rw [e1, z])]
          exact e4
        | dic l =>
          obtain ⟨b, kvs, e1, e2, e3, e4, e5⟩ := h
          refine ⟨b, kvs, e1, e2, e3, ?_, e5⟩
          rw [upd_ne fun z => by rw [z, h2] at e4; cases e4]
          exact e4
        | ob b C p q =>
          obtain ⟨dx, v1, v2, e1, e2, e3, e4, e5, e6⟩ := h
          refine ⟨dx, v1, v2, e1, e2, e3, ?_, e5, e6⟩
          rw [upd_ne fun z => by rw [z, h2] at e4; cases e4]
          exact e4
      have rest : ∀ (ss : List Sl) (ρ : List (Option V)), (∀ (j : Nat) l', ss[j]? = some (Sl.own l') → ρ[j]? ≠ some (some (V.ref a'))) → SlsOk H0 F H ss ρ → SlsOk H0 F (upd H a' (.lst ws)) ss ρ := by
        intro ss
        induction ss with
        | nil => intro ρ _ h; exact h
        | cons t ss ih =>
          intro ρ hno h
          obtain ⟨o, r, rfl, e2, e3⟩ := h
          exact ⟨o, r, rfl, slot t o (fun l' e => by have := hno 0 l' (by rw [e]; rfl); simpa using this) e2, ih r (fun j l' e => by have := hno (j + 1) l' (by simpa using e); simpa using this) e3⟩
      intro ss
      induction ss with
      | nil => intro ρ n e; simp at e
      | cons t ss ih =>
        intro ρ n e1 e2 e3 h
        obtain ⟨o, r, rfl, e4, e5⟩ := h
        cases n with
        | zero =>
          have eo : o = some (.ref a') := Option.some.inj e2
          refine ⟨o, r, rfl, ⟨a', ws, eo, h0, h1, upd_same, hw⟩, rest ss r (fun j l' e z => ?_) e5⟩
          have := e3 (j + 1) l' (by simpa using e) (by simpa using z)
          omega
        | succ n =>
          refine ⟨o, r, rfl, slot t o (fun l' e z => ?_) e4, ih r n (by simpa using e1) (by simpa using e2) (fun j l' e z => ?_) e5⟩
          · have := e3 0 l' (by rw [e]; rfl) (by rw [z]; rfl)
            omega
          · have := e3 (j + 1) l' (by simpa using e) (by simpa using z)
            omega
    exact gen sls σ i h e (fun j l' e1 e2 => k.ap j i l' l a' e1 h e2 e) k.st
  · intro p q l1 l2 b e1 e2 e3 e4
    have back : ∀ (p : Nat) l1, (sls.set i (.own m))[p]? = some (Sl.own l1) → ∃ l2, sls[p]? = some (Sl.own l2) := fun p l1 e1 => by
      by_cases c : p = i
      · exact ⟨l, by rw [c]; exact h⟩
      · rw [List.getElem?_set_ne (Ne.symm c)] at e1; exact ⟨l1, e1⟩
    obtain ⟨x1, y1⟩ := back p l1 e1
    obtain ⟨x2, y2⟩ := back q l2 e2
    exact k.ap p q x1 x2 b y1 y2 e3 e4
theorem own_same {F0 H0 F H F' H' : Hp} {σ : L2.St} {i : Nat} {l : List Sh} {a : Addr} (k : Ok F0 H0 F H σ sls) (g : Grow F H F' H') (h : sls[i]? = some (.own l)) (e : σ[i]? = some (some (.ref a))) : ∃ vs, H' a = some (.lst vs) ∧ IsVs F' l vs := by
  obtain ⟨a', vs, e', h0, h1, h2, h3⟩ := e_own_raw h (k.grow g)
  have ea : a' = a := by
    rw [e] at e'
    injection (Option.some.inj (Option.some.inj e')) with z
    exact z.symm
  subst ea
  exact ⟨vs, h2, h3⟩
theorem big_le {n : Nat} (h : n ≤ 16000000) : n ≤ sizeLine := Nat.le_trans h (by decide)
theorem big_lt {n : Nat} (h : n < 16000000) : n < sizeLine := Nat.lt_of_lt_of_le h (by decide)
/-- xs.append(e) -/
theorem run_app {i : Nat} {l : List Sh} (h : sls[i]? = some (.own l)) (he : E te sls s) (hz : l.length < 16000000) (hN : N (sls.set i (.own (l ++ [s])))) : Run (tDrop (tBM K "list" rAppend (tVar i) (tCons te tNil))) sls N R B C := fun F0 H0 F H σ k D d1 _ _ _ => by
  obtain ⟨a, vs, e, h0, h1, h2, h3⟩ := e_own_raw h k
  refine ⟨_, e, Or.inl ⟨rfl, vs, sq_of h2⟩, he F0 H0 F H σ k _ fun v F1 H1 g1 hv => ?_⟩
  obtain ⟨vs', h4, h5⟩ := own_same k g1 h e
  refine ⟨a, vs', v, rfl, rfl, h4, big_lt (by rw [h5.len]; exact hz), d1 F1 _ σ _ ((k.grow g1).change h e (h5.append (IsVs.cons hv IsVs.nil))) g1.ff hN⟩
theorem q_app {i : Nat} {l : List Sh} (h : sls[i]? = some (.own l)) (he : E te sls s) (hz : l.length < 16000000) (hzz : Run tz (sls.set i (.own (l ++ [s]))) N R B C) : Run (tSeq (tDrop (tBM K "list" rAppend (tVar i) (tCons te tNil))) tz) sls N R B C :=
  run_seq (M := fun s' => s' = sls.set i (.own (l ++ [s]))) (run_app h he hz rfl) (fun s' e => by rw [e]; exact hzz)
/-- xs.extend(l) -/
theorem run_ext {i : Nat} {l m : List Sh} (h : sls[i]? = some (.own l)) (he : EL te sls m) (hz : l.length + m.length ≤ 16000000) (hN : N (sls.set i (.own (l ++ m)))) : Run (tDrop (tBM K "list" rExtend (tVar i) (tCons te tNil))) sls N R B C := fun F0 H0 F H σ k D d1 _ _ _ => by
  obtain ⟨a, vs, e, h0, h1, h2, h3⟩ := e_own_raw h k
  refine ⟨_, e, Or.inl ⟨rfl, vs, sq_of h2⟩, he F0 H0 F H σ k _ fun p ws F1 H1 g1 h6 h7 => ?_⟩
  obtain ⟨vs', h4, h5⟩ := own_same k g1 h e
  refine ⟨a, p, vs', ws, rfl, rfl, h4, h6, big_le (by rw [h5.len, h7.len]; exact hz), d1 F1 _ σ _ ((k.grow g1).change h e (h5.append h7)) g1.ff hN⟩
theorem q_ext {i : Nat} {l m : List Sh} (h : sls[i]? = some (.own l)) (he : EL te sls m) (hz : l.length + m.length ≤ 16000000) (hzz : Run tz (sls.set i (.own (l ++ m))) N R B C) : Run (tSeq (tDrop (tBM K "list" rExtend (tVar i) (tCons te tNil))) tz) sls N R B C :=
  run_seq (M := fun s' => s' = sls.set i (.own (l ++ m))) (run_ext h he hz rfl) (fun s' e => by rw [e]; exact hzz)
/-- xs[j] = e -/
theorem run_put {i j : Nat} {l : List Sh} (h : sls[i]? = some (.own l)) (he : E te sls s) (hi : E tb sls (.i (j : Int))) (hj : j < l.length) (hN : N (sls.set i (.own (l.set j s)))) : Run (tAsg te (gSub (tVar i) tb rSetL)) sls N R B C := fun F0 H0 F H σ k D d1 _ _ _ => by
  obtain ⟨a, vs, e, h0, h1, h2, h3⟩ := e_own_raw h k
  refine he F0 H0 F H σ k _ fun v F1 H1 g1 hv => ⟨_, e, hi F0 H0 F1 H1 σ (k.grow g1) _ fun y F2 H2 g2 hy => ?_⟩
  obtain rfl : y = .int (j : Int) := hy
  obtain ⟨vs', h4, h5⟩ := own_same k (g1.trans g2) h e
  refine ⟨a, vs', (j : Int), j, rfl, rfl, h4, Evl.ixN_nat (by rw [h5.len]; exact hj), d1 F2 _ σ _ (((k.grow g1).grow g2).change h e (h5.set j (IsV.mono g2.ff _ _ hv))) (g1.ff.trans g2.ff) hN⟩
/-- xs[j] += e, ints -/
theorem run_augO {i j : Nat} {l : List Sh} {a b : Int} {f : Int → Int → Int} (h : sls[i]? = some (.own l)) (hi : E tb sls (.i (j : Int))) (hj : l[j]? = some (.i a)) (he : E te sls (.i b)) (hN : N (sls.set i (.own (l.set j (.i (f a b)))))) : Run (tAugS (tVar i) tb te (rIxL K) (ipI f) rSetL) sls N R B C := fun F0 H0 F H σ k D d1 _ _ _ => by
  obtain ⟨p, vs, e, h0, h1, h2, h3⟩ := e_own_raw h k
  refine ⟨_, e, hi F0 H0 F H σ k _ fun y F1 H1 g1 hy => ?_⟩
  obtain rfl : y = .int (j : Int) := hy
  obtain ⟨vs1, h4, h5⟩ := own_same k g1 h e
  obtain ⟨v, e5, hv⟩ := h5.get' hj
  obtain rfl : v = .int a := hv
  refine ⟨p, vs1, (j : Int), .int a, rfl, rfl, sq_of h4, atI_nat e5, he F0 H0 F1 H1 σ (k.grow g1) _ fun y F2 H2 g2 hy => ?_⟩
  obtain rfl : y = .int b := hy
  obtain ⟨vs2, h6, h7⟩ := own_same k (g1.trans g2) h e
  have hjl : j < l.length := (List.getElem?_eq_some_iff.mp hj).1
  refine ⟨a, b, rfl, rfl, p, vs2, (j : Int), j, rfl, rfl, h6, Evl.ixN_nat (by rw [h7.len]; exact hjl), d1 F2 _ σ _ (((k.grow g1).grow g2).change h e (h7.set j (s := .i (f a b)) rfl)) (g1.ff.trans g2.ff) hN⟩
/-! ### loops -/
theorem run_forR {ta : TA} {n : Int} {j : Nat} (h : EA ta sls [.i n]) (hn : -1000 ≤ n ∧ n ≤ 100000) (I : Nat → List Sl → Prop) (h0 : I 0 sls) (hs : ∀ (i : Nat) s', (i : Int) < n → I i s' → Run tu (s'.set j (.v (.i (i : Int)))) (I (i + 1)) R N (I (i + 1))) (hd : ∀ s', I n.toNat s' → N s') : Run (tFor (iRng1 ta) (gName j) tu) sls N R B C := fun F0 H0 F H σ k D d1 d2 d3 d4 =>
  h F0 H0 F H σ k _ fun vs F1 H1 g1 h1 => by
    obtain ⟨v, r, rfl, hv, hr⟩ := h1
    obtain rfl : v = .int n := hv
    obtain rfl : r = [] := hr
    refine ⟨n, rfl, by omega, by omega, run_forW walk_range (k.grow g1) (fun F' H' σ' s' k' e n => d1 F' H' σ' s' k' (g1.ff.trans e) n) d2 (fun _ _ _ _ => trivial) (fun i s' s2 => s2 = s'.set j (.v (.i (i : Int)))) (fun i σ' H' H'' F' s' x hi k' e' y Q q => ?_) I h0 (fun i s' s2 hi hI e => by rw [e]; exact hs i s' (by omega) hI) hd⟩
    obtain ⟨rfl, rfl⟩ := y
    refine q F' H'' _ _ (k'.put (s := .i (i : Int)) ?_) (Ex.refl F') rfl
    show V.int _ = V.int _
    congr 1
    omega
theorem q_forR {ta : TA} {n : Int} {j : Nat} (h : EA ta sls [.i n]) (hn : -1000 ≤ n ∧ n ≤ 100000) (I : Nat → List Sl → Prop) (h0 : I 0 sls) (hs : ∀ (i : Nat) s', (i : Int) < n → I i s' → Run tu (s'.set j (.v (.i (i : Int)))) (I (i + 1)) R (fun s2 => Run tz s2 N R B C) (I (i + 1))) (hd : ∀ s', I n.toNat s' → Run tz s' N R B C) : Run (tSeq (tFor (iRng1 ta) (gName j) tu) tz) sls N R B C :=
  run_seq (M := fun s' => Run tz s' N R B C) (run_forR h hn I h0 hs hd) (fun s' h => h)
theorem run_forE {ta : TA} {l : List Sh} {j1 j2 : Nat} (h : EA ta sls [.L l]) (I : Nat → List Sl → Prop) (h0 : I 0 sls) (hs : ∀ (i : Nat) s' x, l[i]? = some x → I i s' → Run tu ((s'.set j1 (.v (.i (i : Int)))).set j2 (.v x)) (I (i + 1)) R N (I (i + 1))) (hd : ∀ s', I l.length s' → N s') :
    Run (tFor (iEnum K ta) (gTup K 2 (gCons (gName j1) (gCons (gName j2) gNil))) tu) sls N R B C := fun F0 H0 F H σ k D d1 d2 d3 d4 =>
  h F0 H0 F H σ k _ fun vs F1 H1 g1 h1 => by
    obtain ⟨v1, r, rfl, hv1, hr⟩ := h1
    obtain rfl : r = [] := hr
    obtain ⟨a, xs, rfl, h2, h3⟩ := hv1
    have l1 := h3.len
    refine ⟨a, xs, rfl, sq_of (g1.fh _ _ h2), run_forW (walk_enum (xs := xs)) (k.grow g1) (fun F' H' σ' s' k' e n => d1 F' H' σ' s' k' (g1.ff.trans e) n) d2 (fun F' H' e e' => sq_of (e' _ _ (e _ _ h2))) (fun i s' s2 => ∃ x, l[i]? = some x ∧ s2 = (s'.set j1 (.v (.i (i : Int)))).set j2 (.v x)) (fun i σ' H' H'' F' s' x hi k' e' y Q q => ?_) I h0 (fun i s' s2 hi hI ⟨x, hx, e⟩ => by rw [e]; exact hs i s' x hx hI) (fun s' hI => hd s' (by rw [← l1]; exact hI))⟩
    obtain ⟨T, x1, y1, rfl, hT, rfl, ex, ey⟩ := y
    obtain ⟨sy, es', hsy⟩ := h3.get ey
    have ex' : x1 = .int (i : Int) := (Option.some.inj ex).symm
    exact pair_target (sx := .i (i : Int)) k' hT ex' (IsV.mono e' _ _ hsy) fun g k2 => q _ _ _ _ k2 g.ff ⟨sy, es', rfl⟩
theorem q_forE {ta : TA} {l : List Sh} {j1 j2 : Nat} (h : EA ta sls [.L l]) (I : Nat → List Sl → Prop) (h0 : I 0 sls) (hs : ∀ (i : Nat) s' x, l[i]? = some x → I i s' → Run tu ((s'.set j1 (.v (.i (i : Int)))).set j2 (.v x)) (I (i + 1)) R (fun s2 => Run tz s2 N R B C) (I (i + 1))) (hd : ∀ s', I l.length s' → Run tz s' N R B C) :
    Run (tSeq (tFor (iEnum K ta) (gTup K 2 (gCons (gName j1) (gCons (gName j2) gNil))) tu) tz) sls N R B C :=
  run_seq (M := fun s' => Run tz s' N R B C) (run_forE h I h0 hs hd) (fun s' h => h)
end
end Py
/-! The line: an object with two lists; defs that read and change it. -/
namespace Py
open PySem PySem.Spec PyProof.Rows L2
open Evl (Ex ex_l ex_t sq_of st_of sz_of sz_lt)
theorem obF_fst (v1 v2 : V) : (obF v1 v2).lookup ("first" : Str) = some v1 := by
  have e : (("first" : Str) == "first") = true := by decide +kernel
  simp only [obF, List.lookup, e]
theorem obF_snd (v1 v2 : V) : (obF v1 v2).lookup ("second" : Str) = some v2 := by
  have e : (("second" : Str) == "first") = false := by decide +kernel
  have e2 : (("second" : Str) == "second") = true := by decide +kernel
  simp only [obF, List.lookup, e, e2]
theorem put_fst (v1 v2 v : V) : putF "first" v (obF v1 v2) = obF v v2 := if_pos rfl
theorem put_snd (v1 v2 v : V) : putF "second" v (obF v1 v2) = obF v1 v := by
  show putF "second" v (("first", v1) :: [("second", v2)]) = _
  have e : ¬ ("first" : Str) = "second" := by decide +kernel
  rw [putF, if_neg e]
  exact congrArg _ (if_pos rfl)
/-- what the class is: plain, without those names -/
structure ObC (K : PySem.W.Frag) (C : Addr) : Prop where
  cl : Cls K C
  n1 : NoAttr K C "first"
  n2 : NoAttr K C "second"
section
variable {K : PySem.W.Frag} {sls : List Sl} {te : TE} {a : Addr} {C : Addr × Addr} {p q : List Int}
theorem ob_raw {i : Nat} (h : sls[i]? = some (.ob a C p q)) {F0 H0 F H : Hp} {σ : L2.St} (k : Ok F0 H0 F H σ sls) : ∃ dx v1 v2, σ[i]? = some (some (.ref a)) ∧ H0 a = none ∧ F a = none ∧ H a = some (.ins C.1 dx (obF v1 v2)) ∧ IsV F (li p) v1 ∧ IsV F (li q) v2 ∧ F C.2 = some (.tbl #[]) := by
  obtain ⟨o, e, dx, v1, v2, rfl, h1, h2, h3, h4, h5⟩ := k.st.get h
  exact ⟨dx, v1, v2, e, h1, h2, h3, h4, h5⟩
theorem e_fst {i : Nat} (T : ObC K C.1) (h : sls[i]? = some (.ob a C p q)) : E (tFld K (tVar i) "first") sls (li p) := fun F0 H0 F H σ k Q qq => by
  obtain ⟨dx, v1, v2, e, h1, h2, h3, h4, h5, h6⟩ := ob_raw h k
  exact ⟨_, e, a, C.1, dx, _, v1, rfl, h3, T.cl, T.n1, obF_fst _ _, qq v1 F H (Grow.refl k.fh) h4⟩
theorem e_snd {i : Nat} (T : ObC K C.1) (h : sls[i]? = some (.ob a C p q)) : E (tFld K (tVar i) "second") sls (li q) := fun F0 H0 F H σ k Q qq => by
  obtain ⟨dx, v1, v2, e, h1, h2, h3, h4, h5, h6⟩ := ob_raw h k
  exact ⟨_, e, a, C.1, dx, _, v2, rfl, h3, T.cl, T.n2, obF_snd _ _, qq v2 F H (Grow.refl k.fh) h5⟩
/-- the same but for what stands at a -/
structure GrowBut (a : Addr) (F H F' H' : Hp) : Prop where
  ff : Ex F F'
  fh : Fx F' H'
  hh : ∀ b o, b ≠ a → H b = some o → Keeps H' b o
  new : ∀ b, F' b ≠ none → F b ≠ none ∨ H b = none
def isOb : Sl → Bool
  | .ob _ _ _ _ => true
  | _ => false
/-- no slot but i holds an object -/
def onlyOb : Nat → List Sl → Bool
  | _, [] => true
  | 0, _ :: ss => ss.all fun s => !isOb s
  | i + 1, s :: ss => !isOb s && onlyOb i ss
theorem slot_but {H0 F H F' H' : Hp} {s : Sl} {o : Option V} {dx : Addr} {fs : List (Str × V)} (g : GrowBut a F H F' H') (ha : H a = some (.ins C.1 dx fs)) (hn : (!isOb s) = true) (h : SlOk H0 F H s o) : SlOk H0 F' H' s o := by
  cases s with
  | x => trivial
  | v s =>
    obtain ⟨v, h1, h2⟩ := h
    exact ⟨v, h1, IsV.mono g.ff _ _ h2⟩
  | own l =>
    obtain ⟨b, vs, h1, h2, h3, h4, h5⟩ := h
    have hb : b ≠ a := fun z => by rw [z, ha] at h4; cases h4
    refine ⟨b, vs, h1, h2, none_of_not fun hn => ?_, g.hh _ _ hb h4, IsVs.mono g.ff _ _ h5⟩
    rcases g.new b hn with z | z
    · exact z h3
    · rw [h4] at z; cases z
  | dic l =>
    obtain ⟨b, kvs, h1, h2, h3, h4, h5, h6⟩ := h
    have hb : b ≠ a := fun z => by rw [z, ha] at h4; cases h4
    refine ⟨b, kvs, h1, h2, none_of_not fun hn => ?_, g.hh _ _ hb h4, h5, IsVs.mono g.ff _ _ h6⟩
    rcases g.new b hn with z | z
    · exact z h3
    · rw [h4] at z; cases z
  | ob b C p q => cases hn
theorem slots_but {H0 F H F' H' : Hp} {dx : Addr} {fs : List (Str × V)} (g : GrowBut a F H F' H') (ha : H a = some (.ins C.1 dx fs)) : ∀ {ss : List Sl} {σ : List (Option V)}, (ss.all fun s => !isOb s) = true → SlsOk H0 F H ss σ → SlsOk H0 F' H' ss σ
  | [], _, _, h => h
  | s :: ss, σ, hn, h => by
    rw [List.all_cons, Bool.and_eq_true] at hn
    obtain ⟨o, r, h1, h2, h3⟩ := h
    exact ⟨o, r, h1, slot_but g ha hn.1 h2, slots_but g ha hn.2 h3⟩
theorem slots_ob {H0 F H F' H' : Hp} {dx dx' : Addr} {fs : List (Str × V)} {v1 v2 : V} {p' q' : List Int} (g : GrowBut a F H F' H') (ha : H a = some (.ins C.1 dx fs)) (h0 : H0 a = none) (hF : F' a = none) (ha' : H' a = some (.ins C.1 dx' (obF v1 v2))) (h1 : IsV F' (li p') v1) (h2 : IsV F' (li q') v2) (h9 : F' C.2 = some (.tbl #[])) :
    ∀ {i : Nat} {ss : List Sl} {σ : List (Option V)}, onlyOb i ss = true → ss[i]? = some (.ob a C p q) → SlsOk H0 F H ss σ → SlsOk H0 F' H' (ss.set i (.ob a C p' q')) σ
  | i, [], _, _, e, _ => by simp at e
  | 0, s :: ss, σ, ho, e, h => by
    obtain ⟨o, r, hs, h3, h4⟩ := h
    obtain rfl : s = .ob a C p q := Option.some.inj e
    obtain ⟨dx0, w1, w2, e1, _⟩ := h3
    exact ⟨o, r, hs, ⟨dx', v1, v2, e1, h0, hF, ha', h1, h2, h9⟩, slots_but g ha ho h4⟩
  | i + 1, s :: ss, σ, ho, e, h => by
    obtain ⟨o, r, hs, h3, h4⟩ := h
    rw [onlyOb, Bool.and_eq_true] at ho
    exact ⟨o, r, hs, slot_but g ha ho.1 h3, slots_ob g ha h0 hF ha' h1 h2 h9 ho.2 (by simpa using e) h4⟩
theorem Ok.ap_ob {F0 H0 F H : Hp} {σ : L2.St} {i : Nat} {p' q' : List Int} (k : Ok F0 H0 F H σ sls) (h : sls[i]? = some (.ob a C p q)) : Apart (sls.set i (.ob a C p' q')) σ := fun x y l l' b e1 e2 e3 e4 => by
  have nx : x ≠ i := fun z => by
    rw [z, List.getElem?_set] at e1
    split at e1
    · split at e1 <;> cases e1
    · rename_i hne; exact hne rfl
  have ny : y ≠ i := fun z => by
    rw [z, List.getElem?_set] at e2
    split at e2
    · split at e2 <;> cases e2
    · rename_i hne; exact hne rfl
  rw [List.getElem?_set_ne nx.symm] at e1
  rw [List.getElem?_set_ne ny.symm] at e2
  exact k.ap x y l l' b e1 e2 e3 e4
theorem Ok.but {F0 H0 F H F' H' : Hp} {σ : L2.St} {i : Nat} {dx' : Addr} {v1 v2 : V} {p' q' : List Int} (k : Ok F0 H0 F H σ sls) (h : sls[i]? = some (.ob a C p q)) (ho : onlyOb i sls = true) (g : GrowBut a F H F' H') (hF : F' a = none) (ha' : H' a = some (.ins C.1 dx' (obF v1 v2))) (h1 : IsV F' (li p') v1) (h2 : IsV F' (li q') v2) :
    Ok F0 H0 F' H' σ (sls.set i (.ob a C p' q')) := by
  obtain ⟨dx, w1, w2, e, z1, z2, z3, _, _, z9⟩ := ob_raw h k
  refine ⟨k.e0, ⟨k.g.ff.trans g.ff, g.fh, fun x u ex => by
    have ne : x ≠ a := fun z => by rw [z, z1] at ex; cases ex
    have e1 := k.g.hh x u ex
    cases u with
    | tbl ps =>
      obtain ⟨ps', e2⟩ := e1
      exact g.hh x (.tbl ps') ne e2
    | _ => exact g.hh x _ ne e1, fun x hx => ?_⟩, slots_ob g z3 z1 hF ha' h1 h2 (g.ff _ _ z9) ho h k.st, k.ap_ob h⟩
  rcases g.new x hx with y | y
  · exact k.g.new x y
  · exact Or.inr (k.g.hh.back y)
end
section
variable {K : PySem.W.Frag} {sls : List Sl} {te : TE} {a : Addr} {C : Addr × Addr} {p q p' q' : List Int} {N B C' : List Sl → Prop} {R : List Sl → Sh → Prop} {tz : TS} {s : Sh}
theorem but_upd {F H : Hp} {o : HO} (e : Fx F H) (h : F a = none) (n : nTab (H a)) : GrowBut a F H F (upd H a o) where
  ff := Ex.refl F
  fh := e.upd n h
  hh := fun b u hb ex => Keeps.of (by rw [upd_ne hb]; exact ex)
  new := fun b hb => Or.inl hb
/-- o.first = e -/
theorem run_fst {i : Nat} (T : ObC K C.1) (h : sls[i]? = some (.ob a C p q)) (ho : onlyOb i sls = true) (he : E te sls (li p')) (hN : N (sls.set i (.ob a C p' q))) : Run (sFld K (tVar i) te "first") sls N R B C' := fun F0 H0 F H σ k D d1 _ _ _ =>
  he F0 H0 F H σ k _ fun v F1 H1 g1 hv => by
    obtain ⟨dx, v1, v2, e, h1, h2, h3, h4, h5, h6⟩ := ob_raw h (k.grow g1)
    refine ⟨_, e, a, C.1, dx, obF v1 v2, rfl, h3, T.cl, T.n1, (by show 2 < 1000; decide), ?_⟩
    refine d1 F1 _ σ _ ((k.grow g1).but h ho (but_upd (k.grow g1).fh h2 (by rw [h3]; trivial)) h2 (by rw [upd_same, put_fst]) hv h5) g1.ff hN
/-- o.second = e -/
theorem run_snd {i : Nat} (T : ObC K C.1) (h : sls[i]? = some (.ob a C p q)) (ho : onlyOb i sls = true) (he : E te sls (li q')) (hN : N (sls.set i (.ob a C p q'))) : Run (sFld K (tVar i) te "second") sls N R B C' := fun F0 H0 F H σ k D d1 _ _ _ =>
  he F0 H0 F H σ k _ fun v F1 H1 g1 hv => by
    obtain ⟨dx, v1, v2, e, h1, h2, h3, h4, h5, h6⟩ := ob_raw h (k.grow g1)
    refine ⟨_, e, a, C.1, dx, obF v1 v2, rfl, h3, T.cl, T.n2, (by show 2 < 1000; decide), ?_⟩
    refine d1 F1 _ σ _ ((k.grow g1).but h ho (but_upd (k.grow g1).fh h2 (by rw [h3]; trivial)) h2 (by rw [upd_same, put_snd]) h4 hv) g1.ff hN
theorem q_fst {i : Nat} (T : ObC K C.1) (h : sls[i]? = some (.ob a C p q)) (ho : onlyOb i sls = true) (he : E te sls (li p')) (hz : Run tz (sls.set i (.ob a C p' q)) N R B C') : Run (tSeq (sFld K (tVar i) te "first") tz) sls N R B C' :=
  run_seq (M := fun s' => s' = sls.set i (.ob a C p' q)) (run_fst T h ho he rfl) (fun s' e => by rw [e]; exact hz)
theorem q_snd {i : Nat} (T : ObC K C.1) (h : sls[i]? = some (.ob a C p q)) (ho : onlyOb i sls = true) (he : E te sls (li q')) (hz : Run tz (sls.set i (.ob a C p q')) N R B C') : Run (tSeq (sFld K (tVar i) te "second") tz) sls N R B C' :=
  run_seq (M := fun s' => s' = sls.set i (.ob a C p q')) (run_snd T h ho he rfl) (fun s' e => by rw [e]; exact hz)
/-! ### a def of the line and values -/
abbrev RLn := List Int → List Int → List Sh → List Int → List Int → Sh → Prop
def spLn (C : Addr × Addr) (R : RLn) : Sp := fun vs H Q _ => ∃ (F : Hp) (a dx : Addr) (v1 v2 : V) (p q : List Int) (ss : List Sh) (ws : List V) (r : Sh) (p' q' : List Int), vs = .ref a :: ws ∧ Fx F H ∧ F C.2 = some (.tbl #[]) ∧ F a = none ∧ H a = some (.ins C.1 dx (obF v1 v2)) ∧ IsV F (li p) v1 ∧ IsV F (li q) v2 ∧ IsVs F ss ws ∧ R p q ss p' q' r ∧
  ∀ (v : V) (F' H' : Hp) (dx' : Addr) (v1' v2' : V), GrowBut a F H F' H' → F' a = none → H' a = some (.ins C.1 dx' (obF v1' v2')) → IsV F' (li p') v1' → IsV F' (li q') v2' → IsV F' r v → Q v H'
theorem fn_ln {P : Program} {w : World} {mg : Str → Option Value} {base : Heap} {x qual : Str} {st : Stmt} {f : Addr} {fd : FuncData} {N ps : List Str} {k : Nat} {R : RLn} (F : Fun K x qual st f fd) (S : FnScope N ps (defScope st)) (len : ∀ p q ss p' q' r, R p q ss p' q' r → ss.length + 1 = ps.length)
    (hbody : ∀ (cdv : Value) (A : Around) (outer : List Env) (s : Shared) (H : Hp) (E : XK), Room k (A.deeper (envOfC qual (defScope st) s.heap.objs.size f cdv)) →
      ∃ t, PSs (cxOf CX0 P w K mg base N qual (defScope st) f cdv A outer s H E).nox (defBody st) t ∧ ∀ a p q ss p' q' r, R p q ss p' q' r → Run t (.ob a C p q :: ((ss.map Sl.v) ++ List.replicate (N.length - (ss.length + 1)) Sl.x)) (fun s' => r = .n ∧ s'[0]? = some (.ob a C p' q')) (fun s' s => s = r ∧ s'[0]? = some (.ob a C p' q'))) : FnOk P w K mg base CX0 (k + 1) f fd ps (spLn C R) := by
  refine F.ok S (fun vs H Q E h => ?_) (fun cdv A outer s H vs Q E hr h => ?_)
  · obtain ⟨F1, a, dx, v1, v2, p, q, ss, ws, r, p', q', rfl, _, _, _, _, _, _, h2, h3, _⟩ := h
    rw [List.length_cons, h2.len, len _ _ _ _ _ _ h3]
  · obtain ⟨F1, a, dx, v1, v2, p, q, ss, ws, r, p', q', rfl, e1, e9, e2, e3, e4, e5, e6, e7, cont⟩ := h
    obtain ⟨t, d, hrun⟩ := hbody cdv A outer s H E hr
    have k0 : Ok F1 (fun x => if x = a then none else H x) F1 H (L2.start N (.ref a :: ws)) (.ob a C p q :: ((ss.map Sl.v) ++ List.replicate (N.length - (ss.length + 1)) Sl.x)) := by
      refine ⟨fun x u ex => ?_, ⟨Ex.refl F1, e1, fun x u ex => ?_, fun x hx => Or.inl hx⟩, ?_, fun i j l l' b h1 _ _ _ => ?_⟩
      · have ne : x ≠ a := fun z => by rw [z, e2] at ex; cases ex
        have e8 := e1 x u ex
        cases u with
        | tbl ps =>
          obtain ⟨ps', y1, y2, y3⟩ := e8
          refine ⟨ps', by show (if x = a then none else H x) = _; rw [if_neg ne]; exact y1, y2, fun pos cv hc => ?_⟩
          obtain ⟨c, y4, y5⟩ := y3 pos cv hc
          refine ⟨c, y4, ?_⟩
          show (if c = a then none else H c) = _
          rw [if_neg fun z => by rw [z, e3] at y5; cases y5]
          exact y5
        | _ =>
          show (if x = a then none else H x) = _
          rw [if_neg ne]; exact e8
      · have ex : (if x = a then none else H x) = some u := ex
        split at ex
        · cases ex
        · exact Keeps.of ex
      · have hl := e6.len
        unfold L2.start
        rw [List.map_cons, List.length_cons, hl]
        exact ⟨_, _, rfl, ⟨dx, v1, v2, rfl, if_pos rfl, e2, e3, e4, e5, e9⟩, slsOk_app (slsOk_vals e6) (slsOk_x _)⟩
      · exfalso
        have hm := List.mem_of_getElem? h1
        rcases List.mem_cons.mp hm with hm | hm
        · cases hm
        · rcases List.mem_append.mp hm with hm | hm
          · obtain ⟨s, _, e⟩ := List.mem_map.mp hm
            cases e
          · have e := List.eq_of_mem_replicate hm
            cases e
    have fin : ∀ (v : V) (F' H' : Hp) (σ' : L2.St) (s' : List Sl), Ok F1 (fun x => if x = a then none else H x) F' H' σ' s' → s'[0]? = some (.ob a C p' q') → IsV F' r v → Q v H' := fun v F' H' σ' s' k' h0 hv => by
      obtain ⟨dx', w1, w2, _, _, z2, z3, z4, z5, _⟩ := ob_raw h0 k'
      refine cont v F' H' dx' w1 w2 ⟨k'.g.ff, k'.g.fh, fun b u hb ex => k'.g.hh b u (by show (if b = a then none else H b) = some u; rw [if_neg hb]; exact ex), fun b hb => ?_⟩ z2 z3 z4 z5 hv
      rcases k'.g.new b hb with y | y
      · exact Or.inl y
      · by_cases c : b = a
        · rw [c, z2] at hb; exact absurd rfl hb
        · right
          have y : (if b = a then none else H b) = none := y
          rw [if_neg c] at y
          exact y
    refine ⟨t, d, hrun a p q ss p' q' r e7 F1 _ F1 H _ k0 _ (fun F' H' σ' s' k' _ e => ?_) (fun v F' H' σ' s' s k' i e => fin v F' H' σ' s' k' e.2 (by rw [← e.1]; exact i)) (fun _ _ _ _ _ _ z => z.elim) (fun _ _ _ _ _ _ z => z.elim)⟩
    exact fin .non F' H' σ' s' k' e.2 (by rw [e.1]; rfl)
/-- f(line, ..), where it may change the line -/
theorem call_ln {i : Nat} {R1 : RLn} {EX : XK} {ta : TA} {ss : List Sh} {r : Sh} (h : sls[i]? = some (.ob a C p q)) (ho : onlyOb i sls = true) (ha : EA ta sls ss) (hR : R1 p q ss p' q' r) {F0 H0 F H : Hp} {σ : L2.St} (k : Ok F0 H0 F H σ sls) {Q : VK}
    (qq : ∀ v F' H', Ok F0 H0 F' H' σ (sls.set i (.ob a C p' q')) → Ex F F' → IsV F' r v → Q v H') : tCall (spLn C R1) [] EX (tCons (tVar i) ta) σ H Q := by
  obtain ⟨dx, v1, v2, e, _⟩ := ob_raw h k
  refine ⟨_, e, ha F0 H0 F H σ k _ fun ws F1 H1 g1 hw => ?_⟩
  obtain ⟨dx1, w1, w2, _, z1, z2, z3, z4, z5, z9⟩ := ob_raw h (k.grow g1)
  exact ⟨F1, a, dx1, w1, w2, p, q, ss, ws, r, p', q', by rw [List.append_nil], g1.fh, z9, z2, z3, z4, z5, hw, hR, fun v F' H' dx' v1' v2' g hF hH y1 y2 hv => qq v F' H' ((k.grow g1).but h ho g hF hH y1 y2) (g1.ff.trans g.ff) hv⟩
theorem run_setLn {i j : Nat} {R1 : RLn} {EX : XK} {ta : TA} {ss : List Sh} {r : Sh} (h : sls[i]? = some (.ob a C p q)) (ho : onlyOb i sls = true) (ha : EA ta sls ss) (hR : R1 p q ss p' q' r) (hN : N ((sls.set i (.ob a C p' q')).set j (.v r))) : Run (tAsg (tCall (spLn C R1) [] EX (tCons (tVar i) ta)) (gName j)) sls N R B C' := fun F0 H0 F H σ k D d1 _ _ _ =>
  call_ln h ho ha hR k fun v F' H' k' e hv => d1 F' H' _ _ (k'.put hv) e hN
theorem q_setLn {i j : Nat} {R1 : RLn} {EX : XK} {ta : TA} {ss : List Sh} {r : Sh} (h : sls[i]? = some (.ob a C p q)) (ho : onlyOb i sls = true) (ha : EA ta sls ss) (hR : R1 p q ss p' q' r) (hz : Run tz ((sls.set i (.ob a C p' q')).set j (.v r)) N R B C') : Run (tSeq (tAsg (tCall (spLn C R1) [] EX (tCons (tVar i) ta)) (gName j)) tz) sls N R B C' :=
  run_seq (M := fun s' => s' = (sls.set i (.ob a C p' q')).set j (.v r)) (run_setLn h ho ha hR rfl) (fun s' e => by rw [e]; exact hz)
theorem run_retLn {i : Nat} {R1 : RLn} {EX : XK} {ta : TA} {ss : List Sh} {r : Sh} (h : sls[i]? = some (.ob a C p q)) (ho : onlyOb i sls = true) (ha : EA ta sls ss) (hR : R1 p q ss p' q' r) (hr : R (sls.set i (.ob a C p' q')) r) : Run (tRet (tCall (spLn C R1) [] EX (tCons (tVar i) ta))) sls N R B C' := fun F0 H0 F H σ k D _ d2 _ _ =>
  call_ln h ho ha hR k fun v F' H' k' e hv => d2 v F' H' σ _ r k' hv hr
theorem q_retLn {i : Nat} {R1 : RLn} {EX : XK} {ta : TA} {ss : List Sh} {r : Sh} (h : sls[i]? = some (.ob a C p q)) (ho : onlyOb i sls = true) (ha : EA ta sls ss) (hR : R1 p q ss p' q' r) (hr : R (sls.set i (.ob a C p' q')) r) : Run (tSeq (tRet (tCall (spLn C R1) [] EX (tCons (tVar i) ta))) tz) sls N R B C' := fun F0 H0 F H σ k D _ d2 _ _ =>
  call_ln h ho ha hR k fun v F' H' k' e hv => d2 v F' H' σ _ r k' hv hr
end
/-! ### a call of a def out of a table -/
section
variable {X : Cx} {k : Nat} {func e : Expr} {es : List Expr} {pos : Pos} {tf : TE} {t : TA}
def tCallV (tf : TE) (S : Addr → Option Sp) (t : TA) : TE := fun σ H Q => tf σ H fun v H1 => ∃ f sp, v = .ref f ∧ S f = some sp ∧ t σ H1 fun vs H2 => sp vs H2 Q (fun _ _ _ => False)
theorem pe_callV {S : Addr → Option Sp} (A : ∀ f sp, S f = some sp → Held X.prog X.w X.K X.mg X.base k f sp) (hr : Room k X.A) (hf : PE X func tf) (ha : PA X (e :: es) t)
    (hc : eval (.Call func (e :: es) [] pos) X.env = (do callWith pos (← eval func X.env) [] (backTo pos (starEach (e :: es) X.env)) (backToKw pos (keywordEach [] X.env))) := by rfl)
    (h1 : starEach (e :: es) X.env = (false, eval e X.env) :: starEach es X.env := by rfl) (h2 : (backTo pos (starEach es X.env)).any (·.1) = false := by rfl) : PE X (.Call func (e :: es) [] pos) (tCallV tf S t) := by
  refine ⟨fun pins s σ H Q I h => ?_⟩
  refine Call_ (thn (hf.run pins s σ H _ I h) fun u sa ⟨v, Ha, Ia, ra, f, sp, ev, hS, hq⟩ => ?_) hc
  subst ev
  obtain rfl : u = Value.ref f := ra
  obtain ⟨fd, ps, FF, hk, hb⟩ := (A f sp hS).ex
  refine PySem.W.callWith_K (h₀ := X.base) I.ok.mod.kin hk (thn (ha.run pos pins sa σ Ha _ Ia hq) fun us sb ⟨vs, Hb, Ib, rb, qb⟩ => ⟨Ib.kIn, ?_⟩) h1 h2
  exact run_fn (dvs := []) (ds := []) FF hr hb .nil (fun _ _ _ _ _ _ _ z => z.elim) Ib rb (by rw [List.append_nil]; exact qb)
/-- a dict of the module with whole numbers for keys, read -/
structure KInt (K : PySem.W.Frag) (d : Addr) (es : Array DictEntry) (n : Nat) : Prop where
  at_ : K.lookup d = some ⟨.type "dict", none, .dict es n, #[]⟩
  ks : ∀ e ∈ es, ∃ k t, e.key = .int k t ∧ e.hash = hashInt k
def rIxI (d : Addr) (es : Array DictEntry) : R2 := fun x y H Q => ∃ (k : Int) (f : Addr), x = .ref d ∧ y = .int k ∧ findBy Value.isInt es k = some (.ref f) ∧ Q (.ref f) H
theorem ix_kint {d : Addr} {es : Array DictEntry} {n : Nat} (D : KInt X.K d es n) : IxR X (rIxI d es) := by
  intro value slice pins s σ H x y v u Q I rx ry h hs
  obtain ⟨j, f, rfl, rfl, hf, q⟩ := h
  obtain rfl : v = Value.ref d := rx
  obtain ⟨t, rfl⟩ := ry
  have mm : s.heap.MapOf (intKind X.prog X.w) d (fun z => findBy Value.isInt es z) := ⟨_, es, n, I.kIn _ _ D.at_, ⟨rfl, rfl, rfl⟩, rfl, fun e he => by
    obtain ⟨z, t', e1, e2⟩ := D.ks e he
    exact ⟨z, by rw [e1]; exact intKind_is X.prog X.w z t', e2⟩, fun _ => rfl⟩
  exact tail_any mm.typeIs slot_dict_getitem.lookup (wpAny_getItem_of (intKind_is X.prog X.w j t) mm hf ⟨.ref f, H, I.tok _, rfl, q⟩) hs
end
section
variable {K : PySem.W.Frag} {sls : List Sl} {te : TE} {a : Addr} {C : Addr × Addr} {p q p' q' : List Int} {N B C' : List Sl → Prop} {R : List Sl → Sh → Prop} {tz : TS} {s : Sh}
theorem run_retLnV {i : Nat} {R1 : RLn} {tf : TE} {S : Addr → Option Sp} {f : Addr} {ta : TA} {ss : List Sh} {r : Sh} (h : sls[i]? = some (.ob a C p q)) (ho : onlyOb i sls = true) (hf : E tf sls (.o f)) (hS : S f = some (spLn C R1)) (ha : EA ta sls ss) (hR : R1 p q ss p' q' r) (hr : R (sls.set i (.ob a C p' q')) r) :
    Run (tRet (tCallV tf S (tCons (tVar i) ta))) sls N R B C' := fun F0 H0 F H σ k D _ d2 _ _ =>
  hf F0 H0 F H σ k _ fun v F1 H1 g1 hv => by
    obtain rfl : v = .ref f := hv
    refine ⟨f, _, rfl, hS, ?_⟩
    have hc := call_ln (EX := fun _ _ _ => False) h ho ha hR (k.grow g1) (Q := D.rt) fun v F' H' k' e hv => d2 v F' H' σ _ r k' hv hr
    unfold tCall at hc
    have e0 : (fun (vs : List V) (H1 : Hp) => spLn C R1 (vs ++ []) H1 D.rt (fun _ _ _ => False)) = fun vs H1 => spLn C R1 vs H1 D.rt (fun _ _ _ => False) := by funext vs H1; rw [List.append_nil]
    rw [e0] at hc
    exact hc
theorem e_glo {v : V} (h : ∀ F, IsV F s v) : E (tC v) sls s := e_C h
theorem e_ixI {ta tb : TE} {d f : Addr} {es : Array DictEntry} {n : Int} (ha : E ta sls (.o d)) (hb : E tb sls (.i n)) (h : findBy Value.isInt es n = some (.ref f)) : E (tOp (rIxI d es) ta tb) sls (.o f) := e_2 ha hb fun F H x y e h1 h2 Q qq => ⟨n, f, h1, h2, h, qq _ F H (Grow.refl e) rfl⟩
/-! ### a new line -/
def spInit (C : Addr) (l1 l2 : List Int) : Sp := fun vs H Q _ => ∃ x dx : Addr, vs = [.ref x] ∧ H x = some (.ins C dx []) ∧ ∀ (H' : Hp) (a1 a2 : Addr), (∀ b o, b ≠ x → H b = some o → H' b = some o) → H a1 = none → H a2 = none → H' a1 = some (.lst (l1.map V.int)) → H' a2 = some (.lst (l2.map V.int)) → H' x = some (.ins C dx (obF (.ref a1) (.ref a2))) → Q .non H'
theorem run_make {j : Nat} {l1 l2 : List Int} {EX : XK} {c : Nat} {ns : List Int} (hq : sls[c]? = some (.v (sq K C.2 ns))) (hN : ∀ a, N (sls.set j (.ob a C l1 l2))) : Run (tAsg (tMake C.1 (spInit C.1 l1 l2) [] EX tNil) (gName j)) sls N R B C' := fun F0 H0 F H σ k D d1 _ _ _ => by
  intro x dx hx hdx hne
  refine ⟨x, dx, rfl, upd_same, fun H' a1 a2 hk n1 n2 e1 e2 e3 => ⟨rfl, ?_⟩⟩
  have base : ∀ b o, H b = some o → H' b = some o := fun b o e => hk b o (ne_of_none e hx) (by rw [upd_ne (ne_of_none e hx), upd_ne (ne_of_none e hdx)]; exact e)
  have out : ∀ b, upd (upd H dx (.own x)) x (.ins C.1 dx []) b = none → b ≠ x ∧ H b = none := fun b hb => by
    have c1 : b ≠ x := fun z => by rw [z, upd_same] at hb; cases hb
    rw [upd_ne c1] at hb
    have c2 : b ≠ dx := fun z => by rw [z, upd_same] at hb; cases hb
    rw [upd_ne c2] at hb
    exact ⟨c1, hb⟩
  obtain ⟨c1, m1⟩ := out a1 n1
  obtain ⟨c2, m2⟩ := out a2 n2
  have f1 : F a1 = none := k.fh.back m1
  have f2 : F a2 = none := k.fh.back m2
  have fx : F x = none := k.fh.back hx
  let F' : Hp := fun b => if b = a1 then some (.lst (l1.map V.int)) else if b = a2 then H' a2 else F b
  have hF1 : F' a1 = some (.lst (l1.map V.int)) := if_pos rfl
  have hF2 : F' a2 = some (.lst (l2.map V.int)) := by
    show (if a2 = a1 then _ else if a2 = a2 then H' a2 else F a2) = _
    by_cases c : a2 = a1
    · rw [if_pos c]
      rw [c, e1] at e2
      exact e2
    · rw [if_neg c, if_pos rfl]; exact e2
  have g : Grow F H F' H' := by
    have hh : Ex H H' := base
    refine ⟨fun b u e => ?_, fun b u e => ?_, Hx.of hh, fun b hb => ?_⟩
    · show (if b = a1 then _ else if b = a2 then H' a2 else F b) = some u
      rw [if_neg (fun z => by rw [z, f1] at e; cases e), if_neg (fun z => by rw [z, f2] at e; cases e)]
      exact e
    · have e : (if b = a1 then some (.lst (l1.map V.int)) else if b = a2 then H' a2 else F b) = some u := e
      by_cases z1 : b = a1
      · rw [if_pos z1] at e; cases e; rw [z1]; exact e1
      · rw [if_neg z1] at e
        by_cases z2 : b = a2
        · rw [if_pos z2, e2] at e; cases e; rw [z2]; exact e2
        · rw [if_neg z2] at e; exact (k.fh b u e).ext hh
    · have hb : (if b = a1 then some (.lst (l1.map V.int)) else if b = a2 then H' a2 else F b) ≠ none := hb
      by_cases z1 : b = a1
      · right; rw [z1]; exact m1
      · rw [if_neg z1] at hb
        by_cases z2 : b = a2
        · right; rw [z2]; exact m2
        · rw [if_neg z2] at hb; exact Or.inl hb
  have hFx : F' x = none := by
    show (if x = a1 then _ else if x = a2 then H' a2 else F x) = none
    rw [if_neg fun z => c1 z.symm, if_neg fun z => c2 z.symm]
    exact fx
  have k' := k.grow g
  obtain ⟨_, _, vq, _, ⟨⟨_, hP⟩, _⟩⟩ := k.st.get hq
  refine d1 F' H' _ _ ⟨k'.e0, k'.g, k'.st.set j (s := .ob x C l1 l2) ⟨dx, .ref a1, .ref a2, rfl, k.g.hh.back hx, hFx, e3, ⟨a1, _, rfl, hF1, (isVs_ints _ _).mpr rfl⟩, ⟨a2, _, rfl, hF2, (isVs_ints _ _).mpr rfl⟩, g.ff _ _ hP⟩, k'.ap.put fun l h => by cases h⟩ g.ff (hN x)
theorem q_make {j : Nat} {l1 l2 : List Int} {EX : XK} {c : Nat} {ns : List Int} (hq : sls[c]? = some (.v (sq K C.2 ns))) (hz : ∀ a, Run tz (sls.set j (.ob a C l1 l2)) N R B C') : Run (tSeq (tAsg (tMake C.1 (spInit C.1 l1 l2) [] EX tNil) (gName j)) tz) sls N R B C' :=
  run_seq (M := fun s' => ∃ a, s' = sls.set j (.ob a C l1 l2)) (run_make hq fun a => ⟨a, rfl⟩) (fun s' ⟨a, e⟩ => by rw [e]; exact hz a)
end
end Py
namespace Py
open PySem PySem.Spec PyProof.Rows L2
def top (i : Nat) : Stmt := PySem.Challenge.pw_apartpolynomials_s01_answers.main.body.getD i (.Pass ⟨0, 0, 0, 0⟩)
abbrev s_wlz : Stmt := top 1
abbrev N_wlz : List Str := ["numbers", "length"]
theorem sc_wlz : FnScope ["numbers", "length"] ["numbers"] (defScope s_wlz) := ⟨rfl, rfl, rfl, by decide +kernel, rfl, by decide +kernel, by decide +kernel⟩
abbrev s_isz : Stmt := top 2
abbrev N_isz : List Str := ["polynomial"]
theorem sc_isz : FnScope ["polynomial"] ["polynomial"] (defScope s_isz) := ⟨rfl, rfl, rfl, by decide +kernel, rfl, by decide +kernel, by decide +kernel⟩
abbrev s_deg : Stmt := top 3
abbrev N_deg : List Str := ["polynomial"]
theorem sc_deg : FnScope ["polynomial"] ["polynomial"] (defScope s_deg) := ⟨rfl, rfl, rfl, by decide +kernel, rfl, by decide +kernel, by decide +kernel⟩
abbrev s_product : Stmt := top 4
abbrev N_product : List Str := ["first", "second", "numbers", "left_power", "left", "right_power", "right"]
theorem sc_product : FnScope ["first", "second", "numbers", "left_power", "left", "right_power", "right"] ["first", "second"] (defScope s_product) := ⟨rfl, rfl, rfl, by decide +kernel, rfl, by decide +kernel, by decide +kernel⟩
abbrev s_gd : Stmt := top 5
abbrev N_gd : List Str := ["left", "right", "larger", "smaller", "rest"]
theorem sc_gd : FnScope ["left", "right", "larger", "smaller", "rest"] ["left", "right"] (defScope s_gd) := ⟨rfl, rfl, rfl, by decide +kernel, rfl, by decide +kernel, by decide +kernel⟩
abbrev s_divisors : Stmt := top 6
abbrev N_divisors : List Str := ["number", "size", "divisor"]
theorem sc_divisors : FnScope ["number", "size", "divisor"] ["number"] (defScope s_divisors) := ⟨rfl, rfl, rfl, by decide +kernel, rfl, by decide +kernel, by decide +kernel⟩
abbrev s_low : Stmt := top 7
abbrev N_low : List Str := ["above", "below", "divisor"]
theorem sc_low : FnScope ["above", "below", "divisor"] ["above", "below"] (defScope s_low) := ⟨rfl, rfl, rfl, by decide +kernel, rfl, by decide +kernel, by decide +kernel⟩
abbrev s_bare : Stmt := top 8
abbrev N_bare : List Str := ["polynomial", "divisor", "number"]
theorem sc_bare : FnScope ["polynomial", "divisor", "number"] ["polynomial"] (defScope s_bare) := ⟨rfl, rfl, rfl, by decide +kernel, rfl, by decide +kernel, by decide +kernel⟩
abbrev s_less_multiple : Stmt := top 9
abbrev N_less_multiple : List Str := ["polynomial", "factor", "other", "shift", "lower", "left", "right"]
theorem sc_less_multiple : FnScope ["polynomial", "factor", "other", "shift", "lower", "left", "right"] ["polynomial", "factor", "other"] (defScope s_less_multiple) := ⟨rfl, rfl, rfl, by decide +kernel, rfl, by decide +kernel, by decide +kernel⟩
abbrev s_divided : Stmt := top 10
abbrev N_divided : List Str := ["first", "second", "lead", "quotient", "rest", "scale", "top", "larger", "number"]
theorem sc_divided : FnScope ["first", "second", "lead", "quotient", "rest", "scale", "top", "larger", "number"] ["first", "second"] (defScope s_divided) := ⟨rfl, rfl, rfl, by decide +kernel, rfl, by decide +kernel, by decide +kernel⟩
abbrev s_greatest_common : Stmt := top 11
abbrev N_greatest_common : List Str := ["first", "second", "larger", "smaller", "rest"]
theorem sc_greatest_common : FnScope ["first", "second", "larger", "smaller", "rest"] ["first", "second"] (defScope s_greatest_common) := ⟨rfl, rfl, rfl, by decide +kernel, rfl, by decide +kernel, by decide +kernel⟩
abbrev s_find_row : Stmt := top 12
abbrev N_find_row : List Str := ["rows", "column", "place"]
theorem sc_find_row : FnScope ["rows", "column", "place"] ["rows", "column"] (defScope s_find_row) := ⟨rfl, rfl, rfl, by decide +kernel, rfl, by decide +kernel, by decide +kernel⟩
abbrev s_cleared_row : Stmt := top 13
abbrev N_cleared_row : List Str := ["row", "top_row", "column", "before", "lead", "factor", "left", "right"]
theorem sc_cleared_row : FnScope ["row", "top_row", "column", "before", "lead", "factor", "left", "right"] ["row", "top_row", "column", "before"] (defScope s_cleared_row) := ⟨rfl, rfl, rfl, by decide +kernel, rfl, by decide +kernel, by decide +kernel⟩
abbrev s_determinant : Stmt := top 14
abbrev N_determinant : List Str := ["table", "rows", "sign", "before", "column", "place", "top_row", "done", "row"]
theorem sc_determinant : FnScope ["table", "rows", "sign", "before", "column", "place", "top_row", "done", "row"] ["table"] (defScope s_determinant) := ⟨rfl, rfl, rfl, by decide +kernel, rfl, by decide +kernel, by decide +kernel⟩
abbrev s_shifted_rows : Stmt := top 15
abbrev N_shifted_rows : List Str := ["polynomial", "count", "width", "numbers", "space", "place"]
theorem sc_shifted_rows : FnScope ["polynomial", "count", "width", "numbers", "space", "place"] ["polynomial", "count", "width"] (defScope s_shifted_rows) := ⟨rfl, rfl, rfl, by decide +kernel, rfl, by decide +kernel, by decide +kernel⟩
abbrev s_resultant : Stmt := top 16
abbrev N_resultant : List Str := ["first", "second", "width", "upper", "lower"]
theorem sc_resultant : FnScope ["first", "second", "width", "upper", "lower"] ["first", "second"] (defScope s_resultant) := ⟨rfl, rfl, rfl, by decide +kernel, rfl, by decide +kernel, by decide +kernel⟩
abbrev s_slope : Stmt := top 17
abbrev N_slope : List Str := ["polynomial", "power", "number"]
theorem sc_slope : FnScope ["polynomial", "power", "number"] ["polynomial"] (defScope s_slope) := ⟨rfl, rfl, rfl, by decide +kernel, rfl, by decide +kernel, by decide +kernel⟩
abbrev s_discriminant : Stmt := top 18
abbrev N_discriminant : List Str := ["polynomial", "high", "number"]
theorem sc_discriminant : FnScope ["polynomial", "high", "number"] ["polynomial"] (defScope s_discriminant) := ⟨rfl, rfl, rfl, by decide +kernel, rfl, by decide +kernel, by decide +kernel⟩
abbrev s_square_free : Stmt := top 19
abbrev N_square_free : List Str := ["polynomial", "surplus"]
theorem sc_square_free : FnScope ["polynomial", "surplus"] ["polynomial"] (defScope s_square_free) := ⟨rfl, rfl, rfl, by decide +kernel, rfl, by decide +kernel, by decide +kernel⟩
abbrev s_value_at : Stmt := top 20
abbrev N_value_at : List Str := ["polynomial", "above", "below", "total", "scale", "number"]
theorem sc_value_at : FnScope ["polynomial", "above", "below", "total", "scale", "number"] ["polynomial", "above", "below"] (defScope s_value_at) := ⟨rfl, rfl, rfl, by decide +kernel, rfl, by decide +kernel, by decide +kernel⟩
abbrev s_power_less_1 : Stmt := top 21
abbrev N_power_less_1 : List Str := ["power"]
theorem sc_power_less_1 : FnScope ["power"] ["power"] (defScope s_power_less_1) := ⟨rfl, rfl, rfl, by decide +kernel, rfl, by decide +kernel, by decide +kernel⟩
abbrev s_circle : Stmt := top 22
abbrev N_circle : List Str := ["place", "known", "divisor", "rest", "smaller"]
theorem sc_circle : FnScope ["place", "known", "divisor", "rest", "smaller"] ["place"] (defScope s_circle) := ⟨rfl, rfl, rfl, by decide +kernel, rfl, by decide +kernel, by decide +kernel⟩
abbrev s_signed_divisors : Stmt := top 24
abbrev N_signed_divisors : List Str := ["number", "rising", "divisor"]
theorem sc_signed_divisors : FnScope ["number", "rising", "divisor"] ["number"] (defScope s_signed_divisors) := ⟨rfl, rfl, rfl, by decide +kernel, rfl, by decide +kernel, by decide +kernel⟩
abbrev s_divides : Stmt := top 25
abbrev N_divides : List Str := ["part", "polynomial"]
theorem sc_divides : FnScope ["part", "polynomial"] ["part", "polynomial"] (defScope s_divides) := ⟨rfl, rfl, rfl, by decide +kernel, rfl, by decide +kernel, by decide +kernel⟩
abbrev s_part_of_degree_1 : Stmt := top 26
abbrev N_part_of_degree_1 : List Str := ["polynomial", "last", "lowest", "part"]
theorem sc_part_of_degree_1 : FnScope ["polynomial", "last", "lowest", "part"] ["polynomial"] (defScope s_part_of_degree_1) := ⟨rfl, rfl, rfl, by decide +kernel, rfl, by decide +kernel, by decide +kernel⟩
abbrev s_part_of_degree_2 : Stmt := top 27
abbrev N_part_of_degree_2 : List Str := ["polynomial", "last", "lowest", "value", "part"]
theorem sc_part_of_degree_2 : FnScope ["polynomial", "last", "lowest", "value", "part"] ["polynomial"] (defScope s_part_of_degree_2) := ⟨rfl, rfl, rfl, by decide +kernel, rfl, by decide +kernel, by decide +kernel⟩
abbrev s_lowest_part : Stmt := top 28
abbrev N_lowest_part : List Str := ["polynomial", "part"]
theorem sc_lowest_part : FnScope ["polynomial", "part"] ["polynomial"] (defScope s_lowest_part) := ⟨rfl, rfl, rfl, by decide +kernel, rfl, by decide +kernel, by decide +kernel⟩
abbrev s_all_parts : Stmt := top 29
abbrev N_all_parts : List Str := ["polynomial", "found", "rest", "part"]
theorem sc_all_parts : FnScope ["polynomial", "found", "rest", "part"] ["polynomial"] (defScope s_all_parts) := ⟨rfl, rfl, rfl, by decide +kernel, rfl, by decide +kernel, by decide +kernel⟩
abbrev s_degree_and_numbers : Stmt := top 30
abbrev N_degree_and_numbers : List Str := ["part"]
theorem sc_degree_and_numbers : FnScope ["part"] ["part"] (defScope s_degree_and_numbers) := ⟨rfl, rfl, rfl, by decide +kernel, rfl, by decide +kernel, by decide +kernel⟩
abbrev s_counted_parts : Stmt := top 31
abbrev N_counted_parts : List Str := ["polynomial", "found", "different", "part"]
theorem sc_counted_parts : FnScope ["polynomial", "found", "different", "part"] ["polynomial"] (defScope s_counted_parts) := ⟨rfl, rfl, rfl, by decide +kernel, rfl, by decide +kernel, by decide +kernel⟩
abbrev s_whole_number : Stmt := top 32
abbrev N_whole_number : List Str := ["polynomial"]
theorem sc_whole_number : FnScope ["polynomial"] ["polynomial"] (defScope s_whole_number) := ⟨rfl, rfl, rfl, by decide +kernel, rfl, by decide +kernel, by decide +kernel⟩
abbrev s_is_irreducible : Stmt := top 33
abbrev N_is_irreducible : List Str := ["polynomial"]
theorem sc_is_irreducible : FnScope ["polynomial"] ["polynomial"] (defScope s_is_irreducible) := ⟨rfl, rfl, rfl, by decide +kernel, rfl, by decide +kernel, by decide +kernel⟩
abbrev s_rational_roots : Stmt := top 34
abbrev N_rational_roots : List Str := ["polynomial", "roots", "scale", "often", "part"]
theorem sc_rational_roots : FnScope ["polynomial", "roots", "scale", "often", "part"] ["polynomial"] (defScope s_rational_roots) := ⟨rfl, rfl, rfl, by decide +kernel, rfl, by decide +kernel, by decide +kernel⟩
abbrev s_Line___init__ : Stmt := inClass (top 49) 0
abbrev N_Line___init__ : List Str := ["self"]
theorem sc_Line___init__ : FnScope ["self"] ["self"] (defScope s_Line___init__) := ⟨rfl, rfl, rfl, by decide +kernel, rfl, by decide +kernel, by decide +kernel⟩
abbrev s_number_handed : Stmt := top 50
abbrev N_number_handed : List Str := ["handed"]
theorem sc_number_handed : FnScope ["handed"] ["handed"] (defScope s_number_handed) := ⟨rfl, rfl, rfl, by decide +kernel, rfl, by decide +kernel, by decide +kernel⟩
abbrev s_polynomial_handed : Stmt := top 51
abbrev N_polynomial_handed : List Str := ["numbers", "handed"]
theorem sc_polynomial_handed : FnScope ["numbers", "handed"] ["numbers"] (defScope s_polynomial_handed) := ⟨rfl, rfl, rfl, by decide +kernel, rfl, by decide +kernel, by decide +kernel⟩
abbrev s_may_be_taken : Stmt := top 52
abbrev N_may_be_taken : List Str := ["numbers"]
theorem sc_may_be_taken : FnScope ["numbers"] ["numbers"] (defScope s_may_be_taken) := ⟨rfl, rfl, rfl, by decide +kernel, rfl, by decide +kernel, by decide +kernel⟩
abbrev s_shown : Stmt := top 53
abbrev N_shown : List Str := ["polynomial"]
theorem sc_shown : FnScope ["polynomial"] ["polynomial"] (defScope s_shown) := ⟨rfl, rfl, rfl, by decide +kernel, rfl, by decide +kernel, by decide +kernel⟩
abbrev s_fractions_shown : Stmt := top 54
abbrev N_fractions_shown : List Str := ["numbers", "below", "answer", "number"]
theorem sc_fractions_shown : FnScope ["numbers", "below", "answer", "number"] ["numbers", "below"] (defScope s_fractions_shown) := ⟨rfl, rfl, rfl, by decide +kernel, rfl, by decide +kernel, by decide +kernel⟩
abbrev s_answer_one : Stmt := top 55
abbrev N_answer_one : List Str := ["line", "numbers"]
theorem sc_answer_one : FnScope ["line", "numbers"] ["line", "numbers"] (defScope s_answer_one) := ⟨rfl, rfl, rfl, by decide +kernel, rfl, by decide +kernel, by decide +kernel⟩
abbrev s_answer_two : Stmt := top 56
abbrev N_answer_two : List Str := ["line", "numbers"]
theorem sc_answer_two : FnScope ["line", "numbers"] ["line", "numbers"] (defScope s_answer_two) := ⟨rfl, rfl, rfl, by decide +kernel, rfl, by decide +kernel, by decide +kernel⟩
abbrev s_answer_times : Stmt := top 57
abbrev N_answer_times : List Str := ["line"]
theorem sc_answer_times : FnScope ["line"] ["line"] (defScope s_answer_times) := ⟨rfl, rfl, rfl, by decide +kernel, rfl, by decide +kernel, by decide +kernel⟩
abbrev s_answer_divide : Stmt := top 58
abbrev N_answer_divide : List Str := ["line", "parts", "scale"]
theorem sc_answer_divide : FnScope ["line", "parts", "scale"] ["line"] (defScope s_answer_divide) := ⟨rfl, rfl, rfl, by decide +kernel, rfl, by decide +kernel, by decide +kernel⟩
abbrev s_answer_common : Stmt := top 59
abbrev N_answer_common : List Str := ["line"]
theorem sc_answer_common : FnScope ["line"] ["line"] (defScope s_answer_common) := ⟨rfl, rfl, rfl, by decide +kernel, rfl, by decide +kernel, by decide +kernel⟩
abbrev s_answer_resultant : Stmt := top 60
abbrev N_answer_resultant : List Str := ["line"]
theorem sc_answer_resultant : FnScope ["line"] ["line"] (defScope s_answer_resultant) := ⟨rfl, rfl, rfl, by decide +kernel, rfl, by decide +kernel, by decide +kernel⟩
abbrev s_answer_disc : Stmt := top 61
abbrev N_answer_disc : List Str := ["line"]
theorem sc_answer_disc : FnScope ["line"] ["line"] (defScope s_answer_disc) := ⟨rfl, rfl, rfl, by decide +kernel, rfl, by decide +kernel, by decide +kernel⟩
abbrev s_may_be_taken_apart : Stmt := top 62
abbrev N_may_be_taken_apart : List Str := ["polynomial", "largest", "number"]
theorem sc_may_be_taken_apart : FnScope ["polynomial", "largest", "number"] ["polynomial"] (defScope s_may_be_taken_apart) := ⟨rfl, rfl, rfl, by decide +kernel, rfl, by decide +kernel, by decide +kernel⟩
abbrev s_answer_apart : Stmt := top 63
abbrev N_answer_apart : List Str := ["line", "counted", "answer", "often", "part"]
theorem sc_answer_apart : FnScope ["line", "counted", "answer", "often", "part"] ["line"] (defScope s_answer_apart) := ⟨rfl, rfl, rfl, by decide +kernel, rfl, by decide +kernel, by decide +kernel⟩
abbrev s_answer_irreducible : Stmt := top 64
abbrev N_answer_irreducible : List Str := ["line"]
theorem sc_answer_irreducible : FnScope ["line"] ["line"] (defScope s_answer_irreducible) := ⟨rfl, rfl, rfl, by decide +kernel, rfl, by decide +kernel, by decide +kernel⟩
abbrev s_answer_rationals : Stmt := top 65
abbrev N_answer_rationals : List Str := ["line", "roots", "answer", "root"]
theorem sc_answer_rationals : FnScope ["line", "roots", "answer", "root"] ["line"] (defScope s_answer_rationals) := ⟨rfl, rfl, rfl, by decide +kernel, rfl, by decide +kernel, by decide +kernel⟩
abbrev s_answer_squarefree : Stmt := top 66
abbrev N_answer_squarefree : List Str := ["line"]
theorem sc_answer_squarefree : FnScope ["line"] ["line"] (defScope s_answer_squarefree) := ⟨rfl, rfl, rfl, by decide +kernel, rfl, by decide +kernel, by decide +kernel⟩
abbrev s_answer_circle : Stmt := top 67
abbrev N_answer_circle : List Str := ["line", "place"]
theorem sc_answer_circle : FnScope ["line", "place"] ["line", "place"] (defScope s_answer_circle) := ⟨rfl, rfl, rfl, by decide +kernel, rfl, by decide +kernel, by decide +kernel⟩
abbrev s_answer_value : Stmt := top 68
abbrev N_answer_value : List Str := ["line", "handed", "below"]
theorem sc_answer_value : FnScope ["line", "handed", "below"] ["line", "handed", "below"] (defScope s_answer_value) := ⟨rfl, rfl, rfl, by decide +kernel, rfl, by decide +kernel, by decide +kernel⟩
abbrev s_answer_swap : Stmt := top 69
abbrev N_answer_swap : List Str := ["line", "first"]
theorem sc_answer_swap : FnScope ["line", "first"] ["line"] (defScope s_answer_swap) := ⟨rfl, rfl, rfl, by decide +kernel, rfl, by decide +kernel, by decide +kernel⟩
abbrev s_call_end : Stmt := top 71
abbrev N_call_end : List Str := ["calls", "place"]
theorem sc_call_end : FnScope ["calls", "place"] ["calls", "place"] (defScope s_call_end) := ⟨rfl, rfl, rfl, by decide +kernel, rfl, by decide +kernel, by decide +kernel⟩
abbrev s_answer_call : Stmt := top 72
abbrev N_answer_call : List Str := ["line", "call"]
theorem sc_answer_call : FnScope ["line", "call"] ["line", "call"] (defScope s_answer_call) := ⟨rfl, rfl, rfl, by decide +kernel, rfl, by decide +kernel, by decide +kernel⟩
abbrev s_answers : Stmt := top 73
abbrev N_answers : List Str := ["calls", "line", "answered", "place", "end", "answer"]
theorem sc_answers : FnScope ["calls", "line", "answered", "place", "end", "answer"] ["calls"] (defScope s_answers) := ⟨rfl, rfl, rfl, by decide +kernel, rfl, by decide +kernel, by decide +kernel⟩
structure Dd (K : PySem.W.Frag) (mg : Str → Option Value) (x : Str) (st : Stmt) (ps : List Str) (f : Addr) (fd : FuncData) : Prop where
  F : Fun K x x st f fd
  g : mg x = some (.ref f)
  b : Binds K fd ps []
structure Txt (K : PySem.W.Frag) (mg : Str → Option Value) where
  a_wlz : Addr
  fd_wlz : FuncData
  d_wlz : Dd K mg "without_last_zeros" s_wlz ["numbers"] a_wlz fd_wlz
  a_isz : Addr
  fd_isz : FuncData
  d_isz : Dd K mg "is_zero" s_isz ["polynomial"] a_isz fd_isz
  a_deg : Addr
  fd_deg : FuncData
  d_deg : Dd K mg "degree" s_deg ["polynomial"] a_deg fd_deg
  a_product : Addr
  fd_product : FuncData
  d_product : Dd K mg "product" s_product ["first", "second"] a_product fd_product
  a_gd : Addr
  fd_gd : FuncData
  d_gd : Dd K mg "greatest_divisor" s_gd ["left", "right"] a_gd fd_gd
  a_divisors : Addr
  fd_divisors : FuncData
  d_divisors : Dd K mg "divisors" s_divisors ["number"] a_divisors fd_divisors
  a_low : Addr
  fd_low : FuncData
  d_low : Dd K mg "lowest_terms" s_low ["above", "below"] a_low fd_low
  a_bare : Addr
  fd_bare : FuncData
  d_bare : Dd K mg "bare" s_bare ["polynomial"] a_bare fd_bare
  a_less_multiple : Addr
  fd_less_multiple : FuncData
  d_less_multiple : Dd K mg "less_multiple" s_less_multiple ["polynomial", "factor", "other"] a_less_multiple fd_less_multiple
  a_divided : Addr
  fd_divided : FuncData
  d_divided : Dd K mg "divided" s_divided ["first", "second"] a_divided fd_divided
  a_greatest_common : Addr
  fd_greatest_common : FuncData
  d_greatest_common : Dd K mg "greatest_common" s_greatest_common ["first", "second"] a_greatest_common fd_greatest_common
  a_find_row : Addr
  fd_find_row : FuncData
  d_find_row : Dd K mg "find_row" s_find_row ["rows", "column"] a_find_row fd_find_row
  a_cleared_row : Addr
  fd_cleared_row : FuncData
  d_cleared_row : Dd K mg "cleared_row" s_cleared_row ["row", "top_row", "column", "before"] a_cleared_row fd_cleared_row
  a_determinant : Addr
  fd_determinant : FuncData
  d_determinant : Dd K mg "determinant" s_determinant ["table"] a_determinant fd_determinant
  a_shifted_rows : Addr
  fd_shifted_rows : FuncData
  d_shifted_rows : Dd K mg "shifted_rows" s_shifted_rows ["polynomial", "count", "width"] a_shifted_rows fd_shifted_rows
  a_resultant : Addr
  fd_resultant : FuncData
  d_resultant : Dd K mg "resultant" s_resultant ["first", "second"] a_resultant fd_resultant
  a_slope : Addr
  fd_slope : FuncData
  d_slope : Dd K mg "slope" s_slope ["polynomial"] a_slope fd_slope
  a_discriminant : Addr
  fd_discriminant : FuncData
  d_discriminant : Dd K mg "discriminant" s_discriminant ["polynomial"] a_discriminant fd_discriminant
  a_square_free : Addr
  fd_square_free : FuncData
  d_square_free : Dd K mg "square_free" s_square_free ["polynomial"] a_square_free fd_square_free
  a_value_at : Addr
  fd_value_at : FuncData
  d_value_at : Dd K mg "value_at" s_value_at ["polynomial", "above", "below"] a_value_at fd_value_at
  a_power_less_1 : Addr
  fd_power_less_1 : FuncData
  d_power_less_1 : Dd K mg "power_less_1" s_power_less_1 ["power"] a_power_less_1 fd_power_less_1
  a_circle : Addr
  fd_circle : FuncData
  d_circle : Dd K mg "circle" s_circle ["place"] a_circle fd_circle
  a_signed_divisors : Addr
  fd_signed_divisors : FuncData
  d_signed_divisors : Dd K mg "signed_divisors" s_signed_divisors ["number"] a_signed_divisors fd_signed_divisors
  a_divides : Addr
  fd_divides : FuncData
  d_divides : Dd K mg "divides" s_divides ["part", "polynomial"] a_divides fd_divides
  a_part_of_degree_1 : Addr
  fd_part_of_degree_1 : FuncData
  d_part_of_degree_1 : Dd K mg "part_of_degree_1" s_part_of_degree_1 ["polynomial"] a_part_of_degree_1 fd_part_of_degree_1
  a_part_of_degree_2 : Addr
  fd_part_of_degree_2 : FuncData
  d_part_of_degree_2 : Dd K mg "part_of_degree_2" s_part_of_degree_2 ["polynomial"] a_part_of_degree_2 fd_part_of_degree_2
  a_lowest_part : Addr
  fd_lowest_part : FuncData
  d_lowest_part : Dd K mg "lowest_part" s_lowest_part ["polynomial"] a_lowest_part fd_lowest_part
  a_all_parts : Addr
  fd_all_parts : FuncData
  d_all_parts : Dd K mg "all_parts" s_all_parts ["polynomial"] a_all_parts fd_all_parts
  a_degree_and_numbers : Addr
  fd_degree_and_numbers : FuncData
  d_degree_and_numbers : Dd K mg "degree_and_numbers" s_degree_and_numbers ["part"] a_degree_and_numbers fd_degree_and_numbers
  a_counted_parts : Addr
  fd_counted_parts : FuncData
  d_counted_parts : Dd K mg "counted_parts" s_counted_parts ["polynomial"] a_counted_parts fd_counted_parts
  a_whole_number : Addr
  fd_whole_number : FuncData
  d_whole_number : Dd K mg "whole_number" s_whole_number ["polynomial"] a_whole_number fd_whole_number
  a_is_irreducible : Addr
  fd_is_irreducible : FuncData
  d_is_irreducible : Dd K mg "is_irreducible" s_is_irreducible ["polynomial"] a_is_irreducible fd_is_irreducible
  a_rational_roots : Addr
  fd_rational_roots : FuncData
  d_rational_roots : Dd K mg "rational_roots" s_rational_roots ["polynomial"] a_rational_roots fd_rational_roots
  a_number_handed : Addr
  fd_number_handed : FuncData
  d_number_handed : Dd K mg "number_handed" s_number_handed ["handed"] a_number_handed fd_number_handed
  a_polynomial_handed : Addr
  fd_polynomial_handed : FuncData
  d_polynomial_handed : Dd K mg "polynomial_handed" s_polynomial_handed ["numbers"] a_polynomial_handed fd_polynomial_handed
  a_may_be_taken : Addr
  fd_may_be_taken : FuncData
  d_may_be_taken : Dd K mg "may_be_taken" s_may_be_taken ["numbers"] a_may_be_taken fd_may_be_taken
  a_shown : Addr
  fd_shown : FuncData
  d_shown : Dd K mg "shown" s_shown ["polynomial"] a_shown fd_shown
  a_fractions_shown : Addr
  fd_fractions_shown : FuncData
  d_fractions_shown : Dd K mg "fractions_shown" s_fractions_shown ["numbers", "below"] a_fractions_shown fd_fractions_shown
  a_answer_one : Addr
  fd_answer_one : FuncData
  d_answer_one : Dd K mg "answer_one" s_answer_one ["line", "numbers"] a_answer_one fd_answer_one
  a_answer_two : Addr
  fd_answer_two : FuncData
  d_answer_two : Dd K mg "answer_two" s_answer_two ["line", "numbers"] a_answer_two fd_answer_two
  a_answer_times : Addr
  fd_answer_times : FuncData
  d_answer_times : Dd K mg "answer_times" s_answer_times ["line"] a_answer_times fd_answer_times
  a_answer_divide : Addr
  fd_answer_divide : FuncData
  d_answer_divide : Dd K mg "answer_divide" s_answer_divide ["line"] a_answer_divide fd_answer_divide
  a_answer_common : Addr
  fd_answer_common : FuncData
  d_answer_common : Dd K mg "answer_common" s_answer_common ["line"] a_answer_common fd_answer_common
  a_answer_resultant : Addr
  fd_answer_resultant : FuncData
  d_answer_resultant : Dd K mg "answer_resultant" s_answer_resultant ["line"] a_answer_resultant fd_answer_resultant
  a_answer_disc : Addr
  fd_answer_disc : FuncData
  d_answer_disc : Dd K mg "answer_disc" s_answer_disc ["line"] a_answer_disc fd_answer_disc
  a_may_be_taken_apart : Addr
  fd_may_be_taken_apart : FuncData
  d_may_be_taken_apart : Dd K mg "may_be_taken_apart" s_may_be_taken_apart ["polynomial"] a_may_be_taken_apart fd_may_be_taken_apart
  a_answer_apart : Addr
  fd_answer_apart : FuncData
  d_answer_apart : Dd K mg "answer_apart" s_answer_apart ["line"] a_answer_apart fd_answer_apart
  a_answer_irreducible : Addr
  fd_answer_irreducible : FuncData
  d_answer_irreducible : Dd K mg "answer_irreducible" s_answer_irreducible ["line"] a_answer_irreducible fd_answer_irreducible
  a_answer_rationals : Addr
  fd_answer_rationals : FuncData
  d_answer_rationals : Dd K mg "answer_rationals" s_answer_rationals ["line"] a_answer_rationals fd_answer_rationals
  a_answer_squarefree : Addr
  fd_answer_squarefree : FuncData
  d_answer_squarefree : Dd K mg "answer_squarefree" s_answer_squarefree ["line"] a_answer_squarefree fd_answer_squarefree
  a_answer_circle : Addr
  fd_answer_circle : FuncData
  d_answer_circle : Dd K mg "answer_circle" s_answer_circle ["line", "place"] a_answer_circle fd_answer_circle
  a_answer_value : Addr
  fd_answer_value : FuncData
  d_answer_value : Dd K mg "answer_value" s_answer_value ["line", "handed", "below"] a_answer_value fd_answer_value
  a_answer_swap : Addr
  fd_answer_swap : FuncData
  d_answer_swap : Dd K mg "answer_swap" s_answer_swap ["line"] a_answer_swap fd_answer_swap
  a_call_end : Addr
  fd_call_end : FuncData
  d_call_end : Dd K mg "call_end" s_call_end ["calls", "place"] a_call_end fd_call_end
  a_answer_call : Addr
  fd_answer_call : FuncData
  d_answer_call : Dd K mg "answer_call" s_answer_call ["line", "call"] a_answer_call fd_answer_call
  a_answers : Addr
  fd_answers : FuncData
  d_answers : Dd K mg "answers" s_answers ["calls"] a_answers fd_answers
  m_abs : mg "abs" = none
  m_enumerate : mg "enumerate" = none
  m_len : mg "len" = none
  m_list : mg "list" = none
  m_max : mg "max" = none
  m_range : mg "range" = none
  m_reversed : mg "reversed" = none
  m_sorted : mg "sorted" = none
  m_sum : mg "sum" = none
  m_zip : mg "zip" = none
  a_Line : Addr
  f_Line : Addr
  fd_Line : FuncData
  F_Line : Fun K "__init__" "Line.__init__" s_Line___init__ f_Line fd_Line
  mk_Line : Mk K a_Line f_Line
  b_Line : Binds K fd_Line ["self"] []
  g_Line : mg "Line" = some (.ref a_Line)
  o_Line : ObC K a_Line
  co_rational_roots : Addr
  ta_rational_roots : Addr
  cc_rational_roots : fd_rational_roots.code = .ref co_rational_roots
  hd_rational_roots : PySem.W.codeHdIn K co_rational_roots ta_rational_roots = true
  t_CALL_ONE : Nat
  c_CALL_ONE : mg "CALL_ONE" = some (.int 0 t_CALL_ONE)
  t_CALL_TWO : Nat
  c_CALL_TWO : mg "CALL_TWO" = some (.int 1 t_CALL_TWO)
  t_CALL_CIRCLE : Nat
  c_CALL_CIRCLE : mg "CALL_CIRCLE" = some (.int 11 t_CALL_CIRCLE)
  t_CALL_VALUE : Nat
  c_CALL_VALUE : mg "CALL_VALUE" = some (.int 12 t_CALL_VALUE)
  t_REFUSED_NUMBERS : Nat
  c_REFUSED_NUMBERS : mg "REFUSED_NUMBERS" = some (.int (-1) t_REFUSED_NUMBERS)
  t_REFUSED_DEGREE : Nat
  c_REFUSED_DEGREE : mg "REFUSED_DEGREE" = some (.int (-5) t_REFUSED_DEGREE)
  t_REFUSED_POLYNOMIAL : Nat
  c_REFUSED_POLYNOMIAL : mg "REFUSED_POLYNOMIAL" = some (.int (-6) t_REFUSED_POLYNOMIAL)
  t_REFUSED_ZERO : Nat
  c_REFUSED_ZERO : mg "REFUSED_ZERO" = some (.int (-6) t_REFUSED_ZERO)
  t_MOST_NUMBERS : Nat
  c_MOST_NUMBERS : mg "MOST_NUMBERS" = some (.int 6 t_MOST_NUMBERS)
  t_HIGHEST_HANDED : Nat
  c_HIGHEST_HANDED : mg "HIGHEST_HANDED" = some (.int 60 t_HIGHEST_HANDED)
  t_HIGHEST_DEGREE : Nat
  c_HIGHEST_DEGREE : mg "HIGHEST_DEGREE" = some (.int 5 t_HIGHEST_DEGREE)
  t_HIGHEST_CIRCLE : Nat
  c_HIGHEST_CIRCLE : mg "HIGHEST_CIRCLE" = some (.int 30 t_HIGHEST_CIRCLE)
  t_LARGEST_TAKEN_APART : Nat
  c_LARGEST_TAKEN_APART : mg "LARGEST_TAKEN_APART" = some (.int 12 t_LARGEST_TAKEN_APART)
  d_PLAIN_CALLS : Addr
  es_PLAIN_CALLS : Array DictEntry
  n_PLAIN_CALLS : Nat
  k_PLAIN_CALLS : KInt K d_PLAIN_CALLS es_PLAIN_CALLS n_PLAIN_CALLS
  g_PLAIN_CALLS : mg "PLAIN_CALLS" = some (.ref d_PLAIN_CALLS)
  nd_PLAIN_CALLS : ([a_answer_times, a_answer_divide, a_answer_common, a_answer_resultant, a_answer_disc, a_answer_apart, a_answer_irreducible, a_answer_rationals, a_answer_squarefree, a_answer_swap] : List Addr).Nodup
  x_PLAIN_CALLS_2 : findBy Value.isInt es_PLAIN_CALLS 2 = some (.ref a_answer_times)
  x_PLAIN_CALLS_3 : findBy Value.isInt es_PLAIN_CALLS 3 = some (.ref a_answer_divide)
  x_PLAIN_CALLS_4 : findBy Value.isInt es_PLAIN_CALLS 4 = some (.ref a_answer_common)
  x_PLAIN_CALLS_5 : findBy Value.isInt es_PLAIN_CALLS 5 = some (.ref a_answer_resultant)
  x_PLAIN_CALLS_6 : findBy Value.isInt es_PLAIN_CALLS 6 = some (.ref a_answer_disc)
  x_PLAIN_CALLS_7 : findBy Value.isInt es_PLAIN_CALLS 7 = some (.ref a_answer_apart)
  x_PLAIN_CALLS_8 : findBy Value.isInt es_PLAIN_CALLS 8 = some (.ref a_answer_irreducible)
  x_PLAIN_CALLS_9 : findBy Value.isInt es_PLAIN_CALLS 9 = some (.ref a_answer_rationals)
  x_PLAIN_CALLS_10 : findBy Value.isInt es_PLAIN_CALLS 10 = some (.ref a_answer_squarefree)
  x_PLAIN_CALLS_13 : findBy Value.isInt es_PLAIN_CALLS 13 = some (.ref a_answer_swap)
/-- the line's class; the table of rational_roots' code object -/
def Txt.cl {K : PySem.W.Frag} {mg : Str → Option Value} (T : Txt K mg) : Addr × Addr := (T.a_Line, T.ta_rational_roots)
theorem Txt.oc {K : PySem.W.Frag} {mg : Str → Option Value} (T : Txt K mg) : ObC K T.cl.1 := T.o_Line
end Py
/-! Polynomials as lists: values, trimming, sums, products, the zero theorem. -/
namespace MA
/-! ### values -/
def ev (f : List Rat) (x : Rat) : Rat := f.foldr (fun c n => c + x * n) 0
@[simp] theorem ev_nil (x : Rat) : ev [] x = 0 := rfl
@[simp] theorem ev_cons (c : Rat) (f : List Rat) (x : Rat) : ev (c :: f) x = c + x * ev f x := rfl
theorem ev_append (f g : List Rat) (x : Rat) : ev (f ++ g) x = ev f x + x ^ f.length * ev g x := by
  induction f with
  | nil => simp; grind
  | cons c f ih => simp only [List.cons_append, ev_cons, ih, List.length_cons]; grind
theorem ev_zeros (n : Nat) (x : Rat) : ev (List.replicate n 0) x = 0 := by
  induction n with
  | zero => rfl
  | succ n ih => rw [List.replicate_succ, ev_cons, ih]; grind
theorem ev_all0 (f : List Rat) (h : ∀ c ∈ f, c = 0) (x : Rat) : ev f x = 0 := by
  induction f with
  | nil => rfl
  | cons c f ih =>
    rw [ev_cons, ih (fun d hd => h d (List.mem_cons_of_mem _ hd)), h c List.mem_cons_self]; grind
theorem ev_smul (a : Rat) (f : List Rat) (x : Rat) : ev (f.map (a * ·)) x = a * ev f x := by
  induction f with
  | nil => simp
  | cons c f ih => simp only [List.map_cons, ev_cons, ih]; grind
/-! ### the zero theorem -/
def synth (k : Rat) : List Rat → List Rat × Rat
  | [] => ([], 0)
  | [c] => ([], c)
  | c :: d :: f => ((synth k (d :: f)).2 :: (synth k (d :: f)).1, c + k * (synth k (d :: f)).2)
theorem synth_ev (k : Rat) : ∀ (f : List Rat) (x : Rat), ev f x = (x - k) * ev (synth k f).1 x + (synth k f).2
  | [], x => by simp only [synth, ev_nil]; grind
  | [c], x => by simp only [synth, ev_nil, ev_cons]; grind
  | c :: d :: f, x => by
    have ih := synth_ev k (d :: f) x
    rw [ev_cons, ih]
    simp only [synth, ev_cons]
    grind
theorem synth_len (k : Rat) : ∀ (f : List Rat), (synth k f).1.length = f.length - 1
  | [] => rfl
  | [c] => rfl
  | c :: d :: f => by
    have ih := synth_len k (d :: f)
    simp only [synth, List.length_cons] at *
    omega
theorem synth_zero (k : Rat) : ∀ (f : List Rat), (∀ c ∈ (synth k f).1, c = 0) → (synth k f).2 = 0 → ∀ c ∈ f, c = 0
  | [], _, _, c, hc => by cases hc
  | [a], _, h2, c, hc => by
    rw [List.mem_singleton] at hc
    subst hc
    exact h2
  | a :: d :: f, h1, h2, c, hc => by
    have e1 : (synth k (d :: f)).2 = 0 := h1 _ List.mem_cons_self
    have e2 : ∀ c ∈ (synth k (d :: f)).1, c = 0 := fun c hc => h1 c (List.mem_cons_of_mem _ hc)
    have ih := synth_zero k (d :: f) e2 e1
    have e3 : a + k * (synth k (d :: f)).2 = 0 := h2
    rw [e1] at e3
    rcases List.mem_cons.mp hc with h | h
    · subst h; grind
    · exact ih c h
theorem zero_of_ev : ∀ (n : Nat) (f : List Rat) (k : Nat), f.length = n → (∀ m : Nat, k ≤ m → ev f (m : Rat) = 0) → ∀ c ∈ f, c = 0
  | 0, f, k, hl, _, c, hc => by
    rw [List.length_eq_zero_iff] at hl
    subst hl
    cases hc
  | n + 1, f, k, hl, h, c, hc => by
    have hr : (synth (k : Rat) f).2 = 0 := by
      have h1 := h k (Nat.le_refl k)
      rw [synth_ev (k : Rat) f] at h1
      grind
    have hq : ∀ m : Nat, k + 1 ≤ m → ev (synth (k : Rat) f).1 (m : Rat) = 0 := fun m hm => by
      have h1 := h m (by omega)
      rw [synth_ev (k : Rat) f, hr] at h1
      have h2 : ((m : Rat) - (k : Rat)) ≠ 0 := by
        intro e
        have e2 : (m : Rat) = (k : Rat) := by grind
        have e3 : m = k := by exact_mod_cast e2
        omega
      have h3 : ((m : Rat) - (k : Rat)) * ev (synth (k : Rat) f).1 (m : Rat) = 0 := by grind
      rcases Rat.mul_eq_zero.mp h3 with h4 | h4
      · exact absurd h4 h2
      · exact h4
    have hz := zero_of_ev n (synth (k : Rat) f).1 (k + 1) (by rw [synth_len]; omega) hq
    exact synth_zero (k : Rat) f hz hr c hc
/-! ### trimming -/
section
variable {A : Type} [DecidableEq A] [Zero A]
def trimG (f : List A) : List A := (f.reverse.dropWhile fun c => c == 0).reverse
/-- the last one is not 0 -/
def Tr (f : List A) : Prop := ∀ c, f.getLast? = some c → c ≠ 0
theorem trimG_nil : trimG ([] : List A) = [] := rfl
theorem trimG_cons (c : A) (f : List A) : trimG (c :: f) = if trimG f = [] ∧ c = 0 then [] else c :: trimG f := by
  unfold trimG
  rw [List.reverse_cons, List.dropWhile_append]
  by_cases h : (List.dropWhile (fun c => c == 0) f.reverse) = []
  · rw [h]
    by_cases hc : c = 0
    · simp [hc]
    · simp [hc]
  · have h2 : (List.dropWhile (fun c => c == (0 : A)) f.reverse).isEmpty = false := by
      rw [Bool.eq_false_iff]
      intro e
      exact h (List.isEmpty_iff.mp e)
    rw [h2]
    have h3 : ¬ ((List.dropWhile (fun c => c == (0 : A)) f.reverse).reverse = [] ∧ c = 0) := fun e => h (List.reverse_eq_nil_iff.mp e.1)
    rw [if_neg h3]
    simp
theorem Tr.nil : Tr ([] : List A) := fun _ h => by cases h
theorem Tr.cons {c : A} {f : List A} (h : Tr f) (hn : f ≠ [] ∨ c ≠ 0) : Tr (c :: f) := fun d hd => by
  cases f with
  | nil =>
    have e : c = d := Option.some.inj hd
    subst e
    rcases hn with hn | hn
    · exact absurd rfl hn
    · exact hn
  | cons b f => exact h d (by rw [List.getLast?_cons_cons] at hd; exact hd)
theorem Tr.tail {c : A} {f : List A} (h : Tr (c :: f)) : Tr f := fun d hd => by
  cases f with
  | nil => cases hd
  | cons b f => exact h d (by rw [List.getLast?_cons_cons]; exact hd)
theorem Tr.one {c : A} (h : Tr [c]) : c ≠ 0 := h c rfl
theorem trimG_tr : ∀ f : List A, Tr (trimG f)
  | [] => Tr.nil
  | c :: f => by
    rw [trimG_cons]
    by_cases h : trimG f = [] ∧ c = 0
    · rw [if_pos h]; exact Tr.nil
    · rw [if_neg h]
      refine Tr.cons (trimG_tr f) ?_
      by_cases h1 : trimG f = []
      · exact Or.inr fun h2 => h ⟨h1, h2⟩
      · exact Or.inl h1
theorem trimG_of_tr : ∀ {f : List A}, Tr f → trimG f = f
  | [], _ => rfl
  | c :: f, h => by
    rw [trimG_cons, trimG_of_tr h.tail, if_neg]
    rintro ⟨h1, h2⟩
    subst h1
    exact h.one h2
theorem trimG_getD : ∀ (f : List A) (i : Nat), (trimG f).getD i 0 = f.getD i 0
  | [], i => rfl
  | c :: f, i => by
    rw [trimG_cons]
    by_cases h : trimG f = [] ∧ c = 0
    · rw [if_pos h]
      cases i with
      | zero => simp [h.2]
      | succ i =>
        have := trimG_getD f i
        rw [h.1] at this
        simpa using this
    · rw [if_neg h]
      cases i with
      | zero => simp
      | succ i => simpa using trimG_getD f i
theorem trimG_len (f : List A) : (trimG f).length ≤ f.length := by
  induction f with
  | nil => exact Nat.le_refl _
  | cons c f ih =>
    rw [trimG_cons]
    split
    · simp
    · simpa using ih
/-- two trimmed lists with the same numbers are one -/
theorem ext_tr : ∀ {f g : List A}, Tr f → Tr g → (∀ i, f.getD i 0 = g.getD i 0) → f = g
  | [], [], _, _, _ => rfl
  | [], b :: g, _, hg, h => by
    have h1 := ext_tr (f := []) (g := g) Tr.nil hg.tail (fun i => by simpa using h (i + 1))
    have h0 : (0 : A) = b := by simpa using h 0
    subst h1
    exact absurd h0.symm hg.one
  | a :: f, [], hf, _, h => by
    have h1 := ext_tr (f := f) (g := []) hf.tail Tr.nil (fun i => by simpa using h (i + 1))
    have h0 : a = 0 := by simpa using h 0
    subst h1
    exact absurd h0 hf.one
  | a :: f, b :: g, hf, hg, h => by
    have h1 := ext_tr hf.tail hg.tail (fun i => by simpa using h (i + 1))
    have h0 : a = b := by simpa using h 0
    rw [h1, h0]
theorem trimG_nil_iff {f : List A} : trimG f = [] ↔ ∀ c ∈ f, c = 0 := by
  induction f with
  | nil => simp [trimG_nil]
  | cons c f ih =>
    rw [trimG_cons]
    by_cases h : trimG f = [] ∧ c = 0
    · rw [if_pos h]
      have := ih.mp h.1
      simp [h.2]
      exact this
    · rw [if_neg h]
      constructor
      · intro e
        cases e
      · intro hx
        exact absurd ⟨ih.mpr fun d hd => hx d (List.mem_cons_of_mem _ hd), hx c List.mem_cons_self⟩ h
end
theorem trim_is (f : List Int) : Na05.trim f = trimG f := rfl
theorem trimQ_is (f : List Rat) : Na05.trimQ f = trimG f := rfl
theorem ev_trimG (f : List Rat) (x : Rat) : ev (trimG f) x = ev f x := by
  induction f with
  | nil => rfl
  | cons c f ih =>
    rw [trimG_cons]
    by_cases h : trimG f = [] ∧ c = 0
    · rw [if_pos h]
      rw [h.1] at ih
      rw [ev_cons, ← ih, h.2, ev_nil]
      grind
    · rw [if_neg h, ev_cons, ev_cons, ih]
/-! ### sums and products -/
def addL : List Rat → List Rat → List Rat
  | [], g => g
  | f, [] => f
  | a :: f, b :: g => (a + b) :: addL f g
theorem addL_nil_right (f : List Rat) : addL f [] = f := by cases f <;> rfl
theorem ev_addL : ∀ (f g : List Rat) (x : Rat), ev (addL f g) x = ev f x + ev g x
  | [], g, x => by simp only [addL, ev_nil]; grind
  | a :: f, [], x => by simp only [addL, ev_nil]; grind
  | a :: f, b :: g, x => by
    simp only [addL, ev_cons, ev_addL f g x]
    grind
theorem addL_getD : ∀ (f g : List Rat) (i : Nat), (addL f g).getD i 0 = f.getD i 0 + g.getD i 0
  | [], g, i => by simp [addL]; grind
  | a :: f, [], i => by simp [addL]; grind
  | a :: f, b :: g, 0 => by simp [addL]
  | a :: f, b :: g, i + 1 => by simpa [addL] using addL_getD f g i
theorem addL_len : ∀ (f g : List Rat), (addL f g).length = max f.length g.length
  | [], g => by simp [addL]
  | a :: f, [] => by simp [addL]
  | a :: f, b :: g => by
    have := addL_len f g
    simp only [addL, List.length_cons]
    omega
def subL (f g : List Rat) : List Rat := addL f (g.map ((-1) * ·))
theorem ev_subL (f g : List Rat) (x : Rat) : ev (subL f g) x = ev f x - ev g x := by
  unfold subL
  rw [ev_addL, ev_smul]
  grind
theorem smul_getD (a : Rat) (f : List Rat) (i : Nat) : (f.map (a * ·)).getD i 0 = a * f.getD i 0 := by
  rw [List.getD_eq_getElem?_getD, List.getElem?_map, List.getD_eq_getElem?_getD]
  cases f[i]? with
  | none => simp
  | some c => simp
theorem subL_getD (f g : List Rat) (i : Nat) : (subL f g).getD i 0 = f.getD i 0 - g.getD i 0 := by
  unfold subL
  rw [addL_getD, smul_getD]
  grind
theorem subL_len (f g : List Rat) : (subL f g).length = max f.length g.length := by
  unfold subL
  rw [addL_len, List.length_map]
/-- two lists with the same values have the same numbers -/
theorem getD_of_ev {f g : List Rat} (h : ∀ n : Nat, ev f n = ev g n) (i : Nat) : f.getD i 0 = g.getD i 0 := by
  have hz := zero_of_ev _ (subL f g) 0 rfl (fun m _ => by rw [ev_subL, h]; grind)
  have e : (subL f g).getD i 0 = 0 := by
    rw [List.getD_eq_getElem?_getD]
    cases q : (subL f g)[i]? with
    | none => rfl
    | some c => exact hz c (List.mem_of_getElem? q)
  rw [subL_getD] at e
  grind
theorem ext_ev {f g : List Rat} (hf : Tr f) (hg : Tr g) (h : ∀ n : Nat, ev f n = ev g n) : f = g := ext_tr hf hg (getD_of_ev h)
theorem ev_of_getD {f g : List Rat} (h : ∀ i, f.getD i 0 = g.getD i 0) (x : Rat) : ev f x = ev g x := by
  rw [← ev_trimG f, ← ev_trimG g, ext_tr (trimG_tr f) (trimG_tr g) (fun i => by rw [trimG_getD, trimG_getD, h])]
def mulL : List Rat → List Rat → List Rat
  | [], _ => []
  | a :: f, g => addL (g.map (a * ·)) (0 :: mulL f g)
theorem ev_mulL : ∀ (f g : List Rat) (x : Rat), ev (mulL f g) x = ev f x * ev g x
  | [], g, x => by simp only [mulL, ev_nil]; grind
  | a :: f, g, x => by
    simp only [mulL, ev_addL, ev_smul, ev_cons, ev_mulL f g x]
    grind
theorem mulL_len : ∀ (f g : List Rat), f ≠ [] → g ≠ [] → (mulL f g).length = f.length + g.length - 1
  | [], _, h, _ => absurd rfl h
  | [a], g, _, hg => by
    have := List.length_pos_iff.mpr hg
    simp only [mulL, addL_len, List.length_map, List.length_cons, List.length_nil]
    omega
  | a :: b :: f, g, _, hg => by
    have ih := mulL_len (b :: f) g (by simp) hg
    have := List.length_pos_iff.mpr hg
    rw [mulL, addL_len, List.length_cons, ih]
    simp only [List.length_map, List.length_cons]
    omega
theorem addL_last : ∀ (f g : List Rat), f.length < g.length → (addL f g).getLast? = g.getLast?
  | [], g, _ => rfl
  | a :: f, [], h => by simp at h
  | [a], [b], h => by simp at h
  | [a], b :: c :: g, h => by
    show ((a + b) :: addL [] (c :: g)).getLast? = _
    rw [show addL [] (c :: g) = c :: g from rfl, List.getLast?_cons_cons, List.getLast?_cons_cons]
  | a :: c :: f, b :: g, h => by
    have hl : (c :: f).length < g.length := by simpa using h
    have ih := addL_last (c :: f) g hl
    cases g with
    | nil => simp at hl
    | cons d g =>
      rw [addL]
      have : addL (c :: f) (d :: g) = (c + d) :: addL f g := rfl
      rw [this] at ih ⊢
      rw [List.getLast?_cons_cons, ih, List.getLast?_cons_cons]
theorem mulL_last : ∀ (f g : List Rat) (a b : Rat), f.getLast? = some a → g.getLast? = some b → (mulL f g).getLast? = some (a * b)
  | [], g, a, b, h, _ => by cases h
  | [c], g, a, b, h, hg => by
    have e : c = a := Option.some.inj h
    subst e
    have hn : g ≠ [] := by intro z; subst z; cases hg
    rw [mulL, mulL]
    have e2 : ∀ (l : List Rat), l ≠ [] → addL l [0] = l := by
      intro l hl
      cases l with
      | nil => exact absurd rfl hl
      | cons x l => simp [addL, addL_nil_right]; grind
    rw [e2 _ (by simpa using hn), List.getLast?_map, hg]
    rfl
  | c :: d :: f, g, a, b, h, hg => by
    have hn : g ≠ [] := by intro z; subst z; cases hg
    have ih := mulL_last (d :: f) g a b (by rw [List.getLast?_cons_cons] at h; exact h) hg
    have hl := mulL_len (d :: f) g (by simp) hn
    rw [mulL, addL_last]
    · cases hm : mulL (d :: f) g with
      | nil => rw [hm] at ih; cases ih
      | cons x l => rw [List.getLast?_cons_cons, ← hm, ih]
    · rw [List.length_map, List.length_cons, hl, List.length_cons]
      omega
theorem tr_mulL {f g : List Rat} (hf : Tr f) (hg : Tr g) (hn : g ≠ []) : Tr (mulL f g) := by
  cases ef : f.getLast? with
  | none =>
    rw [List.getLast?_eq_none_iff] at ef
    subst ef
    exact Tr.nil
  | some a =>
    cases eg : g.getLast? with
    | none => exact absurd (List.getLast?_eq_none_iff.mp eg) hn
    | some b =>
      intro c hc
      rw [mulL_last f g a b ef eg] at hc
      have e := Option.some.inj hc
      rw [← e]
      intro z
      rcases Rat.mul_eq_zero.mp z with h | h
      · exact hf a ef h
      · exact hg b eg h
/-! ### division is unique -/
theorem div_unique {g q r q' r' : List Rat} (hg : Tr g) (hn : g ≠ []) (hq : Tr q) (hq' : Tr q') (hr : Tr r) (hr' : Tr r') (l : r.length < g.length) (l' : r'.length < g.length)
    (h : ∀ n : Nat, ev g n * ev q n + ev r n = ev g n * ev q' n + ev r' n) : q = q' ∧ r = r' := by
  have hd : trimG (subL q q') = [] := by
    apply Decidable.byContradiction
    intro hne
    have hm : trimG (subL r' r) = mulL g (trimG (subL q q')) := ext_ev (trimG_tr _) (tr_mulL hg (trimG_tr _) hne) fun n => by
      rw [ev_trimG, ev_mulL, ev_trimG, ev_subL, ev_subL]
      have := h n
      grind
    have h1 := trimG_len (subL r' r)
    rw [hm, mulL_len _ _ hn hne, subL_len] at h1
    have := List.length_pos_iff.mpr hne
    omega
  have hqq : q = q' := ext_ev hq hq' fun n => by
    have : ev (trimG (subL q q')) n = 0 := by rw [hd]; rfl
    rw [ev_trimG, ev_subL] at this
    grind
  subst hqq
  exact ⟨rfl, ext_ev hr hr' fun n => by have := h n; grind⟩
end MA
/-! The specification's division. -/
namespace MA
theorem range_getD {A : Type} [Zero A] (n : Nat) (f : Nat → A) (i : Nat) : ((List.range n).map f).getD i 0 = if i < n then f i else 0 := by
  rw [List.getD_eq_getElem?_getD, List.getElem?_map]
  by_cases h : i < n
  · rw [List.getElem?_range h, if_pos h]; rfl
  · rw [List.getElem?_eq_none (by simpa using h), if_neg h]; rfl
theorem getD_ge {A : Type} [Zero A] {f : List A} {i : Nat} (h : f.length ≤ i) : f.getD i 0 = 0 := by
  rw [List.getD_eq_getElem?_getD, List.getElem?_eq_none h]; rfl
theorem shift_getD (k : Nat) (g : List Rat) (i : Nat) : (List.replicate k 0 ++ g).getD i 0 = if i < k then 0 else g.getD (i - k) 0 := by
  rw [List.getD_eq_getElem?_getD, List.getElem?_append]
  simp only [List.length_replicate]
  by_cases h : i < k
  · rw [if_pos h, if_pos h, List.getElem?_replicate, if_pos h]; rfl
  · rw [if_neg h, if_neg h, List.getD_eq_getElem?_getD]
theorem ev_shift (k : Nat) (g : List Rat) (x : Rat) : ev (List.replicate k 0 ++ g) x = x ^ k * ev g x := by
  rw [ev_append, ev_zeros, List.length_replicate]; grind
theorem getLastD_of {A : Type} {f : List A} {a d : A} (h : f.getLast? = some a) : f.getLastD d = a := by
  rw [List.getLastD_eq_getLast?, h]; rfl
theorem getD_last {A : Type} [Zero A] {f : List A} {a : A} (h : f.getLast? = some a) : f.getD (f.length - 1) 0 = a := by
  rw [List.getD_eq_getElem?_getD, ← List.getLast?_eq_getElem?, h]; rfl
theorem exists_last {A : Type} {f : List A} (h : f ≠ []) : ∃ a, f.getLast? = some a := by
  cases e : f.getLast? with
  | none => exact absurd (List.getLast?_eq_none_iff.mp e) h
  | some a => exact ⟨a, rfl⟩
theorem last_of_getD {A : Type} [Zero A] {f : List A} (h : f ≠ []) : f.getLast? = some (f.getD (f.length - 1) 0) := by
  obtain ⟨a, e⟩ := exists_last h
  rw [getD_last e, e]
theorem tr_of_getD {A : Type} [DecidableEq A] [Zero A] {f : List A} (h : f.getD (f.length - 1) 0 ≠ 0) : Tr f := fun c hc => by
  rw [getD_last hc] at h; exact h
theorem divFrom_ok : ∀ (n : Nat) (q r g : List Rat), Tr g → g ≠ [] → Tr r → Tr q → (q = [] ∨ r.length + 1 < q.length + g.length) → r.length < n + g.length →
    (∀ x, ev g x * ev (Na05.divFrom n q r g).1 x + ev (Na05.divFrom n q r g).2 x = ev g x * ev q x + ev r x) ∧ Tr (Na05.divFrom n q r g).1 ∧ Tr (Na05.divFrom n q r g).2 ∧ (Na05.divFrom n q r g).2.length < g.length
  | 0, q, r, g, _, _, hr, hq, _, hl => ⟨fun _ => rfl, hq, hr, by show r.length < g.length; omega⟩
  | n + 1, q, r, g, hg, hn, hr, hq, hc, hl => by
    unfold Na05.divFrom
    by_cases h : r.length < g.length
    · rw [if_pos h]
      exact ⟨fun _ => rfl, hq, hr, h⟩
    · rw [if_neg h]
      dsimp only
      have hgl := List.length_pos_iff.mpr hn
      have hrn : r ≠ [] := by intro e; subst e; simp at h; exact hn h
      obtain ⟨b, eb⟩ := exists_last hn
      obtain ⟨a, ea⟩ := exists_last hrn
      have hb : b ≠ 0 := hg b eb
      have ha : a ≠ 0 := hr a ea
      rw [getLastD_of ea, getLastD_of eb]
      generalize hcc : a / b = c
      have hcb : c * b = a := by rw [← hcc]; grind
      have hc0 : c ≠ 0 := by intro z; rw [z] at hcb; apply ha; grind
      generalize hk : r.length - g.length = k
      have hrk : r.length = k + g.length := by omega
      generalize hQ : ((List.range (max q.length (k + 1))).map fun i => q.getD i 0 + (if i = k then c else 0)) = Q
      generalize hW : ((List.range r.length).map fun i => r.getD i 0 - (if i < k then 0 else c * g.getD (i - k) 0)) = W
      have evQ : ∀ x, ev Q x = ev q x + x ^ k * c := fun x => by
        have : ev Q x = ev (addL q (List.replicate k 0 ++ [c])) x := ev_of_getD (fun i => by
          rw [← hQ, range_getD, addL_getD, shift_getD]
          by_cases h1 : i < max q.length (k + 1)
          · rw [if_pos h1]
            by_cases h2 : i = k
            · subst h2; simp
            · rw [if_neg h2]
              by_cases h3 : i < k
              · rw [if_pos h3]
              · rw [if_neg h3, getD_ge (f := [c]) (by simp; omega)]
          · rw [if_neg h1, getD_ge (f := q) (by omega), if_neg (by omega), getD_ge (f := [c]) (by simp; omega)]; grind) x
        rw [this, ev_addL, ev_shift]
        simp only [ev_cons, ev_nil]
        grind
      have evW : ∀ x, ev W x = ev r x - x ^ k * (c * ev g x) := fun x => by
        have : ev W x = ev (subL r (List.replicate k 0 ++ g.map (c * ·))) x := ev_of_getD (fun i => by
          rw [← hW, range_getD, subL_getD, shift_getD, smul_getD]
          by_cases h1 : i < r.length
          · rw [if_pos h1]
          · rw [if_neg h1, getD_ge (f := r) (by omega), if_neg (by omega), getD_ge (f := g) (by omega)]; grind) x
        rw [this, ev_subL, ev_shift, ev_smul]
      have lW : W.length = r.length := by rw [← hW]; simp
      have evD : ∀ x, ev W.dropLast x = ev W x := fun x => by
        have hwn : W ≠ [] := by intro e; rw [e] at lW; simp at lW; omega
        have e0 : W.getLast hwn = 0 := by
          have h1 := last_of_getD hwn
          rw [List.getLast?_eq_some_getLast hwn] at h1
          have h2 := Option.some.inj h1
          rw [h2, ← hW, range_getD, hW, lW, if_pos (by omega), if_neg (by omega), getD_last ea, show r.length - 1 - k = g.length - 1 by omega, getD_last eb]
          grind
        have h3 := List.dropLast_concat_getLast hwn
        rw [e0] at h3
        have h4 : ev W x = ev (W.dropLast ++ [0]) x := by rw [h3]
        rw [h4, ev_append]
        simp only [ev_cons, ev_nil]
        grind
      have lD : (Na05.trimQ W.dropLast).length + 1 ≤ r.length := by
        have := trimG_len W.dropLast
        rw [List.length_dropLast, lW] at this
        rw [trimQ_is]
        omega
      have lQ : Q.length = max q.length (k + 1) := by rw [← hQ]; simp
      have tQ : Tr Q := by
        refine tr_of_getD ?_
        rw [lQ, ← hQ, range_getD, if_pos (by omega)]
        rcases hc with e | e
        · subst e
          simp
          grind
        · rw [if_neg (by omega), show max q.length (k + 1) - 1 = q.length - 1 by omega]
          have hqn : q ≠ [] := by intro e2; subst e2; simp at e; omega
          obtain ⟨d, ed⟩ := exists_last hqn
          rw [getD_last ed]
          have := hq d ed
          grind
      obtain ⟨i1, i2, i3, i4⟩ := divFrom_ok n Q (Na05.trimQ W.dropLast) g hg hn (trimG_tr _) tQ (Or.inr (by omega)) (by omega)
      refine ⟨fun x => ?_, i2, i3, i4⟩
      rw [i1 x, evQ, trimQ_is, ev_trimG, evD, evW]
      grind
/-- the specification's division, of trimmed ones -/
theorem div_ok {f g : List Rat} (hf : Tr f) (hg : Tr g) (hn : g ≠ []) :
    (∀ x, ev g x * ev (Na05.div f g).1 x + ev (Na05.div f g).2 x = ev f x) ∧ Tr (Na05.div f g).1 ∧ Tr (Na05.div f g).2 ∧ (Na05.div f g).2.length < g.length := by
  unfold Na05.div
  rw [if_neg hn]
  obtain ⟨i1, i2, i3, i4⟩ := divFrom_ok (f.length + 1) [] f g hg hn hf Tr.nil (Or.inl rfl) (by omega)
  refine ⟨fun x => ?_, i2, i3, i4⟩
  rw [i1 x, ev_nil]
  grind
/-- what keeps the division's promise is the specification's -/
theorem div_is {f g q r : List Rat} (hf : Tr f) (hg : Tr g) (hn : g ≠ []) (hq : Tr q) (hr : Tr r) (l : r.length < g.length) (h : ∀ n : Nat, ev g n * ev q n + ev r n = ev f n) : Na05.div f g = (q, r) := by
  obtain ⟨i1, i2, i3, i4⟩ := div_ok hf hg hn
  obtain ⟨e1, e2⟩ := div_unique hg hn i2 hq i3 hr i4 l fun n => by rw [i1 n, h n]
  exact Prod.ext e1 e2
end MA
/-! Whole numbers without a common divisor: content, whole, cleared. -/
namespace MA
open Na05 (toQ content sign whole cleared)
theorem rat_eq (r : Rat) : r = (r.num : Rat) / (r.den : Rat) := by
  have := Rat.mkRat_self r
  rw [Rat.mkRat_eq_div] at this
  exact this.symm
theorem den_ne (r : Rat) : (r.den : Rat) ≠ 0 := by
  intro h
  have h2 : (r.den : Rat) = ((0 : Nat) : Rat) := h
  exact r.den_nz (Rat.natCast_inj.mp h2)
theorem toQ_cons (c : Int) (f : List Int) : toQ (c :: f) = (c : Rat) :: toQ f := rfl
theorem toQ_len (f : List Int) : (toQ f).length = f.length := by simp [toQ]
theorem toQ_nil_iff {f : List Int} : toQ f = [] ↔ f = [] := by simp [toQ]
theorem toQ_inj {f g : List Int} (h : toQ f = toQ g) : f = g := by
  refine List.map_inj_right (f := fun c : Int => (c : Rat)) (fun a b e => Rat.intCast_inj.mp e) |>.mp h
theorem toQ_last {f : List Int} {c : Int} (h : f.getLast? = some c) : (toQ f).getLast? = some (c : Rat) := by
  unfold toQ
  rw [List.getLast?_map, h]; rfl
theorem toQ_getD (f : List Int) (i : Nat) : (toQ f).getD i 0 = ((f.getD i 0 : Int) : Rat) := by
  rw [List.getD_eq_getElem?_getD, List.getD_eq_getElem?_getD]
  unfold toQ
  rw [List.getElem?_map]
  cases f[i]? with
  | none => rfl
  | some c => rfl
theorem tr_toQ {f : List Int} : Tr (toQ f) ↔ Tr f := by
  constructor
  · intro h c hc z
    subst z
    exact h 0 (by rw [toQ_last hc]; rfl) rfl
  · intro h c hc z
    unfold toQ at hc
    rw [List.getLast?_map] at hc
    cases e : f.getLast? with
    | none => rw [e] at hc; cases hc
    | some d =>
      rw [e] at hc
      have e2 : (d : Rat) = c := Option.some.inj hc
      rw [z] at e2
      have e3 : (d : Rat) = ((0 : Int) : Rat) := e2
      exact h d e (Rat.intCast_inj.mp e3)
theorem toQ_smul (a : Int) (f : List Int) : toQ (f.map (a * ·)) = (toQ f).map ((a : Rat) * ·) := by
  unfold toQ
  rw [List.map_map, List.map_map]
  refine List.map_congr_left fun c _ => ?_
  simp [Rat.intCast_mul]
theorem tr_smul {a : Rat} (ha : a ≠ 0) {f : List Rat} (h : Tr f) : Tr (f.map (a * ·)) := fun c hc => by
  rw [List.getLast?_map] at hc
  cases e : f.getLast? with
  | none => rw [e] at hc; cases hc
  | some d =>
    rw [e] at hc
    have e2 : a * d = c := Option.some.inj hc
    rw [← e2]
    intro z
    rcases Rat.mul_eq_zero.mp z with z | z
    · exact ha z
    · exact h d e z
theorem tr_smulI {a : Int} (ha : a ≠ 0) {f : List Int} (h : Tr f) : Tr (f.map (a * ·)) := by
  rw [← tr_toQ, toQ_smul]
  exact tr_smul (fun z => ha (Rat.intCast_inj.mp (show (a : Rat) = ((0 : Int) : Rat) from z))) (tr_toQ.mpr h)
theorem smul_smul (a b : Rat) (f : List Rat) : (f.map (b * ·)).map (a * ·) = f.map ((a * b) * ·) := by
  rw [List.map_map]
  exact List.map_congr_left fun c _ => by simp [Rat.mul_assoc]
theorem smul_one (f : List Rat) : f.map ((1 : Rat) * ·) = f := by
  have : (fun x : Rat => (1 : Rat) * x) = id := by funext x; simp
  rw [this, List.map_id]
/-! ### content -/
theorem content_from : ∀ (f : List Int) (g : Nat), (∀ d : Nat, d ∣ f.foldl (fun g c => Nat.gcd g c.natAbs) g ↔ (d ∣ g ∧ ∀ c ∈ f, d ∣ c.natAbs))
  | [], g, d => by simp
  | c :: f, g, d => by
    rw [List.foldl_cons, content_from f]
    rw [Nat.dvd_gcd_iff]
    constructor
    · rintro ⟨⟨h1, h2⟩, h3⟩
      exact ⟨h1, fun e he => by
        rcases List.mem_cons.mp he with h | h
        · subst h; exact h2
        · exact h3 e h⟩
    · rintro ⟨h1, h2⟩
      exact ⟨⟨h1, h2 c List.mem_cons_self⟩, fun e he => h2 e (List.mem_cons_of_mem _ he)⟩
theorem dvd_content {f : List Int} {d : Nat} : d ∣ content f ↔ ∀ c ∈ f, d ∣ c.natAbs := by
  unfold content
  rw [content_from]
  simp
theorem content_dvd {f : List Int} {c : Int} (h : c ∈ f) : content f ∣ c.natAbs := dvd_content.mp (Nat.dvd_refl _) c h
theorem content_dvdI {f : List Int} {c : Int} (h : c ∈ f) : (content f : Int) ∣ c := Int.ofNat_dvd_left.mpr (content_dvd h)
theorem content_smul (a : Int) (f : List Int) : content (f.map (a * ·)) = a.natAbs * content f := by
  have key : ∀ (f : List Int) (g : Nat), (f.map (a * ·)).foldl (fun g c => Nat.gcd g c.natAbs) (a.natAbs * g) = a.natAbs * f.foldl (fun g c => Nat.gcd g c.natAbs) g := by
    intro f
    induction f with
    | nil => intro g; rfl
    | cons c f ih =>
      intro g
      rw [List.map_cons, List.foldl_cons, List.foldl_cons, Int.natAbs_mul, Nat.gcd_mul_left, ih]
  exact key f 0
theorem content_zero_iff {f : List Int} : content f = 0 ↔ ∀ c ∈ f, c = 0 := by
  constructor
  · intro h c hc
    have := content_dvd hc
    rw [h, Nat.zero_dvd] at this
    omega
  · intro h
    have : (0 : Nat) ∣ content f := dvd_content.mpr fun c hc => by rw [h c hc]; simp
    exact Nat.zero_dvd.mp this
theorem content_pos {f : List Int} (h : Tr f) (hn : f ≠ []) : 0 < content f := by
  obtain ⟨a, ea⟩ := exists_last hn
  apply Nat.pos_of_ne_zero
  intro z
  exact h a ea (content_zero_iff.mp z a (List.mem_of_getLast? ea))
/-- bare: no common divisor but 1, the last number above 0 -/
structure Bare (f : List Int) : Prop where
  one : content f = 1
  pos : ∀ c, f.getLast? = some c → 0 < c
theorem Bare.tr {f : List Int} (h : Bare f) : Tr f := fun c hc z => by have := h.pos c hc; omega
theorem Bare.ne {f : List Int} (h : Bare f) : f ≠ [] := fun z => by
  have := h.one
  rw [z] at this
  exact absurd this (by decide)
/-- two bare ones that are the same but for a factor are the same -/
theorem bare_unique {f g : List Int} (hf : Bare f) (hg : Bare g) {c : Rat} (h : toQ f = (toQ g).map (c * ·)) : f = g := by
  have hgn := hg.ne
  obtain ⟨b, eb⟩ := exists_last hgn
  have hb := hg.pos b eb
  have hfl : f.length = g.length := by
    have := congrArg List.length h
    simpa [toQ_len] using this
  have hfn : f ≠ [] := hf.ne
  obtain ⟨a, ea⟩ := exists_last hfn
  have ha := hf.pos a ea
  have hab : (a : Rat) = c * (b : Rat) := by
    have h1 := toQ_last ea
    rw [h, List.getLast?_map, toQ_last eb] at h1
    exact (Option.some.inj h1).symm
  have hc : c = (c.num : Rat) / (c.den : Rat) := rat_eq c
  have hd := den_ne c
  have e1 : f.map ((c.den : Int) * ·) = g.map (c.num * ·) := by
    apply toQ_inj
    rw [toQ_smul, toQ_smul, h, smul_smul]
    refine List.map_congr_left fun x _ => ?_
    have : ((c.den : Int) : Rat) * c = (c.num : Rat) := by
      have e : ((c.den : Int) : Rat) = (c.den : Rat) := rfl
      rw [e]
      grind
    rw [this]
  have e2 := congrArg content e1
  rw [content_smul, content_smul, hf.one, hg.one] at e2
  have e3 : (c.den : Int) * a = c.num * b := by
    have h1 : (f.map ((c.den : Int) * ·)).getLast? = some ((c.den : Int) * a) := by rw [List.getLast?_map, ea]; rfl
    rw [e1, List.getLast?_map, eb] at h1
    exact (Option.some.inj h1).symm
  have hnum : 0 < c.num := by
    have h1 : 0 < (c.den : Int) * a := Int.mul_pos (by have := c.den_nz; omega) ha
    rw [e3] at h1
    apply Decidable.byContradiction
    intro hn
    have : c.num * b ≤ 0 := Int.mul_nonpos_of_nonpos_of_nonneg (by omega) (by omega)
    omega
  have e4 : c.num = (c.den : Int) := by omega
  have e5 : c = 1 := by
    rw [hc, e4]
    have e : ((c.den : Int) : Rat) = (c.den : Rat) := rfl
    rw [e]
    grind
  subst e5
  rw [smul_one] at h
  exact toQ_inj h
/-! ### whole -/
theorem sign_cases (f : List Int) : sign f = 1 ∨ sign f = -1 := by unfold sign; split <;> simp
theorem whole_smul {f : List Int} (h : Tr f) (hn : f ≠ []) : f = (whole f).map ((sign f * (content f : Int)) * ·) := by
  unfold whole
  rw [if_neg hn, List.map_map]
  have hp := content_pos h hn
  refine (List.map_id f).symm.trans (List.map_congr_left fun c hc => ?_)
  have hd : (content f : Int) ∣ sign f * c := Int.dvd_mul_of_dvd_right (content_dvdI hc)
  have h1 := Int.ediv_mul_cancel hd
  simp only [id, Function.comp]
  generalize hx : sign f * c / (content f : Int) = x at *
  rcases sign_cases f with e | e
  · rw [e] at h1 ⊢; rw [Int.one_mul, Int.mul_comm, h1]; omega
  · rw [e] at h1 ⊢
    have : -1 * (content f : Int) * x = - (x * (content f : Int)) := by grind
    rw [this, h1]; omega
theorem whole_bare {f : List Int} (h : Tr f) (hn : f ≠ []) : Bare (whole f) := by
  have e := whole_smul h hn
  have hp := content_pos h hn
  obtain ⟨a, ea⟩ := exists_last hn
  have ha := h a ea
  constructor
  · have e2 := congrArg content e
    rw [content_smul] at e2
    have : (sign f * (content f : Int)).natAbs = content f := by
      rw [Int.natAbs_mul]
      rcases sign_cases f with e | e <;> rw [e] <;> simp
    rw [this] at e2
    have e3 : content f * 1 = content f * content (whole f) := by omega
    exact (Nat.eq_of_mul_eq_mul_left hp e3).symm
  · intro c hc
    have h1 : f.getLast? = some (sign f * (content f : Int) * c) := by
      have e5 : f.getLast? = ((whole f).map (fun x => sign f * (content f : Int) * x)).getLast? := congrArg List.getLast? e
      rw [e5, List.getLast?_map, hc]
      rfl
    rw [ea] at h1
    have e3 := Option.some.inj h1
    have hs : sign f = if a < 0 then -1 else 1 := by unfold sign; rw [getLastD_of ea]
    have hp' : (0 : Int) < (content f : Int) := by omega
    apply Decidable.byContradiction
    intro hneg
    rw [hs] at e3
    by_cases ha0 : a < 0
    · rw [if_pos ha0] at e3
      have : (content f : Int) * c ≤ 0 := Int.mul_nonpos_of_nonneg_of_nonpos (by omega) (by omega)
      have e4 : -1 * (content f : Int) * c = - ((content f : Int) * c) := by grind
      omega
    · rw [if_neg ha0] at e3
      have : (content f : Int) * c ≤ 0 := Int.mul_nonpos_of_nonneg_of_nonpos (by omega) (by omega)
      have e4 : 1 * (content f : Int) * c = ((content f : Int) * c) := by grind
      omega
theorem whole_of_bare {f : List Int} (h : Bare f) : whole f = f := by
  have e := whole_smul h.tr h.ne
  obtain ⟨a, ea⟩ := exists_last h.ne
  have hs : sign f = 1 := by unfold sign; rw [getLastD_of ea, if_neg (by have := h.pos a ea; omega)]
  rw [hs, h.one] at e
  have : (fun x : Int => (1 * ((1 : Nat) : Int)) * x) = id := by funext x; simp
  rw [this, List.map_id] at e
  exact e.symm
/-! ### cleared -/
theorem dens_dvd : ∀ (f : List Rat) (m : Nat), m ∣ f.foldl (fun m r => Nat.lcm m r.den) m ∧ ∀ r ∈ f, r.den ∣ f.foldl (fun m r => Nat.lcm m r.den) m
  | [], m => ⟨Nat.dvd_refl _, fun r hr => by cases hr⟩
  | r :: f, m => by
    obtain ⟨h1, h2⟩ := dens_dvd f (Nat.lcm m r.den)
    rw [List.foldl_cons]
    refine ⟨Nat.dvd_trans (Nat.dvd_lcm_left _ _) h1, fun x hx => ?_⟩
    rcases List.mem_cons.mp hx with h | h
    · subst h; exact Nat.dvd_trans (Nat.dvd_lcm_right _ _) h1
    · exact h2 x h
theorem dens_pos : ∀ (f : List Rat) (m : Nat), 0 < m → 0 < f.foldl (fun m r => Nat.lcm m r.den) m
  | [], m, h => h
  | r :: f, m, h => by
    rw [List.foldl_cons]
    exact dens_pos f _ (Nat.lcm_pos h (Nat.pos_of_ne_zero r.den_nz))
theorem clear_one {r : Rat} {d : Nat} (h : r.den ∣ d) : ((r.num * ((d / r.den : Nat) : Int) : Int) : Rat) = (d : Rat) * r := by
  obtain ⟨k, rfl⟩ := h
  rw [Nat.mul_div_cancel_left _ (Nat.pos_of_ne_zero r.den_nz)]
  rw [Rat.intCast_mul]
  have e : ((k : Int) : Rat) = (k : Rat) := rfl
  rw [e, Rat.natCast_mul]
  have hd := den_ne r
  have hr := rat_eq r
  generalize (r.num : Rat) = a at *
  generalize (r.den : Rat) = b at *
  subst hr
  grind
theorem cleared_eq (q : List Rat) (hq : Tr q) : ∃ (d : Nat) (z : List Int), 0 < d ∧ cleared q = whole z ∧ Tr z ∧ toQ z = q.map ((d : Rat) * ·) := by
  refine ⟨q.foldl (fun m r => Nat.lcm m r.den) 1, q.map fun r => r.num * ((q.foldl (fun m r => Nat.lcm m r.den) 1 / r.den : Nat) : Int), dens_pos q 1 Nat.one_pos, ?_, ?_⟩
  · show whole (Na05.trim _) = _
    rw [trim_is, trimG_of_tr]
    rw [← tr_toQ]
    have : toQ (q.map fun r => r.num * ((q.foldl (fun m r => Nat.lcm m r.den) 1 / r.den : Nat) : Int)) = q.map (((q.foldl (fun m r => Nat.lcm m r.den) 1 : Nat) : Rat) * ·) := by
      unfold toQ
      rw [List.map_map]
      exact List.map_congr_left fun r hr => clear_one ((dens_dvd q 1).2 r hr)
    rw [this]
    refine tr_smul (fun z => ?_) hq
    have := dens_pos q 1 Nat.one_pos
    have e : ((q.foldl (fun m r => Nat.lcm m r.den) 1 : Nat) : Rat) = ((0 : Nat) : Rat) := z
    have := Rat.natCast_inj.mp e
    omega
  · have : toQ (q.map fun r => r.num * ((q.foldl (fun m r => Nat.lcm m r.den) 1 / r.den : Nat) : Int)) = q.map (((q.foldl (fun m r => Nat.lcm m r.den) 1 : Nat) : Rat) * ·) := by
      unfold toQ
      rw [List.map_map]
      exact List.map_congr_left fun r hr => clear_one ((dens_dvd q 1).2 r hr)
    refine ⟨?_, this⟩
    rw [← tr_toQ, this]
    refine tr_smul (fun z => ?_) hq
    have := dens_pos q 1 Nat.one_pos
    have e : ((q.foldl (fun m r => Nat.lcm m r.den) 1 : Nat) : Rat) = ((0 : Nat) : Rat) := z
    have := Rat.natCast_inj.mp e
    omega
theorem natCast_ne {d : Nat} (h : 0 < d) : (d : Rat) ≠ 0 := fun z => by
  have e : (d : Rat) = ((0 : Nat) : Rat) := z
  have := Rat.natCast_inj.mp e
  omega
theorem intCast_ne {d : Int} (h : d ≠ 0) : (d : Rat) ≠ 0 := fun z => h (Rat.intCast_inj.mp (show (d : Rat) = ((0 : Int) : Rat) from z))
theorem cleared_nil : cleared [] = [] := rfl
/-- the cleared one is bare, and the same but for a factor -/
theorem cleared_ok {q : List Rat} (hq : Tr q) (hn : q ≠ []) : Bare (cleared q) ∧ ∃ c : Rat, c ≠ 0 ∧ toQ (cleared q) = q.map (c * ·) := by
  obtain ⟨d, z, hd, h1, h2, h3⟩ := cleared_eq q hq
  have hz : z ≠ [] := fun e => by
    rw [e] at h3
    have := congrArg List.length h3
    simp [toQ_len] at this
    exact hn (List.length_eq_zero_iff.mp this.symm)
  rw [h1]
  refine ⟨whole_bare h2 hz, ?_⟩
  have e := whole_smul h2 hz
  have hs : sign z * (content z : Int) ≠ 0 := by
    have := content_pos h2 hz
    rcases sign_cases z with e | e <;> rw [e] <;> omega
  have hs' := intCast_ne hs
  refine ⟨((sign z * (content z : Int) : Int) : Rat)⁻¹ * (d : Rat), ?_, ?_⟩
  · intro zz
    rcases Rat.mul_eq_zero.mp zz with y | y
    · grind
    · exact natCast_ne hd y
  · rw [← smul_smul, ← h3]
    have e2 : toQ z = (toQ (whole z)).map (((sign z * (content z : Int) : Int) : Rat) * ·) := by
      rw [← toQ_smul, ← e]
    rw [e2, smul_smul]
    have : ((sign z * (content z : Int) : Int) : Rat)⁻¹ * ((sign z * (content z : Int) : Int) : Rat) = 1 := by grind
    rw [this, smul_one]
/-- what is bare, and the same but for a factor, is the cleared one -/
theorem cleared_is {q : List Rat} {p : List Int} (hq : Tr q) (hp : Bare p) {c : Rat} (hc : c ≠ 0) (h : q = (toQ p).map (c * ·)) : cleared q = p := by
  have hn : q ≠ [] := fun e => by
    rw [e] at h
    have := congrArg List.length h
    simp [toQ_len] at this
    exact hp.ne (List.length_eq_zero_iff.mp this.symm)
  obtain ⟨h1, d, hd, h2⟩ := cleared_ok hq hn
  refine bare_unique h1 hp (c := d * c) ?_
  rw [h2, h, smul_smul]
theorem cleared_smul {q : List Rat} (hq : Tr q) {c : Rat} (hc : c ≠ 0) : cleared (q.map (c * ·)) = cleared q := by
  by_cases hn : q = []
  · subst hn; rfl
  · obtain ⟨h1, d, hd, h2⟩ := cleared_ok hq hn
    refine cleared_is (tr_smul hc hq) h1 (c := c * d⁻¹) (by grind) ?_
    rw [h2, smul_smul]
    have : c * d⁻¹ * d = c := by grind
    rw [this]
theorem cleared_toQ {f : List Int} (h : Tr f) : cleared (toQ f) = whole f := by
  by_cases hn : f = []
  · subst hn; rfl
  · have e := whole_smul h hn
    have hs : sign f * (content f : Int) ≠ 0 := by
      have := content_pos h hn
      rcases sign_cases f with e | e <;> rw [e] <;> omega
    refine cleared_is (tr_toQ.mpr h) (whole_bare h hn) (intCast_ne hs) ?_
    rw [← toQ_smul, ← e]
theorem cleared_bare {f : List Int} (h : Bare f) : cleared (toQ f) = f := by rw [cleared_toQ h.tr, whole_of_bare h]
theorem cleared_nil_iff {q : List Rat} (hq : Tr q) : cleared q = [] ↔ q = [] := by
  constructor
  · intro h
    apply Decidable.byContradiction
    intro hn
    exact (cleared_ok hq hn).1.ne h
  · intro h; subst h; rfl
end MA
/-! Determinants: by the first column; rows; Bareiss's way. -/
namespace MD
def sumRt : Nat → (Nat → Rat) → Rat
  | 0, _ => 0
  | n + 1, f => sumRt n f + f n
theorem sumRt_congr {n : Nat} {f g : Nat → Rat} (h : ∀ i, i < n → f i = g i) : sumRt n f = sumRt n g := by
  induction n with
  | zero => rfl
  | succ n ih => rw [sumRt, sumRt, ih (fun i hi => h i (by omega)), h n (by omega)]
theorem sumRt_lin (n : Nat) (f g : Nat → Rat) (t : Rat) : sumRt n (fun i => f i + t * g i) = sumRt n f + t * sumRt n g := by
  induction n with
  | zero => simp only [sumRt]; grind
  | succ n ih => simp only [sumRt, ih]; grind
theorem sumRt_mul (n : Nat) (f : Nat → Rat) (t : Rat) : sumRt n (fun i => t * f i) = t * sumRt n f := by
  induction n with
  | zero => simp only [sumRt]; grind
  | succ n ih => simp only [sumRt, ih]; grind
theorem sumRt_zero {n : Nat} {f : Nat → Rat} (h : ∀ i, i < n → f i = 0) : sumRt n f = 0 := by
  induction n with
  | zero => rfl
  | succ n ih => rw [sumRt, ih (fun i hi => h i (by omega)), h n (by omega)]; grind
theorem sumRt_first {n : Nat} {f : Nat → Rat} (h : ∀ i, 0 < i → i < n + 1 → f i = 0) : sumRt (n + 1) f = f 0 := by
  induction n with
  | zero => simp only [sumRt]; grind
  | succ n ih => rw [sumRt, ih (fun i h0 hi => h i h0 (by omega)), h (n + 1) (by omega) (by omega)]; grind
theorem sumRt_swap {n r : Nat} {f g : Nat → Rat} (hr : r + 1 < n) (h : ∀ i, i < n → i ≠ r → i ≠ r + 1 → g i = -f i) (h1 : g r = -f (r + 1)) (h2 : g (r + 1) = -f r) : sumRt n g = -sumRt n f := by
  have small : ∀ m, m ≤ r → sumRt m g = -sumRt m f := by
    intro m
    induction m with
    | zero => intro _; simp only [sumRt]; grind
    | succ m ih => intro hm; rw [sumRt, sumRt, ih (by omega), h m (by omega) (by omega) (by omega)]; grind
  have two : sumRt (r + 2) g = -sumRt (r + 2) f := by
    simp only [sumRt]
    rw [small r (Nat.le_refl r), h1, h2]
    grind
  have big : ∀ k, r + 2 + k ≤ n → sumRt (r + 2 + k) g = -sumRt (r + 2 + k) f := by
    intro k
    induction k with
    | zero => intro _; exact two
    | succ k ih =>
      intro hk
      rw [show r + 2 + (k + 1) = (r + 2 + k) + 1 by omega, sumRt, sumRt, ih (by omega), h (r + 2 + k) (by omega) (by omega) (by omega)]
      grind
  have := big (n - (r + 2)) (by omega)
  rw [show r + 2 + (n - (r + 2)) = n by omega] at this
  exact this
abbrev Mx := Nat → Nat → Rat
def sg (i : Nat) : Rat := if i % 2 = 0 then 1 else -1
theorem sg_succ (i : Nat) : sg (i + 1) = -sg i := by
  unfold sg
  by_cases h : i % 2 = 0
  · rw [if_pos h, if_neg (by omega)]
  · rw [if_neg h, if_pos (by omega)]; grind
def skip (i r : Nat) : Nat := if r < i then r else r + 1
def minor (i : Nat) (M : Mx) : Mx := fun r c => M (skip i r) (c + 1)
def detF : Nat → Mx → Rat
  | 0, _ => 1
  | n + 1, M => sumRt (n + 1) fun i => sg i * M i 0 * detF n (minor i M)
theorem detF_succ (n : Nat) (M : Mx) : detF (n + 1) M = sumRt (n + 1) fun i => sg i * M i 0 * detF n (minor i M) := rfl
theorem skip_lt {n i r : Nat} (h : r < n) : skip i r < n + 1 := by unfold skip; split <;> omega
theorem skip_ne (i r : Nat) : skip i r ≠ i := by unfold skip; split <;> omega
theorem detF_congr : ∀ {n : Nat} {M M' : Mx}, (∀ r c, r < n → c < n → M r c = M' r c) → detF n M = detF n M'
  | 0, _, _, _ => rfl
  | n + 1, M, M', h => sumRt_congr fun i hi => by
    rw [h i 0 hi (by omega), detF_congr (n := n) (M := minor i M) (M' := minor i M') fun r c hr hc => h _ _ (skip_lt hr) (by omega)]
def setRow (M : Mx) (r : Nat) (v : Nat → Rat) : Mx := fun r' c => if r' = r then v c else M r' c
theorem setRow_same (M : Mx) (r : Nat) (v : Nat → Rat) (c : Nat) : setRow M r v r c = v c := if_pos rfl
theorem setRow_ne (M : Mx) {r r' : Nat} (v : Nat → Rat) (c : Nat) (h : r' ≠ r) : setRow M r v r' c = M r' c := if_neg h
theorem minor_setRow_same (M : Mx) (r : Nat) (v : Nat → Rat) : minor r (setRow M r v) = minor r M := by
  funext x c
  exact setRow_ne M v _ (skip_ne r x)
theorem minor_setRow (M : Mx) {r i : Nat} (v : Nat → Rat) (h : i ≠ r) : minor i (setRow M r v) = setRow (minor i M) (if r < i then r else r - 1) (fun c => v (c + 1)) := by
  funext x c
  unfold minor setRow skip
  by_cases h1 : r < i
  · rw [if_pos h1]
    by_cases h2 : x < i
    · simp only [if_pos h2]
    · simp only [if_neg h2]
      rw [if_neg (by omega), if_neg (by omega)]
  · rw [if_neg h1]
    by_cases h2 : x < i
    · simp only [if_pos h2]
      rw [if_neg (by omega), if_neg (by omega)]
    · simp only [if_neg h2]
      by_cases h3 : x + 1 = r
      · rw [if_pos h3, if_pos (by omega)]
      · rw [if_neg h3, if_neg (by omega)]
theorem detF_lin : ∀ {n : Nat} (M : Mx) {r : Nat} (u v : Nat → Rat) (t : Rat), r < n → detF n (setRow M r fun c => u c + t * v c) = detF n (setRow M r u) + t * detF n (setRow M r v)
  | 0, _, _, _, _, _, h => by omega
  | n + 1, M, r, u, v, t, h => by
    rw [detF_succ, detF_succ, detF_succ, ← sumRt_lin]
    refine sumRt_congr fun i hi => ?_
    by_cases e : i = r
    · subst e
      rw [minor_setRow_same, minor_setRow_same, minor_setRow_same, setRow_same, setRow_same, setRow_same]
      grind
    · rw [minor_setRow _ _ e, minor_setRow _ _ e, minor_setRow _ _ e, setRow_ne _ _ _ e, setRow_ne _ _ _ e, setRow_ne _ _ _ e]
      rw [detF_lin (n := n) (minor i M) (fun c => u (c + 1)) (fun c => v (c + 1)) t (by split <;> omega)]
      grind
def sw (M : Mx) (r : Nat) : Mx := fun x c => if x = r then M (r + 1) c else if x = r + 1 then M r c else M x c
theorem detF_sw : ∀ {n : Nat} (M : Mx) {r : Nat}, r + 1 < n → detF n (sw M r) = -detF n M
  | 0, _, _, h => by omega
  | n + 1, M, r, h => by
    rw [detF_succ, detF_succ]
    refine sumRt_swap h (fun i hi h1 h2 => ?_) ?_ ?_
    · have e1 : sw M r i 0 = M i 0 := by unfold sw; rw [if_neg h1, if_neg h2]
      have e2 : minor i (sw M r) = sw (minor i M) (if r < i then r else r - 1) := by
        funext x c
        unfold minor sw skip
        by_cases h3 : r < i
        · simp only [if_pos h3]
          by_cases h4 : x < i
          · simp only [if_pos h4]
            by_cases h5 : x = r
            · simp only [if_pos h5]; rw [if_pos (by omega)]
            · simp only [if_neg h5]
          · simp only [if_neg h4]
            rw [if_neg (by omega), if_neg (by omega), if_neg (by omega), if_neg (by omega)]
        · simp only [if_neg h3]
          by_cases h4 : x < i
          · simp only [if_pos h4]
            rw [if_neg (by omega), if_neg (by omega), if_neg (by omega), if_neg (by omega)]
          · simp only [if_neg h4]
            by_cases h5 : x + 1 = r
            · rw [if_pos h5, if_pos (by omega), if_neg (by omega)]
              congr 1
              omega
            · rw [if_neg h5, if_neg (show ¬ x = r - 1 by omega)]
              by_cases h6 : x + 1 = r + 1
              · rw [if_pos h6, if_pos (show x = r - 1 + 1 by omega), if_neg (by omega), show r - 1 + 1 = r by omega]
              · rw [if_neg h6, if_neg (show ¬ x = r - 1 + 1 by omega)]
      rw [e1, e2, detF_sw (n := n) (minor i M) (by split <;> omega)]
      grind
    · have e1 : sw M r r 0 = M (r + 1) 0 := if_pos rfl
      have e2 : minor r (sw M r) = minor (r + 1) M := by
        funext x c
        unfold minor sw skip
        by_cases h3 : x < r
        · simp only [if_pos h3]
          rw [if_neg (by omega), if_neg (by omega), if_pos (by omega)]
        · simp only [if_neg h3]
          rw [if_neg (by omega)]
          by_cases h4 : x = r
          · subst h4; rw [if_pos rfl, if_pos (by omega)]
          · rw [if_neg (by omega), if_neg (by omega)]
      rw [e1, e2, sg_succ]; grind
    · have e1 : sw M r (r + 1) 0 = M r 0 := by unfold sw; rw [if_neg (by omega), if_pos rfl]
      have e2 : minor (r + 1) (sw M r) = minor r M := by
        funext x c
        unfold minor sw skip
        by_cases h3 : x < r
        · rw [if_pos (show x < r + 1 by omega), if_pos h3, if_neg (by omega), if_neg (by omega)]
        · rw [if_neg h3]
          by_cases h4 : x = r
          · subst h4; rw [if_pos (show x < x + 1 by omega), if_pos rfl]
          · rw [if_neg (show ¬ x < r + 1 by omega), if_neg (by omega), if_neg (by omega)]
      rw [e1, e2, sg_succ]; grind
/-- two rows the same -/
theorem detF_alt : ∀ (d : Nat) {n : Nat} (M : Mx) {r : Nat}, r + 1 + d < n → (∀ c, M r c = M (r + 1 + d) c) → detF n M = 0
  | 0, n, M, r, h, e => by
    have h1 := detF_sw M (r := r) h
    have h2 : sw M r = M := by
      funext x c
      unfold sw
      by_cases h3 : x = r
      · subst h3; rw [if_pos rfl]; exact (e c).symm
      · rw [if_neg h3]
        by_cases h4 : x = r + 1
        · subst h4; rw [if_pos rfl]; exact e c
        · rw [if_neg h4]
    rw [h2] at h1
    grind
  | d + 1, n, M, r, h, e => by
    have h1 := detF_sw M (r := r + 1 + d) (by omega)
    have h2 := detF_alt d (n := n) (sw M (r + 1 + d)) (r := r) (by omega) (fun c => by
      have e1 : sw M (r + 1 + d) r c = M r c := by unfold sw; rw [if_neg (by omega), if_neg (by omega)]
      have e2 : sw M (r + 1 + d) (r + 1 + d) c = M (r + 1 + d + 1) c := if_pos rfl
      rw [e1, e2]; exact e c)
    rw [h2] at h1
    grind
theorem setRow_self (M : Mx) (r : Nat) : setRow M r (M r) = M := by
  funext x c
  unfold setRow
  by_cases h : x = r
  · rw [if_pos h, h]
  · rw [if_neg h]
/-- a multiple of the first row added to another -/
theorem detF_add0 {n : Nat} (M : Mx) {r : Nat} (t : Rat) (h0 : 0 < r) (h : r < n) : detF n (setRow M r fun c => M r c + t * M 0 c) = detF n M := by
  rw [detF_lin M (M r) (M 0) t h, setRow_self]
  have : detF n (setRow M r (M 0)) = 0 := detF_alt (r - 1) (n := n) (setRow M r (M 0)) (r := 0) (by omega) fun c => by
    rw [show 0 + 1 + (r - 1) = r by omega, setRow_same, setRow_ne _ _ _ (by omega)]
  rw [this]; grind
/-- multiples of the first row added to all others -/
theorem detF_addAll {n : Nat} (M : Mx) (t : Nat → Rat) : detF n (fun r c => if r = 0 then M 0 c else M r c + t r * M 0 c) = detF n M := by
  have key : ∀ k, k ≤ n → detF n (fun r c => if r = 0 ∨ k ≤ r then M r c else M r c + t r * M 0 c) = detF n M := by
    intro k
    induction k with
    | zero =>
      intro _
      exact detF_congr fun r c _ _ => if_pos (Or.inr (Nat.zero_le r))
    | succ k ih =>
      intro hk
      by_cases h0 : k = 0
      · subst h0
        refine Eq.trans (detF_congr fun r c _ _ => ?_) (ih (by omega))
        rw [if_pos (show r = 0 ∨ 0 ≤ r by omega), if_pos (show r = 0 ∨ 1 ≤ r by omega)]
      · have h1 := detF_add0 (n := n) (fun r c => if r = 0 ∨ k ≤ r then M r c else M r c + t r * M 0 c) (r := k) (t k) (by omega) (by omega)
        rw [ih (by omega)] at h1
        refine Eq.trans (detF_congr fun r c _ _ => ?_) h1
        unfold setRow
        by_cases h2 : r = k
        · subst h2
          rw [if_pos rfl, if_neg (show ¬ (r = 0 ∨ r + 1 ≤ r) by omega)]
          dsimp only
          rw [if_pos (show r = 0 ∨ r ≤ r by omega), if_pos (show (0 = 0 ∨ r ≤ 0) from Or.inl rfl)]
        · rw [if_neg h2]
          dsimp only
          by_cases h3 : r = 0 ∨ k ≤ r
          · rw [if_pos h3, if_pos (by omega)]
          · rw [if_neg h3, if_neg (by omega)]
  have := key n (Nat.le_refl n)
  rw [← this]
  refine detF_congr fun r c hr _ => ?_
  by_cases h0 : r = 0
  · subst h0; rw [if_pos rfl, if_pos (Or.inl rfl)]
  · rw [if_neg h0, if_neg (by omega)]
theorem detF_col0 {n : Nat} {M : Mx} (h : ∀ i, 0 < i → i < n + 1 → M i 0 = 0) : detF (n + 1) M = M 0 0 * detF n (minor 0 M) := by
  rw [detF_succ, sumRt_first (fun i h0 hi => by rw [h i h0 hi]; grind)]
  have : sg 0 = 1 := rfl
  rw [this]; grind
theorem detF_zero {n : Nat} {M : Mx} (h : ∀ i, i < n + 1 → M i 0 = 0) : detF (n + 1) M = 0 := by
  rw [detF_succ]
  exact sumRt_zero fun i hi => by rw [h i hi]; grind
theorem detF_scale : ∀ (n : Nat) (M : Mx) (a : Rat), detF n (fun r c => a * M r c) = a ^ n * detF n M
  | 0, _, _ => by simp [detF]
  | n + 1, M, a => by
    rw [detF_succ, detF_succ, ← sumRt_mul]
    refine sumRt_congr fun i _ => ?_
    have e : minor i (fun r c => a * M r c) = fun r c => a * minor i M r c := rfl
    rw [e, detF_scale n]
    grind
/-- Chio's way -/
theorem detF_chio {n : Nat} (M : Mx) (hp : M 0 0 ≠ 0) : M 0 0 ^ n * detF (n + 1) M = M 0 0 * detF n (fun r c => M 0 0 * M (r + 1) (c + 1) - M (r + 1) 0 * M 0 (c + 1)) := by
  have h1 := detF_addAll (n := n + 1) M (fun r => -(M r 0 / M 0 0))
  rw [← h1, detF_col0 (fun i h0 hi => by rw [if_neg (by omega)]; grind)]
  have h2 := detF_scale n (minor 0 fun r c => if r = 0 then M 0 c else M r c + -(M r 0 / M 0 0) * M 0 c) (M 0 0)
  have h3 : (fun r c => M 0 0 * (minor 0 fun r c => if r = 0 then M 0 c else M r c + -(M r 0 / M 0 0) * M 0 c) r c) = (fun r c => M 0 0 * M (r + 1) (c + 1) - M (r + 1) 0 * M 0 (c + 1)) := by
    funext r c
    have e : skip 0 r = r + 1 := by unfold skip; rw [if_neg (by omega)]
    unfold minor
    rw [e]
    dsimp only
    rw [if_neg (by omega)]
    grind
  rw [h3] at h2
  rw [h2, if_pos rfl]
  grind
/-- two rows change places -/
theorem detF_swap {n : Nat} (M : Mx) {r s : Nat} (h : r < s) (hs : s < n) : detF n (setRow (setRow M r (M s)) s (M r)) = -detF n M := by
  have D : ∀ u v : Nat → Rat, (∀ c, u c = v c) → detF n (setRow (setRow M r u) s v) = 0 := fun u v e =>
    detF_alt (s - r - 1) (n := n) (setRow (setRow M r u) s v) (r := r) (by omega) fun c => by
      rw [show r + 1 + (s - r - 1) = s by omega, setRow_same, setRow_ne _ _ _ (by omega), setRow_same]
      exact e c
  have comm : ∀ u v : Nat → Rat, setRow (setRow M r u) s v = setRow (setRow M s v) r u := fun u v => by
    funext x c
    unfold setRow
    by_cases h1 : x = s
    · rw [if_pos h1, if_neg (by omega), if_pos h1]
    · rw [if_neg h1]
      by_cases h2 : x = r
      · rw [if_pos h2, if_pos h2]
      · rw [if_neg h2, if_neg h2, if_neg h1]
  have l2 : ∀ u v w : Nat → Rat, detF n (setRow (setRow M r u) s fun c => v c + 1 * w c) = detF n (setRow (setRow M r u) s v) + 1 * detF n (setRow (setRow M r u) s w) := fun u v w => detF_lin _ v w 1 hs
  have l1 : ∀ u v w : Nat → Rat, detF n (setRow (setRow M r fun c => u c + 1 * v c) s w) = detF n (setRow (setRow M r u) s w) + 1 * detF n (setRow (setRow M r v) s w) := fun u v w => by
    rw [comm, comm, comm]
    exact detF_lin _ u v 1 (by omega)
  have h0 := D (fun c => M r c + 1 * M s c) (fun c => M r c + 1 * M s c) fun _ => rfl
  rw [l1, l2, l2, D (M r) (M r) fun _ => rfl, D (M s) (M s) fun _ => rfl, setRow_self, setRow_self] at h0
  grind
/-! ### Bareiss's way, over the fractions -/
def bst (q : Rat) (M : Mx) : Mx := fun r c => (M 0 0 * M (r + 1) (c + 1) - M (r + 1) 0 * M 0 (c + 1)) / q
def be (B : Mx) : Nat → Rat × Mx
  | 0 => (1, B)
  | k + 1 => ((be B k).2 0 0, bst (be B k).1 (be B k).2)
theorem be_succ (B : Mx) (k : Nat) : be B (k + 1) = ((be B k).2 0 0, bst (be B k).1 (be B k).2) := rfl
theorem be_det (B : Mx) : ∀ (k : Nat), (∀ j, j ≤ k → (be B j).1 ≠ 0) → ∀ m, detF (m + 1) (be B k).2 = (be B k).1 ^ m * detF (m + 1 + k) B
  | 0, _, m => by
    show detF (m + 1) B = 1 ^ m * detF (m + 1) B
    have : (1 : Rat) ^ m = 1 := by
      induction m with
      | zero => rfl
      | succ m ih => rw [Rat.pow_succ, ih]; grind
    rw [this]; grind
  | k + 1, h, m => by
    have ih := be_det B k (fun j hj => h j (by omega)) (m + 1)
    have hq : (be B k).1 ≠ 0 := h k (by omega)
    have hp : (be B k).2 0 0 ≠ 0 := h (k + 1) (Nat.le_refl _)
    have hc := detF_chio (n := m + 1) (be B k).2 hp
    rw [be_succ]
    show detF (m + 1) (bst (be B k).1 (be B k).2) = (be B k).2 0 0 ^ m * detF (m + 1 + (k + 1)) B
    have hb : bst (be B k).1 (be B k).2 = fun r c => (be B k).1⁻¹ * ((be B k).2 0 0 * (be B k).2 (r + 1) (c + 1) - (be B k).2 (r + 1) 0 * (be B k).2 0 (c + 1)) := by
      funext r c
      unfold bst
      grind
    rw [hb, detF_scale]
    rw [ih] at hc
    rw [show m + 1 + (k + 1) = m + 1 + 1 + k by omega]
    generalize detF (m + 1) (fun r c => (be B k).2 0 0 * (be B k).2 (r + 1) (c + 1) - (be B k).2 (r + 1) 0 * (be B k).2 0 (c + 1)) = Z at *
    generalize detF (m + 1 + 1 + k) B = Y at *
    generalize (be B k).1 = q at *
    generalize (be B k).2 0 0 = p at *
    have e1 : q⁻¹ ^ (m + 1) * q ^ (m + 1) = 1 := by
      have : ∀ j : Nat, q⁻¹ ^ j * q ^ j = 1 := by
        intro j
        induction j with
        | zero => simp
        | succ j ih2 => rw [Rat.pow_succ, Rat.pow_succ]; grind
      exact this _
    have e2 : p ^ m * (q ^ (m + 1) * Y) = Z := by
      have e3 : p * (p ^ m * (q ^ (m + 1) * Y)) = p * Z := by
        rw [← hc, Rat.pow_succ p m]; grind
      grind
    rw [← e2]
    grind
/-- rows and columns chosen, the first k as they are -/
theorem be_pick (B : Mx) (a b : Nat → Nat) (k : Nat) (ha : ∀ r, r < k → a r = r) (hb : ∀ c, c < k → b c = c) (ha' : ∀ r, k ≤ r → k ≤ a r) (hb' : ∀ c, k ≤ c → k ≤ b c) :
    ∀ j, j ≤ k → (be (fun r c => B (a r) (b c)) j).1 = (be B j).1 ∧ ∀ r c, (be (fun r c => B (a r) (b c)) j).2 r c = (be B j).2 (a (r + j) - j) (b (c + j) - j)
  | 0, _ => ⟨rfl, fun r c => rfl⟩
  | j + 1, h => by
    obtain ⟨i1, i2⟩ := be_pick B a b k ha hb ha' hb' j (by omega)
    have a0 : a (0 + j) - j = 0 := by rw [ha _ (by omega)]; omega
    have b0 : b (0 + j) - j = 0 := by rw [hb _ (by omega)]; omega
    have al : ∀ r, j + 1 ≤ r → j + 1 ≤ a r := fun r hr => by
      by_cases h1 : r < k
      · rw [ha r h1]; exact hr
      · have := ha' r (by omega); omega
    have bl : ∀ r, j + 1 ≤ r → j + 1 ≤ b r := fun r hr => by
      by_cases h1 : r < k
      · rw [hb r h1]; exact hr
      · have := hb' r (by omega); omega
    rw [be_succ, be_succ]
    refine ⟨?_, fun r c => ?_⟩
    · show (be (fun r c => B (a r) (b c)) j).2 0 0 = (be B j).2 0 0
      rw [i2, a0, b0]
    · show bst (be (fun r c => B (a r) (b c)) j).1 (be (fun r c => B (a r) (b c)) j).2 r c = bst (be B j).1 (be B j).2 (a (r + (j + 1)) - (j + 1)) (b (c + (j + 1)) - (j + 1))
      unfold bst
      rw [i1, i2, i2, i2, i2, a0, b0]
      have e1 : a (r + 1 + j) - j = a (r + (j + 1)) - (j + 1) + 1 := by
        rw [show r + 1 + j = r + (j + 1) by omega]
        have := al (r + (j + 1)) (by omega)
        omega
      have e2 : b (c + 1 + j) - j = b (c + (j + 1)) - (j + 1) + 1 := by
        rw [show c + 1 + j = c + (j + 1) by omega]
        have := bl (c + (j + 1)) (by omega)
        omega
      rw [e1, e2]
/-- each number on the way is a determinant -/
theorem be_minor (B : Mx) (k i j : Nat) (h : ∀ l, l ≤ k → (be B l).1 ≠ 0) : (be B k).2 i j = detF (k + 1) (fun r c => B (if r < k then r else r + i) (if c < k then c else c + j)) := by
  obtain ⟨_, p2⟩ := be_pick B (fun r => if r < k then r else r + i) (fun c => if c < k then c else c + j) k (fun r hr => if_pos hr) (fun c hc => if_pos hc) (fun r hr => by rw [if_neg (by omega)]; omega) (fun c hc => by rw [if_neg (by omega)]; omega) k (Nat.le_refl k)
  have hn : ∀ l, l ≤ k → (be (fun r c => B (if r < k then r else r + i) (if c < k then c else c + j)) l).1 ≠ 0 := fun l hl => by
    obtain ⟨p1, _⟩ := be_pick B (fun r => if r < k then r else r + i) (fun c => if c < k then c else c + j) k (fun r hr => if_pos hr) (fun c hc => if_pos hc) (fun r hr => by rw [if_neg (by omega)]; omega) (fun c hc => by rw [if_neg (by omega)]; omega) l hl
    rw [p1]; exact h l hl
  have hd := be_det (fun r c => B (if r < k then r else r + i) (if c < k then c else c + j)) k hn 0
  have h1 : detF (0 + 1) (be (fun r c => B (if r < k then r else r + i) (if c < k then c else c + j)) k).2 = (be (fun r c => B (if r < k then r else r + i) (if c < k then c else c + j)) k).2 0 0 := by
    show sumRt 1 _ = _
    simp only [sumRt, detF, sg]
    grind
  rw [h1, p2] at hd
  have e1 : (if 0 + k < k then 0 + k else 0 + k + i) - k = i := by rw [if_neg (by omega)]; omega
  have e2 : (if 0 + k < k then 0 + k else 0 + k + j) - k = j := by rw [if_neg (by omega)]; omega
  rw [e1, e2] at hd
  rw [hd, show 0 + 1 + k = k + 1 by omega, Rat.pow_zero]
  grind
end MD
/-! The program's determinant (Bareiss's way over whole numbers) is the specification's. -/
namespace MD
/-! ### the specification's determinant, by places -/
def ent (m : List (List Int)) (r c : Nat) : Int := (m.getD r []).getD c 0
def qx (B : Nat → Nat → Int) : Mx := fun r c => (B r c : Rat)
theorem foldr_range (n : Nat) (f : Nat → Int) : ((((List.range n).map f).foldr (fun a b => a + b) 0 : Int) : Rat) = sumRt n fun i => (f i : Rat) := by
  have gen : ∀ (l : List Int) (z : Int), l.foldr (fun a b => a + b) z = l.foldr (fun a b => a + b) 0 + z := by
    intro l
    induction l with
    | nil => intro z; simp
    | cons a l ih => intro z; rw [List.foldr_cons, List.foldr_cons, ih z]; omega
  induction n with
  | zero => rfl
  | succ n ih =>
    rw [List.range_succ, List.map_append, List.foldr_append, gen, Rat.intCast_add, ih, sumRt]
    simp
theorem ent_minor (m : List (List Int)) (i r c : Nat) : ent (((m.take i) ++ m.drop (i + 1)).map fun r => r.drop 1) r c = ent m (skip i r) (c + 1) := by
  unfold ent skip
  have h1 : (((m.take i) ++ m.drop (i + 1)).map fun r => r.drop 1).getD r [] = (m.getD (if r < i then r else r + 1) []).drop 1 := by
    rw [List.getD_eq_getElem?_getD, List.getD_eq_getElem?_getD, List.getElem?_map, List.getElem?_append, List.length_take]
    by_cases h : r < i
    · rw [if_pos h]
      by_cases h2 : r < min i m.length
      · rw [if_pos h2, List.getElem?_take, if_pos h]
        cases m[r]? <;> rfl
      · rw [if_neg h2, List.getElem?_drop, List.getElem?_eq_none (l := m) (i := r) (by omega), List.getElem?_eq_none (by omega)]; rfl
    · rw [if_neg h, if_neg (by omega), List.getElem?_drop]
      by_cases h3 : i ≤ m.length
      · rw [show i + 1 + (r - min i m.length) = r + 1 by omega]
        cases m[r + 1]? <;> rfl
      · rw [List.getElem?_eq_none (l := m) (i := r + 1) (by omega), List.getElem?_eq_none (by omega)]; rfl
  rw [h1]
  generalize m.getD (if r < i then r else r + 1) [] = l
  rw [List.getD_eq_getElem?_getD, List.getElem?_drop, List.getD_eq_getElem?_getD, Nat.add_comm 1 c]
theorem det_is : ∀ (n : Nat) (m : List (List Int)), ((Na05.det n m : Int) : Rat) = detF n (qx (ent m))
  | 0, _ => rfl
  | n + 1, m => by
    rw [Na05.det, foldr_range, detF_succ]
    refine sumRt_congr fun i _ => ?_
    have hh : (m.getD i []).headD 0 = ent m i 0 := by
      unfold ent
      cases m.getD i [] <;> rfl
    rw [hh]
    by_cases h0 : ent m i 0 = 0
    · rw [if_pos h0]
      show (0 : Rat) = sg i * (ent m i 0 : Rat) * _
      rw [h0]
      have : ((0 : Int) : Rat) = 0 := rfl
      rw [this]; grind
    · rw [if_neg h0, Rat.intCast_mul, Rat.intCast_mul, det_is n]
      have e : detF n (qx (ent (((m.take i) ++ m.drop (i + 1)).map fun r => r.drop 1))) = detF n (minor i (qx (ent m))) := detF_congr fun r c _ _ => by
        show ((ent _ r c : Int) : Rat) = ((ent m (skip i r) (c + 1) : Int) : Rat)
        rw [ent_minor]
      rw [e]
      have e2 : (((if i % 2 = 0 then 1 else -1 : Int)) : Rat) = sg i := by
        unfold sg
        split <;> rfl
      rw [e2]; rfl
/-! ### whole numbers stay whole, and of a size -/
def sumI : Nat → (Nat → Int) → Int
  | 0, _ => 0
  | n + 1, f => sumI n f + f n
theorem sumI_cast (n : Nat) (f : Nat → Int) : ((sumI n f : Int) : Rat) = sumRt n fun i => (f i : Rat) := by
  induction n with
  | zero => rfl
  | succ n ih => rw [sumI, Rat.intCast_add, ih, sumRt]
def sgI (i : Nat) : Int := if i % 2 = 0 then 1 else -1
theorem sgI_cast (i : Nat) : ((sgI i : Int) : Rat) = sg i := by unfold sgI sg; split <;> rfl
def detI : Nat → (Nat → Nat → Int) → Int
  | 0, _ => 1
  | n + 1, M => sumI (n + 1) fun i => sgI i * M i 0 * detI n (fun r c => M (skip i r) (c + 1))
theorem detI_cast : ∀ (n : Nat) (M : Nat → Nat → Int), ((detI n M : Int) : Rat) = detF n (qx M)
  | 0, _ => rfl
  | n + 1, M => by
    rw [detI, sumI_cast, detF_succ]
    refine sumRt_congr fun i _ => ?_
    rw [Rat.intCast_mul, Rat.intCast_mul, sgI_cast, detI_cast n]
    rfl
def bd (h : Nat) : Nat → Nat
  | 0 => 1
  | n + 1 => (n + 1) * (h * bd h n)
theorem sumI_le {n : Nat} {f : Nat → Int} {b : Nat} (h : ∀ i, i < n → (f i).natAbs ≤ b) : (sumI n f).natAbs ≤ n * b := by
  induction n with
  | zero => simp [sumI]
  | succ n ih =>
    rw [sumI]
    have h1 := ih fun i hi => h i (by omega)
    have h2 := h n (by omega)
    have h3 := Int.natAbs_add_le (sumI n f) (f n)
    rw [Nat.succ_mul]
    omega
theorem detI_le (h : Nat) : ∀ (n : Nat) (M : Nat → Nat → Int), (∀ r c, (M r c).natAbs ≤ h) → (detI n M).natAbs ≤ bd h n
  | 0, _, _ => by simp [detI, bd]
  | n + 1, M, hM => by
    rw [detI, bd]
    refine sumI_le fun i _ => ?_
    rw [Int.natAbs_mul, Int.natAbs_mul]
    have h1 : (sgI i).natAbs = 1 := by unfold sgI; split <;> rfl
    rw [h1, Nat.one_mul]
    exact Nat.mul_le_mul (hM i 0) (detI_le h n _ fun r c => hM _ _)
/-! ### the program's way -/
/-- the first place from the column's on whose number there isn't 0; else how many rows there are -/
def findRow (rows : List (List Int)) (column : Nat) : Nat → Nat → Nat
  | 0, place => place
  | f + 1, place => if place < rows.length ∧ ent rows place column = 0 then findRow rows column f (place + 1) else place
theorem findRow_ok (rows : List (List Int)) (column : Nat) : ∀ (f place : Nat), rows.length ≤ place + f → place ≤ rows.length →
    place ≤ findRow rows column f place ∧ findRow rows column f place ≤ rows.length ∧ (∀ i, place ≤ i → i < findRow rows column f place → ent rows i column = 0) ∧ (findRow rows column f place < rows.length → ent rows (findRow rows column f place) column ≠ 0)
  | 0, place, h, h2 => ⟨Nat.le_refl _, h2, fun i h3 h4 => by unfold findRow at h4; omega, fun h3 => by unfold findRow at h3; omega⟩
  | f + 1, place, h, h2 => by
    unfold findRow
    by_cases hc : place < rows.length ∧ ent rows place column = 0
    · rw [if_pos hc]
      obtain ⟨a, b, c, d⟩ := findRow_ok rows column f (place + 1) (by omega) (by omega)
      refine ⟨by omega, b, fun i h3 h4 => ?_, d⟩
      by_cases e : i = place
      · rw [e]; exact hc.2
      · exact c i (by omega) h4
    · rw [if_neg hc]
      exact ⟨Nat.le_refl _, h2, fun i h3 h4 => by omega, fun h3 h4 => hc ⟨h3, h4⟩⟩
def clearedRow (row top : List Int) (column : Nat) (before : Int) : List Int :=
  List.zipWith (fun l r => (top.getD column 0 * l - row.getD column 0 * r).fdiv before) row top
/-- behind the change of places, the rows cleared -/
def stepRows (rows : List (List Int)) (column place : Nat) (before : Int) : List (List Int) :=
  let top := rows.getD place []
  let rows' := if place = column then rows else rows.set place (rows.getD column [])
  rows'.take column ++ [top] ++ (rows'.drop (column + 1)).map fun row => clearedRow row top column before
def detLoop (n : Nat) : Nat → List (List Int) → Int → Int → Nat → Int
  | 0, _, sign, before, _ => sign * before
  | f + 1, rows, sign, before, column =>
    let place := findRow rows column n column
    if place = rows.length then 0 else
      detLoop n f (stepRows rows column place before) (if place = column then sign else -sign) (ent rows place column) (column + 1)
def determinant (table : List (List Int)) : Int := detLoop table.length table.length table 1 1 0
structure DInv (n h : Nat) (D : Rat) (k : Nat) (rows : List (List Int)) (sign before : Int) (B : Nat → Nat → Int) : Prop where
  len : rows.length = n
  lens : ∀ i, i < n → (rows.getD i []).length = n
  sgn : sign = 1 ∨ sign = -1
  det : (sign : Rat) * detF n (qx B) = D
  bnd : ∀ r c, (B r c).natAbs ≤ h
  ne : ∀ j, j ≤ k → (be (qx B) j).1 ≠ 0
  bef : (before : Rat) = (be (qx B) k).1
  at_ : ∀ i c, k ≤ i → i < n → k ≤ c → c < n → ((ent rows i c : Int) : Rat) = (be (qx B) k).2 (i - k) (c - k)
  low : ∀ i c, k ≤ i → i < n → c < k → ent rows i c = 0
theorem minor_int {B : Nat → Nat → Int} {k i j : Nat} (h : ∀ l, l ≤ k → (be (qx B) l).1 ≠ 0) : (be (qx B) k).2 i j = ((detI (k + 1) (fun r c => B (if r < k then r else r + i) (if c < k then c else c + j)) : Int) : Rat) := by
  rw [be_minor _ _ _ _ h, detI_cast]
  rfl
theorem DInv.entI {n h k : Nat} {D : Rat} {rows : List (List Int)} {sign before : Int} {B : Nat → Nat → Int} (I : DInv n h D k rows sign before B) {i c : Nat} (h1 : k ≤ i) (h2 : i < n) (h3 : k ≤ c) (h4 : c < n) : (ent rows i c).natAbs ≤ bd h (k + 1) := by
  have e := I.at_ i c h1 h2 h3 h4
  rw [minor_int I.ne] at e
  rw [Rat.intCast_inj.mp e]
  exact detI_le h _ _ fun r c => I.bnd _ _
theorem swap_pick (B : Nat → Nat → Int) {n k s : Nat} (hk : k < s) (hs : s < n) : detF n (qx fun r c => B (if r = k then s else if r = s then k else r) c) = -detF n (qx B) := by
  rw [← detF_swap (qx B) hk hs]
  refine detF_congr fun r c _ _ => ?_
  show ((B (if r = k then s else if r = s then k else r) c : Int) : Rat) = if r = s then (B k c : Rat) else if r = k then (B s c : Rat) else (B r c : Rat)
  by_cases h1 : r = s
  · rw [if_neg (show ¬ r = k by omega), if_pos h1, if_pos h1]
  · by_cases h2 : r = k
    · rw [if_pos h2, if_neg h1, if_pos h2]
    · rw [if_neg h2, if_neg h1, if_neg h1, if_neg h2]
theorem getD_app_row (a b : List (List Int)) (t : List Int) (i : Nat) : (a ++ [t] ++ b).getD i [] = if i < a.length then a.getD i [] else if i = a.length then t else b.getD (i - a.length - 1) [] := by
  rw [List.getD_eq_getElem?_getD, List.append_assoc, List.getElem?_append]
  by_cases h1 : i < a.length
  · rw [if_pos h1, if_pos h1, List.getD_eq_getElem?_getD]
  · rw [if_neg h1, if_neg h1]
    by_cases h2 : i = a.length
    · rw [if_pos h2, h2, Nat.sub_self]; rfl
    · rw [if_neg h2, show i - a.length = (i - a.length - 1) + 1 by omega]
      show (([t] ++ b)[i - a.length - 1 + 1]?).getD [] = _
      rw [List.singleton_append, List.getElem?_cons_succ, List.getD_eq_getElem?_getD, show i - a.length - 1 + 1 - 1 = i - a.length - 1 by omega]
theorem getD_set_row (a : List (List Int)) (s : Nat) (t : List Int) (i : Nat) (h : s < a.length) : (a.set s t).getD i [] = if i = s then t else a.getD i [] := by
  rw [List.getD_eq_getElem?_getD, List.getElem?_set]
  by_cases h1 : s = i
  · rw [if_pos h1, if_pos h, if_pos h1.symm]; rfl
  · rw [if_neg h1, if_neg (fun e => h1 e.symm), List.getD_eq_getElem?_getD]
/-- what the rows are behind a step -/
theorem stepRows_row (rows : List (List Int)) {n column place : Nat} {before : Int} (hl : rows.length = n) (hc : column < n) (hp : column ≤ place) (hpn : place < n) (i : Nat) :
    (stepRows rows column place before).getD i [] =
      if i < column then rows.getD i [] else if i = column then rows.getD place [] else if i < n then clearedRow (rows.getD (if i = place then column else i) []) (rows.getD place []) column before else [] := by
  unfold stepRows
  generalize hr : (if place = column then rows else rows.set place (rows.getD column [])) = R
  have hR : ∀ j, R.getD j [] = rows.getD (if j = place then column else j) [] := by
    intro j
    rw [← hr]
    by_cases h1 : place = column
    · rw [if_pos h1]
      by_cases h2 : j = place
      · rw [if_pos h2, h2, h1]
      · rw [if_neg h2]
    · rw [if_neg h1, getD_set_row _ _ _ _ (by omega)]
      by_cases h2 : j = place
      · rw [if_pos h2, if_pos h2]
      · rw [if_neg h2, if_neg h2]
  have lR : R.length = n := by rw [← hr]; split <;> simp [hl]
  dsimp only
  rw [getD_app_row, List.length_take, lR, show min column n = column by omega]
  by_cases h1 : i < column
  · rw [if_pos h1, if_pos h1, List.getD_eq_getElem?_getD, List.getElem?_take, if_pos h1, ← List.getD_eq_getElem?_getD, hR, if_neg (by omega)]
  · rw [if_neg h1, if_neg h1]
    by_cases h2 : i = column
    · rw [if_pos h2, if_pos h2]
    · rw [if_neg h2, if_neg h2, List.getD_eq_getElem?_getD, List.getElem?_map, List.getElem?_drop, show column + 1 + (i - column - 1) = i by omega]
      by_cases h3 : i < n
      · rw [if_pos h3, ← hR i, List.getD_eq_getElem?_getD (l := R), List.getElem?_eq_getElem (l := R) (by omega)]; rfl
      · rw [if_neg h3, List.getElem?_eq_none (by omega)]; rfl
theorem stepRows_len (rows : List (List Int)) {n column place : Nat} {before : Int} (hl : rows.length = n) (hc : column < n) : (stepRows rows column place before).length = n := by
  unfold stepRows
  dsimp only
  rw [List.length_append, List.length_append, List.length_map, List.length_take, List.length_drop]
  have : (if place = column then rows else rows.set place (rows.getD column [])).length = n := by split <;> simp [hl]
  rw [this]
  simp
  omega
theorem clearedRow_len {row top : List Int} {column : Nat} {before : Int} : (clearedRow row top column before).length = min row.length top.length := by
  unfold clearedRow
  rw [List.length_zipWith]
theorem clearedRow_at {row top : List Int} {column n : Nat} {before : Int} (h1 : row.length = n) (h2 : top.length = n) {c : Nat} (hc : c < n) : (clearedRow row top column before).getD c 0 = (top.getD column 0 * row.getD c 0 - row.getD column 0 * top.getD c 0).fdiv before := by
  unfold clearedRow
  rw [List.getD_eq_getElem?_getD, List.getElem?_zipWith, List.getElem?_eq_getElem (by omega), List.getElem?_eq_getElem (by omega)]
  have e1 : row.getD c 0 = row[c] := by rw [List.getD_eq_getElem?_getD, List.getElem?_eq_getElem (by omega)]; rfl
  have e2 : top.getD c 0 = top[c] := by rw [List.getD_eq_getElem?_getD, List.getElem?_eq_getElem (by omega)]; rfl
  rw [e1, e2]; rfl
theorem DInv.step {n h k : Nat} {D : Rat} {rows : List (List Int)} {sign before : Int} {B : Nat → Nat → Int} (I : DInv n h D k rows sign before B) (hk : k < n) {s : Nat} (h1 : k ≤ s) (h2 : s < n) (h3 : ent rows s k ≠ 0) :
    ∃ B', DInv n h D (k + 1) (stepRows rows k s before) (if s = k then sign else -sign) (ent rows s k) B' := by
  refine ⟨fun r c => B (if r = k then s else if r = s then k else r) c, ?_⟩
  generalize hB : (fun r c => B (if r = k then s else if r = s then k else r) c) = B'
  have hqB : qx B' = fun r c => qx B (if r = k then s else if r = s then k else r) (id c) := by rw [← hB]; rfl
  have pick : ∀ j, j ≤ k → (be (qx B') j).1 = (be (qx B) j).1 ∧ ∀ r c, (be (qx B') j).2 r c = (be (qx B) j).2 ((if r + j = k then s else if r + j = s then k else r + j) - j) (id (c + j) - j) := by
    rw [hqB]
    exact be_pick (qx B) (fun r => if r = k then s else if r = s then k else r) id k (fun r hr => by rw [if_neg (by omega), if_neg (by omega)]) (fun _ _ => rfl) (fun r hr => by split <;> (try split) <;> omega) (fun c hc => hc)
  obtain ⟨p1, p2⟩ := pick k (Nat.le_refl k)
  have M0 : ∀ r c, k + r < n → k + c < n → (be (qx B') k).2 r c = ((ent rows (if k + r = k then s else if k + r = s then k else k + r) (k + c) : Int) : Rat) := fun r c hr hc => by
    rw [p2, I.at_ _ _ (by split <;> (try split) <;> omega) (by split <;> (try split) <;> omega) (by omega) (by omega)]
    rw [Nat.add_comm r k, show id (c + k) - k = k + c - k by simp only [id]; omega]
  have piv : (be (qx B') k).2 0 0 = ((ent rows s k : Int) : Rat) := by
    rw [M0 0 0 (by omega) (by omega), if_pos (by omega)]; rfl
  have ne' : ∀ j, j ≤ k + 1 → (be (qx B') j).1 ≠ 0 := fun j hj => by
    by_cases e : j = k + 1
    · rw [e, be_succ]
      show (be (qx B') k).2 0 0 ≠ 0
      rw [piv]
      intro z
      exact h3 (Rat.intCast_inj.mp (show ((ent rows s k : Int) : Rat) = ((0 : Int) : Rat) from z))
    · rw [(pick j (by omega)).1]; exact I.ne j (by omega)
  have lt : (rows.getD s []).length = n := I.lens s h2
  have row_at : ∀ i, k + 1 ≤ i → i < n → (stepRows rows k s before).getD i [] = clearedRow (rows.getD (if i = s then k else i) []) (rows.getD s []) k before := fun i hi hin => by
    rw [stepRows_row rows I.len hk h1 h2, if_neg (by omega), if_neg (by omega), if_pos hin]
  have ent_at : ∀ i c, k + 1 ≤ i → i < n → c < n → ent (stepRows rows k s before) i c = (ent rows s k * ent rows (if i = s then k else i) c - ent rows (if i = s then k else i) k * ent rows s c).fdiv before := fun i c hi hin hc => by
    show ((stepRows rows k s before).getD i []).getD c 0 = _
    rw [row_at i hi hin, clearedRow_at (I.lens _ (by split <;> omega)) lt hc]
    rfl
  refine ⟨stepRows_len rows I.len hk, fun i hi => ?_, ?_, ?_, fun r c => ?_, ne', ?_, fun i c hi hin hc hcn => ?_, fun i c hi hin hc => ?_⟩
  · rw [stepRows_row rows I.len hk h1 h2]
    by_cases g1 : i < k
    · rw [if_pos g1]; exact I.lens i hi
    · rw [if_neg g1]
      by_cases g2 : i = k
      · rw [if_pos g2]; exact lt
      · rw [if_neg g2, if_pos hi, clearedRow_len, lt, I.lens _ (by split <;> omega)]; omega
  · have := I.sgn
    split <;> omega
  · by_cases e : s = k
    · have : B' = B := by
        rw [← hB]
        funext r c
        by_cases g : r = k
        · rw [if_pos g, e, g]
        · rw [if_neg g, if_neg (by omega)]
      rw [if_pos e, this]; exact I.det
    · rw [if_neg e, ← hB, swap_pick B (by omega) h2]
      have := I.det
      rw [Rat.intCast_neg]
      grind
  · rw [← hB]; exact I.bnd _ _
  · rw [be_succ]; exact piv.symm
  · have hz := minor_int (B := B') (k := k + 1) (i := i - (k + 1)) (j := c - (k + 1)) ne'
    rw [hz, ent_at i c hi hin hcn]
    generalize hd : detI (k + 1 + 1) (fun r c' => B' (if r < k + 1 then r else r + (i - (k + 1))) (if c' < k + 1 then c' else c' + (c - (k + 1)))) = z at *
    have hb : (be (qx B') (k + 1)).2 (i - (k + 1)) (c - (k + 1)) = bst (be (qx B') k).1 (be (qx B') k).2 (i - (k + 1)) (c - (k + 1)) := rfl
    rw [hb] at hz
    unfold bst at hz
    rw [piv, p1, ← I.bef] at hz
    have r0 : ∀ x, k + 1 ≤ x → (if k + (x - (k + 1) + 1) = k then s else if k + (x - (k + 1) + 1) = s then k else k + (x - (k + 1) + 1)) = if x = s then k else x := fun x hx => by
      rw [if_neg (by omega), show k + (x - (k + 1) + 1) = x by omega]
    rw [M0 (i - (k + 1) + 1) (c - (k + 1) + 1) (by omega) (by omega), M0 (i - (k + 1) + 1) 0 (by omega) (by omega), M0 0 (c - (k + 1) + 1) (by omega) (by omega), r0 i hi, if_pos (show k + 0 = k from rfl), show k + (c - (k + 1) + 1) = c by omega] at hz
    have hb0 : (before : Rat) ≠ 0 := by rw [I.bef]; exact I.ne k (Nat.le_refl k)
    have hbi : before ≠ 0 := fun e => by rw [e] at hb0; exact hb0 rfl
    have e1 : ((ent rows s k * ent rows (if i = s then k else i) c - ent rows (if i = s then k else i) k * ent rows s c : Int) : Rat) = ((z * before : Int) : Rat) := by
      rw [Rat.intCast_sub, Rat.intCast_mul, Rat.intCast_mul, Rat.intCast_mul, ← hz]
      show _ = _ / _ * _
      have : k + 0 = k := rfl
      rw [this]
      grind
    rw [Rat.intCast_inj.mp e1, Int.mul_fdiv_cancel _ hbi]
  · by_cases g : c = k
    · rw [ent_at i c hi hin (by omega), g]
      have : ent rows s k * ent rows (if i = s then k else i) k - ent rows (if i = s then k else i) k * ent rows s k = 0 := by grind
      rw [this, Int.zero_fdiv]
    · rw [ent_at i c hi hin (by omega), I.low _ c (by split <;> omega) (by split <;> omega) (by omega), I.low s c h1 h2 (by omega)]
      simp
theorem DInv.none {n h k : Nat} {D : Rat} {rows : List (List Int)} {sign before : Int} {B : Nat → Nat → Int} (I : DInv n h D k rows sign before B) (hk : k < n) (h0 : ∀ i, k ≤ i → i < n → ent rows i k = 0) : D = 0 := by
  have hd := be_det (qx B) k I.ne (n - k - 1)
  rw [show n - k - 1 + 1 + k = n by omega] at hd
  have hz : detF (n - k - 1 + 1) (be (qx B) k).2 = 0 := detF_zero fun i hi => by
    have := I.at_ (k + i) k (by omega) (by omega) (Nat.le_refl k) hk
    rw [h0 _ (by omega) (by omega), show k + i - k = i by omega, Nat.sub_self] at this
    exact this.symm
  rw [hz] at hd
  have hq := I.ne k (Nat.le_refl k)
  have hqp : (be (qx B) k).1 ^ (n - k - 1) ≠ 0 := by
    generalize n - k - 1 = m
    induction m with
    | zero => simp
    | succ m ih => rw [Rat.pow_succ]; intro z; rcases Rat.mul_eq_zero.mp z with z | z <;> contradiction
  have hb : detF n (qx B) = 0 := by
    rcases Rat.mul_eq_zero.mp hd.symm with z | z
    · exact absurd z hqp
    · exact z
  rw [← I.det, hb]; grind
theorem DInv.last {n h : Nat} {D : Rat} {rows : List (List Int)} {sign before : Int} {B : Nat → Nat → Int} (I : DInv (n + 1) h D (n + 1) rows sign before B) : ((sign * before : Int) : Rat) = D := by
  rw [Rat.intCast_mul, I.bef, ← I.det, be_succ]
  show _ * (be (qx B) n).2 0 0 = _
  rw [be_minor _ _ _ _ (fun l hl => I.ne l (by omega))]
  congr 1
  refine detF_congr fun r c hr hc => ?_
  have e1 : (if r < n then r else r + 0) = r := by split <;> omega
  have e2 : (if c < n then c else c + 0) = c := by split <;> omega
  rw [e1, e2]
theorem DInv.start {n h : Nat} {table : List (List Int)} (hl : table.length = n) (hr : ∀ i, i < n → (table.getD i []).length = n) (hb : ∀ r c, (ent table r c).natAbs ≤ h) : DInv n h ((Na05.det n table : Int) : Rat) 0 table 1 1 (ent table) where
  len := hl
  lens := hr
  sgn := Or.inl rfl
  det := by rw [det_is]; have : ((1 : Int) : Rat) = 1 := rfl; rw [this]; grind
  bnd := hb
  ne := fun j hj => by rw [Nat.le_zero.mp hj]; show (1 : Rat) ≠ 0; decide
  bef := rfl
  at_ := fun i c _ _ _ _ => rfl
  low := fun i c _ _ hc => by omega
theorem detLoop_ok {n h : Nat} {D : Rat} : ∀ (f k : Nat) (rows : List (List Int)) (sign before : Int) (B : Nat → Nat → Int), DInv (n + 1) h D k rows sign before B → k + f = n + 1 → ((detLoop (n + 1) f rows sign before k : Int) : Rat) = D
  | 0, k, rows, sign, before, B, I, hk => by
    have e : k = n + 1 := by omega
    subst e
    exact I.last
  | f + 1, k, rows, sign, before, B, I, hk => by
    unfold detLoop
    dsimp only
    obtain ⟨a, b, c, d⟩ := findRow_ok rows k (n + 1) k (by rw [I.len]; omega) (by rw [I.len]; omega)
    generalize findRow rows k (n + 1) k = s at *
    by_cases e : s = rows.length
    · rw [if_pos e]
      have := I.none (by omega) fun i h1 h2 => c i h1 (by rw [e, I.len]; exact h2)
      rw [this]; rfl
    · rw [if_neg e]
      rw [I.len] at b e
      obtain ⟨B', I'⟩ := I.step (by omega) a (by omega) (d (by rw [I.len]; omega))
      exact detLoop_ok f (k + 1) _ _ _ B' I' (by omega)
/-- the program's determinant is the specification's -/
theorem determinant_is {table : List (List Int)} (hr : ∀ i, i < table.length → (table.getD i []).length = table.length) : determinant table = Na05.det table.length table := by
  cases e : table.length with
  | zero =>
    unfold determinant
    rw [e]; rfl
  | succ n =>
    obtain ⟨h, hb⟩ : ∃ h : Nat, ∀ r c, (ent table r c).natAbs ≤ h := by
      have key : ∀ (l : List Int), ∃ h : Nat, ∀ c, (l.getD c 0).natAbs ≤ h := by
        intro l
        induction l with
        | nil => exact ⟨0, fun c => by simp⟩
        | cons x l ih =>
          obtain ⟨h, hh⟩ := ih
          refine ⟨max h x.natAbs, fun c => ?_⟩
          cases c with
          | zero => simp; omega
          | succ c => have := hh c; simp at this ⊢; omega
      have key2 : ∀ (m : List (List Int)), ∃ h : Nat, ∀ r c, (ent m r c).natAbs ≤ h := by
        intro m
        induction m with
        | nil => exact ⟨0, fun r c => by simp [ent]⟩
        | cons x l ih =>
          obtain ⟨h, hh⟩ := ih
          obtain ⟨g, hg⟩ := key x
          refine ⟨max h g, fun r c => ?_⟩
          cases r with
          | zero => have := hg c; simp [ent] at this ⊢; omega
          | succ r => have := hh r c; simp [ent] at this ⊢; omega
      exact key2 table
    have I := DInv.start (n := n + 1) e (fun i hi => by rw [hr i (by omega), e]) hb
    have := detLoop_ok (n + 1) 0 table 1 1 _ I (by omega)
    unfold determinant
    rw [e]
    exact Rat.intCast_inj.mp this
end MD
/-! Products, the greatest common divisor, division by whole numbers alone. -/
namespace MA
open Na05 (toQ content sign whole cleared times div euclid common)
open MD (sumRt sumI sumI_cast sumRt_congr)
theorem sumRt_shift (n : Nat) (f : Nat → Rat) : sumRt (n + 1) f = f 0 + sumRt n fun i => f (i + 1) := by
  induction n with
  | zero => simp only [sumRt]; grind
  | succ n ih => rw [sumRt, ih, sumRt]; grind
theorem mulL_getD : ∀ (f g : List Rat) (n : Nat), (mulL f g).getD n 0 = sumRt f.length fun i => if i ≤ n then f.getD i 0 * g.getD (n - i) 0 else 0
  | [], g, n => by simp [mulL, sumRt]
  | a :: f, g, n => by
    rw [mulL, addL_getD, smul_getD, List.length_cons, sumRt_shift, if_pos (Nat.zero_le n)]
    cases n with
    | zero =>
      have : sumRt f.length (fun i => if i + 1 ≤ 0 then (a :: f).getD (i + 1) 0 * g.getD (0 - (i + 1)) 0 else 0) = 0 := MD.sumRt_zero fun i _ => if_neg (by omega)
      rw [this]; simp
    | succ n =>
      have ih := mulL_getD f g n
      have e : (0 :: mulL f g).getD (n + 1) 0 = (mulL f g).getD n 0 := rfl
      rw [e, ih]
      congr 1
      refine sumRt_congr fun i _ => ?_
      by_cases h : i ≤ n
      · rw [if_pos h, if_pos (by omega), show n + 1 - (i + 1) = n - i by omega]; rfl
      · rw [if_neg h, if_neg (by omega)]
/-- the number of the power n -/
def conv (f g : List Int) (n : Nat) : Int := sumI f.length fun i => if i ≤ n then f.getD i 0 * g.getD (n - i) 0 else 0
theorem conv_cast (f g : List Int) (n : Nat) : ((conv f g n : Int) : Rat) = (mulL (toQ f) (toQ g)).getD n 0 := by
  unfold conv
  rw [sumI_cast, mulL_getD, toQ_len]
  refine sumRt_congr fun i _ => ?_
  by_cases h : i ≤ n
  · rw [if_pos h, if_pos h, toQ_getD, toQ_getD, Rat.intCast_mul]
  · rw [if_neg h, if_neg h]; rfl
theorem conv_spec (f g : List Int) (n : Nat) : ((List.range (n + 1)).map fun i => f.getD i 0 * g.getD (n - i) 0).foldr (fun a b => a + b) 0 = conv f g n := by
  apply Rat.intCast_inj.mp
  rw [MD.foldr_range]
  unfold conv
  rw [sumI_cast]
  -- both are the sum over i below max
  have ext1 : ∀ (m d : Nat) (h : Nat → Rat), (∀ i, m ≤ i → h i = 0) → sumRt (m + d) h = sumRt m h := by
    intro m d h hz
    induction d with
    | zero => rfl
    | succ d ih => rw [← Nat.add_assoc, sumRt, ih, hz (m + d) (by omega)]; grind
  generalize hF : (fun i => if i ≤ n then ((f.getD i 0 * g.getD (n - i) 0 : Int) : Rat) else 0) = F
  have e1 : sumRt (n + 1) (fun i => ((f.getD i 0 * g.getD (n - i) 0 : Int) : Rat)) = sumRt (n + 1) F := sumRt_congr fun i hi => by rw [← hF]; dsimp only; rw [if_pos (by omega)]
  have e2 : sumRt f.length (fun i => ((if i ≤ n then f.getD i 0 * g.getD (n - i) 0 else 0 : Int) : Rat)) = sumRt f.length F := sumRt_congr fun i hi => by
    rw [← hF]; dsimp only
    split <;> rfl
  rw [e1, e2]
  have z1 : ∀ i, n + 1 ≤ i → F i = 0 := fun i hi => by rw [← hF]; exact if_neg (by omega)
  have z2 : ∀ i, f.length ≤ i → F i = 0 := fun i hi => by
    rw [← hF]; dsimp only
    split
    · rw [getD_ge hi]; simp
    · rfl
  rw [← ext1 (n + 1) f.length F z1, ← ext1 f.length (n + 1) F z2, Nat.add_comm]
theorem times_eq (f g : List Int) : times f g = trimG ((List.range (f.length + g.length - 1)).map (conv f g)) := by
  unfold times
  rw [trim_is]
  congr 1
  exact List.map_congr_left fun n _ => conv_spec f g n
theorem times_nil_left (g : List Int) : times [] g = [] := by
  rw [times_eq, trimG_nil_iff]
  intro c hc
  obtain ⟨n, _, rfl⟩ := List.mem_map.mp hc
  rfl
theorem conv_nil_right (f : List Int) (n : Nat) : conv f [] n = 0 := by
  apply Rat.intCast_inj.mp
  unfold conv
  rw [sumI_cast]
  refine MD.sumRt_zero fun i _ => ?_
  have : (if i ≤ n then f.getD i 0 * ([] : List Int).getD (n - i) 0 else 0) = 0 := by simp
  rw [this]; rfl
theorem times_nil_right (f : List Int) : times f [] = [] := by
  rw [times_eq, trimG_nil_iff]
  intro c hc
  obtain ⟨n, _, rfl⟩ := List.mem_map.mp hc
  exact conv_nil_right f n
theorem conv_list {f g : List Int} (hf : f ≠ []) (hg : g ≠ []) : toQ ((List.range (f.length + g.length - 1)).map (conv f g)) = mulL (toQ f) (toQ g) := by
  have hl := mulL_len (toQ f) (toQ g) (by simpa [toQ_nil_iff] using hf) (by simpa [toQ_nil_iff] using hg)
  rw [toQ_len, toQ_len] at hl
  refine List.ext_getElem? fun i => ?_
  by_cases h : i < f.length + g.length - 1
  · have e1 := conv_cast f g i
    rw [List.getD_eq_getElem?_getD, List.getElem?_eq_getElem (by omega)] at e1
    rw [List.getElem?_eq_getElem (l := mulL (toQ f) (toQ g)) (by omega)]
    unfold toQ
    rw [List.getElem?_map, List.getElem?_map, List.getElem?_range h]
    exact congrArg some e1
  · rw [List.getElem?_eq_none (by simp [toQ_len]; omega), List.getElem?_eq_none (by omega)]
theorem times_is {f g : List Int} (hf : Tr f) (hg : Tr g) (hfn : f ≠ []) (hgn : g ≠ []) : times f g = (List.range (f.length + g.length - 1)).map (conv f g) := by
  rw [times_eq, trimG_of_tr]
  rw [← tr_toQ, conv_list hfn hgn]
  exact tr_mulL (tr_toQ.mpr hf) (tr_toQ.mpr hg) (by simpa [toQ_nil_iff] using hgn)
theorem toQ_times {f g : List Int} (hf : Tr f) (hg : Tr g) (hfn : f ≠ []) (hgn : g ≠ []) : toQ (times f g) = mulL (toQ f) (toQ g) := by
  rw [times_is hf hg hfn hgn, conv_list hfn hgn]
theorem ev_times {f g : List Int} (hf : Tr f) (hg : Tr g) (x : Rat) : ev (toQ (times f g)) x = ev (toQ f) x * ev (toQ g) x := by
  by_cases h1 : f = []
  · subst h1; rw [times_nil_left]; show ev [] x = ev [] x * _; rw [ev_nil]; grind
  · by_cases h2 : g = []
    · subst h2; rw [times_nil_right]; show ev [] x = _ * ev [] x; rw [ev_nil]; grind
    · rw [toQ_times hf hg h1 h2, ev_mulL]
theorem tr_times (f g : List Int) : Tr (times f g) := by rw [times_eq]; exact trimG_tr _
theorem times_len {f g : List Int} (hf : Tr f) (hg : Tr g) (hfn : f ≠ []) (hgn : g ≠ []) : (times f g).length = f.length + g.length - 1 := by
  rw [times_is hf hg hfn hgn]; simp
theorem times_last {f g : List Int} {a b : Int} (hf : Tr f) (hg : Tr g) (ea : f.getLast? = some a) (eb : g.getLast? = some b) : (times f g).getLast? = some (a * b) := by
  have hfn : f ≠ [] := by intro z; subst z; cases ea
  have hgn : g ≠ [] := by intro z; subst z; cases eb
  have h := mulL_last (toQ f) (toQ g) a b (toQ_last ea) (toQ_last eb)
  rw [← toQ_times hf hg hfn hgn] at h
  obtain ⟨c, ec⟩ := exists_last (f := times f g) (fun z => by
    have := times_len hf hg hfn hgn
    rw [z] at this
    have h1 := List.length_pos_iff.mpr hfn
    have h2 := List.length_pos_iff.mpr hgn
    simp at this
    omega)
  rw [toQ_last ec] at h
  rw [ec]
  congr 1
  apply Rat.intCast_inj.mp
  rw [Rat.intCast_mul]
  exact Option.some.inj h
/-! ### division: factors -/
theorem div_smul {a b : List Rat} (ha : Tr a) (hb : Tr b) (hn : b ≠ []) {c d : Rat} (hc : c ≠ 0) (hd : d ≠ 0) :
    div (a.map (c * ·)) (b.map (d * ·)) = ((div a b).1.map ((c / d) * ·), (div a b).2.map (c * ·)) := by
  obtain ⟨h1, h2, h3, h4⟩ := div_ok ha hb hn
  refine div_is (tr_smul hc ha) (tr_smul hd hb) (by simpa using hn) (tr_smul (by grind) h2) (tr_smul hc h3) (by simpa using h4) fun n => ?_
  rw [ev_smul, ev_smul, ev_smul, ev_smul, ← h1 n]
  grind
theorem cleared_smul' {q : List Rat} {p : List Int} (hq : Tr q) (hn : q ≠ []) (h : cleared q = p) : ∃ c : Rat, c ≠ 0 ∧ q = (toQ p).map (c * ·) := by
  obtain ⟨_, c, hc, e⟩ := cleared_ok hq hn
  refine ⟨c⁻¹, by grind, ?_⟩
  rw [← h, e, smul_smul]
  have : c⁻¹ * c = 1 := by grind
  rw [this, smul_one]
/-- what is left, cleared, hangs on the cleared ones alone -/
theorem rem_cleared {a b : List Rat} (ha : Tr a) (hb : Tr b) (hn : b ≠ []) : cleared (div a b).2 = cleared (div (toQ (cleared a)) (toQ (cleared b))).2 := by
  obtain ⟨hB, d, hd, eb⟩ := cleared_ok hb hn
  by_cases han : a = []
  · subst han
    have e1 : div [] b = ([], []) := div_is Tr.nil hb hn Tr.nil Tr.nil (List.length_pos_iff.mpr hn) fun n => by simp only [ev_nil]; grind
    have e2 : div (toQ (cleared [])) (toQ (cleared b)) = ([], []) := div_is Tr.nil (tr_toQ.mpr hB.tr) (by simpa [toQ_nil_iff] using hB.ne) Tr.nil Tr.nil (List.length_pos_iff.mpr (by simpa [toQ_nil_iff] using hB.ne)) fun n => by rw [cleared_nil]; show _ * ev [] _ + ev [] _ = ev [] _; simp only [ev_nil]; grind
    rw [e1, e2]
  · obtain ⟨hA, c, hc, ea⟩ := cleared_ok ha han
    rw [ea, eb, div_smul ha hb hn hc hd, cleared_smul (div_ok ha hb hn).2.2.1 hc]
/-! ### Euclid's way by bare ones -/
def eu : Nat → List Int → List Int → List Int
  | 0, a, _ => a
  | n + 1, a, b => if b = [] then a else eu n b (cleared (div (toQ a) (toQ b)).2)
theorem euclid_eu : ∀ (n : Nat) (a b : List Rat), Tr a → Tr b → cleared (euclid n a b) = eu n (cleared a) (cleared b)
  | 0, a, b, _, _ => rfl
  | n + 1, a, b, ha, hb => by
    rw [euclid, eu]
    by_cases h : b = []
    · subst h; rw [if_pos rfl, if_pos (by rfl)]
    · rw [if_neg h, if_neg (fun z => h ((cleared_nil_iff hb).mp z)), euclid_eu n b _ hb (div_ok ha hb h).2.2.1, rem_cleared ha hb h]
theorem common_eu {f g : List Int} (hf : Tr f) (hg : Tr g) : common f g = eu (f.length + g.length + 1) (whole f) (whole g) := by
  unfold common
  rw [euclid_eu _ _ _ (tr_toQ.mpr hf) (tr_toQ.mpr hg), cleared_toQ hf, cleared_toQ hg]
/-- a bare one, or 0 -/
def Bz (f : List Int) : Prop := f = [] ∨ Bare f
theorem Bz.tr {f : List Int} (h : Bz f) : Tr f := by
  rcases h with h | h
  · subst h; exact Tr.nil
  · exact h.tr
theorem bz_cleared {q : List Rat} (h : Tr q) : Bz (cleared q) := by
  by_cases e : q = []
  · subst e; exact Or.inl rfl
  · exact Or.inr (cleared_ok h e).1
theorem cleared_len {q : List Rat} (h : Tr q) : (cleared q).length = q.length := by
  by_cases e : q = []
  · subst e; rfl
  · obtain ⟨_, c, _, e2⟩ := cleared_ok h e
    have := congrArg List.length e2
    simpa [toQ_len] using this
theorem rem_len {a b : List Int} (ha : Tr a) (hb : Tr b) (hn : b ≠ []) : (cleared (div (toQ a) (toQ b)).2).length < b.length := by
  obtain ⟨_, _, h3, h4⟩ := div_ok (tr_toQ.mpr ha) (tr_toQ.mpr hb) (by simpa [toQ_nil_iff] using hn)
  rw [cleared_len h3]
  simpa [toQ_len] using h4
theorem eu_fuel : ∀ (n m : Nat) (a b : List Int), Tr a → Tr b → b.length < n → b.length < m → eu n a b = eu m a b
  | 0, _, _, _, _, _, h, _ => by omega
  | _ + 1, 0, _, _, _, _, _, h => by omega
  | n + 1, m + 1, a, b, ha, hb, h1, h2 => by
    rw [eu, eu]
    by_cases h : b = []
    · rw [if_pos h, if_pos h]
    · rw [if_neg h, if_neg h]
      have hl := rem_len ha hb h
      exact eu_fuel n m b _ hb (bz_cleared (div_ok (tr_toQ.mpr ha) (tr_toQ.mpr hb) (by simpa [toQ_nil_iff] using h)).2.2.1).tr (by omega) (by omega)
theorem whole_len (f : List Int) : (whole f).length = f.length := by unfold whole; split <;> simp_all
/-! ### division without fractions -/
/-- what is left when factor times other, moved up, is taken away -/
def lessMultiple (p : List Int) (factor : Int) (other : List Int) : List Int :=
  p.take (p.length - other.length) ++ List.zipWith (fun l r => l - factor * r) (p.drop (p.length - other.length)) other
/-- quotient, rest, scale behind i turns -/
def pst (f g : List Int) : Nat → List Int × List Int × Int
  | 0 => ([], f, 1)
  | i + 1 => let s := pst f g i
    (s.2.1.getLastD 0 :: s.1.map (g.getLastD 0 * ·), (lessMultiple (s.2.1.map (g.getLastD 0 * ·)) (s.2.1.getLastD 0) g).dropLast, s.2.2 * g.getLastD 0)
theorem lessMultiple_len {p other : List Int} {factor : Int} (h : other.length ≤ p.length) : (lessMultiple p factor other).length = p.length := by
  unfold lessMultiple
  rw [List.length_append, List.length_zipWith, List.length_take, List.length_drop]
  omega
theorem ev_lessMultiple {p other : List Int} {factor : Int} (h : other.length ≤ p.length) (x : Rat) : ev (toQ (lessMultiple p factor other)) x = ev (toQ p) x - x ^ (p.length - other.length) * ((factor : Rat) * ev (toQ other) x) := by
  have zw : ∀ (a b : List Int), a.length = b.length → ev (toQ (List.zipWith (fun l r => l - factor * r) a b)) x = ev (toQ a) x - (factor : Rat) * ev (toQ b) x := by
    intro a
    induction a with
    | nil => intro b hb; have : b = [] := List.length_eq_zero_iff.mp hb.symm; subst this; show ev [] x = ev [] x - _ * ev [] x; simp only [ev_nil]; grind
    | cons c a ih =>
      intro b hb
      cases b with
      | nil => simp at hb
      | cons d b =>
        rw [List.zipWith_cons_cons, toQ_cons, toQ_cons, toQ_cons, ev_cons, ev_cons, ev_cons, ih b (by simpa using hb), Rat.intCast_sub, Rat.intCast_mul]
        grind
  have ap : ∀ (a b : List Int), toQ (a ++ b) = toQ a ++ toQ b := fun a b => by unfold toQ; rw [List.map_append]
  unfold lessMultiple
  rw [ap, ev_append, zw _ _ (by rw [List.length_drop]; omega)]
  have e : ev (toQ p) x = ev (toQ (p.take (p.length - other.length) ++ p.drop (p.length - other.length))) x := by rw [List.take_append_drop]
  rw [e, ap, ev_append, toQ_len, List.length_take, show min (p.length - other.length) p.length = p.length - other.length by omega]
  grind
theorem pst_ok {f g : List Int} (hf : Tr f) (hg : Tr g) (hn : g ≠ []) : ∀ (i : Nat), i ≤ f.length + 1 - g.length →
    (pst f g i).2.1.length = f.length - i ∧ (pst f g i).1.length = i ∧ (pst f g i).2.2 = g.getLastD 0 ^ i ∧
    (∀ x, ((pst f g i).2.2 : Rat) * ev (toQ f) x = ev (toQ g) x * (ev (toQ (pst f g i).1) x * x ^ (f.length + 1 - g.length - i)) + ev (toQ (pst f g i).2.1) x) ∧
    (i ≠ 0 → (pst f g i).1.getLast? = some (f.getLastD 0 * g.getLastD 0 ^ (i - 1)))
  | 0, _ => by
    refine ⟨rfl, rfl, (Int.pow_zero _).symm, fun x => ?_, fun h => absurd rfl h⟩
    show ((1 : Int) : Rat) * ev (toQ f) x = ev (toQ g) x * (ev [] x * _) + ev (toQ f) x
    have : ((1 : Int) : Rat) = 1 := rfl
    rw [this, ev_nil]; grind
  | i + 1, hi => by
    obtain ⟨l1, l2, h1, h2, h3⟩ := pst_ok hf hg hn i (by omega)
    have hgl := List.length_pos_iff.mpr hn
    generalize hs : pst f g i = s at *
    obtain ⟨q, r, sc⟩ := s
    dsimp only at l1 l2 h1 h2 h3
    have hp : pst f g (i + 1) = (r.getLastD 0 :: q.map (g.getLastD 0 * ·), (lessMultiple (r.map (g.getLastD 0 * ·)) (r.getLastD 0) g).dropLast, sc * g.getLastD 0) := by
      rw [pst, hs]
    rw [hp]
    dsimp only
    have hrn : r ≠ [] := by intro z; rw [z] at l1; simp at l1; omega
    obtain ⟨t, et⟩ := exists_last hrn
    obtain ⟨b, eb⟩ := exists_last hn
    rw [getLastD_of et, getLastD_of eb] at *
    have lm : (lessMultiple (r.map (b * ·)) t g).length = r.length := by rw [lessMultiple_len (by simp; omega)]; simp
    refine ⟨?_, by simp [l2], ?_, fun x => ?_, fun _ => ?_⟩
    · rw [List.length_dropLast, lm, l1]; omega
    · rw [h1, Int.pow_succ]
    · -- the last number is 0
      have hne : lessMultiple (r.map (b * ·)) t g ≠ [] := by intro z; rw [z] at lm; simp at lm; omega
      have e0 : (lessMultiple (r.map (b * ·)) t g).getLast? = some 0 := by
        unfold lessMultiple
        have hz : List.zipWith (fun l r => l - t * r) ((r.map (b * ·)).drop ((r.map (b * ·)).length - g.length)) g ≠ [] := by
          intro z
          have := congrArg List.length z
          rw [List.length_zipWith, List.length_drop] at this
          simp only [List.length_map, List.length_nil] at this
          omega
        rw [List.getLast?_append]
        suffices h : (List.zipWith (fun l r => l - t * r) ((r.map (b * ·)).drop ((r.map (b * ·)).length - g.length)) g).getLast? = some 0 by rw [h]; rfl
        rw [List.getLast?_eq_getElem?, List.length_zipWith, List.length_drop, List.getElem?_zipWith]
        have e1 : (r.map (b * ·)).length - ((r.map (b * ·)).length - g.length) = g.length := by simp; omega
        rw [e1, Nat.min_self, ← List.getLast?_eq_getElem?, eb, List.getElem?_drop]
        have e2 : (r.map (b * ·)).length - g.length + (g.length - 1) = r.length - 1 := by simp; omega
        rw [e2, List.getElem?_map, ← List.getLast?_eq_getElem?, et]
        show some (b * t - t * b) = some 0
        congr 1
        grind
      have e1 : toQ (lessMultiple (r.map (b * ·)) t g) = toQ (lessMultiple (r.map (b * ·)) t g).dropLast ++ [0] := by
        have h5 := List.dropLast_concat_getLast hne
        rw [List.getLast?_eq_some_getLast hne] at e0
        rw [Option.some.inj e0] at h5
        have h6 := congrArg toQ h5
        rw [← h6]
        unfold toQ
        rw [List.map_append]
        rfl
      have e2 := ev_lessMultiple (p := r.map (b * ·)) (factor := t) (other := g) (by simp; omega) x
      rw [e1, ev_append, toQ_smul, ev_smul] at e2
      simp only [ev_cons, ev_nil, List.length_map] at e2
      have e3 := h2 x
      rw [toQ_cons, ev_cons, toQ_smul, ev_smul, Rat.intCast_mul]
      have e4 : x ^ (f.length + 1 - g.length - i) = x * x ^ (f.length + 1 - g.length - (i + 1)) := by
        rw [show f.length + 1 - g.length - i = (f.length + 1 - g.length - (i + 1)) + 1 by omega, Rat.pow_succ]; grind
      rw [e4] at e3
      have e5 : r.length - g.length = f.length + 1 - g.length - (i + 1) := by omega
      rw [e5] at e2
      grind
    · by_cases hi0 : i = 0
      · subst hi0
        have e : pst f g 0 = ([], f, 1) := rfl
        rw [e] at hs
        have e1 : q = [] := (congrArg (fun z => z.1) hs).symm
        have e2 : r = f := (congrArg (fun z => z.2.1) hs).symm
        subst e1 e2
        rw [getLastD_of et]
        simp
      · have h4 := h3 hi0
        have hqn : q ≠ [] := by intro z; rw [z] at h4; cases h4
        cases q with
        | nil => exact absurd rfl hqn
        | cons c q =>
          rw [List.map_cons, List.getLast?_cons_cons, ← List.map_cons, List.getLast?_map, h4]
          show some (b * (f.getLastD 0 * b ^ (i - 1))) = some (f.getLastD 0 * b ^ (i + 1 - 1))
          congr 1
          rw [show i + 1 - 1 = (i - 1) + 1 by omega, Int.pow_succ]
          grind
theorem pow_zero_of {b : Int} : ∀ {n : Nat}, b ^ n = 0 → b = 0
  | 0, h => by rw [Int.pow_zero] at h; omega
  | n + 1, h => by
    rw [Int.pow_succ] at h
    rcases Int.mul_eq_zero.mp h with h | h
    · exact pow_zero_of h
    · exact h
/-- quotient, rest (trimmed), scale -/
def pdiv (f g : List Int) : List Int × List Int × Int := let s := pst f g (f.length + 1 - g.length)
  (s.1, trimG s.2.1, s.2.2)
theorem pdiv_scale {f g : List Int} (hf : Tr f) (hg : Tr g) (hn : g ≠ []) : (pdiv f g).2.2 ≠ 0 := by
  obtain ⟨_, _, h1, _⟩ := pst_ok hf hg hn _ (Nat.le_refl _)
  obtain ⟨b, eb⟩ := exists_last hn
  show (pst f g (f.length + 1 - g.length)).2.2 ≠ 0
  rw [h1, getLastD_of eb]
  intro z
  exact hg b eb (pow_zero_of z)
end MA
/-! The program's division, bare, greatest_common, resultant, discriminant against the specification's. -/
namespace MA
open Na05 (toQ content sign whole cleared times div euclid common fraction)
theorem pdiv_div {f g : List Int} (hf : Tr f) (hg : Tr g) (hn : g ≠ []) :
    div (toQ f) (toQ g) = ((toQ (pdiv f g).1).map ((((pdiv f g).2.2 : Int) : Rat)⁻¹ * ·), (toQ (pdiv f g).2.1).map ((((pdiv f g).2.2 : Int) : Rat)⁻¹ * ·)) := by
  obtain ⟨l1, l2, h1, h2, h3⟩ := pst_ok hf hg hn _ (Nat.le_refl (f.length + 1 - g.length))
  have hs : (((pdiv f g).2.2 : Int) : Rat) ≠ 0 := intCast_ne (pdiv_scale hf hg hn)
  have hs' : (((pdiv f g).2.2 : Int) : Rat)⁻¹ ≠ 0 := by grind
  have tq : Tr (pdiv f g).1 := by
    intro c hc
    have hc' : (pst f g (f.length + 1 - g.length)).1.getLast? = some c := hc
    by_cases h0 : f.length + 1 - g.length = 0
    · rw [h0] at hc'
      cases hc'
    · rw [h3 h0] at hc'
      have e := Option.some.inj hc'
      rw [← e]
      intro z
      have hfn : f ≠ [] := by intro z2; subst z2; simp at h0; have := List.length_pos_iff.mpr hn; omega
      obtain ⟨a, ea⟩ := exists_last hfn
      obtain ⟨b, eb⟩ := exists_last hn
      rw [getLastD_of ea, getLastD_of eb] at z
      rcases Int.mul_eq_zero.mp z with z | z
      · exact hf a ea z
      · exact hg b eb (pow_zero_of z)
  refine div_is (tr_toQ.mpr hf) (tr_toQ.mpr hg) (by simpa [toQ_nil_iff] using hn) (tr_smul hs' (tr_toQ.mpr tq)) (tr_smul hs' (tr_toQ.mpr (trimG_tr _))) ?_ fun n => ?_
  · rw [List.length_map, toQ_len, toQ_len]
    have : (trimG (pst f g (f.length + 1 - g.length)).2.1).length ≤ f.length - (f.length + 1 - g.length) := Nat.le_trans (trimG_len _) (Nat.le_of_eq l1)
    have hgl := List.length_pos_iff.mpr hn
    show (trimG (pst f g (f.length + 1 - g.length)).2.1).length < g.length
    by_cases h0 : g.length ≤ f.length
    · omega
    · omega
  · rw [ev_smul, ev_smul]
    have h4 := h2 n
    rw [Nat.sub_self, Rat.pow_zero] at h4
    have e : ev (toQ (pdiv f g).2.1) n = ev (toQ (pst f g (f.length + 1 - g.length)).2.1) n := by
      have ht : toQ (pdiv f g).2.1 = toQ (trimG (pst f g (f.length + 1 - g.length)).2.1) := rfl
      rw [ht]
      refine ev_of_getD (fun i => ?_) _
      rw [toQ_getD, toQ_getD, trimG_getD]
    rw [e]
    have h5 : (((pdiv f g).2.2 : Int) : Rat) * ev (toQ f) n = ev (toQ g) n * (ev (toQ (pdiv f g).1) n * 1) + ev (toQ (pst f g (f.length + 1 - g.length)).2.1) n := h4
    generalize (((pdiv f g).2.2 : Int) : Rat) = s at *
    grind
/-! ### lowest terms -/
theorem rat_parts {r : Rat} {n : Int} {d : Nat} (hd : d ≠ 0) (hc : n.natAbs.Coprime d) (h : r = (n : Rat) / (d : Rat)) : r.num = n ∧ r.den = d := by
  have e : r = (⟨n, d, hd, hc⟩ : Rat) := by
    rw [h]
    have := rat_eq (⟨n, d, hd, hc⟩ : Rat)
    exact this.symm
  rw [e]
  exact ⟨rfl, rfl⟩
def lowest (a b : Int) : List Int :=
  let d : Int := if b < 0 then -((Int.gcd a b : Nat) : Int) else ((Int.gcd a b : Nat) : Int)
  [a.fdiv d, b.fdiv d]
theorem lowest_is (a b : Int) (hb : b ≠ 0) : fraction ((b : Rat)⁻¹ * (a : Rat)) = lowest a b := by
  have hg : 0 < Int.gcd a b := Int.gcd_pos_of_ne_zero_right a hb
  obtain ⟨a', ea⟩ := Int.gcd_dvd_left (a := a) (b := b)
  obtain ⟨b', eb⟩ := Int.gcd_dvd_right (a := a) (b := b)
  generalize hG : Int.gcd a b = G at *
  have hG0 : (G : Int) ≠ 0 := by omega
  have cop : Int.gcd a' b' = 1 := by
    have h1 : Int.gcd ((G : Int) * a') ((G : Int) * b') = G * Int.gcd a' b' := by
      rw [Int.gcd_mul_left]; simp
    rw [← ea, ← eb, hG] at h1
    have h2 : G * 1 = G * Int.gcd a' b' := by omega
    exact (Nat.eq_of_mul_eq_mul_left hg h2).symm
  have hb' : b' ≠ 0 := fun z => by rw [z, Int.mul_zero] at eb; exact hb eb
  have hQ : (b : Rat)⁻¹ * (a : Rat) = (b' : Rat)⁻¹ * (a' : Rat) := by
    rw [ea, eb, Rat.intCast_mul, Rat.intCast_mul]
    have h1 := intCast_ne hG0
    have h2 := intCast_ne hb'
    grind
  unfold lowest
  rw [hG]
  dsimp only
  by_cases hneg : b < 0
  · have hb2 : b' < 0 := by
      apply Decidable.byContradiction
      intro h
      have : 0 ≤ (G : Int) * b' := Int.mul_nonneg (by omega) (by omega)
      omega
    rw [if_pos hneg]
    obtain ⟨p1, p2⟩ := rat_parts (r := (b' : Rat)⁻¹ * (a' : Rat)) (n := -a') (d := b'.natAbs) (by omega) (by
      rw [Int.natAbs_neg]; exact cop) (by
      have e : ((b'.natAbs : Nat) : Rat) = -(b' : Rat) := by
        have : ((b'.natAbs : Int) : Rat) = ((-b' : Int) : Rat) := by congr 1; omega
        rw [Rat.intCast_neg] at this
        exact this
      rw [e, Rat.intCast_neg]
      have h2 := intCast_ne hb'
      grind)
    unfold fraction
    rw [hQ, p1, p2, ea, eb]
    have e1 : ((G : Int) * a').fdiv (-(G : Int)) = -a' := by
      rw [show (G : Int) * a' = (-a') * (-(G : Int)) by grind, Int.mul_fdiv_cancel _ (by omega)]
    have e2 : ((G : Int) * b').fdiv (-(G : Int)) = -b' := by
      rw [show (G : Int) * b' = (-b') * (-(G : Int)) by grind, Int.mul_fdiv_cancel _ (by omega)]
    rw [e1, e2]
    congr 2
    omega
  · have hb2 : 0 < b' := by
      apply Decidable.byContradiction
      intro h
      have : (G : Int) * b' ≤ 0 := Int.mul_nonpos_of_nonneg_of_nonpos (by omega) (by omega)
      omega
    rw [if_neg hneg]
    obtain ⟨p1, p2⟩ := rat_parts (r := (b' : Rat)⁻¹ * (a' : Rat)) (n := a') (d := b'.natAbs) (by omega) cop (by
      have e : ((b'.natAbs : Nat) : Rat) = (b' : Rat) := by
        have : ((b'.natAbs : Int) : Rat) = ((b' : Int) : Rat) := by congr 1; omega
        exact this
      rw [e]
      grind)
    unfold fraction
    rw [hQ, p1, p2, ea, eb]
    have e1 : ((G : Int) * a').fdiv (G : Int) = a' := by
      rw [Int.mul_comm, Int.mul_fdiv_cancel _ (by omega)]
    have e2 : ((G : Int) * b').fdiv (G : Int) = b' := by
      rw [Int.mul_comm, Int.mul_fdiv_cancel _ (by omega)]
    rw [e1, e2]
    congr 2
    omega
/-- fractions shown -/
def fracs (l : List Int) (s : Int) : List Int := (l.length : Int) :: l.flatMap fun n => lowest n s
theorem shownQ_is (l : List Int) {s : Int} (hs : s ≠ 0) : Na05.shownQ ((toQ l).map (((s : Int) : Rat)⁻¹ * ·)) = fracs l s := by
  unfold Na05.shownQ fracs
  rw [List.length_map, toQ_len]
  congr 1
  induction l with
  | nil => rfl
  | cons c l ih =>
    rw [toQ_cons, List.map_cons, List.flatMap_cons, List.flatMap_cons, ih, lowest_is c s hs]
/-! ### bare -/
/-- what all are divided by -/
def bareBy (f : List Int) : Int := if f.getLastD 0 < 0 then -(content f : Int) else (content f : Int)
def bareM (f : List Int) : List Int := if f = [] then [] else f.map fun c => c.fdiv (bareBy f)
theorem bareM_is {f : List Int} (h : Tr f) : bareM f = whole f := by
  unfold bareM whole
  by_cases hn : f = []
  · rw [if_pos hn, if_pos hn]
  · rw [if_neg hn, if_neg hn]
    refine List.map_congr_left fun c hc => ?_
    have hp := content_pos h hn
    obtain ⟨k, ek⟩ := content_dvdI hc
    unfold bareBy sign
    by_cases hneg : f.getLastD 0 < 0
    · rw [if_pos hneg, if_pos hneg]
      have e1 : c.fdiv (-(content f : Int)) = -k := by
        rw [show c = (-k) * (-(content f : Int)) by rw [ek]; grind, Int.mul_fdiv_cancel _ (by omega)]
      have e2 : -1 * c / (content f : Int) = -k := by
        rw [show -1 * c = (content f : Int) * (-k) by rw [ek]; grind, Int.mul_ediv_cancel_left _ (by omega)]
      rw [e1, e2]
    · rw [if_neg hneg, if_neg hneg]
      have e1 : c.fdiv (content f : Int) = k := by
        rw [show c = k * (content f : Int) by rw [ek]; grind, Int.mul_fdiv_cancel _ (by omega)]
      have e2 : 1 * c / (content f : Int) = k := by
        rw [show 1 * c = (content f : Int) * k by rw [ek]; grind, Int.mul_ediv_cancel_left _ (by omega)]
      rw [e1, e2]
/-! ### greatest_common -/
theorem rem_is {a b : List Int} (ha : Tr a) (hb : Tr b) (hn : b ≠ []) : cleared (div (toQ a) (toQ b)).2 = bareM (pdiv a b).2.1 := by
  have hs : (((pdiv a b).2.2 : Int) : Rat) ≠ 0 := intCast_ne (pdiv_scale ha hb hn)
  have ht : Tr (pdiv a b).2.1 := trimG_tr _
  rw [pdiv_div ha hb hn, cleared_smul (tr_toQ.mpr ht) (by grind), cleared_toQ ht, bareM_is ht]
def gcLoop : Nat → List Int → List Int → List Int
  | 0, a, _ => a
  | n + 1, a, b => if b = [] then a else gcLoop n b (bareM (pdiv a b).2.1)
theorem gcLoop_is : ∀ (n : Nat) (a b : List Int), Tr a → Tr b → gcLoop n a b = eu n a b
  | 0, _, _, _, _ => rfl
  | n + 1, a, b, ha, hb => by
    rw [gcLoop, eu]
    by_cases h : b = []
    · rw [if_pos h, if_pos h]
    · rw [if_neg h, if_neg h, ← rem_is ha hb h]
      exact gcLoop_is n b _ hb (bz_cleared (div_ok (tr_toQ.mpr ha) (tr_toQ.mpr hb) (by simpa [toQ_nil_iff] using h)).2.2.1).tr
theorem tr_whole {f : List Int} (h : Tr f) : Tr (whole f) := by
  by_cases e : f = []
  · subst e; exact Tr.nil
  · exact (whole_bare h e).tr
/-- with turns enough -/
theorem common_is {f g : List Int} (hf : Tr f) (hg : Tr g) {n : Nat} (hn : g.length < n) : gcLoop n (bareM f) (bareM g) = common f g := by
  rw [bareM_is hf, bareM_is hg, gcLoop_is n _ _ (tr_whole hf) (tr_whole hg), common_eu hf hg]
  exact eu_fuel _ _ _ _ (tr_whole hf) (tr_whole hg) (by rw [whole_len]; exact hn) (by rw [whole_len]; omega)
/-! ### the resultant -/
def shiftedRows (p : List Int) (count width : Nat) : List (List Int) :=
  (List.range count).map fun place => List.replicate place 0 ++ p.reverse ++ List.replicate (width - p.length - place) 0
def resultantM (f g : List Int) : Int := if f = [] ∨ g = [] then 0 else
  MD.determinant (shiftedRows f (g.length - 1) (f.length - 1 + (g.length - 1)) ++ shiftedRows g (f.length - 1) (f.length - 1 + (g.length - 1)))
theorem rows_sylvester {f g : List Int} (hf : f ≠ []) (hg : g ≠ []) : shiftedRows f (g.length - 1) (f.length - 1 + (g.length - 1)) ++ shiftedRows g (f.length - 1) (f.length - 1 + (g.length - 1)) = Na05.sylvester f g := by
  have h1 := List.length_pos_iff.mpr hf
  have h2 := List.length_pos_iff.mpr hg
  unfold shiftedRows Na05.sylvester
  dsimp only
  congr 1
  · refine List.map_congr_left fun i hi => ?_
    rw [List.append_assoc, show f.length - 1 + (g.length - 1) - f.length - i = g.length - 1 - 1 - i by omega]
  · refine List.map_congr_left fun i hi => ?_
    rw [List.append_assoc, show f.length - 1 + (g.length - 1) - g.length - i = f.length - 1 - 1 - i by omega]
theorem sylvester_len (f g : List Int) : (Na05.sylvester f g).length = (g.length - 1) + (f.length - 1) := by unfold Na05.sylvester; simp
theorem sylvester_row {f g : List Int} (hf : f ≠ []) (hg : g ≠ []) {row : List Int} (h : row ∈ Na05.sylvester f g) : row.length = (g.length - 1) + (f.length - 1) := by
  have h1 := List.length_pos_iff.mpr hf
  have h2 := List.length_pos_iff.mpr hg
  unfold Na05.sylvester at h
  dsimp only at h
  rcases List.mem_append.mp h with h | h
  · obtain ⟨i, hi, rfl⟩ := List.mem_map.mp h
    have := List.mem_range.mp hi
    simp
    omega
  · obtain ⟨i, hi, rfl⟩ := List.mem_map.mp h
    have := List.mem_range.mp hi
    simp
    omega
theorem resultant_is (f g : List Int) : resultantM f g = Na05.resultant f g := by
  unfold resultantM Na05.resultant
  by_cases h : f = [] ∨ g = []
  · rw [if_pos h, if_pos h]
  · rw [if_neg h, if_neg h]
    have hf : f ≠ [] := fun z => h (Or.inl z)
    have hg : g ≠ [] := fun z => h (Or.inr z)
    have h1 := List.length_pos_iff.mpr hf
    have h2 := List.length_pos_iff.mpr hg
    rw [rows_sylvester hf hg, MD.determinant_is, sylvester_len, show g.length - 1 + (f.length - 1) = f.length + g.length - 2 by omega]
    intro i hi
    rw [sylvester_len]
    rw [List.getD_eq_getElem?_getD, List.getElem?_eq_getElem hi]
    exact sylvester_row hf hg (List.getElem_mem hi)
/-! ### the discriminant -/
def slopeM (f : List Int) : List Int := (f.zipIdx.map fun x => (x.2 : Int) * x.1).drop 1
theorem slope_is {f : List Int} (h : Tr f) : slopeM f = Na05.slope f := by
  unfold slopeM Na05.slope
  rw [trim_is, ← List.map_drop]
  have e : (f.zipIdx.drop 1).map (fun x => (x.2 : Int) * x.1) = (f.zipIdx.drop 1).map (fun x => x.1 * (x.2 : Int)) := List.map_congr_left fun x _ => Int.mul_comm _ _
  rw [e, trimG_of_tr]
  intro c hc
  rw [List.getLast?_map] at hc
  cases q : (f.zipIdx.drop 1).getLast? with
  | none => rw [q] at hc; cases hc
  | some x =>
    rw [q] at hc
    have e1 : x.1 * (x.2 : Int) = c := Option.some.inj hc
    rw [← e1]
    have hl : 1 < f.zipIdx.length := by
      apply Decidable.byContradiction
      intro z
      have : f.zipIdx.drop 1 = [] := List.drop_eq_nil_of_le (by omega)
      rw [this] at q; cases q
    have e2 : (f.zipIdx.drop 1).getLast? = f.zipIdx.getLast? := by
      rw [List.getLast?_eq_getElem?, List.getElem?_drop, List.getLast?_eq_getElem?, List.length_drop]
      congr 1
      omega
    rw [e2, List.getLast?_eq_getElem?, List.getElem?_zipIdx] at q
    have hl' : f.zipIdx.length = f.length := List.length_zipIdx
    rw [hl'] at q hl
    obtain ⟨a, ea⟩ := exists_last (f := f) (by intro z; subst z; simp at hl)
    rw [← List.getLast?_eq_getElem?, ea] at q
    have e3 := Option.some.inj q
    rw [← e3]
    intro z
    rcases Int.mul_eq_zero.mp z with z | z
    · exact h a ea z
    · have : ((0 + (f.length - 1) : Nat) : Int) = 0 := z
      omega
end MA
namespace MA
open Na05 (toQ content sign whole cleared times div euclid common fraction)
theorem dvd_sum {a : Int} : ∀ {l : List Int}, (∀ c ∈ l, a ∣ c) → a ∣ l.foldr (fun a b => a + b) 0
  | [], _ => ⟨0, by simp⟩
  | c :: l, h => Int.dvd_add (h c List.mem_cons_self) (dvd_sum fun d hd => h d (List.mem_cons_of_mem _ hd))
theorem dvd_det {a : Int} {n : Nat} {m : List (List Int)} (h : ∀ row ∈ m, a ∣ row.headD 0) : a ∣ Na05.det (n + 1) m := by
  rw [Na05.det]
  refine dvd_sum fun c hc => ?_
  obtain ⟨i, _, rfl⟩ := List.mem_map.mp hc
  split
  · exact ⟨0, by simp⟩
  · have : a ∣ (m.getD i []).headD 0 := by
      rw [List.getD_eq_getElem?_getD]
      cases e : m[i]? with
      | none => exact ⟨0, by simp⟩
      | some r => exact h r (List.mem_of_getElem? e)
    exact Int.dvd_mul_of_dvd_left (Int.dvd_mul_of_dvd_right this)
theorem slope_len {f : List Int} (h : Tr f) : (Na05.slope f).length = f.length - 1 := by
  rw [← slope_is h]
  unfold slopeM
  simp
theorem slope_last {f : List Int} (h : Tr f) {a : Int} (ea : f.getLast? = some a) (hl : 2 ≤ f.length) : (Na05.slope f).getLast? = some (((f.length - 1 : Nat) : Int) * a) := by
  rw [← slope_is h]
  unfold slopeM
  rw [List.getLast?_eq_getElem?, List.getElem?_drop, List.getElem?_map, List.getElem?_zipIdx]
  have e : 1 + (List.drop 1 (List.map (fun x : Int × Nat => (x.2 : Int) * x.1) f.zipIdx)).length - 1 = f.length - 1 := by simp
  have e2 : 1 + ((List.drop 1 (List.map (fun x : Int × Nat => (x.2 : Int) * x.1) f.zipIdx)).length - 1) = f.length - 1 := by simp; omega
  rw [e2, ← List.getLast?_eq_getElem?, ea]
  simp
theorem head_reverse {f : List Int} {a : Int} (ea : f.getLast? = some a) : f.reverse.headD 0 = a := by
  rw [List.headD_eq_head?_getD, List.head?_reverse, ea]; rfl
theorem lead_dvd_res {f : List Int} (h : Tr f) {a : Int} (ea : f.getLast? = some a) (hl : 2 ≤ f.length) : a ∣ Na05.resultant f (Na05.slope f) := by
  have hfn : f ≠ [] := by intro z; subst z; cases ea
  have hsl := slope_len h
  have hsn : Na05.slope f ≠ [] := by intro z; rw [z] at hsl; simp at hsl; omega
  unfold Na05.resultant
  rw [if_neg (by rintro (z | z) <;> contradiction), hsl, show f.length + (f.length - 1) - 2 = (f.length + (f.length - 1) - 3) + 1 by omega]
  refine dvd_det fun row hr => ?_
  unfold Na05.sylvester at hr
  dsimp only at hr
  have key : ∀ (p : List Int) (k i : Nat), p ≠ [] → a ∣ p.reverse.headD 0 → a ∣ (List.replicate i 0 ++ (p.reverse ++ List.replicate k 0)).headD 0 := by
    intro p k i hp hd
    cases i with
    | zero =>
      have hr : p.reverse ≠ [] := by simpa using hp
      cases e : p.reverse with
      | nil => exact absurd e hr
      | cons x l => rw [e] at hd; exact hd
    | succ i => exact ⟨0, by simp [List.replicate_succ]⟩
  rcases List.mem_append.mp hr with hr | hr
  · obtain ⟨i, _, rfl⟩ := List.mem_map.mp hr
    exact key f _ i hfn (by rw [head_reverse ea]; exact Int.dvd_refl a)
  · obtain ⟨i, _, rfl⟩ := List.mem_map.mp hr
    exact key (Na05.slope f) _ i hsn (by rw [head_reverse (slope_last h ea hl)]; exact Int.dvd_mul_left _ _)
def discM (f : List Int) : Int :=
  let number := (resultantM f (slopeM f)).fdiv (f.getLastD 0)
  if (f.length - 1) * (f.length - 1 - 1) / 2 % 2 = 1 then -number else number
theorem disc_is {f : List Int} (h : Tr f) (hl : 2 ≤ f.length) : discM f = Na05.disc f := by
  have hfn : f ≠ [] := by intro z; subst z; simp at hl
  obtain ⟨a, ea⟩ := exists_last hfn
  have ha := h a ea
  obtain ⟨k, ek⟩ := lead_dvd_res h ea hl
  unfold discM Na05.disc
  dsimp only
  rw [resultant_is, slope_is h, getLastD_of ea, getLastD_of ea, ek]
  have e1 : (a * k).fdiv a = k := by rw [Int.mul_comm, Int.mul_fdiv_cancel _ ha]
  rw [e1]
  by_cases hp : (f.length - 1) * (f.length - 1 - 1) / 2 % 2 = 0
  · rw [if_pos hp, if_neg (by omega)]
    rw [show 1 * (a * k) = a * k by grind, Int.mul_ediv_cancel_left _ ha]
  · rw [if_neg hp, if_pos (by omega)]
    rw [show -1 * (a * k) = a * (-k) by grind, Int.mul_ediv_cancel_left _ ha]
end MA
/-! Gauss's lemma; divisibility; irreducible ones; taken apart in one way. -/
namespace MA
open Na05 (toQ content sign whole cleared times div euclid common)
theorem ext_I {f g : List Int} (hf : Tr f) (hg : Tr g) (h : ∀ n : Nat, ev (toQ f) n = ev (toQ g) n) : f = g := toQ_inj (ext_ev (tr_toQ.mpr hf) (tr_toQ.mpr hg) h)
/-! ### primes -/
def Pr (p : Nat) : Prop := 1 < p ∧ ∀ m, m ∣ p → m = 1 ∨ m = p
theorem exists_prime : ∀ (n d : Nat), d ≤ n → 1 < d → ∃ p, Pr p ∧ p ∣ d
  | 0, d, h, h1 => by omega
  | n + 1, d, h, h1 => by
    by_cases hp : Pr d
    · exact ⟨d, hp, Nat.dvd_refl d⟩
    · have : ∃ m, m ∣ d ∧ m ≠ 1 ∧ m ≠ d := by
        apply Classical.byContradiction
        intro hn
        apply hp
        refine ⟨h1, fun m hm => ?_⟩
        apply Classical.byContradiction
        intro hm2
        exact hn ⟨m, hm, fun e => hm2 (Or.inl e), fun e => hm2 (Or.inr e)⟩
      obtain ⟨m, hm, hm1, hm2⟩ := this
      have hle := Nat.le_of_dvd (by omega) hm
      have h0 : m ≠ 0 := by intro z; subst z; rw [Nat.zero_dvd] at hm; omega
      obtain ⟨p, hp1, hp2⟩ := exists_prime n m (by omega) (by omega)
      exact ⟨p, hp1, Nat.dvd_trans hp2 hm⟩
theorem Pr.mul {p a b : Nat} (hp : Pr p) (h : p ∣ a * b) : p ∣ a ∨ p ∣ b := by
  rcases hp.2 _ (Nat.gcd_dvd_left p a) with e | e
  · exact Or.inr (Nat.Coprime.dvd_of_dvd_mul_left (show Nat.Coprime p a from e) h)
  · left
    rw [← e]
    exact Nat.gcd_dvd_right p a
theorem Pr.mulI {p : Nat} {a b : Int} (hp : Pr p) (h : (p : Int) ∣ a * b) : (p : Int) ∣ a ∨ (p : Int) ∣ b := by
  rw [Int.ofNat_dvd_left, Int.natAbs_mul] at h
  rcases hp.mul h with h | h
  · exact Or.inl (Int.ofNat_dvd_left.mpr h)
  · exact Or.inr (Int.ofNat_dvd_left.mpr h)
theorem sumI_but {p : Int} {F : Nat → Int} : ∀ {n i : Nat}, i < n → (∀ a, a < n → a ≠ i → p ∣ F a) → p ∣ MD.sumI n F - F i
  | 0, _, h, _ => by omega
  | n + 1, i, h, hd => by
    rw [MD.sumI]
    by_cases e : i = n
    · subst e
      have all : ∀ m, m ≤ i → p ∣ MD.sumI m F := by
        intro m
        induction m with
        | zero => intro _; exact ⟨0, by simp [MD.sumI]⟩
        | succ m ih => intro hm; rw [MD.sumI]; exact Int.dvd_add (ih (by omega)) (hd m (by omega) (by omega))
      have := all i (Nat.le_refl i)
      rw [show MD.sumI i F + F i - F i = MD.sumI i F by omega]
      exact this
    · have ih := sumI_but (n := n) (i := i) (by omega) (fun a ha hne => hd a (by omega) hne)
      rw [show MD.sumI n F + F n - F i = (MD.sumI n F - F i) + F n by omega]
      exact Int.dvd_add ih (hd n (by omega) (by omega))
/-- the first number that p does not divide -/
theorem first_not {p : Nat} {f : List Int} (h : ¬ p ∣ content f) : ∃ i, i < f.length ∧ ¬ (p : Int) ∣ f.getD i 0 ∧ ∀ a, a < i → (p : Int) ∣ f.getD a 0 := by
  have h1 : ∃ i, i < f.length ∧ ¬ (p : Int) ∣ f.getD i 0 := by
    apply Classical.byContradiction
    intro hn
    apply h
    rw [dvd_content]
    intro c hc
    obtain ⟨i, hi, e⟩ := List.mem_iff_getElem.mp hc
    apply Classical.byContradiction
    intro hne
    refine hn ⟨i, hi, fun hd => hne ?_⟩
    rw [List.getD_eq_getElem?_getD, List.getElem?_eq_getElem hi] at hd
    have hd' : (p : Int) ∣ f[i] := hd
    rw [e] at hd'
    exact Int.ofNat_dvd_left.mp hd'
  have key : ∀ n, (∃ i, i < n ∧ i < f.length ∧ ¬ (p : Int) ∣ f.getD i 0) → ∃ i, i < f.length ∧ ¬ (p : Int) ∣ f.getD i 0 ∧ ∀ a, a < i → (p : Int) ∣ f.getD a 0 := by
    intro n
    induction n with
    | zero => rintro ⟨i, h0, _⟩; omega
    | succ n ih =>
      rintro ⟨i, hin, hil, hi⟩
      by_cases hs : ∃ i, i < n ∧ i < f.length ∧ ¬ (p : Int) ∣ f.getD i 0
      · exact ih hs
      · have e : i = n := by
          apply Decidable.byContradiction
          intro hne
          exact hs ⟨i, by omega, hil, hi⟩
        subst e
        refine ⟨i, hil, hi, fun a ha => ?_⟩
        apply Classical.byContradiction
        intro hna
        exact hs ⟨a, ha, by omega, hna⟩
  obtain ⟨i, hi, hd⟩ := h1
  exact key (i + 1) ⟨i, by omega, hi, hd⟩
/-- Gauss's lemma -/
theorem gauss {f g : List Int} (hf : Bare f) (hg : Bare g) : Bare (times f g) := by
  constructor
  · apply Classical.byContradiction
    intro hc
    have h0 : content (times f g) ≠ 0 := by
      intro z
      have h1 := times_len hf.tr hg.tr hf.ne hg.ne
      have := content_pos (tr_times f g) (by intro e; rw [e] at h1; have a := List.length_pos_iff.mpr hf.ne; have b := List.length_pos_iff.mpr hg.ne; simp at h1; omega)
      omega
    obtain ⟨p, hp, hpd⟩ := exists_prime _ (content (times f g)) (Nat.le_refl _) (by omega)
    have n1 : ∀ {k : List Int}, Bare k → ¬ p ∣ content k := fun hk z => by
      rw [hk.one, Nat.dvd_one] at z
      have := hp.1
      omega
    obtain ⟨i, hi, hi1, hi2⟩ := first_not (n1 hf)
    obtain ⟨j, hj, hj1, hj2⟩ := first_not (n1 hg)
    have hb := sumI_but (p := (p : Int)) (F := fun a => if a ≤ i + j then f.getD a 0 * g.getD (i + j - a) 0 else 0) (n := f.length) (i := i) hi (fun a ha hne => by
      by_cases h1 : a < i
      · rw [if_pos (by omega)]
        exact Int.dvd_mul_of_dvd_left (hi2 a h1)
      · by_cases h2 : a ≤ i + j
        · rw [if_pos h2]
          exact Int.dvd_mul_of_dvd_right (hj2 _ (by omega))
        · rw [if_neg h2]; exact ⟨0, by simp⟩)
    have hconv : (p : Int) ∣ conv f g (i + j) := by
      rw [Int.ofNat_dvd_left]
      refine Nat.dvd_trans hpd (content_dvd ?_)
      rw [times_is hf.tr hg.tr hf.ne hg.ne]
      exact List.mem_map.mpr ⟨i + j, List.mem_range.mpr (by omega), rfl⟩
    have h3 : (p : Int) ∣ f.getD i 0 * g.getD j 0 := by
      rw [if_pos (by omega), show i + j - i = j by omega] at hb
      have hb : (p : Int) ∣ conv f g (i + j) - f.getD i 0 * g.getD j 0 := hb
      have : f.getD i 0 * g.getD j 0 = conv f g (i + j) - (conv f g (i + j) - f.getD i 0 * g.getD j 0) := by omega
      rw [this]
      exact Int.dvd_sub hconv hb
    rcases hp.mulI h3 with h | h
    · exact hi1 h
    · exact hj1 h
  · intro c hc
    obtain ⟨a, ea⟩ := exists_last hf.ne
    obtain ⟨b, eb⟩ := exists_last hg.ne
    rw [times_last hf.tr hg.tr ea eb] at hc
    rw [← Option.some.inj hc]
    exact Int.mul_pos (hf.pos a ea) (hg.pos b eb)
/-! ### products as a monoid -/
theorem times_comm {f g : List Int} (hf : Tr f) (hg : Tr g) : times f g = times g f := ext_I (tr_times _ _) (tr_times _ _) fun n => by
  rw [ev_times hf hg, ev_times hg hf]; grind
theorem times_assoc {f g h : List Int} (hf : Tr f) (hg : Tr g) (hh : Tr h) : times (times f g) h = times f (times g h) := ext_I (tr_times _ _) (tr_times _ _) fun n => by
  rw [ev_times (tr_times _ _) hh, ev_times hf hg, ev_times hf (tr_times _ _), ev_times hg hh]; grind
theorem tr_one : Tr ([1] : List Int) := fun c hc => by
  have e : (1 : Int) = c := Option.some.inj hc
  subst e
  decide
theorem ev_one (x : Rat) : ev (toQ [1]) x = 1 := by
  show ((1 : Int) : Rat) + x * 0 = 1
  have : ((1 : Int) : Rat) = 1 := rfl
  rw [this]; grind
theorem times_one {f : List Int} (hf : Tr f) : times f [1] = f := ext_I (tr_times _ _) hf fun n => by
  rw [ev_times hf tr_one, ev_one]; grind
theorem one_times {f : List Int} (hf : Tr f) : times [1] f = f := by rw [times_comm tr_one hf, times_one hf]
theorem bare_one : Bare [1] := ⟨by decide, fun c hc => by have e : (1 : Int) = c := Option.some.inj hc; subst e; decide⟩
theorem bare_const {f : List Int} (h : Bare f) (hl : f.length ≤ 1) : f = [1] := by
  cases f with
  | nil => exact absurd rfl h.ne
  | cons a f =>
    cases f with
    | nil =>
      have h1 := h.one
      have h2 := h.pos a rfl
      have e : content [a] = a.natAbs := by show Nat.gcd 0 a.natAbs = _; simp
      rw [e] at h1
      have : a = 1 := by omega
      rw [this]
    | cons b f => simp at hl
/-- cancelling -/
theorem times_cancel {f g h : List Int} (hf : Tr f) (hg : Tr g) (hh : Tr h) (hn : f ≠ []) (e : times f g = times f h) : g = h := by
  have hQn : toQ f ≠ [] := by simpa [toQ_nil_iff] using hn
  have := div_unique (g := toQ f) (q := toQ g) (r := []) (q' := toQ h) (r' := []) (tr_toQ.mpr hf) hQn (tr_toQ.mpr hg) (tr_toQ.mpr hh) Tr.nil Tr.nil (List.length_pos_iff.mpr hQn) (List.length_pos_iff.mpr hQn) fun n => by
    rw [← ev_times hf hg, ← ev_times hf hh, e]
  exact toQ_inj this.1
/-! ### divisibility -/
/-- g divides f over the fractions -/
def Dv (g f : List Int) : Prop := ∃ q : List Rat, ∀ n : Nat, ev (toQ f) n = ev (toQ g) n * ev q n
/-- whole: a bare one that divides over the fractions divides -/
theorem Dv.whole {g f : List Int} (hg : Bare g) (hf : Tr f) (hn : f ≠ []) (h : Dv g f) : ∃ k, Tr k ∧ k ≠ [] ∧ f = times g k ∧ (Bare f → Bare k) := by
  obtain ⟨q, hq⟩ := h
  have hq' : ∀ n : Nat, ev (toQ f) n = ev (toQ g) n * ev (trimG q) n := fun n => by rw [ev_trimG]; exact hq n
  have hqn : trimG q ≠ [] := fun z => by
    apply hn
    refine ext_I hf Tr.nil fun n => ?_
    rw [hq', z, ev_nil]
    show _ = ev [] _
    rw [ev_nil]; grind
  obtain ⟨hB, c, hc, ec⟩ := cleared_ok (trimG_tr q) hqn
  have hP := gauss hg hB
  have hPf : toQ f = (toQ (times g (cleared (trimG q)))).map (c⁻¹ * ·) := by
    refine ext_ev (tr_toQ.mpr hf) (tr_smul (by grind) (tr_toQ.mpr hP.tr)) fun n => ?_
    rw [ev_smul, ev_times hg.tr hB.tr, ec, ev_smul, hq']
    grind
  have hw : Na05.whole f = times g (cleared (trimG q)) := by
    rw [← cleared_toQ hf]
    exact cleared_is (tr_toQ.mpr hf) hP (c := c⁻¹) (by grind) hPf
  have hs := whole_smul hf hn
  rw [hw] at hs
  have hz : sign f * (content f : Int) ≠ 0 := by
    have := content_pos hf hn
    rcases sign_cases f with e | e <;> rw [e] <;> omega
  refine ⟨(cleared (trimG q)).map ((sign f * (content f : Int)) * ·), tr_smulI hz hB.tr, by simpa using hB.ne, ?_, fun hbf => ?_⟩
  · refine ext_I hf (tr_times _ _) fun n => ?_
    have e1 : ev (toQ f) n = ev (toQ ((times g (cleared (trimG q))).map ((sign f * (content f : Int)) * ·))) n := by rw [← hs]
    rw [e1, toQ_smul, ev_smul, ev_times hg.tr hB.tr, ev_times hg.tr (tr_smulI hz hB.tr), toQ_smul, ev_smul]
    grind
  · obtain ⟨a, ea⟩ := exists_last hbf.ne
    have e1 : sign f = 1 := by unfold sign; rw [getLastD_of ea, if_neg (by have := hbf.pos a ea; omega)]
    rw [e1, hbf.one]
    have : (fun x : Int => (1 * ((1 : Nat) : Int)) * x) = id := by funext x; simp
    rw [this, List.map_id]
    exact hB
theorem Dv.of_times {g k : List Int} (hg : Tr g) (hk : Tr k) : Dv g (times g k) := ⟨toQ k, fun n => ev_times hg hk n⟩
theorem Dv.refl (f : List Int) : Dv f f := ⟨[1], fun n => by show _ = _ * (1 + _ * 0); grind⟩
theorem Dv.trans {f g h : List Int} (a : Dv f g) (b : Dv g h) : Dv f h := by
  obtain ⟨q, hq⟩ := a
  obtain ⟨r, hr⟩ := b
  exact ⟨mulL q r, fun n => by rw [ev_mulL, hr, hq]; grind⟩
/-- what the specification says of divides -/
theorem divides_iff {g f : List Int} (hg : Tr g) (hf : Tr f) (hn : g ≠ []) : Na05.divides g f = true ↔ Dv g f := by
  unfold Na05.divides
  rw [if_neg hn]
  have hQn : toQ g ≠ [] := by simpa [toQ_nil_iff] using hn
  obtain ⟨h1, h2, h3, h4⟩ := div_ok (tr_toQ.mpr hf) (tr_toQ.mpr hg) hQn
  constructor
  · intro e
    have e2 : (div (toQ f) (toQ g)).2 = [] := by simpa using e
    exact ⟨(div (toQ f) (toQ g)).1, fun n => by rw [← h1 n, e2, ev_nil]; grind⟩
  · rintro ⟨q, hq⟩
    have := div_is (q := trimG q) (r := []) (tr_toQ.mpr hf) (tr_toQ.mpr hg) hQn (trimG_tr q) Tr.nil (List.length_pos_iff.mpr hQn) fun n => by rw [ev_trimG, hq n, ev_nil]; grind
    rw [this]; rfl
/-! ### Euclid: the last one divides both, and is made of both -/
def DvQ (g f : List Rat) : Prop := ∃ q : List Rat, ∀ n : Nat, ev f n = ev g n * ev q n
theorem DvQ.refl (f : List Rat) : DvQ f f := ⟨[1], fun n => by show _ = _ * (1 + _ * 0); grind⟩
theorem euclid_ok : ∀ (n : Nat) (a b : List Rat), Tr a → Tr b → b.length < n → Tr (euclid n a b) ∧ DvQ (euclid n a b) a ∧ DvQ (euclid n a b) b ∧ ∃ u v : List Rat, ∀ m : Nat, ev (euclid n a b) m = ev u m * ev a m + ev v m * ev b m
  | 0, a, b, _, _, h => by omega
  | n + 1, a, b, ha, hb, h => by
    rw [euclid]
    by_cases hn : b = []
    · rw [if_pos hn]
      subst hn
      exact ⟨ha, DvQ.refl a, ⟨[], fun m => by simp only [ev_nil]; grind⟩, [1], [], fun m => by simp only [ev_nil, ev_cons]; grind⟩
    · rw [if_neg hn]
      obtain ⟨h1, h2, h3, h4⟩ := div_ok ha hb hn
      obtain ⟨i0, ⟨q1, e1⟩, ⟨q2, e2⟩, u, v, e3⟩ := euclid_ok n b (div a b).2 hb h3 (by omega)
      refine ⟨i0, ⟨addL (mulL q1 (div a b).1) q2, fun m => ?_⟩, ⟨q1, e1⟩, v, subL u (mulL v (div a b).1), fun m => ?_⟩
      · rw [ev_addL, ev_mulL, ← h1 m, e2 m, e1 m]
        grind
      · rw [e3 m, ev_subL, ev_mulL]
        have := h1 m
        grind
theorem common_ok {f g : List Int} (hf : Tr f) (hg : Tr g) (hn : f ≠ [] ∨ g ≠ []) : Bare (common f g) ∧ Dv (common f g) f ∧ Dv (common f g) g ∧ ∃ u v : List Rat, ∀ m : Nat, ev (toQ (common f g)) m = ev u m * ev (toQ f) m + ev v m * ev (toQ g) m := by
  obtain ⟨h0, ⟨q1, e1⟩, ⟨q2, e2⟩, u, v, e3⟩ := euclid_ok (f.length + g.length + 1) (toQ f) (toQ g) (tr_toQ.mpr hf) (tr_toQ.mpr hg) (by rw [toQ_len]; omega)
  have hne : euclid (f.length + g.length + 1) (toQ f) (toQ g) ≠ [] := fun z => by
    rw [z] at e1 e2
    rcases hn with hn | hn
    · exact hn (ext_I hf Tr.nil fun n => by rw [e1]; show ev [] _ * _ = ev [] _; rw [ev_nil]; grind)
    · exact hn (ext_I hg Tr.nil fun n => by rw [e2]; show ev [] _ * _ = ev [] _; rw [ev_nil]; grind)
  obtain ⟨hB, c, hc, ec⟩ := cleared_ok h0 hne
  have hcm : common f g = cleared (euclid (f.length + g.length + 1) (toQ f) (toQ g)) := rfl
  rw [hcm]
  refine ⟨hB, ⟨q1.map (c⁻¹ * ·), fun n => ?_⟩, ⟨q2.map (c⁻¹ * ·), fun n => ?_⟩, u.map (c * ·), v.map (c * ·), fun m => ?_⟩
  · rw [ec, ev_smul, ev_smul, e1]; grind
  · rw [ec, ev_smul, ev_smul, e2]; grind
  · rw [ec, ev_smul, ev_smul, ev_smul, e3]; grind
/-! ### irreducible ones -/
structure Irr (f : List Int) : Prop where
  bare : Bare f
  deg : 2 ≤ f.length
  only : ∀ g k, Bare g → Bare k → f = times g k → g.length ≤ 1 ∨ k.length ≤ 1
/-- an irreducible one that divides a product divides one of the two -/
theorem Irr.prime {p f g : List Int} (hp : Irr p) (hf : Tr f) (hg : Tr g) (h : Dv p (times f g)) : Dv p f ∨ Dv p g := by
  obtain ⟨hB, d1, d2, u, v, e3⟩ := common_ok (f := p) (g := f) hp.bare.tr hf (Or.inl hp.bare.ne)
  obtain ⟨k, hk, hkn, ek, hkb⟩ := Dv.whole hB hp.bare.tr hp.bare.ne d1
  rcases hp.only _ k hB (hkb hp.bare) ek with hl | hl
  · right
    rw [bare_const hB hl] at e3
    obtain ⟨q, hq⟩ := h
    refine ⟨addL (mulL u (toQ g)) (mulL v q), fun n => ?_⟩
    have e4 := e3 n
    rw [ev_one] at e4
    have e5 := hq n
    rw [ev_times hf hg] at e5
    rw [ev_addL, ev_mulL, ev_mulL]
    have : ev (toQ g) n = (ev u n * ev (toQ p) n + ev v n * ev (toQ f) n) * ev (toQ g) n := by rw [← e4]; grind
    rw [this]
    grind
  · left
    rw [bare_const (hkb hp.bare) hl, times_one hB.tr] at ek
    rw [ek]
    exact d2
theorem irr_dv {p q : List Int} (hp : Irr p) (hq : Irr q) (h : Dv p q) : p = q := by
  obtain ⟨k, hk, hkn, ek, hkb⟩ := Dv.whole hp.bare hq.bare.tr hq.bare.ne h
  rcases hq.only _ k hp.bare (hkb hq.bare) ek with hl | hl
  · have := hp.deg; omega
  · rw [bare_const (hkb hq.bare) hl, times_one hp.bare.tr] at ek
    exact ek.symm
/-- a product of a list -/
def prod : List (List Int) → List Int
  | [] => [1]
  | p :: l => times p (prod l)
theorem tr_prod : ∀ l : List (List Int), Tr (prod l)
  | [] => tr_one
  | _ :: _ => tr_times _ _
theorem bare_prod : ∀ {l : List (List Int)}, (∀ p ∈ l, Bare p) → Bare (prod l)
  | [], _ => bare_one
  | p :: l, h => gauss (h p List.mem_cons_self) (bare_prod fun q hq => h q (List.mem_cons_of_mem _ hq))
theorem irr_in_prod {p : List Int} (hp : Irr p) : ∀ {l : List (List Int)}, (∀ q ∈ l, Irr q) → Dv p (prod l) → p ∈ l
  | [], _, h => by
    exfalso
    obtain ⟨k, hk, hkn, ek, hkb⟩ := Dv.whole hp.bare bare_one.tr bare_one.ne h
    have hl := times_len hp.bare.tr hk hp.bare.ne hkn
    rw [← ek] at hl
    have h1 := hp.deg
    have h2 := List.length_pos_iff.mpr hkn
    have h3 : ([1] : List Int).length = 1 := rfl
    have h4 : (prod []).length = 1 := rfl
    omega
  | q :: l, hl, h => by
    have hq := hl q List.mem_cons_self
    rcases hp.prime hq.bare.tr (tr_prod l) h with h | h
    · rw [irr_dv hp hq h]; exact List.mem_cons_self
    · exact List.mem_cons_of_mem _ (irr_in_prod hp (fun r hr => hl r (List.mem_cons_of_mem _ hr)) h)
theorem prod_perm {l l' : List (List Int)} (h : l.Perm l') (ht : ∀ p ∈ l, Tr p) : prod l = prod l' := by
  induction h with
  | nil => rfl
  | cons x _ ih => rw [prod, prod, ih fun p hp => ht p (List.mem_cons_of_mem _ hp)]
  | swap x y l =>
    rw [prod, prod, prod, prod]
    have tx : Tr x := ht x (by simp)
    have ty : Tr y := ht y (by simp)
    rw [← times_assoc ty tx (tr_prod l), ← times_assoc tx ty (tr_prod l), times_comm ty tx]
  | trans h1 _ ih1 ih2 => rw [ih1 ht, ih2 fun p hp => ht p (h1.mem_iff.mpr hp)]
/-- taken apart in one way -/
theorem apart_unique : ∀ {l l' : List (List Int)}, (∀ p ∈ l, Irr p) → (∀ p ∈ l', Irr p) → prod l = prod l' → l.Perm l'
  | [], [], _, _, _ => List.Perm.nil
  | [], q :: l', _, h', e => by
    have hm := irr_in_prod (h' q List.mem_cons_self) (l := []) (fun p hp => by cases hp) (by
      rw [e]
      exact Dv.of_times (h' q List.mem_cons_self).bare.tr (tr_prod l'))
    cases hm
  | p :: l, l', h, h', e => by
    have hp := h p List.mem_cons_self
    have hm := irr_in_prod hp h' (by
      rw [← e]
      exact Dv.of_times hp.bare.tr (tr_prod l))
    have hperm := List.perm_cons_erase hm
    have e2 := prod_perm hperm fun q hq => (h' q hq).bare.tr
    rw [← e, prod, prod] at e2
    have e3 := times_cancel hp.bare.tr (tr_prod _) (tr_prod _) hp.bare.ne e2
    have ih := apart_unique (fun q hq => h q (List.mem_cons_of_mem _ hq)) (fun q hq => h' q (List.mem_of_mem_erase hq)) e3
    exact (List.Perm.cons p ih).trans hperm.symm
end MA
/-! The specification's roots, candidates, parts: what they are. -/
namespace MA
open Na05 (toQ content sign whole cleared times div euclid common value divisors put rationals squares part partsFrom by_)
theorem value_is (f : List Int) (x : Rat) : value f x = ev (toQ f) x := by
  unfold value ev toQ
  rw [List.foldr_map]
/-! ### put -/
theorem mem_put {r x : Rat} : ∀ {l : List Rat}, x ∈ put r l ↔ x = r ∨ x ∈ l
  | [] => by simp [put]
  | y :: l => by
    unfold put
    by_cases h1 : r < y
    · rw [if_pos h1]; simp
    · rw [if_neg h1]
      by_cases h2 : y < r
      · rw [if_pos h2, List.mem_cons, mem_put, List.mem_cons]
        constructor
        · rintro (h | h | h)
          · exact Or.inr (Or.inl h)
          · exact Or.inl h
          · exact Or.inr (Or.inr h)
        · rintro (h | h | h)
          · exact Or.inr (Or.inl h)
          · exact Or.inl h
          · exact Or.inr (Or.inr h)
      · rw [if_neg h2]
        have e : r = y := by grind
        subst e
        simp
theorem sorted_put {r : Rat} : ∀ {l : List Rat}, l.Pairwise (· < ·) → (put r l).Pairwise (· < ·)
  | [], _ => by simp [put]
  | y :: l, h => by
    rw [List.pairwise_cons] at h
    unfold put
    by_cases h1 : r < y
    · rw [if_pos h1, List.pairwise_cons, List.pairwise_cons]
      refine ⟨fun z hz => ?_, h⟩
      rcases List.mem_cons.mp hz with e | e
      · subst e; exact h1
      · have := h.1 z e; grind
    · rw [if_neg h1]
      by_cases h2 : y < r
      · rw [if_pos h2, List.pairwise_cons]
        refine ⟨fun z hz => ?_, sorted_put h.2⟩
        rcases mem_put.mp hz with e | e
        · subst e; exact h2
        · exact h.1 z e
      · rw [if_neg h2, List.pairwise_cons]; exact h
theorem fold_put (f : List Int) : ∀ (cs z : List Rat), z.Pairwise (· < ·) → (cs.foldl (fun l r => if value f r = 0 then put r l else l) z).Pairwise (· < ·) ∧ ∀ x, x ∈ cs.foldl (fun l r => if value f r = 0 then put r l else l) z ↔ x ∈ z ∨ (x ∈ cs ∧ value f x = 0)
  | [], z, h => ⟨h, fun x => by simp⟩
  | c :: cs, z, h => by
    rw [List.foldl_cons]
    by_cases hv : value f c = 0
    · rw [if_pos hv]
      obtain ⟨h1, h2⟩ := fold_put f cs (put c z) (sorted_put h)
      refine ⟨h1, fun x => ?_⟩
      rw [h2, mem_put, List.mem_cons]
      constructor
      · rintro ((e | e) | e)
        · subst e; exact Or.inr ⟨Or.inl rfl, hv⟩
        · exact Or.inl e
        · exact Or.inr ⟨Or.inr e.1, e.2⟩
      · rintro (e | ⟨e | e, e2⟩)
        · exact Or.inl (Or.inr e)
        · exact Or.inl (Or.inl e)
        · exact Or.inr ⟨e, e2⟩
    · rw [if_neg hv]
      obtain ⟨h1, h2⟩ := fold_put f cs z h
      refine ⟨h1, fun x => ?_⟩
      rw [h2, List.mem_cons]
      constructor
      · rintro (e | e)
        · exact Or.inl e
        · exact Or.inr ⟨Or.inr e.1, e.2⟩
      · rintro (e | ⟨e | e, e2⟩)
        · exact Or.inl e
        · subst e; exact absurd e2 hv
        · exact Or.inr ⟨e, e2⟩
theorem mem_divisors {n d : Nat} : d ∈ divisors n ↔ d ≤ n ∧ d ≠ 0 ∧ d ∣ n := by
  unfold divisors
  rw [List.mem_filter, List.mem_range]
  simp only [Bool.and_eq_true, bne_iff_ne, beq_iff_eq]
  constructor
  · rintro ⟨h1, h2, h3⟩; exact ⟨by omega, h2, Nat.dvd_of_mod_eq_zero h3⟩
  · rintro ⟨h1, h2, h3⟩; exact ⟨by omega, h2, Nat.mod_eq_zero_of_dvd h3⟩
theorem mem_divisors_of {n d : Nat} (hn : n ≠ 0) (h : d ∣ n) : d ∈ divisors n := mem_divisors.mpr ⟨Nat.le_of_dvd (by omega) h, fun z => by subst z; rw [Nat.zero_dvd] at h; exact hn h, h⟩
/-! ### linear parts -/
def lin (r : Rat) : List Int := [-r.num, (r.den : Int)]
theorem lin_bare (r : Rat) : Bare (lin r) where
  one := by
    have : content (lin r) = Nat.gcd (Nat.gcd 0 (-r.num).natAbs) (r.den : Int).natAbs := rfl
    rw [this]
    simp
    exact r.reduced
  pos := fun c hc => by
    have e : (r.den : Int) = c := Option.some.inj hc
    rw [← e]
    have := r.den_nz
    omega
theorem ev_lin (r x : Rat) : ev (toQ (lin r)) x = (r.den : Rat) * (x - r) := by
  show ((-r.num : Int) : Rat) + x * (((r.den : Int) : Rat) + x * 0) = _
  have e1 : ((r.den : Int) : Rat) = (r.den : Rat) := rfl
  rw [e1, Rat.intCast_neg]
  have hd := den_ne r
  have hr := rat_eq r
  generalize (r.num : Rat) = a at *
  generalize (r.den : Rat) = b at *
  rw [hr]
  grind
theorem dv_lin {f : List Int} {r : Rat} (h : ev (toQ f) r = 0) : Dv (lin r) f := by
  refine ⟨(synth r (toQ f)).1.map ((r.den : Rat)⁻¹ * ·), fun n => ?_⟩
  have h1 := synth_ev r (toQ f) r
  have h2 : (synth r (toQ f)).2 = 0 := by rw [h] at h1; grind
  rw [synth_ev r (toQ f) n, h2, ev_lin, ev_smul]
  have hd := den_ne r
  grind
theorem root_of_dv {f g : List Int} {r : Rat} (h : Dv g f) (hg : ev (toQ g) r = 0) : ev (toQ f) r = 0 := by
  obtain ⟨q, hq⟩ := h
  have e : ev (toQ f) r = ev (mulL (toQ g) q) r := by
    refine ev_of_getD (getD_of_ev fun n => ?_) r
    rw [ev_mulL]; exact hq n
  rw [e, ev_mulL, hg]; grind
theorem getD_zero_times {f g : List Int} (hf : Tr f) (hg : Tr g) (hfn : f ≠ []) (hgn : g ≠ []) : (times f g).getD 0 0 = f.getD 0 0 * g.getD 0 0 := by
  have h1 := List.length_pos_iff.mpr hfn
  have h2 := List.length_pos_iff.mpr hgn
  have e : (times f g).getD 0 0 = conv f g 0 := by
    rw [times_is hf hg hfn hgn, range_getD, if_pos (by omega)]
  rw [e]
  apply Rat.intCast_inj.mp
  unfold conv
  rw [MD.sumI_cast, show f.length = (f.length - 1) + 1 by omega, sumRt_shift, Rat.intCast_mul, MD.sumRt_zero fun i _ => by rw [if_neg (by omega)]; rfl]
  rw [if_pos (Nat.le_refl 0), Rat.intCast_mul]
  grind
theorem ev_at_zero (f : List Int) : ev (toQ f) 0 = ((f.getD 0 0 : Int) : Rat) := by
  cases f with
  | nil => rfl
  | cons c f => rw [toQ_cons, ev_cons]; simp; grind
theorem dropWhile_eq (f : List Int) : ∃ i, f = List.replicate i 0 ++ f.dropWhile (fun c => c == 0) := by
  induction f with
  | nil => exact ⟨0, rfl⟩
  | cons c f ih =>
    by_cases h : c = 0
    · obtain ⟨i, e⟩ := ih
      refine ⟨i + 1, ?_⟩
      rw [List.dropWhile_cons, if_pos (by simpa using h), List.replicate_succ, List.cons_append, ← e, h]
    · refine ⟨0, ?_⟩
      rw [List.dropWhile_cons, if_neg (by simpa using h)]; rfl
theorem dropWhile_head {f : List Int} (h : f.dropWhile (fun c => c == 0) ≠ []) : (f.dropWhile (fun c => c == 0)).headD 1 ≠ 0 := by
  have := List.head_dropWhile_not (fun c : Int => c == 0) h
  cases e : f.dropWhile (fun c => c == 0) with
  | nil => exact absurd e h
  | cons x l =>
    show x ≠ 0
    intro z
    simp only [e, List.head_cons] at this
    simp [z] at this
/-- the roots that are fractions, all of them, rising -/
theorem rationals_ok {f : List Int} (hf : Tr f) (hn : f ≠ []) : (rationals f).Pairwise (· < ·) ∧ ∀ r, r ∈ rationals f ↔ ev (toQ f) r = 0 := by
  unfold rationals
  generalize hg : f.dropWhile (fun c => c == 0) = g
  obtain ⟨i, ei⟩ := dropWhile_eq f
  rw [hg] at ei
  have hgn : g ≠ [] := fun z => by
    rw [z, List.append_nil] at ei
    obtain ⟨a, ea⟩ := exists_last hn
    have hm := List.mem_of_getLast? ea
    rw [ei] at hm
    exact hf a ea (List.eq_of_mem_replicate hm)
  have hgt : Tr g := fun c hc => by
    refine hf c ?_
    rw [ei, List.getLast?_append, hc]; rfl
  have hh : g.headD 1 ≠ 0 := by rw [← hg]; exact dropWhile_head (by rw [hg]; exact hgn)
  have evf : ∀ x, ev (toQ f) x = x ^ i * ev (toQ g) x := fun x => by
    have : toQ f = List.replicate i 0 ++ toQ g := by
      rw [ei]
      unfold toQ
      rw [List.map_append, List.map_replicate]
      rfl
    rw [this, ev_shift]
  dsimp only
  obtain ⟨h1, h2⟩ := fold_put f ((divisors (g.headD 1).natAbs).flatMap fun (a : Nat) => (divisors (g.getLastD 1).natAbs).flatMap fun (b : Nat) => [(a : Rat) / (b : Rat), -((a : Rat) / (b : Rat))]) (if g.length < f.length then [(0 : Rat)] else []) (by split <;> simp)
  refine ⟨h1, fun r => ?_⟩
  rw [h2]
  have hlen : f.length = i + g.length := by rw [ei]; simp
  constructor
  · rintro (e | e)
    · split at e
      · rename_i hlt
        have e0 : r = 0 := by simpa using e
        rw [evf, e0]
        have : (0 : Rat) ^ i = 0 := by
          cases i with
          | zero => omega
          | succ i => rw [Rat.pow_succ]; grind
        rw [this]; grind
      · cases e
    · rw [← value_is]; exact e.2
  · intro hr
    by_cases h0 : r = 0
    · left
      have hi : i ≠ 0 := by
        intro z
        rw [h0, evf, z, Rat.pow_zero, ev_at_zero] at hr
        have hr2 : ((g.getD 0 0 : Int) : Rat) = ((0 : Int) : Rat) := by
          have : ((0 : Int) : Rat) = 0 := rfl
          rw [this]; grind
        have := Rat.intCast_inj.mp hr2
        cases g with
        | nil => exact hgn rfl
        | cons x l => exact hh this
      rw [if_pos (by omega), h0]; simp
    · right
      refine ⟨?_, by rw [value_is]; exact hr⟩
      have hgr : ev (toQ g) r = 0 := by
        rw [evf] at hr
        have hp : r ^ i ≠ 0 := by
          clear evf ei hr hlen h2 h1
          induction i with
          | zero => simp
          | succ i ih => rw [Rat.pow_succ]; intro z; rcases Rat.mul_eq_zero.mp z with z | z <;> contradiction
        rcases Rat.mul_eq_zero.mp hr with z | z
        · exact absurd z hp
        · exact z
      obtain ⟨k, hk, hkn, ek, _⟩ := Dv.whole (lin_bare r) hgt hgn (dv_lin hgr)
      have e0 := getD_zero_times (lin_bare r).tr hk (lin_bare r).ne hkn
      rw [← ek] at e0
      obtain ⟨c, ec⟩ := exists_last hkn
      have el := times_last (lin_bare r).tr hk (show (lin r).getLast? = some (r.den : Int) from rfl) ec
      rw [← ek] at el
      have d1 : r.num.natAbs ∈ divisors (g.headD 1).natAbs := by
        refine mem_divisors_of (by omega) ?_
        have : g.headD 1 = g.getD 0 0 := by cases g with
          | nil => exact absurd rfl hgn
          | cons x l => rfl
        rw [this, e0, Int.natAbs_mul]
        have : ((lin r).getD 0 0).natAbs = r.num.natAbs := by show (-r.num).natAbs = _; simp
        rw [this]
        exact Nat.dvd_mul_right _ _
      have d2 : r.den ∈ divisors (g.getLastD 1).natAbs := by
        rw [getLastD_of el]
        have hne := hgt _ el
        refine mem_divisors_of (by omega) ?_
        rw [Int.natAbs_mul]
        exact Nat.dvd_mul_right _ _
      rw [List.mem_flatMap]
      refine ⟨_, d1, ?_⟩
      rw [List.mem_flatMap]
      refine ⟨_, d2, ?_⟩
      have hr0 := rat_eq r
      by_cases hs : 0 ≤ r.num
      · have e1 : ((r.num.natAbs : Nat) : Rat) = (r.num : Rat) := by
          have : ((r.num.natAbs : Int) : Rat) = (r.num : Rat) := by congr 1; omega
          exact this
        rw [e1, ← hr0]
        simp
      · have e1 : ((r.num.natAbs : Nat) : Rat) = -(r.num : Rat) := by
          have : ((r.num.natAbs : Int) : Rat) = ((-r.num : Int) : Rat) := by congr 1; omega
          rw [Rat.intCast_neg] at this
          exact this
        have e2 : -(((r.num.natAbs : Nat) : Rat) / (r.den : Rat)) = r := by
          rw [e1]
          generalize (r.num : Rat) = a at *
          generalize (r.den : Rat) = b at *
          rw [hr0]
          grind
        rw [e2]
        simp
/-! ### parts of the first degree -/
theorem irr_two {f : List Int} (h : Bare f) (hl : f.length = 2) : Irr f where
  bare := h
  deg := by omega
  only := fun g k hg hk e => by
    have h1 := times_len hg.tr hk.tr hg.ne hk.ne
    rw [← e] at h1
    omega
theorem root_of_two {g : List Int} (hg : Bare g) (hl : g.length = 2) : ∃ r, ev (toQ g) r = 0 := by
  match g, hl with
  | [c, d], _ =>
    have hd : 0 < d := hg.pos d rfl
    refine ⟨-(c : Rat) / (d : Rat), ?_⟩
    show (c : Rat) + (-(c : Rat) / (d : Rat)) * ((d : Rat) + (-(c : Rat) / (d : Rat)) * 0) = 0
    have := intCast_ne (show d ≠ 0 by omega)
    grind
/-- without roots, a product of two has no part of the first degree -/
theorem no_two {f g k : List Int} (hf : Bare f) (hno : ∀ r, ev (toQ f) r ≠ 0) (hg : Bare g) (hk : Bare k) (e : f = times g k) : g.length ≠ 2 ∧ k.length ≠ 2 := by
  constructor
  · intro hl
    obtain ⟨r, hr⟩ := root_of_two hg hl
    exact hno r (root_of_dv (by rw [e]; exact Dv.of_times hg.tr hk.tr) hr)
  · intro hl
    obtain ⟨r, hr⟩ := root_of_two hk hl
    exact hno r (root_of_dv (by rw [e, times_comm hg.tr hk.tr]; exact Dv.of_times hk.tr hg.tr) hr)
theorem irr_small {f : List Int} (hf : Bare f) (h2 : 2 ≤ f.length) (h4 : f.length ≤ 4) (hno : ∀ r, ev (toQ f) r ≠ 0) : Irr f where
  bare := hf
  deg := h2
  only := fun g k hg hk e => by
    have h1 := times_len hg.tr hk.tr hg.ne hk.ne
    rw [← e] at h1
    obtain ⟨n1, n2⟩ := no_two hf hno hg hk e
    omega
/-! ### the bound of the middle number -/
theorem conv3 (c b a : Int) (k : List Int) (n : Nat) : conv [c, b, a] k n = c * k.getD n 0 + (if 1 ≤ n then b * k.getD (n - 1) 0 else 0) + (if 2 ≤ n then a * k.getD (n - 2) 0 else 0) := by
  unfold conv
  show MD.sumI 3 _ = _
  simp only [MD.sumI]
  rw [if_pos (Nat.zero_le n)]
  simp
theorem turn_bound {a B h X Y Z C F : Int} (ha : 1 ≤ a) (hB : 2 * a * (h + 1) < B) (hX : 1 ≤ X) (hY : 0 ≤ Y) (hYX : Y ≤ X) (hC : 0 ≤ C) (hCh : C ≤ h) (hFh : F ≤ h) (hle : B * X ≤ a * Z + C * Y + F) : X ≤ Z := by
  apply Decidable.byContradiction
  intro hn
  have hZ : Z ≤ X := by omega
  have h0 : 0 ≤ h := by omega
  have p1 : a * Z ≤ a * X := Int.mul_le_mul_of_nonneg_left hZ (by omega)
  have p2 : C * Y ≤ h * X := Int.mul_le_mul hCh hYX hY h0
  have p3 : F ≤ h * X := by
    have : h * 1 ≤ h * X := Int.mul_le_mul_of_nonneg_left hX h0
    omega
  have p4 : (2 * a * (h + 1) + 1) * X ≤ B * X := Int.mul_le_mul_of_nonneg_right (by omega) (by omega)
  have p5 : h ≤ a * h := by
    have : 1 * h ≤ a * h := Int.mul_le_mul_of_nonneg_right ha h0
    omega
  have p6 : h * X ≤ a * h * X := Int.mul_le_mul_of_nonneg_right p5 (by omega)
  have p7 : 0 ≤ a * X := Int.mul_nonneg (by omega) (by omega)
  have e1 : (2 * a * (h + 1) + 1) * X = 2 * (a * h * X) + 2 * (a * X) + X := by grind
  omega
theorem middle_bound {f k : List Int} {c b a : Int} {h : Nat} (ha : 0 < a) (hk : Tr k) (hkn : k ≠ []) (hc : c.natAbs ≤ h) (hf : ∀ i, (f.getD i 0).natAbs ≤ h) (e : ∀ n, f.getD n 0 = conv [c, b, a] k n) : b.natAbs ≤ 2 * a.natAbs * (h + 1) := by
  apply Decidable.byContradiction
  intro hn
  have hB : 2 * a * ((h : Int) + 1) < (b.natAbs : Int) := by
    have : ((2 * a.natAbs * (h + 1) : Nat) : Int) < (b.natAbs : Int) := by omega
    have e2 : ((2 * a.natAbs * (h + 1) : Nat) : Int) = 2 * a * ((h : Int) + 1) := by
      rw [Int.natCast_mul, Int.natCast_mul]
      have : ((a.natAbs : Nat) : Int) = a := by omega
      rw [this]; rfl
    omega
  have hm := List.length_pos_iff.mpr hkn
  obtain ⟨l, el⟩ := exists_last hkn
  have hl := hk l el
  have tri : ∀ (n : Nat), 1 ≤ n → (b.natAbs : Int) * ((k.getD (n - 1) 0).natAbs : Int) ≤ a * (((if 2 ≤ n then k.getD (n - 2) 0 else 0).natAbs : Nat) : Int) + (c.natAbs : Int) * ((k.getD n 0).natAbs : Int) + ((f.getD n 0).natAbs : Int) := by
    intro n hn1
    have e1 := e n
    rw [conv3, if_pos hn1] at e1
    have e2 : (if 2 ≤ n then a * k.getD (n - 2) 0 else 0) = a * (if 2 ≤ n then k.getD (n - 2) 0 else 0) := by split <;> simp
    rw [e2] at e1
    generalize (if 2 ≤ n then k.getD (n - 2) 0 else 0) = z at *
    generalize k.getD (n - 1) 0 = x at *
    generalize k.getD n 0 = y at *
    generalize f.getD n 0 = w at *
    have e3 : b * x = w - c * y - a * z := by omega
    have e4 : (b * x).natAbs ≤ w.natAbs + (c * y).natAbs + (a * z).natAbs := by rw [e3]; omega
    rw [Int.natAbs_mul, Int.natAbs_mul, Int.natAbs_mul] at e4
    have e5 : ((b.natAbs * x.natAbs : Nat) : Int) ≤ ((w.natAbs + c.natAbs * y.natAbs + a.natAbs * z.natAbs : Nat) : Int) := by omega
    rw [Int.natCast_mul, Int.natCast_add, Int.natCast_add, Int.natCast_mul, Int.natCast_mul] at e5
    have e6 : ((a.natAbs : Nat) : Int) = a := by omega
    rw [e6] at e5
    omega
  have grow : ∀ j, j < k.length → 1 ≤ (k.getD (k.length - 1 - j) 0).natAbs ∧ (k.getD (k.length - j) 0).natAbs ≤ (k.getD (k.length - 1 - j) 0).natAbs := by
    intro j
    induction j with
    | zero =>
      intro _
      rw [Nat.sub_zero, Nat.sub_zero, getD_last el, getD_ge (Nat.le_refl _)]
      exact ⟨by omega, by simp⟩
    | succ j ih =>
      intro hj
      obtain ⟨i1, i2⟩ := ih (by omega)
      have ht := tri (k.length - j) (by omega)
      rw [if_pos (by omega)] at ht
      have e1 : k.length - j - 1 = k.length - 1 - j := by omega
      have e2 : k.length - j - 2 = k.length - 1 - (j + 1) := by omega
      rw [e1, e2] at ht
      have := turn_bound (a := a) (h := (h : Int)) (by omega) hB (by omega) (by omega) (by omega) (by omega) (by omega) (by have := hf (k.length - j); omega) ht
      rw [show k.length - (j + 1) = k.length - 1 - j by omega]
      omega
  obtain ⟨g1, g2⟩ := grow (k.length - 1) (by omega)
  rw [show k.length - 1 - (k.length - 1) = 0 by omega, show k.length - (k.length - 1) = 1 by omega] at *
  have ht := tri 1 (Nat.le_refl 1)
  rw [if_neg (by omega), Nat.sub_self] at ht
  have := turn_bound (a := a) (h := (h : Int)) (by omega) hB (by omega) (by omega) (by omega) (by omega) (by omega) (by have := hf 1; omega) ht
  have z : (Int.natAbs 0 : Int) = 0 := rfl
  omega
end MA
/-! The specification's parts: bare irreducible ones whose product it is; their order. -/
namespace MA
open Na05 (toQ content sign whole cleared times div euclid common value divisors put rationals squares part partsFrom by_ place earlier)
theorem fold_max_ge : ∀ (l : List Int) (m : Nat), m ≤ l.foldl (fun m c => max m c.natAbs) m ∧ ∀ c ∈ l, c.natAbs ≤ l.foldl (fun m c => max m c.natAbs) m
  | [], m => ⟨Nat.le_refl _, fun c hc => by cases hc⟩
  | x :: l, m => by
    obtain ⟨h1, h2⟩ := fold_max_ge l (max m x.natAbs)
    rw [List.foldl_cons]
    refine ⟨by omega, fun c hc => ?_⟩
    rcases List.mem_cons.mp hc with e | e
    · subst e; omega
    · exact h2 c e
theorem getD_le_max (f : List Int) (i : Nat) : (f.getD i 0).natAbs ≤ f.foldl (fun m c => max m c.natAbs) 0 := by
  rw [List.getD_eq_getElem?_getD]
  cases e : f[i]? with
  | none => simp
  | some c => exact (fold_max_ge f 0).2 c (List.mem_of_getElem? e)
theorem getD_conv {f g k : List Int} (hg : Tr g) (hk : Tr k) (hgn : g ≠ []) (hkn : k ≠ []) (e : f = times g k) (n : Nat) : f.getD n 0 = conv g k n := by
  apply Rat.intCast_inj.mp
  rw [conv_cast, ← toQ_times hg hk hgn hkn, toQ_getD, e]
/-- a part of the second degree is among the candidates -/
theorem quad_mem {f k : List Int} {c b a : Int} (h0 : f.getD 0 0 ≠ 0) (hg : Bare [c, b, a]) (hk : Tr k) (hkn : k ≠ []) (e : f = times [c, b, a] k) : [c, b, a] ∈ squares f := by
  have ha : 0 < a := hg.pos a rfl
  have hz := getD_zero_times hg.tr hk hg.ne hkn
  rw [← e] at hz
  have hz : f.getD 0 0 = c * k.getD 0 0 := hz
  have hc0 : c ≠ 0 := fun z => by rw [z] at hz; apply h0; rw [hz]; simp
  have hk0 : k.getD 0 0 ≠ 0 := fun z => by rw [z] at hz; apply h0; rw [hz]; simp
  obtain ⟨l, el⟩ := exists_last hkn
  have hlast := times_last hg.tr hk (show [c, b, a].getLast? = some a from rfl) el
  rw [← e] at hlast
  have hl := hk l el
  have hfn : f ≠ [] := fun z => by rw [z] at hlast; cases hlast
  have hb := middle_bound (f := f) (k := k) (c := c) (b := b) (a := a) (h := f.foldl (fun m c => max m c.natAbs) 0) ha hk hkn (by
    have h1 := getD_le_max f 0
    rw [hz, Int.natAbs_mul] at h1
    have h2 : c.natAbs * 1 ≤ c.natAbs * (k.getD 0 0).natAbs := Nat.mul_le_mul_left _ (by omega)
    omega) (getD_le_max f) (getD_conv hg.tr hk hg.ne hkn e)
  unfold squares
  dsimp only
  generalize f.foldl (fun m c => max m c.natAbs) 0 = h at *
  have ea : ((a.natAbs : Nat) : Int) = a := by omega
  rw [List.mem_flatMap]
  refine ⟨a.natAbs, ?_, ?_⟩
  · rw [getLastD_of hlast]
    refine mem_divisors_of ?_ ?_
    · intro z
      have : a * l = 0 := by omega
      rcases Int.mul_eq_zero.mp this with z | z
      · omega
      · exact hl z
    · rw [Int.natAbs_mul]; exact Nat.dvd_mul_right _ _
  · rw [List.mem_flatMap]
    refine ⟨c, ?_, ?_⟩
    · rw [List.mem_flatMap]
      refine ⟨c.natAbs, ?_, ?_⟩
      · have : f.headD 1 = f.getD 0 0 := by cases f with
          | nil => exact absurd rfl hfn
          | cons x l => rfl
        rw [this, hz]
        refine mem_divisors_of ?_ ?_
        · intro z
          have : c * k.getD 0 0 = 0 := by omega
          rcases Int.mul_eq_zero.mp this with z | z
          · exact hc0 z
          · exact hk0 z
        · rw [Int.natAbs_mul]; exact Nat.dvd_mul_right _ _
      · by_cases hs : 0 ≤ c
        · have : ((c.natAbs : Nat) : Int) = c := by omega
          rw [this]; simp
        · have : -((c.natAbs : Nat) : Int) = c := by omega
          rw [this]; simp
    · rw [List.mem_map]
      refine ⟨(b + ((2 * a.natAbs * (h + 1) : Nat) : Int)).toNat, ?_, ?_⟩
      · rw [List.mem_range]
        have e2 : 4 * a.natAbs * (h + 1) = 2 * (2 * a.natAbs * (h + 1)) := by grind
        rw [e2]
        omega
      · rw [ea]
        have : (((b + ((2 * a.natAbs * (h + 1) : Nat) : Int)).toNat : Nat) : Int) - ((2 * a.natAbs * (h + 1) : Nat) : Int) = b := by omega
        rw [this]
theorem mem_squares {f g : List Int} (h : g ∈ squares f) : ∃ c b a : Int, 0 < a ∧ g = [c, b, a] := by
  unfold squares at h
  dsimp only at h
  obtain ⟨a, ha, h⟩ := List.mem_flatMap.mp h
  obtain ⟨c, _, h⟩ := List.mem_flatMap.mp h
  obtain ⟨b, _, rfl⟩ := List.mem_map.mp h
  exact ⟨c, _, a, by have := (mem_divisors.mp ha).2.1; omega, rfl⟩
theorem no_roots {f : List Int} (hf : Tr f) (hn : f ≠ []) (h : rationals f = []) (r : Rat) : ev (toQ f) r ≠ 0 := fun z => by
  have := ((rationals_ok hf hn).2 r).mpr z
  rw [h] at this
  cases this
theorem part_none {f : List Int} (hf : Bare f) (h3 : 3 ≤ f.length) (h6 : f.length ≤ 6) (h : part f = none) : Irr f := by
  unfold part at h
  cases hr : rationals f with
  | cons r l => rw [hr] at h; cases h
  | nil =>
    rw [hr] at h
    dsimp only at h
    have hno := no_roots hf.tr hf.ne hr
    by_cases h4 : f.length ≤ 4
    · exact irr_small hf (by omega) h4 hno
    · rw [if_neg (by omega), List.find?_eq_none] at h
      have h0 : f.getD 0 0 ≠ 0 := fun z => hno 0 (by rw [ev_at_zero, z]; rfl)
      have key : ∀ g k, Bare g → Bare k → f = times g k → g.length ≠ 3 := by
        intro g k hg hk e hl
        match g, hl with
        | [c, b, a], _ =>
          have hm := quad_mem h0 hg hk.tr hk.ne e
          refine h _ hm ?_
          rw [divides_iff hg.tr hf.tr hg.ne, e]
          exact Dv.of_times hg.tr hk.tr
      refine ⟨hf, by omega, fun g k hg hk e => ?_⟩
      have h1 := times_len hg.tr hk.tr hg.ne hk.ne
      rw [← e] at h1
      obtain ⟨n1, n2⟩ := no_two hf hno hg hk e
      have n3 := key g k hg hk e
      have n4 := key k g hk hg (by rw [e, times_comm hg.tr hk.tr])
      omega
theorem dv_whole {g f : List Int} (hg : Tr g) (hn : g ≠ []) : Dv (whole g) f ↔ Dv g f := by
  have e := whole_smul hg hn
  have hs : sign g * (content g : Int) ≠ 0 := by
    have := content_pos hg hn
    rcases sign_cases g with e | e <;> rw [e] <;> omega
  have hs' := intCast_ne hs
  have ev1 : ∀ x, ev (toQ g) x = ((sign g * (content g : Int) : Int) : Rat) * ev (toQ (whole g)) x := fun x => by
    have : toQ g = (toQ (whole g)).map (((sign g * (content g : Int) : Int) : Rat) * ·) := by rw [← toQ_smul, ← e]
    rw [this, ev_smul]
  generalize ((sign g * (content g : Int) : Int) : Rat) = s at *
  constructor
  · rintro ⟨q, hq⟩
    exact ⟨q.map (s⁻¹ * ·), fun n => by rw [hq, ev1, ev_smul]; grind⟩
  · rintro ⟨q, hq⟩
    exact ⟨q.map (s * ·), fun n => by rw [hq, ev1, ev_smul]; grind⟩
theorem root_whole {g : List Int} (hg : Tr g) (hn : g ≠ []) (r : Rat) : ev (toQ (whole g)) r = 0 ↔ ev (toQ g) r = 0 := by
  constructor
  · intro h
    exact root_of_dv ((dv_whole hg hn).mpr (Dv.refl g)) h
  · intro h
    exact root_of_dv ((dv_whole hg hn).mp (Dv.refl (whole g))) h
theorem part_some {f g : List Int} (hf : Bare f) (h : part f = some g) : Tr g ∧ g ≠ [] ∧ Irr (whole g) ∧ Dv (whole g) f := by
  unfold part at h
  cases hr : rationals f with
  | cons r l =>
    rw [hr] at h
    have e : lin r = g := Option.some.inj h
    subst e
    have hroot : ev (toQ f) r = 0 := ((rationals_ok hf.tr hf.ne).2 r).mp (by rw [hr]; simp)
    have hb := lin_bare r
    refine ⟨hb.tr, hb.ne, ?_, ?_⟩
    · rw [whole_of_bare hb]; exact irr_two hb rfl
    · rw [whole_of_bare hb]; exact dv_lin hroot
  | nil =>
    rw [hr] at h
    dsimp only at h
    have hno := no_roots hf.tr hf.ne hr
    split at h
    · cases h
    · have hm := List.mem_of_find?_eq_some h
      have hd := List.find?_some h
      obtain ⟨c, b, a, ha, rfl⟩ := mem_squares hm
      have ht : Tr [c, b, a] := fun x hx => by
        have e : a = x := Option.some.inj hx
        omega
      have hn : [c, b, a] ≠ [] := by simp
      have hdv := (divides_iff ht hf.tr hn).mp hd
      have hdw := (dv_whole ht hn).mpr hdv
      refine ⟨ht, hn, irr_small (whole_bare ht hn) (by rw [whole_len]; simp) (by rw [whole_len]; simp) (fun r hz => hno r (root_of_dv hdw hz)), hdw⟩
theorem by_is {f g k : List Int} (hf : Tr f) (hg : Tr g) (hn : g ≠ []) (hk : Bare k) {s : Rat} (hs : s ≠ 0) (h : ∀ n : Nat, ev (toQ f) n = s * (ev (toQ g) n * ev (toQ k) n)) : by_ f g = k := by
  unfold by_
  have hQn : toQ g ≠ [] := by simpa [toQ_nil_iff] using hn
  rw [div_is (q := (toQ k).map (s * ·)) (r := []) (tr_toQ.mpr hf) (tr_toQ.mpr hg) hQn (tr_smul hs (tr_toQ.mpr hk.tr)) Tr.nil (List.length_pos_iff.mpr hQn) fun n => by rw [ev_smul, h n, ev_nil]; grind]
  exact cleared_is (tr_smul hs (tr_toQ.mpr hk.tr)) hk hs rfl
theorem by_part {f g : List Int} (hf : Bare f) (hg : Tr g) (hn : g ≠ []) (h : Dv (whole g) f) : Bare (by_ f g) ∧ f = times (whole g) (by_ f g) := by
  have hw := whole_bare hg hn
  obtain ⟨k, hk, hkn, ek, hkb⟩ := Dv.whole hw hf.tr hf.ne h
  have hb := hkb hf
  have e := whole_smul hg hn
  have hs : sign g * (content g : Int) ≠ 0 := by
    have := content_pos hg hn
    rcases sign_cases g with e | e <;> rw [e] <;> omega
  have hs' := intCast_ne hs
  have ev1 : ∀ x, ev (toQ g) x = ((sign g * (content g : Int) : Int) : Rat) * ev (toQ (whole g)) x := fun x => by
    have : toQ g = (toQ (whole g)).map (((sign g * (content g : Int) : Int) : Rat) * ·) := by rw [← toQ_smul, ← e]
    rw [this, ev_smul]
  have e2 : by_ f g = k := by
    refine by_is hf.tr hg hn hb (s := (((sign g * (content g : Int) : Int) : Rat))⁻¹) (by grind) fun n => ?_
    rw [ek, ev_times hw.tr hk, ev1]
    grind
  rw [e2]
  exact ⟨hb, ek⟩
theorem partsFrom_ok : ∀ (n : Nat) (f : List Int), Bare f → f.length ≤ n + 1 → f.length ≤ 6 → (∀ p ∈ partsFrom n f, Irr p) ∧ prod (partsFrom n f) = f
  | 0, f, hf, hl, _ => by
    rw [partsFrom]
    refine ⟨fun p hp => (by cases hp), ?_⟩
    exact (bare_const hf hl).symm
  | n + 1, f, hf, hl, h6 => by
    rw [partsFrom]
    by_cases h1 : f.length ≤ 1
    · rw [if_pos h1]
      exact ⟨fun p hp => (by cases hp), (bare_const hf h1).symm⟩
    · rw [if_neg h1]
      by_cases h2 : f.length = 2
      · rw [if_pos h2]
        refine ⟨fun p hp => ?_, ?_⟩
        · rw [List.mem_singleton.mp hp]; exact irr_two hf h2
        · show times f [1] = f
          exact times_one hf.tr
      · rw [if_neg h2]
        cases hp : part f with
        | none =>
          refine ⟨fun p hm => ?_, ?_⟩
          · rw [List.mem_singleton.mp hm]; exact part_none hf (by omega) h6 hp
          · show times f [1] = f
            exact times_one hf.tr
        | some g =>
          obtain ⟨g1, g2, g3, g4⟩ := part_some hf hp
          obtain ⟨b1, b2⟩ := by_part hf g1 g2 g4
          have hlen := times_len g3.bare.tr b1.tr g3.bare.ne b1.ne
          rw [← b2] at hlen
          have hd := g3.deg
          obtain ⟨i1, i2⟩ := partsFrom_ok n (by_ f g) b1 (by omega) (by omega)
          refine ⟨fun p hm => ?_, ?_⟩
          · rcases List.mem_cons.mp hm with e | e
            · rw [e]; exact g3
            · exact i1 p e
          · show times (whole g) (prod (partsFrom n (by_ f g))) = f
            rw [i2, ← b2]
/-- whether it's irreducible -/
theorem irreducible_iff {f : List Int} (hf : Tr f) (h6 : f.length ≤ 6) : Na05.irreducible f = true ↔ 2 ≤ f.length ∧ Irr (whole f) := by
  unfold Na05.irreducible
  rw [Bool.and_eq_true, Bool.or_eq_true, decide_eq_true_eq, decide_eq_true_eq]
  constructor
  · rintro ⟨h1, h2⟩
    have hn : f ≠ [] := by intro z; subst z; simp at h1
    have hb := whole_bare hf hn
    refine ⟨h1, ?_⟩
    rcases h2 with h2 | h2
    · exact irr_two hb (by rw [whole_len]; exact h2)
    · by_cases e2 : f.length = 2
      · exact irr_two hb (by rw [whole_len]; exact e2)
      · exact part_none hb (by rw [whole_len]; omega) (by rw [whole_len]; exact h6) (by simpa using h2)
  · rintro ⟨h1, h2⟩
    refine ⟨h1, ?_⟩
    by_cases e2 : f.length = 2
    · exact Or.inl e2
    · right
      cases hp : part (whole f) with
      | none => rfl
      | some g =>
        exfalso
        obtain ⟨g1, g2, g3, g4⟩ := part_some h2.bare hp
        -- the part is the whole, but a part is of a lower degree
        have e := irr_dv g3 h2 g4
        have hlen : g.length = f.length := by rw [← whole_len g, e, whole_len]
        unfold part at hp
        cases hr : rationals (whole f) with
        | cons r l =>
          rw [hr] at hp
          have e1 : lin r = g := Option.some.inj hp
          rw [← e1] at hlen
          have : (lin r).length = 2 := rfl
          omega
        | nil =>
          rw [hr] at hp
          dsimp only at hp
          split at hp
          · cases hp
          · rename_i hcond
            obtain ⟨c, b, a, _, e1⟩ := mem_squares (List.mem_of_find?_eq_some hp)
            rw [e1] at hlen
            rw [whole_len] at hcond
            have : [c, b, a].length = 3 := rfl
            omega
/-! ### the order of the parts -/
def Lt (g x : List Int) : Prop := g.length < x.length ∨ (g.length = x.length ∧ earlier g x = true)
theorem earlier_irrefl : ∀ g : List Int, earlier g g = false
  | [] => rfl
  | a :: l => by simp [earlier, earlier_irrefl l]
theorem earlier_trans : ∀ (a b c : List Int), earlier a b = true → earlier b c = true → earlier a c = true
  | [], _, _, h, _ => by cases h
  | _ :: _, [], _, h, _ => by cases h
  | _ :: _, _ :: _, [], _, h => by cases h
  | x :: a, y :: b, z :: c, h1, h2 => by
    simp only [earlier, Bool.or_eq_true, Bool.and_eq_true, decide_eq_true_eq, beq_iff_eq] at *
    rcases h1 with h1 | ⟨h1, h1'⟩
    · rcases h2 with h2 | ⟨h2, h2'⟩
      · left; omega
      · left; omega
    · rcases h2 with h2 | ⟨h2, h2'⟩
      · left; omega
      · right; exact ⟨by omega, earlier_trans a b c h1' h2'⟩
theorem earlier_total : ∀ (a b : List Int), a.length = b.length → a ≠ b → earlier a b = true ∨ earlier b a = true
  | [], [], _, h => absurd rfl h
  | [], _ :: _, h, _ => by simp at h
  | _ :: _, [], h, _ => by simp at h
  | x :: a, y :: b, h, hn => by
    simp only [earlier, Bool.or_eq_true, Bool.and_eq_true, decide_eq_true_eq, beq_iff_eq]
    by_cases e : x = y
    · subst e
      rcases earlier_total a b (by simpa using h) (fun z => hn (by rw [z])) with h1 | h1
      · left; right; exact ⟨rfl, h1⟩
      · right; right; exact ⟨rfl, h1⟩
    · by_cases h1 : x < y
      · left; left; exact h1
      · right; left; omega
theorem Lt.irrefl (g : List Int) : ¬ Lt g g := by
  rintro (h | ⟨_, h⟩)
  · omega
  · rw [earlier_irrefl] at h; cases h
theorem Lt.trans {a b c : List Int} (h1 : Lt a b) (h2 : Lt b c) : Lt a c := by
  rcases h1 with h1 | ⟨h1, h1'⟩
  · rcases h2 with h2 | ⟨h2, h2'⟩
    · left; omega
    · left; omega
  · rcases h2 with h2 | ⟨h2, h2'⟩
    · left; omega
    · right; exact ⟨by omega, earlier_trans a b c h1' h2'⟩
theorem Lt.total {a b : List Int} (h : a ≠ b) (hn : ¬ Lt a b) : Lt b a := by
  by_cases h1 : a.length = b.length
  · rcases earlier_total a b h1 h with h2 | h2
    · exact absurd (Or.inr ⟨h1, h2⟩) hn
    · exact Or.inr ⟨h1.symm, h2⟩
  · left
    have : ¬ a.length < b.length := fun z => hn (Or.inl z)
    omega
abbrev Keys (L : List (List Int × Nat)) : Prop := L.Pairwise fun x y => Lt x.1 y.1
/-- how often -/
def often (p : List Int) : List (List Int × Nat) → Nat
  | [] => 0
  | x :: l => if x.1 = p then x.2 else often p l
theorem often_none {p : List Int} : ∀ {L : List (List Int × Nat)}, (∀ x ∈ L, x.1 ≠ p) → often p L = 0
  | [], _ => rfl
  | x :: l, h => by
    rw [often, if_neg (h x List.mem_cons_self)]
    exact often_none fun y hy => h y (List.mem_cons_of_mem _ hy)
theorem mem_place {g : List Int} : ∀ {L : List (List Int × Nat)} {x : List Int × Nat}, x ∈ place g L → x.1 = g ∨ x ∈ L
  | [], x, h => by left; rw [place, List.mem_singleton] at h; rw [h]
  | y :: l, x, h => by
    rw [place] at h
    split at h
    · rcases List.mem_cons.mp h with e | e
      · left; rw [e]
      · exact Or.inr (List.mem_cons_of_mem _ e)
    · split at h
      · rcases List.mem_cons.mp h with e | e
        · left; rw [e]
        · exact Or.inr e
      · rcases List.mem_cons.mp h with e | e
        · right; rw [e]; exact List.mem_cons_self
        · rcases mem_place e with e2 | e2
          · exact Or.inl e2
          · exact Or.inr (List.mem_cons_of_mem _ e2)
theorem place_ok (g : List Int) : ∀ (L : List (List Int × Nat)), Keys L → (∀ x ∈ L, 0 < x.2) → Keys (place g L) ∧ (∀ x ∈ place g L, 0 < x.2) ∧ ∀ p, often p (place g L) = often p L + if g = p then 1 else 0
  | [], _, _ => by
    rw [place]
    refine ⟨List.pairwise_singleton _ _, fun x hx => by rw [List.mem_singleton.mp hx]; exact Nat.one_pos, fun p => ?_⟩
    simp [often]
  | y :: l, hk, hp => by
    rw [Keys, List.pairwise_cons] at hk
    rw [place]
    by_cases h1 : y.1 = g
    · rw [if_pos h1]
      refine ⟨?_, fun x hx => ?_, fun p => ?_⟩
      · rw [Keys, List.pairwise_cons]
        exact ⟨fun z hz => by rw [← h1]; exact hk.1 z hz, hk.2⟩
      · rcases List.mem_cons.mp hx with e | e
        · rw [e]; exact Nat.succ_pos _
        · exact hp x (List.mem_cons_of_mem _ e)
      · rw [often, often, h1]
        by_cases e : g = p
        · simp only [if_pos e]
        · simp only [if_neg e]; omega
    · rw [if_neg h1]
      by_cases h2 : g.length < y.1.length ∨ (g.length = y.1.length ∧ earlier g y.1 = true)
      · rw [if_pos h2]
        have h2' : Lt g y.1 := h2
        have hall : ∀ z ∈ y :: l, Lt g z.1 := fun z hz => by
          rcases List.mem_cons.mp hz with e | e
          · rw [e]; exact h2'
          · exact h2'.trans (hk.1 z e)
        refine ⟨?_, fun x hx => ?_, fun p => ?_⟩
        · rw [Keys, List.pairwise_cons]
          exact ⟨hall, by rw [List.pairwise_cons]; exact hk⟩
        · rcases List.mem_cons.mp hx with e | e
          · rw [e]; exact Nat.one_pos
          · exact hp x e
        · rw [often]
          by_cases e : g = p
          · simp only [if_pos e]
            rw [often_none (p := p) (L := y :: l) fun z hz e2 => ?_]
            have := hall z hz
            rw [e2, e] at this
            exact Lt.irrefl _ this
          · simp only [if_neg e]; omega
      · rw [if_neg h2]
        have hyg : Lt y.1 g := Lt.total (fun e => h1 e.symm) h2
        obtain ⟨i1, i2, i3⟩ := place_ok g l hk.2 fun x hx => hp x (List.mem_cons_of_mem _ hx)
        refine ⟨?_, fun x hx => ?_, fun p => ?_⟩
        · rw [Keys, List.pairwise_cons]
          refine ⟨fun z hz => ?_, i1⟩
          rcases mem_place hz with e | e
          · rw [e]; exact hyg
          · exact hk.1 z e
        · rcases List.mem_cons.mp hx with e | e
          · rw [e]; exact hp y List.mem_cons_self
          · exact i2 x e
        · rw [often, often, i3]
          by_cases e : y.1 = p
          · rw [if_pos e, if_pos e, if_neg (fun z => h1 (e.trans z.symm))]; rfl
          · rw [if_neg e, if_neg e]
/-- in order, each with how often: the list is told by that -/
theorem keys_ext : ∀ {L M : List (List Int × Nat)}, Keys L → Keys M → (∀ x ∈ L, 0 < x.2) → (∀ x ∈ M, 0 < x.2) → (∀ p, often p L = often p M) → L = M
  | [], [], _, _, _, _, _ => rfl
  | [], y :: m, _, _, _, hp, h => by
    have := h y.1
    rw [often, often, if_pos rfl] at this
    have := hp y List.mem_cons_self
    omega
  | x :: l, [], _, _, hp, _, h => by
    have := h x.1
    rw [often, often, if_pos rfl] at this
    have := hp x List.mem_cons_self
    omega
  | x :: l, y :: m, hL, hM, hpL, hpM, h => by
    have hL' := List.pairwise_cons.mp hL
    have hM' := List.pairwise_cons.mp hM
    have nl : ∀ z, z ∈ l → z.1 ≠ x.1 := fun z hz e => by have := hL'.1 z hz; rw [e] at this; exact Lt.irrefl _ this
    have nm : ∀ z, z ∈ m → z.1 ≠ y.1 := fun z hz e => by have := hM'.1 z hz; rw [e] at this; exact Lt.irrefl _ this
    have ek : x.1 = y.1 := by
      apply Decidable.byContradiction
      intro hne
      by_cases hlt : Lt x.1 y.1
      · have h1 := h x.1
        rw [often, if_pos rfl, often_none (p := x.1) (L := y :: m) fun z hz e => ?_] at h1
        · have := hpL x List.mem_cons_self
          omega
        · rcases List.mem_cons.mp hz with e2 | e2
          · rw [e2] at e; exact hne e.symm
          · have := hlt.trans (hM'.1 z e2)
            rw [e] at this
            exact Lt.irrefl _ this
      · have hgt := Lt.total hne hlt
        have h1 := h y.1
        rw [often_none (p := y.1) (L := x :: l) fun z hz e => ?_, often, if_pos rfl] at h1
        · have := hpM y List.mem_cons_self
          omega
        · rcases List.mem_cons.mp hz with e2 | e2
          · rw [e2] at e; exact hne e
          · have := hgt.trans (hL'.1 z e2)
            rw [e] at this
            exact Lt.irrefl _ this
    have e2 : x.2 = y.2 := by
      have h1 := h x.1
      rw [often, if_pos rfl, often, if_pos ek.symm] at h1
      exact h1
    have e3 : l = m := keys_ext hL'.2 hM'.2 (fun z hz => hpL z (List.mem_cons_of_mem _ hz)) (fun z hz => hpM z (List.mem_cons_of_mem _ hz)) fun p => by
      by_cases e : x.1 = p
      · rw [often_none fun z hz e4 => nl z hz (e4.trans e.symm), often_none fun z hz e4 => nm z hz (e4.trans (e.symm.trans ek))]
      · have h1 := h p
        rw [often, if_neg e, often, if_neg (fun z => e (ek.trans z))] at h1
        exact h1
    rw [e3, Prod.ext ek e2]
theorem fold_place : ∀ (l : List (List Int)) (L : List (List Int × Nat)), Keys L → (∀ x ∈ L, 0 < x.2) → Keys (l.foldl (fun l g => place g l) L) ∧ (∀ x ∈ l.foldl (fun l g => place g l) L, 0 < x.2) ∧ ∀ p, often p (l.foldl (fun l g => place g l) L) = often p L + l.count p
  | [], L, h1, h2 => ⟨h1, h2, fun p => rfl⟩
  | g :: l, L, h1, h2 => by
    obtain ⟨p1, p2, p3⟩ := place_ok g L h1 h2
    obtain ⟨i1, i2, i3⟩ := fold_place l (place g L) p1 p2
    refine ⟨i1, i2, fun p => ?_⟩
    rw [List.foldl_cons, i3, p3, List.count_cons]
    by_cases e : g = p
    · rw [if_pos e, if_pos (by simpa using e)]; omega
    · rw [if_neg e, if_neg (by simpa using e)]; omega
/-- the specification's parts are told by: bare irreducible ones, whose product it is, in order with how often -/
theorem apart_is {f : List Int} (hf : Tr f) (hn : f ≠ []) (h6 : f.length ≤ 6) {l : List (List Int)} {L : List (List Int × Nat)} (hl : ∀ p ∈ l, Irr p) (he : prod l = whole f) (hk : Keys L) (hp : ∀ x ∈ L, 0 < x.2) (ho : ∀ p, often p L = l.count p) : Na05.apart f = (sign f * (content f : Int), L) := by
  unfold Na05.apart
  obtain ⟨q1, q2⟩ := partsFrom_ok (f.length + 1) (whole f) (whole_bare hf hn) (by rw [whole_len]; omega) (by rw [whole_len]; exact h6)
  obtain ⟨r1, r2, r3⟩ := fold_place (partsFrom (f.length + 1) (whole f)) [] List.Pairwise.nil (fun x hx => by cases hx)
  congr 1
  refine keys_ext r1 hk r2 hp fun p => ?_
  rw [r3, ho, often, Nat.zero_add]
  exact (apart_unique q1 hl (q2.trans he.symm)).count_eq p
end MA
namespace Py
open PySem PySem.Spec PyProof.Rows L2
section
variable {P : Program} {w : World} {K : PySem.W.Frag} {mg : Str → Option Value} {base : Heap} (T : Txt K mg)
/-! ### is_zero, degree, without_last_zeros -/
def R_isz (ss : List Sh) (r : Sh) : Prop := ∃ ns, ss = [li ns] ∧ r = .b (decide (ns = []))
theorem ok_isz : FnOk P w K mg base CX0 1 T.a_isz T.fd_isz ["polynomial"] (spP R_isz) := by
  refine fn_pure T.d_isz.F sc_isz (fun ss r ⟨ns, h, _⟩ => by rw [h]; rfl) (fun cdv A outer s H E hr => ⟨_, (pss_one (ps_ret (pe_cmpR op_eq (pe_callB call_len_seq (by rfl) T.m_len PySem.boot_len (pa_cons (pv 0) pa_nil)) pe_int (nomark _)))), ?_⟩)
  rintro ss r ⟨ns, rfl, rfl⟩
  refine run_ret (e_eq (e_len (e_var rfl)) e_int) ?_
  rw [List.length_map]
  congr 1
  cases ns <;> simp <;> omega
def R_deg (ss : List Sh) (r : Sh) : Prop := ∃ ns, ss = [li ns] ∧ r = .i ((ns.length : Int) - 1)
theorem ok_deg : FnOk P w K mg base CX0 1 T.a_deg T.fd_deg ["polynomial"] (spP R_deg) := by
  refine fn_pure T.d_deg.F sc_deg (fun ss r ⟨ns, h, _⟩ => by rw [h]; rfl) (fun cdv A outer s H E hr => ⟨_, (pss_one (ps_ret (pe_op op_sub (pe_callB call_len_seq (by rfl) T.m_len PySem.boot_len (pa_cons (pv 0) pa_nil)) pe_int))), ?_⟩)
  rintro ss r ⟨ns, rfl, rfl⟩
  refine run_ret (e_sub (e_len (e_var rfl)) e_int) ?_
  rw [List.length_map]
theorem atI_ints {ns : List Int} {i : Int} {c : Int} (h : atI ns i = some c) : atI (ns.map Sh.i) i = some (.i c) := by
  unfold atI at h ⊢
  rw [List.length_map]
  cases e : ixN ns.length i with
  | none => rw [e] at h; cases h
  | some j =>
    rw [e] at h
    have h2 : ns[j]? = some c := h
    show (ns.map Sh.i)[j]? = _
    rw [List.getElem?_map, h2]; rfl
theorem atI_getD {ns : List Int} {j : Nat} (h : j < ns.length) : atI ns (j : Int) = some (ns.getD j 0) := by
  refine atI_nat ?_
  rw [List.getD_eq_getElem?_getD, List.getElem?_eq_getElem h]; rfl
theorem cut_to {A : Type} (xs : List A) {k : Nat} (h : k ≤ xs.length) : cutS xs none (some (k : Int)) = xs.take k := by
  unfold cutS
  rw [HT.sIx_none, HT.sIx_nat, Nat.sub_zero, Nat.min_eq_left h, List.drop_zero]
theorem trim_take {ns : List Int} : ∀ {k : Nat}, k ≤ ns.length → (∀ i, k ≤ i → i < ns.length → ns.getD i 0 = 0) → (k = 0 ∨ ns.getD (k - 1) 0 ≠ 0) → MA.trimG ns = ns.take k := by
  intro k hk hz hl
  refine MA.ext_tr (MA.trimG_tr _) ?_ (fun i => ?_)
  · rcases hl with hl | hl
    · subst hl; exact MA.Tr.nil
    · by_cases h0 : k = 0
      · subst h0; exact MA.Tr.nil
      · refine MA.tr_of_getD ?_
        rw [List.length_take, Nat.min_eq_left hk, List.getD_eq_getElem?_getD, List.getElem?_take, if_pos (by omega), ← List.getD_eq_getElem?_getD]
        exact hl
  · rw [MA.trimG_getD, List.getD_eq_getElem?_getD (l := ns.take k), List.getElem?_take]
    by_cases h : i < k
    · rw [if_pos h, ← List.getD_eq_getElem?_getD]
    · rw [if_neg h]
      by_cases h2 : i < ns.length
      · exact hz i (by omega) h2
      · exact MA.getD_ge (by omega)
def R_wlz (ss : List Sh) (r : Sh) : Prop := ∃ ns, ss = [li ns] ∧ r = li (MA.trimG ns)
theorem ok_wlz : FnOk P w K mg base CX0 1 T.a_wlz T.fd_wlz ["numbers"] (spP R_wlz) := by
  refine fn_pure T.d_wlz.F sc_wlz (fun ss r ⟨ns, h, _⟩ => by rw [h]; rfl) (fun cdv A outer s H E hr => ⟨_, (pss_cons (ps_set (i := 1) sc_wlz.nd rfl (Or.inl rfl) (pe_callB call_len_seq (by rfl) T.m_len PySem.boot_len (pa_cons (pv 0) pa_nil)))
      (pss_cons (ps_while PassesOwn.never (PW.pt (pw_and (pt_cmpR op_gt (pv 1) pe_int (nomark _)) (pw_and1 (pt_cmpR op_eq (pe_ix ix_list (pv 0) (pe_op op_sub (pv 1) pe_int) (fun _ _ => rfl)) pe_int (nomark _))))) (pss_one (ps_aug (i := 1) sc_wlz.nd rfl (Or.inl rfl) pe_int ip_sub)))
      (pss_one (ps_ret (pe_slice sl_list (pv 0) po_none (po_some (pv 1))))))), ?_⟩)
  rintro ss r ⟨ns, rfl, rfl⟩
  refine q_set (e_len (e_var rfl)) ?_
  rw [List.length_map]
  refine q_while (fun m s' => m ≤ ns.length ∧ (∀ i, m ≤ i → i < ns.length → ns.getD i 0 = 0) ∧ s' = [.v (li ns), .v (.i (m : Int))]) ns.length ⟨Nat.le_refl _, fun i h1 h2 => by omega, rfl⟩ ?_
  rintro m s' ⟨hm, hz, rfl⟩
  refine ⟨_, et_and (y := decide (ns.getD (m - 1) 0 = 0)) (et_test (e_gt (e_var rfl) e_int)) (fun h => ?_), fun h => ?_, fun h => ?_⟩
  · have h0 : (0 : Int) < (m : Int) := of_decide_eq_true h
    refine et_test (e_eq (e_ixL (e_var rfl) (e_sub (e_var rfl) e_int) (atI_ints ?_)) e_int)
    rw [show (m : Int) - 1 = ((m - 1 : Nat) : Int) by omega]
    exact atI_getD (by omega)
  · rw [Bool.and_eq_true] at h
    have h0 : (0 : Int) < (m : Int) := of_decide_eq_true h.1
    have h1 : ns.getD (m - 1) 0 = 0 := of_decide_eq_true h.2
    refine run_aug rfl e_int ⟨m - 1, by omega, by omega, fun i h2 h3 => ?_, ?_⟩
    · by_cases e : i = m - 1
      · rw [e]; exact h1
      · exact hz i (by omega) h3
    · show [Sl.v (li ns), Sl.v (.i ((m : Int) - 1))] = _
      rw [show (m : Int) - 1 = ((m - 1 : Nat) : Int) by omega]
  · refine run_ret (en_sl (e_var rfl) eo_none (eo_some (e_var rfl))).e ?_
    rw [cutS_map, cut_to ns hm, ← trim_take hm hz]
    rw [Bool.and_eq_false_iff] at h
    rcases h with h | h
    · left
      have := of_decide_eq_false h
      omega
    · right
      exact of_decide_eq_false h
end
end Py
namespace Py
open PySem PySem.Spec PyProof.Rows L2
/-! ### sizes -/
theorem log_of {x : Int} {b : Nat} (h : x.natAbs < 2 ^ b) (h0 : 0 < b) : x.natAbs.log2 < b := PySem.Flt.log2_lt_of h0 h
theorem lt_two_pow {x : Nat} {a b : Nat} (h : x < 2 ^ a) (hab : a ≤ b) : x < 2 ^ b := Nat.lt_of_lt_of_le h (Nat.pow_le_pow_right (by decide) hab)
theorem mulOk {x y : Int} {a b : Nat} (hx : x.natAbs < 2 ^ a) (hy : y.natAbs < 2 ^ b) (h : a + b ≤ 900000) : x.natAbs.log2 + y.natAbs.log2 < 1000000 := by
  have h1 := log_of (lt_two_pow hx (Nat.le_add_right a 1)) (by omega)
  have h2 := log_of (lt_two_pow hy (Nat.le_add_right b 1)) (by omega)
  omega
section
variable {P : Program} {w : World} {K : PySem.W.Frag} {mg : Str → Option Value} {base : Heap} (T : Txt K mg)
/-! ### greatest_divisor -/
def R_gd (ss : List Sh) (r : Sh) : Prop := ∃ a b, ss = [.i a, .i b] ∧ r = .i ((Int.gcd a b : Nat) : Int)
theorem ok_gd : FnOk P w K mg base CX0 1 T.a_gd T.fd_gd ["left", "right"] (spP R_gd) := by
  refine fn_pure T.d_gd.F sc_gd (fun ss r ⟨a, b, h, _⟩ => by rw [h]; rfl) (fun cdv A outer s H E hr => ⟨_, (pss_cons (ps_set (i := 2) sc_gd.nd rfl (Or.inl rfl) (pe_callB call_abs (by rfl) T.m_abs (by decide +kernel) (pa_cons (pv 0) pa_nil)))
      (pss_cons (ps_set (i := 3) sc_gd.nd rfl (Or.inl rfl) (pe_callB call_abs (by rfl) T.m_abs (by decide +kernel) (pa_cons (pv 1) pa_nil)))
      (pss_cons (ps_while PassesOwn.never (pt_cmpR op_ne (pv 3) pe_int (nomark _)) (pss_cons (ps_set (i := 4) sc_gd.nd rfl (Or.inl rfl) (pe_op op_modN (pv 2) (pv 3)))
      (pss_cons (ps_set (i := 2) sc_gd.nd rfl (Or.inl rfl) (pv 3))
      (pss_one (ps_set (i := 3) sc_gd.nd rfl (Or.inl rfl) (pv 4))))))
      (pss_one (ps_ret (pv 2)))))), ?_⟩)
  rintro ss r ⟨a, b, rfl, rfl⟩
  refine q_set (e_abs (e_var rfl)) (q_set (e_abs (e_var rfl)) ?_)
  refine q_while (fun m s' => ∃ (x : Nat) (sl : Sl), Nat.gcd x m = Int.gcd a b ∧ s' = [.v (.i a), .v (.i b), .v (.i (x : Int)), .v (.i (m : Int)), sl]) b.natAbs ⟨a.natAbs, .x, rfl, rfl⟩ ?_
  rintro m s' ⟨x, sl, hg, rfl⟩
  refine ⟨_, et_test (e_ne (e_var rfl) e_int), fun h => ?_, fun h => ?_⟩
  · have h0 : (m : Int) ≠ 0 := by simpa using h
    refine q_set (e_mod (e_var rfl) (e_var rfl) h0) (q_set (e_var rfl) (run_set (e_var rfl) ⟨x % m, Nat.mod_lt _ (by omega), m, .v (.i ((x : Int).fmod (m : Int))), ?_, ?_⟩))
    · rw [← hg, Nat.gcd_comm m, ← Nat.gcd_rec, Nat.gcd_comm]
    · have e : (x : Int).fmod (m : Int) = ((x % m : Nat) : Int) := by
        rw [Int.fmod_eq_emod_of_nonneg _ (by omega)]; rfl
      show [Sl.v (.i a), Sl.v (.i b), Sl.v (.i (m : Int)), Sl.v (.i ((x : Int).fmod (m : Int))), Sl.v (.i ((x : Int).fmod (m : Int)))] = _
      rw [e]
  · have h0 : (m : Int) = 0 := by simpa using h
    have e : m = 0 := by omega
    subst e
    refine run_ret (e_var rfl) ?_
    rw [← hg, Nat.gcd_zero_right]
/-! ### lowest_terms -/
def R_low (ss : List Sh) (r : Sh) : Prop := ∃ a b, ss = [.i a, .i b] ∧ b ≠ 0 ∧ b.natAbs < 2 ^ 9000 ∧ r = li (MA.lowest a b)
theorem ok_low : FnOk P w K mg base CX0 2 T.a_low T.fd_low ["above", "below"] (spP R_low) := by
  refine fn_pure T.d_low.F sc_low (fun ss r ⟨a, b, h, _⟩ => by rw [h]; rfl) (fun cdv A outer s H E hr => ⟨_, (pss_cons (ps_set (i := 2) sc_low.nd rfl (Or.inl rfl) (pe_call (ok_gd T) (hr.mono (by decide)) rfl T.d_gd.g T.d_gd.F.kp T.d_gd.b .nil pass0 (pa_cons (pv 0) (pa_cons (pv 1) pa_nil))))
      (pss_cons (ps_if (pt_cmpR op_lt (pv 1) pe_int (nomark _)) (pss_one (ps_set (i := 2) sc_low.nd rfl (Or.inl rfl) (pe_un un_neg (pv 2)))) pss_nil)
      (pss_one (ps_ret (pe_lst (pa_cons (pe_op op_fdivZ (pv 0) (pv 2)) (pa_cons (pe_op op_fdivZ (pv 1) (pv 2)) pa_nil))))))), ?_⟩)
  rintro ss r ⟨a, b, rfl, hb, hz, rfl⟩
  have hg : 0 < Int.gcd a b := Int.gcd_pos_of_ne_zero_right a hb
  have hle : Int.gcd a b ≤ b.natAbs := Nat.le_of_dvd (by omega) (Int.ofNat_dvd_left.mp (Int.gcd_dvd_right (a := a) (b := b)))
  refine q_set (e_call (ea_cons (e_var rfl) (ea_1 (e_var rfl))) ⟨a, b, rfl, rfl⟩) (q_if (et_test (e_lt (e_var rfl) e_int)) (fun h => ?_) (fun h => ?_))
  · have h0 : b < 0 := of_decide_eq_true h
    refine q_set (e_neg (e_var rfl)) ?_
    refine run_ret (e_lst (ea_cons (e_fdiv (e_var rfl) (e_var rfl) (by omega) (log_of (by rw [Int.natAbs_neg, Int.natAbs_natCast]; omega) (by decide))) (ea_1 (e_fdiv (e_var rfl) (e_var rfl) (by omega) (log_of (by rw [Int.natAbs_neg, Int.natAbs_natCast]; omega) (by decide))))) (by simp)) ?_
    unfold MA.lowest
    rw [if_pos h0]; rfl
  · have h0 : ¬ b < 0 := of_decide_eq_false h
    refine q_next (run_ret (e_lst (ea_cons (e_fdiv (e_var rfl) (e_var rfl) (by omega) (log_of (by rw [Int.natAbs_natCast]; omega) (by decide))) (ea_1 (e_fdiv (e_var rfl) (e_var rfl) (by omega) (log_of (by rw [Int.natAbs_natCast]; omega) (by decide))))) (by simp)) ?_)
    unfold MA.lowest
    rw [if_neg h0]; rfl
/-! ### bare -/
theorem atI_lastI {ns : List Int} {c : Int} (h : ns.getLast? = some c) : atI ns (-1) = some c := by
  obtain ⟨l, rfl⟩ : ∃ l, ns = l ++ [c] := by
    refine ⟨ns.dropLast, ?_⟩
    have hn : ns ≠ [] := by intro z; subst z; cases h
    have := List.dropLast_concat_getLast hn
    rw [List.getLast?_eq_some_getLast hn] at h
    rw [Option.some.inj h] at this
    exact this.symm
  exact atI_last l c
theorem content_take {ns : List Int} {i : Nat} {c : Int} (h : ns[i]? = some c) : Int.gcd ((Na05.content (ns.take i) : Nat) : Int) c = Na05.content (ns.take (i + 1)) := by
  unfold Na05.content
  rw [List.take_add_one, h, List.foldl_append]
  rfl
def R_bare (ss : List Sh) (r : Sh) : Prop := ∃ ns, ss = [li ns] ∧ MA.Tr ns ∧ ns.length ≤ 1000 ∧ (∀ c ∈ ns, c.natAbs < 2 ^ 9000) ∧ r = li (MA.bareM ns)
theorem ok_bare : FnOk P w K mg base CX0 2 T.a_bare T.fd_bare ["polynomial"] (spP R_bare) := by
  refine fn_pure T.d_bare.F sc_bare (fun ss r ⟨a, h, _⟩ => by rw [h]; rfl) (fun cdv A outer s H E hr => ⟨_, (pss_cons (ps_if (pt_val (pe_call (ok_isz T) (hr.mono (by decide)) rfl T.d_isz.g T.d_isz.F.kp T.d_isz.b .nil pass0 (pa_cons (pv 0) pa_nil))) (pss_one (ps_ret (pe_lst pa_nil))) pss_nil)
      (pss_cons (ps_set (i := 1) sc_bare.nd rfl (Or.inr rfl) pe_int)
      (pss_cons (ps_for PassesOwn.never rfl (pi_list (pv 0)) (pg_name (i := 2) sc_bare.nd rfl (Or.inl rfl)) (pss_one (ps_set (i := 1) sc_bare.nd rfl (Or.inr rfl) (pe_call (ok_gd T) (hr.mono (by decide)) rfl T.d_gd.g T.d_gd.F.kp T.d_gd.b .nil pass0 (pa_cons (pv 1) (pa_cons (pv 2) pa_nil))))))
      (pss_cons (ps_if (pt_cmpR op_lt (pe_ix ix_list (pv 0) (pe_un un_neg pe_int) (fun _ _ => rfl)) pe_int (nomark _)) (pss_one (ps_set (i := 1) sc_bare.nd rfl (Or.inr rfl) (pe_un un_neg (pv 1)))) pss_nil)
      (pss_one (ps_ret (pe_lc (own := [("number", 2)]) (g := (gName 2)) rfl sc_bare.nd (pi_list (pv 0)) (blkOk_by (own := [("number", 2)]) (N := N_bare) (sc := defScope s_bare) (by decide +kernel)) (fun _ _ _ _ _ => (pg_name (i := 2) sc_bare.nd rfl (Or.inl rfl))) (fun _ _ _ _ _ => pts_nil) (fun _ _ _ _ _ => (pe_op op_fdivZ (pv 2) (pv 1)))))))))), ?_⟩)
  rintro ss r ⟨ns, rfl, ht, hl, hz, rfl⟩
  refine q_when (et_B (e_call (ea_1 (e_var rfl)) ⟨ns, rfl, rfl⟩)) (fun h => ?_) (fun h => ?_)
  · have h0 : ns = [] := of_decide_eq_true h
    subst h0
    exact q_ret (e_lst ea_nil (by decide)) rfl
  · have h0 : ns ≠ [] := of_decide_eq_false h
    obtain ⟨c, ec⟩ := MA.exists_last h0
    refine q_set e_int (q_for (e_var rfl) (fun i s' => ∃ sl, s' = [.v (li ns), .v (.i ((Na05.content (ns.take i) : Nat) : Int)), sl]) ⟨_, rfl⟩ ?_ ?_)
    · rintro i s' x hx ⟨sl, rfl⟩
      rw [List.getElem?_map] at hx
      cases e : ns[i]? with
      | none => rw [e] at hx; cases hx
      | some d =>
        rw [e] at hx
        obtain rfl : x = .i d := (Option.some.inj hx).symm
        refine run_set (e_call (ea_cons (e_var rfl) (ea_1 (e_var rfl))) ⟨_, _, rfl, rfl⟩) ⟨.v (.i d), ?_⟩
        rw [content_take e]; rfl
    · rintro s' ⟨sl, rfl⟩
      rw [List.length_map, List.take_length]
      have hp := MA.content_pos ht h0
      have hle : Na05.content ns ≤ c.natAbs := Nat.le_of_dvd (by have := ht c ec; omega) (MA.content_dvd (List.mem_of_getLast? ec))
      have hc := hz c (List.mem_of_getLast? ec)
      have hgl : ns.getLastD 0 = c := MA.getLastD_of ec
      refine q_if (et_test (e_lt (e_ixL (e_var rfl) (e_neg e_int) (atI_ints (atI_lastI ec))) e_int)) (fun h => ?_) (fun h => ?_)
      · have hneg : c < 0 := of_decide_eq_true h
        refine q_set (e_neg (e_var rfl)) (run_ret (en_lcI (e_var rfl) (fun n => .i (n.fdiv (-(Na05.content ns : Int)))) (by omega) (fun n hn => e_fdiv (e_var rfl) (e_var rfl) (by omega) (log_of (by rw [Int.natAbs_neg, Int.natAbs_natCast]; omega) (by decide)))).e ?_)
        unfold MA.bareM MA.bareBy
        rw [if_neg h0, hgl, if_pos hneg, li, List.map_map]; rfl
      · have hneg : ¬ c < 0 := of_decide_eq_false h
        refine q_next (run_ret (en_lcI (e_var rfl) (fun n => .i (n.fdiv (Na05.content ns : Int))) (by omega) (fun n hn => e_fdiv (e_var rfl) (e_var rfl) (by omega) (log_of (by rw [Int.natAbs_natCast]; omega) (by decide)))).e ?_)
        unfold MA.bareM MA.bareBy
        rw [if_neg h0, hgl, if_neg hneg, li, List.map_map]; rfl
/-! ### less_multiple -/
theorem cut_from {A : Type} (xs : List A) {k : Nat} (h : k ≤ xs.length) : cutS xs (some (k : Int)) none = xs.drop k := by
  unfold cutS
  rw [HT.sIx_none, HT.sIx_nat, Nat.min_eq_left h, List.take_of_length_le (by rw [List.length_drop]; exact Nat.le_refl _)]
theorem zip_vals {A B C : Type} (f : A → B → C) (da : A) (db : B) (xs : List A) (ys : List B) : (List.range (min xs.length ys.length)).map (fun i => f (xs.getD i da) (ys.getD i db)) = List.zipWith f xs ys := by
  apply List.ext_getElem?
  intro i
  rw [List.getElem?_map, List.getElem?_zipWith]
  by_cases h : i < min xs.length ys.length
  · rw [List.getElem?_range h, List.getElem?_eq_getElem (by omega), List.getElem?_eq_getElem (by omega), Option.map_some, List.getD_eq_getElem?_getD, List.getD_eq_getElem?_getD, List.getElem?_eq_getElem (by omega), List.getElem?_eq_getElem (by omega)]; rfl
  · rw [List.getElem?_eq_none (by simpa using h)]
    by_cases h2 : i < xs.length
    · rw [List.getElem?_eq_none (l := ys) (by omega)]
      cases xs[i]? <;> rfl
    · rw [List.getElem?_eq_none (l := xs) (by omega)]; rfl
theorem getD_of {A : Type} {l : List A} {i : Nat} {x d : A} (h : l[i]? = some x) : l.getD i d = x := by rw [List.getD_eq_getElem?_getD, h]; rfl
theorem map_i_get {ns : List Int} {i : Nat} {x : Sh} (h : (ns.map Sh.i)[i]? = some x) : ∃ c, ns[i]? = some c ∧ x = .i c := by
  rw [List.getElem?_map] at h
  cases e : ns[i]? with
  | none => rw [e] at h; cases h
  | some c => rw [e] at h; exact ⟨c, rfl, (Option.some.inj h).symm⟩
def R_less (ss : List Sh) (r : Sh) : Prop := ∃ p k q, ss = [li p, .i k, li q] ∧ q.length ≤ p.length ∧ p.length ≤ 1000 ∧ k.natAbs < 2 ^ 400000 ∧ (∀ c ∈ q, c.natAbs < 2 ^ 400000) ∧ r = li (MA.lessMultiple p k q)
theorem ok_less_multiple : FnOk P w K mg base CX0 1 T.a_less_multiple T.fd_less_multiple ["polynomial", "factor", "other"] (spP R_less) := by
  refine fn_pure T.d_less_multiple.F sc_less_multiple (fun ss r ⟨a, b, c, h, _⟩ => by rw [h]; rfl) (fun cdv A outer s H E hr => ⟨_, (pss_cons (ps_set (i := 3) sc_less_multiple.nd rfl (Or.inl rfl) (pe_op op_sub (pe_callB call_len_seq (by rfl) T.m_len PySem.boot_len (pa_cons (pv 0) pa_nil)) (pe_callB call_len_seq (by rfl) T.m_len PySem.boot_len (pa_cons (pv 2) pa_nil))))
      (pss_cons (ps_set (i := 4) sc_less_multiple.nd rfl (Or.inl rfl) (pe_slice sl_list (pv 0) po_none (po_some (pv 3))))
      (pss_one (ps_ret (pe_op op_cat (pv 4) (pe_lc (own := [("left", 5), ("right", 6)]) (g := (gTup K 2 (gCons (gName 5) (gCons (gName 6) gNil)))) rfl sc_less_multiple.nd (pi_zip (by rfl) T.m_zip (pa_cons (pe_slice sl_list (pv 0) (po_some (pv 3)) po_none) (pa_cons (pv 2) pa_nil))) (blkOk_by (own := [("left", 5), ("right", 6)]) (N := N_less_multiple) (sc := defScope s_less_multiple) (by decide +kernel)) (fun _ _ _ _ _ => (pg_pair (i := 5) (j := 6) rfl sc_less_multiple.nd rfl (Or.inl rfl) rfl (Or.inl rfl))) (fun _ _ _ _ _ => pts_nil) (fun _ _ _ _ _ => (pe_op op_sub (pv 5) (pe_op op_mulW (pv 1) (pv 6)))))))))), ?_⟩)
  rintro ss r ⟨p, k, q, rfl, hl, hp, hk, hq, rfl⟩
  have e0 : ((p.map Sh.i).length : Int) - ((q.map Sh.i).length : Int) = ((p.length - q.length : Nat) : Int) := by rw [List.length_map, List.length_map]; omega
  refine q_set (e_is (e_sub (e_len (e_var rfl)) (e_len (e_var rfl))) (congrArg Sh.i e0)) (q_set (en_sl (e_var rfl) eo_none (eo_some (e_var rfl))).e ?_)
  rw [cutS_map, cut_to p (Nat.sub_le _ _)]
  refine run_ret (en_cat (e_var rfl) (en_lcZ (by decide) (ea_cons (en_sl (e_var rfl) (eo_some (e_var rfl)) eo_none).e (ea_1 (e_var rfl))) (fun i => .i ((p.drop (p.length - q.length)).getD i 0 - k * q.getD i 0)) ?_ (fun i x y hx hy => ?_)).e ?_).e ?_
  · rw [cutS_map, List.length_map, List.length_map]; omega
  · rw [cutS_map, cut_from p (Nat.sub_le _ _)] at hx
    obtain ⟨c, hc, rfl⟩ := map_i_get hx
    obtain ⟨d, hd, rfl⟩ := map_i_get hy
    rw [getD_of hc, getD_of hd]
    exact e_sub (e_var rfl) (e_mul (e_var rfl) (e_var rfl) (mulOk hk (hq d (List.mem_of_getElem? hd)) (by decide)))
  · rw [List.length_map, List.length_map, List.length_range, List.length_take, List.length_map]; omega
  · rw [cutS_map, cut_from p (Nat.sub_le _ _), List.length_map, List.length_map]
    unfold MA.lessMultiple li
    rw [List.map_append, ← zip_vals (fun l r => l - k * r) 0 0, List.map_map]; rfl
end
end Py
/-! Sizes: of what the program reckons on the way. -/
namespace MA
open Na05 (toQ content sign whole cleared times div euclid common)
/-- all numbers below 2 ^ b, without their signs -/
def Bd (b : Nat) (f : List Int) : Prop := ∀ c ∈ f, c.natAbs < 2 ^ b
theorem Bd.mono {a b : Nat} {f : List Int} (h : Bd a f) (hab : a ≤ b) : Bd b f := fun c hc => Nat.lt_of_lt_of_le (h c hc) (Nat.pow_le_pow_right (by decide) hab)
theorem Bd.last {b : Nat} {f : List Int} (h : Bd b f) : (f.getLastD 0).natAbs < 2 ^ b := by
  cases e : f.getLast? with
  | none => rw [List.getLastD_eq_getLast?, e]; exact Nat.two_pow_pos b
  | some c => rw [getLastD_of e]; exact h c (List.mem_of_getLast? e)
theorem mul_lt {x y : Int} {a b : Nat} (hx : x.natAbs < 2 ^ a) (hy : y.natAbs < 2 ^ b) : (x * y).natAbs < 2 ^ (a + b) := by
  rw [Int.natAbs_mul, Nat.pow_add]
  exact Nat.mul_lt_mul'' hx hy
theorem Bd.smul {a b : Nat} {k : Int} {f : List Int} (hk : k.natAbs < 2 ^ a) (h : Bd b f) : Bd (a + b) (f.map (k * ·)) := fun c hc => by
  obtain ⟨d, hd, rfl⟩ := List.mem_map.mp hc
  exact mul_lt hk (h d hd)
theorem sub_lt {x y : Int} {a : Nat} (hx : x.natAbs < 2 ^ a) (hy : y.natAbs < 2 ^ a) : (x - y).natAbs < 2 ^ (a + 1) := by
  rw [Nat.pow_succ]
  omega
theorem Bd.less {a b : Nat} {k : Int} {p q : List Int} (hp : Bd (a + b) p) (hk : k.natAbs < 2 ^ a) (hq : Bd b q) : Bd (a + b + 1) (lessMultiple p k q) := fun c hc => by
  unfold lessMultiple at hc
  rcases List.mem_append.mp hc with hc | hc
  · exact Nat.lt_trans (hp c (List.mem_of_mem_take hc)) (Nat.pow_lt_pow_right (by decide) (by omega))
  · obtain ⟨i, hi, e⟩ := List.mem_iff_getElem.mp hc
    rw [List.getElem_zipWith] at e
    rw [← e]
    exact sub_lt (hp _ (List.mem_of_mem_drop (List.getElem_mem _))) (mul_lt hk (hq _ (List.getElem_mem _)))
theorem pst_size {f g : List Int} {a b : Nat} (hf : Bd a f) (hg : Bd b g) : ∀ i, Bd (a + i * (b + 1)) (pst f g i).2.1 ∧ Bd (a + i * (b + 1)) (pst f g i).1 ∧ (pst f g i).2.2.natAbs < 2 ^ (i * b + 1)
  | 0 => ⟨by rw [Nat.zero_mul]; exact hf, fun c hc => (by cases hc), by show (1 : Int).natAbs < 2 ^ (0 * b + 1); rw [Nat.zero_mul]; decide⟩
  | i + 1 => by
    obtain ⟨h1, h2, h3⟩ := pst_size hf hg i
    have hl := hg.last
    have e1 : a + (i + 1) * (b + 1) = (a + i * (b + 1)) + b + 1 := by rw [Nat.succ_mul]; omega
    rw [pst]
    dsimp only
    refine ⟨?_, ?_, ?_⟩
    · intro c hc
      rw [e1]
      refine Bd.less (p := (pst f g i).2.1.map (g.getLastD 0 * ·)) (k := (pst f g i).2.1.getLastD 0) (q := g) ?_ h1.last hg c ((List.dropLast_sublist _).mem hc)
      rw [Nat.add_comm _ b]
      exact Bd.smul hl h1
    · intro c hc
      rw [e1]
      rcases List.mem_cons.mp hc with e | e
      · rw [e]
        exact Nat.lt_of_lt_of_le h1.last (Nat.pow_le_pow_right (by decide) (by omega))
      · have := Bd.smul hl h2 c e
        exact Nat.lt_of_lt_of_le this (Nat.pow_le_pow_right (by decide) (by omega))
    · have := mul_lt h3 hl
      rw [show i * b + 1 + b = (i + 1) * b + 1 by rw [Nat.succ_mul]; omega] at this
      exact this
theorem mem_trim {f : List Int} {c : Int} (h : c ∈ trimG f) : c ∈ f := by
  unfold trimG at h
  rw [List.mem_reverse] at h
  have := (List.dropWhile_sublist (fun c : Int => c == 0)).mem h
  rwa [List.mem_reverse] at this
theorem Bd.trim {b : Nat} {f : List Int} (h : Bd b f) : Bd b (trimG f) := fun c hc => h c (mem_trim hc)
theorem fdiv_le {c d : Int} (hd : d ≠ 0) (hdv : d ∣ c) : (c.fdiv d).natAbs ≤ c.natAbs := by
  obtain ⟨k, rfl⟩ := hdv
  rw [Int.mul_comm, Int.mul_fdiv_cancel _ hd, Int.natAbs_mul]
  exact Nat.le_mul_of_pos_right _ (by omega)
theorem Bd.bare {b : Nat} {f : List Int} (ht : Tr f) (h : Bd b f) : Bd b (bareM f) := fun c hc => by
  unfold bareM at hc
  split at hc
  · cases hc
  · rename_i hn
    obtain ⟨d, hd, rfl⟩ := List.mem_map.mp hc
    have hp := content_pos ht hn
    refine Nat.lt_of_le_of_lt (fdiv_le ?_ ?_) (h d hd)
    · unfold bareBy; split <;> omega
    · have := content_dvdI hd
      unfold bareBy
      split
      · exact Int.neg_dvd.mpr this
      · exact this
theorem pst_rest_len {f g : List Int} (hf : Tr f) (hg : Tr g) (hn : g ≠ []) {i : Nat} (hi : i ≤ f.length + 1 - g.length) : (pst f g i).2.1.length = f.length - i := (pst_ok hf hg hn i hi).1
/-- the numbers on Euclid's way stay small enough -/
def mxl (f : List Int) : Nat := f.foldl (fun m c => max m c.natAbs) 0
theorem bd_mxl (f : List Int) : Bd ((mxl f).log2 + 1) f := fun c hc => Nat.lt_of_le_of_lt ((fold_max_ge f 0).2 c hc) Nat.lt_log2_self
def gcOk : Nat → List Int → List Int → Bool
  | 0, _, b => decide (b = [])
  | n + 1, a, b => decide (b = []) || (decide (a.length ≤ 100) && decide (b.length ≤ 100) && decide ((mxl a).log2 + 1 + (a.length + 1 - b.length) * ((mxl b).log2 + 2) ≤ 200000) && decide ((mxl b).log2 + 1 ≤ 200000) && decide ((mxl (pdiv a b).2.1).log2 + 1 ≤ 9000) && gcOk n b (bareM (pdiv a b).2.1))
end MA
namespace Py
open PySem PySem.Spec PyProof.Rows L2
open MA (Tr Bd pst pdiv)
theorem cut_last {A : Type} (xs : List A) : cutS xs none (some (-1)) = xs.dropLast := by
  unfold cutS
  rw [HT.sIx_none]
  have e : HT.sIx xs.length xs.length (some (-1)) = xs.length - 1 := by
    show (if (-1 : Int) < 0 then ((-1 : Int) + (xs.length : Int)).toNat else min (-1 : Int).toNat xs.length) = xs.length - 1
    rw [if_pos (by decide)]
    omega
  rw [e, List.drop_zero, List.dropLast_eq_take, Nat.sub_zero]
theorem atI_getLastD {ns : List Int} (h : ns ≠ []) : atI ns (-1) = some (ns.getLastD 0) := by
  obtain ⟨c, ec⟩ := MA.exists_last h
  rw [MA.getLastD_of ec]
  exact atI_lastI ec
theorem cut_last' {A : Type} (xs : List A) : cutS xs none (some (-1 : Int)) = xs.dropLast := cut_last xs
section
variable {P : Program} {w : World} {K : PySem.W.Frag} {mg : Str → Option Value} {base : Heap} (T : Txt K mg)
/-! ### divided -/
def R_divided (ss : List Sh) (r : Sh) : Prop := ∃ (f g : List Int) (a b : Nat), ss = [li f, li g] ∧ Tr f ∧ Tr g ∧ g ≠ [] ∧ f.length ≤ 100 ∧ g.length ≤ 100 ∧ Bd a f ∧ Bd b g ∧ a + (f.length + 1 - g.length) * (b + 1) ≤ 300000 ∧ b ≤ 300000 ∧ r = .T [li (pdiv f g).1, li (pdiv f g).2.1, .i (pdiv f g).2.2]
theorem ok_divided : FnOk P w K mg base CX0 2 T.a_divided T.fd_divided ["first", "second"] (spP R_divided) := by
  refine fn_pure T.d_divided.F sc_divided (fun ss r ⟨_, _, _, _, h, _⟩ => by rw [h]; rfl) (fun cdv A outer s H E hr => ⟨_, (pss_cons (ps_set (i := 2) sc_divided.nd rfl (Or.inr rfl) (pe_ix ix_list (pv 1) (pe_un un_neg pe_int) (fun _ _ => rfl)))
      (pss_cons (ps_set (i := 3) sc_divided.nd rfl (Or.inl rfl) (pe_lst pa_nil))
      (pss_cons (ps_set (i := 4) sc_divided.nd rfl (Or.inl rfl) (pv 0))
      (pss_cons (ps_set (i := 5) sc_divided.nd rfl (Or.inl rfl) pe_int)
      (pss_cons (ps_while PassesOwn.never (pt_cmpR op_ge (pe_callB call_len_seq (by rfl) T.m_len PySem.boot_len (pa_cons (pv 4) pa_nil)) (pe_callB call_len_seq (by rfl) T.m_len PySem.boot_len (pa_cons (pv 1) pa_nil)) (nomark _)) (pss_cons (ps_set (i := 6) sc_divided.nd rfl (Or.inl rfl) (pe_ix ix_list (pv 4) (pe_un un_neg pe_int) (fun _ _ => rfl)))
      (pss_cons (ps_setLc (i := 7) (own := [("number", 8)]) (g := (gName 8)) rfl sc_divided.nd rfl rfl (sw_true rfl rfl rfl (by decide +kernel)) (pi_list (pv 4)) (blkOk_by (own := [("number", 8)]) (N := N_divided) (sc := defScope s_divided) (by decide +kernel)) (fun _ _ _ _ _ => (pg_name (i := 8) sc_divided.nd rfl (Or.inl rfl))) (fun _ _ _ _ _ => pts_nil) (fun _ _ _ _ _ => (pe_op op_mulW (pv 2) (pv 8))))
      (pss_cons (ps_set (i := 4) sc_divided.nd rfl (Or.inl rfl) (pe_slice sl_list (pe_call (ok_less_multiple T) (hr.mono (by decide)) rfl T.d_less_multiple.g T.d_less_multiple.F.kp T.d_less_multiple.b .nil pass0 (pa_cons (pv 7) (pa_cons (pv 6) (pa_cons (pv 1) pa_nil)))) po_none (po_some (pe_un un_neg pe_int))))
      (pss_cons (ps_set (i := 3) sc_divided.nd rfl (Or.inl rfl) (pe_op op_cat (pe_lst (pa_cons (pv 6) pa_nil)) (pe_lc (own := [("number", 8)]) (g := (gName 8)) rfl sc_divided.nd (pi_list (pv 3)) (blkOk_by (own := [("number", 8)]) (N := N_divided) (sc := defScope s_divided) (by decide +kernel)) (fun _ _ _ _ _ => (pg_name (i := 8) sc_divided.nd rfl (Or.inl rfl))) (fun _ _ _ _ _ => pts_nil) (fun _ _ _ _ _ => (pe_op op_mulW (pv 2) (pv 8))))))
      (pss_one (ps_set (i := 5) sc_divided.nd rfl (Or.inl rfl) (pe_op op_mulW (pv 5) (pv 2)))))))))
      (pss_one (ps_ret (pe_tup (pa_cons (pv 3) (pa_cons (pe_call (ok_wlz T) (hr.mono (by decide)) rfl T.d_wlz.g T.d_wlz.F.kp T.d_wlz.b .nil pass0 (pa_cons (pv 4) pa_nil)) (pa_cons (pv 5) pa_nil))))))))))), ?_⟩)
  rintro ss r ⟨f, g, a, b, rfl, hf, hg, hn, lf, lg, bf, bg, hz, hb, rfl⟩
  generalize hN : f.length + 1 - g.length = n at *
  have hgl := List.length_pos_iff.mpr hn
  refine q_set (e_ixL (e_var rfl) (e_neg e_int) (atI_ints (atI_getLastD hn))) (q_set (e_lst ea_nil (by decide)) (q_set (e_var rfl) (q_set e_int ?_)))
  refine q_while (fun m s' => ∃ i s6 s7 s8, m = n - i ∧ i ≤ n ∧ s' = [.v (li f), .v (li g), .v (.i (g.getLastD 0)), .v (li (pst f g i).1), .v (li (pst f g i).2.1), .v (.i (pst f g i).2.2), s6, s7, s8]) n ⟨0, _, _, _, rfl, Nat.zero_le _, rfl⟩ ?_
  rintro m s' ⟨i, s6, s7, s8, rfl, hi, rfl⟩
  obtain ⟨l1, l2, h1, h2, h3⟩ := MA.pst_ok hf hg hn i (by omega)
  obtain ⟨z1, z2, z3⟩ := MA.pst_size bf bg i
  have hmul : i * (b + 1) ≤ n * (b + 1) := Nat.mul_le_mul_right _ hi
  have hlead := bg.last
  refine ⟨_, et_test (e_ge (e_len (e_var rfl)) (e_len (e_var rfl))), fun h => ?_, fun h => ?_⟩
  · have h0 : g.length ≤ f.length - i := by
      have := of_decide_eq_true h
      rw [List.length_map, List.length_map, l1] at this
      omega
    have hin : i < n := by omega
    have hrn : (pst f g i).2.1 ≠ [] := by intro z; rw [z] at l1; simp at l1; omega
    have hmul2 : (i + 1) * (b + 1) ≤ n * (b + 1) := Nat.mul_le_mul_right _ hin
    have hib : i * b ≤ i * (b + 1) := Nat.mul_le_mul_left _ (by omega)
    refine q_set (e_ixL (e_var rfl) (e_neg e_int) (atI_ints (atI_getLastD hrn))) ?_
    refine q_set (en_lcI (e_var rfl) (fun c => .i (g.getLastD 0 * c)) (by rw [l1]; omega) (fun c hc => e_mul (e_var rfl) (e_var rfl) (mulOk hlead (z1 c hc) (by omega)))).e ?_
    have hR : R_less [.L ((pst f g i).2.1.map fun c => .i (g.getLastD 0 * c)), .i ((pst f g i).2.1.getLastD 0), li g] (li (MA.lessMultiple ((pst f g i).2.1.map (g.getLastD 0 * ·)) ((pst f g i).2.1.getLastD 0) g)) := by
      refine ⟨(pst f g i).2.1.map (g.getLastD 0 * ·), (pst f g i).2.1.getLastD 0, g, ?_, ?_, ?_, ?_, ?_, rfl⟩
      · unfold li; rw [List.map_map]; rfl
      · rw [List.length_map, l1]; exact h0
      · rw [List.length_map, l1]; omega
      · exact lt_two_pow z1.last (by omega)
      · exact fun c hc => lt_two_pow (bg c hc) (by omega)
    refine q_set (e_is (en_sl (e_call (ea_cons (e_var rfl) (ea_cons (e_var rfl) (ea_1 (e_var rfl)))) hR) eo_none (eo_some (e_neg e_int))).e (s' := li (MA.lessMultiple ((pst f g i).2.1.map (g.getLastD 0 * ·)) ((pst f g i).2.1.getLastD 0) g).dropLast) (by rw [cutS_map, cut_last'])) ?_
    · refine q_set (en_cat (e_lst (ea_1 (e_var rfl)) (by simp)) (en_lcI (e_var rfl) (fun c => .i (g.getLastD 0 * c)) (by rw [l2]; omega) (fun c hc => e_mul (e_var rfl) (e_var rfl) (mulOk hlead (z2 c hc) (by omega)))).e (by rw [List.length_map, l2]; simp; omega)).e ?_
      refine run_set (e_mul (e_var rfl) (e_var rfl) (mulOk z3 hlead (by omega))) ⟨n - (i + 1), by omega, i + 1, .v (.i ((pst f g i).2.1.getLastD 0)), .v (.L ((pst f g i).2.1.map fun c => .i (g.getLastD 0 * c))), s8, rfl, by omega, ?_⟩
      · have e1 : Sh.L ([Sh.i ((pst f g i).2.1.getLastD 0)] ++ (pst f g i).1.map fun c => Sh.i (g.getLastD 0 * c)) = li (pst f g (i + 1)).1 := by
          rw [pst]
          dsimp only
          unfold li
          rw [List.map_cons, List.map_map]; rfl
        have e2 : li (MA.lessMultiple ((pst f g i).2.1.map (g.getLastD 0 * ·)) ((pst f g i).2.1.getLastD 0) g).dropLast = li (pst f g (i + 1)).2.1 := by rw [pst]
        have e3 : (pst f g i).2.2 * g.getLastD 0 = (pst f g (i + 1)).2.2 := by rw [pst]
        rw [← e1, ← e2, ← e3]; rfl
  · have h0 : ¬ g.length ≤ f.length - i := by
      intro z
      have := of_decide_eq_false h
      rw [List.length_map, List.length_map, l1] at this
      omega
    have hin : i = n := by omega
    subst hin
    refine run_ret (e_tup (ea_cons (e_var rfl) (ea_cons (e_call (ea_1 (e_var rfl)) ⟨_, rfl, rfl⟩) (ea_1 (e_var rfl)))) (by simp)) ?_
    unfold pdiv
    rw [hN]
/-! ### greatest_common -/
def R_gc (ss : List Sh) (r : Sh) : Prop := ∃ (f g : List Int), ss = [li f, li g] ∧ Tr f ∧ Tr g ∧ f.length ≤ 100 ∧ g.length ≤ 100 ∧ Bd 9000 f ∧ Bd 9000 g ∧ MA.gcOk (g.length + 1) (MA.bareM f) (MA.bareM g) = true ∧ r = li (Na05.common f g)
theorem tr_bareM {f : List Int} (h : Tr f) : Tr (MA.bareM f) := by rw [MA.bareM_is h]; exact MA.tr_whole h
theorem ok_greatest_common : FnOk P w K mg base CX0 3 T.a_greatest_common T.fd_greatest_common ["first", "second"] (spP R_gc) := by
  refine fn_pure T.d_greatest_common.F sc_greatest_common (fun ss r ⟨_, _, h, _⟩ => by rw [h]; rfl) (fun cdv A outer s H E hr => ⟨_, (pss_cons (ps_set (i := 2) sc_greatest_common.nd rfl (Or.inl rfl) (pe_call (ok_bare T) (hr.mono (by decide)) rfl T.d_bare.g T.d_bare.F.kp T.d_bare.b .nil pass0 (pa_cons (pv 0) pa_nil)))
      (pss_cons (ps_set (i := 3) sc_greatest_common.nd rfl (Or.inl rfl) (pe_call (ok_bare T) (hr.mono (by decide)) rfl T.d_bare.g T.d_bare.F.kp T.d_bare.b .nil pass0 (pa_cons (pv 1) pa_nil)))
      (pss_cons (ps_while PassesOwn.never (pt_not (pt_val (pe_call (ok_isz T) (hr.mono (by decide)) rfl T.d_isz.g T.d_isz.F.kp T.d_isz.b .nil pass0 (pa_cons (pv 3) pa_nil)))) (pss_cons (ps_set (i := 4) sc_greatest_common.nd rfl (Or.inl rfl) (pe_call (ok_bare T) (hr.mono (by decide)) rfl T.d_bare.g T.d_bare.F.kp T.d_bare.b .nil pass0 (pa_cons (pe_ix ix_tup (pe_call (ok_divided T) (hr.mono (by decide)) rfl T.d_divided.g T.d_divided.F.kp T.d_divided.b .nil pass0 (pa_cons (pv 2) (pa_cons (pv 3) pa_nil))) pe_int (fun _ _ => rfl)) pa_nil)))
      (pss_cons (ps_set (i := 2) sc_greatest_common.nd rfl (Or.inl rfl) (pv 3))
      (pss_one (ps_set (i := 3) sc_greatest_common.nd rfl (Or.inl rfl) (pv 4))))))
      (pss_one (ps_ret (pv 2)))))), ?_⟩)
  rintro ss r ⟨f, g, rfl, hf, hg, lf, lg, bf, bg, hok, rfl⟩
  refine q_set (e_call (ea_1 (e_var rfl)) ⟨f, rfl, hf, by omega, bf, rfl⟩) (q_set (e_call (ea_1 (e_var rfl)) ⟨g, rfl, hg, by omega, bg, rfl⟩) ?_)
  refine q_while (fun m s' => ∃ x y s4, Tr x ∧ Tr y ∧ MA.gcOk m x y = true ∧ MA.gcLoop m x y = Na05.common f g ∧ s' = [.v (li f), .v (li g), .v (li x), .v (li y), s4]) (g.length + 1) ⟨_, _, _, tr_bareM hf, tr_bareM hg, hok, MA.common_is hf hg (Nat.lt_succ_self _), rfl⟩ ?_
  rintro m s' ⟨x, y, s4, hx, hy, ok, hc, rfl⟩
  refine ⟨_, et_not (et_B (e_call (ea_1 (e_var rfl)) ⟨y, rfl, rfl⟩)), fun h => ?_, fun h => ?_⟩
  · have hy0 : y ≠ [] := by simpa using h
    cases m with
    | zero =>
      exfalso
      unfold MA.gcOk at ok
      exact hy0 (of_decide_eq_true ok)
    | succ m =>
      rw [MA.gcOk, Bool.or_eq_true] at ok
      have ok := ok.resolve_left (by simpa using hy0)
      simp only [Bool.and_eq_true, decide_eq_true_eq] at ok
      obtain ⟨⟨⟨⟨⟨o1, o2⟩, o3⟩, o4⟩, o5⟩, o6⟩ := ok
      rw [MA.gcLoop, if_neg hy0] at hc
      have ht : Tr (pdiv x y).2.1 := MA.trimG_tr _
      have hlr : (pdiv x y).2.1.length ≤ 1000 := by
        have := MA.rem_len hx hy hy0
        have e : (pdiv x y).2.1.length = (MA.bareM (pdiv x y).2.1).length := by rw [MA.bareM_is ht, MA.whole_len]
        rw [MA.rem_is hx hy hy0] at this
        omega
      refine q_set (e_call (ea_1 (e_ixT (e_call (ea_cons (e_var rfl) (ea_1 (e_var rfl))) ⟨x, y, _, _, rfl, hx, hy, hy0, o1, o2, MA.bd_mxl x, MA.bd_mxl y, (by show _ + _ * ((MA.mxl y).log2 + 2) ≤ 300000; omega), by omega, rfl⟩) e_int rfl)) ⟨_, rfl, ht, hlr, (MA.bd_mxl _).mono o5, rfl⟩) ?_
      refine q_set (e_var rfl) (run_set (e_var rfl) ⟨m, Nat.lt_succ_self m, y, _, _, hy, tr_bareM ht, o6, hc, rfl⟩)
  · have hy0 : y = [] := by simpa using h
    subst hy0
    refine run_ret (e_var rfl) ?_
    cases m with
    | zero => rw [← hc]; rfl
    | succ m => rw [← hc, MA.gcLoop, if_pos rfl]
end
end Py
/-! list(reversed(xs)) -/
namespace Py
open PySem PySem.Spec PyProof.Rows L2
section
variable {prog : Program} {w : World} {A : Around} {E : Value → Shared → Prop} {s : Shared}
theorem ext_rev {R : Result → Shared → Prop} {ri l S : Addr} {xs : Array Value} {c0 : Nat} (ha : A.handled = none) (hri : s.heap.IsRevIter ri l ((xs.size : Int) - 1)) (hli : s.heap.IsList l xs) (hlr : l ≠ ri) (hz : xs.size ≤ sizeLine)
    (hSn : S ≠ ri) (hSl : S ≠ l) (hSo : s.heap.get? S = some { cls := .type "list", data := .seq #[] c0 })
    (hR : ∀ h2 tk2 got c2, (∀ x o, x ≠ S → x ≠ ri → s.heap.get? x = some o → h2.get? x = some o) → h2.get? S = some { cls := .type "list", dict := none, data := .seq got c2, slots := #[] } →
      ItemsOf (fun i v => xs[xs.size - 1 - i]? = some v) got xs.size → R (.ok (.ret .none)) { s with heap := h2, toks := tk2 }) :
    wpAny (model prog w) A.in1 (Builtin.List.listExtendWith (.ref S) (.ref ri) .none)
      (fun fin s2 => match fin with | .done f => R (.ok f) s2 | .again cc => cc.quiet = true ∧ codeAny (model prog w) A cc R s2) (fun ex s2 => R (.error ex) s2) s := by
  have WW := (Walks.listRev (prog := prog) (w := w) (A := A.in1) ha ri l hlr xs).toS
  have hnot : S ∉ [ri, l] := fun hm => by
    rcases List.mem_cons.mp hm with z | z
    · exact hSn z
    · exact hSl (List.mem_singleton.mp z)
  have tyI : s.TypeIs (.ref ri) "list_reverseiterator" := hri.typeIs
  have same0 : Builtin.List.listSameRef (.ref S) (.ref ri) = false := by simp [Builtin.List.listSameRef, hSn]
  unfold Builtin.List.listExtendWith
  refine wpAny_bind (wpAny_typeOf tyI ?_)
  rw [if_neg (by rw [same0]; decide)]
  refine wpAny_bind (wpAny_pyIter_revIter hri ?_)
  refine wpAny_bind (wpAny_holding ?_)
  unfold Builtin.List.listLengthHint
  refine wpAny_bind (wpAny_specialOf tyI RT.nolen_lri ?_)
  show wpAny _ A.in1 (specialOf (Value.ref ri) (Str.ofString "__length_hint__") >>= _) _ _ _
  refine wpAny_bind (wpAny_specialOf tyI RT.hint_lri ?_)
  generalize hidn : ("list_reverseiterator.__length_hint__" : String) = idn
  wp_delta
  rw [show splitId idn = some ("list_reverseiterator", "__length_hint__") from by subst hidn; decide +kernel]
  subst hidn
  refine wpAny_bind (wpAny_isInstance (b := true) tyI (by rw [isSubtype_type]; kernel_rfl) ?_)
  refine wpAny_pure ?_
  rw [if_neg (by decide)]
  have ez : ((xs.size : Nat) : Int) - 1 - ((0 : Nat) : Int) = (xs.size : Int) - 1 := by omega
  refine wpAny_pure ⟨plainId_quiet F.plain_extend_loop _, codeAny_extend_loopS WW hz S hnot _ xs.size 0 s _ c0 rfl (Nat.zero_le _) ⟨Nat.zero_le _, by rw [ez]; exact hri, hli⟩ hSo (ItemsOf.nil _) fun s2 got c2 hmv hS2 hgot => ?_⟩
  rw [Moved.eq_with hmv]
  refine hR s2.heap s2.toks got c2 (fun x o h1 h2 ex => hmv.heap x o (fun hmem => ?_) ex) hS2 hgot
  rcases List.mem_cons.mp hmem with z | hmem
  · exact h1 z
  · exact h2 (List.mem_singleton.mp hmem)
theorem call_list_rev {ri l : Addr} {xs : Array Value} {Q : Value → Shared → Prop} (ha : A.handled = none) (hri : s.heap.IsRevIter ri l ((xs.size : Int) - 1)) (hli : s.heap.IsList l xs) (hlr : l ≠ ri) (hz : xs.size ≤ sizeLine)
    (hQ : ∀ h2 tk2 got c2, (∀ x o, x ≠ ri → s.heap.get? x = some o → h2.get? x = some o) → h2.get? s.heap.objs.size = some { cls := .type "list", dict := none, data := .seq got c2, slots := #[] } →
      ItemsOf (fun i v => xs[xs.size - 1 - i]? = some v) got xs.size → Q (.ref s.heap.objs.size) { s with heap := h2, toks := tk2 }) :
    wpAny (model prog w) A (call (.type "list") [.ref ri]) Q E s := by
  obtain ⟨o1, ho1, _⟩ := id hri
  obtain ⟨o2, ho2, _⟩ := id hli
  have n1 : s.heap.objs.size ≠ ri := Nat.ne_of_gt (Heap.lt_size ho1)
  have n2 : s.heap.objs.size ≠ l := Nat.ne_of_gt (Heap.lt_size ho2)
  refine callType_codes (Q₁ := fun ob sb => ob = .ref s.heap.objs.size ∧ sb = { s with heap := s.heap.push { cls := .type "list", data := .seq #[] } }) F.called_list (F.typeCall_list_1 _) F.entry_list_init (code_list_new _ ⟨rfl, rfl⟩) fun ob sb hb => ?_
  obtain ⟨rfl, rfl⟩ := hb
  have hnew : (s.heap.push { cls := .type "list", data := .seq #[] }).get? s.heap.objs.size = some { cls := .type "list", data := .seq #[] } := Heap.get?_push_size _ rfl
  refine ⟨⟨_, hnew, rfl⟩, F.args_list_init_2 _ _, ?_⟩
  show wpAny _ _ (do let was ← Builtin.List.listItems (.ref s.heap.objs.size); Builtin.List.listUpdate (.ref s.heap.objs.size) (fun _ => #[]); letGo was.toList.reverse; Builtin.List.listExtendWith (.ref s.heap.objs.size) (.ref ri) .none) _ _ _
  refine wpAny_bind ?_
  unfold Builtin.List.listItems
  refine wpAny_bind (wpAny_seqItems hnew rfl (wpAny_pure ?_))
  show wpAny _ _ (updateSeq s.heap.objs.size (fun _ => #[]) >>= fun _ => letGo (#[] : Array Value).toList.reverse >>= fun _ => Builtin.List.listExtendWith (.ref s.heap.objs.size) (.ref ri) .none) _ _ _
  refine wpAny_bind (wpAny_updateSeq hnew rfl ?_)
  have hnew2 := Heap.get?_update_self (Obj.mapSeq (fun _ => (#[] : Array Value))) hnew rfl
  have oth : ∀ x o, x ≠ s.heap.objs.size → s.heap.get? x = some o → ((s.heap.push { cls := .type "list", data := .seq #[] }).update s.heap.objs.size (Obj.mapSeq (fun _ => (#[] : Array Value)))).get? x = some o :=
    fun x o hx ex => (Heap.get?_update_other _ _ (Ne.symm hx)).trans (Heap.get?_push_of_some _ ex)
  refine wpAny_bind (wpAny_letGo ?_)
  refine ext_rev (A := A.in1) (xs := xs) ha (hri.at fun o ex => oth ri o (Ne.symm n1) ex) ?_ hlr hz n1 n2 hnew2 fun h2 tk2 got c2 kp hS2 hgot => ⟨rfl, hQ h2 tk2 got c2 (fun x o hx ex => kp x o (Nat.ne_of_lt (Heap.lt_size ex)) hx (oth x o (Nat.ne_of_lt (Heap.lt_size ex)) ex)) hS2 hgot⟩
  obtain ⟨oo, q1, q2⟩ := hli
  exact ⟨oo, oth l oo (Ne.symm n2) q1, q2⟩
end
section
variable {X : Cx}
/-- list(reversed(x)), x a list: a new list -/
def tListRev (K : PySem.W.Frag) (te : TE) : TE := fun σ H Q => te σ H fun v H1 => ∃ (p : Addr) (ys : List V), v = .ref p ∧ SqL K H1 p ys ∧ ∀ r, H1 r = none → Q (.ref r) (upd H1 r (.lst ys.reverse))
theorem pe_listRev {e : Expr} {te : TE} {p p2 pos pos2 : Pos} (hc : X.calm = true) (hg : Gl X "list") (hm : X.mg "list" = none) (hg2 : Gl X "reversed") (hm2 : X.mg "reversed" = none) (he : PE X e te)
    (h1 : starEach [e] X.env = (false, eval e X.env) :: starEach [] X.env := by rfl) (h2 : starEach [.Call (.Name "reversed" p2) [e] [] pos2] X.env = (false, eval (.Call (.Name "reversed" p2) [e] [] pos2) X.env) :: starEach [] X.env := by rfl) :
    PE X (.Call (.Name "list" p) [.Call (.Name "reversed" p2) [e] [] pos2] [] pos) (tListRev X.K te) := by
  refine ⟨fun pins s σ H Q I hq => ?_⟩
  refine Call_ (ld_blt I hg hm (show bootBuiltins "list" = some (.type "list") by decide +kernel) (PyProof.Rows.callWith_type1 (args_cons (Call_ (ld_blt I hg2 hm2 PyProof.Rows.boot_reversed (PyProof.Rows.callWith_type1 (args_cons (thn (he.run pins s σ H _ I hq) fun u sa ⟨v, Ha, Ia, ra, qa⟩ => args_nil ?_) h1) h1 rfl))) h2) h2 rfl))
  obtain ⟨p, ys, rfl, hsq, q⟩ := qa
  obtain rfl : u = Value.ref p := ra
  obtain ⟨its, rv, pl, hz⟩ := Ia.list hsq
  refine call_reversed_list pl.isList (args_nil ?_)
  have Ib : Inv X pins σ Ha { sa with heap := sa.heap.push (revObj p ((its.toArray.size : Int) - 1)) } := Ia.kept (t' := sa.toks) fun x o ex => Heap.get?_push_of_some _ ex
  obtain ⟨f0, f1, f2, f3, f4, f5⟩ := Ia.fpOk (H' := Ha) (b := sa.heap.objs.size) (Nat.le_refl _) (Ia.hok.fresh (Nat.le_refl _))
  have hli := pl.isList
  obtain ⟨ol, hol, _⟩ := id hli
  have hne : p ≠ sa.heap.objs.size := Nat.ne_of_lt (Heap.lt_size hol)
  have hn : its.toArray.size ≤ sizeLine := by rw [List.size_toArray, ← rv.length]; exact hz
  refine call_list_rev (s := { sa with heap := sa.heap.push (revObj p ((its.toArray.size : Int) - 1)) }) (Ia.ok.hd hc) ⟨_, Heap.get?_push_size _ rfl, rfl, rfl⟩ (hli.push _) hne hn fun h2 tk2 got c2 kp hS2 hgot => ?_
  refine ⟨.ref _, upd Ha _ (.lst ys.reverse), Ib.turnedNew (t' := tk2) (ch := [sa.heap.objs.size]) (T := (sa.heap.push (revObj p ((its.toArray.size : Int) - 1))).objs.size) (fun x o hx ex => kp x o (fun z => hx (by rw [z]; exact List.mem_singleton.mpr rfl)) ex) (fun x hx => ?_) (Nat.le_refl _) ?_, rfl, q _ (Ib.hok.fresh (Nat.le_refl _))⟩
  · rw [List.mem_singleton.mp hx]
    exact ⟨f0, f1, f2, f3, f4, f5⟩
  · show ObjOk X.prog X.w _ h2 _ (.lst ys.reverse)
    exact ⟨by rw [List.length_reverse]; exact hz, got.toList, c2, RT.vals_rev rv hgot, by rw [Array.toArray_toList]; exact hS2⟩
end
section
variable {K : PySem.W.Frag} {sls : List Sl} {te : TE}
theorem en_listRev {l : List Sh} (h : EL te sls l) : EN (tListRev K te) sls l.reverse := fun F0 H0 F H σ k Q q =>
  h F0 H0 F H σ k _ fun p vs F1 H1 g1 h2 h3 => ⟨p, vs, rfl, Evl.sq_of h2, fun r hr => q r _ F1 _ (g1.trans (Grow.layO g1.fh hr)) (g1.hh.back hr) (g1.fh.back hr) upd_same h3.reverse⟩
end
end Py
namespace MD
theorem DInv.befI {n h k : Nat} {D : Rat} {rows : List (List Int)} {sign before : Int} {B : Nat → Nat → Int} (I : DInv n h D k rows sign before B) : before.natAbs ≤ bd h k := by
  have e := I.bef
  cases k with
  | zero =>
    have : before = 1 := Rat.intCast_inj.mp e
    rw [this]; exact Nat.le_refl _
  | succ k =>
    rw [be_succ] at e
    have e : (before : Rat) = (be (qx B) k).2 0 0 := e
    rw [minor_int (fun l hl => I.ne l (by omega))] at e
    rw [Rat.intCast_inj.mp e]
    exact detI_le h _ _ fun r c => I.bnd _ _
theorem DInv.befN {n h k : Nat} {D : Rat} {rows : List (List Int)} {sign before : Int} {B : Nat → Nat → Int} (I : DInv n h D k rows sign before B) : before ≠ 0 := fun z => by
  have := I.ne k (Nat.le_refl k)
  rw [← I.bef, z] at this
  exact this rfl
/-- all numbers of a row that is not done yet -/
theorem DInv.rowBd {n h k : Nat} {D : Rat} {rows : List (List Int)} {sign before : Int} {B : Nat → Nat → Int} (I : DInv n h D k rows sign before B) (hk : k < n) {i : Nat} (h1 : k ≤ i) (h2 : i < n) {c : Int} (hc : c ∈ rows.getD i []) : c.natAbs ≤ bd h (k + 1) := by
  obtain ⟨j, hj, e⟩ := List.mem_iff_getElem.mp hc
  have hl := I.lens i h2
  have e2 : ent rows i j = c := by
    unfold ent
    rw [List.getD_eq_getElem?_getD, List.getElem?_eq_getElem hj]
    exact e
  by_cases h3 : k ≤ j
  · rw [← e2]; exact I.entI h1 h2 h3 (by omega)
  · have := I.low i j h1 h2 (by omega)
    rw [← e2, this]; simp
theorem bd_le (h : Nat) : ∀ n : Nat, bd h n ≤ (n * (h + 1)) ^ n
  | 0 => Nat.le_refl _
  | n + 1 => by
    rw [bd, Nat.pow_succ, Nat.mul_comm]
    have ih := bd_le h n
    have h1 : (n * (h + 1)) ^ n ≤ ((n + 1) * (h + 1)) ^ n := Nat.pow_le_pow_left (Nat.mul_le_mul_right _ (by omega)) n
    have h2 : h * bd h n * (n + 1) = bd h n * ((n + 1) * h) := by
      rw [Nat.mul_comm h, Nat.mul_assoc, Nat.mul_comm h]
    rw [h2]
    exact Nat.mul_le_mul (Nat.le_trans ih h1) (Nat.mul_le_mul_left _ (by omega))
theorem bd_small {h n : Nat} (hh : h + 1 ≤ 2 ^ 20) (hn : n ≤ 60) : bd h n < 2 ^ 4000 := by
  refine Nat.lt_of_le_of_lt (bd_le h n) ?_
  have h1 : n * (h + 1) ≤ 2 ^ 26 := Nat.le_trans (Nat.mul_le_mul hn hh) (by decide)
  refine Nat.lt_of_le_of_lt (Nat.pow_le_pow_left h1 n) ?_
  rw [← Nat.pow_mul]
  exact Nat.pow_lt_pow_right (by decide) (by omega)
end MD
namespace MA
open MD (sumI)
/-- the numbers of a product, so far: the first i of f's, of the next one the first j of g's -/
def part2 (f g : List Int) (i j n : Nat) : Int := sumI i (fun a => if a ≤ n then f.getD a 0 * g.getD (n - a) 0 else 0) + (if i ≤ n ∧ n < i + j then f.getD i 0 * g.getD (n - i) 0 else 0)
theorem part2_zero (f g : List Int) (i n : Nat) : part2 f g i 0 n = sumI i (fun a => if a ≤ n then f.getD a 0 * g.getD (n - a) 0 else 0) := by
  unfold part2
  rw [if_neg (by omega), Int.add_zero]
theorem part2_full (f g : List Int) (i n : Nat) : part2 f g i g.length n = part2 f g (i + 1) 0 n := by
  rw [part2_zero, sumI]
  unfold part2
  congr 1
  by_cases h : i ≤ n
  · rw [if_pos h]
    by_cases h2 : n < i + g.length
    · rw [if_pos ⟨h, h2⟩]
    · rw [if_neg (fun z => h2 z.2), getD_ge (f := g) (by omega)]; simp
  · rw [if_neg (fun z => h z.1), if_neg h]
theorem part2_step (f g : List Int) (i j n : Nat) : part2 f g i (j + 1) n = if n = i + j then part2 f g i j n + f.getD i 0 * g.getD j 0 else part2 f g i j n := by
  unfold part2
  by_cases h : n = i + j
  · subst h
    rw [if_pos rfl, if_pos (by omega), if_neg (by omega), Int.add_zero, show i + j - i = j by omega]
  · rw [if_neg h]
    congr 1
    by_cases h2 : i ≤ n ∧ n < i + j
    · rw [if_pos h2, if_pos (by omega)]
    · rw [if_neg h2, if_neg (by omega)]
theorem times_part2 {f g : List Int} (hf : Tr f) (hg : Tr g) (hfn : f ≠ []) (hgn : g ≠ []) : (List.range (f.length + g.length - 1)).map (part2 f g f.length 0) = Na05.times f g := by
  rw [times_is hf hg hfn hgn]
  refine List.map_congr_left fun n _ => ?_
  rw [part2_zero]; rfl
end MA
namespace Py
open PySem PySem.Spec PyProof.Rows L2
open MA (Tr Bd pst pdiv)
abbrev ro (m : List (List Int)) : Sh := .L (m.map li)
theorem set_range {L k : Nat} {F G : Nat → Int} {v : Int} (h : ∀ n, n < L → n ≠ k → F n = G n) (hk : G k = v) : (((List.range L).map F).map Sh.i).set k (.i v) = ((List.range L).map G).map Sh.i := by
  apply List.ext_getElem?
  intro i
  rw [List.getElem?_set, List.getElem?_map, List.getElem?_map, List.getElem?_map, List.getElem?_map]
  simp only [List.length_map, List.length_range]
  by_cases hi : i < L
  · rw [List.getElem?_range hi]
    by_cases e : k = i
    · subst e; rw [if_pos rfl, if_pos hi]; simp [hk]
    · rw [if_neg e]
      simp only [Option.map_some]
      rw [h i hi (fun z => e z.symm)]
  · rw [List.getElem?_eq_none (by simpa using hi)]
    by_cases e : k = i
    · subst e; rw [if_pos rfl, if_neg hi]; rfl
    · rw [if_neg e]; rfl
section
variable {P : Program} {w : World} {K : PySem.W.Frag} {mg : Str → Option Value} {base : Heap} (T : Txt K mg)
/-! ### product -/
def R_product (ss : List Sh) (r : Sh) : Prop := ∃ f g, ss = [li f, li g] ∧ Tr f ∧ Tr g ∧ f.length ≤ 100 ∧ g.length ≤ 100 ∧ Bd 1000 f ∧ Bd 1000 g ∧ r = li (Na05.times f g)
theorem ok_product : FnOk P w K mg base CX0 2 T.a_product T.fd_product ["first", "second"] (spP R_product) := by
  refine fn_pure T.d_product.F sc_product (fun ss r ⟨_, _, h, _⟩ => by rw [h]; rfl) (fun cdv A outer s H E hr => ⟨_, (pss_cons (ps_if (PW.pt (pw_or (pt_val (pe_call (ok_isz T) (hr.mono (by decide)) rfl T.d_isz.g T.d_isz.F.kp T.d_isz.b .nil pass0 (pa_cons (pv 0) pa_nil))) (pw_or1 (pt_val (pe_call (ok_isz T) (hr.mono (by decide)) rfl T.d_isz.g T.d_isz.F.kp T.d_isz.b .nil pass0 (pa_cons (pv 1) pa_nil)))))) (pss_one (ps_ret (pe_lst pa_nil))) pss_nil)
      (pss_cons (ps_set (i := 2) sc_product.nd rfl (Or.inl rfl) (pe_op op_rep (pe_lst (pa_cons pe_int pa_nil)) (pe_op op_sub (pe_op op_add (pe_callB call_len_seq (by rfl) T.m_len PySem.boot_len (pa_cons (pv 0) pa_nil)) (pe_callB call_len_seq (by rfl) T.m_len PySem.boot_len (pa_cons (pv 1) pa_nil))) pe_int)))
      (pss_cons (ps_for PassesOwn.never rfl (pi_enum (by rfl) T.m_enumerate (pa_cons (pv 0) pa_nil)) (pg_pair (i := 3) (j := 4) rfl sc_product.nd rfl (Or.inl rfl) rfl (Or.inl rfl)) (pss_one (ps_for PassesOwn.never rfl (pi_enum (by rfl) T.m_enumerate (pa_cons (pv 1) pa_nil)) (pg_pair (i := 5) (j := 6) rfl sc_product.nd rfl (Or.inl rfl) rfl (Or.inl rfl)) (pss_one (ps_augS (pv 2) (pe_op op_add (pv 3) (pv 5)) get_list (pe_op op_mulW (pv 4) (pv 6)) ip_add set_list)))))
      (pss_one (ps_ret (pv 2)))))), ?_⟩)
  rintro ss r ⟨f, g, rfl, hf, hg, lf, lg, bf, bg, rfl⟩
  refine q_when (et_or (et_B (e_call (ea_1 (e_var rfl)) ⟨f, rfl, rfl⟩)) (fun _ => et_B (e_call (ea_1 (e_var rfl)) ⟨g, rfl, rfl⟩))) (fun h => ?_) (fun h => ?_)
  · refine q_ret (e_lst ea_nil (by decide)) ?_
    rw [Bool.or_eq_true, decide_eq_true_eq, decide_eq_true_eq] at h
    rcases h with h | h
    · subst h; rw [MA.times_nil_left]; rfl
    · subst h; rw [MA.times_nil_right]; rfl
  · rw [Bool.or_eq_false_iff, decide_eq_false_iff_not, decide_eq_false_iff_not] at h
    obtain ⟨hfn, hgn⟩ := h
    have l1 := List.length_pos_iff.mpr hfn
    have l2 := List.length_pos_iff.mpr hgn
    have eL : ((f.map Sh.i).length : Int) + ((g.map Sh.i).length : Int) - 1 = ((f.length + g.length - 1 : Nat) : Int) := by rw [List.length_map, List.length_map]; omega
    have start : EN (tOp rRep (tLst (tCons (tC (.int 0)) tNil)) (tOp (rI0 fun i j => .int (i - j)) (tOp (rI0 fun i j => .int (i + j)) (tCB (Evl.rLenS K) (tCons (tVar 0) tNil)) (tCB (Evl.rLenS K) (tCons (tVar 1) tNil))) (tC (.int 1)))) [.v (li f), .v (li g), .x, .x, .x, .x, .x] (((List.range (f.length + g.length - 1)).map (MA.part2 f g 0 0)).map Sh.i) := by
      have h0 := en_rep (ta := tLst (tCons (tC (.int 0)) tNil)) (sls := [.v (li f), .v (li g), .x, .x, .x, .x, .x]) (e_lst (ea_1 e_int) (by simp)).el (e_is (e_sub (e_add (e_len (K := K) (e_var (i := 0) rfl)) (e_len (K := K) (e_var (i := 1) rfl))) e_int) (congrArg Sh.i eL)) (by omega) (by simp; omega) (by omega)
      rw [Int.toNat_natCast, rep_one] at h0
      have e2 : List.replicate (f.length + g.length - 1) (Sh.i 0) = ((List.range (f.length + g.length - 1)).map (MA.part2 f g 0 0)).map Sh.i := by
        have e3 : MA.part2 f g 0 0 = fun _ => 0 := by funext n; rw [MA.part2_zero]; rfl
        rw [e3, List.map_map]
        apply List.ext_getElem?
        intro i
        rw [List.getElem?_replicate, List.getElem?_map]
        by_cases hi : i < f.length + g.length - 1
        · rw [if_pos hi, List.getElem?_range hi]; rfl
        · rw [if_neg hi, List.getElem?_eq_none (by simpa using hi)]; rfl
      rw [e2] at h0
      exact h0
    refine q_own start ?_
    refine q_forE (ea_1 (e_var rfl)) (fun i s' => ∃ s3 s4 s5 s6, s' = [.v (li f), .v (li g), .own (((List.range (f.length + g.length - 1)).map (MA.part2 f g i 0)).map Sh.i), s3, s4, s5, s6]) ⟨_, _, _, _, rfl⟩ ?_ ?_
    · rintro i s' x hx ⟨s3, s4, s5, s6, rfl⟩
      obtain ⟨c, hc, rfl⟩ := map_i_get hx
      have hil : i < f.length := (List.getElem?_eq_some_iff.mp hc).1
      refine run_forE (ea_1 (e_var rfl)) (fun j s' => ∃ s5 s6, s' = [.v (li f), .v (li g), .own (((List.range (f.length + g.length - 1)).map (MA.part2 f g i j)).map Sh.i), .v (.i (i : Int)), .v (.i c), s5, s6]) ⟨_, _, rfl⟩ ?_ ?_
      · rintro j s' y hy ⟨s5, s6, rfl⟩
        obtain ⟨d, hd, rfl⟩ := map_i_get hy
        have hjl : j < g.length := (List.getElem?_eq_some_iff.mp hd).1
        have hij : i + j < f.length + g.length - 1 := by omega
        refine run_augO (i := 2) (j := i + j) (a := MA.part2 f g i j (i + j)) rfl (e_is (e_add (e_var rfl) (e_var rfl)) (by rw [Int.natCast_add])) ?_ (e_mul (e_var rfl) (e_var rfl) (mulOk (bf c (List.mem_of_getElem? hc)) (bg d (List.mem_of_getElem? hd)) (by decide))) ⟨.v (.i (j : Int)), .v (.i d), ?_⟩
        · rw [List.getElem?_map, List.getElem?_map, List.getElem?_range hij]; rfl
        · show [Sl.v (li f), Sl.v (li g), Sl.own ((((List.range (f.length + g.length - 1)).map (MA.part2 f g i j)).map Sh.i).set (i + j) (.i (MA.part2 f g i j (i + j) + c * d))), Sl.v (.i (i : Int)), Sl.v (.i c), Sl.v (.i (j : Int)), Sl.v (.i d)] = _
          rw [set_range (G := MA.part2 f g i (j + 1)) (fun n hn hne => ?_) ?_]
          · rw [MA.part2_step, if_pos rfl, getD_of hc, getD_of hd]
          · rw [MA.part2_step, if_neg hne]
      · rintro s' ⟨s5, s6, rfl⟩
        refine ⟨.v (.i (i : Int)), .v (.i c), s5, s6, ?_⟩
        have : MA.part2 f g i g.length = MA.part2 f g (i + 1) 0 := by funext n; exact MA.part2_full f g i n
        rw [List.length_map, this]
    · rintro s' ⟨s3, s4, s5, s6, rfl⟩
      refine run_freeze (i := 2) rfl (run_ret (e_var rfl) ?_)
      rw [List.length_map, MA.times_part2 hf hg hfn hgn]
/-! ### find_row, cleared_row -/
theorem atI_rows {m : List (List Int)} {i : Nat} (h : i < m.length) : atI (m.map li) (i : Int) = some (li (m.getD i [])) := by
  refine atI_nat ?_
  rw [List.getElem?_map, List.getD_eq_getElem?_getD, List.getElem?_eq_getElem h]; rfl
def R_find (ss : List Sh) (r : Sh) : Prop := ∃ (m : List (List Int)) (col : Nat), ss = [ro m, .i (col : Int)] ∧ col ≤ m.length ∧ (∀ i, i < m.length → col < (m.getD i []).length) ∧ r = .i ((MD.findRow m col m.length col : Nat) : Int)
theorem ok_find_row : FnOk P w K mg base CX0 1 T.a_find_row T.fd_find_row ["rows", "column"] (spP R_find) := by
  refine fn_pure T.d_find_row.F sc_find_row (fun ss r ⟨_, _, h, _⟩ => by rw [h]; rfl) (fun cdv A outer s H E hr => ⟨_, (pss_cons (ps_set (i := 2) sc_find_row.nd rfl (Or.inl rfl) (pv 1))
      (pss_cons (ps_while PassesOwn.never (PW.pt (pw_and (pt_cmpR op_lt (pv 2) (pe_callB call_len_seq (by rfl) T.m_len PySem.boot_len (pa_cons (pv 0) pa_nil)) (nomark _)) (pw_and1 (pt_cmpR op_eq (pe_ix ix_list (pe_ix ix_list (pv 0) (pv 2) (fun _ _ => rfl)) (pv 1) (fun _ _ => rfl)) pe_int (nomark _))))) (pss_one (ps_aug (i := 2) sc_find_row.nd rfl (Or.inl rfl) pe_int ip_add)))
      (pss_one (ps_ret (pv 2))))), ?_⟩)
  rintro ss r ⟨m, col, rfl, hc, hr, rfl⟩
  refine q_set (e_var rfl) ?_
  refine q_while (fun f s' => ∃ p : Nat, MD.findRow m col f p = MD.findRow m col m.length col ∧ m.length ≤ p + f ∧ p ≤ m.length ∧ s' = [.v (ro m), .v (.i (col : Int)), .v (.i (p : Int))]) m.length ⟨col, rfl, by omega, hc, rfl⟩ ?_
  rintro f s' ⟨p, h1, h2, h3, rfl⟩
  refine ⟨_, et_and (y := decide (MD.ent m p col = 0)) (et_test (e_lt (e_var rfl) (e_len (e_var rfl)))) (fun h => ?_), fun h => ?_, fun h => ?_⟩
  · have hp : p < m.length := by
      have := of_decide_eq_true h
      rw [List.length_map] at this
      omega
    exact et_test (e_eq (e_ixL (e_ixL (e_var rfl) (e_var rfl) (atI_rows hp)) (e_var rfl) (atI_ints (atI_getD (hr p hp)))) e_int)
  · rw [Bool.and_eq_true, decide_eq_true_eq, decide_eq_true_eq, List.length_map] at h
    cases f with
    | zero => omega
    | succ f =>
      have hcond : p < m.length ∧ MD.ent m p col = 0 := ⟨by omega, h.2⟩
      rw [MD.findRow, if_pos hcond] at h1
      exact run_aug rfl e_int ⟨f, Nat.lt_succ_self f, p + 1, h1, by omega, by omega, rfl⟩
  · refine run_ret (e_var rfl) ?_
    rw [Bool.and_eq_false_iff, decide_eq_false_iff_not, decide_eq_false_iff_not, List.length_map] at h
    rw [← h1]
    cases f with
    | zero => rfl
    | succ f =>
      rw [MD.findRow, if_neg]
      rintro ⟨z1, z2⟩
      rcases h with h | h
      · omega
      · exact h z2
def R_clear (ss : List Sh) (r : Sh) : Prop := ∃ (row top : List Int) (col : Nat) (before : Int), ss = [li row, li top, .i (col : Int), .i before] ∧ row.length ≤ 1000 ∧ col < row.length ∧ top.length = row.length ∧ Bd 5000 row ∧ Bd 5000 top ∧ before ≠ 0 ∧ before.natAbs < 2 ^ 9000 ∧ r = li (MD.clearedRow row top col before)
theorem bd_getD {b : Nat} {f : List Int} (h : Bd b f) (i : Nat) : (f.getD i 0).natAbs < 2 ^ b := by
  rw [List.getD_eq_getElem?_getD]
  cases e : f[i]? with
  | none => exact Nat.two_pow_pos b
  | some c => exact h c (List.mem_of_getElem? e)
theorem ok_cleared_row : FnOk P w K mg base CX0 1 T.a_cleared_row T.fd_cleared_row ["row", "top_row", "column", "before"] (spP R_clear) := by
  refine fn_pure T.d_cleared_row.F sc_cleared_row (fun ss r ⟨_, _, _, _, h, _⟩ => by rw [h]; rfl) (fun cdv A outer s H E hr => ⟨_, (pss_cons (ps_set (i := 4) sc_cleared_row.nd rfl (Or.inr rfl) (pe_ix ix_list (pv 1) (pv 2) (fun _ _ => rfl)))
      (pss_cons (ps_set (i := 5) sc_cleared_row.nd rfl (Or.inr rfl) (pe_ix ix_list (pv 0) (pv 2) (fun _ _ => rfl)))
      (pss_one (ps_ret (pe_lc (own := [("left", 6), ("right", 7)]) (g := (gTup K 2 (gCons (gName 6) (gCons (gName 7) gNil)))) rfl sc_cleared_row.nd (pi_zip (by rfl) T.m_zip (pa_cons (pv 0) (pa_cons (pv 1) pa_nil))) (blkOk_by (own := [("left", 6), ("right", 7)]) (N := N_cleared_row) (sc := defScope s_cleared_row) (by decide +kernel)) (fun _ _ _ _ _ => (pg_pair (i := 6) (j := 7) rfl sc_cleared_row.nd rfl (Or.inl rfl) rfl (Or.inl rfl))) (fun _ _ _ _ _ => pts_nil) (fun _ _ _ _ _ => (pe_op op_fdivZ (pe_op op_sub (pe_op op_mulW (pv 4) (pv 6)) (pe_op op_mulW (pv 5) (pv 7))) (pv 3)))))))), ?_⟩)
  rintro ss r ⟨row, tp, col, before, rfl, hl, hc, ht, b1, b2, hb, hz, rfl⟩
  refine q_set (e_ixL (e_var rfl) (e_var rfl) (atI_ints (atI_getD (by omega)))) (q_set (e_ixL (e_var rfl) (e_var rfl) (atI_ints (atI_getD hc))) ?_)
  refine run_ret (en_lcZ (by decide) (ea_cons (e_var rfl) (ea_1 (e_var rfl))) (fun i => .i ((tp.getD col 0 * row.getD i 0 - row.getD col 0 * tp.getD i 0).fdiv before)) (by rw [List.length_map, List.length_map]; omega) (fun i x y hx hy => ?_)).e ?_
  · obtain ⟨c, hc, rfl⟩ := map_i_get hx
    obtain ⟨d, hd, rfl⟩ := map_i_get hy
    rw [getD_of hc, getD_of hd]
    exact e_fdiv (e_sub (e_mul (e_var rfl) (e_var rfl) (mulOk (bd_getD b2 col) (b1 c (List.mem_of_getElem? hc)) (by decide))) (e_mul (e_var rfl) (e_var rfl) (mulOk (bd_getD b1 col) (b2 d (List.mem_of_getElem? hd)) (by decide)))) (e_var rfl) hb (log_of hz (by decide))
  · unfold MD.clearedRow li
    rw [List.length_map, List.length_map, ← zip_vals (fun l r => (tp.getD col 0 * l - row.getD col 0 * r).fdiv before) 0 0, List.map_map]; rfl
/-! ### determinant -/
def R_det (ss : List Sh) (r : Sh) : Prop := ∃ (m : List (List Int)) (h : Nat), ss = [ro m] ∧ m.length ≤ 50 ∧ (∀ i, i < m.length → (m.getD i []).length = m.length) ∧ (∀ r c, (MD.ent m r c).natAbs ≤ h) ∧ h + 1 ≤ 2 ^ 20 ∧ r = .i (Na05.det m.length m)
theorem getD_lt {m : List (List Int)} {i : Nat} {x : List Int} (h : m[i]? = some x) : m.getD i [] = x := by rw [List.getD_eq_getElem?_getD, h]; rfl
theorem rows_set {m : List (List Int)} {s : Nat} {r : List Int} : (m.map li).set s (li r) = (m.set s r).map li := by rw [List.map_set]
theorem det_step {n h k : Nat} {D : Rat} {rows : List (List Int)} {sign before : Int} {B : Nat → Nat → Int} (I : MD.DInv n h D k rows sign before B) (hk : k < n) (hn : n ≤ 50) (hh : h + 1 ≤ 2 ^ 20) {i : Nat} (h1 : k ≤ i) (h2 : i < n) : Bd 5000 (rows.getD i []) := fun c hc => by
  have h3 := I.rowBd hk h1 h2 hc
  have h4 := MD.bd_small (h := h) (n := k + 1) hh (by omega)
  exact lt_two_pow (Nat.lt_of_le_of_lt h3 h4) (by decide)
theorem ok_determinant : FnOk P w K mg base CX0 2 T.a_determinant T.fd_determinant ["table"] (spP R_det) := by
  refine fn_pure T.d_determinant.F sc_determinant (fun ss r ⟨_, _, h, _⟩ => by rw [h]; rfl) (fun cdv A outer s H E hr => ⟨_, (pss_cons (ps_set (i := 1) sc_determinant.nd rfl (Or.inl rfl) (pe_callTy call_list_of (by rfl) T.m_list (by decide +kernel) (pa_cons (pv 0) pa_nil)))
      (pss_cons (ps_set (i := 2) sc_determinant.nd rfl (Or.inl rfl) pe_int)
      (pss_cons (ps_set (i := 3) sc_determinant.nd rfl (Or.inr rfl) pe_int)
      (pss_cons (ps_for PassesOwn.never rfl (pi_range1 rfl T.m_range (pa_cons (pe_callB call_len_seq (by rfl) T.m_len PySem.boot_len (pa_cons (pv 0) pa_nil)) pa_nil)) (pg_name (i := 4) sc_determinant.nd rfl (Or.inr rfl)) (pss_cons (ps_set (i := 5) sc_determinant.nd rfl (Or.inl rfl) (pe_call (ok_find_row T) (hr.mono (by decide)) rfl T.d_find_row.g T.d_find_row.F.kp T.d_find_row.b .nil pass0 (pa_cons (pv 1) (pa_cons (pv 4) pa_nil))))
      (pss_cons (ps_if (pt_cmpR op_eq (pv 5) (pe_callB call_len_seq (by rfl) T.m_len PySem.boot_len (pa_cons (pv 1) pa_nil)) (nomark _)) (pss_one (ps_ret pe_int)) pss_nil)
      (pss_cons (ps_set (i := 6) sc_determinant.nd rfl (Or.inr rfl) (pe_ix ix_list (pv 1) (pv 5) (fun _ _ => rfl)))
      (pss_cons (ps_if (pt_cmpR op_ne (pv 5) (pv 4) (nomark _)) (pss_cons (ps_asg (pe_ix ix_list (pv 1) (pv 4) (fun _ _ => rfl)) (pg_sub (pv 1) (pv 5) set_list))
      (pss_one (ps_set (i := 2) sc_determinant.nd rfl (Or.inl rfl) (pe_un un_neg (pv 2))))) pss_nil)
      (pss_cons (ps_set (i := 7) sc_determinant.nd rfl (Or.inl rfl) (pe_op op_cat (pe_slice sl_list (pv 1) po_none (po_some (pv 4))) (pe_lst (pa_cons (pv 6) pa_nil))))
      (pss_cons (ps_set (i := 1) sc_determinant.nd rfl (Or.inl rfl) (pe_op op_cat (pv 7) (pe_lc (own := [("row", 8)]) (g := (gName 8)) rfl sc_determinant.nd (pi_list (pe_slice sl_list (pv 1) (po_some (pe_op op_add (pv 4) pe_int)) po_none)) (blkOk_by (own := [("row", 8)]) (N := N_determinant) (sc := defScope s_determinant) (by decide +kernel)) (fun _ _ _ _ _ => (pg_name (i := 8) sc_determinant.nd rfl (Or.inl rfl))) (fun _ _ _ _ _ => pts_nil) (fun _ _ _ _ _ => (pe_call (ok_cleared_row T) (hr.mono (by decide)) rfl T.d_cleared_row.g T.d_cleared_row.F.kp T.d_cleared_row.b .nil pass0 (pa_cons (pv 8) (pa_cons (pv 6) (pa_cons (pv 4) (pa_cons (pv 3) pa_nil)))))))))
      (pss_one (ps_set (i := 3) sc_determinant.nd rfl (Or.inr rfl) (pe_ix ix_list (pv 6) (pv 4) (fun _ _ => rfl)))))))))))
      (pss_one (ps_ret (pe_op op_mulW (pv 2) (pv 3)))))))), ?_⟩)
  rintro ss r ⟨m, h, rfl, hm, hsq, hent, hh, rfl⟩
  have hdet : MD.detLoop m.length m.length m 1 1 0 = Na05.det m.length m := MD.determinant_is hsq
  generalize hn : m.length = n at *
  have I0 := MD.DInv.start (h := h) hn hsq hent
  refine q_own (en_list (e_var rfl).el) (q_set e_int (q_set e_int ?_))
  refine q_forR (n := (n : Int)) (ea_1 (e_is (e_len (e_var rfl)) (by rw [List.length_map, hn]))) (by omega) (fun k s' => ∃ rows sign before B s4 s5 s6 s7 s8, MD.DInv n h ((Na05.det n m : Int) : Rat) k rows sign before B ∧ MD.detLoop n (n - k) rows sign before k = Na05.det n m ∧
      s' = [.v (ro m), .own (rows.map li), .v (.i sign), .v (.i before), s4, s5, s6, s7, s8]) ⟨m, 1, 1, _, _, _, _, _, _, I0, hdet, rfl⟩ ?_ ?_
  · rintro k s' hk ⟨rows, sign, before, B, s4, s5, s6, s7, s8, I, hloop, rfl⟩
    have hk : k < n := by omega
    have hrl := I.len
    have hfind : R_find [ro rows, .i (k : Int)] (.i ((MD.findRow rows k rows.length k : Nat) : Int)) := ⟨rows, k, rfl, by omega, fun i hi => by rw [I.lens i (by omega)]; exact hk, rfl⟩
    rw [hrl] at hfind
    obtain ⟨p1, p2, p3, p4⟩ := MD.findRow_ok rows k n k (by omega) (by omega)
    rw [show n - k = (n - (k + 1)) + 1 by omega, MD.detLoop] at hloop
    generalize MD.findRow rows k n k = p at *
    refine q_set (e_lend (i := 1) rfl (e_call (ea_cons (e_var rfl) (ea_1 (e_var rfl))) hfind) trivial) ?_
    refine q_when (et_test (e_eq (e_var rfl) (e_lenO (el_own (i := 1) rfl)))) (fun hq => ?_) (fun hq => ?_)
    · have hp : p = rows.length := by
        have := of_decide_eq_true hq
        rw [List.length_map] at this
        omega
      rw [if_pos hp] at hloop
      exact q_ret e_int (by rw [hloop])
    · have hp : ¬ p = rows.length := by
        intro z
        have := of_decide_eq_false hq
        rw [List.length_map] at this
        omega
      rw [if_neg hp] at hloop
      have hpn : p < n := by omega
      have hpe := p4 (by omega)
      obtain ⟨B', I'⟩ := I.step hk p1 hpn hpe
      have hrow : ∀ {x : Nat}, x < n → atI (rows.map li) (x : Int) = some (li (rows.getD x [])) := fun hx => atI_rows (by omega)
      refine q_set (e_ixO (el_own (i := 1) rfl) (e_var rfl) (hrow hpn)) ?_
      -- the change of places
      generalize hr' : (if p = k then rows else rows.set p (rows.getD k [])) = rows'
      have lr' : rows'.length = n := by rw [← hr']; split <;> simp [hrl]
      refine run_seq (M := fun s' => s' = [.v (ro m), .own (rows'.map li), .v (.i (if p = k then sign else -sign)), .v (.i before), .v (.i (k : Int)), .v (.i (p : Int)), .v (li (rows.getD p [])), s7, s8]) (run_if (et_test (e_ne (e_var rfl) (e_var rfl))) (fun hq => ?_) (fun hq => ?_)) ?_
      · have hpk : ¬ p = k := by
          intro z
          rw [z] at hq
          simp at hq
        refine run_seq (M := fun s' => s' = [.v (ro m), .own (rows'.map li), .v (.i sign), .v (.i before), .v (.i (k : Int)), .v (.i (p : Int)), .v (li (rows.getD p [])), s7, s8]) (run_put (i := 1) (j := p) rfl (e_ixO (el_own (i := 1) rfl) (e_var rfl) (hrow hk)) (e_var rfl) (by rw [List.length_map]; omega) ?_) ?_
        · rw [rows_set, ← hr', if_neg hpk]; rfl
        · rintro s' rfl
          exact run_set (e_neg (e_var rfl)) (by rw [if_neg hpk]; rfl)
      · have hpk : p = k := by
          have : ((p : Int) = (k : Int)) := by simpa using hq
          omega
        refine run_next ?_
        rw [if_pos hpk, ← hr', if_pos hpk]; rfl
      · rintro s' rfl
        refine q_set (en_catO (en_slO (el_own (i := 1) rfl) eo_none (eo_some (e_var rfl))).el (e_lst (ea_1 (e_var rfl)) (by simp)).el ?_).e ?_
        · rw [cutS_map, cut_to rows' (by omega), List.length_map, List.length_take]; simp; omega
        · rw [cutS_map, cut_to rows' (by omega)]
          have htop : Bd 5000 (rows.getD p []) := det_step I hk hm hh p1 hpn
          have hbef : before.natAbs < 2 ^ 9000 := lt_two_pow (Nat.lt_of_le_of_lt I.befI (MD.bd_small hh (by omega))) (by decide)
          have hr'at : ∀ i, rows'.getD i [] = rows.getD (if i = p then k else i) [] := by
            intro i
            rw [← hr']
            by_cases hpk : p = k
            · rw [if_pos hpk]
              by_cases e : i = p
              · rw [if_pos e, e, hpk]
              · rw [if_neg e]
            · rw [if_neg hpk, MD.getD_set_row _ _ _ _ (by omega)]
              by_cases e : i = p
              · rw [if_pos e, if_pos e]
              · rw [if_neg e, if_neg e]
          have sl1 : cutS (rows'.map li) (some ((k : Int) + 1)) none = (rows'.drop (k + 1)).map li := by
            rw [cutS_map, show (k : Int) + 1 = ((k + 1 : Nat) : Int) by omega, cut_from rows' (by omega)]
          have tail : EN (tLc (iList K (tSl (rSlL K) (tVar 1) (tPart (tOp (rI0 fun i j => .int (i + j)) (tVar 4) (tC (.int 1)))) tNoPart)) (gName 8) tYes (tCall (spP R_clear) [] E0 (tCons (tVar 8) (tCons (tVar 6) (tCons (tVar 4) (tCons (tVar 3) tNil))))) [8])
              [.v (ro m), .own (rows'.map li), .v (.i (if p = k then sign else -sign)), .v (.i before), .v (.i (k : Int)), .v (.i (p : Int)), .v (li (rows.getD p [])), .v (.L ((rows'.take k).map li ++ [li (rows.getD p [])])), s8] (((rows'.drop (k + 1)).map fun row => MD.clearedRow row (rows.getD p []) k before).map li) := by
            have h0 := en_lcL (K := K) (j := 8) (tt := tYes) (te := tCall (spP R_clear) [] E0 (tCons (tVar 8) (tCons (tVar 6) (tCons (tVar 4) (tCons (tVar 3) tNil))))) (en_slO (K := K) (sls := [.v (ro m), .own (rows'.map li), .v (.i (if p = k then sign else -sign)), .v (.i before), .v (.i (k : Int)), .v (.i (p : Int)), .v (li (rows.getD p [])), .v (.L ((rows'.take k).map li ++ [li (rows.getD p [])])), s8]) (el_own (i := 1) rfl) (eo_some (e_add (e_var (i := 4) rfl) e_int)) eo_none).e (fun _ => true) (fun i => li (MD.clearedRow ((rows'.drop (k + 1)).getD i []) (rows.getD p []) k before)) (by rw [sl1, List.length_map, List.length_drop]; omega) (fun i x hx => et_yes) (fun i x hx _ => by
              rw [sl1, List.getElem?_map] at hx
              cases e : (rows'.drop (k + 1))[i]? with
              | none => rw [e] at hx; cases hx
              | some row =>
                rw [e] at hx
                obtain rfl : x = li row := (Option.some.inj hx).symm
                rw [getD_lt e]
                rw [List.getElem?_drop] at e
                have hil : k + 1 + i < n := by
                  have := (List.getElem?_eq_some_iff.mp e).1
                  omega
                have hrow' : row = rows.getD (if k + 1 + i = p then k else k + 1 + i) [] := by rw [← hr'at, getD_lt e]
                have hx1 : k ≤ (if k + 1 + i = p then k else k + 1 + i) := by split <;> omega
                have hx2 : (if k + 1 + i = p then k else k + 1 + i) < n := by split <;> omega
                have hlen : row.length = n := by rw [hrow']; exact I.lens _ hx2
                have hb1 : Bd 5000 row := by rw [hrow']; exact det_step I hk hm hh hx1 hx2
                exact e_call (ea_cons (e_var rfl) (ea_cons (e_var rfl) (ea_cons (e_var rfl) (ea_1 (e_var rfl))))) ⟨row, rows.getD p [], k, before, rfl, by omega, by omega, by rw [hlen]; exact I.lens p hpn, hb1, htop, I.befN, hbef, rfl⟩)
            rw [givenS_all, sl1, List.length_map] at h0
            have e2 : (List.range (rows'.drop (k + 1)).length).map (fun i => li (MD.clearedRow ((rows'.drop (k + 1)).getD i []) (rows.getD p []) k before)) = ((rows'.drop (k + 1)).map fun row => MD.clearedRow row (rows.getD p []) k before).map li := by
              rw [List.map_map]
              apply List.ext_getElem?
              intro i
              rw [List.getElem?_map, List.getElem?_map]
              by_cases hi : i < (rows'.drop (k + 1)).length
              · rw [List.getElem?_range hi, List.getElem?_eq_getElem hi]
                simp only [Option.map_some]
                rw [List.getD_eq_getElem?_getD, List.getElem?_eq_getElem hi]; rfl
              · rw [List.getElem?_eq_none (by simpa using hi), List.getElem?_eq_none (by omega)]; rfl
            rw [e2] at h0
            exact h0
          refine q_own (en_catO (e_var rfl).el tail.el ?_) (run_set (e_ixL (e_var rfl) (e_var rfl) (atI_ints (atI_getD (by rw [I.lens p hpn]; exact hk)))) ⟨MD.stepRows rows k p before, _, _, B', .v (.i (k : Int)), .v (.i (p : Int)), .v (li (rows.getD p [])), .v (.L ((rows'.take k).map li ++ [li (rows.getD p [])])), s8, I', hloop, ?_⟩)
          · simp only [List.length_append, List.length_map, List.length_take, List.length_drop, List.length_cons, List.length_nil]; omega
          · have e3 : (rows'.take k).map li ++ [li (rows.getD p [])] ++ ((rows'.drop (k + 1)).map fun row => MD.clearedRow row (rows.getD p []) k before).map li = (MD.stepRows rows k p before).map li := by
              unfold MD.stepRows
              rw [hr']
              dsimp only
              rw [List.map_append, List.map_append]; rfl
            rw [← e3]; rfl
  · rintro s' ⟨rows, sign, before, B, s4, s5, s6, s7, s8, I, hloop, rfl⟩
    rw [Int.toNat_natCast, Nat.sub_self, MD.detLoop] at hloop
    have hbef : before.natAbs < 2 ^ 9000 := lt_two_pow (Nat.lt_of_le_of_lt I.befI (MD.bd_small hh (by rw [Int.toNat_natCast]; omega))) (by decide)
    have hsg : sign.natAbs < 2 ^ 1 := by rcases I.sgn with e | e <;> rw [e] <;> decide
    exact run_ret (e_mul (e_var rfl) (e_var rfl) (mulOk hsg hbef (by decide))) (by rw [hloop])
end
end Py
namespace Py
open PySem PySem.Spec PyProof.Rows L2
open MA (Tr Bd pst pdiv)
theorem zeros_i (n : Nat) : List.replicate n (Sh.i 0) = (List.replicate n (0 : Int)).map Sh.i := by rw [List.map_replicate]
theorem cut_1 {A : Type} (xs : List A) : cutS xs (some 1) none = xs.drop 1 := by
  unfold cutS
  rw [HT.sIx_none]
  have e : HT.sIx xs.length 0 (some 1) = min 1 xs.length := HT.sIx_nat xs.length 0 1
  rw [e]
  cases xs with
  | nil => rfl
  | cons x l =>
    have : min 1 (x :: l).length = 1 := by simp
    rw [this, List.take_of_length_le (by rw [List.length_drop]; exact Nat.le_refl _)]
section
variable {P : Program} {w : World} {K : PySem.W.Frag} {mg : Str → Option Value} {base : Heap} (T : Txt K mg)
/-! ### shifted_rows -/
def R_shift (ss : List Sh) (r : Sh) : Prop := ∃ (p : List Int) (count width : Nat), ss = [li p, .i (count : Int), .i (width : Int)] ∧ p.length ≤ 100 ∧ count ≤ 100 ∧ width ≤ 200 ∧ p.length + count ≤ width + 1 ∧ r = ro (MA.shiftedRows p count width)
theorem ok_shifted_rows : FnOk P w K mg base CX0 1 T.a_shifted_rows T.fd_shifted_rows ["polynomial", "count", "width"] (spP R_shift) := by
  refine fn_pure T.d_shifted_rows.F sc_shifted_rows (fun ss r ⟨_, _, _, h, _⟩ => by rw [h]; rfl) (fun cdv A outer s H E hr => ⟨_, (pss_cons (ps_set (i := 3) sc_shifted_rows.nd rfl (Or.inr rfl) (pe_listRev rfl (by rfl) T.m_list (by rfl) T.m_reversed (pv 0)))
      (pss_cons (ps_set (i := 4) sc_shifted_rows.nd rfl (Or.inr rfl) (pe_op op_sub (pv 2) (pe_callB call_len_seq (by rfl) T.m_len PySem.boot_len (pa_cons (pv 3) pa_nil))))
      (pss_one (ps_ret (pe_lc (own := [("place", 5)]) (g := (gName 5)) rfl sc_shifted_rows.nd (pi_range1 rfl T.m_range (pa_cons (pv 1) pa_nil)) (blkOk_by (own := [("place", 5)]) (N := N_shifted_rows) (sc := defScope s_shifted_rows) (by decide +kernel)) (fun _ _ _ _ _ => (pg_name (i := 5) sc_shifted_rows.nd rfl (Or.inl rfl))) (fun _ _ _ _ _ => pts_nil) (fun _ _ _ _ _ => (pe_op op_cat (pe_op op_cat (pe_op op_rep (pe_lst (pa_cons pe_int pa_nil)) (pv 5)) (pv 3)) (pe_op op_rep (pe_lst (pa_cons pe_int pa_nil)) (pe_op op_sub (pv 4) (pv 5)))))))))), ?_⟩)
  rintro ss r ⟨p, count, width, rfl, hp, hc, hw, hpc, rfl⟩
  refine q_set (e_is (en_listRev (e_var rfl).el).e (s' := li p.reverse) (by rw [li, List.map_reverse])) ?_
  refine q_set (e_is (e_sub (e_var rfl) (e_len (e_var rfl))) (s' := .i ((width : Int) - (p.length : Int))) (by rw [List.length_map, List.length_reverse])) ?_
  refine run_ret (en_lcR (n := (count : Int)) (ea_1 (e_var rfl)) (fun i => li (List.replicate i 0 ++ p.reverse ++ List.replicate (width - p.length - i) 0)) (by omega) (by omega) (fun i hi => ?_)).e ?_
  · have hi : i < count := by omega
    have h1 := en_rep (ta := tLst (tCons (tC (.int 0)) tNil)) (tb := tVar 5) (sls := [.v (li p), .v (.i (count : Int)), .v (.i (width : Int)), .v (li p.reverse), .v (.i ((width : Int) - (p.length : Int))), .v (.i (i : Int))]) (e_lst (ea_1 e_int) (by simp)).el (e_var rfl) (by omega) (by simp; omega) (by omega)
    rw [Int.toNat_natCast, rep_one, zeros_i] at h1
    have h2 := en_rep (ta := tLst (tCons (tC (.int 0)) tNil)) (tb := tOp (rI0 fun i j => .int (i - j)) (tVar 4) (tVar 5)) (sls := [.v (li p), .v (.i (count : Int)), .v (.i (width : Int)), .v (li p.reverse), .v (.i ((width : Int) - (p.length : Int))), .v (.i (i : Int))]) (e_lst (ea_1 e_int) (by simp)).el (e_sub (e_var rfl) (e_var rfl)) (by omega) (by simp; omega) (by omega)
    rw [show ((width : Int) - (p.length : Int) - (i : Int)).toNat = width - p.length - i by omega, rep_one, zeros_i] at h2
    have h3 := en_catO (en_catO h1.el (e_var (i := 3) rfl).el (by simp; omega)).el h2.el (by simp; omega)
    refine e_is h3.e ?_
    rw [li, List.map_append, List.map_append]
  · rw [Int.toNat_natCast]
    unfold MA.shiftedRows ro
    rw [List.map_map]; rfl
/-! ### resultant -/
def R_res (ss : List Sh) (r : Sh) : Prop := ∃ (f g : List Int) (h : Nat), ss = [li f, li g] ∧ f.length ≤ 20 ∧ g.length ≤ 20 ∧ (∀ c ∈ f, c.natAbs ≤ h) ∧ (∀ c ∈ g, c.natAbs ≤ h) ∧ h + 1 ≤ 2 ^ 20 ∧ r = .i (Na05.resultant f g)
theorem ent_le {m : List (List Int)} {h : Nat} (hm : ∀ row ∈ m, ∀ c ∈ row, c.natAbs ≤ h) (r c : Nat) : (MD.ent m r c).natAbs ≤ h := by
  unfold MD.ent
  rw [List.getD_eq_getElem?_getD, List.getD_eq_getElem?_getD]
  cases e1 : m[r]? with
  | none => simp
  | some row =>
    cases e2 : row[c]? with
    | none => simp [e2]
    | some x => simp only [Option.getD_some, e2]; exact hm row (List.mem_of_getElem? e1) x (List.mem_of_getElem? e2)
theorem shifted_le {p : List Int} {h a b : Nat} (hp : ∀ c ∈ p, c.natAbs ≤ h) : ∀ row ∈ MA.shiftedRows p a b, ∀ c ∈ row, c.natAbs ≤ h := by
  intro row hrow c hc
  obtain ⟨i, _, rfl⟩ := List.mem_map.mp hrow
  rcases List.mem_append.mp hc with hc | hc
  · rcases List.mem_append.mp hc with hc | hc
    · rw [List.eq_of_mem_replicate hc]; simp
    · exact hp c (List.mem_reverse.mp hc)
  · rw [List.eq_of_mem_replicate hc]; simp
theorem ok_resultant : FnOk P w K mg base CX0 3 T.a_resultant T.fd_resultant ["first", "second"] (spP R_res) := by
  refine fn_pure T.d_resultant.F sc_resultant (fun ss r ⟨_, _, _, h, _⟩ => by rw [h]; rfl) (fun cdv A outer s H E hr => ⟨_, (pss_cons (ps_if (PW.pt (pw_or (pt_val (pe_call (ok_isz T) (hr.mono (by decide)) rfl T.d_isz.g T.d_isz.F.kp T.d_isz.b .nil pass0 (pa_cons (pv 0) pa_nil))) (pw_or1 (pt_val (pe_call (ok_isz T) (hr.mono (by decide)) rfl T.d_isz.g T.d_isz.F.kp T.d_isz.b .nil pass0 (pa_cons (pv 1) pa_nil)))))) (pss_one (ps_ret pe_int)) pss_nil)
      (pss_cons (ps_set (i := 2) sc_resultant.nd rfl (Or.inl rfl) (pe_op op_add (pe_call (ok_deg T) (hr.mono (by decide)) rfl T.d_deg.g T.d_deg.F.kp T.d_deg.b .nil pass0 (pa_cons (pv 0) pa_nil)) (pe_call (ok_deg T) (hr.mono (by decide)) rfl T.d_deg.g T.d_deg.F.kp T.d_deg.b .nil pass0 (pa_cons (pv 1) pa_nil))))
      (pss_cons (ps_set (i := 3) sc_resultant.nd rfl (Or.inl rfl) (pe_call (ok_shifted_rows T) (hr.mono (by decide)) rfl T.d_shifted_rows.g T.d_shifted_rows.F.kp T.d_shifted_rows.b .nil pass0 (pa_cons (pv 0) (pa_cons (pe_call (ok_deg T) (hr.mono (by decide)) rfl T.d_deg.g T.d_deg.F.kp T.d_deg.b .nil pass0 (pa_cons (pv 1) pa_nil)) (pa_cons (pv 2) pa_nil)))))
      (pss_cons (ps_set (i := 4) sc_resultant.nd rfl (Or.inl rfl) (pe_call (ok_shifted_rows T) (hr.mono (by decide)) rfl T.d_shifted_rows.g T.d_shifted_rows.F.kp T.d_shifted_rows.b .nil pass0 (pa_cons (pv 1) (pa_cons (pe_call (ok_deg T) (hr.mono (by decide)) rfl T.d_deg.g T.d_deg.F.kp T.d_deg.b .nil pass0 (pa_cons (pv 0) pa_nil)) (pa_cons (pv 2) pa_nil)))))
      (pss_one (ps_ret (pe_call (ok_determinant T) (hr.mono (by decide)) rfl T.d_determinant.g T.d_determinant.F.kp T.d_determinant.b .nil pass0 (pa_cons (pe_op op_cat (pv 3) (pv 4)) pa_nil)))))))), ?_⟩)
  rintro ss r ⟨f, g, h, rfl, lf, lg, bf, bg, hh, rfl⟩
  rw [← MA.resultant_is]
  unfold MA.resultantM
  refine q_when (et_or (et_B (e_call (ea_1 (e_var rfl)) ⟨f, rfl, rfl⟩)) (fun _ => et_B (e_call (ea_1 (e_var rfl)) ⟨g, rfl, rfl⟩))) (fun hz => ?_) (fun hz => ?_)
  · rw [Bool.or_eq_true, decide_eq_true_eq, decide_eq_true_eq] at hz
    exact q_ret e_int (by rw [if_pos hz])
  · rw [Bool.or_eq_false_iff, decide_eq_false_iff_not, decide_eq_false_iff_not] at hz
    obtain ⟨hf, hg⟩ := hz
    have l1 := List.length_pos_iff.mpr hf
    have l2 := List.length_pos_iff.mpr hg
    rw [if_neg (by rintro (z | z) <;> contradiction)]
    have d1 : R_deg [li f] (.i ((f.length - 1 : Nat) : Int)) := ⟨f, rfl, by congr 1; omega⟩
    have d2 : R_deg [li g] (.i ((g.length - 1 : Nat) : Int)) := ⟨g, rfl, by congr 1; omega⟩
    have hs := MA.rows_sylvester hf hg
    refine q_set (e_is (e_add (e_call (ea_1 (e_var rfl)) d1) (e_call (ea_1 (e_var rfl)) d2)) (s' := .i ((f.length - 1 + (g.length - 1) : Nat) : Int)) (by rw [Int.natCast_add])) ?_
    refine q_set (e_call (ea_cons (e_var rfl) (ea_cons (e_call (ea_1 (e_var rfl)) d2) (ea_1 (e_var rfl)))) ⟨f, g.length - 1, f.length - 1 + (g.length - 1), rfl, by omega, by omega, by omega, by omega, rfl⟩) ?_
    refine q_set (e_call (ea_cons (e_var rfl) (ea_cons (e_call (ea_1 (e_var rfl)) d1) (ea_1 (e_var rfl)))) ⟨g, f.length - 1, f.length - 1 + (g.length - 1), rfl, by omega, by omega, by omega, by omega, rfl⟩) ?_
    have hcat : ro (MA.shiftedRows f (g.length - 1) (f.length - 1 + (g.length - 1)) ++ MA.shiftedRows g (f.length - 1) (f.length - 1 + (g.length - 1))) = .L ((MA.shiftedRows f (g.length - 1) (f.length - 1 + (g.length - 1))).map li ++ (MA.shiftedRows g (f.length - 1) (f.length - 1 + (g.length - 1))).map li) := by rw [ro, List.map_append]
    have hsq : ∀ i, i < (Na05.sylvester f g).length → ((Na05.sylvester f g).getD i []).length = (Na05.sylvester f g).length := fun i hi => by
      rw [MA.sylvester_len, List.getD_eq_getElem?_getD, List.getElem?_eq_getElem hi]
      exact MA.sylvester_row hf hg (List.getElem_mem hi)
    have hent : ∀ r c, (MD.ent (Na05.sylvester f g) r c).natAbs ≤ h := ent_le (by
      rw [← hs]
      intro row hrow
      rcases List.mem_append.mp hrow with hrow | hrow
      · exact shifted_le bf row hrow
      · exact shifted_le bg row hrow)
    refine run_ret (e_call (ea_1 (en_cat (e_var rfl) (e_var rfl) ?_).e) ⟨Na05.sylvester f g, h, by rw [← hs, hcat], by rw [MA.sylvester_len]; omega, hsq, hent, hh, rfl⟩) ?_
    · simp only [List.length_map, MA.shiftedRows, List.length_range]; omega
    · rw [hs, MD.determinant_is hsq]
/-! ### slope, discriminant -/
def R_slope (ss : List Sh) (r : Sh) : Prop := ∃ f, ss = [li f] ∧ Tr f ∧ f.length ≤ 100 ∧ Bd 1000 f ∧ r = li (Na05.slope f)
theorem enum_vals (f : List Int) : (List.range f.length).map (fun (i : Nat) => (i : Int) * f.getD i 0) = f.zipIdx.map fun x => (x.2 : Int) * x.1 := by
  apply List.ext_getElem?
  intro i
  rw [List.getElem?_map, List.getElem?_map, List.getElem?_zipIdx]
  by_cases h : i < f.length
  · rw [List.getElem?_range h, List.getElem?_eq_getElem h]
    simp only [Option.map_some]
    rw [List.getD_eq_getElem?_getD, List.getElem?_eq_getElem h]
    simp
  · rw [List.getElem?_eq_none (by simpa using h), List.getElem?_eq_none (by omega)]; rfl
theorem ok_slope : FnOk P w K mg base CX0 1 T.a_slope T.fd_slope ["polynomial"] (spP R_slope) := by
  refine fn_pure T.d_slope.F sc_slope (fun ss r ⟨_, h, _⟩ => by rw [h]; rfl) (fun cdv A outer s H E hr => ⟨_, (pss_one (ps_ret (pe_slice sl_list (pe_lc (own := [("power", 1), ("number", 2)]) (g := (gTup K 2 (gCons (gName 1) (gCons (gName 2) gNil)))) rfl sc_slope.nd (pi_enum (by rfl) T.m_enumerate (pa_cons (pv 0) pa_nil)) (blkOk_by (own := [("power", 1), ("number", 2)]) (N := N_slope) (sc := defScope s_slope) (by decide +kernel)) (fun _ _ _ _ _ => (pg_pair (i := 1) (j := 2) rfl sc_slope.nd rfl (Or.inl rfl) rfl (Or.inl rfl))) (fun _ _ _ _ _ => pts_nil) (fun _ _ _ _ _ => (pe_op op_mulW (pv 1) (pv 2)))) (po_some pe_int) po_none))), ?_⟩)
  rintro ss r ⟨f, rfl, hf, lf, bf, rfl⟩
  have h0 := en_lcE (K := K) (i := 1) (j := 2) (te := tOp (rI CMulW fun i j => .int (i * j)) (tVar 1) (tVar 2)) (sls := [.v (li f), .x, .x]) (by decide) (ea_1 (e_var (i := 0) rfl)) (fun i => .i ((i : Int) * f.getD i 0)) (by rw [List.length_map]; omega) (fun i x hx => by
    obtain ⟨c, hc, rfl⟩ := map_i_get hx
    have hil : i < f.length := (List.getElem?_eq_some_iff.mp hc).1
    rw [getD_of hc]
    exact e_mul (e_var rfl) (e_var rfl) (mulOk (a := 10) (b := 1000) (by rw [Int.natAbs_natCast]; exact Nat.lt_of_lt_of_le (show i < 100 by omega) (by decide)) (bf c (List.mem_of_getElem? hc)) (by decide)))
  refine run_ret (en_sl h0.e (eo_some e_int) eo_none).e ?_
  rw [← MA.slope_is hf]
  unfold MA.slopeM li
  rw [cut_1, ← enum_vals, List.length_map, List.map_drop, List.map_map]; rfl
theorem bd_of_le {f : List Int} {h b : Nat} (hf : ∀ c ∈ f, c.natAbs ≤ h) (hb : h < 2 ^ b) : Bd b f := fun c hc => Nat.lt_of_le_of_lt (hf c hc) hb
theorem slope_le {f : List Int} {h : Nat} (hf : Tr f) (hl : f.length ≤ 20) (hb : ∀ c ∈ f, c.natAbs ≤ h) : ∀ c ∈ Na05.slope f, c.natAbs ≤ 20 * h := by
  intro c hc
  rw [← MA.slope_is hf] at hc
  unfold MA.slopeM at hc
  obtain ⟨x, hx, rfl⟩ := List.mem_map.mp (List.mem_of_mem_drop hc)
  obtain ⟨i, hi, e⟩ := List.mem_iff_getElem.mp hx
  rw [List.getElem_zipIdx] at e
  rw [← e, Int.natAbs_mul]
  have hil : i < f.length := by rw [List.length_zipIdx] at hi; exact hi
  exact Nat.mul_le_mul (by rw [Int.natAbs_natCast]; simp; omega) (hb _ (List.getElem_mem _))
def R_disc (ss : List Sh) (r : Sh) : Prop := ∃ (f : List Int), ss = [li f] ∧ Tr f ∧ 2 ≤ f.length ∧ f.length ≤ 20 ∧ (∀ c ∈ f, c.natAbs ≤ 1000) ∧ r = .i (Na05.disc f)
theorem ok_discriminant : FnOk P w K mg base CX0 4 T.a_discriminant T.fd_discriminant ["polynomial"] (spP R_disc) := by
  refine fn_pure T.d_discriminant.F sc_discriminant (fun ss r ⟨_, h, _⟩ => by rw [h]; rfl) (fun cdv A outer s H E hr => ⟨_, (pss_cons (ps_set (i := 1) sc_discriminant.nd rfl (Or.inl rfl) (pe_call (ok_deg T) (hr.mono (by decide)) rfl T.d_deg.g T.d_deg.F.kp T.d_deg.b .nil pass0 (pa_cons (pv 0) pa_nil)))
      (pss_cons (ps_set (i := 2) sc_discriminant.nd rfl (Or.inl rfl) (pe_op op_fdivZ (pe_call (ok_resultant T) (hr.mono (by decide)) rfl T.d_resultant.g T.d_resultant.F.kp T.d_resultant.b .nil pass0 (pa_cons (pv 0) (pa_cons (pe_call (ok_slope T) (hr.mono (by decide)) rfl T.d_slope.g T.d_slope.F.kp T.d_slope.b .nil pass0 (pa_cons (pv 0) pa_nil)) pa_nil))) (pe_ix ix_list (pv 0) (pe_un un_neg pe_int) (fun _ _ => rfl))))
      (pss_cons (ps_if (pt_cmpR op_eq (pe_op op_modN (pe_op op_fdivZ (pe_op op_mulW (pv 1) (pe_op op_sub (pv 1) pe_int)) pe_int) pe_int) pe_int (nomark _)) (pss_one (ps_ret (pe_un un_neg (pv 2)))) pss_nil)
      (pss_one (ps_ret (pv 2)))))), ?_⟩)
  rintro ss r ⟨f, rfl, hf, l2, lf, bf, rfl⟩
  rw [← MA.disc_is hf l2]
  have hn : f ≠ [] := by intro z; subst z; simp at l2
  obtain ⟨c, ec⟩ := MA.exists_last hn
  have hc := hf c ec
  have hcb := bf c (List.mem_of_getLast? ec)
  have d1 : R_deg [li f] (.i ((f.length - 1 : Nat) : Int)) := ⟨f, rfl, by congr 1; omega⟩
  refine q_set (e_call (ea_1 (e_var rfl)) d1) ?_
  refine q_set (e_fdiv (e_call (ea_cons (e_var rfl) (ea_1 (e_call (ea_1 (e_var rfl)) ⟨f, rfl, hf, by omega, bd_of_le bf (Nat.lt_of_lt_of_le (show 1000 < 2 ^ 10 by decide) (Nat.pow_le_pow_right (by decide) (by decide))), rfl⟩))) ⟨f, Na05.slope f, 20000, rfl, lf, by rw [MA.slope_len hf]; omega, fun d hd => Nat.le_trans (bf d hd) (by decide), fun d hd => Nat.le_trans (slope_le hf lf bf d hd) (by decide), by decide, rfl⟩) (e_ixL (e_var rfl) (e_neg e_int) (atI_ints (atI_lastI ec))) hc (log_of (Nat.lt_of_le_of_lt hcb (Nat.lt_of_lt_of_le (show 1000 < 2 ^ 10 by decide) (Nat.pow_le_pow_right (by decide) (by decide)))) (by decide))) ?_
  have hsm : ∀ x : Nat, x ≤ 100 → ((x : Int)).natAbs < 2 ^ 10 := fun x hx => by rw [Int.natAbs_natCast]; exact Nat.lt_of_le_of_lt hx (by decide)
  have e1 : ((f.length - 1 : Nat) : Int) - 1 = ((f.length - 1 - 1 : Nat) : Int) := by omega
  have e2 : ((((f.length - 1 : Nat) : Int) * (((f.length - 1 : Nat) : Int) - 1)).fdiv 2).fmod 2 = (((f.length - 1) * (f.length - 1 - 1) / 2 % 2 : Nat) : Int) := by
    rw [e1, ← Int.natCast_mul, Int.fdiv_eq_ediv_of_nonneg _ (by decide), Int.fmod_eq_emod_of_nonneg _ (by decide)]; rfl
  have e3 : Na05.resultant f (Na05.slope f) = MA.resultantM f (MA.slopeM f) := by rw [MA.resultant_is, MA.slope_is hf]
  unfold MA.discM
  dsimp only
  rw [MA.getLastD_of ec, ← e3]
  refine q_when (et_test (e_eq (e_is (e_mod (e_fdiv (e_mul (e_var rfl) (e_sub (e_var rfl) e_int) (mulOk (a := 10) (b := 10) (hsm _ (by omega)) (by rw [e1]; exact hsm _ (by omega)) (by decide))) e_int (by decide) (by decide +kernel)) e_int (by decide)) (congrArg Sh.i e2)) e_int)) (fun hq => ?_) (fun hq => ?_)
  · have : (f.length - 1) * (f.length - 1 - 1) / 2 % 2 = 1 := by
      have := of_decide_eq_true hq
      omega
    exact q_ret (e_neg (e_var rfl)) (by rw [if_pos this])
  · have : ¬ (f.length - 1) * (f.length - 1 - 1) / 2 % 2 = 1 := by
      intro z
      have := of_decide_eq_false hq
      rw [z] at this
      exact this rfl
    exact run_ret (e_var rfl) (by rw [if_neg this])
end
end Py
/-! How calls stand in a list, and what the specification answers: told call by call. -/
namespace MN
open Na05 (Call St)
/-- a call as it stands in the list -/
def CallAt (cl : List Int) : Call → Prop
  | .one l => cl = 0 :: (l.length : Int) :: l.map (fun n : Nat => (n : Int)) ∧ l.length ≤ 20 ∧ ∀ x ∈ l, x < 2 ^ 32
  | .two l => cl = 1 :: (l.length : Int) :: l.map (fun n : Nat => (n : Int)) ∧ l.length ≤ 20 ∧ ∀ x ∈ l, x < 2 ^ 32
  | .times => cl = [2]
  | .divide => cl = [3]
  | .common => cl = [4]
  | .resultant => cl = [5]
  | .disc => cl = [6]
  | .apart => cl = [7]
  | .irreducible => cl = [8]
  | .rationals => cl = [9]
  | .squarefree => cl = [10]
  | .circle n => cl = [11, (n : Int)] ∧ n < 2 ^ 32
  | .value a b => cl = [12, (a : Int), (b : Int)] ∧ a < 2 ^ 32 ∧ b < 2 ^ 32
  | .swap => cl = [13]
def play : St → List Call → List (List Int)
  | _, [] => []
  | s, c :: r => (Na05.step s c).2 :: play (Na05.step s c).1 r
theorem all_nat {x : List Int} (h : ∀ z ∈ x, 0 ≤ z ∧ z ≤ 4294967295) : x.all Na05Neutral.nat = true := by
  rw [List.all_eq_true]
  intro z hz
  have := h z hz
  unfold Na05Neutral.nat
  rw [Bool.and_eq_true, decide_eq_true_eq, decide_eq_true_eq]
  omega
theorem within_all {x : List Int} (h : x.all (PyInside.within 0 4294967295) = true) : ∀ z ∈ x, 0 ≤ z ∧ z ≤ 4294967295 := by
  intro z hz
  have := List.all_eq_true.mp h z hz
  unfold PyInside.within at this
  rw [Bool.and_eq_true, decide_eq_true_eq, decide_eq_true_eq] at this
  exact this
theorem back {x : List Int} (h : ∀ z ∈ x, 0 ≤ z ∧ z ≤ 4294967295) : x = (x.map Int.toNat).map (fun n : Nat => (n : Int)) := by
  rw [List.map_map]
  refine ((List.map_id x).symm).trans (List.map_congr_left fun z hz => ?_)
  have := h z hz
  show z = ((z.toNat : Nat) : Int)
  omega
theorem nstep_of {s : St} {x : List Int} {c : Call} (hx : ∀ z ∈ x, 0 ≤ z ∧ z ≤ 4294967295) (h : Na05Neutral.callIn (x.map Int.toNat) = some c) : Na05Neutral.step s x = Na05.step s c := by
  unfold Na05Neutral.step Na05Neutral.callOf
  rw [all_nat hx, if_neg (by decide), h]
theorem plain {p : Int} {r t : List Int} {c : List (List Int)} (hs : PyNa05.shape p = some (0, 0)) (h : PyFlat.call PyNa05.shape (p :: r) = some (c, t)) : c = [[p]] ∧ t = r := by
  unfold PyFlat.call at h
  dsimp only at h
  rw [hs] at h
  simp only [PyFlat.rows, List.drop_zero, List.take_zero] at h
  rw [if_neg (by omega)] at h
  injection h with h
  injection h with h1 h2
  exact ⟨h1.symm, h2.symm⟩
/-- one call of the list -/
theorem call_at {p : Int} {r t : List Int} {c : List (List Int)} (h : PyFlat.call PyNa05.shape (p :: r) = some (c, t)) (hb : PyInside.call PyNa05.bound c = true) :
    ∃ (cl : List Int) (k : Call), p :: r = cl ++ t ∧ CallAt cl k ∧ ∀ s : St, Na05Neutral.step s ((PyNa05.whole c).headD []) = Na05.step s k := by
  have hsh : (p = 0 ∨ p = 1 ∨ p = 2 ∨ p = 3 ∨ p = 4 ∨ p = 5 ∨ p = 6 ∨ p = 7 ∨ p = 8 ∨ p = 9 ∨ p = 10 ∨ p = 11 ∨ p = 12 ∨ p = 13) := by
    apply Decidable.byContradiction
    intro hn
    have e : PyNa05.shape p = none := by
      unfold PyNa05.shape
      simp only [not_or] at hn
      obtain ⟨h0, h1, h2, h3, h4, h5, h6, h7, h8, h9, h10, h11, h12, h13⟩ := hn
      rw [if_neg h0, if_neg h1, if_neg h2, if_neg h3, if_neg h4, if_neg h5, if_neg h6, if_neg h7, if_neg h8, if_neg h9, if_neg h10, if_neg h11, if_neg h12, if_neg h13]
    unfold PyFlat.call at h
    dsimp only at h
    rw [e] at h
    cases h
  have rowed : ∀ (p0 : Int), PyNa05.shape p0 = some (0, 1) → PyNa05.bound p0 = ([], [(0, 4294967295, 0, 20)]) → PyFlat.call PyNa05.shape (p0 :: r) = some (c, t) → PyInside.call PyNa05.bound c = true →
      ∃ x : List Int, c = [[p0], x] ∧ p0 :: r = (p0 :: (x.length : Int) :: x) ++ t ∧ x.length ≤ 20 ∧ ∀ z ∈ x, 0 ≤ z ∧ z ≤ 4294967295 := by
    intro p0 hs hbd h hb
    unfold PyFlat.call at h
    dsimp only at h
    rw [hs] at h
    simp only [PyFlat.rows, List.drop_zero, List.take_zero] at h
    rw [if_neg (by omega)] at h
    cases r with
    | nil => simp [PyFlat.row] at h
    | cons n r =>
      by_cases hc : 0 ≤ n ∧ n.toNat ≤ r.length
      · rw [PyFlat.row, if_pos hc] at h
        injection h with h
        injection h with h1 h2
        subst h1 h2
        have hl : (r.take n.toNat).length = n.toNat := by rw [List.length_take]; omega
        unfold PyInside.call at hb
        simp only [hbd, PyInside.each, PyInside.lists, Bool.and_true, Bool.true_and, Bool.and_eq_true, decide_eq_true_eq] at hb
        refine ⟨r.take n.toNat, rfl, ?_, hb.1.2, within_all hb.2⟩
        rw [hl, List.cons_append, List.cons_append, List.take_append_drop, show ((n.toNat : Nat) : Int) = n by omega]
      · rw [PyFlat.row, if_neg hc] at h
        cases h
  rcases hsh with e | e | e | e | e | e | e | e | e | e | e | e | e | e
  · subst e
    obtain ⟨x, rfl, h2, h3, h4⟩ := rowed 0 rfl rfl h hb
    refine ⟨_, .one (x.map Int.toNat), h2, ⟨?_, by rw [List.length_map]; exact h3, fun y hy => ?_⟩, fun s => nstep_of (x := 0 :: x) (fun z hz => ?_) rfl⟩
    · rw [List.length_map, ← back h4]
    · obtain ⟨z, hz, rfl⟩ := List.mem_map.mp hy
      have := h4 z hz
      omega
    · rcases List.mem_cons.mp hz with e | e
      · omega
      · exact h4 z e
  · subst e
    obtain ⟨x, rfl, h2, h3, h4⟩ := rowed 1 rfl rfl h hb
    refine ⟨_, .two (x.map Int.toNat), h2, ⟨?_, by rw [List.length_map]; exact h3, fun y hy => ?_⟩, fun s => nstep_of (x := 1 :: x) (fun z hz => ?_) rfl⟩
    · rw [List.length_map, ← back h4]
    · obtain ⟨z, hz, rfl⟩ := List.mem_map.mp hy
      have := h4 z hz
      omega
    · rcases List.mem_cons.mp hz with e | e
      · omega
      · exact h4 z e
  · subst e; obtain ⟨rfl, rfl⟩ := plain rfl h
    exact ⟨[2], .times, rfl, rfl, fun s => nstep_of (x := [2]) (by simp) rfl⟩
  · subst e; obtain ⟨rfl, rfl⟩ := plain rfl h
    exact ⟨[3], .divide, rfl, rfl, fun s => nstep_of (x := [3]) (by simp) rfl⟩
  · subst e; obtain ⟨rfl, rfl⟩ := plain rfl h
    exact ⟨[4], .common, rfl, rfl, fun s => nstep_of (x := [4]) (by simp) rfl⟩
  · subst e; obtain ⟨rfl, rfl⟩ := plain rfl h
    exact ⟨[5], .resultant, rfl, rfl, fun s => nstep_of (x := [5]) (by simp) rfl⟩
  · subst e; obtain ⟨rfl, rfl⟩ := plain rfl h
    exact ⟨[6], .disc, rfl, rfl, fun s => nstep_of (x := [6]) (by simp) rfl⟩
  · subst e; obtain ⟨rfl, rfl⟩ := plain rfl h
    exact ⟨[7], .apart, rfl, rfl, fun s => nstep_of (x := [7]) (by simp) rfl⟩
  · subst e; obtain ⟨rfl, rfl⟩ := plain rfl h
    exact ⟨[8], .irreducible, rfl, rfl, fun s => nstep_of (x := [8]) (by simp) rfl⟩
  · subst e; obtain ⟨rfl, rfl⟩ := plain rfl h
    exact ⟨[9], .rationals, rfl, rfl, fun s => nstep_of (x := [9]) (by simp) rfl⟩
  · subst e; obtain ⟨rfl, rfl⟩ := plain rfl h
    exact ⟨[10], .squarefree, rfl, rfl, fun s => nstep_of (x := [10]) (by simp) rfl⟩
  · subst e
    unfold PyFlat.call at h
    dsimp only at h
    have hs : PyNa05.shape 11 = some (1, 0) := rfl
    rw [hs] at h
    dsimp only at h
    cases r with
    | nil => simp at h
    | cons n r =>
      rw [if_neg (by simp)] at h
      simp only [PyFlat.rows, List.drop_succ_cons, List.drop_zero, List.take_succ_cons, List.take_zero] at h
      injection h with h
      injection h with h1 h2
      subst h1 h2
      have hb : (PyInside.within 0 4294967295 n && true) && true = true := hb
      simp only [PyInside.within, Bool.and_true, Bool.and_eq_true, decide_eq_true_eq] at hb
      refine ⟨[11, n], .circle n.toNat, rfl, ⟨by rw [show ((n.toNat : Nat) : Int) = n by omega], by omega⟩, fun s => nstep_of (x := [11, n]) (fun z hz => ?_) rfl⟩
      simp only [List.mem_cons, List.not_mem_nil, or_false] at hz
      omega
  · subst e
    unfold PyFlat.call at h
    dsimp only at h
    have hs : PyNa05.shape 12 = some (2, 0) := rfl
    rw [hs] at h
    dsimp only at h
    cases r with
    | nil => simp at h
    | cons n r =>
      cases r with
      | nil => simp at h
      | cons m r =>
        rw [if_neg (by simp)] at h
        simp only [PyFlat.rows, List.drop_succ_cons, List.drop_zero, List.take_succ_cons, List.take_zero] at h
        injection h with h
        injection h with h1 h2
        subst h1 h2
        have hb : (PyInside.within 0 4294967295 n && (PyInside.within 0 4294967295 m && true)) && true = true := hb
        simp only [PyInside.within, Bool.and_true, Bool.and_eq_true, decide_eq_true_eq] at hb
        refine ⟨[12, n, m], .value n.toNat m.toNat, rfl, ⟨by rw [show ((n.toNat : Nat) : Int) = n by omega, show ((m.toNat : Nat) : Int) = m by omega], by omega, by omega⟩, fun s => nstep_of (x := [12, n, m]) (fun z hz => ?_) rfl⟩
        simp only [List.mem_cons, List.not_mem_nil, or_false] at hz
        omega
  · subst e; obtain ⟨rfl, rfl⟩ := plain rfl h
    exact ⟨[13], .swap, rfl, rfl, fun s => nstep_of (x := [13]) (by simp) rfl⟩
theorem calls_at : ∀ (f : Nat) (l : List Int) (raw : List (List (List Int))), PyFlat.calls PyNa05.shape f l = some raw → PyInside.calls PyNa05.bound raw = true →
    ∃ cs : List (List Int × Call), l = (cs.map (·.1)).flatten ∧ (∀ x ∈ cs, CallAt x.1 x.2) ∧ cs.length = raw.length ∧
      ∀ s : St, PyFlat.played (fun s c => Na05Neutral.step s (c.headD [])) s (raw.map PyNa05.whole) = play s (cs.map (·.2))
  | f, [], raw, h, _ => by
    unfold PyFlat.calls at h
    have e : [] = raw := Option.some.inj h
    subst e
    exact ⟨[], rfl, fun x hx => (by cases hx), rfl, fun s => rfl⟩
  | 0, p :: r, raw, h, _ => by cases h
  | f + 1, p :: r, raw, h, hb => by
    unfold PyFlat.calls at h
    cases e1 : PyFlat.call PyNa05.shape (p :: r) with
    | none => rw [e1] at h; cases h
    | some ct =>
      obtain ⟨c, t⟩ := ct
      rw [e1] at h
      dsimp only at h
      cases e2 : PyFlat.calls PyNa05.shape f t with
      | none => rw [e2] at h; cases h
      | some rest =>
        rw [e2] at h
        have e3 : c :: rest = raw := Option.some.inj h
        subst e3
        unfold PyInside.calls at hb
        rw [List.all_cons, Bool.and_eq_true] at hb
        obtain ⟨cl, k, g1, g2, g3⟩ := call_at e1 hb.1
        obtain ⟨cs, i1, i2, i3, i4⟩ := calls_at f t rest e2 hb.2
        refine ⟨(cl, k) :: cs, ?_, fun x hx => ?_, by rw [List.length_cons, List.length_cons, i3], fun s => ?_⟩
        · rw [g1, i1]; rfl
        · rcases List.mem_cons.mp hx with e | e
          · rw [e]; exact g2
          · exact i2 x e
        · rw [List.map_cons, List.map_cons, PyFlat.played, play, g3, i4]
/-- the list handed in, call by call, and what is due -/
theorem parse {l : List Int} (h : PyNa05.answers_asked l = true) : ∃ cs : List (List Int × Call), l = (cs.map (·.1)).flatten ∧ (∀ x ∈ cs, CallAt x.1 x.2) ∧ cs.length ≤ 30 ∧ PyNa05.answers l = PyFlat.told (play Na05.init (cs.map (·.2))) := by
  unfold PyNa05.answers_asked at h
  cases e : PyFlat.calls PyNa05.shape l.length l with
  | none => rw [e] at h; cases h
  | some raw =>
    rw [e] at h
    simp only [Bool.and_eq_true] at h
    obtain ⟨⟨⟨⟨_, h2⟩, h3⟩, _⟩, _⟩ := h
    obtain ⟨cs, i1, i2, i3, i4⟩ := calls_at _ l raw e h3
    have h2 : raw.length ≤ 30 := of_decide_eq_true h2
    refine ⟨cs, i1, i2, by omega, ?_⟩
    unfold PyNa05.answers PyNa05.calls
    rw [e]
    dsimp only
    rw [i4]; rfl
end MN
namespace Py
open PySem PySem.Spec PyProof.Rows L2
open MA (Tr Bd pst pdiv)
section
variable {P : Program} {w : World} {K : PySem.W.Frag} {mg : Str → Option Value} {base : Heap} (T : Txt K mg)
/-! ### Line() -/
theorem ok_Line___init__ : FnOk P w K mg base CX0 1 T.f_Line T.fd_Line ["self"] (spInit T.a_Line [0, 1] [1]) := by
  refine T.F_Line.ok sc_Line___init__ (fun vs H Q E h => ?_) (fun cdv A outer s H vs Q E hr h => ?_)
  · obtain ⟨x, dx, rfl, _⟩ := h; rfl
  · obtain ⟨x, dx, rfl, hx, q⟩ := h
    refine ⟨_, (pss_cons (ps_fld (pv 0) (pe_lst (pa_cons pe_int (pa_cons pe_int pa_nil))) rfl)
      (pss_one (ps_fld (pv 0) (pe_lst (pa_cons pe_int pa_nil)) rfl))), ?_⟩
    have c := T.o_Line
    refine ⟨by decide, fun a1 n1 => ?_⟩
    have h1 : a1 ≠ x := fun z => by rw [z, hx] at n1; cases n1
    have hx1 : (upd H a1 (.lst [.int 0, .int 1])) x = some (.ins T.a_Line dx []) := by rw [upd_ne h1.symm]; exact hx
    refine ⟨_, rfl, x, T.a_Line, dx, [], rfl, hx1, c.cl, c.n1, (by show 0 < 1000; decide), ?_⟩
    refine ⟨(by show 1 ≤ sizeLine; decide), fun a2 n2 => ?_⟩
    have h2 : a2 ≠ x := fun z => by rw [z, upd_same] at n2; cases n2
    rw [upd_ne h2] at n2
    have h3 : a2 ≠ a1 := fun z => by rw [z, upd_same] at n2; cases n2
    rw [upd_ne h3] at n2
    refine ⟨_, rfl, x, T.a_Line, dx, putF "first" (.ref a1) [], rfl, (by rw [upd_ne h2.symm]; exact upd_same), c.cl, c.n2, (by show 1 < 1000; decide), ?_⟩
    refine q _ a1 a2 (fun b o hb e => ?_) n1 n2 ?_ ?_ ?_
    · rw [upd_ne hb, upd_ne (ne_of_none e n2), upd_ne hb, upd_ne (ne_of_none e n1)]; exact e
    · rw [upd_ne h1, upd_ne h3.symm, upd_ne h1, upd_same]; rfl
    · rw [upd_ne h2, upd_same]; rfl
    · rw [upd_same]
      have e : putF "second" (.ref a2) (putF "first" (.ref a1) []) = obF (.ref a1) (.ref a2) := by
        show putF "second" (.ref a2) (("first", V.ref a1) :: []) = _
        have ne : ¬ ("first" : Str) = "second" := by decide +kernel
        rw [putF, if_neg ne]; rfl
      rw [e]
/-! ### call_end -/
def R_end (K : PySem.W.Frag) (P0 : Addr) (ss : List Sh) (r : Sh) : Prop := ∃ (ns : List Int) (cl t : List Int) (c : Na05.Call) (place : Nat), ss = [sq K P0 ns, .i (place : Int)] ∧ ns.drop place = cl ++ t ∧ MN.CallAt cl c ∧ r = .i ((place + cl.length : Nat) : Int)
theorem at_drop {ns cl t : List Int} {place j : Nat} (h : ns.drop place = cl ++ t) {x : Int} (hx : cl[j]? = some x) : atI ns ((place + j : Nat) : Int) = some x := by
  refine atI_nat ?_
  rw [← List.getElem?_drop, h, List.getElem?_append, if_pos (List.getElem?_eq_some_iff.mp hx).1, hx]
theorem callAt_form {cl : List Int} {c : Na05.Call} (h : MN.CallAt cl c) : ∃ x0, cl[0]? = some x0 ∧ (((x0 = 0 ∨ x0 = 1) ∧ ∃ L : Nat, cl[1]? = some (L : Int) ∧ cl.length = 2 + L) ∨ (x0 = 11 ∧ cl.length = 2) ∨ (x0 = 12 ∧ cl.length = 3) ∨ ((x0 ≠ 0 ∧ x0 ≠ 1 ∧ x0 ≠ 11 ∧ x0 ≠ 12) ∧ cl.length = 1)) := by
  cases c <;> simp only [MN.CallAt] at h
  case one l => obtain ⟨rfl, _⟩ := h; exact ⟨0, rfl, Or.inl ⟨Or.inl rfl, l.length, rfl, by simp; omega⟩⟩
  case two l => obtain ⟨rfl, _⟩ := h; exact ⟨1, rfl, Or.inl ⟨Or.inr rfl, l.length, rfl, by simp; omega⟩⟩
  case circle n => obtain ⟨rfl, _⟩ := h; exact ⟨11, rfl, Or.inr (Or.inl ⟨rfl, rfl⟩)⟩
  case value a b => obtain ⟨rfl, _⟩ := h; exact ⟨12, rfl, Or.inr (Or.inr (Or.inl ⟨rfl, rfl⟩))⟩
  all_goals subst h; exact ⟨_, rfl, Or.inr (Or.inr (Or.inr ⟨by decide, rfl⟩))⟩
theorem ok_call_end : FnOk P w K mg base CX0 1 T.a_call_end T.fd_call_end ["calls", "place"] (spP (R_end K T.cl.2)) := by
  refine fn_pure T.d_call_end.F sc_call_end (fun ss r ⟨_, _, _, _, _, h, _⟩ => by rw [h]; rfl) (fun cdv A outer s H E hr => ⟨_, (pss_cons (ps_if (PW.pt (pw_or (pt_cmpR op_eq (pe_ix ix_list (pv 0) (pv 1) (fun _ _ => rfl)) (pe_glob (v := .int (0)) rfl T.c_CALL_ONE ⟨_, rfl⟩) (nomark _)) (pw_or1 (pt_cmpR op_eq (pe_ix ix_list (pv 0) (pv 1) (fun _ _ => rfl)) (pe_glob (v := .int (1)) rfl T.c_CALL_TWO ⟨_, rfl⟩) (nomark _))))) (pss_one (ps_ret (pe_op op_add (pe_op op_add (pv 1) pe_int) (pe_ix ix_list (pv 0) (pe_op op_add (pv 1) pe_int) (fun _ _ => rfl))))) pss_nil)
      (pss_cons (ps_if (pt_cmpR op_eq (pe_ix ix_list (pv 0) (pv 1) (fun _ _ => rfl)) (pe_glob (v := .int (11)) rfl T.c_CALL_CIRCLE ⟨_, rfl⟩) (nomark _)) (pss_one (ps_ret (pe_op op_add (pv 1) pe_int))) pss_nil)
      (pss_cons (ps_if (pt_cmpR op_eq (pe_ix ix_list (pv 0) (pv 1) (fun _ _ => rfl)) (pe_glob (v := .int (12)) rfl T.c_CALL_VALUE ⟨_, rfl⟩) (nomark _)) (pss_one (ps_ret (pe_op op_add (pv 1) pe_int))) pss_nil)
      (pss_one (ps_ret (pe_op op_add (pv 1) pe_int)))))), ?_⟩)
  rintro ss r ⟨ns, cl, t, c, place, rfl, hd, hc, rfl⟩
  obtain ⟨x0, e0, form⟩ := callAt_form hc
  have h0 : atI ns (place : Int) = some x0 := at_drop (j := 0) hd e0
  refine q_when (et_or (et_test (e_eq (e_ixZ (e_var rfl) (e_var rfl) h0) e_int)) (fun _ => et_test (e_eq (e_ixZ (e_var rfl) (e_var rfl) h0) e_int))) (fun h => ?_) (fun h => ?_)
  · rw [Bool.or_eq_true, decide_eq_true_eq, decide_eq_true_eq] at h
    rcases form with ⟨_, L, e1, hl⟩ | z | z | z
    · have h1 : atI ns ((place : Int) + 1) = some (L : Int) := at_drop (j := 1) hd e1
      refine q_ret (e_add (e_add (e_var rfl) e_int) (e_ixZ (e_var rfl) (e_add (e_var rfl) e_int) h1)) ?_
      congr 1
      omega
    · omega
    · omega
    · omega
  · rw [Bool.or_eq_false_iff, decide_eq_false_iff_not, decide_eq_false_iff_not] at h
    refine q_when (et_test (e_eq (e_ixZ (e_var rfl) (e_var rfl) h0) e_int)) (fun h2 => ?_) (fun h2 => ?_)
    · have h2 := of_decide_eq_true h2
      refine q_ret (e_add (e_var rfl) e_int) ?_
      congr 1
      rcases form with z | z | z | z <;> omega
    · have h2 := of_decide_eq_false h2
      refine q_when (et_test (e_eq (e_ixZ (e_var rfl) (e_var rfl) h0) e_int)) (fun h3 => ?_) (fun h3 => ?_)
      · have h3 := of_decide_eq_true h3
        refine q_ret (e_add (e_var rfl) e_int) ?_
        congr 1
        rcases form with z | z | z | z <;> omega
      · have h3 := of_decide_eq_false h3
        refine run_ret (e_add (e_var rfl) e_int) ?_
        congr 1
        rcases form with z | z | z | z <;> omega
/-! ### answers -/
def Good (p : List Int) : Prop := (Tr p ∧ p.length ≤ 6 ∧ ∀ c ∈ p, c.natAbs ≤ 30) ∨ ∃ n, 1 ≤ n ∧ n ≤ 30 ∧ p = Na05.circle (n + 1) n
def GoodS (s : Na05.St) : Prop := Good s.one ∧ Good s.two
def R_call (p q : List Int) (ss : List Sh) (p' q' : List Int) (r : Sh) : Prop := ∃ (cl : List Int) (c : Na05.Call) (ans : List Int), ss = [li cl] ∧ MN.CallAt cl c ∧ GoodS ⟨p, q⟩ ∧ Na05.step ⟨p, q⟩ c = (⟨p', q'⟩, ans) ∧ r = li ans
theorem polyOf_good {l : List Nat} {f : List Int} (h : Na05.polyOf l = some f) : Good f := by
  unfold Na05.polyOf at h
  split at h
  · cases h
  · rename_i hc
    have e := (Option.some.inj h).symm
    subst e
    have h1 : ¬ 6 < l.length := fun z => hc (Or.inl z)
    have h2 : l.all (fun z => decide (z ≤ 60)) = true := by
      cases e : l.all (fun z => decide (z ≤ 60)) with
      | true => rfl
      | false => exact absurd (Or.inr e) hc
    refine Or.inl ⟨MA.trimG_tr _, Nat.le_trans (MA.trimG_len _) (by rw [List.length_map]; omega), fun c hc => ?_⟩
    obtain ⟨z, hz, rfl⟩ := List.mem_map.mp (MA.mem_trim hc)
    have := of_decide_eq_true (List.all_eq_true.mp h2 z hz)
    unfold Na05.zahl
    split <;> omega
theorem good_step {s : Na05.St} (h : GoodS s) (c : Na05.Call) : GoodS (Na05.step s c).1 := by
  cases c with
  | one l =>
    unfold Na05.step
    dsimp only
    cases e : Na05.polyOf l with
    | none => exact h
    | some f => exact ⟨polyOf_good e, h.2⟩
  | two l =>
    unfold Na05.step
    dsimp only
    cases e : Na05.polyOf l with
    | none => exact h
    | some f => exact ⟨h.1, polyOf_good e⟩
  | circle n =>
    unfold Na05.step
    dsimp only
    split
    · exact h
    · exact ⟨Or.inr ⟨n, by omega, by omega, rfl⟩, h.2⟩
  | swap => exact ⟨h.2, h.1⟩
  | times => exact h
  | divide => exact h
  | common => exact h
  | resultant => exact h
  | disc => exact h
  | apart => exact h
  | irreducible => exact h
  | rationals => exact h
  | squarefree => exact h
  | value a b => exact h
theorem good_init : GoodS Na05.init := ⟨Or.inl ⟨fun c hc => by have e : (1 : Int) = c := Option.some.inj hc; subst e; decide, by decide, by decide⟩, Or.inl ⟨fun c hc => by have e : (1 : Int) = c := Option.some.inj hc; subst e; decide, by decide, by decide⟩⟩
theorem callAt_pos {cl : List Int} {c : Na05.Call} (h : MN.CallAt cl c) : 0 < cl.length := by
  cases c <;> simp only [MN.CallAt] at h
  case one => rw [h.1]; simp
  case two => rw [h.1]; simp
  case circle => rw [h.1]; simp
  case value => rw [h.1]; simp
  all_goals rw [h]; simp
theorem cut_mid {A : Type} (xs : List A) {a b : Nat} (h : a ≤ b) (hb : b ≤ xs.length) : cutS xs (some (a : Int)) (some (b : Int)) = (xs.drop a).take (b - a) := by
  unfold cutS
  rw [HT.sIx_nat, HT.sIx_nat, Nat.min_eq_left hb, Nat.min_eq_left (by omega)]
def R_ans (K : PySem.W.Frag) (P0 : Addr) (ss : List Sh) (r : Sh) : Prop := ∃ ns, ss = [sq K P0 ns] ∧ PyNa05.answers_asked ns = true ∧ r = li (PyNa05.answers ns)
theorem asked_len {ns : List Int} (h : PyNa05.answers_asked ns = true) : (PyNa05.answers ns).length ≤ 10000000 := by
  unfold PyNa05.answers_asked at h
  cases e : PyFlat.calls PyNa05.shape ns.length ns with
  | none => rw [e] at h; cases h
  | some raw =>
    rw [e] at h
    simp only [Bool.and_eq_true] at h
    exact of_decide_eq_true h.2
theorem take_flat {cs : List (List Int × Na05.Call)} {i : Nat} {x : List Int × Na05.Call} (h : cs[i]? = some x) : ((cs.take (i + 1)).map (·.1)).flatten = ((cs.take i).map (·.1)).flatten ++ x.1 := by
  rw [List.take_add_one, h, List.map_append, List.flatten_append]
  simp
theorem drop_flat {cs : List (List Int × Na05.Call)} {i : Nat} : (cs.map (·.1)).flatten.drop ((cs.take i).map (·.1)).flatten.length = ((cs.drop i).map (·.1)).flatten := by
  have e : (cs.map (·.1)).flatten = ((cs.take i).map (·.1)).flatten ++ ((cs.drop i).map (·.1)).flatten := by
    rw [← List.flatten_append, ← List.map_append, List.take_append_drop]
  rw [e, List.drop_left]
theorem ok_answers (ok_answer_call' : FnOk P w K mg base CX0 20 T.a_answer_call T.fd_answer_call ["line", "call"] (spLn T.cl R_call)) : FnOk P w K mg base CX0 22 T.a_answers T.fd_answers ["calls"] (spP (R_ans K T.cl.2)) := by
  refine fn_pure T.d_answers.F sc_answers (fun ss r ⟨_, h, _⟩ => by rw [h]; rfl) (fun cdv A outer s H E hr => have ok_answer_call := fun (_ : Txt K mg) => ok_answer_call'; ⟨_, (pss_cons (ps_set (i := 1) sc_answers.nd rfl (Or.inl rfl) (pe_make0 T.mk_Line (ok_Line___init__ T) (hr.mono (by decide)) rfl T.g_Line T.b_Line .nil pass0))
      (pss_cons (ps_set (i := 2) sc_answers.nd rfl (Or.inl rfl) (pe_lst pa_nil))
      (pss_cons (ps_set (i := 3) sc_answers.nd rfl (Or.inl rfl) pe_int)
      (pss_cons (ps_while PassesOwn.never (pt_cmpR op_lt (pv 3) (pe_callB call_len_seq (by rfl) T.m_len PySem.boot_len (pa_cons (pv 0) pa_nil)) (nomark _)) (pss_cons (ps_set (i := 4) sc_answers.nd rfl (Or.inl rfl) (pe_call (ok_call_end T) (hr.mono (by decide)) rfl T.d_call_end.g T.d_call_end.F.kp T.d_call_end.b .nil pass0 (pa_cons (pv 0) (pa_cons (pv 3) pa_nil))))
      (pss_cons (ps_set (i := 5) sc_answers.nd rfl (Or.inl rfl) (pe_call (ok_answer_call T) (hr.mono (by decide)) rfl T.d_answer_call.g T.d_answer_call.F.kp T.d_answer_call.b .nil pass0 (pa_cons (pv 1) (pa_cons (pe_slice sl_list (pv 0) (po_some (pv 3)) (po_some (pv 4))) pa_nil))))
      (pss_cons (ps_expr (pe_bm PySem.F.plainAttrs_list PySem.F.slot_list_append PySem.F.type_list_append mt_append (pv 2) (pa_cons (pe_callB call_len_seq (by rfl) T.m_len PySem.boot_len (pa_cons (pv 5) pa_nil)) pa_nil)))
      (pss_cons (ps_expr (pe_bm PySem.F.plainAttrs_list PySem.F.slot_list_extend PySem.F.type_list_extend mt_extend (pv 2) (pa_cons (pv 5) pa_nil)))
      (pss_one (ps_set (i := 3) sc_answers.nd rfl (Or.inl rfl) (pv 4))))))))
      (pss_one (ps_ret (pv 2))))))), ?_⟩)
  rintro ss r ⟨ns, rfl, hask, rfl⟩
  obtain ⟨cs, hns, hcs, h30, hans⟩ := MN.parse hask
  have hlen := asked_len hask
  refine q_make (C := T.cl) (c := 0) rfl fun a => q_own (en_lst ea_nil (by decide)) (q_set e_int ?_)
  refine q_while (fun m s' => ∃ i p q done s4 s5, isOb s5 = false ∧ i + m = cs.length ∧ GoodS ⟨p, q⟩ ∧ done ++ PyFlat.told (MN.play ⟨p, q⟩ ((cs.drop i).map (·.2))) = PyNa05.answers ns ∧
      s' = [.v (sq K T.cl.2 ns), .ob a T.cl p q, .own (done.map Sh.i), .v (.i ((((cs.take i).map (·.1)).flatten.length : Nat) : Int)), s4, s5]) cs.length ⟨0, [0, 1], [1], [], _, .x, rfl, Nat.zero_add _, good_init, by rw [hans]; rfl, rfl⟩ ?_
  rintro m s' ⟨i, p, q, done, s4, s5, hob, him, hg, hdone, rfl⟩
  refine ⟨_, et_test (e_lt (e_var rfl) (e_lenZ (e_var rfl))), fun h => ?_, fun h => ?_⟩
  · have h0 : ((cs.take i).map (·.1)).flatten.length < ns.length := by
      have := of_decide_eq_true h
      omega
    have hi : i < cs.length := by
      apply Decidable.byContradiction
      intro hn
      rw [List.take_of_length_le (by omega), ← hns] at h0
      omega
    obtain ⟨x, hx⟩ : ∃ x, cs[i]? = some x := ⟨cs[i], List.getElem?_eq_getElem hi⟩
    obtain ⟨cl, c⟩ := x
    have hcl := hcs _ (List.mem_of_getElem? hx)
    have hpos := callAt_pos hcl
    have hdrop : cs.drop i = (cl, c) :: cs.drop (i + 1) := by
      rw [List.drop_eq_getElem_cons hi]
      congr 1
      rw [List.getElem?_eq_getElem hi] at hx
      exact Option.some.inj hx
    generalize hpl : ((cs.take i).map (·.1)).flatten.length = place at *
    have hsuf : ns.drop place = cl ++ ((cs.drop (i + 1)).map (·.1)).flatten := by
      rw [hns, ← hpl, drop_flat, hdrop]; rfl
    have hend : place + cl.length ≤ ns.length := by
      have := congrArg List.length hsuf
      rw [List.length_drop, List.length_append] at this
      omega
    have hpl' : ((cs.take (i + 1)).map (·.1)).flatten.length = place + cl.length := by rw [take_flat hx, List.length_append, hpl]
    have hslice : cutS ns (some (place : Int)) (some ((place + cl.length : Nat) : Int)) = cl := by
      rw [cut_mid ns (by omega) hend, hsuf, show place + cl.length - place = cl.length by omega, List.take_left]
    have hstep : ∃ p' q' ans, Na05.step ⟨p, q⟩ c = (⟨p', q'⟩, ans) := ⟨_, _, _, rfl⟩
    obtain ⟨p', q', ans, hst⟩ := hstep
    have hg' : GoodS ⟨p', q'⟩ := by
      have := good_step hg c
      rw [hst] at this
      exact this
    have hdone' : (done ++ (ans.length : Int) :: ans) ++ PyFlat.told (MN.play ⟨p', q'⟩ ((cs.drop (i + 1)).map (·.2))) = PyNa05.answers ns := by
      rw [← hdone, hdrop, List.map_cons, MN.play, hst, List.append_assoc]; rfl
    have hsz : done.length + (ans.length + 1) ≤ 10000000 := by
      have := congrArg List.length hdone'
      rw [List.length_append, List.length_append, List.length_cons] at this
      omega
    refine q_set (e_call (ea_cons (e_var rfl) (ea_1 (e_var rfl))) ⟨ns, cl, _, c, place, rfl, hsuf, hcl, rfl⟩) ?_
    refine q_setLn (i := 1) (p' := p') (q' := q') (r := li ans) (R1 := R_call) rfl (by show (!false && (!false && (!false && (!false && (!isOb s5 && true))))) = true; rw [hob]; rfl) (ea_1 (en_slZ (e_var rfl) (eo_some (e_var rfl)) (eo_some (e_var rfl))).e) ⟨cl, c, ans, by rw [hslice], hcl, hg, hst, rfl⟩ ?_
    refine q_app (i := 2) rfl (e_len (e_var rfl)) (by rw [List.length_map]; omega) ?_
    refine q_ext (i := 2) rfl (e_var rfl).el (by simp only [List.length_append, List.length_map, List.length_cons, List.length_nil]; omega) ?_
    refine run_set (e_var rfl) ⟨m - 1, by omega, i + 1, p', q', done ++ (ans.length : Int) :: ans, .v (.i ((place + cl.length : Nat) : Int)), .v (li ans), rfl, by omega, hg', hdone', ?_⟩
    rw [hpl', List.map_append, List.map_cons]
    simp only [List.length_map, List.append_assoc, List.singleton_append]; rfl
  · have h0 : ¬ ((cs.take i).map (·.1)).flatten.length < ns.length := by
      intro z
      have := of_decide_eq_false h
      omega
    have hi : i = cs.length := by
      apply Decidable.byContradiction
      intro hn
      have hi : i < cs.length := by omega
      have hx : cs[i]? = some cs[i] := List.getElem?_eq_getElem hi
      have hpos := callAt_pos (hcs _ (List.mem_of_getElem? hx))
      have e := congrArg List.length (take_flat hx)
      rw [List.length_append] at e
      have e2 : ns.length = ((cs.take (i + 1)).map (·.1)).flatten.length + ((cs.drop (i + 1)).map (·.1)).flatten.length := by
        rw [hns, ← List.length_append, ← List.flatten_append, ← List.map_append, List.take_append_drop]
      omega
    subst hi
    rw [List.drop_length] at hdone
    have e : done = PyNa05.answers ns := by rw [← hdone]; simp [MN.play, PyFlat.told]
    subst e
    exact run_freeze (i := 2) rfl (run_ret (e_var rfl) rfl)
end
end Py
/-! max(xs, default=d) of a list of whole numbers -/
namespace Py
open PySem PySem.Spec PyProof.Rows L2
section
variable {prog : Program} {w : World} {A : Around} {R : Result → Shared → Prop} {J : Addr} {fp wr : List Addr} {n : Nat} {P : Nat → Value → Prop} {St : Nat → Heap → Prop}
abbrev dk (d : Value) : List (Str × Value) := [(Str.ofString "default", d)]
theorem maxD_loop (W : Walks prog w A.in1 J fp wr n P St) (bt : Nat → Nat → Bool) (hcmp : CmpOf prog w A.in1 .Gt P bt) (S : Addr) (hS0 : S ∉ fp) (d : Value) :
    ∀ (k j : Nat) (s : Shared) (best : Value) (c : Nat), n - (j + 1) = k → j + 1 ≤ n → St (j + 1) s.heap → P (argBest bt j) best →
    s.heap.get? S = some { cls := .type "list", dict := none, data := .seq #[best, best] c, slots := #[] } →
    (∀ v h2 tk2, P (argBest bt (n - 1)) v → (∀ x o, x ∉ wr → x ≠ S → s.heap.get? x = some o → h2.get? x = some o) → R (.ok (.ret v)) { s with heap := h2, toks := tk2 }) →
    codeAny (model prog w) A (.builtin "max.loop" ⟨[.ref J, .none, .ref S], dk d⟩) R s := by
  have hS1 : S ∉ wr := fun z => hS0 (W.sub _ z)
  have nm : (toString "max" ++ toString ".loop" : String) = "max.loop" := by decide
  intro k
  induction k with
  | zero =>
    intro j s best c hk hj hst hb hS hR
    have jn : j + 1 = n := by omega
    refine codeAny_builtin F.entry_max_loop ?_
    rw [Around.under_plainId F.plain_max_loop _]
    show wpAny _ A.in1 (seqItems? (.ref S) >>= _) _ _ s
    refine wpAny_bind (wpAny_seqItems hS rfl ?_)
    show wpAny _ A.in1 (tryCatch (pyNext (.ref J)) _ >>= _) _ _ s
    refine wpAny_bind (wpAny_tryCatch (W.done s _ _ (jn ▸ hst) fun h2 tk2 kp => ?_))
    have hS2 := kp S _ hS1 hS
    show wpAny _ A.in1 (updateSeq S (fun _ => #[]) >>= _) _ _ _
    refine wpAny_bind ?_
    refine wpAny_updateSeq hS2 rfl (wpAny_bind (wpAny_letGo (wpAny_pure ?_)))
    exact hR best _ tk2 (by rw [← jn]; exact hb) fun x o hxw hxS ex => (Heap.get?_update_other _ _ (Ne.symm hxS)).trans (kp x o hxw ex)
  | succ k ih =>
    intro j s best c hk hj hst hb hS hR
    have jlt : j + 1 < n := by omega
    refine codeAny_builtin F.entry_max_loop ?_
    rw [Around.under_plainId F.plain_max_loop _]
    show wpAny _ A.in1 (seqItems? (.ref S) >>= _) _ _ s
    refine wpAny_bind (wpAny_seqItems hS rfl ?_)
    show wpAny _ A.in1 (tryCatch (pyNext (.ref J)) _ >>= _) _ _ s
    refine wpAny_bind (wpAny_tryCatch (W.item (j + 1) s _ _ jlt hst fun v h2 tk2 hv hst2 kp => ?_))
    have hS2 := kp S _ hS1 hS
    show wpAny _ A.in1 (tryCatch (holding [v, v] (richCompare .Gt v best >>= _)) _ >>= _) _ _ _
    refine wpAny_bind (wpAny_tryCatch (wpAny_holding (wpAny_bind (hcmp (j + 1) (argBest bt j) v best _ _ _ hv hb ?_))))
    refine wpAny_bind (wpAny_holding (wpAny_truthy_bool ?_))
    refine wpAny_bind (wpAny_letGo (wpAny_pure ?_))
    cases hq : bt (j + 1) (argBest bt j) with
    | true =>
      simp only [if_true]
      refine wpAny_bind ?_
      refine wpAny_updateSeq hS2 rfl (wpAny_bind (wpAny_letGo ?_))
      rw [nm]
      refine wpAny_pure ⟨plainId_quiet F.plain_max_loop _, ih (j + 1) _ v _ (by omega) jlt (W.frame _ _ _ hst2 fun x hx o ex => ?_) (by simp only [argBest, hq, if_true]; exact hv) (Heap.get?_update_self _ hS2 rfl) fun v2 h3 tk3 hv3 kp3 => ?_⟩
      · exact (Heap.get?_update_other _ _ (fun z : S = x => hS0 (by rw [z]; exact hx))).trans ex
      · exact hR v2 h3 tk3 hv3 fun x o hxw hxS ex => kp3 x o hxw hxS ((Heap.get?_update_other _ _ (Ne.symm hxS)).trans (kp x o hxw ex))
    | false =>
      simp only [Bool.false_eq_true, if_false]
      refine wpAny_bind (wpAny_letGo ?_)
      rw [nm]
      refine wpAny_pure ⟨plainId_quiet F.plain_max_loop _, ih (j + 1) _ best c (by omega) jlt hst2 (by simp only [argBest, hq, Bool.false_eq_true, if_false]; exact hb) hS2 fun v2 h3 tk3 hv3 kp3 => ?_⟩
      exact hR v2 h3 tk3 hv3 fun x o hxw hxS ex => kp3 x o hxw hxS (kp x o hxw ex)
/-- the first turn: the default, where there is no item -/
theorem maxD_first (W : Walks prog w A.in1 J fp wr n P St) (bt : Nat → Nat → Bool) (hcmp : CmpOf prog w A.in1 .Gt P bt) (S : Addr) (hS0 : S ∉ fp) (d : Value) {s : Shared} {c : Nat} (hst : St 0 s.heap)
    (hS : s.heap.get? S = some { cls := .type "list", dict := none, data := .seq #[] c, slots := #[] })
    (hR0 : n = 0 → ∀ h2 tk2, (∀ x o, x ∉ wr → x ≠ S → s.heap.get? x = some o → h2.get? x = some o) → R (.ok (.ret d)) { s with heap := h2, toks := tk2 })
    (hR : 0 < n → ∀ v h2 tk2, P (argBest bt (n - 1)) v → (∀ x o, x ∉ wr → x ≠ S → s.heap.get? x = some o → h2.get? x = some o) → R (.ok (.ret v)) { s with heap := h2, toks := tk2 }) :
    codeAny (model prog w) A (.builtin "max.loop" ⟨[.ref J, .none, .ref S], dk d⟩) R s := by
  have hS1 : S ∉ wr := fun z => hS0 (W.sub _ z)
  have nm : (toString "max" ++ toString ".loop" : String) = "max.loop" := by decide
  refine codeAny_builtin F.entry_max_loop ?_
  rw [Around.under_plainId F.plain_max_loop _]
  show wpAny _ A.in1 (seqItems? (.ref S) >>= _) _ _ s
  refine wpAny_bind (wpAny_seqItems hS rfl ?_)
  show wpAny _ A.in1 (tryCatch (pyNext (.ref J)) _ >>= _) _ _ s
  by_cases hn : 0 < n
  · refine wpAny_bind (wpAny_tryCatch (W.item 0 s _ _ hn hst fun v h2 tk2 hv hst2 kp => ?_))
    have hS2 := kp S _ hS1 hS
    show wpAny _ A.in1 (updateSeq S (fun _ => #[v, v]) >>= _) _ _ _
    refine wpAny_bind ?_
    refine wpAny_updateSeq hS2 rfl ?_
    rw [nm]
    refine wpAny_pure ⟨plainId_quiet F.plain_max_loop _, maxD_loop W bt hcmp S hS0 d _ 0 _ v _ rfl hn (W.frame _ _ _ hst2 fun x hx o ex => ?_) hv (Heap.get?_update_self _ hS2 rfl) fun v2 h3 tk3 hv3 kp3 => ?_⟩
    · exact (Heap.get?_update_other _ _ (fun z : S = x => hS0 (by rw [z]; exact hx))).trans ex
    · exact hR hn v2 h3 tk3 hv3 fun x o hxw hxS ex => kp3 x o hxw hxS ((Heap.get?_update_other _ _ (Ne.symm hxS)).trans (kp x o hxw ex))
  · have n0 : n = 0 := by omega
    refine wpAny_bind (wpAny_tryCatch (W.done s _ _ (n0 ▸ hst) fun h2 tk2 kp => ?_))
    show wpAny _ A.in1 (rule _ >>= _) _ _ _
    refine wpAny_bind (wpAny_rule (wpAny_pure ?_))
    exact hR0 n0 h2 tk2 fun x o hxw _ ex => kp x o hxw ex
end
section
variable {prog : Program} {w : World} {A : Around} {E : Value → Shared → Prop} {s : Shared}
theorem args_maxD (a v : Value) : argsOk "max" ⟨[a], dk v⟩ := by unfold argsOk; kernel_rfl
theorem call_maxD {l : Addr} {xs : Array (Int × Tok)} {d : Value} {Q : Value → Shared → Prop} (ha : A.handled = none) (hl : s.heap.IsList l (intItems xs))
    (h0 : xs.size = 0 → ∀ h2 tk2, (∀ x o, s.heap.get? x = some o → h2.get? x = some o) → Q d { s with heap := h2, toks := tk2 })
    (h1 : 0 < xs.size → ∀ v h2 tk2, (intItems xs)[argBest (fun i j => decide (numAt xs i > numAt xs j)) (xs.size - 1)]? = some v → (∀ x o, s.heap.get? x = some o → h2.get? x = some o) → Q v { s with heap := h2, toks := tk2 }) :
    wpAny (model prog w) A (call (.builtin "max") [.ref l] (dk d)) Q E s := by
  have nm : (toString "max" ++ toString ".loop" : String) = "max.loop" := by decide
  refine kmk_tree PySem.F.kind_max PySem.F.plain_max PySem.F.entry_max (args_maxD _ _) ?_
  show wpAny _ A.in1 (Builtin.Builtins.bindParams "max" ["key", "default"] 0 ⟨[], dk d⟩ >>= _) _ _ s
  refine wpAny_bind (wpAny_of_eq (show Builtin.Builtins.bindParams "max" ["key", "default"] 0 ⟨[], dk d⟩ = pure [none, some d] from rfl) ?_)
  refine wpAny_bind (wpAny_pure ?_)
  refine wpAny_bind (iter_intList hl fun s2 e2 st2 hfp2 hlI => ?_)
  subst e2
  refine wpAny_bind (wpAny_newObj_type ?_)
  have out : (s.heap.push { cls := .type "list_iterator", data := .fields #[.ref l, .int 0 0] }).objs.size ∉ [s.heap.objs.size, l] := fun hm => Nat.lt_irrefl _ (hfp2 _ hm)
  have WW := Walks.list (prog := prog) (w := w) (A := A.in1) ha s.heap.objs.size l hlI (intItems xs)
  have kept : ∀ {h2 : Heap}, (∀ x o, x ∉ [s.heap.objs.size] → x ≠ (s.heap.push { cls := .type "list_iterator", data := .fields #[.ref l, .int 0 0] }).objs.size → ((s.heap.push { cls := .type "list_iterator", data := .fields #[.ref l, .int 0 0] }).push { cls := .type "list", data := .seq #[] }).get? x = some o → h2.get? x = some o) → ∀ x o, s.heap.get? x = some o → h2.get? x = some o := fun {h2} kp x o ex => by
    have hx := Heap.lt_size ex
    refine kp x o (fun z => ?_) (fun z => ?_) (Heap.get?_push_of_some _ (Heap.get?_push_of_some _ ex))
    · rw [List.mem_singleton.mp z] at hx; exact Nat.lt_irrefl _ hx
    · rw [z, Heap.size_push] at hx; exact absurd hx (Nat.not_lt.mpr (Nat.le_succ _))
  rw [nm]
  refine wpAny_pure ⟨plainId_quiet F.plain_max_loop _, maxD_first WW _ (CmpOf.ints_gt (numAt xs) (fun _ _ => intItems_at)) _ out d (WW.frame _ _ _ st2 fun b _ o ex => Heap.get?_push_of_some _ ex) (Heap.get?_push_size _ rfl) (fun hz h2 tk2 kp => h0 (by simpa [intItems] using hz) h2 tk2 (kept kp)) (fun hz v h2 tk2 hv kp => h1 (by simpa [intItems] using hz) v h2 tk2 (by simpa [intItems] using hv) (kept kp))⟩
end
section
variable {X : Cx}
def rMaxD (K : PySem.W.Frag) : List V → List V → Hp → VK → Prop := fun vs zs H Q => ∃ (a : Addr) (ns : List Int) (d : Int), vs = [V.ref a] ∧ zs = [.int d] ∧ SqL K H a (ns.map V.int) ∧ (ns = [] → Q (.int d) H) ∧ (ns ≠ [] → ∀ m, m ∈ ns → (∀ y, y ∈ ns → y ≤ m) → Q (.int m) H)
theorem cr_maxDflt (hc : X.calm = true) : CallRK X (.builtin "max") [Str.ofString "default"] (rMaxD X.K) := by
  intro pins s σ H vs zs us ws Q I r1 r2 h
  obtain ⟨a, ns, d, rfl, rfl, hs, q0, q1⟩ := h
  obtain ⟨its, rv, hl, _⟩ := I.list hs
  rw [Vals.ref1 r1]
  obtain ⟨u, rfl, td, rfl⟩ := vals1 r2
  obtain ⟨xs, e⟩ := rv.ints.allInts.items
  have hn : numsOf (intItems xs).toList = ns := by rw [← e]; exact rv.ints.numsOf
  rw [nums_intItems] at hn
  have hl2 := hl.isList
  rw [e] at hl2
  refine call_maxD (xs := xs) (I.ok.hd hc) hl2 (fun hz h2 tk2 kp => ?_) (fun hz v h2 tk2 hv kp => ?_)
  · have e0 : ns = [] := by
      rw [← hn, List.map_eq_nil_iff]
      exact List.length_eq_zero_iff.mp (by rw [Array.length_toList]; exact hz)
    exact ⟨.int d, H, I.kept kp, ⟨_, rfl⟩, q0 e0⟩
  · obtain ⟨t, rfl⟩ := intItems_at hv
    obtain ⟨g1, g2⟩ := argBest_gt (numAt xs) (xs.size - 1)
    have hne : ns ≠ [] := fun z => by
      rw [← hn, List.map_eq_nil_iff] at z
      have := congrArg List.length z
      rw [Array.length_toList] at this
      exact Nat.ne_of_gt hz this
    refine ⟨.int _, H, I.kept kp, ⟨_, rfl⟩, q1 hne _ ?_ fun y hy => ?_⟩
    · rw [← hn, numAt_eq]
      exact PySem.getD_mem (by rw [List.length_map, Array.length_toList]; exact Nat.lt_of_le_of_lt g1 (by omega))
    · rw [← hn] at hy
      obtain ⟨j, hj, rfl⟩ := mem_getD hy
      rw [List.length_map, Array.length_toList] at hj
      rw [← numAt_eq]
      exact g2 j (by omega)
end
section
variable {K : PySem.W.Frag} {sls : List Sl} {te : TE}
/-- max(l, default=d) -/
theorem e_maxD {ns : List Int} {d m : Int} {td : TE} (h : E te sls (li ns)) (hd : E td sls (.i d)) (h0 : ns = [] → m = d) (h1 : ns ≠ [] → m ∈ ns ∧ ∀ y ∈ ns, y ≤ m) : E (tCKw (rMaxD K) (tCons te tNil) (tCons td tNil)) sls (.i m) := fun F0 H0 F H σ k Q q =>
  h F0 H0 F H σ k _ fun v F1 H1 g1 hv => hd F0 H0 F1 H1 σ (k.grow g1) _ fun z F2 H2 g2 hz => by
    obtain ⟨a, vs, rfl, e1, e2⟩ := hv
    obtain rfl : z = .int d := hz
    rw [(isVs_ints _ _).mp e2] at e1
    refine ⟨a, ns, d, rfl, rfl, Evl.sq_of (g2.hh _ _ (g1.fh _ _ e1)), fun en => ?_, fun en m' hm hy => ?_⟩
    · rw [← h0 en]; exact q _ F2 H2 (g1.trans g2) rfl
    · obtain ⟨a1, a2⟩ := h1 en
      have : m' = m := Int.le_antisymm (a2 m' hm) (hy m a1)
      rw [this]
      exact q _ F2 H2 (g1.trans g2) rfl
end
end Py
/-! The circle's, 1 to 30, as a table; sizes on Euclid's way for what may stand there. -/
namespace MA
open Na05 (toQ content sign whole cleared times div euclid common by_ circle round_)
def tabC : List (List Int) := [[],
  [-1, 1],
  [1, 1],
  [1, 1, 1],
  [1, 0, 1],
  [1, 1, 1, 1, 1],
  [1, -1, 1],
  [1, 1, 1, 1, 1, 1, 1],
  [1, 0, 0, 0, 1],
  [1, 0, 0, 1, 0, 0, 1],
  [1, -1, 1, -1, 1],
  [1, 1, 1, 1, 1, 1, 1, 1, 1, 1, 1],
  [1, 0, -1, 0, 1],
  [1, 1, 1, 1, 1, 1, 1, 1, 1, 1, 1, 1, 1],
  [1, -1, 1, -1, 1, -1, 1],
  [1, -1, 0, 1, -1, 1, 0, -1, 1],
  [1, 0, 0, 0, 0, 0, 0, 0, 1],
  [1, 1, 1, 1, 1, 1, 1, 1, 1, 1, 1, 1, 1, 1, 1, 1, 1],
  [1, 0, 0, -1, 0, 0, 1],
  [1, 1, 1, 1, 1, 1, 1, 1, 1, 1, 1, 1, 1, 1, 1, 1, 1, 1, 1],
  [1, 0, -1, 0, 1, 0, -1, 0, 1],
  [1, -1, 0, 1, -1, 0, 1, 0, -1, 1, 0, -1, 1],
  [1, -1, 1, -1, 1, -1, 1, -1, 1, -1, 1],
  [1, 1, 1, 1, 1, 1, 1, 1, 1, 1, 1, 1, 1, 1, 1, 1, 1, 1, 1, 1, 1, 1, 1],
  [1, 0, 0, 0, -1, 0, 0, 0, 1],
  [1, 0, 0, 0, 0, 1, 0, 0, 0, 0, 1, 0, 0, 0, 0, 1, 0, 0, 0, 0, 1],
  [1, -1, 1, -1, 1, -1, 1, -1, 1, -1, 1, -1, 1],
  [1, 0, 0, 0, 0, 0, 0, 0, 0, 1, 0, 0, 0, 0, 0, 0, 0, 0, 1],
  [1, 0, -1, 0, 1, 0, -1, 0, 1, 0, -1, 0, 1],
  [1, 1, 1, 1, 1, 1, 1, 1, 1, 1, 1, 1, 1, 1, 1, 1, 1, 1, 1, 1, 1, 1, 1, 1, 1, 1, 1, 1, 1],
  [1, 1, 0, -1, -1, -1, 0, 1, 1]]
def tb (n : Nat) : List Int := tabC.getD n []
def fromTab (n : Nat) : List Int := ((List.range n).filter fun d => d != 0 && n % d == 0).foldl (fun g d => by_ g (tb d)) (round_ n)
theorem tab_ok : ∀ n, n < 31 → 1 ≤ n → fromTab n = tb n := by decide +kernel
theorem foldl_ext {A B : Type} {f g : A → B → A} {l : List B} (h : ∀ a, ∀ b ∈ l, f a b = g a b) : ∀ a, l.foldl f a = l.foldl g a := by
  induction l with
  | nil => intro a; rfl
  | cons b l ih =>
    intro a
    rw [List.foldl_cons, List.foldl_cons, h a b (List.mem_cons_self ..)]
    exact ih (fun a b hb => h a b (List.mem_cons_of_mem _ hb)) _
theorem circle_tab : ∀ (f n : Nat), 1 ≤ n → n ≤ 30 → n < f → circle f n = tb n
  | 0, n, _, _, h => by omega
  | f + 1, n, h1, h2, h3 => by
    rw [← tab_ok n (by omega) h1]
    show List.foldl _ _ _ = List.foldl _ _ _
    refine foldl_ext (fun a d hd => ?_) _
    rw [List.mem_filter, List.mem_range] at hd
    obtain ⟨hd1, hd2⟩ := hd
    rw [circle_tab f d (by have := hd2; simp at this; omega) (by omega) (by omega)]
end MA
/-! Sizes on Euclid's way, for what may stand there. -/
namespace MA
open Na05 (toQ content sign whole cleared times div euclid common by_ circle round_)
theorem mxl_fold {b : Nat} : ∀ (f : List Int) (m : Nat), m < 2 ^ b → Bd b f → f.foldl (fun m c => max m c.natAbs) m < 2 ^ b
  | [], m, h, _ => h
  | c :: f, m, h, hb => by
    rw [List.foldl_cons]
    refine mxl_fold f _ ?_ fun d hd => hb d (List.mem_cons_of_mem _ hd)
    have := hb c (List.mem_cons_self ..)
    omega
theorem mxl_log {b : Nat} {f : List Int} (h : Bd b f) (hb : 1 ≤ b) : (mxl f).log2 + 1 ≤ b := by
  have h1 := mxl_fold f 0 (Nat.two_pow_pos b) h
  have h1 : mxl f < 2 ^ b := h1
  by_cases z : mxl f = 0
  · rw [z]; exact hb
  · exact (Nat.log2_lt z).mpr h1
theorem gcOk_succ : ∀ (n : Nat) (a b : List Int), gcOk n a b = true → gcOk (n + 1) a b = true
  | 0, a, b, h => by
    have h : decide (b = []) = true := h
    rw [gcOk, h]; rfl
  | n + 1, a, b, h => by
    rw [gcOk] at h
    rw [gcOk]
    rw [Bool.or_eq_true] at h ⊢
    rcases h with h | h
    · exact Or.inl h
    · right
      rw [Bool.and_eq_true] at h ⊢
      exact ⟨h.1, gcOk_succ n _ _ h.2⟩
theorem gcOk_mono {n m : Nat} {a b : List Int} (h : gcOk n a b = true) (hm : n ≤ m) : gcOk m a b = true := by
  induction hm with
  | refl => exact h
  | step _ ih => exact gcOk_succ _ _ _ ih
/-- a bound by lengths and sizes alone -/
def gcB : Nat → Nat → Nat → Nat → Nat → Bool
  | 0, _, lb, _, _ => decide (lb = 0)
  | n + 1, la, lb, x, y => decide (lb = 0) || (decide (la ≤ 100) && decide (lb ≤ 100) && decide (x + (la + 1 - lb) * (y + 1) ≤ (if lb = 1 then 200000 else 9000)) && decide (y ≤ 200000) && (List.range lb).all fun lr => gcB n lb lr y (x + (la + 1 - lb) * (y + 1)))
theorem gcB_ok : ∀ (n : Nat) {a b : List Int} {x y : Nat}, Tr a → Tr b → Bd x a → Bd y b → 1 ≤ x → 1 ≤ y → gcB n a.length b.length x y = true → gcOk n a b = true
  | 0, a, b, x, y, _, _, _, _, _, _, h => by
    have h : decide (b.length = 0) = true := h
    have h := of_decide_eq_true h
    exact decide_eq_true (List.length_eq_zero_iff.mp h)
  | n + 1, a, b, x, y, ta, tb, ha, hb, hx, hy, h => by
    rw [gcOk]
    by_cases hn : b = []
    · rw [decide_eq_true hn]; rfl
    · have hl : b.length ≠ 0 := fun z => hn (List.length_eq_zero_iff.mp z)
      rw [gcB, decide_eq_false hl, Bool.false_or] at h
      simp only [Bool.and_eq_true, decide_eq_true_eq, List.all_eq_true, List.mem_range] at h
      obtain ⟨⟨⟨⟨h1, h2⟩, h3⟩, h4⟩, h5⟩ := h
      have la := mxl_log ha hx
      have lb := mxl_log hb hy
      have hr : (bareM (pdiv a b).2.1).length < b.length := by
        have := rem_len ta tb hn
        rw [rem_is ta tb hn] at this
        exact this
      have tr : Tr (pdiv a b).2.1 := trimG_tr _
      have br : Bd (x + (a.length + 1 - b.length) * (y + 1)) (pdiv a b).2.1 := (pst_size ha hb _).1.trim
      have e1 : (pdiv a b).2.1.length = (bareM (pdiv a b).2.1).length := by rw [bareM_is tr, whole_len]
      have h3' : x + (a.length + 1 - b.length) * (y + 1) ≤ 200000 := by
        split at h3
        · exact h3
        · omega
      have hm : (a.length + 1 - b.length) * ((mxl b).log2 + 2) ≤ (a.length + 1 - b.length) * (y + 1) := Nat.mul_le_mul_left _ (by omega)
      have hz : (mxl (pdiv a b).2.1).log2 + 1 ≤ 9000 := by
        by_cases c : b.length = 1
        · have e2 : (pdiv a b).2.1 = [] := List.length_eq_zero_iff.mp (by omega)
          rw [e2]; decide
        · rw [if_neg c] at h3
          exact Nat.le_trans (mxl_log br (by omega)) h3
      have hrec := gcB_ok n (a := b) (b := bareM (pdiv a b).2.1) tb (by rw [bareM_is tr]; exact tr_whole tr) hb (br.bare tr) hy (by omega) (h5 _ hr)
      rw [hrec]
      simp only [Bool.or_eq_true, Bool.and_eq_true, decide_eq_true_eq]
      right
      exact ⟨⟨⟨⟨⟨h1, h2⟩, by omega⟩, by omega⟩, hz⟩, trivial⟩
theorem pdiv_short {a b : List Int} (ta : Tr a) (h : a.length < b.length) : (pdiv a b).2.1 = a := by
  unfold pdiv
  rw [show a.length + 1 - b.length = 0 by omega]
  exact trimG_of_tr ta
theorem gcOk_swap {n : Nat} {a b : List Int} {x y : Nat} (ta : Tr a) (hl : a.length < b.length) (hb : b.length ≤ 100) (h1 : Bd x a) (h2 : Bd y b) (hx : 1 ≤ x ∧ x ≤ 9000) (hy : 1 ≤ y ∧ y ≤ 9000) (e : bareM a = a) (h : gcOk n b a = true) : gcOk (n + 1) a b = true := by
  rw [gcOk, pdiv_short ta hl, e, h, show a.length + 1 - b.length = 0 by omega]
  have := mxl_log h1 hx.1
  have := mxl_log h2 hy.1
  simp only [Bool.or_eq_true, Bool.and_eq_true, decide_eq_true_eq]
  right
  exact ⟨⟨⟨⟨⟨by omega, hb⟩, by omega⟩, by omega⟩, by omega⟩, trivial⟩
/-- two, of 6 numbers at most; or one of the circle's and such a one -/
theorem gcB_66 : ∀ i, i < 7 → ∀ j, j < 7 → gcB (j + 1) i j 8 8 = true := by decide +kernel
theorem gcB_c6 : ∀ i, i < 30 → ∀ j, j < 7 → gcB (j + 1) i j 1 5 = true := by decide +kernel
theorem gcB_6c : ∀ i, i < 7 → ∀ j, j < 7 → gcB (j + 1) i j 5 1 = true := by decide +kernel
/-- what may stand there -/
structure HandP (p : List Int) : Prop where
  tr : Tr p
  len : p.length ≤ 6
  le : ∀ c ∈ p, c.natAbs ≤ 30
structure CircP (p : List Int) (n : Nat) : Prop where
  lo : 1 ≤ n
  hi : n ≤ 30
  eq : p = tb n
theorem tb_facts : ∀ n, n < 31 → (tb n).length ≤ 29 ∧ (∀ c ∈ tb n, c.natAbs < 2) ∧ bareM (tb n) = tb n ∧ (∀ c, (tb n).getLast? = some c → c ≠ 0) := by
  have h : ∀ n, n < 31 → (decide ((tb n).length ≤ 29) && (tb n).all (fun c => decide (c.natAbs < 2)) && decide (bareM (tb n) = tb n) && decide ((tb n).getLast? ≠ some 0)) = true := by decide +kernel
  intro n hn
  have := h n hn
  simp only [Bool.and_eq_true, decide_eq_true_eq, List.all_eq_true] at this
  obtain ⟨⟨⟨h1, h2⟩, h3⟩, h4⟩ := this
  exact ⟨h1, h2, h3, fun c hc z => h4 (by rw [hc, z])⟩
section
variable {p : List Int} {n : Nat}
theorem CircP.tr (h : CircP p n) : Tr p := by rw [h.eq]; exact (tb_facts n (by have := h.hi; omega)).2.2.2
theorem CircP.len (h : CircP p n) : p.length ≤ 29 := by rw [h.eq]; exact (tb_facts n (by have := h.hi; omega)).1
theorem CircP.bd (h : CircP p n) : Bd 1 p := by rw [h.eq]; exact (tb_facts n (by have := h.hi; omega)).2.1
theorem CircP.bare (h : CircP p n) : bareM p = p := by rw [h.eq]; exact (tb_facts n (by have := h.hi; omega)).2.2.1
theorem HandP.bd (h : HandP p) : Bd 5 p := fun c hc => by have := h.le c hc; show _ < 32; omega
end
theorem bareM_len {f : List Int} (h : Tr f) : (bareM f).length = f.length := by rw [bareM_is h, whole_len]
theorem bareM_bareM {f : List Int} (h : Tr f) : bareM (bareM f) = bareM f := by
  rw [bareM_is h, bareM_is (tr_whole h)]
  by_cases hn : f = []
  · subst hn; rfl
  · exact whole_of_bare (whole_bare h hn)
theorem tr_bare {f : List Int} (h : Tr f) : Tr (bareM f) := by rw [bareM_is h]; exact tr_whole h
theorem gc_hh {f g : List Int} (hf : HandP f) (hg : HandP g) : gcOk (g.length + 1) (bareM f) (bareM g) = true :=
  gcB_ok _ (tr_bare hf.tr) (tr_bare hg.tr) ((hf.bd.bare hf.tr).mono (by decide)) ((hg.bd.bare hg.tr).mono (by decide)) (x := 8) (y := 8) (by decide) (by decide) (by
    rw [bareM_len hf.tr, bareM_len hg.tr]
    exact gcB_66 _ (by have := hf.len; omega) _ (by have := hg.len; omega))
theorem gc_ch {f g : List Int} {n : Nat} (hf : CircP f n) (hg : HandP g) : gcOk (g.length + 1) (bareM f) (bareM g) = true :=
  gcB_ok _ (tr_bare hf.tr) (tr_bare hg.tr) (hf.bd.bare hf.tr) (hg.bd.bare hg.tr) (x := 1) (y := 5) (by decide) (by decide) (by
    rw [bareM_len hf.tr, bareM_len hg.tr]
    exact gcB_c6 _ (by have := hf.len; omega) _ (by have := hg.len; omega))
theorem gc_hc {f g : List Int} {n : Nat} (hf : HandP f) (hg : CircP g n) : gcOk (g.length + 1) (bareM f) (bareM g) = true := by
  by_cases h : f.length < g.length
  · refine gcOk_swap (x := 5) (y := 1) (tr_bare hf.tr) (by rw [bareM_len hf.tr, bareM_len hg.tr]; exact h) (by rw [bareM_len hg.tr]; have := hg.len; omega) (hf.bd.bare hf.tr) (hg.bd.bare hg.tr) (by decide) (by decide) (bareM_bareM hf.tr) ?_
    exact gcOk_mono (gc_ch hg hf) (by omega)
  · refine gcB_ok _ (tr_bare hf.tr) (tr_bare hg.tr) (hf.bd.bare hf.tr) (hg.bd.bare hg.tr) (x := 5) (y := 1) (by decide) (by decide) (by
      rw [bareM_len hf.tr, bareM_len hg.tr]
      exact gcB_6c _ (by have := hf.len; omega) _ (by have := hf.len; omega))
theorem gc_tab : ∀ i, i < 31 → ∀ j, j < 31 → (tb i).length ≥ (tb j).length → gcOk ((tb j).length + 1) (tb i) (tb j) = true := by decide +kernel
theorem gc_cc {f g : List Int} {n m : Nat} (hf : CircP f n) (hg : CircP g m) : gcOk (g.length + 1) (bareM f) (bareM g) = true := by
  have n1 := hf.hi
  have m1 := hg.hi
  rw [hf.bare, hg.bare]
  by_cases h : f.length < g.length
  · refine gcOk_swap (x := 1) (y := 1) hf.tr h (by have := hg.len; omega) hf.bd hg.bd (by decide) (by decide) hf.bare ?_
    have := gc_tab m (by omega) n (by omega) (by rw [← hf.eq, ← hg.eq]; omega)
    rw [← hf.eq, ← hg.eq] at this
    exact gcOk_mono this (by omega)
  · have := gc_tab n (by omega) m (by omega) (by rw [← hf.eq, ← hg.eq]; omega)
    rw [← hf.eq, ← hg.eq] at this
    exact this
end MA
namespace Py
open PySem PySem.Spec PyProof.Rows L2
open MA (Tr Bd pst pdiv)
theorem ints_len (l : List Nat) : (Na05.ints l).length = l.length := List.length_map ..
section
variable {P : Program} {w : World} {K : PySem.W.Frag} {mg : Str → Option Value} {base : Heap} (T : Txt K mg)
/-! ### number_handed -/
def R_numh (ss : List Sh) (r : Sh) : Prop := ∃ z : Nat, ss = [.i (z : Int)] ∧ r = .i (Na05.zahl z)
theorem ok_number_handed : FnOk P w K mg base CX0 1 T.a_number_handed T.fd_number_handed ["handed"] (spP R_numh) := by
  refine fn_pure T.d_number_handed.F sc_number_handed (fun ss r ⟨_, h, _⟩ => by rw [h]; rfl) (fun cdv A outer s H E hr => ⟨_, (pss_cons (ps_if (pt_cmpR op_eq (pe_op op_modN (pv 0) pe_int) pe_int (nomark _)) (pss_one (ps_ret (pe_op op_fdivZ (pv 0) pe_int))) pss_nil)
      (pss_one (ps_ret (pe_un un_neg (pe_op op_fdivZ (pe_op op_add (pv 0) pe_int) pe_int))))), ?_⟩)
  rintro ss r ⟨z, rfl, rfl⟩
  have e1 : (z : Int).fmod 2 = ((z % 2 : Nat) : Int) := by rw [Int.fmod_eq_emod_of_nonneg _ (by omega)]; rfl
  have e2 : (z : Int).fdiv 2 = ((z / 2 : Nat) : Int) := by rw [Int.fdiv_eq_ediv_of_nonneg _ (by omega)]; rfl
  have e3 : ((z : Int) + 1).fdiv 2 = (((z + 1) / 2 : Nat) : Int) := by rw [Int.fdiv_eq_ediv_of_nonneg _ (by omega)]; omega
  refine q_when (et_test (e_eq (e_mod (e_var rfl) e_int (by decide)) e_int)) (fun h => ?_) (fun h => ?_)
  · have h0 := of_decide_eq_true h
    rw [e1] at h0
    refine q_ret (e_fdiv (e_var rfl) e_int (by decide) (by decide)) ?_
    rw [e2, Na05.zahl, if_pos (by omega)]
  · have h0 := of_decide_eq_false h
    rw [e1] at h0
    refine run_ret (e_neg (e_fdiv (e_add (e_var rfl) e_int) e_int (by decide) (by decide))) ?_
    rw [e3, Na05.zahl, if_neg (by omega)]
/-! ### polynomial_handed -/
def R_polyh (ss : List Sh) (r : Sh) : Prop := ∃ l : List Nat, ss = [li (Na05.ints l)] ∧ l.length ≤ 1000 ∧ r = li (Na05.trim (l.map Na05.zahl))
theorem ok_polynomial_handed : FnOk P w K mg base CX0 2 T.a_polynomial_handed T.fd_polynomial_handed ["numbers"] (spP R_polyh) := by
  refine fn_pure T.d_polynomial_handed.F sc_polynomial_handed (fun ss r ⟨_, h, _⟩ => by rw [h]; rfl) (fun cdv A outer s H E hr => ⟨_, (pss_one (ps_ret (pe_call (ok_wlz T) (hr.mono (by decide)) rfl T.d_wlz.g T.d_wlz.F.kp T.d_wlz.b .nil pass0 (pa_cons (pe_lc (own := [("handed", 1)]) (g := (gName 1)) rfl sc_polynomial_handed.nd (pi_list (pv 0)) (blkOk_by (own := [("handed", 1)]) (N := N_polynomial_handed) (sc := defScope s_polynomial_handed) (by decide +kernel)) (fun _ _ _ _ _ => (pg_name (i := 1) sc_polynomial_handed.nd rfl (Or.inl rfl))) (fun _ _ _ _ _ => pts_nil) (fun _ _ _ _ _ => (pe_call (ok_number_handed T) (hr.mono (by decide)) rfl T.d_number_handed.g T.d_number_handed.F.kp T.d_number_handed.b .nil pass0 (pa_cons (pv 1) pa_nil)))) pa_nil)))), ?_⟩)
  rintro ss r ⟨l, rfl, hl, rfl⟩
  refine run_ret (e_call (ea_1 (e_is (en_lcI (e_var rfl) (fun c => .i (Na05.zahl c.toNat)) (by rw [ints_len]; omega) (fun c hc => ?_)).e (s' := li (l.map Na05.zahl)) ?_)) ⟨_, rfl, rfl⟩) rfl
  · obtain ⟨z, _, rfl⟩ := List.mem_map.mp hc
    exact e_call (ea_1 (e_var rfl)) ⟨z, rfl, rfl⟩
  · unfold Na05.ints li
    rw [List.map_map, List.map_map]; rfl
/-! ### may_be_taken -/
def R_may (ss : List Sh) (r : Sh) : Prop := ∃ l : List Nat, ss = [li (Na05.ints l)] ∧ r = .b (Na05.polyOf l).isSome
theorem max_list : ∀ (ns : List Int), ∃ m, (ns = [] → m = 0) ∧ (ns ≠ [] → m ∈ ns ∧ ∀ y ∈ ns, y ≤ m)
  | [] => ⟨0, fun _ => rfl, fun h => absurd rfl h⟩
  | c :: ns => by
    obtain ⟨m, h1, h2⟩ := max_list ns
    by_cases hn : ns = []
    · subst hn
      exact ⟨c, fun z => (by cases z), fun _ => ⟨List.mem_cons_self .., fun y hy => by
        have : y = c := by simpa using hy
        omega⟩⟩
    · obtain ⟨h3, h4⟩ := h2 hn
      by_cases hc : c ≤ m
      · exact ⟨m, fun z => (by cases z), fun _ => ⟨List.mem_cons_of_mem _ h3, fun y hy => by
          rcases List.mem_cons.mp hy with e | e
          · rw [e]; exact hc
          · exact h4 y e⟩⟩
      · exact ⟨c, fun z => (by cases z), fun _ => ⟨List.mem_cons_self .., fun y hy => by
          rcases List.mem_cons.mp hy with e | e
          · rw [e]; exact Int.le_refl _
          · have := h4 y e; omega⟩⟩
theorem ok_may_be_taken : FnOk P w K mg base CX0 1 T.a_may_be_taken T.fd_may_be_taken ["numbers"] (spP R_may) := by
  refine fn_pure T.d_may_be_taken.F sc_may_be_taken (fun ss r ⟨_, h, _⟩ => by rw [h]; rfl) (fun cdv A outer s H E hr => ⟨_, (pss_one (ps_ret (pe_and (pe_cmpR op_le (pe_callB call_len_seq (by rfl) T.m_len PySem.boot_len (pa_cons (pv 0) pa_nil)) (pe_glob (v := .int (6)) rfl T.c_MOST_NUMBERS ⟨_, rfl⟩) (nomark _)) (pe_one (pe_cmpR op_le (pe_callBK (cr_maxDflt rfl) (by rfl) T.m_max (by decide +kernel) (pa_cons (pv 0) pa_nil) (pk_cons pe_int pk_nil)) (pe_glob (v := .int (60)) rfl T.c_HIGHEST_HANDED ⟨_, rfl⟩) (nomark _)))))), ?_⟩)
  rintro ss r ⟨l, rfl, rfl⟩
  obtain ⟨m, h1, h2⟩ := max_list (Na05.ints l)
  refine run_ret (e_andV (e_le (e_len (e_var rfl)) e_int) (fun _ => e_le (e_maxD (e_var rfl) e_int h1 h2) e_int)) ?_
  congr 1
  rw [List.length_map, ints_len]
  unfold Na05.polyOf
  by_cases hl : l = []
  · subst hl
    rw [h1 rfl]; rfl
  · have hn : Na05.ints l ≠ [] := fun z => hl (by simpa [Na05.ints] using z)
    obtain ⟨h3, h4⟩ := h2 hn
    obtain ⟨z, hz, rfl⟩ := List.mem_map.mp h3
    by_cases hc : 6 < l.length ∨ l.all (fun z => decide (z ≤ 60)) = false
    · rw [if_pos hc]
      rcases hc with hc | hc
      · rw [decide_eq_false (by omega)]; rfl
      · rw [show decide ((z : Int) ≤ 60) = false from decide_eq_false fun hle => ?_, Bool.and_false]; rfl
        rw [List.all_eq_false] at hc
        obtain ⟨y, hy, hc⟩ := hc
        have := h4 _ (List.mem_map.mpr ⟨y, hy, rfl⟩)
        exact hc (decide_eq_true (by omega))
    · rw [if_neg hc, decide_eq_true (by omega), decide_eq_true]; rfl
      have : l.all (fun z => decide (z ≤ 60)) = true := by
        cases e : l.all (fun z => decide (z ≤ 60)) with
        | true => rfl
        | false => exact absurd (Or.inr e) hc
      have := of_decide_eq_true (List.all_eq_true.mp this z hz)
      omega
/-! ### shown, fractions_shown -/
def R_shown (ss : List Sh) (r : Sh) : Prop := ∃ f : List Int, ss = [li f] ∧ f.length ≤ 1000 ∧ r = li (Na05.shown f)
theorem ok_shown : FnOk P w K mg base CX0 1 T.a_shown T.fd_shown ["polynomial"] (spP R_shown) := by
  refine fn_pure T.d_shown.F sc_shown (fun ss r ⟨_, h, _⟩ => by rw [h]; rfl) (fun cdv A outer s H E hr => ⟨_, (pss_one (ps_ret (pe_op op_cat (pe_lst (pa_cons (pe_callB call_len_seq (by rfl) T.m_len PySem.boot_len (pa_cons (pv 0) pa_nil)) pa_nil)) (pv 0)))), ?_⟩)
  rintro ss r ⟨f, rfl, hl, rfl⟩
  refine run_ret (en_cat (e_lst (ea_1 (e_len (e_var rfl))) (by simp)) (e_var rfl) (by simp; omega)).e ?_
  rw [List.length_map]; rfl
def R_fr (ss : List Sh) (r : Sh) : Prop := ∃ (f : List Int) (b : Int), ss = [li f, .i b] ∧ f.length ≤ 1000 ∧ b ≠ 0 ∧ b.natAbs < 2 ^ 9000 ∧ r = li (MA.fracs f b)
theorem lowest_len (a b : Int) : (MA.lowest a b).length = 2 := rfl
theorem flat_len (f : List Int) (b : Int) : (f.flatMap fun n => MA.lowest n b).length = 2 * f.length := by
  induction f with
  | nil => rfl
  | cons c f ih => rw [List.flatMap_cons, List.length_append, ih, lowest_len, List.length_cons]; omega
theorem ok_fractions_shown : FnOk P w K mg base CX0 3 T.a_fractions_shown T.fd_fractions_shown ["numbers", "below"] (spP R_fr) := by
  refine fn_pure T.d_fractions_shown.F sc_fractions_shown (fun ss r ⟨_, _, h, _⟩ => by rw [h]; rfl) (fun cdv A outer s H E hr => ⟨_, (pss_cons (ps_set (i := 2) sc_fractions_shown.nd rfl (Or.inl rfl) (pe_lst (pa_cons (pe_callB call_len_seq (by rfl) T.m_len PySem.boot_len (pa_cons (pv 0) pa_nil)) pa_nil)))
      (pss_cons (ps_for PassesOwn.never rfl (pi_list (pv 0)) (pg_name (i := 3) sc_fractions_shown.nd rfl (Or.inl rfl)) (pss_one (ps_expr (pe_bm PySem.F.plainAttrs_list PySem.F.slot_list_extend PySem.F.type_list_extend mt_extend (pv 2) (pa_cons (pe_call (ok_low T) (hr.mono (by decide)) rfl T.d_low.g T.d_low.F.kp T.d_low.b .nil pass0 (pa_cons (pv 3) (pa_cons (pv 1) pa_nil))) pa_nil)))))
      (pss_one (ps_ret (pv 2))))), ?_⟩)
  rintro ss r ⟨f, b, rfl, hl, hb, hz, rfl⟩
  refine q_own (en_lst (ea_1 (e_len (e_var rfl))) (by simp)) (q_for (e_var rfl) (fun i s' => ∃ sl, s' = [.v (li f), .v (.i b), .own (((f.length : Int) :: (f.take i).flatMap fun n => MA.lowest n b).map Sh.i), sl]) ⟨.x, ?_⟩ ?_ ?_)
  · rw [List.length_map]; rfl
  · rintro i s' x hx ⟨sl, rfl⟩
    obtain ⟨c, hc, rfl⟩ := map_i_get hx
    have hi : i < f.length := (List.getElem?_eq_some_iff.mp hc).1
    refine run_ext (i := 2) rfl (e_call (ea_cons (e_var rfl) (ea_1 (e_var rfl))) ⟨c, b, rfl, hb, hz, rfl⟩).el ?_ ⟨.v (.i c), ?_⟩
    · rw [List.length_map, List.length_cons, flat_len, List.length_map, lowest_len, List.length_take]; omega
    · rw [List.take_add_one, hc, List.flatMap_append]
      show [Sl.v (li f), Sl.v (.i b), Sl.own _, Sl.v (.i c)] = [Sl.v (li f), Sl.v (.i b), Sl.own _, Sl.v (.i c)]
      rw [← List.map_append, List.cons_append]
      simp
  · rintro s' ⟨sl, rfl⟩
    rw [List.length_map, List.take_length]
    exact run_freeze (i := 2) rfl (run_ret (e_var rfl) rfl)
end
end Py
namespace Py
open PySem PySem.Spec PyProof.Rows L2
open MA (Tr Bd pst pdiv)
/-! ### what may stand there -/
theorem Good.cases {p : List Int} (h : Good p) : MA.HandP p ∨ ∃ n, MA.CircP p n := by
  rcases h with ⟨h1, h2, h3⟩ | ⟨n, h1, h2, h3⟩
  · exact Or.inl ⟨h1, h2, h3⟩
  · exact Or.inr ⟨n, h1, h2, by rw [h3, MA.circle_tab _ _ h1 h2 (Nat.lt_succ_self n)]⟩
theorem Good.tr {p : List Int} (h : Good p) : Tr p := by
  rcases h.cases with h | ⟨n, h⟩
  · exact h.tr
  · exact h.tr
theorem Good.len {p : List Int} (h : Good p) : p.length ≤ 29 := by
  rcases h.cases with h | ⟨n, h⟩
  · have := h.len; omega
  · exact h.len
theorem Good.bd {p : List Int} (h : Good p) : Bd 5 p := by
  rcases h.cases with h | ⟨n, h⟩
  · exact h.bd
  · exact h.bd.mono (by decide)
theorem Good.le {p : List Int} (h : Good p) : ∀ c ∈ p, c.natAbs ≤ 31 := fun c hc => by
  have : c.natAbs < 2 ^ 5 := h.bd c hc
  omega
theorem good_gc {f g : List Int} (hf : Good f) (hg : Good g) : MA.gcOk (g.length + 1) (MA.bareM f) (MA.bareM g) = true := by
  rcases hf.cases with h | ⟨n, h⟩
  · rcases hg.cases with h' | ⟨m, h'⟩
    · exact MA.gc_hh h h'
    · exact MA.gc_hc h h'
  · rcases hg.cases with h' | ⟨m, h'⟩
    · exact MA.gc_ch h h'
    · exact MA.gc_cc h h'
theorem times_len {f g : List Int} (hf : Tr f) (hg : Tr g) : (Na05.times f g).length ≤ f.length + g.length := by
  by_cases h1 : f = []
  · subst h1; rw [MA.times_nil_left]; exact Nat.zero_le _
  · by_cases h2 : g = []
    · subst h2; rw [MA.times_nil_right]; exact Nat.zero_le _
    · rw [MA.times_is hf hg h1 h2, List.length_map, List.length_range]; omega
theorem gcLoop_len : ∀ (n : Nat) {a b : List Int}, Tr a → Tr b → (MA.gcLoop n a b).length ≤ a.length + b.length
  | 0, a, b, _, _ => by rw [MA.gcLoop]; omega
  | n + 1, a, b, ha, hb => by
    rw [MA.gcLoop]
    split
    · omega
    · rename_i hn
      have hr := MA.rem_len ha hb hn
      rw [MA.rem_is ha hb hn] at hr
      have := gcLoop_len n hb (tr_bareM (MA.trimG_tr (pst a b (a.length + 1 - b.length)).2.1))
      have e : (pdiv a b).2.1 = MA.trimG (pst a b (a.length + 1 - b.length)).2.1 := rfl
      rw [e] at hr ⊢
      by_cases hl : a.length < b.length
      · have e2 := MA.pdiv_short ha hl
        rw [e] at e2
        rw [e2, MA.bareM_len ha] at this
        rw [e2]
        omega
      · omega
/-- a call that is answered out of the line alone -/
def R_pl (c : Na05.Call) (p q : List Int) (ss : List Sh) (p' q' : List Int) (r : Sh) : Prop := ss = [] ∧ GoodS ⟨p, q⟩ ∧ ∃ ans, Na05.step ⟨p, q⟩ c = (⟨p', q'⟩, ans) ∧ r = li ans
/-- a call that is answered out of the line and a list -/
def R_pn (c : List Nat → Na05.Call) (p q : List Int) (ss : List Sh) (p' q' : List Int) (r : Sh) : Prop := ∃ (l : List Nat) (ans : List Int), ss = [li (Na05.ints l)] ∧ GoodS ⟨p, q⟩ ∧ Na05.step ⟨p, q⟩ (c l) = (⟨p', q'⟩, ans) ∧ r = li ans
theorem polyOf_some {l : List Nat} {f : List Int} (h : Na05.polyOf l = some f) : l.length ≤ 6 ∧ f = Na05.trim (l.map Na05.zahl) := by
  unfold Na05.polyOf at h
  split at h
  · cases h
  · rename_i hc
    refine ⟨Nat.le_of_not_lt fun z => hc (Or.inl z), (Option.some.inj h).symm⟩
section
variable {P : Program} {w : World} {K : PySem.W.Frag} {mg : Str → Option Value} {base : Heap} (T : Txt K mg)
/-! ### one, two -/
theorem ok_answer_one : FnOk P w K mg base CX0 9 T.a_answer_one T.fd_answer_one ["line", "numbers"] (spLn T.cl (R_pn .one)) := by
  refine fn_ln T.d_answer_one.F sc_answer_one (fun p q ss p' q' r ⟨_, _, h, _⟩ => by rw [h]; rfl) (fun cdv A outer s H E hr => ⟨_, (pss_cons (ps_if (pt_not (pt_val (pe_call (ok_may_be_taken T) (hr.mono (by decide)) rfl T.d_may_be_taken.g T.d_may_be_taken.F.kp T.d_may_be_taken.b .nil pass0 (pa_cons (pv 1) pa_nil)))) (pss_one (ps_ret (pe_lst (pa_cons (pe_glob (v := .int (-1)) rfl T.c_REFUSED_NUMBERS ⟨_, rfl⟩) pa_nil)))) pss_nil)
      (pss_cons (ps_fld (pv 0) (pe_call (ok_polynomial_handed T) (hr.mono (by decide)) rfl T.d_polynomial_handed.g T.d_polynomial_handed.F.kp T.d_polynomial_handed.b .nil pass0 (pa_cons (pv 1) pa_nil)) rfl)
      (pss_one (ps_ret (pe_call (ok_shown T) (hr.mono (by decide)) rfl T.d_shown.g T.d_shown.F.kp T.d_shown.b .nil pass0 (pa_cons (pe_fld (pv 0) rfl) pa_nil)))))), ?_⟩)
  rintro a p q ss p' q' r ⟨l, ans, rfl, hg, hst, rfl⟩
  refine q_when (et_not (et_B (e_call (ea_1 (e_var rfl)) ⟨l, rfl, rfl⟩))) (fun h => ?_) (fun h => ?_)
  · have h0 : Na05.polyOf l = none := by simpa using h
    unfold Na05.step at hst
    simp only [h0] at hst
    cases hst
    exact q_ret (e_lst (ea_1 e_int) (by simp)) ⟨rfl, rfl⟩
  · cases h0 : Na05.polyOf l with
    | none => rw [h0] at h; cases h
    | some f =>
      obtain ⟨h1, rfl⟩ := polyOf_some h0
      have hl := (polyOf_good h0).len
      unfold Na05.step at hst
      simp only [h0] at hst
      cases hst
      refine q_fst T.oc rfl rfl (e_call (ea_1 (e_var rfl)) ⟨l, rfl, by omega, rfl⟩) ?_
      exact run_ret (e_call (ea_1 (e_fst T.oc rfl)) ⟨_, rfl, by omega, rfl⟩) ⟨rfl, rfl⟩
theorem ok_answer_two : FnOk P w K mg base CX0 9 T.a_answer_two T.fd_answer_two ["line", "numbers"] (spLn T.cl (R_pn .two)) := by
  refine fn_ln T.d_answer_two.F sc_answer_two (fun p q ss p' q' r ⟨_, _, h, _⟩ => by rw [h]; rfl) (fun cdv A outer s H E hr => ⟨_, (pss_cons (ps_if (pt_not (pt_val (pe_call (ok_may_be_taken T) (hr.mono (by decide)) rfl T.d_may_be_taken.g T.d_may_be_taken.F.kp T.d_may_be_taken.b .nil pass0 (pa_cons (pv 1) pa_nil)))) (pss_one (ps_ret (pe_lst (pa_cons (pe_glob (v := .int (-1)) rfl T.c_REFUSED_NUMBERS ⟨_, rfl⟩) pa_nil)))) pss_nil)
      (pss_cons (ps_fld (pv 0) (pe_call (ok_polynomial_handed T) (hr.mono (by decide)) rfl T.d_polynomial_handed.g T.d_polynomial_handed.F.kp T.d_polynomial_handed.b .nil pass0 (pa_cons (pv 1) pa_nil)) rfl)
      (pss_one (ps_ret (pe_call (ok_shown T) (hr.mono (by decide)) rfl T.d_shown.g T.d_shown.F.kp T.d_shown.b .nil pass0 (pa_cons (pe_fld (pv 0) rfl) pa_nil)))))), ?_⟩)
  rintro a p q ss p' q' r ⟨l, ans, rfl, hg, hst, rfl⟩
  refine q_when (et_not (et_B (e_call (ea_1 (e_var rfl)) ⟨l, rfl, rfl⟩))) (fun h => ?_) (fun h => ?_)
  · have h0 : Na05.polyOf l = none := by simpa using h
    unfold Na05.step at hst
    simp only [h0] at hst
    cases hst
    exact q_ret (e_lst (ea_1 e_int) (by simp)) ⟨rfl, rfl⟩
  · cases h0 : Na05.polyOf l with
    | none => rw [h0] at h; cases h
    | some f =>
      obtain ⟨h1, rfl⟩ := polyOf_some h0
      have hl := (polyOf_good h0).len
      unfold Na05.step at hst
      simp only [h0] at hst
      cases hst
      refine q_snd T.oc rfl rfl (e_call (ea_1 (e_var rfl)) ⟨l, rfl, by omega, rfl⟩) ?_
      exact run_ret (e_call (ea_1 (e_snd T.oc rfl)) ⟨_, rfl, by omega, rfl⟩) ⟨rfl, rfl⟩
/-! ### times, divide, common, resultant, disc -/
theorem ok_answer_times : FnOk P w K mg base CX0 9 T.a_answer_times T.fd_answer_times ["line"] (spLn T.cl (R_pl .times)) := by
  refine fn_ln T.d_answer_times.F sc_answer_times (fun p q ss p' q' r h => by rw [h.1]; rfl) (fun cdv A outer s H E hr => ⟨_, (pss_one (ps_ret (pe_call (ok_shown T) (hr.mono (by decide)) rfl T.d_shown.g T.d_shown.F.kp T.d_shown.b .nil pass0 (pa_cons (pe_call (ok_product T) (hr.mono (by decide)) rfl T.d_product.g T.d_product.F.kp T.d_product.b .nil pass0 (pa_cons (pe_fld (pv 0) rfl) (pa_cons (pe_fld (pv 0) rfl) pa_nil))) pa_nil)))), ?_⟩)
  rintro a p q ss p' q' r ⟨rfl, ⟨hp, hq⟩, ans, hst, rfl⟩
  have hp : Good p := hp
  have hq : Good q := hq
  cases hst
  have l1 := hp.len
  have l2 := hq.len
  have l3 := times_len hp.tr hq.tr
  exact run_ret (e_call (ea_1 (e_call (ea_cons (e_fst T.oc rfl) (ea_1 (e_snd T.oc rfl))) ⟨p, q, rfl, hp.tr, hq.tr, by omega, by omega, hp.bd.mono (by decide), hq.bd.mono (by decide), rfl⟩)) ⟨_, rfl, by omega, rfl⟩) ⟨rfl, rfl⟩
theorem ok_answer_divide : FnOk P w K mg base CX0 9 T.a_answer_divide T.fd_answer_divide ["line"] (spLn T.cl (R_pl .divide)) := by
  refine fn_ln T.d_answer_divide.F sc_answer_divide (fun p q ss p' q' r h => by rw [h.1]; rfl) (fun cdv A outer s H E hr => ⟨_, (pss_cons (ps_if (pt_val (pe_call (ok_isz T) (hr.mono (by decide)) rfl T.d_isz.g T.d_isz.F.kp T.d_isz.b .nil pass0 (pa_cons (pe_fld (pv 0) rfl) pa_nil))) (pss_one (ps_ret (pe_lst (pa_cons (pe_glob (v := .int (-6)) rfl T.c_REFUSED_ZERO ⟨_, rfl⟩) pa_nil)))) pss_nil)
      (pss_cons (ps_set (i := 1) sc_answer_divide.nd rfl (Or.inl rfl) (pe_call (ok_divided T) (hr.mono (by decide)) rfl T.d_divided.g T.d_divided.F.kp T.d_divided.b .nil pass0 (pa_cons (pe_fld (pv 0) rfl) (pa_cons (pe_fld (pv 0) rfl) pa_nil))))
      (pss_cons (ps_set (i := 2) sc_answer_divide.nd rfl (Or.inl rfl) (pe_ix ix_tup (pv 1) pe_int (fun _ _ => rfl)))
      (pss_one (ps_ret (pe_op op_cat (pe_call (ok_fractions_shown T) (hr.mono (by decide)) rfl T.d_fractions_shown.g T.d_fractions_shown.F.kp T.d_fractions_shown.b .nil pass0 (pa_cons (pe_ix ix_tup (pv 1) pe_int (fun _ _ => rfl)) (pa_cons (pv 2) pa_nil))) (pe_call (ok_fractions_shown T) (hr.mono (by decide)) rfl T.d_fractions_shown.g T.d_fractions_shown.F.kp T.d_fractions_shown.b .nil pass0 (pa_cons (pe_ix ix_tup (pv 1) pe_int (fun _ _ => rfl)) (pa_cons (pv 2) pa_nil))))))))), ?_⟩)
  rintro a p q ss p' q' r ⟨rfl, ⟨hp, hq⟩, ans, hst, rfl⟩
  have hp : Good p := hp
  have hq : Good q := hq
  cases hst
  have l1 := hp.len
  have l2 := hq.len
  refine q_when (et_B (e_call (ea_1 (e_snd T.oc rfl)) ⟨q, rfl, rfl⟩)) (fun h => ?_) (fun h => ?_)
  · have h0 : q = [] := of_decide_eq_true h
    exact q_ret (e_lst (ea_1 e_int) (by simp)) ⟨by rw [if_pos h0]; rfl, rfl⟩
  · have h0 : q ≠ [] := of_decide_eq_false h
    have hlen := List.length_pos_iff.mpr h0
    obtain ⟨m1, m2, _⟩ := MA.pst_ok hp.tr hq.tr h0 _ (Nat.le_refl (p.length + 1 - q.length))
    obtain ⟨_, _, z3⟩ := MA.pst_size hp.bd hq.bd (p.length + 1 - q.length)
    have hs : (pdiv p q).2.2 ≠ 0 := MA.pdiv_scale hp.tr hq.tr h0
    have hz : (pdiv p q).2.2.natAbs < 2 ^ 9000 := lt_two_pow z3 (by omega)
    have k1 : (pdiv p q).1.length ≤ 1000 := by show (pst p q _).1.length ≤ 1000; omega
    have k2 : (pdiv p q).2.1.length ≤ 1000 := Nat.le_trans (MA.trimG_len _) (by omega)
    refine q_set (e_call (ea_cons (e_fst T.oc rfl) (ea_1 (e_snd T.oc rfl))) ⟨p, q, 5, 5, rfl, hp.tr, hq.tr, h0, by omega, by omega, hp.bd, hq.bd, by omega, by omega, rfl⟩) ?_
    refine q_set (e_ixT (e_var rfl) e_int rfl) ?_
    refine run_ret (en_cat (e_call (ea_cons (e_ixT (e_var rfl) e_int rfl) (ea_1 (e_var rfl))) ⟨(pdiv p q).1, (pdiv p q).2.2, rfl, k1, hs, hz, rfl⟩) (e_call (ea_cons (e_ixT (e_var rfl) e_int rfl) (ea_1 (e_var rfl))) ⟨(pdiv p q).2.1, (pdiv p q).2.2, rfl, k2, hs, hz, rfl⟩) ?_).e ⟨?_, rfl⟩
    · rw [List.length_map, List.length_map, MA.fracs, MA.fracs, List.length_cons, List.length_cons, flat_len, flat_len]; omega
    · rw [if_neg h0, MA.pdiv_div hp.tr hq.tr h0]
      dsimp only
      rw [MA.shownQ_is _ hs, MA.shownQ_is _ hs, ← List.map_append]
theorem ok_answer_common : FnOk P w K mg base CX0 9 T.a_answer_common T.fd_answer_common ["line"] (spLn T.cl (R_pl .common)) := by
  refine fn_ln T.d_answer_common.F sc_answer_common (fun p q ss p' q' r h => by rw [h.1]; rfl) (fun cdv A outer s H E hr => ⟨_, (pss_one (ps_ret (pe_call (ok_shown T) (hr.mono (by decide)) rfl T.d_shown.g T.d_shown.F.kp T.d_shown.b .nil pass0 (pa_cons (pe_call (ok_greatest_common T) (hr.mono (by decide)) rfl T.d_greatest_common.g T.d_greatest_common.F.kp T.d_greatest_common.b .nil pass0 (pa_cons (pe_fld (pv 0) rfl) (pa_cons (pe_fld (pv 0) rfl) pa_nil))) pa_nil)))), ?_⟩)
  rintro a p q ss p' q' r ⟨rfl, ⟨hp, hq⟩, ans, hst, rfl⟩
  have hp : Good p := hp
  have hq : Good q := hq
  cases hst
  have l1 := hp.len
  have l2 := hq.len
  have l3 : (Na05.common p q).length ≤ 1000 := by
    rw [← MA.common_is hp.tr hq.tr (Nat.lt_succ_self _)]
    refine Nat.le_trans (gcLoop_len _ (tr_bareM hp.tr) (tr_bareM hq.tr)) ?_
    rw [MA.bareM_len hp.tr, MA.bareM_len hq.tr]; omega
  exact run_ret (e_call (ea_1 (e_call (ea_cons (e_fst T.oc rfl) (ea_1 (e_snd T.oc rfl))) ⟨p, q, rfl, hp.tr, hq.tr, by omega, by omega, hp.bd.mono (by decide), hq.bd.mono (by decide), good_gc hp hq, rfl⟩)) ⟨_, rfl, l3, rfl⟩) ⟨rfl, rfl⟩
theorem ok_answer_resultant : FnOk P w K mg base CX0 9 T.a_answer_resultant T.fd_answer_resultant ["line"] (spLn T.cl (R_pl .resultant)) := by
  refine fn_ln T.d_answer_resultant.F sc_answer_resultant (fun p q ss p' q' r h => by rw [h.1]; rfl) (fun cdv A outer s H E hr => ⟨_, (pss_cons (ps_if (pt_cmpR op_gt (pe_callB (call_max2 rfl) (by rfl) T.m_max (by decide +kernel) (pa_cons (pe_call (ok_deg T) (hr.mono (by decide)) rfl T.d_deg.g T.d_deg.F.kp T.d_deg.b .nil pass0 (pa_cons (pe_fld (pv 0) rfl) pa_nil)) (pa_cons (pe_call (ok_deg T) (hr.mono (by decide)) rfl T.d_deg.g T.d_deg.F.kp T.d_deg.b .nil pass0 (pa_cons (pe_fld (pv 0) rfl) pa_nil)) pa_nil))) (pe_glob (v := .int (5)) rfl T.c_HIGHEST_DEGREE ⟨_, rfl⟩) (nomark _)) (pss_one (ps_ret (pe_lst (pa_cons (pe_glob (v := .int (-5)) rfl T.c_REFUSED_DEGREE ⟨_, rfl⟩) pa_nil)))) pss_nil)
      (pss_one (ps_ret (pe_lst (pa_cons pe_int (pa_cons (pe_call (ok_resultant T) (hr.mono (by decide)) rfl T.d_resultant.g T.d_resultant.F.kp T.d_resultant.b .nil pass0 (pa_cons (pe_fld (pv 0) rfl) (pa_cons (pe_fld (pv 0) rfl) pa_nil))) pa_nil)))))), ?_⟩)
  rintro a p q ss p' q' r ⟨rfl, ⟨hp, hq⟩, ans, hst, rfl⟩
  have hp : Good p := hp
  have hq : Good q := hq
  cases hst
  refine q_when (et_test (e_gt (e_max2 (e_call (ea_1 (e_fst T.oc rfl)) ⟨p, rfl, rfl⟩) (e_call (ea_1 (e_snd T.oc rfl)) ⟨q, rfl, rfl⟩)) e_int)) (fun h => ?_) (fun h => ?_)
  · have h0 := of_decide_eq_true h
    exact q_ret (e_lst (ea_1 e_int) (by simp)) ⟨by rw [if_pos (by dsimp only; omega)]; rfl, rfl⟩
  · have h0 := of_decide_eq_false h
    exact run_ret (e_lst (ea_cons e_int (ea_1 (e_call (ea_cons (e_fst T.oc rfl) (ea_1 (e_snd T.oc rfl))) ⟨p, q, 31, rfl, by omega, by omega, hp.le, hq.le, by decide, rfl⟩))) (by simp)) ⟨by rw [if_neg (by dsimp only; omega)]; rfl, rfl⟩
theorem ok_answer_disc : FnOk P w K mg base CX0 9 T.a_answer_disc T.fd_answer_disc ["line"] (spLn T.cl (R_pl .disc)) := by
  refine fn_ln T.d_answer_disc.F sc_answer_disc (fun p q ss p' q' r h => by rw [h.1]; rfl) (fun cdv A outer s H E hr => ⟨_, (pss_cons (ps_if (pt_cmpR op_lt (pe_call (ok_deg T) (hr.mono (by decide)) rfl T.d_deg.g T.d_deg.F.kp T.d_deg.b .nil pass0 (pa_cons (pe_fld (pv 0) rfl) pa_nil)) pe_int (nomark _)) (pss_one (ps_ret (pe_lst (pa_cons (pe_glob (v := .int (-6)) rfl T.c_REFUSED_ZERO ⟨_, rfl⟩) pa_nil)))) pss_nil)
      (pss_cons (ps_if (pt_cmpR op_gt (pe_call (ok_deg T) (hr.mono (by decide)) rfl T.d_deg.g T.d_deg.F.kp T.d_deg.b .nil pass0 (pa_cons (pe_fld (pv 0) rfl) pa_nil)) (pe_glob (v := .int (5)) rfl T.c_HIGHEST_DEGREE ⟨_, rfl⟩) (nomark _)) (pss_one (ps_ret (pe_lst (pa_cons (pe_glob (v := .int (-5)) rfl T.c_REFUSED_DEGREE ⟨_, rfl⟩) pa_nil)))) pss_nil)
      (pss_one (ps_ret (pe_lst (pa_cons pe_int (pa_cons (pe_call (ok_discriminant T) (hr.mono (by decide)) rfl T.d_discriminant.g T.d_discriminant.F.kp T.d_discriminant.b .nil pass0 (pa_cons (pe_fld (pv 0) rfl) pa_nil)) pa_nil))))))), ?_⟩)
  rintro a p q ss p' q' r ⟨rfl, ⟨hp, hq⟩, ans, hst, rfl⟩
  have hp : Good p := hp
  cases hst
  refine q_when (et_test (e_lt (e_call (ea_1 (e_fst T.oc rfl)) ⟨p, rfl, rfl⟩) e_int)) (fun h => ?_) (fun h => ?_)
  · have h0 := of_decide_eq_true h
    exact q_ret (e_lst (ea_1 e_int) (by simp)) ⟨by rw [if_pos (by dsimp only; omega)]; rfl, rfl⟩
  · have h0 := of_decide_eq_false h
    refine q_when (et_test (e_gt (e_call (ea_1 (e_fst T.oc rfl)) ⟨p, rfl, rfl⟩) e_int)) (fun h => ?_) (fun h => ?_)
    · have h1 := of_decide_eq_true h
      exact q_ret (e_lst (ea_1 e_int) (by simp)) ⟨by rw [if_neg (by dsimp only; omega), if_pos (by dsimp only; omega)]; rfl, rfl⟩
    · have h1 := of_decide_eq_false h
      exact run_ret (e_lst (ea_cons e_int (ea_1 (e_call (ea_1 (e_fst T.oc rfl)) ⟨p, rfl, hp.tr, by omega, by omega, fun c hc => by have := hp.le c hc; omega, rfl⟩))) (by simp)) ⟨by rw [if_neg (by dsimp only; omega), if_neg (by dsimp only; omega)]; rfl, rfl⟩
end
end Py
/-! sorted(xs, key=f): f a def or a lambda, its answers whole numbers or lists of these -/
namespace Py
open PySem PySem.Spec PyProof.Rows L2
open PySem.W (AllAlike Sortable EachIs dataLe KeepsBut)
open Evl (Ex sq_of)
/-- a key as it stands in the heap H -/
def KeyIs (H : Hp) (y : V) : PyData → Prop
  | .int n => y = .int n
  | .list xs => ∃ (t : Addr) (ns : List Int), y = .ref t ∧ H t = some (.lst (ns.map V.int)) ∧ xs = ns.map .int
  | _ => False
/-- items by their keys, stable -/
def sortBy {A : Type} (xs : List A) (kz : List PyData) : List A := ((xs.zip kz).mergeSort (dataLe false Prod.snd)).map Prod.fst
theorem sortBy_len {A : Type} {xs : List A} {kz : List PyData} (h : xs.length = kz.length) : (sortBy xs kz).length = xs.length := by
  unfold sortBy
  rw [List.length_map, (List.mergeSort_perm _ _).length_eq, List.length_zip, h, Nat.min_self]
theorem sortBy_map {A B : Type} (f : A → B) (xs : List A) (kz : List PyData) : sortBy (xs.map f) kz = (sortBy xs kz).map f := by
  unfold sortBy
  rw [List.zip_map_left, ← List.map_mergeSort (r := dataLe false Prod.snd) (s := dataLe false Prod.snd) (f := Prod.map f id) (fun a _ b _ => rfl), List.map_map, List.map_map]
  rfl
/-- keys made from the items -/
theorem sortBy_key {A : Type} (k : A → PyData) (xs : List A) : sortBy xs (xs.map k) = xs.mergeSort (dataLe false k) := by
  unfold sortBy
  have e : xs.zip (xs.map k) = xs.map fun x => (x, k x) := by
    rw [List.zip_map_right]
    have : xs.zip xs = xs.map fun x => (x, x) := by
      induction xs with
      | nil => rfl
      | cons x xs ih => rw [List.zip_cons_cons, ih]; rfl
    rw [this, List.map_map]; rfl
  rw [e, ← List.map_mergeSort (r := dataLe false k) (s := dataLe false Prod.snd) (f := fun x => (x, k x)) (fun a _ b _ => rfl), List.map_map]
  have e2 : (Prod.fst ∘ fun x => (x, k x)) = (id : A → A) := rfl
  rw [e2, List.map_id]
section
variable {fs ex : List Addr} {H H1 : Hp} {h h1 h2 : Heap}
/-- what was there is kept on -/
theorem un_later (u : Un fs [] H H1 h h1) (k : ∀ b o, b < h.objs.size → h1.get? b = some o → h2.get? b = some o) : Un fs [] H H1 h h2 where
  keep := fun b o q n hb hx => k b o (Heap.lt_size q) (u.keep b o q n hb hx)
  slot := fun b o q n hb hx => by
    obtain ⟨sl, e⟩ := u.slot b o q n hb hx
    exact ⟨sl, k b _ (Heap.lt_size q) e⟩
  free := u.free
  there := fun b o q hx => by
    obtain ⟨o', e⟩ := u.there b o q hx
    exact ⟨o', k b o' (Heap.lt_size q) e⟩
  tups := u.tups
  frzs := u.frzs
  tbls := u.tbls
/-- a new list, as yet untracked, is tracked -/
theorem un_track {a : Addr} {o : HO} (u : Un fs [] H H1 h h1) (ha : h.objs.size ≤ a) (hn : H1 a = none) : Un fs [] H (upd H1 a o) h h1 where
  keep := u.keep
  slot := u.slot
  free := fun b ob q n hx => by
    rw [upd_ne (Nat.ne_of_lt (Nat.lt_of_lt_of_le (Heap.lt_size q) ha))]
    exact u.free b ob q n hx
  there := u.there
  tups := fun b xs q => by
    have q1 := u.tups b xs q
    rw [upd_ne (ne_of_none q1 hn)]
    exact q1
  frzs := fun b ob z q => by
    have q1 := u.frzs b ob z q
    rw [upd_ne (ne_of_none q1 hn)]
    exact q1
  tbls := fun b ps q => by
    obtain ⟨more, q1⟩ := u.tbls b ps q
    exact ⟨more, by rw [upd_ne (ne_of_none q1 hn)]; exact q1⟩
/-- untracked objects may change -/
theorem hok_but {P : Program} {w : World} (x : HOk P w H h) (k : ∀ b o, H b ≠ none → h.get? b = some o → h1.get? b = some o) : HOk P w H h1 := fun a o e =>
  (x a o e).stay (fun b u hb q => k b u (by
    rcases hb with z | z
    · rw [z, e]; simp
    · rw [z]; simp) q) (fun _ q => q) fun _ _ q => q
theorem hok_track {P : Program} {w : World} {a : Addr} {o : HO} (x : HOk P w H h) (hn : H a = none) (new : ObjOk P w (upd H a o) h a o) : HOk P w (upd H a o) h := fun b u e => by
  by_cases hb : b = a
  · subst hb
    rw [upd_same] at e
    cases e
    exact new
  · rw [upd_ne hb] at e
    exact (x b u e).stay (fun _ _ _ q => q) (fun c q => by rw [upd_ne (ne_of_none q hn)]; exact q) fun c xs q => by rw [upd_ne (ne_of_none q hn)]; exact q
end
theorem reads_ints {h : Heap} : ∀ {ns : List Int} {its : List Value}, Vals (ns.map V.int) its → ReadsAll h its (ns.map .int) []
  | [], _, .nil => .nil
  | n :: ns, _, .cons ⟨t, e⟩ r => by
    subst e
    have := ReadsAll.cons (.int n t) (reads_ints (h := h) r)
    exact this
theorem key_reads {P : Program} {w : World} {H : Hp} {h : Heap} (x : HOk P w H h) : ∀ {ks : List V} {vs : List Value} {kz : List PyData}, Vals ks vs → EachIs (KeyIs H) ks kz → EachIs (fun v d => ∃ as, Reads h v d as) vs kz
  | _, _, _, .nil, .nil => .nil
  | _, _, _, .cons (b := v) r rs, .cons (b := d) k kr => by
    refine .cons ?_ (key_reads x rs kr)
    cases d with
    | int n =>
      obtain rfl : _ = V.int n := k
      obtain ⟨t, rfl⟩ := r
      exact ⟨[], .int n t⟩
    | list xs =>
      obtain ⟨t, ns, rfl, ht, rfl⟩ := k
      obtain rfl : v = Value.ref t := r
      obtain ⟨_, its, n, rv, e⟩ := x t _ ht
      exact ⟨[t], .list e rfl rfl (by simpa using reads_ints rv)⟩
    | none => exact k.elim
    | bool b => exact k.elim
    | str b => exact k.elim
    | tuple b => exact k.elim
    | dict b => exact k.elim
theorem vals_zip {xs : List V} {kz : List PyData} : ∀ {us : List Value}, Vals xs us → xs.length = kz.length → EachIs (fun v p => RelV p.1 v) us (xs.zip kz) := by
  induction xs generalizing kz with
  | nil => intro us r _; cases r; exact .nil
  | cons x xs ih =>
    intro us r hl
    cases kz with
    | nil => simp at hl
    | cons d kz =>
      cases r with
      | cons r1 r2 => exact .cons r1 (ih r2 (by simpa using hl))
theorem each_vals {ps : List (V × PyData)} : ∀ {us : List Value}, EachIs (fun v (p : V × PyData) => RelV p.1 v) us ps → Vals (ps.map Prod.fst) us := by
  induction ps with
  | nil => intro us r; cases r; exact .nil
  | cons p ps ih =>
    intro us r
    cases r with
    | cons r1 r2 => exact .cons r1 (ih r2)
section
variable {X : Cx} {pins : List (Addr × Obj)} {σ : L2.St} {H : Hp} {s : Shared} {Q : VK} {l q : Addr} {xs : List V} {kz : List PyData} {E : Value → Shared → Prop}
theorem sort_core (I : Inv X pins σ H s) (hs : SqL X.K H l xs) (hlen : xs.length = kz.length) (hal : AllAlike kz) (hsk : Sortable kz) (hu : ∀ d, d ∈ kz → X.A.units + 2 + d.depth < cLine) (W : Nat → Hp → List V → Prop) (w0 : W 0 H [])
    (turn : ∀ (i : Nat) (x : V) (v : Value) (H1 : Hp) (ks : List V) (s1 : Shared), xs[i]? = some x → RelV x v → W i H1 ks → Inv X pins σ H1 s1 → Un (frs X.stack) [] H H1 s.heap s1.heap →
      codeAny (model X.prog X.w) X.A.in1.in1 (.call (.ref q) ⟨[v], []⟩) (CR CX0 X.stack X.prog X.w H1 s1 (fun y H2 => W (i + 1) H2 (ks ++ [y])) (fun _ _ _ => False)) s1)
    (fin : ∀ (H1 : Hp) (ks : List V), W xs.length H1 ks → EachIs (KeyIs H1) ks kz ∧ ∀ p, H1 p = none → Q (.ref p) (upd H1 p (.lst (sortBy xs kz)))) :
    wpAny (model X.prog X.w) X.A (call (.builtin "sorted") [.ref l] [(Str.ofString "key", .ref q)]) (EP X pins σ Q) E s := by
  obtain ⟨vs, rv, hl, hz⟩ := I.list hs
  have lv : vs.length = xs.length := rv.length.symm
  have hZ : vs.length ≤ sizeLine := by rw [lv]; exact hz
  have nofr : ∀ f, s.heap.objs.size ≤ f → f ∉ frs X.stack := fun f hf z => by
    rcases List.mem_cons.mp (I.stkSub _ z) with e | e
    · have h1 := I.lt
      rw [← e] at h1
      exact Nat.lt_irrefl _ (Nat.lt_of_lt_of_le h1 hf)
    · exact I.nofs hf e
  refine PySem.W.sorted_of_sort hl.isList hZ (ksk_s1 _ _) (fun _ => ksk_l1 _ _) fun E' => ?_
  rw [ksk_t1]
  generalize ea : s.heap.objs.size + 1 = a
  have sa : s.heap.objs.size ≤ a := by omega
  have ho : (PySem.W.copyHeap s.heap vs).get? a = some (seqObj "list" vs.toArray 0) := by rw [← ea]; exact PySem.W.copyHeap_at s.heap vs
  have old : ∀ b o, b < s.heap.objs.size → s.heap.get? b = some o → (PySem.W.copyHeap s.heap vs).get? b = some o := fun b o _ e => PySem.W.copyHeap_old e
  generalize PySem.W.copyHeap s.heap vs = hc at ho old
  have ha : a < hc.objs.size := Heap.lt_size ho
  obtain ⟨e1, ho1⟩ : ∃ e1, (hc.update a (Obj.mapSeq fun _ => (#[] : Array Value))).get? a = some (seqObj "list" #[] e1) := ⟨_, get?_update_seq ho fun _ => #[]⟩
  unfold ksk_tree
  refine wpAny_bind (listItems_at ho rfl ?_)
  refine wpAny_bind (listUpdate_at ho rfl ?_ (by rw [List.size_toArray]; exact hZ) (Nat.zero_le _))
  refine wpAny_bind (seqEpoch_at ho1 rfl ?_)
  refine wpAny_bind (wpAny_newTuple ?_ (by show vs.length ≤ _; exact hZ))
  refine wpAny_bind (wpAny_newList ?_ (Nat.zero_le _))
  refine wpAny_holding ?_
  generalize ek : ((hc.update a (Obj.mapSeq fun _ => (#[] : Array Value))).push (seqObj "tuple" vs.toArray 0)).objs.size = kS
  have hkS : kS = hc.objs.size + 1 := by rw [← ek, size_push', Heap.size_update]
  have sk : s.heap.objs.size ≤ kS := by omega
  have hka : kS ≠ a := by omega
  have nk0 : (((hc.update a (Obj.mapSeq fun _ => (#[] : Array Value))).push (seqObj "tuple" vs.toArray 0)).push (seqObj "list" #[] 0)).get? kS = some (seqObj "list" #[] 0) := by rw [← ek]; exact Heap.get?_push_size _ rfl
  have na0 : (((hc.update a (Obj.mapSeq fun _ => (#[] : Array Value))).push (seqObj "tuple" vs.toArray 0)).push (seqObj "list" #[] 0)).get? a = some (seqObj "list" #[] e1) := Heap.get?_push_of_some _ (Heap.get?_push_of_some _ ho1)
  have old0 : ∀ b o, b < s.heap.objs.size → s.heap.get? b = some o → (((hc.update a (Obj.mapSeq fun _ => (#[] : Array Value))).push (seqObj "tuple" vs.toArray 0)).push (seqObj "list" #[] 0)).get? b = some o := fun b o hb e =>
    Heap.get?_push_of_some _ (Heap.get?_push_of_some _ ((Heap.get?_update_ne _ _ _ _ (Nat.ne_of_lt (Nat.lt_of_lt_of_le hb sa))).trans (old b o hb e)))
  show wpAny _ _ _ _ _ { s with heap := ((hc.update a (Obj.mapSeq fun _ => (#[] : Array Value))).push (seqObj "tuple" vs.toArray 0)).push (seqObj "list" #[] 0) }
  generalize ((hc.update a (Obj.mapSeq fun _ => (#[] : Array Value))).push (seqObj "tuple" vs.toArray 0)).push (seqObj "list" #[] 0) = h0 at nk0 na0 old0
  unfold ksk_rest
  refine wpAny_bind (wpAny_rule ?_)
  rw [List.forIn_toArray]
  refine wpAny_bind (ksk_fold (fun i s' => ∃ (H1 : Hp) (ks : List V) (kA : Array Value) (e : Nat), s'.os = s.os ∧ AllBare s'.gens ∧ Un (frs X.stack) [] H H1 s.heap s'.heap ∧ HOk X.prog X.w H1 s'.heap ∧ s'.heap.get? kS = some (seqObj "list" kA e) ∧ s'.heap.get? a = some (seqObj "list" #[] e1) ∧ H1 kS = none ∧ H1 a = none ∧ Vals ks kA.toList ∧ ks.length = i ∧ W i H1 ks) vs 0 _
    ⟨H, [], #[], 0, rfl, I.bare, un_later Un.refl fun b o hb e => old0 b o hb e, I.hok.kept fun b o e => old0 b o (Heap.lt_size e) e, nk0, na0, I.hok.fresh sk, I.hok.fresh sa, .nil, rfl, w0⟩ ?step ?done)
  case step =>
    rintro j v s1 hx ⟨H1, ks, kA, e, os, bare, un, hok, nk, na, fk, fa, rk, lk, hw⟩
    rw [Nat.zero_add] at hw lk ⊢
    have hj : j < vs.length := (List.getElem?_eq_some_iff.mp hx).1
    obtain ⟨x, ex⟩ : ∃ x, xs[j]? = some x := ⟨_, List.getElem?_eq_getElem (by omega)⟩
    obtain ⟨v', ev, rx⟩ := rv.get ex
    rw [hx] at ev
    cases ev
    have I1 : Inv X pins σ H1 s1 := I.call' os un hok bare (fun b z => absurd z (by simp))
    refine wpAny_bind (wpAny_attempt (wpAny_call (codeAny_mono (turn j x v H1 ks s1 ex rx hw I1 un) fun r s2 hq => ?_)))
    match r, hq with
    | .error er, hq => exact (show False from hq).elim
    | .ok .next, hq => exact False.elim hq
    | .ok .brk, hq => exact False.elim hq
    | .ok .cont, hq => exact False.elim hq
    | .ok (.ret u), hq =>
      obtain ⟨y, H2, os2, bare2, un2, hok2, ry, w2⟩ := hq
      have nk2 := un2.keep kS _ nk fk (nofr _ sk) (by simp)
      have na2 := un2.keep a _ na fa (nofr _ sa) (by simp)
      have fk2 := un2.free kS _ nk fk (by simp)
      have fa2 := un2.free a _ na fa (by simp)
      have hsz : kA.size = j := by rw [← lk, rk.length, Array.length_toList]
      show wpAny _ _ (Builtin.List.listUpdate (.ref kS) (fun z => z.push u) >>= _) _ _ s2
      have s3 := Heap.SameBut.update s2.heap kS (Obj.mapSeq fun z => z.push u)
      obtain ⟨c2, hc2⟩ : ∃ c2, (s2.heap.update kS (Obj.mapSeq fun z => z.push u)).get? kS = some (seqObj "list" (kA.push u) c2) := ⟨_, get?_update_seq nk2 fun z => z.push u⟩
      refine wpAny_bind (listUpdate_at nk2 rfl ?_ (by rw [hsz]; omega) (Nat.le_trans (Nat.le_of_eq (Array.size_push ..)) (by omega)))
      refine wpAny_pure ⟨rfl, H2, ks ++ [y], kA.push u, c2, os2.trans os, bare2, un_later (un.trans un2) fun b o hb eb => (s3.2 b (Nat.ne_of_lt (Nat.lt_of_lt_of_le hb sk))).trans eb, hok_but hok2 fun b o hb eb => (s3.2 b fun z => hb (by rw [z]; exact fk2)).trans eb, hc2, (s3.2 a hka.symm).trans na2, fk2, fa2, ?_, ?_, w2⟩
      · have ep : (kA.push u).toList = kA.toList ++ [u] := by simp
        rw [ep]
        exact rk.append (.cons ry .nil)
      · rw [List.length_append, lk]; rfl
  case done =>
    rintro s1 ⟨H1, ks, kA, e, os, bare, un, hok, nk, na, fk, fa, rk, lk, hw⟩
    rw [Nat.zero_add] at hw lk
    rw [lv] at hw
    obtain ⟨hkeys, q1⟩ := fin H1 ks hw
    have hk := key_reads hok rk hkeys
    refine wpAny_bind (listItems_at nk rfl ?_)
    have hsz : kA.size = vs.length := by rw [← lk, rk.length, Array.length_toList]
    refine PySem.W.keyH_end (κ := PySem.W.dataKind s1.heap kz) (h₁ := PySem.W.hideAll s1.heap [kS]) (fun b o hb eb => PySem.W.of_hideAll _ eb) (PySem.W.hideAll_none _ (by simp)) nk na hka (PySem.W.SortsAt.data hk hal hsk (fun d hd => hu d hd)) hsz hZ fun h3 tk c k3 n3 => ⟨rfl, ?_⟩
    have ko : PySem.W.KeyedOut false ((xs.zip kz).map Prod.snd) vs (PySem.W.sortVals (PySem.W.dataKind s1.heap kz) false kA.toList vs) := by
      rw [List.map_snd_zip (by omega)]
      exact ⟨s1.heap, kA.toList, hal, rfl, hk⟩
    have out := each_vals (PySem.W.keyedOut_each Prod.snd ko (vals_zip rv hlen))
    have keep3 : ∀ b o, b ≠ a → b ≠ kS → s1.heap.get? b = some o → h3.get? b = some o := fun b o h1 h2 eb => k3 b o h1 (PySem.W.hideAll_get _ eb (by simpa using h2))
    have un3 : Un (frs X.stack) [] H H1 s.heap h3 := un_later un fun b o hb eb => keep3 b o (by omega) (by omega) eb
    have hok3 : HOk X.prog X.w H1 h3 := hok_but hok fun b o hb eb => keep3 b o (fun z => hb (by rw [z]; exact fa)) (fun z => hb (by rw [z]; exact fk)) eb
    have hlen2 := sortBy_len hlen
    have I3 : Inv X pins σ (upd H1 a (.lst (sortBy xs kz))) { s1 with heap := h3, toks := tk } := I.call' os (un_track un3 sa fa) (hok_track hok3 fa ⟨by rw [hlen2]; exact hz, _, c, out, n3⟩) bare (fun b z => absurd z (by simp))
    exact ⟨.ref a, _, I3, rfl, q1 a fa⟩
end
/-- the reading of sorted(.., key=q), q a def with the promise sp -/
def rSortBy (K : PySem.W.Frag) (q : Addr) (sp : Sp) : List V → List V → Hp → VK → Prop := fun vs zs H Q => ∃ (a : Addr) (xs : List V) (kz : List PyData) (W : Nat → Hp → List V → Prop), vs = [.ref a] ∧ zs = [.ref q] ∧ SqL K H a xs ∧ xs.length = kz.length ∧ AllAlike kz ∧ Sortable kz ∧ (∀ d ∈ kz, d.depth ≤ 50) ∧ W 0 H [] ∧
  (∀ i x H1 ks, xs[i]? = some x → W i H1 ks → sp [x] H1 (fun y H2 => W (i + 1) H2 (ks ++ [y])) (fun _ _ _ => False)) ∧ ∀ H1 ks, W xs.length H1 ks → EachIs (KeyIs H1) ks kz ∧ ∀ p, H1 p = none → Q (.ref p) (upd H1 p (.lst (sortBy xs kz)))
theorem cr_sortBy {X : Cx} {k : Nat} {q : Addr} {fd : FuncData} {x : Str} {sp : Sp} (Fn : FnOk X.prog X.w X.K X.mg X.base CX0 k q fd [x] sp) (hb : Binds X.K fd [x] []) (hr : Room (k + 2) X.A) : CallRK X (.builtin "sorted") [Str.ofString "key"] (rSortBy X.K q sp) := by
  intro pins s σ H vs zs us ws Q I r rz h
  obtain ⟨a, xs, kz, W, rfl, rfl, hs, hlen, hal, hsk, hd, w0, step, fin⟩ := h
  obtain rfl := Vals.ref1 r
  obtain rfl := Vals.ref1 rz
  have hr2 : Room k X.A.in1.in1 := (Room.in1 (k := k + 1) hr).in1
  refine sort_core I hs hlen hal hsk (fun d hd' => ?_) W w0 (fun i x0 v H1 ks s1 ex rx hw I1 un => ?_) fin
  · have := hd d hd'
    have := hr.un
    omega
  · exact Fn.run X.A.in1.in1 X.stack s1 H1 ⟨[v], []⟩ [v] [x0] _ _ hr2 I1.env0.in1.in1 (hb s1 [v] I1.kIn rfl) (.cons rx .nil) (step i x0 H1 ks ex hw)
end Py
/-! sorted(xs, key=lambda x: ..), the lambda with captured names -/
namespace Py
open PySem PySem.Spec PyProof.Rows L2 LamX NdefX
open PySem.W (AllAlike Sortable EachIs)
open Evl (Ex sq_of)
/-- the object at f is the lambda F -/
def LamO (f : Addr) (body : Expr) (F : NF) : HO := .ext fun h => ∃ pm ctv : Value, h.get? f = some (PySem.W.kla_obj "<lambda>" F.qual F.params body F.scope F.cl pm F.c ctv)
theorem lamO_at {P : Program} {w : World} {H : Hp} {h : Heap} {f : Addr} {body : Expr} {F : NF} (x : HOk P w H h) (e : H f = some (LamO f body F)) : ∃ pm ctv : Value, h.get? f = some (PySem.W.kla_obj "<lambda>" F.qual F.params body F.scope F.cl pm F.c ctv) := by
  obtain ⟨z, _, _⟩ := x f _ e
  exact z
section
variable {X : Cx} {pins : List (Addr × Obj)} {σ : L2.St} {H : Hp} {s : Shared}
theorem inv_lam {F : NF} {body : Expr} {h1 : Heap} {pm ctv : Value} {t : Nat} (I : Inv X pins σ H s) (k : ∀ b o, s.heap.get? b = some o → h1.get? b = some o) (hs : s.heap.objs.size ≤ h1.objs.size) :
    Inv X pins σ (upd H h1.objs.size (LamO h1.objs.size body F)) { s with heap := h1.push (PySem.W.kla_obj "<lambda>" F.qual F.params body F.scope F.cl pm F.c ctv), toks := t } := by
  have e : (h1.push (PySem.W.kla_obj "<lambda>" F.qual F.params body F.scope F.cl pm F.c ctv)).get? h1.objs.size = some (PySem.W.kla_obj "<lambda>" F.qual F.params body F.scope F.cl pm F.c ctv) := Heap.get?_push_size _ rfl
  exact I.laid (fun b u q => Heap.get?_push_of_some _ (k b u q)) hs ⟨⟨pm, ctv, e⟩, ⟨_, e⟩, fun _ _ ⟨p, t, z⟩ st => ⟨p, t, st _ z⟩⟩
theorem fx_tab {F H1 : Hp} {P : Addr} (h : Fx F H) (k : ∀ b o, H b = some o → (∀ ps, o ≠ .tbl ps) → H1 b = some o) (kt : ∀ b ps, b ≠ P → H b = some (.tbl ps) → H1 b = some (.tbl ps)) (hP : TabS H1 P qR) : Fx F H1 := fun a o x => by
  have y := h a o x
  cases o with
  | tbl ps =>
    by_cases c : a = P
    · rw [c]; exact hP
    · obtain ⟨ps', y1, y2, y3⟩ := y
      refine ⟨ps', kt a ps' c y1, y2, fun pos cv hc => ?_⟩
      obtain ⟨c0, z1, z2⟩ := y3 pos cv hc
      exact ⟨c0, z1, k _ _ z2 codeO_ne⟩
  | _ => exact k _ _ y (fun ps z => by cases z)
/-- a lambda is made -/
theorem lam_make3 {c P : Addr} {params : Arguments} {body : Expr} {scope : Scope} {pos : Pos} {E : Value → Shared → Prop} {Q : Value → Shared → Prop} (I : Inv X pins σ H s) (TB : TabB X.base X.mg c P) (hcode : X.env.code = .ref c) (hq : X.env.qual ++ "<lambda>" = qR) (hT : TabS H P qR)
    (hdef : defaultsOf params X.env = ([], [])) (hfree : ∀ y ∈ scope.names, y.2 = .free → ∃ c, X.env.cells.lookup y.1 = some c)
    (h : ∀ (f c' : Addr) (H1 : Hp) (s' : Shared), Inv X pins σ H1 s' → Hx H H1 → (∀ F, Fx F H → Fx F H1) → H f = none → H1 f = some (LamO f body ⟨"<lambda>", qR, params, [], scope, cloFrom X.env.cells scope.names [], c'⟩) → H1 c' = some (CodeO c' qR) → Q (.ref f) s') :
    wpAny (model X.prog X.w) X.A (eval (.Lambda params body scope pos) X.env) Q E s := by
  obtain ⟨ps, hP, ht, hall⟩ := id hT
  refine PySem.W.kla_eval hdef ?_
  rw [hq]
  have bP : s.heap.BuiltinsAt X.mg P := TB.bm.keeps I.bk
  have oP : s.heap.get? P = some { cls := .none, data := .fields ps } := I.hok P _ hP
  cases hc : codeAmong pos ps.toList with
  | some cv =>
    obtain ⟨c', e, hco⟩ := hall pos cv hc
    subst e
    refine PySem.W.kla_makeFunctionHit (mg := X.mg) (c := c) (P := P) (ps := ps) (closure_ok hfree) I.ok.glob (I.mod.glob.keeps I.bk) hcode (TB.code.keeps I.bk) oP ht hc bP fun ctv h1 tk hx hsz => ?_
    have n1 : H h1.objs.size = none := I.hok.fresh hsz
    have J := inv_lam (F := ⟨"<lambda>", qR, params, [], scope, cloFrom X.env.cells scope.names [], c'⟩) (body := body) (pm := (X.mg "__name__").getD .none) (ctv := ctv) (t := tk) I hx hsz
    exact h h1.objs.size c' _ _ J (Hx.of (Ex.new n1)) (fun F fx => fx.ext (Ex.new n1)) n1 upd_same (Ex.new n1 _ _ hco)
  | none =>
    refine PySem.W.kla_makeFunction (mg := X.mg) (c := c) (P := P) (ps := ps) (closure_ok hfree) I.ok.glob (I.mod.glob.keeps I.bk) hcode (TB.code.keeps I.bk) oP ht hc TB.gP bP fun c' ctv h1 tk hx hge hlt hrec htb => ?_
    obtain ⟨c2, oc, vs, t, e2, hoc, hd, hv⟩ := hrec
    cases e2
    have nC : H c' = none := I.hok.fresh hge
    have nPc : P ≠ c' := ne_of_none hP nC
    have I1 := inv_table (t' := tk) (more := #[rawInt pos.line, rawInt pos.col, .ref c']) (h' := h1) I hP hx htb hge ⟨oc, vs, t, hoc, hd, hv⟩
    have keep : ∀ b o, H b = some o → (∀ ps, o ≠ .tbl ps) → upd (upd H P (.tbl (ps ++ #[rawInt pos.line, rawInt pos.col, .ref c']))) c' (CodeO c' qR) b = some o := fun b o e n => by
      rw [upd_ne (ne_of_none e nC), upd_ne fun z => n ps (Option.some.inj (e.symm.trans (by rw [z]; exact hP)))]
      exact e
    have keept : ∀ b qs, b ≠ P → H b = some (.tbl qs) → upd (upd H P (.tbl (ps ++ #[rawInt pos.line, rawInt pos.col, .ref c']))) c' (CodeO c' qR) b = some (.tbl qs) := fun b qs n e => by
      rw [upd_ne (ne_of_none e nC), upd_ne n]; exact e
    have atP : upd (upd H P (.tbl (ps ++ #[rawInt pos.line, rawInt pos.col, .ref c']))) c' (CodeO c' qR) P = some (.tbl (ps ++ #[rawInt pos.line, rawInt pos.col, .ref c'])) := by rw [upd_ne nPc, upd_same]
    have hE : Hx H (upd (upd H P (.tbl (ps ++ #[rawInt pos.line, rawInt pos.col, .ref c']))) c' (CodeO c' qR)) := fun b o e => by
      cases o with
      | tbl qs =>
        by_cases z : b = P
        · rw [z]; exact ⟨_, atP⟩
        · exact ⟨qs, keept b qs z e⟩
      | _ => exact keep b _ e (fun ps z => by cases z)
    have eL : (ps ++ #[rawInt pos.line, rawInt pos.col, .ref c']).toList = ps.toList ++ [rawInt pos.line, rawInt pos.col, .ref c'] := by simp
    have tP : TabS (upd (upd H P (.tbl (ps ++ #[rawInt pos.line, rawInt pos.col, .ref c']))) c' (CodeO c' qR)) P qR := by
      refine ⟨_, atP, by rw [eL]; exact PySem.TriplesOk_snoc _ _ _ _ ht, fun p' cv hcv => ?_⟩
      rw [eL] at hcv
      rcases among_app _ ht hcv with z | z
      · obtain ⟨c0, e1, e2⟩ := hall p' cv z
        exact ⟨c0, e1, keep _ _ e2 codeO_ne⟩
      · exact ⟨c', z, upd_same⟩
    have hF : ∀ F, Fx F H → Fx F (upd (upd H P (.tbl (ps ++ #[rawInt pos.line, rawInt pos.col, .ref c']))) c' (CodeO c' qR)) := fun F fx => fx_tab fx keep keept tP
    have hco : upd (upd H P (.tbl (ps ++ #[rawInt pos.line, rawInt pos.col, .ref c']))) c' (CodeO c' qR) c' = some (CodeO c' qR) := upd_same
    generalize upd (upd H P (.tbl (ps ++ #[rawInt pos.line, rawInt pos.col, .ref c']))) c' (CodeO c' qR) = H1 at I1 hE hF hco
    have n1 : H1 h1.objs.size = none := I1.hok.fresh (Nat.le_refl _)
    have J := inv_lam (F := ⟨"<lambda>", qR, params, [], scope, cloFrom X.env.cells scope.names [], c'⟩) (body := body) (pm := (X.mg "__name__").getD .none) (ctv := ctv) (t := tk) (h1 := h1) I1 (fun _ _ e => e) (Nat.le_refl _)
    exact h h1.objs.size c' _ _ J (hE.trans (Hx.of (Ex.new n1))) (fun F fx => (hF F fx).ext (Ex.new n1)) (hE.back n1) upd_same (Ex.new n1 _ _ hco)
/-- the reading of a lambda -/
def tLamO (P : Addr) (body : Expr) (mk : Addr → NF) : TE := fun _ H Q => TabS H P qR ∧ ∀ (f c' : Addr) (H1 : Hp), Hx H H1 → (∀ F, Fx F H → Fx F H1) → H f = none → H1 f = some (LamO f body (mk c')) → H1 c' = some (CodeO c' qR) → Q (.ref f) H1
theorem pe_lam {c P : Addr} {params : Arguments} {body : Expr} {scope : Scope} {pos : Pos} (TB : TabB X.base X.mg c P) (hcode : X.env.code = .ref c) (hq : X.env.qual ++ "<lambda>" = qR) (hdef : defaultsOf params X.env = ([], []))
    (hfree : ∀ y ∈ scope.names, y.2 = .free → X.env.scope.names.lookup y.1 = some .cell ∨ X.env.scope.names.lookup y.1 = some .free) : PE X (.Lambda params body scope pos) (tLamO P body fun c' => ⟨"<lambda>", qR, params, [], scope, cloFrom X.env.cells scope.names [], c'⟩) := by
  refine ⟨fun pins s σ H Q I h => ?_⟩
  obtain ⟨hT, h⟩ := h
  exact lam_make3 I TB hcode hq hT hdef (fun y hy e => (hfree y hy e).elim (fun z => I.ok.has _ (.inl z)) fun z => I.ok.has _ (.inr z)) fun f c' H1 s' I1 a1 a2 a3 a4 a5 => ⟨.ref f, H1, I1, rfl, h f c' H1 a1 a2 a3 a4 a5⟩
end
/-! ### a built-in with keywords, its reading told of the slots -/
def CallRS (X : Cx) (f : Value) (ks : List Str) (r : L2.St → List V → List V → Hp → VK → Prop) : Prop :=
  ∀ (pins : List (Addr × Obj)) (s : Shared) (σ : L2.St) (H : Hp) (xs zs : List V) (us ws : List Value) (Q : VK), Inv X pins σ H s → Vals xs us → Vals zs ws → r σ xs zs H Q → wpAny (model X.prog X.w) X.A (call f us (ks.zip ws)) (EP X pins σ Q) X.xe s
def tCKwS (r : L2.St → List V → List V → Hp → VK → Prop) (t tk : TA) : TE := fun σ H Q => t σ H fun vs H1 => tk σ H1 fun zs H2 => r σ vs zs H2 Q
section
variable {X : Cx} {x : Str} {p pos : Pos} {e : Expr} {es : List Expr} {kws : List Keyword} {t tk : TA} {id : String} {ks : List Str} {r : L2.St → List V → List V → Hp → VK → Prop}
theorem pe_callBS (hc : CallRS X (.builtin id) ks r) (hg : Gl X x) (hm : X.mg x = none) (hv : bootBuiltins x = some (.builtin id)) (ha : PA X (e :: es) t) (hk : PK X kws tk) (hn : x ≠ "__name__" := by decide) (hdb : (x == ("__debug__" : Str)) = false := by decide)
    (h1 : backTo pos (starEach (e :: es) X.env) = (false, eval e X.env) :: backTo pos (starEach es X.env) := by rfl) (h2 : (backTo pos (starEach (e :: es) X.env)).any (·.1) = false := by rfl)
    (h3 : (backToKw pos (keywordEach kws X.env)).all (·.1.isSome) = true := by rfl) (h4 : (backToKw pos (keywordEach kws X.env)).any (·.1.isNone) = false := by rfl) (h5 : (backToKw pos (keywordEach kws X.env)).filterMap (·.1) = ks := by rfl) :
    PE X (.Call (.Name x p) (e :: es) kws pos) (tCKwS r t tk) := by
  refine ⟨fun pins s σ H Q I h => wpAny_Call_Name_kw (ld_blt I hg hm hv ?_ hn hdb)⟩
  refine PyProof.Rows.callWith_kw (thn (ha.run pos pins s σ H _ I h) fun us sa ⟨vs, Ha, Ia, ra, qa⟩ => thn (hk.run pos pins sa σ Ha _ Ia qa) fun ws sb ⟨zs, Hb, Ib, rb, qb⟩ => ?_) h1 h2 h3 h4
  rw [h5]
  exact hc pins sb σ Hb vs zs us ws Q Ib ra rb qb
/-- the reading of sorted(.., key=..) by the lambda F of one parameter: tb reads its body; js: where the captured names stand -/
def rSortLam (K : PySem.W.Frag) (body : Expr) (mk : Addr → NF) (N : List Str) (js : List Nat) (tb : TE) : L2.St → List V → List V → Hp → VK → Prop := fun σ vs zs H Q => ∃ (a f c' : Addr) (xs : List V) (kz : List PyData) (W : Nat → Hp → List V → Prop), vs = [.ref a] ∧ zs = [.ref f] ∧ SqL K H a xs ∧ xs.length = kz.length ∧ AllAlike kz ∧ Sortable kz ∧ (∀ d ∈ kz, d.depth ≤ 50) ∧ W 0 H [] ∧
  (∀ i x H1 ks, xs[i]? = some x → W i H1 ks → H1 f = some (LamO f body (mk c')) ∧ H1 c' = some (CodeO c' qR) ∧ tb (startF N [x] (js.map (slotAt σ))) H1 (fun y H2 => W (i + 1) H2 (ks ++ [y]))) ∧ ∀ H1 ks, W xs.length H1 ks → EachIs (KeyIs H1) ks kz ∧ ∀ p, H1 p = none → Q (.ref p) (upd H1 p (.lst (sortBy xs kz)))
theorem cr_sortLam {params : Arguments} {body : Expr} {scope : Scope} {N fr : List Str} {js : List Nat} {tb : TE} {y : Str} {k : Nat} (S : NScope N [y] fr scope) (hr : Room (k + 3) X.A)
    (hb : ∀ (c' : Addr) (pm ctv v : Value), bindArgs (PySem.W.kla_fn "<lambda>" qR params body scope (cloFrom X.env.cells scope.names []) pm (.ref c') ctv) ⟨[v], []⟩ = pure [(y, v)]) (cp : X.Ok → Caps X (cloFrom X.env.cells scope.names []) fr js)
    (hbody : ∀ (f c' : Addr) (A : Around) (outer : List Env) (s : Shared) (H : Hp), Room k (A.deeper (envF ⟨"<lambda>", qR, params, [], scope, cloFrom X.env.cells scope.names [], c'⟩ f s.heap.objs.size)) → PE (ncx CX0 X.prog X.w X.K X.mg X.base N ⟨"<lambda>", qR, params, [], scope, cloFrom X.env.cells scope.names [], c'⟩ f A outer s H (fun _ _ _ => False)) body tb) :
    CallRS X (.builtin "sorted") [Str.ofString "key"] (rSortLam X.K body (fun c' => ⟨"<lambda>", qR, params, [], scope, cloFrom X.env.cells scope.names [], c'⟩) N js tb) := by
  intro pins s σ H vs zs us ws Q I r rz h
  obtain ⟨a, f, c', xs, kz, W, rfl, rfl, hs, hlen, hal, hsk, hd, w0, step, fin⟩ := h
  obtain rfl := Vals.ref1 r
  obtain rfl := Vals.ref1 rz
  have hr2 : Room (k + 1) X.A.in1.in1 := (Room.in1 (k := k + 2) hr).in1
  refine sort_core I hs hlen hal hsk (fun d hd' => ?_) W w0 (fun i x0 v H1 kl s1 ex rx hw I1 un => ?_) fin
  · have := hd d hd'
    have := hr.un
    omega
  · obtain ⟨hf, hc, ht⟩ := step i x0 H1 kl ex hw
    obtain ⟨pm, ctv, of1⟩ := lamO_at I1.hok hf
    have e0 : Env0 X.prog X.w X.K X.mg X.base X.A.in1.in1 X.stack s1 H1 := I1.env0.in1.in1
    have lim : s1.heap.NoLimit := e0.mod.nolimit.keeps fun b o e => (e0.bs b o e).1
    refine PySem.W.kla_callFunE hr2.depth of1 rfl S.co S.gen rfl (codeO_at I1.hok hc) ?_
    rw [hb c' pm ctv v]
    refine wpAny_pure (wpAny_newFunctionEnv S.nocell (fun z hz => ?_) (fun h1 hns hsb => ⟨lim.fresh _ hsb, ?_⟩) S.kind)
    · rw [List.mem_singleton.mp hz]
      exact S.par y (by simp)
    show codeAny _ _ (.expr body (envF ⟨"<lambda>", qR, params, [], scope, cloFrom X.env.cells scope.names [], c'⟩ f s1.heap.objs.size)) _ _
    have kp : ∀ b o, s1.heap.get? b = some o → h1.get? b = some o := fun b o e => hsb.extBut b o (Nat.ne_of_lt (Heap.lt_size e)) (Heap.get?_push_of_some _ e)
    have J := inv_startN (CX := CX0) (E := fun _ _ _ => False) (N := N) (F := ⟨"<lambda>", qR, params, [], scope, cloFrom X.env.cells scope.names [], c'⟩) (f := f) (us := [v]) (vs := [x0]) (tk := s1.toks + ([(y, v)] : List (Str × Value)).length) S hr2.hd e0 rfl (.cons rx .nil) (cells_of I1 (cp I1.ok)) hns kp
    refine PySem.W.kla_codeExpr (wpAny_mono ((hbody f c' _ _ s1 H1 (hr2.deeper _)).run [] _ _ H1 _ J ht) (fun u s2 hq => ?_) fun er s2 hq => hq)
    obtain ⟨w', H', J', rv, q⟩ := hq
    exact ⟨w', H', J'.os, J'.bare, J'.base, J'.hok, rv, q⟩
end
end Py
/-! Shapes: dicts, more loops, rows compared and counted, sorted by keys. -/
namespace Py
open PySem PySem.Spec PyProof.Rows L2
open PySem.W (AllAlike Sortable EachIs dataLe)
open Evl (Ex ex_l ex_t sq_of st_of sz_of sz_lt)
/-! ### dicts -/
def isDic : Sl → Bool
  | .dic _ => true
  | _ => false
def onlyD : Nat → List Sl → Bool
  | _, [] => true
  | 0, _ :: ss => ss.all fun s => !isDic s
  | i + 1, s :: ss => !isDic s && onlyD i ss
section
variable {H0 F H : Hp} {a : Addr} {kvs0 kvs : List (Key × V)} {l l' : List (Int × List Int)}
theorem slot_dic {s : Sl} {o : Option V} {u : HO} (ha : H a = some (.dK kvs0)) (hn : (!isDic s) = true) (h : SlOk H0 F H s o) : SlOk H0 F (upd H a u) s o := by
  cases s with
  | x => trivial
  | v s => exact h
  | own l =>
    obtain ⟨b, vs, h1, h2, h3, h4, h5⟩ := h
    exact ⟨b, vs, h1, h2, h3, by rw [upd_ne fun z => by rw [z, ha] at h4; cases h4]; exact h4, h5⟩
  | dic l => cases hn
  | ob b C p q =>
    obtain ⟨dx, v1, v2, h1, h2, h3, h4, h5⟩ := h
    exact ⟨dx, v1, v2, h1, h2, h3, by rw [upd_ne fun z => by rw [z, ha] at h4; cases h4]; exact h4, h5⟩
theorem slots_dic {u : HO} (ha : H a = some (.dK kvs0)) : ∀ {ss : List Sl} {σ : List (Option V)}, (ss.all fun s => !isDic s) = true → SlsOk H0 F H ss σ → SlsOk H0 F (upd H a u) ss σ
  | [], _, _, h => h
  | s :: ss, σ, hn, h => by
    rw [List.all_cons, Bool.and_eq_true] at hn
    obtain ⟨o, r, h1, h2, h3⟩ := h
    exact ⟨o, r, h1, slot_dic ha hn.1 h2, slots_dic ha hn.2 h3⟩
theorem slots_put (ha : H a = some (.dK kvs0)) (h0 : H0 a = none) (hF : F a = none) (hk : IsD F l' kvs) :
    ∀ {i : Nat} {ss : List Sl} {σ : List (Option V)}, onlyD i ss = true → ss[i]? = some (.dic l) → σ[i]? = some (some (.ref a)) → SlsOk H0 F H ss σ → SlsOk H0 F (upd H a (.dK kvs)) (ss.set i (.dic l')) σ
  | i, [], _, _, e, _, _ => by simp at e
  | 0, s :: ss, σ, ho, e, eσ, h => by
    obtain ⟨o, r, rfl, h3, h4⟩ := h
    have eo : o = some (.ref a) := Option.some.inj eσ
    exact ⟨o, r, rfl, ⟨a, kvs, eo, h0, hF, upd_same, hk⟩, slots_dic ha ho h4⟩
  | i + 1, s :: ss, σ, ho, e, eσ, h => by
    obtain ⟨o, r, rfl, h3, h4⟩ := h
    rw [onlyD, Bool.and_eq_true] at ho
    exact ⟨o, r, rfl, slot_dic ha ho.1 h3, slots_put ha h0 hF hk ho.2 (by simpa using e) (by simpa using eσ) h4⟩
end
theorem dic_raw {sls : List Sl} {i : Nat} {l : List (Int × List Int)} (h : sls[i]? = some (.dic l)) {F0 H0 F H : Hp} {σ : L2.St} (k : Ok F0 H0 F H σ sls) : ∃ a kvs, σ[i]? = some (some (.ref a)) ∧ H0 a = none ∧ F a = none ∧ H a = some (.dK kvs) ∧ IsD F l kvs := by
  obtain ⟨o, e, a, kvs, rfl, h1, h2, h3, h4⟩ := k.st.get h
  exact ⟨a, kvs, e, h1, h2, h3, h4⟩
/-- the entry of n -/
def getD? (l : List (Int × List Int)) (n : Int) : Option (List Int) := (l.find? fun p => decide (p.1 = n)).map (·.2)
theorem isD_get {F : Hp} {n : Int} {v : List Int} : ∀ {l : List (Int × List Int)} {kvs : List (Key × V)}, IsD F l kvs → getD? l n = some v → ∃ x, valV kvs (Sum.inl n) = some x ∧ IsV F (li v) x
  | [], kvs, _, e => by cases e
  | (m, w) :: l, kvs, h, e => by
    obtain ⟨h1, h2⟩ := h
    cases kvs with
    | nil => cases h1
    | cons kv kvs =>
      obtain ⟨kk, kx⟩ := kv
      rw [List.map_cons, List.map_cons] at h1
      injection h1 with h3 h4
      have h3 : kk = Sum.inl m := h3
      subst h3
      obtain ⟨x0, r0, e0, g1, g2⟩ := h2
      have e1 : kx = x0 := by injection e0
      have e2 : kvs.map (·.2) = r0 := by injection e0
      subst e1
      subst e2
      unfold getD? at e
      rw [List.find?_cons] at e
      by_cases c : m = n
      · rw [decide_eq_true c] at e
        have e : some w = some v := e
        cases e
        exact ⟨kx, valV_pos (by show (Sum.inl m : Key) = Sum.inl n; rw [c]), g1⟩
      · rw [decide_eq_false c] at e
        obtain ⟨x, y1, y2⟩ := isD_get (l := l) (kvs := kvs) ⟨h4, g2⟩ e
        refine ⟨x, ?_, y2⟩
        unfold valV at y1 ⊢
        rw [List.find?_cons, show decide ((Sum.inl m : Key) = Sum.inl n) = false from decide_eq_false fun z => c (by injection z)]
        exact y1
theorem isD_put {F : Hp} {n : Int} {v : List Int} {x : V} {l : List (Int × List Int)} {kvs : List (Key × V)} (h : IsD F l kvs) (hn : ∀ p ∈ l, p.1 ≠ n) (hx : IsV F (li v) x) : IsD F (l ++ [(n, v)]) (putK kvs (Sum.inl n) x) := by
  have hno : (kvs.any fun kv => decide (kv.1 = (Sum.inl n : Key))) = false := by
    rw [List.any_eq_false]
    intro kv hkv hc
    have e := of_decide_eq_true hc
    have hm : kv.1 ∈ kvs.map (·.1) := List.mem_map.mpr ⟨kv, hkv, rfl⟩
    rw [h.1] at hm
    obtain ⟨p, hp, ep⟩ := List.mem_map.mp hm
    rw [e] at ep
    have ep : p.1 = n := by injection ep
    exact hn p hp ep
  unfold putK
  rw [hno, if_neg (by decide)]
  refine ⟨?_, ?_⟩
  · rw [List.map_append, List.map_append, h.1]; rfl
  · rw [List.map_append, List.map_append]
    exact h.2.append (IsVs.cons hx IsVs.nil)
section
variable {K : PySem.W.Frag} {sls : List Sl} {ta tb te : TE} {s : Sh} {N B C : List Sl → Prop} {R : List Sl → Sh → Prop} {tz tu : TS}
theorem run_dnew {i : Nat} (hN : N (sls.set i (.dic []))) : Run (tAsg tDNewK (gName i)) sls N R B C := fun F0 H0 F H σ k D d1 _ _ _ => by
  intro p hp
  have g : Grow F H F (upd H p (.dK [])) := Grow.layO k.fh hp
  have k' := k.grow g
  exact d1 F _ _ _ ⟨k'.e0, k'.g, k'.st.set i (s := .dic []) ⟨p, [], rfl, k.g.hh.back hp, k.fh.back hp, upd_same, rfl, rfl⟩, k'.ap.put fun l h => by cases h⟩ (Ex.refl F) hN
theorem q_dnew {i : Nat} (hz : Run tz (sls.set i (.dic [])) N R B C) : Run (tSeq (tAsg tDNewK (gName i)) tz) sls N R B C :=
  run_seq (M := fun s' => s' = sls.set i (.dic [])) (run_dnew rfl) (fun s' e => by rw [e]; exact hz)
theorem e_dget {i : Nat} {l : List (Int × List Int)} {n : Int} {v : List Int} (h : sls[i]? = some (.dic l)) (hb : E tb sls (.i n)) (hv : getD? l n = some v) : E (tDGet (tVar i) tb) sls (li v) := fun F0 H0 F H σ k Q q => by
  obtain ⟨a, kvs, e, h1, h2, h3, h4⟩ := dic_raw h k
  refine ⟨_, e, hb F0 H0 F H σ k _ fun y F1 H1 g1 hy => ?_⟩
  obtain rfl : y = .int n := hy
  obtain ⟨a', kvs', e', _, _, h3', h4'⟩ := dic_raw h (k.grow g1)
  rw [e] at e'
  cases e'
  obtain ⟨x, y1, y2⟩ := isD_get h4' hv
  exact ⟨a, x, rfl, by rw [← y1]; exact DGet.k (k := Sum.inl n) h3', q x F1 H1 g1 y2⟩
theorem run_dput {i : Nat} {l : List (Int × List Int)} {n : Int} {v : List Int} (h : sls[i]? = some (.dic l)) (ho : onlyD i sls = true) (he : E te sls (li v)) (hb : E tb sls (.i n)) (hn : ∀ p ∈ l, p.1 ≠ n) (hl : l.length ≤ 1000) (hN : N (sls.set i (.dic (l ++ [(n, v)])))) : Run (tAsg te (gSub (tVar i) tb rSetD)) sls N R B C := fun F0 H0 F H σ k D d1 _ _ _ => by
  refine he F0 H0 F H σ k _ fun x F1 H1 g1 hx => ?_
  obtain ⟨a, kvs, e, _⟩ := dic_raw h k
  refine ⟨_, e, hb F0 H0 F1 H1 σ (k.grow g1) _ fun y F2 H2 g2 hy => ?_⟩
  obtain rfl : y = .int n := hy
  have k2 := (k.grow g1).grow g2
  obtain ⟨a', kvs', e', z1, z2, z3, z4⟩ := dic_raw h k2
  rw [e] at e'
  cases e'
  have hlen : kvs'.length = l.length := by have := congrArg List.length z4.1; simpa using this
  refine ⟨a, _, rfl, DPut.k (k := Sum.inl n) z3 (Nat.lt_of_le_of_lt (by rw [hlen]; exact hl) (by decide)), ?_⟩
  refine d1 F2 _ σ _ ⟨k2.e0, k2.g.mut z1 z2 (by rw [z3]; trivial), slots_put z3 z1 z2 (isD_put z4 hn (IsV.mono g2.ff _ _ hx)) ho h e k2.st, fun p q l1 l2 b e1 e2 e3 e4 => ?_⟩ (g1.ff.trans g2.ff) hN
  have np : ∀ p l1, (sls.set i (Sl.dic (l ++ [(n, v)])))[p]? = some (Sl.own l1) → sls[p]? = some (Sl.own l1) := fun p l1 e1 => by
    rw [List.getElem?_set] at e1
    split at e1
    · split at e1 <;> cases e1
    · exact e1
  exact k2.ap p q l1 l2 b (np p l1 e1) (np q l2 e2) e3 e4
/-! ### more walks -/
/-- [e for k in range(a, b) if t] -/
theorem en_lcR2 {tt : TT} {ta : TA} {a b : Int} {j : Nat} (h : EA ta sls [.i a, .i b]) (p : Nat → Bool) (val : Nat → Sh) (ha : -1000 ≤ a ∧ a ≤ 100000) (hb : -1000 ≤ b ∧ b ≤ 100000) (hn : (b - a).toNat ≤ 40000)
    (ht : ∀ i : Nat, i < (b - a).toNat → ET tt (sls.set j (.v (.i (a + (i : Int))))) (p i)) (he : ∀ i : Nat, i < (b - a).toNat → p i = true → E te (sls.set j (.v (.i (a + (i : Int))))) (val i)) :
    EN (tLc (iRng2 ta) (gName j) tt te [j]) sls (givenS (b - a).toNat p val) := fun F0 H0 F H σ k Q q =>
  h F0 H0 F H σ k _ fun vs F1 H1 g1 h1 => by
    obtain ⟨v, r, rfl, hv, v2, r2, rfl, hv2, hr⟩ := h1
    obtain rfl : v = .int a := hv
    obtain rfl : v2 = .int b := hv2
    obtain rfl : r2 = [] := hr
    refine ⟨a, b, rfl, ⟨by omega, by omega, by omega, by omega⟩, fun D hD => lc_run walk_range (σ := σ) (vs := [j]) (slsw := sls.set j .x) ((k.grow g1).putX) (fun _ _ _ _ => trivial) hD (fun i s2 => s2 = sls.set j (.v (.i (a + (i : Int))))) (fun i H' H'' F' x hi e' k' y Q q => ?_) p val (fun i s2 hi e => by rw [e]; exact ht i hi) (fun i s2 hi e hp => by rw [e]; exact he i hi hp) hn (fun F' H' acc g' h4 h5 h6 => q D acc F' H' (g1.trans g') (g1.hh.back hD) h4 h5 h6)⟩
    obtain ⟨rfl, rfl⟩ := y
    exact q F' H'' _ _ (Grow.refl k'.fh) (k'.put (i := j) (s := .i (a + (i : Int))) rfl) wipe1 (by rw [List.set_set])
/-- for x in reversed(l) -/
theorem run_forV {ta : TA} {l : List Sh} {j : Nat} (h : EA ta sls [.L l]) (I : Nat → List Sl → Prop) (h0 : I 0 sls) (hs : ∀ i s' x, l[l.length - 1 - i]? = some x → i < l.length → I i s' → Run tu (s'.set j (.v x)) (I (i + 1)) R N (I (i + 1))) (hd : ∀ s', I l.length s' → N s') : Run (tFor (iRev K ta) (gName j) tu) sls N R B C := fun F0 H0 F H σ k D d1 d2 d3 d4 =>
  h F0 H0 F H σ k _ fun vs F1 H1 g1 h1 => by
    obtain ⟨v, r, rfl, hv, hr⟩ := h1
    obtain rfl : r = [] := hr
    obtain ⟨p, xs, rfl, h2, h3⟩ := hv
    have hl := h3.len
    refine ⟨p, xs, rfl, sq_of (g1.fh _ _ h2), run_forW (walk_rev (xs := xs)) (k.grow g1) (fun F' H' σ' s' k' e n => d1 F' H' σ' s' k' (g1.ff.trans e) n) d2 (fun F' H' e e' => sq_of (e' _ _ (e _ _ h2))) (fun i s' s2 => ∃ x, l[l.length - 1 - i]? = some x ∧ i < l.length ∧ s2 = s'.set j (.v x)) (fun i σ' H' H'' F' s' x hi k' e' y Q q => ?_) I h0 (fun i s' s2 hi hI ⟨x, hx, hi2, e⟩ => by rw [e]; exact hs i s' x hx hi2 hI) (fun s' hI => hd s' (by rw [← hl]; exact hI))⟩
    obtain ⟨rfl, hx⟩ := y
    rw [hl] at hx hi
    obtain ⟨sx, es, hsx⟩ := h3.get hx
    exact q F' H'' _ _ (k'.put (IsV.mono e' _ _ hsx)) (Ex.refl F') ⟨sx, es, hi, rfl⟩
theorem q_forV {ta : TA} {l : List Sh} {j : Nat} (h : EA ta sls [.L l]) (I : Nat → List Sl → Prop) (h0 : I 0 sls) (hs : ∀ i s' x, l[l.length - 1 - i]? = some x → i < l.length → I i s' → Run tu (s'.set j (.v x)) (I (i + 1)) R (fun s2 => Run tz s2 N R B C) (I (i + 1))) (hd : ∀ s', I l.length s' → Run tz s' N R B C) : Run (tSeq (tFor (iRev K ta) (gName j) tu) tz) sls N R B C :=
  run_seq (M := fun s' => Run tz s' N R B C) (run_forV h I h0 hs hd) (fun s' h => h)
theorem tup_target {F0 H0 F H : Hp} {σ : L2.St} {sls : List Sl} {i j : Nat} {v : V} {sx sy : Sh} (k : Ok F0 H0 F H σ sls) (hv : IsV F (.T [sx, sy]) v) {Q : L2.St → Hp → Prop}
    (q : ∀ x y, Ok F0 H0 F H ((σ.set i (some x)).set j (some y)) ((sls.set i (.v sx)).set j (.v sy)) → Q ((σ.set i (some x)).set j (some y)) H) : gTup K 2 (gCons (gName i) (gCons (gName j) gNil)) v σ H Q := by
  obtain ⟨T, vs, rfl, hT, x, r, rfl, hx, y, r2, rfl, hy, hr⟩ := hv
  obtain rfl : r2 = [] := hr
  exact ⟨T, [x, y], rfl, st_of (k.fh _ _ hT), rfl, x, [y], rfl, y, [], rfl, rfl, q x y ((k.put hx).put hy)⟩
/-- for a, b in l, l of pairs -/
theorem run_forP {A : Type} {tl : TE} {l : List A} {f1 f2 : A → Sh} {j1 j2 : Nat} (h : E tl sls (.L (l.map fun p => .T [f1 p, f2 p]))) (I : Nat → List Sl → Prop) (h0 : I 0 sls) (hs : ∀ (i : Nat) s' p, l[i]? = some p → I i s' → Run tu ((s'.set j1 (.v (f1 p))).set j2 (.v (f2 p))) (I (i + 1)) R N (I (i + 1))) (hd : ∀ s', I l.length s' → N s') :
    Run (tFor (iList K tl) (gTup K 2 (gCons (gName j1) (gCons (gName j2) gNil))) tu) sls N R B C := fun F0 H0 F H σ k D d1 d2 d3 d4 =>
  h F0 H0 F H σ k _ fun v F1 H1 g1 hv => by
    obtain ⟨p, xs, rfl, h2, h3⟩ := hv
    have hl : xs.length = l.length := by rw [h3.len, List.length_map]
    refine ⟨p, rfl, ⟨xs, sq_of (g1.fh _ _ h2)⟩, run_forW (walk_list (xs := xs)) (k.grow g1) (fun F' H' σ' s' k' e n => d1 F' H' σ' s' k' (g1.ff.trans e) n) d2 (fun F' H' e e' => sq_of (e' _ _ (e _ _ h2))) (fun i s' s2 => ∃ x, l[i]? = some x ∧ s2 = (s'.set j1 (.v (f1 x))).set j2 (.v (f2 x))) (fun i σ' H' H'' F' s' x hi k' e' y Q q => ?_) I h0 (fun i s' s2 hi hI ⟨x, hx, e⟩ => by rw [e]; exact hs i s' x hx hI) (fun s' hI => hd s' (by rw [← hl]; exact hI))⟩
    obtain ⟨rfl, hx⟩ := y
    obtain ⟨sx, es, hsx⟩ := h3.get hx
    rw [List.getElem?_map] at es
    cases el : l[i]? with
    | none => rw [el] at es; cases es
    | some z =>
      rw [el] at es
      obtain rfl : sx = .T [f1 z, f2 z] := (Option.some.inj es).symm
      exact tup_target k' (IsV.mono e' _ _ hsx) fun x y k2 => q _ _ _ _ k2 (Ex.refl F') ⟨z, el, rfl⟩
theorem q_forP {A : Type} {tl : TE} {l : List A} {f1 f2 : A → Sh} {j1 j2 : Nat} (h : E tl sls (.L (l.map fun p => .T [f1 p, f2 p]))) (I : Nat → List Sl → Prop) (h0 : I 0 sls) (hs : ∀ (i : Nat) s' p, l[i]? = some p → I i s' → Run tu ((s'.set j1 (.v (f1 p))).set j2 (.v (f2 p))) (I (i + 1)) R (fun s2 => Run tz s2 N R B C) (I (i + 1))) (hd : ∀ s', I l.length s' → Run tz s' N R B C) :
    Run (tSeq (tFor (iList K tl) (gTup K 2 (gCons (gName j1) (gCons (gName j2) gNil))) tu) tz) sls N R B C :=
  run_seq (M := fun s' => Run tz s' N R B C) (run_forP h I h0 hs hd) (fun s' h => h)
/-- [e for a, b in l if t], l of pairs -/
theorem en_lcP {A : Type} {tt : TT} {tl : TE} {l : List A} {f1 f2 : A → Sh} {i j : Nat} (hij : i ≠ j) (h : E tl sls (.L (l.map fun p => .T [f1 p, f2 p]))) (p : Nat → Bool) (val : Nat → Sh) (hl : l.length ≤ 40000)
    (ht : ∀ (n : Nat) x, l[n]? = some x → ET tt ((sls.set i (.v (f1 x))).set j (.v (f2 x))) (p n)) (he : ∀ (n : Nat) x, l[n]? = some x → p n = true → E te ((sls.set i (.v (f1 x))).set j (.v (f2 x))) (val n)) :
    EN (tLc (iList K tl) (gTup K 2 (gCons (gName i) (gCons (gName j) gNil))) tt te [i, j]) sls (givenS l.length p val) := fun F0 H0 F H σ k Q q =>
  h F0 H0 F H σ k _ fun v F1 H1 g1 hv => by
    obtain ⟨a, xs, rfl, h2, h3⟩ := hv
    have l1 : xs.length = l.length := by rw [h3.len, List.length_map]
    refine ⟨a, rfl, ⟨xs, sq_of (g1.fh _ _ h2)⟩, fun D hD => lc_run (walk_list (xs := xs)) (σ := σ) (vs := [i, j]) (slsw := (sls.set j .x).set i .x) (((k.grow g1).putX).putX) (fun F' H' e e' => sq_of (e' _ _ (e _ _ h2))) hD (fun n s2 => ∃ x, l[n]? = some x ∧ s2 = (sls.set i (.v (f1 x))).set j (.v (f2 x))) (fun n H' H'' F' x hi e' k' y Q q => ?_) p val (fun n s2 hi ⟨x, hx, e⟩ => by rw [e]; exact ht n x hx) (fun n s2 hi ⟨x, hx, e⟩ hp => by rw [e]; exact he n x hx hp) (by rw [l1]; exact hl) (fun F' H' acc g' h4 h5 h6 => q D acc F' H' (g1.trans g') (g1.hh.back hD) h4 h5 (by rw [← l1]; exact h6))⟩
    obtain ⟨rfl, hx⟩ := y
    obtain ⟨sx, es, hsx⟩ := h3.get hx
    rw [List.getElem?_map] at es
    cases el : l[n]? with
    | none => rw [el] at es; cases es
    | some z =>
      rw [el] at es
      obtain rfl : sx = .T [f1 z, f2 z] := (Option.some.inj es).symm
      exact tup_target k' (IsV.mono e' _ _ hsx) fun x y k2 => q _ _ _ _ (Grow.refl k'.fh) k2 (wipe2 hij) ⟨z, el, set2 hij⟩
/-! ### sums, rows -/
theorem e_sum {ns : List Int} (h : E te sls (li ns)) : E (tCB (rSum K) (tCons te tNil)) sls (.i ns.sum) := fun F0 H0 F H σ k Q q =>
  h F0 H0 F H σ k _ fun v F1 H1 g1 h1 => by
    obtain ⟨a, vs, rfl, h2, h3⟩ := h1
    rw [(isVs_ints _ _).mp h3] at h2
    exact ⟨a, ns, rfl, sq_of (g1.fh _ _ h2), q _ F1 H1 g1 rfl⟩
abbrev dI (ns : List Int) : PyData := .list (ns.map .int)
theorem dp_ints {H : Hp} : ∀ ns : List Int, DpAll K H (ns.map V.int) (ns.map .int)
  | [] => .nil
  | n :: ns => .cons (.int n) (dp_ints ns)
theorem dp_li {F H : Hp} {ns : List Int} {v : V} (e : Fx F H) (h : IsV F (li ns) v) : Dp K H v (dI ns) := by
  obtain ⟨a, vs, rfl, h2, h3⟩ := h
  rw [(isVs_ints _ _).mp h3] at h2
  exact .lst (sq_of (e _ _ h2)) (dp_ints ns)
theorem dp_rows {F H : Hp} (e : Fx F H) : ∀ {ps : List (List Int)} {vs : List V}, IsVs F (ps.map li) vs → DpAll K H vs (ps.map dI)
  | [], vs, h => by rw [show vs = [] from h]; exact .nil
  | p :: ps, vs, h => by
    obtain ⟨v, r, rfl, h1, h2⟩ := h
    exact .cons (dp_li e h1) (dp_rows e h2)
theorem shaped_dI (ns : List Int) : SeqAt.shaped (dI ns) = true := by
  have h1 : ∀ ns : List Int, PyData.canLayAll0 (ns.map .int) = true := by
    intro ns
    induction ns with
    | nil => rfl
    | cons n ns ih => rw [List.map_cons, PyData.canLayAll0, ih]; rfl
  have h2 := PySem.W.depth_ints ns
  unfold SeqAt.shaped
  simp only [PyData.canLay0, PyData.depth, h1, h2]
  decide
theorem depth_rows : ∀ ps : List (List Int), PyData.depthAll (ps.map dI) ≤ 1
  | [] => by simp [PyData.depthAll]
  | p :: ps => by
    have h2 := PySem.W.depth_ints p
    have h3 := depth_rows ps
    rw [List.map_cons, PyData.depthAll]
    simp only [PyData.depth, h2]
    omega
theorem shaped_rows (ps : List (List Int)) : SeqAt.shaped (.list (ps.map dI)) = true := by
  have h1 : ∀ ns : List Int, PyData.canLayAll0 (ns.map .int) = true := by
    intro ns
    induction ns with
    | nil => rfl
    | cons n ns ih => rw [List.map_cons, PyData.canLayAll0, ih]; rfl
  have h3 : ∀ ps : List (List Int), PyData.canLayAll0 (ps.map dI) = true := by
    intro ps
    induction ps with
    | nil => rfl
    | cons p ps ih => rw [List.map_cons, PyData.canLayAll0, ih]; simp [PyData.canLay0, h1]
  have h4 := depth_rows ps
  unfold SeqAt.shaped
  simp only [PyData.canLay0, PyData.depth, h3, Bool.true_and, Bool.and_true, decide_eq_true_eq]
  exact decide_eq_true (by omega)
theorem eqv_dI : ∀ p q : List Int, PyData.eqv (dI p) (dI q) = decide (p = q) := by
  have h : ∀ p q : List Int, PyData.eqvAll (p.map .int) (q.map .int) = decide (p = q) := by
    intro p
    induction p with
    | nil => intro q; cases q <;> simp [PyData.eqvAll]
    | cons a p ih =>
      intro q
      cases q with
      | nil => simp [PyData.eqvAll]
      | cons b q =>
        rw [List.map_cons, List.map_cons, PyData.eqvAll, ih, PyData.eqv]
        by_cases c : a = b
        · subst c; by_cases d : p = q <;> simp [d]
        · simp [c]
  intro p q
  rw [PyData.eqv, h]
theorem any_rows (p : List Int) (ps : List (List Int)) : ((ps.map dI).any fun z => PyData.eqv z (dI p)) = decide (p ∈ ps) := by
  induction ps with
  | nil => simp
  | cons q ps ih =>
    rw [List.map_cons, List.any_cons, ih, eqv_dI]
    by_cases c : q = p
    · subst c; simp
    · by_cases d : p ∈ ps <;> simp [c, d, Ne.symm c]
/-- x not in rows, of lists of whole numbers -/
theorem e_notin {p : List Int} {ps : List (List Int)} (ha : E ta sls (li p)) (hb : EL tb sls (ps.map li)) : E (tOp (rNotInD K) ta tb) sls (.b (!decide (p ∈ ps))) := fun F0 H0 F H σ k Q q =>
  ha F0 H0 F H σ k _ fun x F1 H1 g1 h1 => hb F0 H0 F1 H1 σ (k.grow g1) _ fun b vs F2 H2 g2 h2 h3 => by
    refine ⟨dI p, ps.map dI, dp_li g2.fh (IsV.mono g2.ff _ _ h1), .lst (sq_of h2) (dp_rows g2.fh h3), shaped_dI p, shaped_rows ps, q _ F2 H2 (g1.trans g2) ?_⟩
    show V.bl _ = V.bl _
    rw [any_rows]
end
/-! ### count -/
def rCntD (K : PySem.W.Frag) : V → List V → Hp → VK → Prop := fun x xs H Q => ∃ (a : Addr) (y : V) (d : PyData) (ds : List PyData), x = V.ref a ∧ xs = [y] ∧ Dp K H (V.ref a) (.list ds) ∧ Dp K H y d ∧ SeqAt.shaped (.list ds) = true ∧ SeqAt.shaped d = true ∧ Q (.int ((ds.countP fun z => PyData.eqv z d : Nat) : Int)) H
theorem mt_countD {X : Cx} (hu : X.A.units + 65 < cLine) : MtR X "list.count" (rCntD X.K) := by
  intro pins s σ H x xs v us Q I rx rxs h
  obtain ⟨a, y, d, ds, rfl, rfl, hl, hy, sl, sd, q⟩ := h
  cases rx
  obtain ⟨uy, rfl, ry⟩ := rxs.one
  obtain ⟨bs, r1⟩ := Dp.reads I d y uy hy ry
  have hxs : PyData.canLayAll0 ds = true := SeqAt.canLay_of_shaped sl
  have hroom : X.A.units + 1 + min (PyData.depthAll ds) d.depth < cLine := room_in_shaped sd hu
  cases hl with
  | lst hs ha =>
    obtain ⟨its, rv, ⟨⟨cls, dd, data, sls⟩, n, ho, hc, hdn, hdt⟩, hlen⟩ := I.list hs
    simp only at hc hdt
    subst hc hdt
    obtain ⟨as, h4⟩ := Dp.readsAll I ds _ its ha rv
    have hmap : its.map (SeqAt.readOf s.heap) = ds := SeqAt.readsAll_map ds its as hxs h4
    refine call_meets PySem.F.slot_list_count ⟨_, ho, rfl⟩ PySem.F.entry_list_count (PySem.F.args_list_count_2 _ _) (SeqAt.list_countAt a its.toArray n dd sls uy (fun u => PyData.eqv (SeqAt.readOf s.heap u) d))
      ⟨ho, SeqAt.items_eqAt (vs := its.toArray) (show ReadsAll s.heap its.toArray.toList ds as from h4) r1 hxs (SeqAt.canLay_of_shaped sd) hroom, ?_⟩
    refine ⟨.int _, H, I.tok _, ⟨s.toks, ?_⟩, q⟩
    show Value.int _ s.toks = Value.int _ s.toks
    congr 2
    rw [← hmap, List.countP_map]
    simp only [List.toList_toArray]
    rfl
theorem count_rows (p : List Int) (ps : List (List Int)) : (ps.map dI).countP (fun z => PyData.eqv z (dI p)) = ps.count p := by
  induction ps with
  | nil => rfl
  | cons q ps ih =>
    rw [List.map_cons, List.countP_cons, List.count_cons, ih, eqv_dI]
    by_cases c : q = p
    · subst c; simp
    · simp [c]
section
variable {K : PySem.W.Frag} {sls : List Sl} {ta tb te : TE}
theorem e_count {p : List Int} {ps : List (List Int)} (ha : E ta sls (.L (ps.map li))) (hb : E tb sls (li p)) : E (tBM K "list" (rCntD K) ta (tCons tb tNil)) sls (.i ((ps.count p : Nat) : Int)) := fun F0 H0 F H σ k Q q =>
  ha F0 H0 F H σ k _ fun x F1 H1 g1 h1 => by
    obtain ⟨a, vs, rfl, h2, h3⟩ := h1
    refine ⟨Or.inl ⟨rfl, vs, sq_of (g1.fh _ _ h2)⟩, hb F0 H0 F1 H1 σ (k.grow g1) _ fun y F2 H2 g2 h4 => ?_⟩
    refine ⟨a, y, dI p, ps.map dI, rfl, rfl, .lst (sq_of (g2.fh _ _ (g2.ff _ _ h2))) (dp_rows g2.fh (IsVs.mono g2.ff _ _ h3)), dp_li g2.fh h4, shaped_rows ps, shaped_dI p, q _ F2 H2 (g1.trans g2) ?_⟩
    show V.int _ = V.int _
    rw [count_rows]
/-! ### sorted by keys -/
theorem isVs_perm {F : Hp} {ps : List ((Sh × V) × PyData)} (h : ∀ p ∈ ps, IsV F p.1.1 p.1.2) : IsVs F (ps.map fun p => p.1.1) (ps.map fun p => p.1.2) := by
  induction ps with
  | nil => rfl
  | cons p ps ih => exact IsVs.cons (h p (List.mem_cons_self ..)) (ih fun q hq => h q (List.mem_cons_of_mem _ hq))
theorem isVs_zip {F : Hp} : ∀ {ss : List Sh} {vs : List V}, IsVs F ss vs → ∀ p ∈ ss.zip vs, IsV F p.1 p.2
  | [], vs, h, p, hp => by simp at hp
  | s :: ss, vs, h, p, hp => by
    obtain ⟨v, r, rfl, h1, h2⟩ := h
    rcases List.mem_cons.mp hp with e | e
    · rw [e]; exact h1
    · exact isVs_zip h2 p e
theorem isVs_sort {F : Hp} {ss : List Sh} {vs : List V} {kz : List PyData} (h : IsVs F ss vs) (hl : ss.length = kz.length) : IsVs F (sortBy ss kz) (sortBy vs kz) := by
  have lv := h.len
  have e1 : ss = (ss.zip vs).map Prod.fst := by rw [List.map_fst_zip (by omega)]
  have e2 : vs = (ss.zip vs).map Prod.snd := by rw [List.map_snd_zip (by omega)]
  have h1 : sortBy ss kz = (sortBy (ss.zip vs) kz).map Prod.fst := by rw [← sortBy_map, ← e1]
  have h2 : sortBy vs kz = (sortBy (ss.zip vs) kz).map Prod.snd := by rw [← sortBy_map, ← e2]
  rw [h1, h2]
  unfold sortBy
  rw [List.map_map, List.map_map]
  refine isVs_perm (ps := ((ss.zip vs).zip kz).mergeSort (dataLe false Prod.snd)) fun p hp => ?_
  have hm := (List.mergeSort_perm _ _).mem_iff.mp hp
  exact isVs_zip h _ (List.of_mem_zip hm).1
/-- keys that are lists of whole numbers -/
theorem keys_rows {F H : Hp} (e : Fx F H) : ∀ {ks : List (List Int)} {vs : List V}, IsVs F (ks.map li) vs → EachIs (KeyIs H) vs (ks.map dI)
  | [], vs, h => by rw [show vs = [] from h]; exact .nil
  | k :: ks, vs, h => by
    obtain ⟨v, r, rfl, ⟨a, ws, rfl, h2, h3⟩, h4⟩ := h
    rw [(isVs_ints _ _).mp h3] at h2
    exact .cons ⟨a, k, rfl, e _ _ h2, rfl⟩ (keys_rows e h4)
theorem keys_ints {F H : Hp} : ∀ {ks : List Int} {vs : List V}, IsVs F (ks.map Sh.i) vs → EachIs (KeyIs H) vs (ks.map .int)
  | [], vs, h => by rw [show vs = [] from h]; exact .nil
  | k :: ks, vs, h => by
    obtain ⟨v, r, rfl, h1, h4⟩ := h
    exact .cons h1 (keys_ints h4)
/-- sorted(l, key=f), f a def of one value that gives lists of whole numbers -/
theorem en_sortBy {A : Type} {R : List Sh → Sh → Prop} {q : Addr} {l : List A} {f : A → Sh} {key : A → List Int} (ha : E ta sls (.L (l.map f))) (hb : E tb sls (.o q)) (hR : ∀ x ∈ l, R [f x] (li (key x))) :
    EN (tCKw (rSortBy K q (spP R)) (tCons ta tNil) (tCons tb tNil)) sls ((l.mergeSort fun x y => decide (key x ≤ key y)).map f) := fun F0 H0 F H σ k Q q' =>
  ha F0 H0 F H σ k _ fun v F1 H1 g1 h1 => hb F0 H0 F1 H1 σ (k.grow g1) _ fun z F2 H2 g2 hz => by
    obtain ⟨a, xs, rfl, h2, h3⟩ := h1
    obtain rfl : z = .ref q := hz
    have h3' := IsVs.mono g2.ff _ _ h3
    have lx : xs.length = l.length := by rw [h3.len, List.length_map]
    refine ⟨a, xs, l.map fun x => dI (key x), fun i H' ks => ∃ F', Grow F2 H2 F' H' ∧ IsVs F' ((l.take i).map fun x => li (key x)) ks, rfl, rfl, sq_of (g2.fh _ _ (g2.ff _ _ h2)), by rw [lx, List.length_map], ?_, ?_, ?_, ⟨F2, Grow.refl g2.fh, rfl⟩, fun i x H' ks ex ⟨F', g', hk⟩ => ?_, fun H' ks ⟨F', g', hk⟩ => ?_⟩
    · exact AllAlike.of fun x y => by show PySem.W.alike (dI _) (dI _) = true; rw [PySem.W.alike]; exact PySem.W.alike_ints _ _
    · exact Sortable.others fun x => ⟨(fun z => by cases z), (fun xs z => by cases z)⟩
    · intro d hd
      obtain ⟨x, _, rfl⟩ := List.mem_map.mp hd
      have := PySem.W.depth_ints (key x)
      simp only [PyData.depth, this]
      omega
    · obtain ⟨sx, es, hsx⟩ := h3'.get ex
      rw [List.getElem?_map] at es
      cases el : l[i]? with
      | none => rw [el] at es; cases es
      | some y =>
        rw [el] at es
        obtain rfl : sx = f y := (Option.some.inj es).symm
        refine ⟨F', [f y], _, g'.fh, IsVs.cons (IsV.mono g'.ff _ _ hsx) IsVs.nil, hR y (List.mem_of_getElem? el), fun v F3 H3 g3 hv => ⟨F3, g'.trans g3, ?_⟩⟩
        rw [List.take_add_one, el, List.map_append]
        exact (IsVs.mono g3.ff _ _ hk).append (IsVs.cons hv IsVs.nil)
    · rw [lx, List.take_length] at hk
      have hk2 : IsVs F' ((l.map key).map li) ks := by rw [List.map_map]; exact hk
      have e1 : (l.map fun x => dI (key x)) = (l.map key).map dI := by rw [List.map_map]; rfl
      refine ⟨by rw [e1]; exact keys_rows g'.fh hk2, fun p hp => ?_⟩
      have gg := (g1.trans g2).trans g'
      refine q' p _ F' _ (gg.trans (Grow.layO gg.fh hp)) (gg.hh.back hp) (gg.fh.back hp) upd_same ?_
      have hs := isVs_sort (F := F') (kz := l.map fun x => dI (key x)) (IsVs.mono g'.ff _ _ h3') (by rw [List.length_map, List.length_map])
      rw [sortBy_map, sortBy_key, PySem.W.dataLe_rows] at hs
      exact hs
/-- the ghost: a list of whole numbers, and the table stands -/
def liT (P : Addr) (ns : List Int) : Sh := .p fun F v => IsV F (li ns) v ∧ F P = some (.tbl #[])
theorem liT_mk {F : Hp} {P : Addr} {ns : List Int} {v : V} (h : IsV F (li ns) v) (hP : F P = some (.tbl #[])) : IsV F (liT P ns) v := ⟨⟨h, hP⟩, fun _ _ e z => ⟨IsV.mono e _ _ z.1, e _ _ z.2⟩⟩
theorem e_liT {P : Addr} {ns : List Int} (h : E te sls (liT P ns)) : E te sls (li ns) := fun F0 H0 F H σ k Q q => h F0 H0 F H σ k Q fun v F' H' g hv => q v F' H' g hv.1.1
theorem e_fstT {i : Nat} {a : Addr} {C : Addr × Addr} {p q : List Int} (T : ObC K C.1) (h : sls[i]? = some (.ob a C p q)) : E (tFld K (tVar i) "first") sls (liT C.2 p) := fun F0 H0 F H σ k Q qq => by
  obtain ⟨_, _, _, _, _, _, _, _, _, hP⟩ := ob_raw h k
  exact e_fst T h F0 H0 F H σ k Q fun v F' H' g hv => qq v F' H' g (liT_mk hv (g.ff _ _ hP))
/-- sorted(l, key=lambda x: ..), a whole number for a key; slot i holds the ghost, slot m what is captured -/
theorem en_sortLam {A : Type} {body : Expr} {mk : Addr → NdefX.NF} {N : List Str} {m : Nat} {tb : TE} {P : Addr} {l : List A} {f : A → Sh} {key : A → Int} {i : Nat} {ns : List Int} {c : Sh} (hP : sls[i]? = some (.v (liT P ns))) (hm : sls[m]? = some (.v c)) (hN : N.length = 2) (ha : E ta sls (.L (l.map f)))
    (hb : ∀ x ∈ l, E tb [.v (f x), .v c] (.i (key x))) :
    EN (tCKwS (rSortLam K body mk N [m] tb) (tCons ta tNil) (tCons (tLamO P body mk) tNil)) sls ((l.mergeSort fun x y => decide (key x ≤ key y)).map f) := fun F0 H0 F H σ k Q q' =>
  ha F0 H0 F H σ k _ fun v F1 H1 g1 h1 => by
    obtain ⟨a, xs, rfl, h2, h3⟩ := h1
    obtain ⟨_, _, _, _, ⟨⟨_, hT⟩, _⟩⟩ := k.st.get hP
    refine ⟨(g1.fh _ _ (g1.ff _ _ hT) : LamX.TabS H1 P qR), fun fl c' H2 hx hf n1 e1 e2 => ?_⟩
    have g2 : Grow F1 H1 F1 H2 := ⟨Ex.refl F1, hf F1 g1.fh, hx, fun _ z => Or.inl z⟩
    have k2 := (k.grow g1).grow g2
    obtain ⟨om, eom, vm, rfl, hvm⟩ := k2.st.get hm
    have lx : xs.length = l.length := by rw [h3.len, List.length_map]
    have nF : F1 fl = none := by
      have : F1 fl = none := g1.fh.back n1
      exact this
    refine ⟨a, fl, c', xs, l.map fun x => .int (key x), fun i H' ks => ∃ F', Grow F1 H2 F' H' ∧ H' fl = some (LamO fl body (mk c')) ∧ H' c' = some (LamX.CodeO c' qR) ∧ IsVs F' ((l.take i).map fun x => Sh.i (key x)) ks, rfl, rfl, sq_of (g2.fh _ _ h2), by rw [lx, List.length_map], ?_, ?_, ?_, ⟨F1, Grow.refl g2.fh, e1, e2, rfl⟩, fun i x H' ks ex ⟨F', g', y1, y2, hk⟩ => ⟨y1, y2, ?_⟩, fun H' ks ⟨F', g', _, _, hk⟩ => ?_⟩
    · exact AllAlike.of fun x y => rfl
    · exact Sortable.others fun x => ⟨(fun z => by cases z), (fun xs z => by cases z)⟩
    · intro d hd
      obtain ⟨x, _, rfl⟩ := List.mem_map.mp hd
      show PyData.depth (.int _) ≤ 50
      simp [PyData.depth]
    · obtain ⟨sx, es, hsx⟩ := h3.get ex
      rw [List.getElem?_map] at es
      cases el : l[i]? with
      | none => rw [el] at es; cases es
      | some y =>
        rw [el] at es
        obtain rfl : sx = f y := (Option.some.inj es).symm
        have hst : NdefX.startF N [x] ([m].map (NdefX.slotAt σ)) = [some x, some vm] := by
          unfold NdefX.startF
          have e3 : NdefX.slotAt σ m = some vm := NdefX.slotAt_of eom
          simp only [List.map_cons, List.map_nil, e3, hN, List.length_cons, List.length_nil]
          rfl
        rw [hst]
        have ok0 : Ok F' H' F' H' [some x, some vm] [.v (f y), .v c] := ⟨g'.fh, Grow.refl g'.fh, ⟨_, _, rfl, ⟨x, rfl, IsV.mono g'.ff _ _ hsx⟩, _, _, rfl, ⟨vm, rfl, IsV.mono g'.ff _ _ hvm⟩, rfl⟩, fun p q l1 l2 b w1 _ _ _ => by
          exfalso
          match p, w1 with
          | 0, w1 => cases w1
          | 1, w1 => cases w1
          | p + 2, w1 => simp at w1⟩
        refine hb y (List.mem_of_getElem? el) F' H' F' H' _ ok0 _ fun v F3 H3 g3 hv => ⟨F3, g'.trans g3, g3.hh _ _ y1, g3.hh _ _ y2, ?_⟩
        rw [List.take_add_one, el, List.map_append]
        exact (IsVs.mono g3.ff _ _ hk).append (IsVs.cons hv IsVs.nil)
    · rw [lx, List.take_length] at hk
      have hk2 : IsVs F' ((l.map key).map Sh.i) ks := by rw [List.map_map]; exact hk
      have e3 : (l.map fun x => PyData.int (key x)) = (l.map key).map .int := by rw [List.map_map]; rfl
      refine ⟨by rw [e3]; exact keys_ints hk2, fun p hp => ?_⟩
      have gg := (g1.trans g2).trans g'
      refine q' p _ F' _ (gg.trans (Grow.layO gg.fh hp)) (gg.hh.back hp) (gg.fh.back hp) upd_same ?_
      have hs := isVs_sort (F := F') (kz := l.map fun x => PyData.int (key x)) (IsVs.mono g'.ff _ _ h3) (by rw [List.length_map, List.length_map])
      rw [sortBy_map, sortBy_key, PySem.W.dataLe_int] at hs
      exact hs
end
end Py
/-! The program's search for parts: the candidates, what is found, all parts. -/
namespace MA
open Na05 (toQ content sign whole cleared times div by_)
theorem tr_quot {f g : List Int} (hf : Tr f) (hg : Tr g) (hn : g ≠ []) : Tr (pdiv f g).1 := fun c hc => by
  obtain ⟨_, _, _, _, h3⟩ := pst_ok hf hg hn _ (Nat.le_refl (f.length + 1 - g.length))
  have hc' : (pst f g (f.length + 1 - g.length)).1.getLast? = some c := hc
  by_cases h0 : f.length + 1 - g.length = 0
  · rw [h0] at hc'
    cases hc'
  · rw [h3 h0] at hc'
    rw [← Option.some.inj hc']
    intro z
    have hgl := List.length_pos_iff.mpr hn
    have hfn : f ≠ [] := by intro z2; subst z2; simp at h0; omega
    obtain ⟨a, ea⟩ := exists_last hfn
    obtain ⟨b, eb⟩ := exists_last hn
    rw [getLastD_of ea, getLastD_of eb] at z
    rcases Int.mul_eq_zero.mp z with z | z
    · exact hf a ea z
    · exact hg b eb (pow_zero_of z)
theorem by_pdiv {f g : List Int} (hf : Tr f) (hg : Tr g) (hn : g ≠ []) : bareM (pdiv f g).1 = by_ f g := by
  have hs : (((pdiv f g).2.2 : Int) : Rat) ≠ 0 := intCast_ne (pdiv_scale hf hg hn)
  have tq := tr_quot hf hg hn
  unfold by_
  rw [pdiv_div hf hg hn, cleared_smul (tr_toQ.mpr tq) (by grind), cleared_toQ tq, bareM_is tq]
theorem rest_nil {f g : List Int} (hf : Tr f) (hg : Tr g) (hn : g ≠ []) : (pdiv f g).2.1 = [] ↔ Dv g f := by
  rw [← divides_iff hg hf hn]
  unfold Na05.divides
  rw [if_neg hn, pdiv_div hf hg hn, beq_iff_eq, List.map_eq_nil_iff, toQ_nil_iff]
/-! ### divisors -/
def divI (n : Int) : List Int := ((List.range n.natAbs).filter fun (i : Nat) => decide ((n.natAbs : Int).fmod (1 + (i : Int)) = 0)).map fun (i : Nat) => 1 + (i : Int)
theorem mem_divI {n d : Int} (hn : n ≠ 0) : d ∈ divI n ↔ 0 < d ∧ d ∣ n := by
  unfold divI
  rw [List.mem_map]
  constructor
  · rintro ⟨i, hi, rfl⟩
    obtain ⟨_, h2⟩ := List.mem_filter.mp hi
    have h3 := of_decide_eq_true h2
    rw [Int.fmod_eq_emod_of_nonneg _ (by omega)] at h3
    refine ⟨by omega, ?_⟩
    exact Int.dvd_natAbs.mp (Int.dvd_of_emod_eq_zero h3)
  · rintro ⟨h1, h2⟩
    have h3 : d ∣ (n.natAbs : Int) := Int.dvd_natAbs.mpr h2
    have h4 : d ≤ (n.natAbs : Int) := Int.le_of_dvd (by omega) h3
    refine ⟨d.toNat - 1, List.mem_filter.mpr ⟨List.mem_range.mpr (by omega), decide_eq_true ?_⟩, by omega⟩
    have e : 1 + ((d.toNat - 1 : Nat) : Int) = d := by omega
    rw [e, Int.fmod_eq_emod_of_nonneg _ (by omega)]
    exact Int.emod_eq_zero_of_dvd h3
def sdivI (n : Int) : List Int := divI n ++ (divI n).map fun d => -d
theorem mem_sdivI {n d : Int} (hn : n ≠ 0) : d ∈ sdivI n ↔ d ∣ n := by
  unfold sdivI
  rw [List.mem_append, List.mem_map, mem_divI hn]
  constructor
  · rintro (h | ⟨e, he, rfl⟩)
    · exact h.2
    · exact Int.neg_dvd.mpr ((mem_divI hn).mp he).2
  · intro h
    have h0 : d ≠ 0 := fun z => by subst z; exact hn (Int.zero_dvd.mp h)
    by_cases hp : 0 < d
    · exact Or.inl ⟨hp, h⟩
    · exact Or.inr ⟨-d, (mem_divI hn).mpr ⟨by omega, Int.neg_dvd.mpr h⟩, by omega⟩
theorem divI_len (n : Int) : (divI n).length ≤ n.natAbs := by
  unfold divI
  rw [List.length_map]
  exact Nat.le_trans (List.length_filter_le _ _) (by rw [List.length_range]; exact Nat.le_refl _)
theorem divI_pos {n d : Int} (h : d ∈ divI n) : 0 < d := by
  unfold divI at h
  obtain ⟨i, _, rfl⟩ := List.mem_map.mp h
  omega
theorem divI_le {n d : Int} (h : d ∈ divI n) : d ≤ n.natAbs := by
  unfold divI at h
  obtain ⟨i, hi, rfl⟩ := List.mem_map.mp h
  have := List.mem_range.mp (List.mem_filter.mp hi).1
  omega
theorem sdivI_le {n d : Int} (h : d ∈ sdivI n) : d.natAbs ≤ n.natAbs := by
  unfold sdivI at h
  rcases List.mem_append.mp h with h | h
  · have := divI_pos h; have := divI_le h; omega
  · obtain ⟨e, he, rfl⟩ := List.mem_map.mp h
    have := divI_pos he; have := divI_le he; omega
/-! ### candidates -/
def isP (f g : List Int) : Bool := decide ((pdiv f g).2.1 = [])
def cand1 (f : List Int) : List (List Int) := (divI (f.getLastD 0)).flatMap fun a => (sdivI (f.getD 0 0)).map fun c => [c, a]
def cand2 (f : List Int) : List (List Int) := (divI (f.getLastD 0)).flatMap fun a => (sdivI (f.getD 0 0)).flatMap fun c => (sdivI f.sum).map fun v => [c, v - c - a, a]
def pick (f : List Int) (l : List (List Int)) : List Int := match l.find? (isP f) with
  | some g => bareM g
  | none => []
def P1 (f : List Int) : List Int := pick f (cand1 f)
def P2 (f : List Int) : List Int := pick f (cand2 f)
theorem tr2 {c a : Int} (h : 0 < a) : Tr [c, a] := fun x hx => by have e : a = x := Option.some.inj hx; omega
theorem tr3 {c b a : Int} (h : 0 < a) : Tr [c, b, a] := fun x hx => by have e : a = x := Option.some.inj hx; omega
theorem mem_cand1 {f g : List Int} (h : g ∈ cand1 f) : ∃ c a, 0 < a ∧ g = [c, a] := by
  obtain ⟨a, ha, h2⟩ := List.mem_flatMap.mp h
  obtain ⟨c, _, rfl⟩ := List.mem_map.mp h2
  exact ⟨c, a, divI_pos ha, rfl⟩
theorem mem_cand2 {f g : List Int} (h : g ∈ cand2 f) : ∃ c b a, 0 < a ∧ g = [c, b, a] := by
  obtain ⟨a, ha, h2⟩ := List.mem_flatMap.mp h
  obtain ⟨c, _, h3⟩ := List.mem_flatMap.mp h2
  obtain ⟨v, _, rfl⟩ := List.mem_map.mp h3
  exact ⟨c, _, a, divI_pos ha, rfl⟩
theorem ev_at_one (f : List Int) : ev (toQ f) 1 = ((f.sum : Int) : Rat) := by
  induction f with
  | nil => rfl
  | cons c f ih => rw [toQ_cons, ev_cons, ih, List.sum_cons, Rat.intCast_add]; grind
theorem last_getD {f : List Int} {a : Int} (h : f.getLast? = some a) : f.getLastD 0 = a := getLastD_of h
theorem cand1_all {f g : List Int} (hf : Tr f) (hn : f ≠ []) (h0 : f.getD 0 0 ≠ 0) (hg : Bare g) (hl : g.length = 2) (h : Dv g f) : g ∈ cand1 f := by
  obtain ⟨k, hk, hkn, ek, _⟩ := Dv.whole hg hf hn h
  match g, hl with
  | [c, a], _ =>
    have ha : 0 < a := hg.pos a rfl
    obtain ⟨b, eb⟩ := exists_last hkn
    have e1 := times_last (hg.tr) hk (show [c, a].getLast? = some a from rfl) eb
    rw [← ek] at e1
    have e2 := getD_zero_times hg.tr hk hg.ne hkn
    rw [← ek] at e2
    obtain ⟨z, ez⟩ := exists_last hn
    have hz : f.getLastD 0 ≠ 0 := by rw [getLastD_of ez]; exact hf z ez
    refine List.mem_flatMap.mpr ⟨a, (mem_divI hz).mpr ⟨ha, ?_⟩, List.mem_map.mpr ⟨c, (mem_sdivI h0).mpr ?_, rfl⟩⟩
    · rw [getLastD_of e1]; exact Int.dvd_mul_right a b
    · rw [e2]; exact Int.dvd_mul_right c _
theorem cand2_all {f g : List Int} (hf : Tr f) (hn : f ≠ []) (h0 : f.getD 0 0 ≠ 0) (h1 : f.sum ≠ 0) (hg : Bare g) (hl : g.length = 3) (h : Dv g f) : g ∈ cand2 f := by
  obtain ⟨k, hk, hkn, ek, _⟩ := Dv.whole hg hf hn h
  match g, hl with
  | [c, b, a], _ =>
    have ha : 0 < a := hg.pos a rfl
    obtain ⟨z, ez⟩ := exists_last hkn
    have e1 := times_last (hg.tr) hk (show [c, b, a].getLast? = some a from rfl) ez
    rw [← ek] at e1
    have e2 := getD_zero_times hg.tr hk hg.ne hkn
    rw [← ek] at e2
    have e3 : f.sum = (c + (b + (a + 0))) * k.sum := by
      have := ev_times hg.tr hk (1 : Rat)
      rw [← ek, ev_at_one, ev_at_one, ev_at_one, ← Rat.intCast_mul] at this
      exact Rat.intCast_inj.mp this
    obtain ⟨z', ez'⟩ := exists_last hn
    have hz : f.getLastD 0 ≠ 0 := by rw [getLastD_of ez']; exact hf z' ez'
    refine List.mem_flatMap.mpr ⟨a, (mem_divI hz).mpr ⟨ha, ?_⟩, List.mem_flatMap.mpr ⟨c, (mem_sdivI h0).mpr ?_, List.mem_map.mpr ⟨c + (b + (a + 0)), (mem_sdivI h1).mpr ?_, ?_⟩⟩⟩
    · rw [getLastD_of e1]; exact Int.dvd_mul_right a z
    · rw [e2]; exact Int.dvd_mul_right c _
    · rw [e3]; exact Int.dvd_mul_right _ _
    · congr 2; omega
/-- what is picked divides; where none is, none does -/
theorem pick_some {f : List Int} {l : List (List Int)} (hf : Tr f) (hl : ∀ g ∈ l, Tr g ∧ g ≠ []) (h : pick f l ≠ []) : ∃ g ∈ l, pick f l = whole g ∧ Bare (whole g) ∧ Dv (whole g) f := by
  unfold pick at h ⊢
  cases e : l.find? (isP f) with
  | none => rw [e] at h; exact absurd rfl h
  | some g =>
    have hm := List.mem_of_find?_eq_some e
    obtain ⟨h1, h2⟩ := hl g hm
    have hp1 : isP f g = true := List.find?_some e
    have hp : (pdiv f g).2.1 = [] := of_decide_eq_true hp1
    exact ⟨g, hm, bareM_is h1, whole_bare h1 h2, (dv_whole h1 h2).mpr ((rest_nil hf h1 h2).mp hp)⟩
theorem pick_none {f : List Int} {l : List (List Int)} (hf : Tr f) (hl : ∀ g ∈ l, Tr g ∧ g ≠ []) (h : pick f l = []) : ∀ g ∈ l, ¬ Dv g f := fun g hg hd => by
  unfold pick at h
  cases e : l.find? (isP f) with
  | none =>
    have := List.find?_eq_none.mp e g hg
    obtain ⟨h1, h2⟩ := hl g hg
    exact this (decide_eq_true ((rest_nil hf h1 h2).mpr hd))
  | some k =>
    rw [e] at h
    obtain ⟨h1, h2⟩ := hl k (List.mem_of_find?_eq_some e)
    have h : bareM k = [] := h
    rw [bareM_is h1] at h
    exact (whole_bare h1 h2).ne h
theorem cand1_tr (f : List Int) : ∀ g ∈ cand1 f, Tr g ∧ g ≠ [] := fun g hg => by
  obtain ⟨c, a, ha, rfl⟩ := mem_cand1 hg
  exact ⟨tr2 ha, by simp⟩
theorem cand2_tr (f : List Int) : ∀ g ∈ cand2 f, Tr g ∧ g ≠ [] := fun g hg => by
  obtain ⟨c, b, a, ha, rfl⟩ := mem_cand2 hg
  exact ⟨tr3 ha, by simp⟩
/-- no part of the first degree, no root -/
theorem no_root1 {f : List Int} (hf : Tr f) (hn : f ≠ []) (h0 : f.getD 0 0 ≠ 0) (h : P1 f = []) (r : Rat) : ev (toQ f) r ≠ 0 := fun z =>
  pick_none hf (cand1_tr f) h _ (cand1_all hf hn h0 (lin_bare r) rfl (dv_lin z)) (dv_lin z)
def lowP (f : List Int) : List Int := if f.getD 0 0 = 0 then [0, 1] else if 3 ≤ f.length ∧ P1 f ≠ [] then P1 f else if 5 ≤ f.length ∧ P2 f ≠ [] then P2 f else f
theorem bare_x : Bare [0, 1] := ⟨by decide, fun c hc => by have e : (1 : Int) = c := Option.some.inj hc; subst e; decide⟩
theorem lowP_ok {f : List Int} (hf : Bare f) (h2 : 2 ≤ f.length) (h6 : f.length ≤ 6) : Irr (lowP f) ∧ Dv (lowP f) f := by
  unfold lowP
  by_cases h0 : f.getD 0 0 = 0
  · rw [if_pos h0]
    refine ⟨irr_two bare_x rfl, ?_⟩
    have := dv_lin (f := f) (r := 0) (by rw [ev_at_zero, h0]; rfl)
    exact this
  · rw [if_neg h0]
    by_cases c1 : 3 ≤ f.length ∧ P1 f ≠ []
    · rw [if_pos c1]
      obtain ⟨g, hm, e, hb, hd⟩ := pick_some hf.tr (cand1_tr f) c1.2
      obtain ⟨c, a, ha, rfl⟩ := mem_cand1 hm
      show Irr (pick f (cand1 f)) ∧ Dv (pick f (cand1 f)) f
      rw [e]
      exact ⟨irr_two hb (by rw [whole_len]; rfl), hd⟩
    · rw [if_neg c1]
      by_cases l3 : 3 ≤ f.length
      · have n1 : P1 f = [] := Classical.byContradiction fun z => c1 ⟨l3, z⟩
        have hno := no_root1 hf.tr hf.ne h0 n1
        by_cases c2 : 5 ≤ f.length ∧ P2 f ≠ []
        · rw [if_pos c2]
          obtain ⟨g, hm, e, hb, hd⟩ := pick_some hf.tr (cand2_tr f) c2.2
          obtain ⟨c, b, a, ha, rfl⟩ := mem_cand2 hm
          show Irr (pick f (cand2 f)) ∧ Dv (pick f (cand2 f)) f
          rw [e]
          exact ⟨irr_small hb (by rw [whole_len]; simp) (by rw [whole_len]; simp) (fun r z => hno r (root_of_dv hd z)), hd⟩
        · rw [if_neg c2]
          refine ⟨?_, Dv.refl f⟩
          by_cases l4 : f.length ≤ 4
          · exact irr_small hf h2 l4 hno
          · have n2 : P2 f = [] := Classical.byContradiction fun z => c2 ⟨by omega, z⟩
            have h1 : f.sum ≠ 0 := fun z => hno 1 (by rw [ev_at_one, z]; rfl)
            have key : ∀ g k, Bare g → Bare k → f = times g k → g.length ≠ 3 := fun g k hg hk e hl => by
              have hd : Dv g f := by rw [e]; exact Dv.of_times hg.tr hk.tr
              exact pick_none hf.tr (cand2_tr f) n2 _ (cand2_all hf.tr hf.ne h0 h1 hg hl hd) hd
            refine ⟨hf, h2, fun g k hg hk e => ?_⟩
            have hlen := times_len hg.tr hk.tr hg.ne hk.ne
            rw [← e] at hlen
            obtain ⟨m1, m2⟩ := no_two hf hno hg hk e
            have m3 := key g k hg hk e
            have m4 := key k g hk hg (by rw [e, times_comm hg.tr hk.tr])
            omega
      · rw [if_neg (by omega)]
        exact ⟨irr_two hf (by omega), Dv.refl f⟩
/-! ### all parts -/
def nextP (f : List Int) : List Int := bareM (pdiv f (lowP f)).1
theorem next_ok {f : List Int} (hf : Bare f) (h2 : 2 ≤ f.length) (h6 : f.length ≤ 6) : Bare (nextP f) ∧ f = times (lowP f) (nextP f) ∧ (nextP f).length < f.length := by
  obtain ⟨hi, hd⟩ := lowP_ok hf h2 h6
  have hw := whole_of_bare hi.bare
  obtain ⟨b1, b2⟩ := by_part hf hi.bare.tr hi.bare.ne (by rw [hw]; exact hd)
  rw [hw] at b2
  have e : nextP f = by_ f (lowP f) := by_pdiv hf.tr hi.bare.tr hi.bare.ne
  rw [e]
  refine ⟨b1, b2, ?_⟩
  have hlen := times_len hi.bare.tr b1.tr hi.bare.ne b1.ne
  rw [← b2] at hlen
  have := hi.deg
  omega
def allP : Nat → List Int → List (List Int)
  | 0, _ => []
  | n + 1, f => if f.length ≤ 1 then [] else lowP f :: allP n (nextP f)
theorem allP_ok : ∀ (n : Nat) (f : List Int), Bare f → f.length ≤ n + 1 → f.length ≤ 6 → (∀ p ∈ allP n f, Irr p) ∧ prod (allP n f) = f
  | 0, f, hf, hl, _ => ⟨fun p hp => (by cases hp), (bare_const hf hl).symm⟩
  | n + 1, f, hf, hl, h6 => by
    rw [allP]
    by_cases h1 : f.length ≤ 1
    · rw [if_pos h1]
      exact ⟨fun p hp => (by cases hp), (bare_const hf h1).symm⟩
    · rw [if_neg h1]
      obtain ⟨hi, _⟩ := lowP_ok hf (by omega) h6
      obtain ⟨b1, b2, b3⟩ := next_ok hf (by omega) h6
      obtain ⟨i1, i2⟩ := allP_ok n (nextP f) b1 (by omega) (by omega)
      refine ⟨fun p hm => ?_, ?_⟩
      · rcases List.mem_cons.mp hm with e | e
        · rw [e]; exact hi
        · exact i1 p e
      · show times (lowP f) (prod (allP n (nextP f))) = f
        rw [i2, ← b2]
theorem prod_deg : ∀ {l : List (List Int)}, (∀ p ∈ l, Irr p) → l.length + 1 ≤ (prod l).length
  | [], _ => by decide
  | p :: l, h => by
    have h1 := h p (List.mem_cons_self ..)
    have h2 : ∀ q ∈ l, Irr q := fun q hq => h q (List.mem_cons_of_mem _ hq)
    have hb : Bare (prod l) := bare_prod fun q hq => (h2 q hq).bare
    have hlen := times_len h1.bare.tr hb.tr h1.bare.ne hb.ne
    have ih := prod_deg h2
    have := h1.deg
    show l.length + 1 + 1 ≤ (times p (prod l)).length
    omega
/-- the parts of f -/
def parts (f : List Int) : List (List Int) := allP f.length (bareM f)
theorem parts_ok {f : List Int} (hf : Tr f) (hn : f ≠ []) (h6 : f.length ≤ 6) : (∀ p ∈ parts f, Irr p) ∧ prod (parts f) = whole f := by
  unfold parts
  rw [bareM_is hf]
  exact allP_ok _ _ (whole_bare hf hn) (by rw [whole_len]; omega) (by rw [whole_len]; exact h6)
theorem parts_nil : parts [] = [] := rfl
theorem parts_len {f : List Int} (hf : Tr f) (h6 : f.length ≤ 6) : (parts f).length ≤ 5 := by
  by_cases hn : f = []
  · subst hn; decide
  · obtain ⟨h1, h2⟩ := parts_ok hf hn h6
    have := prod_deg h1
    rw [h2, whole_len] at this
    omega
theorem irreducible_is {f : List Int} (hf : Tr f) (h6 : f.length ≤ 6) : Na05.irreducible f = decide ((parts f).length = 1) := by
  by_cases hn : f = []
  · subst hn; decide
  · obtain ⟨h1, h2⟩ := parts_ok hf hn h6
    have key : Na05.irreducible f = true ↔ (parts f).length = 1 := by
      rw [irreducible_iff hf h6]
      constructor
      · rintro ⟨hd, hi⟩
        have hperm := apart_unique (l := parts f) (l' := [whole f]) h1 (fun p hp => by rw [List.mem_singleton.mp hp]; exact hi) (by rw [h2]; show whole f = times (whole f) [1]; rw [times_one hi.bare.tr])
        rw [hperm.length_eq]; rfl
      · intro hl
        match hp : parts f, hl with
        | [p], _ =>
          rw [hp] at h1 h2
          have hpi := h1 p (by simp)
          have e : times p [1] = whole f := h2
          rw [times_one hpi.bare.tr] at e
          rw [← e]
          refine ⟨?_, hpi⟩
          have := hpi.deg
          rw [e, whole_len] at this
          exact this
    cases hc : Na05.irreducible f with
    | true => rw [decide_eq_true (key.mp hc)]
    | false => rw [decide_eq_false fun z => by rw [key.mpr z] at hc; cases hc]
end MA
/-! The parts counted, in order; the whole number; the roots. -/
namespace MA
open Na05 (toQ content sign whole cleared times div by_ earlier fraction rationals)
/-! ### the order -/
def keyP (p : List Int) : List Int := ((p.length : Int) - 1) :: p
theorem lt_earlier : ∀ {a b : List Int}, a.length = b.length → (a < b ↔ earlier a b = true)
  | [], [], _ => by simp [earlier]
  | [], _ :: _, h => by simp at h
  | _ :: _, [], h => by simp at h
  | x :: a, y :: b, h => by
    rw [List.cons_lt_cons_iff, lt_earlier (a := a) (b := b) (by simpa using h), earlier, Bool.or_eq_true, Bool.and_eq_true, decide_eq_true_eq, beq_iff_eq]
theorem key_lt (x y : List Int) : keyP x < keyP y ↔ Lt x y := by
  unfold keyP Lt
  rw [List.cons_lt_cons_iff]
  constructor
  · rintro (h | ⟨h1, h2⟩)
    · exact Or.inl (by omega)
    · have hl : x.length = y.length := by omega
      exact Or.inr ⟨hl, (lt_earlier hl).mp h2⟩
  · rintro (h | ⟨h1, h2⟩)
    · exact Or.inl (by omega)
    · exact Or.inr ⟨by omega, (lt_earlier h1).mpr h2⟩
theorem key_le (x y : List Int) : keyP x ≤ keyP y ↔ ¬ Lt y x := by rw [← List.not_lt, key_lt]
def sortP (l : List (List Int)) : List (List Int) := l.mergeSort fun x y => decide (keyP x ≤ keyP y)
theorem sortP_ok (l : List (List Int)) : (sortP l).Pairwise (fun x y => ¬ Lt y x) ∧ (sortP l).Perm l := by
  refine ⟨?_, List.mergeSort_perm _ _⟩
  have h := List.pairwise_mergeSort (le := fun x y => decide (keyP x ≤ keyP y)) (fun a b c h1 h2 => ?_) (fun a b => ?_) l
  · exact h.imp fun {x y} hxy => (key_le x y).mp (of_decide_eq_true hxy)
  · have h1 := (key_le a b).mp (of_decide_eq_true h1)
    have h2 := (key_le b c).mp (of_decide_eq_true h2)
    refine decide_eq_true ((key_le a c).mpr fun z => ?_)
    by_cases e : a = b
    · subst e; exact h2 z
    · exact h2 (Lt.trans z (Lt.total (fun q => e q.symm) h1))
  · rw [Bool.or_eq_true, decide_eq_true_eq, decide_eq_true_eq, key_le, key_le]
    by_cases c : Lt b a
    · exact Or.inr fun z => Lt.irrefl a (Lt.trans z c)
    · exact Or.inl c
/-! ### each once -/
def once (acc l : List (List Int)) : List (List Int) := l.foldl (fun acc p => if p ∈ acc then acc else acc ++ [p]) acc
theorem once_ok : ∀ (l acc : List (List Int)), (acc ++ l).Pairwise (fun x y => ¬ Lt y x) → acc.Pairwise Lt → (once acc l).Pairwise Lt ∧ ∀ p, p ∈ once acc l ↔ p ∈ acc ∨ p ∈ l
  | [], acc, _, h => ⟨h, fun p => by show p ∈ acc ↔ _; simp⟩
  | q :: l, acc, h1, h2 => by
    show (once (if q ∈ acc then acc else acc ++ [q]) l).Pairwise Lt ∧ ∀ p, p ∈ once (if q ∈ acc then acc else acc ++ [q]) l ↔ _
    by_cases hq : q ∈ acc
    · rw [if_pos hq]
      obtain ⟨i1, i2⟩ := once_ok l acc (h1.sublist (List.Sublist.append (List.Sublist.refl acc) (List.sublist_cons_self q l))) h2
      refine ⟨i1, fun p => ?_⟩
      rw [i2, List.mem_cons]
      constructor
      · rintro (z | z)
        · exact Or.inl z
        · exact Or.inr (Or.inr z)
      · rintro (z | z | z)
        · exact Or.inl z
        · subst z; exact Or.inl hq
        · exact Or.inr z
    · rw [if_neg hq]
      obtain ⟨i1, i2⟩ := once_ok l (acc ++ [q]) (by rw [List.append_assoc]; exact h1) (by
        rw [List.pairwise_append]
        refine ⟨h2, List.pairwise_singleton _ _, fun a ha b hb => ?_⟩
        rw [List.mem_singleton.mp hb]
        have := (List.pairwise_append.mp h1).2.2 a ha q (List.mem_cons_self ..)
        exact Lt.total (fun z => hq (by rw [z]; exact ha)) this)
      refine ⟨i1, fun p => ?_⟩
      rw [i2, List.mem_append, List.mem_singleton, List.mem_cons, or_assoc]
def diff (f : List Int) : List (List Int) := once [] (sortP (parts f))
theorem diff_ok (f : List Int) : (diff f).Pairwise Lt ∧ ∀ p, p ∈ diff f ↔ p ∈ parts f := by
  obtain ⟨h1, h2⟩ := sortP_ok (parts f)
  obtain ⟨i1, i2⟩ := once_ok (sortP (parts f)) [] h1 List.Pairwise.nil
  refine ⟨i1, fun p => ?_⟩
  unfold diff
  rw [i2, h2.mem_iff]
  simp
theorem diff_len (f : List Int) : (diff f).length ≤ (parts f).length := by
  have hl : ∀ (l acc : List (List Int)), (once acc l).length ≤ acc.length + l.length := by
    intro l
    induction l with
    | nil => intro acc; exact Nat.le_refl _
    | cons p l ih =>
      intro acc
      show (once (if p ∈ acc then acc else acc ++ [p]) l).length ≤ _
      refine Nat.le_trans (ih _) ?_
      rw [List.length_cons]
      split
      · omega
      · rw [List.length_append]; simp; omega
  have := hl (sortP (parts f)) []
  rw [(sortP_ok (parts f)).2.length_eq] at this
  unfold diff
  simpa using this
def counted (f : List Int) : List (List Int × Nat) := (diff f).map fun p => (p, (parts f).count p)
theorem often_map {c : List Int → Nat} {p : List Int} : ∀ {D : List (List Int)}, D.Pairwise Lt → often p (D.map fun q => (q, c q)) = if p ∈ D then c p else 0
  | [], _ => rfl
  | q :: D, h => by
    obtain ⟨h1, h2⟩ := List.pairwise_cons.mp h
    have ih := often_map (c := c) (p := p) h2
    rw [List.map_cons, often]
    by_cases e : q = p
    · rw [if_pos (show ((q, c q) : List Int × Nat).1 = p from e), if_pos (by rw [e]; exact List.mem_cons_self ..)]
      show c q = c p
      rw [e]
    · rw [if_neg (show ¬ ((q, c q) : List Int × Nat).1 = p from e), ih]
      by_cases m : p ∈ D
      · rw [if_pos m, if_pos (List.mem_cons_of_mem _ m)]
      · rw [if_neg m, if_neg fun z => (List.mem_cons.mp z).elim (fun z => e z.symm) m]
theorem apart_counted {f : List Int} (hf : Tr f) (hn : f ≠ []) (h6 : f.length ≤ 6) : Na05.apart f = (sign f * (content f : Int), counted f) := by
  obtain ⟨h1, h2⟩ := parts_ok hf hn h6
  obtain ⟨d1, d2⟩ := diff_ok f
  refine apart_is hf hn h6 (l := parts f) h1 h2 ?_ ?_ ?_
  · show (counted f).Pairwise fun x y => Lt x.1 y.1
    unfold counted
    rw [List.pairwise_map]
    exact d1
  · intro x hx
    obtain ⟨p, hp, rfl⟩ := List.mem_map.mp hx
    exact List.count_pos_iff.mpr ((d2 p).mp hp)
  · intro p
    unfold counted
    rw [often_map d1]
    split
    · rfl
    · rename_i hm
      exact (List.count_eq_zero.mpr fun z => hm ((d2 p).mpr z)).symm
/-! ### the whole number -/
theorem whole_num {f : List Int} (hf : Tr f) (hn : f ≠ []) : (f.getLastD 0).fdiv ((bareM f).getLastD 0) = sign f * (content f : Int) ∧ 0 < (bareM f).getLastD 0 := by
  have hb := whole_bare hf hn
  obtain ⟨a, ea⟩ := exists_last hb.ne
  have hp := hb.pos a ea
  have e := whole_smul hf hn
  have el : f.getLast? = some ((sign f * (content f : Int)) * a) := by
    rw [e, List.getLast?_map, ea, ← e]; rfl
  rw [bareM_is hf, getLastD_of ea, getLastD_of el]
  refine ⟨?_, hp⟩
  exact Int.mul_fdiv_cancel _ (by omega)
/-! ### the roots -/
def rho (p : List Int) : Rat := ((p.getD 1 0 : Int) : Rat)⁻¹ * ((-(p.getD 0 0) : Int) : Rat)
theorem rho_lin (r : Rat) : rho (lin r) = r := by
  show ((r.den : Int) : Rat)⁻¹ * ((-(-r.num) : Int) : Rat) = r
  rw [Int.neg_neg]
  have h := rat_eq r
  have hd := den_ne r
  have e : ((r.den : Int) : Rat) = (r.den : Rat) := rfl
  rw [e]
  grind
theorem lin_rho {p : List Int} (hp : Bare p) (hl : p.length = 2) : lin (rho p) = p := by
  obtain ⟨r, hr⟩ := root_of_two hp hl
  have hd := dv_lin hr
  have e : lin r = p := irr_dv (irr_two (lin_bare r) rfl) (irr_two hp hl) hd
  rw [← e, rho_lin]
def linear (f : List Int) : List (List Int) := (diff f).filter fun p => decide ((p.length : Int) - 1 = 1)
theorem mem_linear {f p : List Int} : p ∈ linear f ↔ p ∈ parts f ∧ p.length = 2 := by
  unfold linear
  rw [List.mem_filter, (diff_ok f).2, decide_eq_true_eq]
  constructor
  · rintro ⟨a, b⟩; exact ⟨a, by omega⟩
  · rintro ⟨a, b⟩; exact ⟨a, by omega⟩
theorem root_linear {f : List Int} (hf : Tr f) (hn : f ≠ []) (h6 : f.length ≤ 6) (r : Rat) : r ∈ (linear f).map rho ↔ ev (toQ f) r = 0 := by
  obtain ⟨h1, h2⟩ := parts_ok hf hn h6
  rw [List.mem_map]
  constructor
  · rintro ⟨p, hp, rfl⟩
    obtain ⟨m1, m2⟩ := mem_linear.mp hp
    have hi := h1 p m1
    have e := lin_rho hi.bare m2
    have hr : ev (toQ p) (rho p) = 0 := by
      have := ev_lin (rho p) (rho p)
      rw [e] at this
      rw [this]; grind
    have hd : Dv p (prod (parts f)) := by
      have : ∀ {l : List (List Int)}, (∀ q ∈ l, Irr q) → p ∈ l → Dv p (prod l) := by
        intro l hl hm
        induction l with
        | nil => cases hm
        | cons q l ih =>
          have hb : Bare (prod l) := bare_prod fun z hz => (hl z (List.mem_cons_of_mem _ hz)).bare
          have hq := (hl q (List.mem_cons_self ..)).bare
          rcases List.mem_cons.mp hm with e | e
          · rw [e]; exact Dv.of_times hq.tr hb.tr
          · refine (ih (fun z hz => hl z (List.mem_cons_of_mem _ hz)) e).trans ?_
            show Dv (prod l) (times q (prod l))
            rw [times_comm hq.tr hb.tr]
            exact Dv.of_times hb.tr hq.tr
      exact this h1 m1
    rw [h2] at hd
    exact (root_whole hf hn _).mp (root_of_dv hd hr)
  · intro hz
    refine ⟨lin r, mem_linear.mpr ⟨?_, rfl⟩, rho_lin r⟩
    have hd := dv_lin ((root_whole hf hn r).mpr hz)
    rw [← h2] at hd
    exact irr_in_prod (irr_two (lin_bare r) rfl) h1 hd
theorem rho_nodup {f : List Int} (hf : Tr f) (hn : f ≠ []) (h6 : f.length ≤ 6) : ((linear f).map rho).Nodup := by
  obtain ⟨h1, _⟩ := parts_ok hf hn h6
  have hd : (linear f).Nodup := by
    unfold linear
    refine List.Pairwise.filter _ ((diff_ok f).1.imp ?_)
    intro x y h z
    subst z
    exact Lt.irrefl x h
  rw [List.nodup_iff_pairwise_ne, List.pairwise_map]
  rw [List.nodup_iff_pairwise_ne] at hd
  refine hd.imp_of_mem ?_
  intro x y hx hy hne z
  apply hne
  obtain ⟨a1, a2⟩ := mem_linear.mp hx
  obtain ⟨b1, b2⟩ := mem_linear.mp hy
  rw [← lin_rho (h1 x a1).bare a2, ← lin_rho (h1 y b1).bare b2, z]
theorem eq_of_rising : ∀ {l m : List Rat}, l.Pairwise (· < ·) → m.Pairwise (· < ·) → (∀ r, r ∈ l ↔ r ∈ m) → l = m
  | [], [], _, _, _ => rfl
  | [], y :: m, _, _, h => by have := (h y).mpr (List.mem_cons_self ..); cases this
  | x :: l, [], _, _, h => by have := (h x).mp (List.mem_cons_self ..); cases this
  | x :: l, y :: m, hl, hm, h => by
    obtain ⟨l1, l2⟩ := List.pairwise_cons.mp hl
    obtain ⟨m1, m2⟩ := List.pairwise_cons.mp hm
    have e : x = y := by
      rcases List.mem_cons.mp ((h x).mp (List.mem_cons_self ..)) with e | e
      · exact e
      · rcases List.mem_cons.mp ((h y).mpr (List.mem_cons_self ..)) with e2 | e2
        · exact e2.symm
        · have h1 := m1 x e
          have h2 := l1 y e2
          grind
    subst e
    congr 1
    refine eq_of_rising l2 m2 fun r => ?_
    constructor
    · intro hr
      rcases List.mem_cons.mp ((h r).mp (List.mem_cons_of_mem _ hr)) with e | e
      · subst e; exact absurd (l1 r hr) Rat.lt_irrefl
      · exact e
    · intro hr
      rcases List.mem_cons.mp ((h r).mpr (List.mem_cons_of_mem _ hr)) with e | e
      · subst e; exact absurd (m1 r hr) Rat.lt_irrefl
      · exact e
/-- a root's key: so many times the root -/
def keyR (scale : Int) (r : List Int) : Int := r.getD 0 0 * scale.fdiv (r.getD 1 0)
theorem den_dvd {f : List Int} (hf : Tr f) (hn : f ≠ []) {r : Rat} (h : ev (toQ f) r = 0) : (r.den : Int) ∣ f.getLastD 0 := by
  obtain ⟨k, hk, hkn, ek, _⟩ := Dv.whole (lin_bare r) hf hn (dv_lin h)
  obtain ⟨b, eb⟩ := exists_last hkn
  have e1 := times_last (lin_bare r).tr hk (show (lin r).getLast? = some (r.den : Int) from rfl) eb
  rw [← ek] at e1
  rw [getLastD_of e1]
  exact Int.dvd_mul_right _ b
theorem keyR_is {s : Int} {r : Rat} (h : (r.den : Int) ∣ s) : ((keyR s (fraction r) : Int) : Rat) = (s : Rat) * r := by
  obtain ⟨t, rfl⟩ := h
  have hd : (r.den : Int) ≠ 0 := by have := r.den_pos; omega
  show ((r.num * ((r.den : Int) * t).fdiv (r.den : Int) : Int) : Rat) = _
  rw [Int.mul_fdiv_cancel_left _ hd, Rat.intCast_mul, Rat.intCast_mul]
  have h1 := rat_eq r
  have h2 := den_ne r
  have e : ((r.den : Int) : Rat) = (r.den : Rat) := rfl
  rw [e]
  grind
def rootsL (f : List Int) : List (List Int) := (linear f).map fun p => lowest (-(p.getD 0 0)) (p.getD 1 0)
theorem roots_is {f : List Int} (hf : Tr f) (hn : f ≠ []) (h6 : f.length ≤ 6) : (rootsL f).mergeSort (fun x y => decide (keyR ((f.getLastD 0).natAbs : Int) x ≤ keyR ((f.getLastD 0).natAbs : Int) y)) = (rationals f).map fraction := by
  obtain ⟨h1, _⟩ := parts_ok hf hn h6
  obtain ⟨z, ez⟩ := exists_last hn
  have hz : f.getLastD 0 ≠ 0 := by rw [getLastD_of ez]; exact hf z ez
  have e1 : rootsL f = ((linear f).map rho).map fraction := by
    unfold rootsL
    rw [List.map_map]
    refine List.map_congr_left fun p hp => ?_
    obtain ⟨m1, m2⟩ := mem_linear.mp hp
    have hb := (h1 p m1).bare
    match p, m2 with
    | [c, a], _ =>
      have ha : 0 < a := hb.pos a rfl
      exact (lowest_is (-c) a (by omega)).symm
  have hdv : ∀ r ∈ (linear f).map rho, (r.den : Int) ∣ ((f.getLastD 0).natAbs : Int) := fun r hr => Int.dvd_natAbs.mpr (den_dvd hf hn ((root_linear hf hn h6 r).mp hr))
  have hs : (0 : Rat) < (((f.getLastD 0).natAbs : Int) : Rat) := by
    have : (0 : Int) < ((f.getLastD 0).natAbs : Int) := by omega
    exact_mod_cast this
  rw [e1, ← List.map_mergeSort (r := fun r s => decide (r ≤ s)) (s := fun x y => decide (keyR ((f.getLastD 0).natAbs : Int) x ≤ keyR ((f.getLastD 0).natAbs : Int) y)) (f := fraction) (fun r hr s hs' => ?_)]
  · congr 1
    have hp := List.pairwise_mergeSort (le := fun (r s : Rat) => decide (r ≤ s)) (fun a b c h1 h2 => decide_eq_true (Rat.le_trans (of_decide_eq_true h1) (of_decide_eq_true h2))) (fun a b => by rw [Bool.or_eq_true, decide_eq_true_eq, decide_eq_true_eq]; exact Rat.le_total) ((linear f).map rho)
    have hperm := List.mergeSort_perm ((linear f).map rho) (fun (r s : Rat) => decide (r ≤ s))
    have hnd := hperm.nodup_iff.mpr (rho_nodup hf hn h6)
    obtain ⟨r1, r2⟩ := rationals_ok hf hn
    refine eq_of_rising ?_ r1 fun r => ?_
    · rw [List.nodup_iff_pairwise_ne] at hnd
      exact (hp.and hnd).imp fun {x y} hxy => Rat.lt_of_le_of_ne (of_decide_eq_true hxy.1) hxy.2
    · rw [hperm.mem_iff, root_linear hf hn h6, r2]
  · have k1 := keyR_is (hdv r hr)
    have k2 := keyR_is (hdv s hs')
    have key : (r ≤ s) ↔ keyR ((f.getLastD 0).natAbs : Int) (fraction r) ≤ keyR ((f.getLastD 0).natAbs : Int) (fraction s) := by
      rw [← Rat.intCast_le_intCast, k1, k2]
      generalize (((f.getLastD 0).natAbs : Int) : Rat) = q at hs
      constructor
      · intro h; exact Rat.mul_le_mul_of_nonneg_left h (Rat.le_of_lt hs)
      · intro h
        apply Classical.byContradiction
        intro hn
        have := Rat.mul_lt_mul_of_pos_left (Rat.not_le.mp hn) hs
        grind
    exact decide_eq_decide.mpr key
end MA
/-! Square-free: sizes; values; the circle's as the program makes them. -/
namespace MA
open Na05 (toQ content sign whole cleared times div by_ common slope fraction zahl)
/-- the size of what Euclid's way ends with -/
def gcS (B : Nat) : Nat → Nat → Nat → Nat → Nat → Bool
  | 0, _, _, x, _ => decide (x ≤ B)
  | n + 1, la, lb, x, y => if lb = 0 then decide (x ≤ B) else (List.range lb).all fun lr => gcS B n lb lr y (x + (la + 1 - lb) * (y + 1))
theorem gcS_ok {B : Nat} : ∀ (n : Nat) {a b : List Int} {x y : Nat}, Tr a → Tr b → Bd x a → Bd y b → gcS B n a.length b.length x y = true → Bd B (gcLoop n a b)
  | 0, a, b, x, y, _, _, ha, _, h => by
    have h : decide (x ≤ B) = true := h
    exact ha.mono (of_decide_eq_true h)
  | n + 1, a, b, x, y, ta, tb, ha, hb, h => by
    rw [gcLoop]
    rw [gcS] at h
    by_cases hn : b = []
    · rw [if_pos hn]
      rw [if_pos (by rw [hn]; rfl)] at h
      exact ha.mono (of_decide_eq_true h)
    · rw [if_neg hn]
      rw [if_neg fun z => hn (List.length_eq_zero_iff.mp z)] at h
      simp only [List.all_eq_true, List.mem_range] at h
      have hr : (bareM (pdiv a b).2.1).length < b.length := by
        have := rem_len ta tb hn
        rw [rem_is ta tb hn] at this
        exact this
      have tr : Tr (pdiv a b).2.1 := trimG_tr _
      have br : Bd (x + (a.length + 1 - b.length) * (y + 1)) (pdiv a b).2.1 := (pst_size ha hb _).1.trim
      exact gcS_ok n tb (tr_bare tr) hb (br.bare tr) (h _ hr)
theorem gcS_66 : ∀ i, i < 7 → gcS 400 i i (i - 1) 8 8 = true := by decide +kernel
theorem slope_bd {f : List Int} {b : Nat} (hf : Tr f) (hl : f.length ≤ 32) (h : Bd b f) : Bd (b + 5) (slope f) := by
  rw [← slope_is hf]
  intro c hc
  unfold slopeM at hc
  have hc := List.mem_of_mem_drop hc
  obtain ⟨⟨x, i⟩, hm, rfl⟩ := List.mem_map.mp hc
  obtain ⟨_, h2, h3⟩ := List.mem_zipIdx hm
  have hx : x ∈ f := by rw [h3]; exact List.getElem_mem _
  have h4 := h x hx
  have h5 : ((i : Int)).natAbs < 2 ^ 5 := by
    have : i < f.length := by omega
    show (i : Int).natAbs < 32
    omega
  have := mul_lt h5 h4
  rw [Nat.add_comm b 5]
  exact this
theorem slope_bd8 {f : List Int} (hf : HandP f) : Bd 8 (slope f) := by
  rw [← slope_is hf.tr]
  intro c hc
  unfold slopeM at hc
  have hc := List.mem_of_mem_drop hc
  obtain ⟨⟨x, i⟩, hm, rfl⟩ := List.mem_map.mp hc
  obtain ⟨_, h2, h3⟩ := List.mem_zipIdx hm
  have hx : x ∈ f := by rw [h3]; exact List.getElem_mem _
  have h4 := hf.le x hx
  have hl := hf.len
  have hi : i ≤ 5 := by omega
  show ((i : Int) * x).natAbs < 256
  rw [Int.natAbs_mul, Int.natAbs_natCast]
  have := Nat.mul_le_mul hi h4
  omega
theorem tr_slope {f : List Int} : Tr (slope f) := trimG_tr _
/-- what the square-free one asks of sizes -/
structure SqP (f : List Int) : Prop where
  ok : gcOk ((slope f).length + 1) (bareM f) (bareM (slope f)) = true
  bd : Bd 400 (common f (slope f))
  quot : Bd 9000 (pdiv f (common f (slope f))).1
theorem sq_hand {f : List Int} (hf : HandP f) (hn : f ≠ []) : SqP f := by
  have hs := slope_bd8 hf
  have hl := slope_len hf.tr
  have h6 := hf.len
  have hp := List.length_pos_iff.mpr hn
  have hb : Bd 400 (common f (slope f)) := by
    rw [← common_is hf.tr tr_slope (n := f.length) (by omega)]
    refine gcS_ok _ (tr_bare hf.tr) (tr_bare tr_slope) (x := 8) (y := 8) ((hf.bd.bare hf.tr).mono (by decide)) (hs.bare tr_slope) ?_
    rw [bareM_len hf.tr, bareM_len tr_slope, hl]
    exact gcS_66 _ (by omega)
  refine ⟨gcB_ok _ (tr_bare hf.tr) (tr_bare tr_slope) ((hf.bd.bare hf.tr).mono (by decide)) (hs.bare tr_slope) (x := 8) (y := 8) (by decide) (by decide) (by
    rw [bareM_len hf.tr, bareM_len tr_slope]
    exact gcB_66 _ (by omega) _ (by omega)), hb, ?_⟩
  have hz : Bd (5 + (f.length + 1 - (common f (slope f)).length) * 401) (pdiv f (common f (slope f))).1 := (pst_size hf.bd hb _).2.1
  have : (f.length + 1 - (common f (slope f)).length) * 401 ≤ 7 * 401 := Nat.mul_le_mul_right _ (by omega)
  exact hz.mono (by omega)
theorem sq_tab : ∀ n, n < 31 → 1 ≤ n → (gcOk ((slopeM (tb n)).length + 1) (tb n) (bareM (slopeM (tb n))) && decide (gcLoop ((slopeM (tb n)).length + 1) (tb n) (bareM (slopeM (tb n))) = [1])) = true := by decide +kernel
theorem sq_circ {f : List Int} {n : Nat} (hf : CircP f n) : SqP f := by
  have h := sq_tab n (by have := hf.hi; omega) hf.lo
  rw [← hf.eq, slope_is hf.tr, Bool.and_eq_true, decide_eq_true_eq] at h
  have e : common f (slope f) = [1] := by rw [← common_is hf.tr tr_slope (n := (slope f).length + 1) (by omega), hf.bare, h.2]
  have b1 : Bd 1 ([1] : List Int) := fun c hc => by rw [List.mem_singleton.mp hc]; decide
  refine ⟨by rw [hf.bare]; exact h.1, by rw [e]; exact b1.mono (by decide), ?_⟩
  rw [e]
  have hz : Bd (1 + (f.length + 1 - ([1] : List Int).length) * 2) (pdiv f [1]).1 := (pst_size hf.bd b1 _).2.1
  have := hf.len
  exact hz.mono (by simp; omega)
theorem squarefree_is {f : List Int} (hf : Tr f) (hn : f ≠ []) : bareM (pdiv f (common f (slope f))).1 = Na05.squarefree f := by
  obtain ⟨hb, _⟩ := common_ok hf (tr_slope (f := f)) (Or.inl hn)
  exact by_pdiv hf hb.tr hb.ne
/-! ### values -/
/-- total and scale behind the last i numbers -/
def horner (f : List Int) (a b : Int) : Int × Int := f.foldr (fun c s => (s.1 * a + c * (s.2 * b), s.2 * b)) (0, 1)
theorem horner_ok {a b : Int} (hb : b ≠ 0) : ∀ f : List Int, (horner f a b).2 = b ^ f.length ∧ ((horner f a b).1 : Rat) = ((horner f a b).2 : Rat) * Na05.value f ((a : Rat) / (b : Rat))
  | [] => ⟨(Int.pow_zero b).symm, by show ((0 : Int) : Rat) = ((1 : Int) : Rat) * 0; grind⟩
  | c :: f => by
    obtain ⟨h1, h2⟩ := horner_ok hb f
    refine ⟨by show (horner f a b).2 * b = b ^ (f.length + 1); rw [h1, Int.pow_succ], ?_⟩
    show (((horner f a b).1 * a + c * ((horner f a b).2 * b) : Int) : Rat) = (((horner f a b).2 * b : Int) : Rat) * ((c : Rat) + ((a : Rat) / (b : Rat)) * Na05.value f ((a : Rat) / (b : Rat)))
    rw [Rat.intCast_add, Rat.intCast_mul, Rat.intCast_mul, Rat.intCast_mul, h2]
    have := intCast_ne hb
    grind
theorem horner_ne {a b : Int} (hb : b ≠ 0) (f : List Int) : (horner f a b).2 ≠ 0 := by
  rw [(horner_ok hb f).1]
  exact fun z => hb (pow_zero_of z)
theorem value_low {a b : Int} (hb : b ≠ 0) (f : List Int) : lowest (horner f a b).1 (horner f a b).2 = fraction (Na05.value f ((a : Rat) / (b : Rat))) := by
  have hn := horner_ne (a := a) hb f
  rw [← lowest_is _ _ hn]
  congr 1
  rw [(horner_ok hb f).2]
  have := intCast_ne hn
  grind
theorem horner_bd {a b : Int} (ha : a.natAbs < 2 ^ 40) (hb : b.natAbs < 2 ^ 40) : ∀ f : List Int, Bd 5 f → (horner f a b).1.natAbs < 2 ^ (50 * f.length + 50) ∧ (horner f a b).2.natAbs < 2 ^ (40 * f.length + 1)
  | [], _ => ⟨by show 0 < _; exact Nat.two_pow_pos _, by show 1 < 2 ^ 1; decide⟩
  | c :: f, h => by
    obtain ⟨h1, h2⟩ := horner_bd ha hb f fun x hx => h x (List.mem_cons_of_mem _ hx)
    have hc := h c (List.mem_cons_self ..)
    have e1 := mul_lt h1 ha
    have e2 := mul_lt h2 hb
    have e3 := mul_lt hc e2
    rw [List.length_cons]
    refine ⟨?_, Nat.lt_of_lt_of_le e2 (Nat.pow_le_pow_right (by decide) (by omega))⟩
    have e4 : ((horner f a b).1 * a).natAbs < 2 ^ (50 * f.length + 90) := Nat.lt_of_lt_of_le e1 (Nat.pow_le_pow_right (by decide) (by omega))
    have e5 : (c * ((horner f a b).2 * b)).natAbs < 2 ^ (50 * f.length + 90) := Nat.lt_of_lt_of_le e3 (Nat.pow_le_pow_right (by decide) (by omega))
    have e6 : 2 ^ (50 * f.length + 90) + 2 ^ (50 * f.length + 90) = 2 ^ (50 * f.length + 91) := by
      have := Nat.pow_succ (n := 2) (m := 50 * f.length + 90)
      have e : 2 ^ (50 * f.length + 91) = 2 ^ (50 * f.length + 90) * 2 := this
      rw [e, Nat.mul_two]
    have e7 : 2 ^ (50 * f.length + 91) ≤ 2 ^ (50 * (f.length + 1) + 50) := Nat.pow_le_pow_right (by decide) (by omega)
    show ((horner f a b).1 * a + c * ((horner f a b).2 * b)).natAbs < _
    have e8 := Int.natAbs_add_le ((horner f a b).1 * a) (c * ((horner f a b).2 * b))
    omega
/-! ### the circle's -/
def roundM (n : Nat) : List Int := [-1] ++ List.replicate (n - 1) 0 ++ [1]
/-- small enough for a division -/
def smallB (g : List Int) : Bool := decide (g.getLast? ≠ some 0) && decide (g.length ≤ 40) && g.all fun c => decide (c.natAbs < 1024)
def stepsOk : List Int → List Int → Bool
  | [], g => smallB g
  | d :: l, g => smallB g && stepsOk l (pdiv g (tb d.toNat)).1
def steps (l : List Int) (g : List Int) : List Int := l.foldl (fun g d => (pdiv g (tb d.toNat)).1) g
theorem circ_tab : ∀ n : Nat, n < 31 → 1 ≤ n → (stepsOk (divI (n : Int)).dropLast (roundM n) && decide (steps (divI (n : Int)).dropLast (roundM n) = tb n)) = true := by decide +kernel
theorem divs_tab : ∀ n : Nat, n < 31 → 1 ≤ n → ((List.range (divI (n : Int)).length).all fun i => decide (1 ≤ (divI (n : Int)).getD i 0 ∧ (divI (n : Int)).getD i 0 ≤ n) && decide ((divI (n : Int)).getD i 0 ∉ (divI (n : Int)).take i) && (divI ((divI (n : Int)).getD i 0)).dropLast.all fun e => decide (e ∈ (divI (n : Int)).take i)) = true := by decide +kernel
theorem divs_self : ∀ n : Nat, n < 31 → 1 ≤ n → (n : Int) ∈ divI (n : Int) := fun n _ h => (mem_divI (by omega)).mpr ⟨by omega, Int.dvd_refl _⟩
theorem small_ok {g : List Int} (h : smallB g = true) : Tr g ∧ g.length ≤ 40 ∧ Bd 10 g := by
  unfold smallB at h
  simp only [Bool.and_eq_true, decide_eq_true_eq, List.all_eq_true] at h
  exact ⟨fun c hc z => h.1.1 (by rw [hc, z]), h.1.2, h.2⟩
end MA
namespace Py
open PySem PySem.Spec PyProof.Rows L2
open MA (Tr Bd pst pdiv divI sdivI tb)
theorem hu65_of {A : Around} {k : Nat} (hr : Room k A) : A.units + 65 < cLine := by have := hr.un; omega
theorem li_given (n : Nat) (p : Nat → Bool) (v : Nat → Int) : Sh.L (givenS n p fun i => .i (v i)) = li (((List.range n).filter p).map v) := by
  unfold givenS li
  rw [List.map_map]; rfl
section
variable {P : Program} {w : World} {K : PySem.W.Frag} {mg : Str → Option Value} {base : Heap} (T : Txt K mg)
/-! ### divisors -/
def R_divisors (ss : List Sh) (r : Sh) : Prop := ∃ n : Int, ss = [.i n] ∧ n.natAbs ≤ 1000 ∧ r = li (divI n)
theorem ok_divisors : FnOk P w K mg base CX0 1 T.a_divisors T.fd_divisors ["number"] (spP R_divisors) := by
  refine fn_pure T.d_divisors.F sc_divisors (fun ss r ⟨_, h, _⟩ => by rw [h]; rfl) (fun cdv A outer s H E hr => ⟨_, (pss_cons (ps_set (i := 1) sc_divisors.nd rfl (Or.inr rfl) (pe_callB call_abs (by rfl) T.m_abs (by decide +kernel) (pa_cons (pv 0) pa_nil)))
      (pss_one (ps_ret (pe_lc (own := [("divisor", 2)]) (g := (gName 2)) rfl sc_divisors.nd (pi_range2 rfl T.m_range (pa_cons pe_int (pa_cons (pe_op op_add (pv 1) pe_int) pa_nil))) (blkOk_by (own := [("divisor", 2)]) (N := N_divisors) (sc := defScope s_divisors) (by decide +kernel)) (fun _ _ _ _ _ => (pg_name (i := 2) sc_divisors.nd rfl (Or.inl rfl))) (fun _ _ _ _ _ => (pts_one (pt_cmpR op_eq (pe_op op_modN (pv 1) (pv 2)) pe_int (nomark _)))) (fun _ _ _ _ _ => (pv 2)))))), ?_⟩)
  rintro ss r ⟨n, rfl, hn, rfl⟩
  refine q_set (e_abs (e_var rfl)) (run_ret (en_lcR2 (ea_cons e_int (ea_1 (e_add (e_var rfl) e_int))) (fun i => decide ((n.natAbs : Int).fmod (1 + (i : Int)) = 0)) (fun i => .i (1 + (i : Int))) (by omega) (by omega) (by omega) (fun i hi => ?_) (fun i hi _ => e_var rfl)).e ?_)
  · exact et_test (e_eq (e_mod (e_var rfl) (e_var rfl) (by omega)) e_int)
  · rw [li_given, show ((n.natAbs : Int) + 1 - 1).toNat = n.natAbs by omega]
    rfl
/-! ### square_free -/
def R_sqf (ss : List Sh) (r : Sh) : Prop := ∃ f : List Int, ss = [li f] ∧ Tr f ∧ f ≠ [] ∧ f.length ≤ 29 ∧ Bd 5 f ∧ MA.SqP f ∧ r = li (Na05.squarefree f)
theorem ok_square_free : FnOk P w K mg base CX0 4 T.a_square_free T.fd_square_free ["polynomial"] (spP R_sqf) := by
  refine fn_pure T.d_square_free.F sc_square_free (fun ss r ⟨_, h, _⟩ => by rw [h]; rfl) (fun cdv A outer s H E hr => ⟨_, (pss_cons (ps_set (i := 1) sc_square_free.nd rfl (Or.inl rfl) (pe_call (ok_greatest_common T) (hr.mono (by decide)) rfl T.d_greatest_common.g T.d_greatest_common.F.kp T.d_greatest_common.b .nil pass0 (pa_cons (pv 0) (pa_cons (pe_call (ok_slope T) (hr.mono (by decide)) rfl T.d_slope.g T.d_slope.F.kp T.d_slope.b .nil pass0 (pa_cons (pv 0) pa_nil)) pa_nil))))
      (pss_one (ps_ret (pe_call (ok_bare T) (hr.mono (by decide)) rfl T.d_bare.g T.d_bare.F.kp T.d_bare.b .nil pass0 (pa_cons (pe_ix ix_tup (pe_call (ok_divided T) (hr.mono (by decide)) rfl T.d_divided.g T.d_divided.F.kp T.d_divided.b .nil pass0 (pa_cons (pv 0) (pa_cons (pv 1) pa_nil))) pe_int (fun _ _ => rfl)) pa_nil))))), ?_⟩)
  rintro ss r ⟨f, rfl, hf, hn, hl, hb, hs, rfl⟩
  obtain ⟨cb, _⟩ := MA.common_ok hf (MA.tr_slope (f := f)) (Or.inl hn)
  have hsl := MA.slope_len hf
  have hg := hs.bd
  have hgl : (Na05.common f (Na05.slope f)).length ≤ 100 := by
    rw [← MA.common_is hf MA.tr_slope (Nat.lt_succ_self _)]
    refine Nat.le_trans (gcLoop_len _ (tr_bareM hf) (tr_bareM MA.tr_slope)) ?_
    rw [MA.bareM_len hf, MA.bareM_len MA.tr_slope]; omega
  have hgp := List.length_pos_iff.mpr cb.ne
  refine q_set (e_call (ea_cons (e_var rfl) (ea_1 (e_call (ea_1 (e_var rfl)) ⟨f, rfl, hf, by omega, hb.mono (by decide), rfl⟩))) ⟨f, _, rfl, hf, MA.tr_slope, by omega, by omega, hb.mono (by decide), (MA.slope_bd hf (by omega) hb).mono (by decide), hs.ok, rfl⟩) ?_
  have hmul : (f.length + 1 - (Na05.common f (Na05.slope f)).length) * 401 ≤ 29 * 401 := Nat.mul_le_mul_right _ (by omega)
  obtain ⟨m1, m2, _⟩ := MA.pst_ok hf cb.tr cb.ne _ (Nat.le_refl (f.length + 1 - (Na05.common f (Na05.slope f)).length))
  refine run_ret (e_call (ea_1 (e_ixT (e_call (ea_cons (e_var rfl) (ea_1 (e_var rfl))) ⟨f, _, 5, 400, rfl, hf, cb.tr, cb.ne, by omega, hgl, hb, hg, by omega, by omega, rfl⟩) e_int rfl)) ⟨_, rfl, MA.tr_quot hf cb.tr cb.ne, ?_, ?_, rfl⟩) ?_
  · show (pst f _ _).1.length ≤ 1000
    omega
  · exact hs.quot
  · rw [MA.squarefree_is hf hn]
/-! ### value_at -/
def R_value (ss : List Sh) (r : Sh) : Prop := ∃ (f : List Int) (a b : Int), ss = [li f, .i a, .i b] ∧ f.length ≤ 29 ∧ Bd 5 f ∧ a.natAbs < 2 ^ 40 ∧ b ≠ 0 ∧ b.natAbs < 2 ^ 40 ∧ r = li (Na05.fraction (Na05.value f ((a : Rat) / (b : Rat))))
theorem drop_step {f : List Int} {i : Nat} {c : Int} (h : f[f.length - 1 - i]? = some c) (hi : i < f.length) : f.drop (f.length - (i + 1)) = c :: f.drop (f.length - i) := by
  have e : f.length - (i + 1) = f.length - 1 - i := by omega
  have hl : f.length - 1 - i < f.length := by omega
  rw [e, List.drop_eq_getElem_cons hl]
  rw [List.getElem?_eq_getElem hl] at h
  rw [Option.some.inj h]
  congr 2
  omega
theorem ok_value_at : FnOk P w K mg base CX0 3 T.a_value_at T.fd_value_at ["polynomial", "above", "below"] (spP R_value) := by
  refine fn_pure T.d_value_at.F sc_value_at (fun ss r ⟨_, _, _, h, _⟩ => by rw [h]; rfl) (fun cdv A outer s H E hr => ⟨_, (pss_cons (ps_set (i := 3) sc_value_at.nd rfl (Or.inl rfl) pe_int)
      (pss_cons (ps_set (i := 4) sc_value_at.nd rfl (Or.inl rfl) pe_int)
      (pss_cons (ps_for PassesOwn.never rfl (pi_reversed (by rfl) T.m_reversed (pa_cons (pv 0) pa_nil)) (pg_name (i := 5) sc_value_at.nd rfl (Or.inl rfl)) (pss_cons (ps_set (i := 4) sc_value_at.nd rfl (Or.inl rfl) (pe_op op_mulW (pv 4) (pv 2)))
      (pss_one (ps_set (i := 3) sc_value_at.nd rfl (Or.inl rfl) (pe_op op_add (pe_op op_mulW (pv 3) (pv 1)) (pe_op op_mulW (pv 5) (pv 4)))))))
      (pss_one (ps_ret (pe_call (ok_low T) (hr.mono (by decide)) rfl T.d_low.g T.d_low.F.kp T.d_low.b .nil pass0 (pa_cons (pv 3) (pa_cons (pv 4) pa_nil)))))))), ?_⟩)
  rintro ss r ⟨f, a, b, rfl, hl, hf, ha, hb, hz, rfl⟩
  refine q_set e_int (q_set e_int (q_forV (ea_1 (e_var rfl)) (fun i s' => ∃ sl, s' = [.v (li f), .v (.i a), .v (.i b), .v (.i (MA.horner (f.drop (f.length - i)) a b).1), .v (.i (MA.horner (f.drop (f.length - i)) a b).2), sl]) ⟨.x, ?_⟩ ?_ ?_))
  · rw [Nat.sub_zero, List.drop_length]; rfl
  · rintro i s' x hx hi ⟨sl, rfl⟩
    rw [List.length_map] at hx hi
    obtain ⟨c, hc, rfl⟩ := map_i_get hx
    have hd := drop_step hc hi
    have hsub : Bd 5 (f.drop (f.length - i)) := fun y hy => hf y (List.mem_of_mem_drop hy)
    obtain ⟨b1, b2⟩ := MA.horner_bd ha hz (f.drop (f.length - i)) hsub
    have hdl : (f.drop (f.length - i)).length ≤ 29 := by rw [List.length_drop]; omega
    have hcb := hf c (List.mem_of_getElem? hc)
    have b3 := MA.mul_lt b2 hz
    refine q_set (e_mul (e_var rfl) (e_var rfl) (mulOk b2 hz (by omega))) (run_set (e_add (e_mul (e_var rfl) (e_var rfl) (mulOk b1 ha (by omega))) (e_mul (e_var rfl) (e_var rfl) (mulOk hcb b3 (by omega)))) ⟨.v (.i c), ?_⟩)
    rw [hd]
    rfl
  · rintro s' ⟨sl, rfl⟩
    rw [List.length_map, Nat.sub_self, List.drop_zero]
    obtain ⟨_, b2⟩ := MA.horner_bd ha hz f hf
    refine run_ret (e_call (ea_cons (e_var rfl) (ea_1 (e_var rfl))) ⟨_, _, rfl, MA.horner_ne hb f, lt_two_pow b2 (by omega), rfl⟩) ?_
    rw [MA.value_low hb f]
/-! ### power_less_1, circle -/
def R_pl1 (ss : List Sh) (r : Sh) : Prop := ∃ n : Nat, ss = [.i (n : Int)] ∧ n ≤ 100 ∧ r = li (MA.roundM n)
theorem ok_power_less_1 : FnOk P w K mg base CX0 1 T.a_power_less_1 T.fd_power_less_1 ["power"] (spP R_pl1) := by
  refine fn_pure T.d_power_less_1.F sc_power_less_1 (fun ss r ⟨_, h, _⟩ => by rw [h]; rfl) (fun cdv A outer s H E hr => ⟨_, (pss_one (ps_ret (pe_op op_cat (pe_op op_cat (pe_lst (pa_cons (pe_un un_neg pe_int) pa_nil)) (pe_op op_rep (pe_lst (pa_cons pe_int pa_nil)) (pe_op op_sub (pv 0) pe_int))) (pe_lst (pa_cons pe_int pa_nil))))), ?_⟩)
  rintro ss r ⟨n, rfl, hn, rfl⟩
  have h1 := en_rep (ta := tLst (tCons (tC (.int 0)) tNil)) (tb := tOp (rI0 fun i j => .int (i - j)) (tVar 0) (tC (.int 1))) (sls := [.v (.i (n : Int))]) (e_lst (ea_1 e_int) (by simp)).el (e_sub (e_var rfl) e_int) (by omega) (by simp; omega) (by omega)
  rw [rep_one] at h1
  refine run_ret (en_cat (en_cat (e_lst (ea_1 (e_neg e_int)) (by simp)) h1.e (by simp; omega)).e (e_lst (ea_1 e_int) (by simp)) (by simp; omega)).e ?_
  unfold MA.roundM li
  rw [List.map_append, List.map_append, List.map_replicate, show ((n : Int) - 1).toNat = n - 1 by omega]
  rfl
def R_circle (ss : List Sh) (r : Sh) : Prop := ∃ n : Nat, ss = [.i (n : Int)] ∧ 1 ≤ n ∧ n ≤ 30 ∧ r = li (tb n)
theorem getD_tab {l : List Int} {e : Int} (h : e ∈ l) : getD? (l.map fun d => (d, tb d.toNat)) e = some (tb e.toNat) := by
  induction l with
  | nil => cases h
  | cons d l ih =>
    unfold getD?
    rw [List.map_cons, List.find?_cons]
    by_cases c : d = e
    · rw [decide_eq_true (show ((d, tb d.toNat) : Int × List Int).1 = e from c)]
      subst c; rfl
    · rw [decide_eq_false (show ¬ ((d, tb d.toNat) : Int × List Int).1 = e from c)]
      rcases List.mem_cons.mp h with z | z
      · exact absurd z.symm c
      · exact ih z
theorem ok_circle : FnOk P w K mg base CX0 3 T.a_circle T.fd_circle ["place"] (spP R_circle) := by
  refine fn_pure T.d_circle.F sc_circle (fun ss r ⟨_, h, _⟩ => by rw [h]; rfl) (fun cdv A outer s H E hr => ⟨_, (pss_cons (ps_set (i := 1) sc_circle.nd rfl (Or.inl rfl) pe_dnewK)
      (pss_cons (ps_for PassesOwn.never rfl (pi_list (pe_call (ok_divisors T) (hr.mono (by decide)) rfl T.d_divisors.g T.d_divisors.F.kp T.d_divisors.b .nil pass0 (pa_cons (pv 0) pa_nil))) (pg_name (i := 2) sc_circle.nd rfl (Or.inl rfl)) (pss_cons (ps_set (i := 3) sc_circle.nd rfl (Or.inl rfl) (pe_call (ok_power_less_1 T) (hr.mono (by decide)) rfl T.d_power_less_1.g T.d_power_less_1.F.kp T.d_power_less_1.b .nil pass0 (pa_cons (pv 2) pa_nil)))
      (pss_cons (ps_for PassesOwn.never rfl (pi_list (pe_slice sl_list (pe_call (ok_divisors T) (hr.mono (by decide)) rfl T.d_divisors.g T.d_divisors.F.kp T.d_divisors.b .nil pass0 (pa_cons (pv 2) pa_nil)) po_none (po_some (pe_un un_neg pe_int)))) (pg_name (i := 4) sc_circle.nd rfl (Or.inl rfl)) (pss_one (ps_set (i := 3) sc_circle.nd rfl (Or.inl rfl) (pe_ix ix_tup (pe_call (ok_divided T) (hr.mono (by decide)) rfl T.d_divided.g T.d_divided.F.kp T.d_divided.b .nil pass0 (pa_cons (pv 3) (pa_cons (pe_dget (hu_of hr) (pv 1) (pv 4) (fun _ _ => rfl)) pa_nil))) pe_int (fun _ _ => rfl)))))
      (pss_one (ps_asg (pv 3) (pg_sub (pv 1) (pv 2) (set_dict (hu_of hr))))))))
      (pss_one (ps_ret (pe_dget (hu_of hr) (pv 1) (pv 0) (fun _ _ => rfl)))))), ?_⟩)
  rintro ss r ⟨n, rfl, h1, h30, rfl⟩
  have tab := MA.divs_tab n (by omega) h1
  simp only [List.all_eq_true, List.mem_range, Bool.and_eq_true, decide_eq_true_eq] at tab
  have dl : (divI (n : Int)).length ≤ 30 := Nat.le_trans (MA.divI_len _) (by omega)
  refine q_dnew (q_for (e_call (ea_1 (e_var rfl)) ⟨(n : Int), rfl, by omega, rfl⟩) (fun i s' => ∃ s2 s3 s4, isDic s2 = false ∧ isDic s3 = false ∧ isDic s4 = false ∧ s' = [.v (.i (n : Int)), .dic (((divI (n : Int)).take i).map fun d => (d, tb d.toNat)), s2, s3, s4]) ⟨.x, .x, .x, rfl, rfl, rfl, rfl⟩ ?_ ?_)
  · rintro i s' x hx ⟨s2, s3, s4, q2, q3, q4, rfl⟩
    obtain ⟨d, hd, rfl⟩ := map_i_get hx
    have hi : i < (divI (n : Int)).length := (List.getElem?_eq_some_iff.mp hd).1
    obtain ⟨⟨⟨t1, t2⟩, t3⟩, t4⟩ := tab i hi
    have ed : (divI (n : Int)).getD i 0 = d := getD_of hd
    rw [ed] at t1 t2 t3 t4
    have edn : ((d.toNat : Nat) : Int) = d := by omega
    have ct := MA.circ_tab d.toNat (by omega) (by omega)
    rw [edn, Bool.and_eq_true, decide_eq_true_eq] at ct
    refine q_set (e_is (e_call (ea_1 (e_var rfl)) ⟨d.toNat, by rw [edn], by omega, rfl⟩) rfl) ?_
    have dl2 : (divI d).length ≤ 30 := Nat.le_trans (MA.divI_len _) (by omega)
    refine q_for (l := (divI d).dropLast.map Sh.i) (e_is (en_sl (e_call (ea_1 (e_var rfl)) ⟨d, rfl, by omega, rfl⟩) eo_none (eo_some (e_neg e_int))).e (by rw [cutS_map, cut_last'])) (fun j s' => ∃ g s4, isDic s4 = false ∧ MA.stepsOk ((divI d).dropLast.drop j) g = true ∧ MA.steps ((divI d).dropLast.drop j) g = tb d.toNat ∧ s' = [.v (.i (n : Int)), .dic (((divI (n : Int)).take i).map fun d => (d, tb d.toNat)), .v (.i d), .v (li g), s4]) ⟨_, s4, q4, ct.1, ct.2, rfl⟩ ?_ ?_
    · rintro j s' x hx ⟨g, s4, q4, o1, o2, rfl⟩
      obtain ⟨e, he, rfl⟩ := map_i_get hx
      have hj : j < (divI d).dropLast.length := (List.getElem?_eq_some_iff.mp he).1
      have edr : (divI d).dropLast.drop j = e :: (divI d).dropLast.drop (j + 1) := by
        rw [List.drop_eq_getElem_cons hj]
        rw [List.getElem?_eq_getElem hj] at he
        rw [Option.some.inj he]
      rw [edr] at o1 o2
      rw [MA.stepsOk, Bool.and_eq_true] at o1
      obtain ⟨g1, g2, g3⟩ := MA.small_ok o1.1
      have hm := t4 e (List.mem_of_getElem? he)
      have he1 : e ∈ divI (n : Int) := List.mem_of_mem_take hm
      have hp := MA.divI_pos he1
      have hle := MA.divI_le he1
      have hc : MA.CircP (tb e.toNat) e.toNat := ⟨by omega, by omega, rfl⟩
      have hcl := hc.len
      have hne : tb e.toNat ≠ [] := fun z => by
        have := MA.circle_tab (e.toNat + 1) e.toNat (by omega) (by omega) (Nat.lt_succ_self _)
        have h0 : ∀ m, m < 31 → 1 ≤ m → tb m ≠ [] := by decide +kernel
        exact h0 _ (by omega) (by omega) z
      refine run_set (e_ixT (e_call (ea_cons (e_var rfl) (ea_1 (e_dget (i := 1) rfl (e_var rfl) (getD_tab hm)))) ⟨g, tb e.toNat, 10, 1, rfl, g1, hc.tr, hne, by omega, by omega, g3, hc.bd, by omega, by omega, rfl⟩) e_int rfl) ⟨(pdiv g (tb e.toNat)).1, .v (.i e), rfl, o1.2, o2, rfl⟩
    · rintro s' ⟨g, s4, q4, o1, o2, rfl⟩
      rw [List.length_map, List.drop_length] at o1 o2
      have o2 : g = tb d.toNat := o2
      subst o2
      refine run_dput (i := 1) rfl (by show (!false && (!false && (!false && (!isDic s4 && true)))) = true; rw [q4]; rfl) (e_var rfl) (e_var rfl) ?_ (by rw [List.length_map, List.length_take]; omega) ⟨.v (.i d), .v (li (tb d.toNat)), s4, rfl, rfl, q4, ?_⟩
      · intro p hp
        obtain ⟨z, hz, rfl⟩ := List.mem_map.mp hp
        exact fun ez => t3 (by rw [← ez]; exact hz)
      · rw [List.take_add_one, hd, List.map_append]; rfl
  · rintro s' ⟨s2, s3, s4, _, _, _, rfl⟩
    rw [List.length_map, List.take_length]
    have e := getD_tab (MA.divs_self n (by omega) h1)
    rw [Int.toNat_natCast] at e
    exact run_ret (e_dget (i := 1) rfl (e_var rfl) e) rfl
end
end Py
/-! Sizes on the way of taking apart. -/
namespace MA
open Na05 (toQ content sign whole cleared times div by_)
theorem conv2 (c b : Int) (k : List Int) (n : Nat) : conv [c, b] k n = c * k.getD n 0 + (if 1 ≤ n then b * k.getD (n - 1) 0 else 0) := by
  unfold conv
  show MD.sumI 2 _ = _
  simp [MD.sumI]
/-- what is still to be taken apart -/
structure J (f : List Int) : Prop where
  bare : Bare f
  len : f.length ≤ 6
  way : (∀ c ∈ f, c.natAbs ≤ 12) ∨ ∃ f1 u, Bare f1 ∧ Bare u ∧ 2 ≤ u.length ∧ f1.length ≤ 6 ∧ (∀ c ∈ f1, c.natAbs ≤ 12) ∧ f1.getD 0 0 ≠ 0 ∧ f1 = times u f
theorem getD_small {f : List Int} {b : Nat} (h : ∀ c ∈ f, c.natAbs ≤ b) (i : Nat) : (f.getD i 0).natAbs ≤ b := by
  rw [List.getD_eq_getElem?_getD]
  cases e : f[i]? with
  | none => exact Nat.zero_le _
  | some c => exact h c (List.mem_of_getElem? e)
theorem last_small {f : List Int} {b : Nat} (h : ∀ c ∈ f, c.natAbs ≤ b) (hn : f ≠ []) : (f.getLastD 0).natAbs ≤ b := by
  obtain ⟨a, ea⟩ := exists_last hn
  rw [getLastD_of ea]
  exact h a (List.mem_of_getLast? ea)
theorem le_of_dvd {a b : Int} (h : a ∣ b) (hb : b ≠ 0) : a.natAbs ≤ b.natAbs := Nat.le_of_dvd (by omega) (Int.natAbs_dvd_natAbs.mpr h)
theorem J.next {f : List Int} (h : J f) (h2 : 2 ≤ f.length) : J (nextP f) := by
  obtain ⟨hi, hd⟩ := lowP_ok h.bare h2 h.len
  obtain ⟨b1, b2, b3⟩ := next_ok h.bare h2 h.len
  have hlen := h.len
  refine ⟨b1, by omega, ?_⟩
  by_cases h0 : f.getD 0 0 = 0
  · rcases h.way with w | ⟨f1, u, w1, w2, w3, w4, w5, w6, w7⟩
    · left
      have el : lowP f = [0, 1] := by unfold lowP; rw [if_pos h0]
      rw [el] at b2
      intro c hc
      obtain ⟨n, hn⟩ := List.mem_iff_getElem?.mp hc
      have e := getD_conv (f := f) bare_x.tr b1.tr bare_x.ne b1.ne b2 (n + 1)
      rw [conv2] at e
      have e2 : (nextP f).getD n 0 = c := by rw [List.getD_eq_getElem?_getD, hn]; rfl
      simp only [Nat.le_add_left, if_true, Nat.add_sub_cancel, e2] at e
      have := getD_small w (n + 1)
      omega
    · exfalso
      have := getD_zero_times w2.tr h.bare.tr w2.ne h.bare.ne
      rw [← w7, h0, Int.mul_zero] at this
      exact w6 this
  · right
    rcases h.way with w | ⟨f1, u, w1, w2, w3, w4, w5, w6, w7⟩
    · exact ⟨f, lowP f, h.bare, hi.bare, hi.deg, h.len, w, h0, b2⟩
    · refine ⟨f1, times u (lowP f), w1, gauss w2 hi.bare, ?_, w4, w5, w6, ?_⟩
      · rw [times_len w2.tr hi.bare.tr w2.ne hi.bare.ne]
        have := hi.deg
        omega
      · rw [times_assoc w2.tr hi.bare.tr b1.tr, ← b2]; exact w7
theorem J.last {f : List Int} (h : J f) : (f.getLastD 0).natAbs ≤ 12 := by
  rcases h.way with w | ⟨f1, u, w1, w2, w3, w4, w5, w6, w7⟩
  · exact last_small w h.bare.ne
  · obtain ⟨a, ea⟩ := exists_last h.bare.ne
    obtain ⟨b, eb⟩ := exists_last w2.ne
    have e := times_last w2.tr h.bare.tr eb ea
    rw [← w7] at e
    have h1 := w5 _ (List.mem_of_getLast? e)
    have hb := w2.pos b eb
    have ha := h.bare.pos a ea
    rw [getLastD_of ea]
    have : a.natAbs ≤ (b * a).natAbs := le_of_dvd (Int.dvd_mul_left _ _) (by have := Int.mul_pos hb ha; omega)
    omega
theorem J.head {f : List Int} (h : J f) : (f.getD 0 0).natAbs ≤ 12 := by
  rcases h.way with w | ⟨f1, u, w1, w2, w3, w4, w5, w6, w7⟩
  · exact getD_small w 0
  · have e := getD_zero_times w2.tr h.bare.tr w2.ne h.bare.ne
    rw [← w7] at e
    have h1 := getD_small w5 0
    have : (f.getD 0 0).natAbs ≤ (f1.getD 0 0).natAbs := le_of_dvd (by rw [e]; exact Int.dvd_mul_left _ _) w6
    omega
theorem sum_small {f : List Int} (h : ∀ c ∈ f, c.natAbs ≤ 12) : f.sum.natAbs ≤ 12 * f.length := by
  induction f with
  | nil => simp
  | cons c f ih =>
    have h1 := ih fun x hx => h x (List.mem_cons_of_mem _ hx)
    have h2 := h c (List.mem_cons_self ..)
    rw [List.sum_cons, List.length_cons]
    omega
theorem sum_times {u f : List Int} (hu : Tr u) (hf : Tr f) : (times u f).sum = u.sum * f.sum := by
  have := ev_times hu hf (1 : Rat)
  rw [ev_at_one, ev_at_one, ev_at_one, ← Rat.intCast_mul] at this
  exact Rat.intCast_inj.mp this
theorem J.sum {f : List Int} (h : J f) (h5 : 5 ≤ f.length) : f.sum.natAbs ≤ 200 := by
  have hlen := h.len
  rcases h.way with w | ⟨f1, u, w1, w2, w3, w4, w5, w6, w7⟩
  · have := sum_small w; omega
  · have hl := times_len w2.tr h.bare.tr w2.ne h.bare.ne
    rw [← w7] at hl
    have hs := sum_times w2.tr h.bare.tr
    rw [← w7] at hs
    by_cases c1 : f1.sum = 0
    · by_cases c2 : f.sum = 0
      · rw [c2]; decide
      · have hu : u.sum = 0 := by
          rw [c1] at hs
          rcases Int.mul_eq_zero.mp hs.symm with z | z
          · exact z
          · exact absurd z c2
        have lu : u.length = 2 := by omega
        have lf : f.length = 5 := by omega
        match u, lu with
        | [c, a], _ =>
          have ha : 0 < a := w2.pos a rfl
          have hca : c + (a + 0) = 0 := hu
          have hcont : Na05.content [c, a] = 1 := w2.one
          have ea : a = 1 := by
            have hd : a.natAbs ∣ Na05.content [c, a] := dvd_content.mpr fun x hx => by
              rcases List.mem_cons.mp hx with z | z
              · rw [z, show c = -a by omega, Int.natAbs_neg]; exact Nat.dvd_refl _
              · rw [List.mem_singleton.mp z]; exact Nat.dvd_refl _
            rw [hcont] at hd
            have := Nat.le_of_dvd (by decide) hd
            omega
          have ec : c = -1 := by omega
          subst ea ec
          match f, lf with
          | [r0, r1, r2, r3, r4], _ =>
            have key : ∀ n, f1.getD n 0 = conv [-1, 1] [r0, r1, r2, r3, r4] n := getD_conv w2.tr h.bare.tr w2.ne h.bare.ne w7
            have k1 : f1.getD 1 0 = -1 * r1 + 1 * r0 := (key 1).trans ((conv2 _ _ _ 1).trans rfl)
            have k2 : f1.getD 2 0 = -1 * r2 + 1 * r1 := (key 2).trans ((conv2 _ _ _ 2).trans rfl)
            have k3 : f1.getD 3 0 = -1 * r3 + 1 * r2 := (key 3).trans ((conv2 _ _ _ 3).trans rfl)
            have k4 : f1.getD 4 0 = -1 * r4 + 1 * r3 := (key 4).trans ((conv2 _ _ _ 4).trans rfl)
            have k5 : f1.getD 5 0 = -1 * 0 + 1 * r4 := (key 5).trans ((conv2 _ _ _ 5).trans rfl)
            have g1 := getD_small w5 1; have g2 := getD_small w5 2; have g3 := getD_small w5 3; have g4 := getD_small w5 4; have g5 := getD_small w5 5
            show (r0 + (r1 + (r2 + (r3 + (r4 + 0))))).natAbs ≤ 200
            omega
    · have h1 := sum_small w5
      have : f.sum.natAbs ≤ f1.sum.natAbs := le_of_dvd (by rw [hs]; exact Int.dvd_mul_left _ _) c1
      omega
theorem small_bare {f : List Int} (hf : Tr f) (h : ∀ c ∈ f, c.natAbs ≤ 12) : ∀ c ∈ bareM f, c.natAbs ≤ 12 := fun c hc => by
  by_cases hn : f = []
  · subst hn; cases hc
  · rw [bareM_is hf] at hc
    have e := whole_smul hf hn
    have hp := content_pos hf hn
    have hm : (sign f * (content f : Int)) * c ∈ f := by
      have : (sign f * (content f : Int)) * c ∈ (whole f).map ((sign f * (content f : Int)) * ·) := List.mem_map.mpr ⟨c, hc, rfl⟩
      rw [← e] at this
      exact this
    have h1 := h _ hm
    rw [Int.natAbs_mul, Int.natAbs_mul] at h1
    have hs : (sign f).natAbs = 1 := by rcases sign_cases f with e | e <;> rw [e] <;> rfl
    rw [hs, Nat.one_mul, Int.natAbs_natCast] at h1
    exact Nat.le_trans (Nat.le_mul_of_pos_left _ hp) h1
theorem J.start {f : List Int} (hf : Tr f) (hn : f ≠ []) (h6 : f.length ≤ 6) (h : ∀ c ∈ f, c.natAbs ≤ 12) : J (bareM f) :=
  ⟨by rw [bareM_is hf]; exact whole_bare hf hn, by rw [bareM_len hf]; exact h6, Or.inl (small_bare hf h)⟩
/-- candidates are small -/
theorem cand1_bd {f : List Int} (h : J f) {g : List Int} (hg : g ∈ cand1 f) : Bd 8 g := by
  obtain ⟨a, ha, h2⟩ := List.mem_flatMap.mp hg
  obtain ⟨c, hc, rfl⟩ := List.mem_map.mp h2
  have := h.last
  have := h.head
  have h3 := divI_le ha
  have h4 := divI_pos ha
  have h5 := sdivI_le hc
  intro x hx
  show x.natAbs < 256
  rcases List.mem_cons.mp hx with e | e
  · omega
  · rw [List.mem_singleton.mp e]; omega
theorem cand2_bd {f : List Int} (h : J f) (hl : 5 ≤ f.length) {g : List Int} (hg : g ∈ cand2 f) : Bd 8 g := by
  obtain ⟨a, ha, h2⟩ := List.mem_flatMap.mp hg
  obtain ⟨c, hc, h3⟩ := List.mem_flatMap.mp h2
  obtain ⟨v, hv, rfl⟩ := List.mem_map.mp h3
  have := h.last
  have := h.head
  have := h.sum hl
  have h3 := divI_le ha
  have h4 := divI_pos ha
  have h5 := sdivI_le hc
  have h6 := sdivI_le hv
  intro x hx
  show x.natAbs < 256
  rcases List.mem_cons.mp hx with e | e
  · omega
  · rcases List.mem_cons.mp e with e | e
    · omega
    · rw [List.mem_singleton.mp e]; omega
theorem pick_bd {f : List Int} {l : List (List Int)} (hl : ∀ g ∈ l, Tr g ∧ Bd 8 g) : Bd 8 (pick f l) := by
  unfold pick
  cases e : l.find? (isP f) with
  | none => intro c hc; cases hc
  | some g =>
    obtain ⟨h1, h2⟩ := hl g (List.mem_of_find?_eq_some e)
    exact h2.bare h1
theorem lowP_two {f : List Int} (h : J f) : lowP f = f ∨ Bd 8 (lowP f) := by
  unfold lowP
  split
  · right
    intro c hc
    rcases List.mem_cons.mp hc with e | e
    · rw [e]; decide
    · rw [List.mem_singleton.mp e]; decide
  · split
    · exact Or.inr (pick_bd fun g hg => ⟨(cand1_tr f g hg).1, cand1_bd h hg⟩)
    · split
      · rename_i hc
        exact Or.inr (pick_bd fun g hg => ⟨(cand2_tr f g hg).1, cand2_bd h hc.1 hg⟩)
      · exact Or.inl rfl
theorem lowP_bd {f : List Int} (h : J f) {b : Nat} (hb : Bd b f) (h8 : 8 ≤ b) : Bd b (lowP f) := by
  rcases lowP_two h with e | e
  · rw [e]; exact hb
  · exact e.mono h8
theorem nextP_bd {f : List Int} (h : J f) (h2 : 2 ≤ f.length) {b : Nat} (hb : Bd b f) (h8 : 8 ≤ b) : Bd (2 * b + 60) (pdiv f (lowP f)).1 ∧ Bd (2 * b + 60) (nextP f) := by
  obtain ⟨hi, hd⟩ := lowP_ok h.bare h2 h.len
  have := hi.deg
  have hl := h.len
  have hq : Bd (2 * b + 60) (pdiv f (lowP f)).1 := by
    rcases lowP_two h with e | e
    · have hz : Bd (b + (f.length + 1 - f.length) * (b + 1)) (pdiv f f).1 := (pst_size hb hb _).2.1
      rw [e]
      exact hz.mono (by rw [show f.length + 1 - f.length = 1 by omega]; omega)
    · have hz : Bd (b + (f.length + 1 - (lowP f).length) * 9) (pdiv f (lowP f)).1 := (pst_size hb e _).2.1
      exact hz.mono (by omega)
  exact ⟨hq, hq.bare (tr_quot h.bare.tr hi.bare.tr hi.bare.ne)⟩
/-- sizes, turn by turn -/
def szP : Nat → Nat
  | 0 => 8
  | i + 1 => 2 * szP i + 60
theorem szP_ge : ∀ i, 8 ≤ szP i
  | 0 => Nat.le_refl _
  | i + 1 => by have := szP_ge i; rw [szP]; omega
theorem szP_le {i : Nat} (h : i ≤ 6) : szP i ≤ 4500 := by
  have : ∀ i, i < 7 → szP i ≤ 4500 := by decide
  exact this i (by omega)
theorem allP_bd : ∀ (n : Nat) {f : List Int} {i : Nat}, J f → Bd (szP i) f → i + n ≤ 6 → ∀ p ∈ allP n f, Bd 4500 p
  | 0, f, i, _, _, _, p, hp => by cases hp
  | n + 1, f, i, h, hb, hi, p, hp => by
    rw [allP] at hp
    split at hp
    · cases hp
    · rename_i h1
      rcases List.mem_cons.mp hp with e | e
      · rw [e]
        exact (lowP_bd h hb (szP_ge i)).mono (szP_le (by omega))
      · exact allP_bd n (h.next (by omega)) (nextP_bd h (by omega) hb (szP_ge i)).2 (i := i + 1) (by omega) p e
theorem small_bd {f : List Int} (h : ∀ c ∈ f, c.natAbs ≤ 12) : Bd 8 f := fun c hc => by
  have := h c hc
  show c.natAbs < 256
  omega
theorem parts_bd {f : List Int} (hf : Tr f) (h6 : f.length ≤ 6) (h : ∀ c ∈ f, c.natAbs ≤ 12) : ∀ p ∈ parts f, Bd 4500 p := fun p hp => by
  by_cases hn : f = []
  · subst hn; cases hp
  · exact allP_bd f.length (i := 0) (J.start hf hn h6 h) (small_bd (small_bare hf h)) (by omega) p hp
end MA
namespace Py
open PySem PySem.Spec PyProof.Rows L2
open MA (Tr Bd pst pdiv divI sdivI tb isP cand1 cand2 pick P1 P2 lowP nextP J)
/-- the first that fits -/
theorem find_at {A : Type} {p : A → Bool} {l pre post : List A} {x : A} (e : l = pre ++ x :: post) (h1 : ∀ y ∈ pre, p y = false) (h2 : p x = true) : l.find? p = some x := by
  rw [e, List.find?_append]
  have : pre.find? p = none := List.find?_eq_none.mpr fun y hy => by rw [h1 y hy]; decide
  rw [this, List.find?_cons, h2]; rfl
theorem take_drop_at {A : Type} {l : List A} {i : Nat} {x : A} (h : l[i]? = some x) : l = l.take i ++ x :: l.drop (i + 1) := by
  have hi : i < l.length := (List.getElem?_eq_some_iff.mp h).1
  rw [List.getElem?_eq_getElem hi] at h
  conv => lhs; rw [← List.take_append_drop i l]
  rw [List.drop_eq_getElem_cons hi, Option.some.inj h]
section
variable {P : Program} {w : World} {K : PySem.W.Frag} {mg : Str → Option Value} {base : Heap} (T : Txt K mg)
/-! ### signed_divisors, divides -/
def R_sdiv (ss : List Sh) (r : Sh) : Prop := ∃ n : Int, ss = [.i n] ∧ n.natAbs ≤ 1000 ∧ r = li (sdivI n)
theorem ok_signed_divisors : FnOk P w K mg base CX0 2 T.a_signed_divisors T.fd_signed_divisors ["number"] (spP R_sdiv) := by
  refine fn_pure T.d_signed_divisors.F sc_signed_divisors (fun ss r ⟨_, h, _⟩ => by rw [h]; rfl) (fun cdv A outer s H E hr => ⟨_, (pss_cons (ps_set (i := 1) sc_signed_divisors.nd rfl (Or.inl rfl) (pe_call (ok_divisors T) (hr.mono (by decide)) rfl T.d_divisors.g T.d_divisors.F.kp T.d_divisors.b .nil pass0 (pa_cons (pv 0) pa_nil)))
      (pss_one (ps_ret (pe_op op_cat (pv 1) (pe_lc (own := [("divisor", 2)]) (g := (gName 2)) rfl sc_signed_divisors.nd (pi_list (pv 1)) (blkOk_by (own := [("divisor", 2)]) (N := N_signed_divisors) (sc := defScope s_signed_divisors) (by decide +kernel)) (fun _ _ _ _ _ => (pg_name (i := 2) sc_signed_divisors.nd rfl (Or.inl rfl))) (fun _ _ _ _ _ => pts_nil) (fun _ _ _ _ _ => (pe_un un_neg (pv 2)))))))), ?_⟩)
  rintro ss r ⟨n, rfl, hn, rfl⟩
  have hl := MA.divI_len n
  refine q_set (e_call (ea_1 (e_var rfl)) ⟨n, rfl, hn, rfl⟩) (run_ret (en_cat (e_var rfl) (en_lcI (e_var rfl) (fun c => .i (-c)) (by omega) (fun c hc => e_neg (e_var rfl))).e ?_).e ?_)
  · rw [List.length_map, List.length_map]; omega
  · unfold sdivI li
    rw [List.map_append, List.map_map]; rfl
def R_dvs (ss : List Sh) (r : Sh) : Prop := ∃ (f g : List Int) (b : Nat), ss = [li g, li f] ∧ Tr f ∧ Tr g ∧ g ≠ [] ∧ f.length ≤ 6 ∧ g.length ≤ 6 ∧ Bd b f ∧ Bd b g ∧ b ≤ 9000 ∧ r = .b (isP f g)
theorem ok_divides : FnOk P w K mg base CX0 3 T.a_divides T.fd_divides ["part", "polynomial"] (spP R_dvs) := by
  refine fn_pure T.d_divides.F sc_divides (fun ss r ⟨_, _, _, h, _⟩ => by rw [h]; rfl) (fun cdv A outer s H E hr => ⟨_, (pss_one (ps_ret (pe_call (ok_isz T) (hr.mono (by decide)) rfl T.d_isz.g T.d_isz.F.kp T.d_isz.b .nil pass0 (pa_cons (pe_ix ix_tup (pe_call (ok_divided T) (hr.mono (by decide)) rfl T.d_divided.g T.d_divided.F.kp T.d_divided.b .nil pass0 (pa_cons (pv 1) (pa_cons (pv 0) pa_nil))) pe_int (fun _ _ => rfl)) pa_nil)))), ?_⟩)
  rintro ss r ⟨f, g, b, rfl, hf, hg, hn, lf, lg, bf, bg, hb, rfl⟩
  have hgl := List.length_pos_iff.mpr hn
  have hm : (f.length + 1 - g.length) * (b + 1) ≤ 6 * (b + 1) := Nat.mul_le_mul_right _ (by omega)
  exact run_ret (e_call (ea_1 (e_ixT (e_call (ea_cons (e_var rfl) (ea_1 (e_var rfl))) ⟨f, g, b, b, rfl, hf, hg, hn, by omega, by omega, bf, bg, by omega, by omega, rfl⟩) e_int rfl)) ⟨_, rfl, rfl⟩) rfl
/-! ### parts of degree 1, 2 -/
def R_p1 (ss : List Sh) (r : Sh) : Prop := ∃ (f : List Int) (b : Nat), ss = [li f] ∧ J f ∧ Bd b f ∧ 8 ≤ b ∧ b ≤ 9000 ∧ r = li (P1 f)
theorem atI_head {f : List Int} (h : f ≠ []) : atI f 0 = some (f.getD 0 0) := atI_getD (j := 0) (List.length_pos_iff.mpr h)
theorem ok_part_of_degree_1 : FnOk P w K mg base CX0 4 T.a_part_of_degree_1 T.fd_part_of_degree_1 ["polynomial"] (spP R_p1) := by
  refine fn_pure T.d_part_of_degree_1.F sc_part_of_degree_1 (fun ss r ⟨_, _, h, _⟩ => by rw [h]; rfl) (fun cdv A outer s H E hr => ⟨_, (pss_cons (ps_for PassesOwn.never rfl (pi_list (pe_call (ok_divisors T) (hr.mono (by decide)) rfl T.d_divisors.g T.d_divisors.F.kp T.d_divisors.b .nil pass0 (pa_cons (pe_ix ix_list (pv 0) (pe_un un_neg pe_int) (fun _ _ => rfl)) pa_nil))) (pg_name (i := 1) sc_part_of_degree_1.nd rfl (Or.inl rfl)) (pss_one (ps_for PassesOwn.never rfl (pi_list (pe_call (ok_signed_divisors T) (hr.mono (by decide)) rfl T.d_signed_divisors.g T.d_signed_divisors.F.kp T.d_signed_divisors.b .nil pass0 (pa_cons (pe_ix ix_list (pv 0) pe_int (fun _ _ => rfl)) pa_nil))) (pg_name (i := 2) sc_part_of_degree_1.nd rfl (Or.inl rfl)) (pss_cons (ps_set (i := 3) sc_part_of_degree_1.nd rfl (Or.inl rfl) (pe_lst (pa_cons (pv 2) (pa_cons (pv 1) pa_nil))))
      (pss_one (ps_if (pt_val (pe_call (ok_divides T) (hr.mono (by decide)) rfl T.d_divides.g T.d_divides.F.kp T.d_divides.b .nil pass0 (pa_cons (pv 3) (pa_cons (pv 0) pa_nil)))) (pss_one (ps_ret (pe_call (ok_bare T) (hr.mono (by decide)) rfl T.d_bare.g T.d_bare.F.kp T.d_bare.b .nil pass0 (pa_cons (pv 3) pa_nil)))) pss_nil))))))
      (pss_one (ps_ret (pe_lst pa_nil)))), ?_⟩)
  rintro ss r ⟨f, b, rfl, hj, hb, h8, h9, rfl⟩
  have hn := hj.bare.ne
  have h1 := hj.last
  have h2 := hj.head
  have hlen := hj.len
  refine q_for (e_call (ea_1 (e_ixL (e_var rfl) (e_neg e_int) (atI_ints (atI_getLastD hn)))) ⟨_, rfl, by omega, rfl⟩) (fun i s' => ∃ s1 s2 s3, (∀ g ∈ ((divI (f.getLastD 0)).take i).flatMap (fun a => (sdivI (f.getD 0 0)).map fun c => [c, a]), isP f g = false) ∧ s' = [.v (li f), s1, s2, s3]) ⟨_, _, _, fun g hg => (by cases hg), rfl⟩ ?_ ?_
  · rintro i s' x hx ⟨s1, s2, s3, hno, rfl⟩
    obtain ⟨a, ha, rfl⟩ := map_i_get hx
    have hap := MA.divI_pos (List.mem_of_getElem? ha)
    refine run_for (e_call (ea_1 (e_ixL (e_var rfl) e_int (atI_ints (atI_head hn)))) ⟨_, rfl, by omega, rfl⟩) (fun j s' => ∃ s2 s3, (∀ g ∈ ((sdivI (f.getD 0 0)).take j).map (fun c => [c, a]), isP f g = false) ∧ s' = [.v (li f), .v (.i a), s2, s3]) ⟨_, _, fun g hg => (by cases hg), rfl⟩ ?_ ?_
    · rintro j s' x hx ⟨s2, s3, hno2, rfl⟩
      obtain ⟨c, hc, rfl⟩ := map_i_get hx
      have hm : [c, a] ∈ cand1 f := List.mem_flatMap.mpr ⟨a, List.mem_of_getElem? ha, List.mem_map.mpr ⟨c, List.mem_of_getElem? hc, rfl⟩⟩
      have htr : Tr [c, a] := MA.tr2 hap
      have hbd := MA.cand1_bd hj hm
      refine q_set (e_lst (ea_cons (e_var rfl) (ea_1 (e_var rfl))) (by simp)) (run_if (et_B (e_call (ea_cons (e_var rfl) (ea_1 (e_var rfl))) ⟨f, [c, a], b, rfl, hj.bare.tr, htr, by simp, by omega, by simp, hb, hbd.mono h8, h9, rfl⟩)) (fun h => ?_) (fun h => ?_))
      · refine run_ret (e_call (ea_1 (e_var rfl)) ⟨[c, a], rfl, htr, by simp, hbd.mono (by omega), rfl⟩) ?_
        have e : (cand1 f).find? (isP f) = some [c, a] := by
          refine find_at (pre := ((divI (f.getLastD 0)).take i).flatMap (fun a => (sdivI (f.getD 0 0)).map fun c => [c, a]) ++ ((sdivI (f.getD 0 0)).take j).map fun c => [c, a]) (post := ((sdivI (f.getD 0 0)).drop (j + 1)).map (fun c => [c, a]) ++ ((divI (f.getLastD 0)).drop (i + 1)).flatMap fun a => (sdivI (f.getD 0 0)).map fun c => [c, a]) ?_ ?_ h
          · unfold cand1
            conv => lhs; rw [take_drop_at ha]
            rw [List.flatMap_append, List.flatMap_cons]
            conv => lhs; rw [show (sdivI (f.getD 0 0)).map (fun c => [c, a]) = ((sdivI (f.getD 0 0)).take j).map (fun c => [c, a]) ++ [c, a] :: ((sdivI (f.getD 0 0)).drop (j + 1)).map (fun c => [c, a]) by conv => { lhs; rw [take_drop_at hc] }; rw [List.map_append, List.map_cons]]
            simp only [List.append_assoc, List.cons_append]
          · intro y hy
            rcases List.mem_append.mp hy with z | z
            · exact hno y z
            · exact hno2 y z
        show _ = li (P1 f)
        unfold P1 pick
        rw [e]
      · refine run_next ⟨.v (.i c), .v (li [c, a]), fun g hg => ?_, rfl⟩
        rw [List.take_add_one, hc, List.map_append] at hg
        rcases List.mem_append.mp hg with z | z
        · exact hno2 g z
        · have z : g ∈ [[c, a]] := z
          rw [List.mem_singleton.mp z]; exact h
    · rintro s' ⟨s2, s3, hno2, rfl⟩
      refine ⟨.v (.i a), s2, s3, fun g hg => ?_, rfl⟩
      rw [List.length_map, List.take_length] at hno2
      rw [List.take_add_one, ha, List.flatMap_append] at hg
      rcases List.mem_append.mp hg with z | z
      · exact hno g z
      · simp only [Option.toList_some, List.flatMap_cons, List.flatMap_nil, List.append_nil] at z
        exact hno2 g z
  · rintro s' ⟨s1, s2, s3, hno, rfl⟩
    rw [List.length_map, List.take_length] at hno
    refine run_ret (e_lst ea_nil (by decide)) ?_
    have e : (cand1 f).find? (isP f) = none := List.find?_eq_none.mpr fun y hy => by rw [hno y hy]; decide
    show _ = li (P1 f)
    unfold P1 pick
    rw [e]; rfl
def R_p2 (ss : List Sh) (r : Sh) : Prop := ∃ (f : List Int) (b : Nat), ss = [li f] ∧ J f ∧ 5 ≤ f.length ∧ Bd b f ∧ 8 ≤ b ∧ b ≤ 9000 ∧ r = li (P2 f)
abbrev rowV (f : List Int) (c a : Int) (l : List Int) : List (List Int) := l.map fun v => [c, v - c - a, a]
abbrev rowC (f : List Int) (a : Int) (l : List Int) : List (List Int) := l.flatMap fun c => rowV f c a (sdivI f.sum)
theorem ok_part_of_degree_2 : FnOk P w K mg base CX0 4 T.a_part_of_degree_2 T.fd_part_of_degree_2 ["polynomial"] (spP R_p2) := by
  refine fn_pure T.d_part_of_degree_2.F sc_part_of_degree_2 (fun ss r ⟨_, _, h, _⟩ => by rw [h]; rfl) (fun cdv A outer s H E hr => ⟨_, (pss_cons (ps_for PassesOwn.never rfl (pi_list (pe_call (ok_divisors T) (hr.mono (by decide)) rfl T.d_divisors.g T.d_divisors.F.kp T.d_divisors.b .nil pass0 (pa_cons (pe_ix ix_list (pv 0) (pe_un un_neg pe_int) (fun _ _ => rfl)) pa_nil))) (pg_name (i := 1) sc_part_of_degree_2.nd rfl (Or.inl rfl)) (pss_one (ps_for PassesOwn.never rfl (pi_list (pe_call (ok_signed_divisors T) (hr.mono (by decide)) rfl T.d_signed_divisors.g T.d_signed_divisors.F.kp T.d_signed_divisors.b .nil pass0 (pa_cons (pe_ix ix_list (pv 0) pe_int (fun _ _ => rfl)) pa_nil))) (pg_name (i := 2) sc_part_of_degree_2.nd rfl (Or.inl rfl)) (pss_one (ps_for PassesOwn.never rfl (pi_list (pe_call (ok_signed_divisors T) (hr.mono (by decide)) rfl T.d_signed_divisors.g T.d_signed_divisors.F.kp T.d_signed_divisors.b .nil pass0 (pa_cons (pe_callB (cr_sum rfl) (by rfl) T.m_sum (by decide +kernel) (pa_cons (pv 0) pa_nil)) pa_nil))) (pg_name (i := 3) sc_part_of_degree_2.nd rfl (Or.inl rfl)) (pss_cons (ps_set (i := 4) sc_part_of_degree_2.nd rfl (Or.inl rfl) (pe_lst (pa_cons (pv 2) (pa_cons (pe_op op_sub (pe_op op_sub (pv 3) (pv 2)) (pv 1)) (pa_cons (pv 1) pa_nil)))))
      (pss_one (ps_if (pt_val (pe_call (ok_divides T) (hr.mono (by decide)) rfl T.d_divides.g T.d_divides.F.kp T.d_divides.b .nil pass0 (pa_cons (pv 4) (pa_cons (pv 0) pa_nil)))) (pss_one (ps_ret (pe_call (ok_bare T) (hr.mono (by decide)) rfl T.d_bare.g T.d_bare.F.kp T.d_bare.b .nil pass0 (pa_cons (pv 4) pa_nil)))) pss_nil))))))))
      (pss_one (ps_ret (pe_lst pa_nil)))), ?_⟩)
  rintro ss r ⟨f, b, rfl, hj, h5, hb, h8, h9, rfl⟩
  have hn := hj.bare.ne
  have h1 := hj.last
  have h2 := hj.head
  have h3 := hj.sum h5
  have hlen := hj.len
  refine q_for (e_call (ea_1 (e_ixL (e_var rfl) (e_neg e_int) (atI_ints (atI_getLastD hn)))) ⟨_, rfl, by omega, rfl⟩) (fun i s' => ∃ s1 s2 s3 s4, (∀ g ∈ ((divI (f.getLastD 0)).take i).flatMap (fun a => rowC f a (sdivI (f.getD 0 0))), isP f g = false) ∧ s' = [.v (li f), s1, s2, s3, s4]) ⟨_, _, _, _, fun g hg => (by cases hg), rfl⟩ ?_ ?_
  · rintro i s' x hx ⟨s1, s2, s3, s4, hno, rfl⟩
    obtain ⟨a, ha, rfl⟩ := map_i_get hx
    have hap := MA.divI_pos (List.mem_of_getElem? ha)
    refine run_for (e_call (ea_1 (e_ixL (e_var rfl) e_int (atI_ints (atI_head hn)))) ⟨_, rfl, by omega, rfl⟩) (fun j s' => ∃ s2 s3 s4, (∀ g ∈ rowC f a ((sdivI (f.getD 0 0)).take j), isP f g = false) ∧ s' = [.v (li f), .v (.i a), s2, s3, s4]) ⟨_, _, _, fun g hg => (by cases hg), rfl⟩ ?_ ?_
    · rintro j s' x hx ⟨s2, s3, s4, hno2, rfl⟩
      obtain ⟨c, hc, rfl⟩ := map_i_get hx
      refine run_for (e_call (ea_1 (e_sum (e_var rfl))) ⟨_, rfl, by omega, rfl⟩) (fun k s' => ∃ s3 s4, (∀ g ∈ rowV f c a ((sdivI f.sum).take k), isP f g = false) ∧ s' = [.v (li f), .v (.i a), .v (.i c), s3, s4]) ⟨_, _, fun g hg => (by cases hg), rfl⟩ ?_ ?_
      · rintro k s' x hx ⟨s3, s4, hno3, rfl⟩
        obtain ⟨v, hv, rfl⟩ := map_i_get hx
        have hm : [c, v - c - a, a] ∈ cand2 f := List.mem_flatMap.mpr ⟨a, List.mem_of_getElem? ha, List.mem_flatMap.mpr ⟨c, List.mem_of_getElem? hc, List.mem_map.mpr ⟨v, List.mem_of_getElem? hv, rfl⟩⟩⟩
        have htr : Tr [c, v - c - a, a] := MA.tr3 hap
        have hbd := MA.cand2_bd hj h5 hm
        refine q_set (e_lst (ea_cons (e_var rfl) (ea_cons (e_sub (e_sub (e_var rfl) (e_var rfl)) (e_var rfl)) (ea_1 (e_var rfl)))) (by simp)) (run_if (et_B (e_call (ea_cons (e_var rfl) (ea_1 (e_var rfl))) ⟨f, [c, v - c - a, a], b, rfl, hj.bare.tr, htr, by simp, by omega, by simp, hb, hbd.mono h8, h9, rfl⟩)) (fun h => ?_) (fun h => ?_))
        · refine run_ret (e_call (ea_1 (e_var rfl)) ⟨[c, v - c - a, a], rfl, htr, by simp, hbd.mono (by omega), rfl⟩) ?_
          have e : (cand2 f).find? (isP f) = some [c, v - c - a, a] := by
            refine find_at (pre := ((divI (f.getLastD 0)).take i).flatMap (fun a => rowC f a (sdivI (f.getD 0 0))) ++ (rowC f a ((sdivI (f.getD 0 0)).take j) ++ rowV f c a ((sdivI f.sum).take k))) (post := rowV f c a ((sdivI f.sum).drop (k + 1)) ++ (rowC f a ((sdivI (f.getD 0 0)).drop (j + 1)) ++ ((divI (f.getLastD 0)).drop (i + 1)).flatMap fun a => rowC f a (sdivI (f.getD 0 0)))) ?_ ?_ h
            · have e1 : rowV f c a (sdivI f.sum) = rowV f c a ((sdivI f.sum).take k) ++ [c, v - c - a, a] :: rowV f c a ((sdivI f.sum).drop (k + 1)) := by
                conv => { lhs; rw [take_drop_at hv] }
                unfold rowV
                rw [List.map_append, List.map_cons]
              have e2 : rowC f a (sdivI (f.getD 0 0)) = rowC f a ((sdivI (f.getD 0 0)).take j) ++ (rowV f c a (sdivI f.sum) ++ rowC f a ((sdivI (f.getD 0 0)).drop (j + 1))) := by
                conv => { lhs; rw [take_drop_at hc] }
                unfold rowC
                rw [List.flatMap_append, List.flatMap_cons]
              have e3 : cand2 f = ((divI (f.getLastD 0)).take i).flatMap (fun a => rowC f a (sdivI (f.getD 0 0))) ++ (rowC f a (sdivI (f.getD 0 0)) ++ ((divI (f.getLastD 0)).drop (i + 1)).flatMap fun a => rowC f a (sdivI (f.getD 0 0))) := by
                unfold cand2
                conv => { lhs; rw [take_drop_at ha] }
                rw [List.flatMap_append, List.flatMap_cons]
              rw [e3, e2, e1]
              simp only [List.append_assoc, List.cons_append]
            · intro y hy
              rcases List.mem_append.mp hy with z | z
              · exact hno y z
              · rcases List.mem_append.mp z with z | z
                · exact hno2 y z
                · exact hno3 y z
          show _ = li (P2 f)
          unfold P2 pick
          rw [e]
        · refine run_next ⟨.v (.i v), .v (li [c, v - c - a, a]), fun g hg => ?_, rfl⟩
          rw [List.take_add_one, hv, rowV, List.map_append] at hg
          rcases List.mem_append.mp hg with z | z
          · exact hno3 g z
          · have z : g ∈ [[c, v - c - a, a]] := z
            rw [List.mem_singleton.mp z]; exact h
      · rintro s' ⟨s3, s4, hno3, rfl⟩
        refine ⟨.v (.i c), s3, s4, fun g hg => ?_, rfl⟩
        rw [List.length_map, List.take_length] at hno3
        rw [List.take_add_one, hc, rowC, List.flatMap_append] at hg
        rcases List.mem_append.mp hg with z | z
        · exact hno2 g z
        · simp only [Option.toList_some, List.flatMap_cons, List.flatMap_nil, List.append_nil] at z
          exact hno3 g z
    · rintro s' ⟨s2, s3, s4, hno2, rfl⟩
      refine ⟨.v (.i a), s2, s3, s4, fun g hg => ?_, rfl⟩
      rw [List.length_map, List.take_length] at hno2
      rw [List.take_add_one, ha, List.flatMap_append] at hg
      rcases List.mem_append.mp hg with z | z
      · exact hno g z
      · simp only [Option.toList_some, List.flatMap_cons, List.flatMap_nil, List.append_nil] at z
        exact hno2 g z
  · rintro s' ⟨s1, s2, s3, s4, hno, rfl⟩
    rw [List.length_map, List.take_length] at hno
    refine run_ret (e_lst ea_nil (by decide)) ?_
    have e : (cand2 f).find? (isP f) = none := List.find?_eq_none.mpr fun y hy => by rw [hno y hy]; decide
    show _ = li (P2 f)
    unfold P2 pick
    rw [e]; rfl
/-! ### lowest_part, all_parts -/
def R_low1 (ss : List Sh) (r : Sh) : Prop := ∃ (f : List Int) (b : Nat), ss = [li f] ∧ J f ∧ Bd b f ∧ 8 ≤ b ∧ b ≤ 9000 ∧ r = li (lowP f)
theorem ok_lowest_part : FnOk P w K mg base CX0 5 T.a_lowest_part T.fd_lowest_part ["polynomial"] (spP R_low1) := by
  refine fn_pure T.d_lowest_part.F sc_lowest_part (fun ss r ⟨_, _, h, _⟩ => by rw [h]; rfl) (fun cdv A outer s H E hr => ⟨_, (pss_cons (ps_if (pt_cmpR op_eq (pe_ix ix_list (pv 0) pe_int (fun _ _ => rfl)) pe_int (nomark _)) (pss_one (ps_ret (pe_lst (pa_cons pe_int (pa_cons pe_int pa_nil))))) pss_nil)
      (pss_cons (ps_set (i := 1) sc_lowest_part.nd rfl (Or.inl rfl) (pe_lst pa_nil))
      (pss_cons (ps_if (pt_cmpR op_ge (pe_call (ok_deg T) (hr.mono (by decide)) rfl T.d_deg.g T.d_deg.F.kp T.d_deg.b .nil pass0 (pa_cons (pv 0) pa_nil)) pe_int (nomark _)) (pss_one (ps_set (i := 1) sc_lowest_part.nd rfl (Or.inl rfl) (pe_call (ok_part_of_degree_1 T) (hr.mono (by decide)) rfl T.d_part_of_degree_1.g T.d_part_of_degree_1.F.kp T.d_part_of_degree_1.b .nil pass0 (pa_cons (pv 0) pa_nil)))) pss_nil)
      (pss_cons (ps_if (PW.pt (pw_and (pt_val (pe_call (ok_isz T) (hr.mono (by decide)) rfl T.d_isz.g T.d_isz.F.kp T.d_isz.b .nil pass0 (pa_cons (pv 1) pa_nil))) (pw_and1 (pt_cmpR op_ge (pe_call (ok_deg T) (hr.mono (by decide)) rfl T.d_deg.g T.d_deg.F.kp T.d_deg.b .nil pass0 (pa_cons (pv 0) pa_nil)) pe_int (nomark _))))) (pss_one (ps_set (i := 1) sc_lowest_part.nd rfl (Or.inl rfl) (pe_call (ok_part_of_degree_2 T) (hr.mono (by decide)) rfl T.d_part_of_degree_2.g T.d_part_of_degree_2.F.kp T.d_part_of_degree_2.b .nil pass0 (pa_cons (pv 0) pa_nil)))) pss_nil)
      (pss_cons (ps_if (pt_val (pe_call (ok_isz T) (hr.mono (by decide)) rfl T.d_isz.g T.d_isz.F.kp T.d_isz.b .nil pass0 (pa_cons (pv 1) pa_nil))) (pss_one (ps_ret (pv 0))) pss_nil)
      (pss_one (ps_ret (pv 1)))))))), ?_⟩)
  rintro ss r ⟨f, b, rfl, hj, hb, h8, h9, rfl⟩
  have hn := hj.bare.ne
  refine q_when (et_test (e_eq (e_ixL (e_var rfl) e_int (atI_ints (atI_head hn))) e_int)) (fun h => ?_) (fun h => ?_)
  · have h0 := of_decide_eq_true h
    refine q_ret (e_lst (ea_cons e_int (ea_1 e_int)) (by simp)) ?_
    unfold lowP
    rw [if_pos h0]; rfl
  · have h0 := of_decide_eq_false h
    -- behind the first two tests part is p
    have fin : ∀ p, (p = [] → lowP f = f) → (p ≠ [] → lowP f = p) → Run (tSeq (tIfS (tB (tCall (spP R_isz) [] (fun _ _ _ => False) (tCons (tVar 1) tNil))) (tRet (tVar 0)) tNext) (tRet (tVar 1))) [.v (li f), .v (li p)] (fun _ => li (lowP f) = .n) (fun _ s => s = li (lowP f)) := fun p hp1 hp2 => by
      refine q_when (et_B (e_call (ea_1 (e_var rfl)) ⟨p, rfl, rfl⟩)) (fun h => ?_) (fun h => ?_)
      · exact q_ret (e_var rfl) (by rw [hp1 (of_decide_eq_true h)])
      · exact run_ret (e_var rfl) (by rw [hp2 (of_decide_eq_false h)])
    have step2 : ∀ p, (p = [] → lowP f = if 5 ≤ f.length ∧ P2 f ≠ [] then P2 f else f) → (p ≠ [] → lowP f = p) → _ := fun p hp1 hp2 => by
      exact q_when (sls := [.v (li f), .v (li p)]) (N := fun _ => li (lowP f) = .n) (R := fun _ s => s = li (lowP f)) (et_and (y := decide (4 ≤ (f.length : Int) - 1)) (et_B (e_call (R := R_isz) (EX := fun _ _ _ => False) (t := tCons (tVar 1) tNil) (ea_1 (e_var rfl)) ⟨p, rfl, rfl⟩)) (fun _ => et_test (e_ge (e_call (R := R_deg) (EX := fun _ _ _ => False) (t := tCons (tVar 0) tNil) (ea_1 (e_var rfl)) ⟨f, rfl, rfl⟩) (e_int (a := 4)))))
        (fun h => by
          rw [Bool.and_eq_true, decide_eq_true_eq, decide_eq_true_eq] at h
          refine q_set (te := tCall (spP R_p2) [] (fun _ _ _ => False) (tCons (tVar 0) tNil)) (i := 1) (e_call (ea_1 (e_var rfl)) ⟨f, b, rfl, hj, by omega, hb, h8, h9, rfl⟩) (fin (P2 f) (fun z => ?_) (fun z => ?_))
          · rw [hp1 h.1, if_neg fun q => q.2 z]
          · rw [hp1 h.1, if_pos ⟨by omega, z⟩])
        (fun h => by
          rw [Bool.and_eq_false_iff, decide_eq_false_iff_not, decide_eq_false_iff_not] at h
          refine fin p (fun z => ?_) hp2
          rw [hp1 z, if_neg]
          rintro ⟨q, _⟩
          rcases h with h | h
          · exact h z
          · omega)
    refine q_set (e_lst ea_nil (by decide)) (q_when (et_test (e_ge (e_call (ea_1 (e_var rfl)) ⟨f, rfl, rfl⟩) e_int)) (fun h => ?_) (fun h => ?_))
    · have hl := of_decide_eq_true h
      refine q_set (e_call (ea_1 (e_var rfl)) ⟨f, b, rfl, hj, hb, h8, h9, rfl⟩) (step2 (P1 f) (fun z => ?_) (fun z => ?_))
      · unfold lowP
        rw [if_neg h0, if_neg fun q => q.2 z]
      · unfold lowP
        rw [if_neg h0, if_pos ⟨by omega, z⟩]
    · have hl := of_decide_eq_false h
      refine step2 [] (fun _ => ?_) (fun z => absurd rfl z)
      unfold lowP
      rw [if_neg h0, if_neg fun q => by have := q.1; omega]
def R_all (ss : List Sh) (r : Sh) : Prop := ∃ f : List Int, ss = [li f] ∧ Tr f ∧ f.length ≤ 6 ∧ (∀ c ∈ f, c.natAbs ≤ 12) ∧ r = ro (MA.parts f)
theorem ok_all_parts : FnOk P w K mg base CX0 6 T.a_all_parts T.fd_all_parts ["polynomial"] (spP R_all) := by
  refine fn_pure T.d_all_parts.F sc_all_parts (fun ss r ⟨_, h, _⟩ => by rw [h]; rfl) (fun cdv A outer s H E hr => ⟨_, (pss_cons (ps_set (i := 1) sc_all_parts.nd rfl (Or.inl rfl) (pe_lst pa_nil))
      (pss_cons (ps_set (i := 2) sc_all_parts.nd rfl (Or.inl rfl) (pe_call (ok_bare T) (hr.mono (by decide)) rfl T.d_bare.g T.d_bare.F.kp T.d_bare.b .nil pass0 (pa_cons (pv 0) pa_nil)))
      (pss_cons (ps_while PassesOwn.never (pt_cmpR op_gt (pe_call (ok_deg T) (hr.mono (by decide)) rfl T.d_deg.g T.d_deg.F.kp T.d_deg.b .nil pass0 (pa_cons (pv 2) pa_nil)) pe_int (nomark _)) (pss_cons (ps_set (i := 3) sc_all_parts.nd rfl (Or.inl rfl) (pe_call (ok_lowest_part T) (hr.mono (by decide)) rfl T.d_lowest_part.g T.d_lowest_part.F.kp T.d_lowest_part.b .nil pass0 (pa_cons (pv 2) pa_nil)))
      (pss_cons (ps_expr (pe_bm PySem.F.plainAttrs_list PySem.F.slot_list_append PySem.F.type_list_append mt_append (pv 1) (pa_cons (pv 3) pa_nil)))
      (pss_one (ps_set (i := 2) sc_all_parts.nd rfl (Or.inl rfl) (pe_call (ok_bare T) (hr.mono (by decide)) rfl T.d_bare.g T.d_bare.F.kp T.d_bare.b .nil pass0 (pa_cons (pe_ix ix_tup (pe_call (ok_divided T) (hr.mono (by decide)) rfl T.d_divided.g T.d_divided.F.kp T.d_divided.b .nil pass0 (pa_cons (pv 2) (pa_cons (pv 3) pa_nil))) pe_int (fun _ _ => rfl)) pa_nil)))))))
      (pss_one (ps_ret (pv 1)))))), ?_⟩)
  rintro ss r ⟨f, rfl, hf, h6, hs, rfl⟩
  have hb0 := MA.small_bd (MA.small_bare hf hs)
  refine q_own (en_lst ea_nil (by decide)) (q_set (e_call (ea_1 (e_var rfl)) ⟨f, rfl, hf, by omega, (MA.small_bd hs).mono (by decide), rfl⟩) ?_)
  refine q_while (fun m s' => ∃ rest i done s3, (rest = [] ∨ J rest) ∧ rest.length ≤ m ∧ i + m ≤ 6 ∧ done.length = i ∧ Bd (MA.szP i) rest ∧ done ++ MA.allP m rest = MA.parts f ∧ s' = [.v (li f), .own (done.map li), .v (li rest), s3]) f.length ⟨MA.bareM f, 0, [], _, ?_, by rw [MA.bareM_len hf]; exact Nat.le_refl _, by omega, rfl, hb0, rfl, rfl⟩ ?_
  · by_cases hn : f = []
    · left; subst hn; rfl
    · exact Or.inr (J.start hf hn h6 hs)
  rintro m s' ⟨rest, i, done, s3, hj, hl, him, hdl, hb, hd, rfl⟩
  refine ⟨_, et_test (e_gt (e_call (ea_1 (e_var rfl)) ⟨rest, rfl, rfl⟩) e_int), fun h => ?_, fun h => ?_⟩
  · have h2 : 2 ≤ rest.length := by have := of_decide_eq_true h; omega
    have hj : J rest := hj.resolve_left fun z => by subst z; simp at h2
    cases m with
    | zero => omega
    | succ m =>
      obtain ⟨hi, hdv⟩ := MA.lowP_ok hj.bare h2 hj.len
      obtain ⟨n1, n2⟩ := MA.nextP_bd hj h2 hb (MA.szP_ge i)
      obtain ⟨b1, b2, b3⟩ := MA.next_ok hj.bare h2 hj.len
      have hz := MA.szP_le (i := i) (by omega)
      have hz1 := MA.szP_le (i := i + 1) (by omega)
      have hlp := MA.lowP_bd hj hb (MA.szP_ge i)
      have hdg := hi.deg
      have hjl := hj.len
      have hll : (MA.lowP rest).length ≤ 6 := by
        have := MA.times_len hi.bare.tr b1.tr hi.bare.ne b1.ne
        rw [← b2] at this
        have := List.length_pos_iff.mpr b1.ne
        omega
      rw [MA.allP, if_neg (by omega)] at hd
      have hm : (rest.length + 1 - (MA.lowP rest).length) * (MA.szP i + 1) ≤ 6 * (MA.szP i + 1) := Nat.mul_le_mul_right _ (by omega)
      obtain ⟨q1, q2, _⟩ := MA.pst_ok hj.bare.tr hi.bare.tr hi.bare.ne _ (Nat.le_refl (rest.length + 1 - (MA.lowP rest).length))
      refine q_set (e_call (ea_1 (e_var rfl)) ⟨rest, MA.szP i, rfl, hj, hb, MA.szP_ge i, by omega, rfl⟩) (q_app (i := 1) rfl (e_var rfl) (by rw [List.length_map]; omega) ?_)
      refine run_set (e_call (ea_1 (e_ixT (e_call (ea_cons (e_var rfl) (ea_1 (e_var rfl))) ⟨rest, MA.lowP rest, MA.szP i, MA.szP i, rfl, hj.bare.tr, hi.bare.tr, hi.bare.ne, by omega, by omega, hb, hlp, by omega, by omega, rfl⟩) e_int rfl)) ⟨_, rfl, MA.tr_quot hj.bare.tr hi.bare.tr hi.bare.ne, ?_, ?_, rfl⟩) ⟨m, Nat.lt_succ_self m, MA.nextP rest, i + 1, done ++ [MA.lowP rest], .v (li (MA.lowP rest)), Or.inr (hj.next h2), by omega, by omega, ?_, n2, ?_, ?_⟩
      · show (pst rest _ _).1.length ≤ 1000
        omega
      · exact n1.mono (by show MA.szP (i + 1) ≤ 9000; omega)
      · rw [List.length_append, hdl]; rfl
      · rw [List.append_assoc]; exact hd
      · rw [List.map_append]; rfl
  · have h1 : rest.length ≤ 1 := by have := of_decide_eq_false h; omega
    have e : MA.allP m rest = [] := by
      cases m with
      | zero => rfl
      | succ m => rw [MA.allP, if_pos h1]
    rw [e, List.append_nil] at hd
    subst hd
    exact run_freeze (i := 1) rfl (run_ret (e_var rfl) rfl)
/-! ### counted_parts -/
def R_dn (ss : List Sh) (r : Sh) : Prop := ∃ p : List Int, ss = [li p] ∧ p.length ≤ 1000 ∧ r = li (MA.keyP p)
theorem ok_degree_and_numbers : FnOk P w K mg base CX0 2 T.a_degree_and_numbers T.fd_degree_and_numbers ["part"] (spP R_dn) := by
  refine fn_pure T.d_degree_and_numbers.F sc_degree_and_numbers (fun ss r ⟨_, h, _⟩ => by rw [h]; rfl) (fun cdv A outer s H E hr => ⟨_, (pss_one (ps_ret (pe_op op_cat (pe_lst (pa_cons (pe_call (ok_deg T) (hr.mono (by decide)) rfl T.d_deg.g T.d_deg.F.kp T.d_deg.b .nil pass0 (pa_cons (pv 0) pa_nil)) pa_nil)) (pv 0)))), ?_⟩)
  rintro ss r ⟨p, rfl, hl, rfl⟩
  exact run_ret (en_cat (e_lst (ea_1 (e_call (ea_1 (e_var rfl)) ⟨p, rfl, rfl⟩)) (by simp)) (e_var rfl) (by simp; omega)).e rfl
def cntSh (f : List Int) : Sh := .L ((MA.counted f).map fun p => .T [.i (p.2 : Int), li p.1])
def R_cnt (ss : List Sh) (r : Sh) : Prop := ∃ f : List Int, ss = [li f] ∧ Tr f ∧ f.length ≤ 6 ∧ (∀ c ∈ f, c.natAbs ≤ 12) ∧ r = cntSh f
theorem irr_len {f p : List Int} (hf : Tr f) (h6 : f.length ≤ 6) (hp : p ∈ MA.parts f) : 2 ≤ p.length ∧ p.length ≤ 6 ∧ MA.Irr p := by
  by_cases hn : f = []
  · subst hn; cases hp
  · obtain ⟨h1, h2⟩ := MA.parts_ok hf hn h6
    have hi := h1 p hp
    have : ∀ {l : List (List Int)}, (∀ q ∈ l, MA.Irr q) → p ∈ l → p.length ≤ (MA.prod l).length := by
      intro l hl hm
      induction l with
      | nil => cases hm
      | cons q l ih =>
        have hb : MA.Bare (MA.prod l) := MA.bare_prod fun z hz => (hl z (List.mem_cons_of_mem _ hz)).bare
        have hq := (hl q (List.mem_cons_self ..))
        have hlen := MA.times_len hq.bare.tr hb.tr hq.bare.ne hb.ne
        have hbl := List.length_pos_iff.mpr hb.ne
        have hqd := hq.deg
        show p.length ≤ (Na05.times q (MA.prod l)).length
        rcases List.mem_cons.mp hm with e | e
        · rw [e]; omega
        · have := ih (fun z hz => hl z (List.mem_cons_of_mem _ hz)) e; omega
    have h3 := this h1 hp
    rw [h2, MA.whole_len] at h3
    exact ⟨hi.deg, by omega, hi⟩
theorem ok_counted_parts : FnOk P w K mg base CX0 7 T.a_counted_parts T.fd_counted_parts ["polynomial"] (spP R_cnt) := by
  refine fn_pure T.d_counted_parts.F sc_counted_parts (fun ss r ⟨_, h, _⟩ => by rw [h]; rfl) (fun cdv A outer s H E hr => ⟨_, (pss_cons (ps_set (i := 1) sc_counted_parts.nd rfl (Or.inr rfl) (pe_call (ok_all_parts T) (hr.mono (by decide)) rfl T.d_all_parts.g T.d_all_parts.F.kp T.d_all_parts.b .nil pass0 (pa_cons (pv 0) pa_nil)))
      (pss_cons (ps_set (i := 2) sc_counted_parts.nd rfl (Or.inl rfl) (pe_lst pa_nil))
      (pss_cons (ps_for PassesOwn.never rfl (pi_list (pe_callBK (cr_sortBy (ok_degree_and_numbers T) T.d_degree_and_numbers.b (hr.mono (by decide))) (by rfl) T.m_sorted (by decide +kernel) (pa_cons (pv 1) pa_nil) (pk_cons (pe_glob (v := .ref T.a_degree_and_numbers) rfl T.d_degree_and_numbers.g rfl) pk_nil))) (pg_name (i := 3) sc_counted_parts.nd rfl (Or.inl rfl)) (pss_one (ps_if (pt_cmpR (op_notInD (by exact hu65_of hr)) (pv 3) (pv 2) (by rfl)) (pss_one (ps_expr (pe_bm PySem.F.plainAttrs_list PySem.F.slot_list_append PySem.F.type_list_append mt_append (pv 2) (pa_cons (pv 3) pa_nil)))) pss_nil)))
      (pss_one (ps_ret (pe_lc (own := [("part", 3)]) (te := tTup (tCons (tBM K "list" (rCntD K) (tVar 1) (tCons (tVar 3) tNil)) (tCons (tVar 3) tNil))) (g := (gName 3)) rfl sc_counted_parts.nd (pi_list (pv 2)) (blkOk_by (own := [("part", 3)]) (N := N_counted_parts) (sc := defScope s_counted_parts) (by decide +kernel)) (fun _ _ _ _ _ => (pg_name (i := 3) sc_counted_parts.nd rfl (Or.inl rfl))) (fun _ _ _ _ _ => pts_nil) (fun _ _ _ _ _ => (pe_tup (pa_cons (pe_bm PySem.F.plainAttrs_list PySem.F.slot_list_count PySem.F.type_list_count (mt_countD (by exact hu65_of hr)) (pv 1) (pa_cons (pv 3) pa_nil)) (pa_cons (pv 3) pa_nil)))))))))), ?_⟩)
  rintro ss r ⟨f, rfl, hf, h6, hs, rfl⟩
  have hpl := MA.parts_len hf h6
  have hdl := MA.diff_len f
  refine q_set (e_call (ea_1 (e_var rfl)) ⟨f, rfl, hf, h6, hs, rfl⟩) (q_own (en_lst ea_nil (by decide)) ?_)
  refine q_for (l := (MA.sortP (MA.parts f)).map li) (en_sortBy (l := MA.parts f) (f := li) (key := MA.keyP) (e_var rfl) (e_C fun F => rfl) (fun x hx => ⟨x, rfl, by have := irr_len hf h6 hx; omega, rfl⟩)).e (fun i s' => ∃ s3, s' = [.v (li f), .v (ro (MA.parts f)), .own ((MA.once [] ((MA.sortP (MA.parts f)).take i)).map li), s3]) ⟨_, rfl⟩ ?_ ?_
  · rintro i s' x hx ⟨s3, rfl⟩
    rw [List.getElem?_map] at hx
    cases e : (MA.sortP (MA.parts f))[i]? with
    | none => rw [e] at hx; cases hx
    | some p =>
      rw [e] at hx
      obtain rfl : x = li p := (Option.some.inj hx).symm
      have e2 : MA.once [] ((MA.sortP (MA.parts f)).take (i + 1)) = if p ∈ MA.once [] ((MA.sortP (MA.parts f)).take i) then MA.once [] ((MA.sortP (MA.parts f)).take i) else MA.once [] ((MA.sortP (MA.parts f)).take i) ++ [p] := by
        rw [List.take_add_one, e]
        unfold MA.once
        rw [List.foldl_append]; rfl
      refine run_if (et_test (e_notin (e_var rfl) (el_own rfl))) (fun h => ?_) (fun h => ?_)
      · have hm : p ∉ MA.once [] ((MA.sortP (MA.parts f)).take i) := by simpa using h
        have hlen : (MA.once [] ((MA.sortP (MA.parts f)).take i)).length ≤ 1000 := by
          have hq : ∀ (l acc : List (List Int)), (MA.once acc l).length ≤ acc.length + l.length := by
            intro l
            induction l with
            | nil => intro acc; exact Nat.le_refl _
            | cons p l ih =>
              intro acc
              show (MA.once (if p ∈ acc then acc else acc ++ [p]) l).length ≤ _
              refine Nat.le_trans (ih _) ?_
              rw [List.length_cons]
              split
              · omega
              · rw [List.length_append]; simp; omega
          have := hq ((MA.sortP (MA.parts f)).take i) []
          rw [List.length_take, (MA.sortP_ok (MA.parts f)).2.length_eq] at this
          simp at this
          omega
        refine run_app (i := 2) rfl (e_var rfl) (by rw [List.length_map]; omega) ⟨.v (li p), ?_⟩
        rw [e2, if_neg hm, List.map_append]; rfl
      · have hm : p ∈ MA.once [] ((MA.sortP (MA.parts f)).take i) := by simpa using h
        refine run_next ⟨.v (li p), ?_⟩
        rw [e2, if_pos hm]; rfl
  · rintro s' ⟨s3, rfl⟩
    rw [List.length_map, List.take_length]
    refine run_freeze (i := 2) rfl ?_
    refine run_ret (en_lcL (l := (MA.diff f).map li) (e_var rfl) (fun _ => true) (fun i => .T [.i (((MA.parts f).count ((MA.diff f).getD i []) : Nat) : Int), li ((MA.diff f).getD i [])]) (by rw [List.length_map]; omega) (fun i x _ => et_yes) (fun i x hx _ => ?_)).e ?_
    · rw [List.getElem?_map] at hx
      cases e : (MA.diff f)[i]? with
      | none => rw [e] at hx; cases hx
      | some p =>
        rw [e] at hx
        obtain rfl : x = li p := (Option.some.inj hx).symm
        rw [getD_of e]
        exact e_tup (ea_cons (e_count (e_var rfl) (e_var rfl)) (ea_1 (e_var rfl))) (by simp)
    · rw [givenS_all, List.length_map]
      unfold cntSh MA.counted
      congr 1
      rw [List.map_map]
      apply List.ext_getElem?
      intro i
      rw [List.getElem?_map, List.getElem?_map]
      by_cases hi : i < (MA.diff f).length
      · rw [List.getElem?_range hi, List.getElem?_eq_getElem hi, Option.map_some, Option.map_some, List.getD_eq_getElem?_getD, List.getElem?_eq_getElem hi]; rfl
      · rw [List.getElem?_eq_none (by simpa using hi), List.getElem?_eq_none (by omega)]; rfl
/-! ### whole_number, is_irreducible -/
def R_wn (ss : List Sh) (r : Sh) : Prop := ∃ f : List Int, ss = [li f] ∧ Tr f ∧ f ≠ [] ∧ f.length ≤ 6 ∧ (∀ c ∈ f, c.natAbs ≤ 12) ∧ r = .i (Na05.sign f * (Na05.content f : Int))
theorem ok_whole_number : FnOk P w K mg base CX0 3 T.a_whole_number T.fd_whole_number ["polynomial"] (spP R_wn) := by
  refine fn_pure T.d_whole_number.F sc_whole_number (fun ss r ⟨_, h, _⟩ => by rw [h]; rfl) (fun cdv A outer s H E hr => ⟨_, (pss_one (ps_ret (pe_op op_fdivZ (pe_ix ix_list (pv 0) (pe_un un_neg pe_int) (fun _ _ => rfl)) (pe_ix ix_list (pe_call (ok_bare T) (hr.mono (by decide)) rfl T.d_bare.g T.d_bare.F.kp T.d_bare.b .nil pass0 (pa_cons (pv 0) pa_nil)) (pe_un un_neg pe_int) (fun _ _ => rfl))))), ?_⟩)
  rintro ss r ⟨f, rfl, hf, hn, h6, hs, rfl⟩
  obtain ⟨e1, e2⟩ := MA.whole_num hf hn
  have hbn : MA.bareM f ≠ [] := fun z => by have := MA.bareM_len hf; rw [z] at this; exact hn (List.length_eq_zero_iff.mp this.symm)
  have hbs := MA.last_small (MA.small_bare hf hs) hbn
  refine run_ret (e_fdiv (e_ixL (e_var rfl) (e_neg e_int) (atI_ints (atI_getLastD hn))) (e_ixL (e_call (ea_1 (e_var rfl)) ⟨f, rfl, hf, by omega, (MA.small_bd hs).mono (by decide), rfl⟩) (e_neg e_int) (atI_ints (atI_getLastD hbn))) (by omega) (log_of (b := 9000) (lt_two_pow (a := 4) (by show _ < 16; omega) (by decide)) (by decide))) ?_
  rw [e1]
def R_irr (ss : List Sh) (r : Sh) : Prop := ∃ f : List Int, ss = [li f] ∧ Tr f ∧ f.length ≤ 6 ∧ (∀ c ∈ f, c.natAbs ≤ 12) ∧ r = .b (Na05.irreducible f)
theorem ok_is_irreducible : FnOk P w K mg base CX0 7 T.a_is_irreducible T.fd_is_irreducible ["polynomial"] (spP R_irr) := by
  refine fn_pure T.d_is_irreducible.F sc_is_irreducible (fun ss r ⟨_, h, _⟩ => by rw [h]; rfl) (fun cdv A outer s H E hr => ⟨_, (pss_one (ps_ret (pe_cmpR op_eq (pe_callB call_len_seq (by rfl) T.m_len PySem.boot_len (pa_cons (pe_call (ok_all_parts T) (hr.mono (by decide)) rfl T.d_all_parts.g T.d_all_parts.F.kp T.d_all_parts.b .nil pass0 (pa_cons (pv 0) pa_nil)) pa_nil)) pe_int (nomark _)))), ?_⟩)
  rintro ss r ⟨f, rfl, hf, h6, hs, rfl⟩
  refine run_ret (e_eq (e_len (e_call (ea_1 (e_var rfl)) ⟨f, rfl, hf, h6, hs, rfl⟩)) e_int) ?_
  rw [MA.irreducible_is hf h6, List.length_map]
  congr 1
  exact decide_eq_decide.mpr (by omega)
end
end Py
namespace Py
open PySem PySem.Spec PyProof.Rows L2
open MA (Tr Bd pst pdiv divI sdivI tb isP cand1 cand2 pick P1 P2 lowP nextP J)
/-! ### the lambda of rational_roots -/
def lamE : Expr := match (defBody s_rational_roots).getD 2 (.Pass ⟨0, 0, 0, 0⟩) with
  | .Return (some (.Call _ _ [k] _)) _ => k.value
  | _ => .Name "x" ⟨0, 0, 0, 0⟩
def lamP : Arguments := match lamE with
  | .Lambda a _ _ _ => a
  | _ => ⟨[], [], none, [], [], none, []⟩
def lamB : Expr := match lamE with
  | .Lambda _ b _ _ => b
  | _ => .Name "x" ⟨0, 0, 0, 0⟩
def lamS : Scope := match lamE with
  | .Lambda _ _ c _ => c
  | _ => defScope s_rational_roots
abbrev lamT (K : PySem.W.Frag) : TE := tOp (rI CMulW fun i j => .int (i * j)) (tOp (rIxL K) (tVar 0) (tC (.int 0))) (tOp (rI CDivZ fun i j => .int (i.fdiv j)) (tVar 1) (tOp (rIxL K) (tVar 0) (tC (.int 1))))
theorem sc_lam : NdefX.NScope ["root", "scale"] ["root"] ["scale"] lamS := NdefX.nscope_by (by decide +kernel)
theorem lam_free : ∀ y ∈ lamS.names, y.2 = .free → (defScope s_rational_roots).names.lookup y.1 = some .cell ∨ (defScope s_rational_roots).names.lookup y.1 = some .free := by
  have h : (lamS.names.all fun y => !decide (y.2 = .free) || decide ((defScope s_rational_roots).names.lookup y.1 = some .cell)) = true := by decide +kernel
  intro y hy e
  have := List.all_eq_true.mp h y hy
  rw [Bool.or_eq_true, Bool.not_eq_true', decide_eq_false_iff_not, decide_eq_true_eq] at this
  rcases this with z | z
  · exact absurd e z
  · exact Or.inl z
theorem lam_fr : ∀ y ∈ (["scale"] : List Str), (y, NameKind.free) ∈ lamS.names := by
  have h : ((["scale"] : List Str).all fun y => decide ((y, NameKind.free) ∈ lamS.names)) = true := by decide +kernel
  intro y hy
  exact of_decide_eq_true (List.all_eq_true.mp h y hy)
section
variable {P : Program} {w : World} {K : PySem.W.Frag} {mg : Str → Option Value} {base : Heap}
/-- as fn_pure; the code object is told -/
theorem fn_pureC {x qual : Str} {st : Stmt} {f : Addr} {fd : FuncData} {N ps : List Str} {k : Nat} {R : List Sh → Sh → Prop} (F : Fun K x qual st f fd) (S : FnScope N ps (defScope st)) (len : ∀ ss r, R ss r → ss.length = ps.length)
    (hbody : ∀ (cdv : Value) (A : Around) (outer : List Env) (s : Shared) (H : Hp) (E : XK), fd.code = cdv → Room k (A.deeper (envOfC qual (defScope st) s.heap.objs.size f cdv)) →
      ∃ t, PSs (cxOf CX0 P w K mg base N qual (defScope st) f cdv A outer s H E).nox (defBody st) t ∧ ∀ ss r, R ss r → Run t ((ss.map Sl.v) ++ List.replicate (N.length - ss.length) Sl.x) (fun _ => r = .n) (fun _ s => s = r)) : FnOk P w K mg base CX0 (k + 1) f fd ps (spP R) := by
  obtain ⟨oc, od, kV, doc, pm, an, cdv, ct, osl, rfl, lk, hcd⟩ := F.ex
  refine fn_of lk hcd S (fun vs H Q E h => ?_) fun A outer s H vs Q E hr h => ?_
  · obtain ⟨F, ss, r, _, h2, h3, _⟩ := h
    rw [h2.len, len ss r h3]
  · obtain ⟨F1, ss, r, h1, h2, h3, q⟩ := h
    obtain ⟨t, d, hrun⟩ := hbody cdv A outer s H E rfl hr
    refine ⟨t, d.nox, hrun ss r h3 F1 H F1 H _ (start_ok h1 h2) _ (fun F' H' σ' s' k' _ e => ?_) (fun v F' H' σ' s' s k' i e => q v F' H' k'.g (by rw [← e]; exact i)) (fun _ _ _ _ _ _ z => z.elim) (fun _ _ _ _ _ _ z => z.elim)⟩
    exact q .non F' H' k'.g (by rw [e]; rfl)
theorem filt_given {A : Type} (d : A) (l : List A) (p : A → Bool) (v : A → Sh) : givenS l.length (fun n => p (l.getD n d)) (fun n => v (l.getD n d)) = (l.filter p).map v := by
  unfold givenS
  induction l with
  | nil => rfl
  | cons x l ih =>
    rw [List.length_cons, List.range_succ_eq_map, List.filter_cons, List.filter_cons]
    have e1 : ((List.range l.length).map Nat.succ).filter (fun n => p ((x :: l).getD n d)) = ((List.range l.length).filter fun n => p (l.getD n d)).map Nat.succ := by
      rw [List.filter_map]; rfl
    rw [e1]
    have e2 : (((List.range l.length).filter fun n => p (l.getD n d)).map Nat.succ).map (fun n => v ((x :: l).getD n d)) = ((List.range l.length).filter fun n => p (l.getD n d)).map fun n => v (l.getD n d) := by
      rw [List.map_map]; rfl
    have e3 : p ((x :: l).getD 0 d) = p x := rfl
    rw [e3]
    cases p x with
    | true => simp only [if_true, List.map_cons, e2, ih]; rfl
    | false => simp only [Bool.false_eq_true, if_false, e2, ih]
variable (T : Txt K mg)
def R_roots (P0 : Addr) (ss : List Sh) (r : Sh) : Prop := ∃ f : List Int, ss = [liT P0 f] ∧ Tr f ∧ f ≠ [] ∧ f.length ≤ 6 ∧ (∀ c ∈ f, c.natAbs ≤ 12) ∧ r = .L (((Na05.rationals f).map Na05.fraction).map li)
theorem ok_rational_roots (TB : LamX.TabB base mg T.co_rational_roots T.ta_rational_roots) : FnOk P w K mg base CX0 8 T.a_rational_roots T.fd_rational_roots ["polynomial"] (spP (R_roots T.cl.2)) := by
  have hqual : ("rational_roots" : Str) ++ ".<locals>." ++ "<lambda>" = qR := rfl
  refine fn_pureC T.d_rational_roots.F sc_rational_roots (fun ss r ⟨_, h, _⟩ => by rw [h]; rfl) (fun cdv A outer s H E hcd hr => have hcode : cdv = .ref T.co_rational_roots := hcd.symm.trans T.cc_rational_roots; ⟨_, (pss_cons (ps_setLc (i := 1) (own := [("often", 3), ("part", 4)]) (te := tCall (spP R_low) [] (fun _ _ _ => False) (tCons (tUn (rU fun i => .int (-i)) (tOp (rIxL K) (tVar 4) (tC (.int 0)))) (tCons (tOp (rIxL K) (tVar 4) (tC (.int 1))) tNil))) (g := (gTup K 2 (gCons (gName 3) (gCons (gName 4) gNil)))) rfl sc_rational_roots.nd rfl rfl (sw_true rfl rfl rfl (by decide +kernel)) (pi_list (pe_call (ok_counted_parts T) (hr.mono (by decide)) rfl T.d_counted_parts.g T.d_counted_parts.F.kp T.d_counted_parts.b .nil pass0 (pa_cons (pv 0) pa_nil))) (blkOk_by (own := [("often", 3), ("part", 4)]) (N := N_rational_roots) (sc := defScope s_rational_roots) (by decide +kernel)) (fun _ _ _ _ _ => (pg_pair (i := 3) (j := 4) rfl sc_rational_roots.nd rfl (Or.inl rfl) rfl (Or.inl rfl))) (fun _ _ _ _ _ => (pts_one (pt_cmpR op_eq (pe_call (ok_deg T) (hr.mono (by decide)) rfl T.d_deg.g T.d_deg.F.kp T.d_deg.b .nil pass0 (pa_cons (pv 4) pa_nil)) pe_int (nomark _)))) (fun _ _ _ _ _ => (pe_call (ok_low T) (hr.mono (by decide)) rfl T.d_low.g T.d_low.F.kp T.d_low.b .nil pass0 (pa_cons (pe_un un_neg (pe_ix ix_list (pv 4) pe_int (fun _ _ => rfl))) (pa_cons (pe_ix ix_list (pv 4) pe_int (fun _ _ => rfl)) pa_nil)))))
      (pss_cons (ps_set (i := 2) sc_rational_roots.nd rfl (Or.inr rfl) (pe_callB call_abs (by rfl) T.m_abs (by decide +kernel) (pa_cons (pe_ix ix_list (pv 0) (pe_un un_neg pe_int) (fun _ _ => rfl)) pa_nil)))
      (pss_one (ps_ret (pe_callBS (cr_sortLam (k := 0) (tb := lamT K) (params := lamP) (body := lamB) (scope := lamS) (N := ["root", "scale"]) (fr := ["scale"]) (js := [2]) sc_lam (hr.mono (by decide)) (fun _ _ _ _ => rfl) (fun ok => NdefX.Caps.made ok lam_free lam_fr rfl) (fun _ _ _ _ _ _ _ => (pe_op op_mulW (pe_ix ix_list (pv 0) pe_int (fun _ _ => rfl)) (pe_op op_fdivZ (pv 1) (pe_ix ix_list (pv 0) pe_int (fun _ _ => rfl)))))) (by rfl) T.m_sorted (by decide +kernel) (pa_cons (pv 1) pa_nil) (pk_cons (pe_lam (params := lamP) (body := lamB) (scope := lamS) TB hcode hqual rfl lam_free) pk_nil)))))), ?_⟩)
  rintro ss r ⟨f, rfl, hf, hn, h6, hs, rfl⟩
  have hpl := MA.parts_len hf h6
  have hdl := MA.diff_len f
  have hcl : (MA.counted f).length ≤ 5 := by unfold MA.counted; rw [List.length_map]; omega
  have hls := MA.last_small hs hn
  -- a part of the first degree
  have lin : ∀ p ∈ MA.linear f, ∃ c a : Int, p = [c, a] ∧ 0 < a ∧ a ≤ 12 ∧ c.natAbs < 2 ^ 4500 ∧ MA.Bare p := fun p hp => by
    obtain ⟨m1, m2⟩ := MA.mem_linear.mp hp
    obtain ⟨_, _, hi⟩ := irr_len hf h6 m1
    have hr : MA.rho p ∈ (MA.linear f).map MA.rho := List.mem_map.mpr ⟨p, hp, rfl⟩
    have hd := MA.den_dvd hf hn ((MA.root_linear hf hn h6 _).mp hr)
    have hl := MA.lin_rho hi.bare m2
    have hz : f.getLastD 0 ≠ 0 := by obtain ⟨z, ez⟩ := MA.exists_last hn; rw [MA.getLastD_of ez]; exact hf z ez
    have hb := MA.parts_bd hf h6 hs p m1
    have hden : ((MA.rho p).den : Int) ≤ 12 := by
      have := MA.le_of_dvd hd hz
      omega
    have hpos := (MA.rho p).den_pos
    refine ⟨-(MA.rho p).num, ((MA.rho p).den : Int), hl.symm, by omega, hden, ?_, hi.bare⟩
    have : -(MA.rho p).num ∈ p := by
      have h0 : -(MA.rho p).num ∈ MA.lin (MA.rho p) := List.mem_cons_self ..
      rw [hl] at h0
      exact h0
    exact hb _ this
  refine q_set (e_is (en_lcP (A := List Int × Nat) (l := MA.counted f) (f1 := fun p => .i (p.2 : Int)) (f2 := fun p => li p.1) (by decide) (e_call (ea_1 (e_liT (e_var rfl))) ⟨f, rfl, hf, h6, hs, rfl⟩) (fun n => (fun p : List Int × Nat => decide ((p.1.length : Int) - 1 = 1)) ((MA.counted f).getD n ([], 0))) (fun n => (fun p : List Int × Nat => li (MA.lowest (-(p.1.getD 0 0)) (p.1.getD 1 0))) ((MA.counted f).getD n ([], 0))) (by omega) (fun n x hx => ?_) (fun n x hx hp => ?_)).e (s' := .L ((MA.rootsL f).map li)) ?_) ?_
  · rw [getD_of hx]
    exact et_test (e_eq (e_call (ea_1 (e_var rfl)) ⟨x.1, rfl, rfl⟩) e_int)
  · rw [getD_of hx] at hp ⊢
    have hm := List.mem_of_getElem? hx
    obtain ⟨p, hpd, rfl⟩ := List.mem_map.mp hm
    have hpl : p ∈ MA.linear f := List.mem_filter.mpr ⟨hpd, hp⟩
    obtain ⟨c, a, rfl, ha, ha2, _, _⟩ := lin p hpl
    exact e_call (ea_cons (e_neg (e_ixL (e_var rfl) e_int (atI_ints (ns := [c, a]) rfl))) (ea_1 (e_ixL (e_var rfl) e_int (atI_ints (ns := [c, a]) rfl)))) ⟨-c, a, rfl, by omega, lt_two_pow (a := 4) (by show a.natAbs < 16; omega) (by decide), rfl⟩
  · refine (congrArg Sh.L (filt_given (([], 0) : List Int × Nat) (MA.counted f) (fun p => decide ((p.1.length : Int) - 1 = 1)) (fun p => li (MA.lowest (-(p.1.getD 0 0)) (p.1.getD 1 0))))).trans ?_
    unfold MA.counted MA.rootsL MA.linear
    rw [List.filter_map, List.map_map, List.map_map]
    rfl
  · refine q_set (e_abs (e_ixL (e_liT (e_var rfl)) (e_neg e_int) (atI_ints (atI_getLastD hn)))) (run_ret (en_sortLam (i := 0) (m := 2) (P := T.ta_rational_roots) (ns := f) (c := .i ((f.getLastD 0).natAbs : Int)) (l := MA.rootsL f) (f := li) (key := MA.keyR ((f.getLastD 0).natAbs : Int)) rfl rfl rfl (e_var rfl) (fun x hx => ?_)).e ?_)
    · obtain ⟨p, hp, rfl⟩ := List.mem_map.mp hx
      obtain ⟨c, a, rfl, ha, ha2, hc, hbare⟩ := lin p hp
      have hlow : MA.lowest (-c) a = Na05.fraction (MA.rho [c, a]) := (MA.lowest_is (-c) a (by omega)).symm
      have hl := MA.lin_rho hbare rfl
      have e1 : -(MA.rho [c, a]).num = c := by
        have := congrArg (fun l => l.getD 0 0) hl
        exact this
      have e2 : ((MA.rho [c, a]).den : Int) = a := by
        have := congrArg (fun l => l.getD 1 0) hl
        exact this
      show Py.E _ [.v (li (MA.lowest (-c) a)), _] (.i (MA.keyR _ (MA.lowest (-c) a)))
      rw [hlow]
      unfold Na05.fraction MA.keyR
      rw [e2]
      have hnum : (MA.rho [c, a]).num.natAbs < 2 ^ 4500 := by
        have : (MA.rho [c, a]).num = -c := by omega
        rw [this, Int.natAbs_neg]; exact hc
      have hq : (((f.getLastD 0).natAbs : Int).fdiv a).natAbs < 2 ^ 20 := by
        rw [Int.fdiv_eq_ediv_of_nonneg _ (by omega)]
        have h1 : ((f.getLastD 0).natAbs : Int) / a ≤ ((f.getLastD 0).natAbs : Int) := Int.ediv_le_self _ (by omega)
        have h2 : 0 ≤ ((f.getLastD 0).natAbs : Int) / a := Int.ediv_nonneg (by omega) (by omega)
        show _ < 1048576
        omega
      exact e_mul (e_ixL (e_var rfl) e_int (atI_ints (ns := [(MA.rho [c, a]).num, a]) rfl)) (e_fdiv (e_var rfl) (e_ixL (e_var rfl) e_int (atI_ints (ns := [(MA.rho [c, a]).num, a]) (c := a) rfl)) (show a ≠ 0 by omega) (log_of (b := 9000) (lt_two_pow (a := 4) (by show a.natAbs < 16; omega) (by decide)) (by decide))) (mulOk hnum hq (by decide))
    · rw [MA.roots_is hf hn h6]
end
end Py
namespace Py
open PySem PySem.Spec PyProof.Rows L2
open MA (Tr Bd pst pdiv divI sdivI tb)
theorem small_true {f : List Int} (h : Na05.small f = true) : f.length ≤ 6 ∧ ∀ c ∈ f, c.natAbs ≤ 12 := by
  unfold Na05.small at h
  rw [Bool.and_eq_true, decide_eq_true_eq, List.all_eq_true] at h
  exact ⟨h.1, fun c hc => of_decide_eq_true (h.2 c hc)⟩
/-- one number; two numbers -/
def R_pn1 (c : Nat → Na05.Call) (p q : List Int) (ss : List Sh) (p' q' : List Int) (r : Sh) : Prop := ∃ (n : Nat) (ans : List Int), ss = [.i (n : Int)] ∧ GoodS ⟨p, q⟩ ∧ Na05.step ⟨p, q⟩ (c n) = (⟨p', q'⟩, ans) ∧ r = li ans
def R_pn2 (c : Nat → Nat → Na05.Call) (p q : List Int) (ss : List Sh) (p' q' : List Int) (r : Sh) : Prop := ∃ (m n : Nat) (ans : List Int), ss = [.i (m : Int), .i (n : Int)] ∧ m < 2 ^ 32 ∧ n < 2 ^ 32 ∧ GoodS ⟨p, q⟩ ∧ Na05.step ⟨p, q⟩ (c m n) = (⟨p', q'⟩, ans) ∧ r = li ans
theorem good_sq {p : List Int} (h : Good p) (hn : p ≠ []) : MA.SqP p := by
  rcases h.cases with z | ⟨n, z⟩
  · exact MA.sq_hand z hn
  · exact MA.sq_circ z
section
variable {P : Program} {w : World} {K : PySem.W.Frag} {mg : Str → Option Value} {base : Heap} (T : Txt K mg)
/-! ### may_be_taken_apart -/
def R_mta (ss : List Sh) (r : Sh) : Prop := ∃ f : List Int, ss = [li f] ∧ f.length ≤ 1000 ∧ r = .b (Na05.small f)
theorem ok_may_be_taken_apart : FnOk P w K mg base CX0 2 T.a_may_be_taken_apart T.fd_may_be_taken_apart ["polynomial"] (spP R_mta) := by
  refine fn_pure T.d_may_be_taken_apart.F sc_may_be_taken_apart (fun ss r ⟨_, h, _⟩ => by rw [h]; rfl) (fun cdv A outer s H E hr => ⟨_, (pss_cons (ps_set (i := 1) sc_may_be_taken_apart.nd rfl (Or.inl rfl) (pe_callBK (cr_maxDflt rfl) (by rfl) T.m_max (by decide +kernel) (pa_cons (pe_lc (own := [("number", 2)]) (g := (gName 2)) rfl sc_may_be_taken_apart.nd (pi_list (pv 0)) (blkOk_by (own := [("number", 2)]) (N := N_may_be_taken_apart) (sc := defScope s_may_be_taken_apart) (by decide +kernel)) (fun _ _ _ _ _ => (pg_name (i := 2) sc_may_be_taken_apart.nd rfl (Or.inl rfl))) (fun _ _ _ _ _ => pts_nil) (fun _ _ _ _ _ => (pe_callB call_abs (by rfl) T.m_abs (by decide +kernel) (pa_cons (pv 2) pa_nil)))) pa_nil) (pk_cons pe_int pk_nil)))
      (pss_one (ps_ret (pe_and (pe_cmpR op_le (pe_call (ok_deg T) (hr.mono (by decide)) rfl T.d_deg.g T.d_deg.F.kp T.d_deg.b .nil pass0 (pa_cons (pv 0) pa_nil)) (pe_glob (v := .int (5)) rfl T.c_HIGHEST_DEGREE ⟨_, rfl⟩) (nomark _)) (pe_one (pe_cmpR op_le (pv 1) (pe_glob (v := .int (12)) rfl T.c_LARGEST_TAKEN_APART ⟨_, rfl⟩) (nomark _))))))), ?_⟩)
  rintro ss r ⟨f, rfl, hl, rfl⟩
  obtain ⟨m, h1, h2⟩ := max_list (f.map fun c => (c.natAbs : Int))
  refine q_set (e_maxD (ns := f.map fun c => (c.natAbs : Int)) (m := m) (e_is (en_lcI (e_var rfl) (fun c => .i (c.natAbs : Int)) (by omega) (fun c hc => e_abs (e_var rfl))).e (by unfold li; rw [List.map_map]; rfl)) e_int h1 h2) ?_
  refine run_ret (e_andV (e_le (e_call (ea_1 (e_var rfl)) ⟨f, rfl, rfl⟩) e_int) (fun _ => e_le (e_var rfl) e_int)) ?_
  congr 1
  unfold Na05.small
  congr 1
  · exact decide_eq_decide.mpr (by omega)
  · by_cases hn : f = []
    · subst hn
      rw [h1 rfl]; rfl
    · obtain ⟨h3, h4⟩ := h2 (by simpa using hn)
      obtain ⟨z, hz, rfl⟩ := List.mem_map.mp h3
      cases e : f.all (fun c => decide (c.natAbs ≤ 12)) with
      | true =>
        have := of_decide_eq_true (List.all_eq_true.mp e z hz)
        exact decide_eq_true (by omega)
      | false =>
        obtain ⟨y, hy, hc⟩ := List.all_eq_false.mp e
        have := h4 _ (List.mem_map.mpr ⟨y, hy, rfl⟩)
        exact decide_eq_false fun hle => hc (decide_eq_true (by omega))
/-! ### apart -/
theorem shown_len (f : List Int) : (Na05.shown f).length = f.length + 1 := rfl
theorem ok_answer_apart : FnOk P w K mg base CX0 9 T.a_answer_apart T.fd_answer_apart ["line"] (spLn T.cl (R_pl .apart)) := by
  refine fn_ln T.d_answer_apart.F sc_answer_apart (fun p q ss p' q' r h => by rw [h.1]; rfl) (fun cdv A outer s H E hr => ⟨_, (pss_cons (ps_if (PW.pt (pw_or (pt_val (pe_call (ok_isz T) (hr.mono (by decide)) rfl T.d_isz.g T.d_isz.F.kp T.d_isz.b .nil pass0 (pa_cons (pe_fld (pv 0) rfl) pa_nil))) (pw_or1 (pt_not (pt_val (pe_call (ok_may_be_taken_apart T) (hr.mono (by decide)) rfl T.d_may_be_taken_apart.g T.d_may_be_taken_apart.F.kp T.d_may_be_taken_apart.b .nil pass0 (pa_cons (pe_fld (pv 0) rfl) pa_nil))))))) (pss_one (ps_ret (pe_lst (pa_cons (pe_glob (v := .int (-6)) rfl T.c_REFUSED_POLYNOMIAL ⟨_, rfl⟩) pa_nil)))) pss_nil)
      (pss_cons (ps_set (i := 1) sc_answer_apart.nd rfl (Or.inl rfl) (pe_call (ok_counted_parts T) (hr.mono (by decide)) rfl T.d_counted_parts.g T.d_counted_parts.F.kp T.d_counted_parts.b .nil pass0 (pa_cons (pe_fld (pv 0) rfl) pa_nil)))
      (pss_cons (ps_set (i := 2) sc_answer_apart.nd rfl (Or.inl rfl) (pe_lst (pa_cons pe_int (pa_cons (pe_call (ok_whole_number T) (hr.mono (by decide)) rfl T.d_whole_number.g T.d_whole_number.F.kp T.d_whole_number.b .nil pass0 (pa_cons (pe_fld (pv 0) rfl) pa_nil)) (pa_cons (pe_callB call_len_seq (by rfl) T.m_len PySem.boot_len (pa_cons (pv 1) pa_nil)) pa_nil)))))
      (pss_cons (ps_for PassesOwn.never rfl (pi_list (pv 1)) (pg_pair (i := 3) (j := 4) rfl sc_answer_apart.nd rfl (Or.inl rfl) rfl (Or.inl rfl)) (pss_cons (ps_expr (pe_bm PySem.F.plainAttrs_list PySem.F.slot_list_append PySem.F.type_list_append mt_append (pv 2) (pa_cons (pv 3) pa_nil)))
      (pss_one (ps_expr (pe_bm PySem.F.plainAttrs_list PySem.F.slot_list_extend PySem.F.type_list_extend mt_extend (pv 2) (pa_cons (pe_call (ok_shown T) (hr.mono (by decide)) rfl T.d_shown.g T.d_shown.F.kp T.d_shown.b .nil pass0 (pa_cons (pv 4) pa_nil)) pa_nil))))))
      (pss_one (ps_ret (pv 2))))))), ?_⟩)
  rintro a p q ss p' q' r ⟨rfl, ⟨hp, hq⟩, ans, hst, rfl⟩
  have hp : Good p := hp
  cases hst
  have l1 := hp.len
  refine q_when (et_or (et_B (e_call (ea_1 (e_fst T.oc rfl)) ⟨p, rfl, rfl⟩)) (fun _ => et_not (et_B (e_call (ea_1 (e_fst T.oc rfl)) ⟨p, rfl, by omega, rfl⟩)))) (fun h => ?_) (fun h => ?_)
  · rw [Bool.or_eq_true, decide_eq_true_eq, Bool.not_eq_true'] at h
    exact q_ret (e_lst (ea_1 e_int) (by simp)) ⟨by rw [if_pos h]; rfl, rfl⟩
  · rw [Bool.or_eq_false_iff, decide_eq_false_iff_not, Bool.not_eq_false'] at h
    obtain ⟨hn, hsm⟩ := h
    obtain ⟨h6, hs⟩ := small_true hsm
    have hcl : (MA.counted p).length ≤ 5 := by
      have := MA.parts_len hp.tr h6
      have := MA.diff_len p
      unfold MA.counted; rw [List.length_map]; omega
    rw [if_neg (by rintro (z | z); exact hn z; rw [hsm] at z; cases z), MA.apart_counted hp.tr hn h6]
    dsimp only
    have hlen : ∀ i, (((MA.counted p).take i).flatMap fun x => (x.2 : Int) :: Na05.shown x.1).length ≤ 10 * i := by
      intro i
      induction i with
      | zero => simp
      | succ i ih =>
        rw [List.take_add_one, List.flatMap_append, List.length_append]
        cases e : (MA.counted p)[i]? with
        | none => simp only [Option.toList_none, List.flatMap_nil, List.length_nil]; omega
        | some x =>
          have hm := List.mem_of_getElem? e
          obtain ⟨y, hy, rfl⟩ := List.mem_map.mp hm
          have := irr_len hp.tr h6 (((MA.diff_ok p).2 y).mp hy)
          simp only [Option.toList_some, List.flatMap_cons, List.flatMap_nil, List.append_nil, List.length_cons, shown_len]
          omega
    refine q_set (e_call (ea_1 (e_fst T.oc rfl)) ⟨p, rfl, hp.tr, h6, hs, rfl⟩) ?_
    refine q_own (en_lst (ea_cons e_int (ea_cons (e_call (ea_1 (e_fst T.oc rfl)) ⟨p, rfl, hp.tr, hn, h6, hs, rfl⟩) (ea_1 (e_len (e_var rfl))))) (by simp)) ?_
    refine q_forP (A := List Int × Nat) (l := MA.counted p) (f1 := fun x => .i (x.2 : Int)) (f2 := fun x => li x.1) (e_var rfl) (fun i s' => ∃ s3 s4, s' = [.ob a T.cl p q, .v (cntSh p), .own (([0, Na05.sign p * (Na05.content p : Int), ((MA.counted p).length : Int)] ++ ((MA.counted p).take i).flatMap fun x => (x.2 : Int) :: Na05.shown x.1).map Sh.i), s3, s4]) ⟨.x, .x, ?_⟩ ?_ ?_
    · rw [List.length_map]; rfl
    · rintro i s' x hx ⟨s3, s4, rfl⟩
      have hm := List.mem_of_getElem? hx
      have hi : i < (MA.counted p).length := (List.getElem?_eq_some_iff.mp hx).1
      obtain ⟨y, hy, rfl⟩ := List.mem_map.mp hm
      have hy2 := irr_len hp.tr h6 (((MA.diff_ok p).2 y).mp hy)
      have hle := hlen i
      refine q_app (i := 2) rfl (e_var rfl) (by rw [List.length_map, List.length_append]; simp only [List.length_cons, List.length_nil]; omega) ?_
      refine run_ext (i := 2) rfl (e_call (ea_1 (e_var rfl)) ⟨y, rfl, by omega, rfl⟩).el (by simp only [List.length_append, List.length_map, List.length_cons, List.length_nil, shown_len]; omega) ⟨.v (.i ((MA.parts p).count y : Int)), .v (li y), ?_⟩
      rw [List.take_add_one, hx, List.flatMap_append]
      simp only [Option.toList_some, List.flatMap_cons, List.flatMap_nil, List.append_nil, List.map_append, List.map_cons, List.append_assoc]
      rfl
    · rintro s' ⟨s3, s4, rfl⟩
      rw [List.take_length]
      exact run_freeze (i := 2) rfl (run_ret (e_var rfl) ⟨rfl, rfl⟩)
/-! ### irreducible, rationals, squarefree -/
theorem ok_answer_irreducible : FnOk P w K mg base CX0 9 T.a_answer_irreducible T.fd_answer_irreducible ["line"] (spLn T.cl (R_pl .irreducible)) := by
  refine fn_ln T.d_answer_irreducible.F sc_answer_irreducible (fun p q ss p' q' r h => by rw [h.1]; rfl) (fun cdv A outer s H E hr => ⟨_, (pss_cons (ps_if (pt_not (pt_val (pe_call (ok_may_be_taken_apart T) (hr.mono (by decide)) rfl T.d_may_be_taken_apart.g T.d_may_be_taken_apart.F.kp T.d_may_be_taken_apart.b .nil pass0 (pa_cons (pe_fld (pv 0) rfl) pa_nil)))) (pss_one (ps_ret (pe_lst (pa_cons (pe_glob (v := .int (-6)) rfl T.c_REFUSED_POLYNOMIAL ⟨_, rfl⟩) pa_nil)))) pss_nil)
      (pss_cons (ps_if (pt_val (pe_call (ok_is_irreducible T) (hr.mono (by decide)) rfl T.d_is_irreducible.g T.d_is_irreducible.F.kp T.d_is_irreducible.b .nil pass0 (pa_cons (pe_fld (pv 0) rfl) pa_nil))) (pss_one (ps_ret (pe_lst (pa_cons pe_int pa_nil)))) pss_nil)
      (pss_one (ps_ret (pe_lst (pa_cons pe_int pa_nil)))))), ?_⟩)
  rintro a p q ss p' q' r ⟨rfl, ⟨hp, hq⟩, ans, hst, rfl⟩
  have hp : Good p := hp
  cases hst
  have l1 := hp.len
  refine q_when (et_not (et_B (e_call (ea_1 (e_fst T.oc rfl)) ⟨p, rfl, by omega, rfl⟩))) (fun h => ?_) (fun h => ?_)
  · rw [Bool.not_eq_true'] at h
    exact q_ret (e_lst (ea_1 e_int) (by simp)) ⟨by rw [if_pos h]; rfl, rfl⟩
  · rw [Bool.not_eq_false'] at h
    obtain ⟨h6, hs⟩ := small_true h
    rw [if_neg (by rw [h]; decide)]
    refine q_when (et_B (e_call (ea_1 (e_fst T.oc rfl)) ⟨p, rfl, hp.tr, h6, hs, rfl⟩)) (fun h => ?_) (fun h => ?_)
    · exact q_ret (e_lst (ea_1 e_int) (by simp)) ⟨by rw [if_pos h]; rfl, rfl⟩
    · exact run_ret (e_lst (ea_1 e_int) (by simp)) ⟨by rw [if_neg (by rw [h]; decide)]; rfl, rfl⟩
theorem ok_answer_rationals (TB : LamX.TabB base mg T.co_rational_roots T.ta_rational_roots) : FnOk P w K mg base CX0 9 T.a_answer_rationals T.fd_answer_rationals ["line"] (spLn T.cl (R_pl .rationals)) := by
  refine fn_ln T.d_answer_rationals.F sc_answer_rationals (fun p q ss p' q' r h => by rw [h.1]; rfl) (fun cdv A outer s H E hr => ⟨_, (pss_cons (ps_if (PW.pt (pw_or (pt_val (pe_call (ok_isz T) (hr.mono (by decide)) rfl T.d_isz.g T.d_isz.F.kp T.d_isz.b .nil pass0 (pa_cons (pe_fld (pv 0) rfl) pa_nil))) (pw_or1 (pt_not (pt_val (pe_call (ok_may_be_taken_apart T) (hr.mono (by decide)) rfl T.d_may_be_taken_apart.g T.d_may_be_taken_apart.F.kp T.d_may_be_taken_apart.b .nil pass0 (pa_cons (pe_fld (pv 0) rfl) pa_nil))))))) (pss_one (ps_ret (pe_lst (pa_cons (pe_glob (v := .int (-6)) rfl T.c_REFUSED_POLYNOMIAL ⟨_, rfl⟩) pa_nil)))) pss_nil)
      (pss_cons (ps_set (i := 1) sc_answer_rationals.nd rfl (Or.inl rfl) (pe_call (ok_rational_roots T TB) (hr.mono (by decide)) rfl T.d_rational_roots.g T.d_rational_roots.F.kp T.d_rational_roots.b .nil pass0 (pa_cons (pe_fld (pv 0) rfl) pa_nil)))
      (pss_cons (ps_set (i := 2) sc_answer_rationals.nd rfl (Or.inl rfl) (pe_lst (pa_cons (pe_callB call_len_seq (by rfl) T.m_len PySem.boot_len (pa_cons (pv 1) pa_nil)) pa_nil)))
      (pss_cons (ps_for PassesOwn.never rfl (pi_list (pv 1)) (pg_name (i := 3) sc_answer_rationals.nd rfl (Or.inl rfl)) (pss_one (ps_expr (pe_bm PySem.F.plainAttrs_list PySem.F.slot_list_extend PySem.F.type_list_extend mt_extend (pv 2) (pa_cons (pv 3) pa_nil)))))
      (pss_one (ps_ret (pv 2))))))), ?_⟩)
  rintro a p q ss p' q' r ⟨rfl, ⟨hp, hq⟩, ans, hst, rfl⟩
  have hp : Good p := hp
  cases hst
  have l1 := hp.len
  refine q_when (et_or (et_B (e_call (ea_1 (e_fst T.oc rfl)) ⟨p, rfl, rfl⟩)) (fun _ => et_not (et_B (e_call (ea_1 (e_fst T.oc rfl)) ⟨p, rfl, by omega, rfl⟩)))) (fun h => ?_) (fun h => ?_)
  · rw [Bool.or_eq_true, decide_eq_true_eq, Bool.not_eq_true'] at h
    exact q_ret (e_lst (ea_1 e_int) (by simp)) ⟨by rw [if_pos h]; rfl, rfl⟩
  · rw [Bool.or_eq_false_iff, decide_eq_false_iff_not, Bool.not_eq_false'] at h
    obtain ⟨hn, hsm⟩ := h
    obtain ⟨h6, hs⟩ := small_true hsm
    rw [if_neg (by rintro (z | z); exact hn z; rw [hsm] at z; cases z)]
    have hrl : (Na05.rationals p).length ≤ 5 := by
      have e := congrArg List.length (MA.roots_is hp.tr hn h6)
      rw [(List.mergeSort_perm _ _).length_eq, List.length_map] at e
      rw [← e]
      unfold MA.rootsL MA.linear
      rw [List.length_map]
      have := MA.parts_len hp.tr h6
      have := MA.diff_len p
      have := List.length_filter_le (fun p => decide ((p.length : Int) - 1 = 1)) (MA.diff p)
      omega
    refine q_set (e_call (ea_1 (e_fstT T.oc rfl)) ⟨p, rfl, hp.tr, hn, h6, hs, rfl⟩) ?_
    refine q_own (en_lst (ea_1 (e_len (e_var rfl))) (by simp)) (q_for (e_var rfl) (fun i s' => ∃ s3, s' = [.ob a T.cl p q, .v (.L (((Na05.rationals p).map Na05.fraction).map li)), .own ((((Na05.rationals p).length : Int) :: ((Na05.rationals p).take i).flatMap Na05.fraction).map Sh.i), s3]) ⟨.x, ?_⟩ ?_ ?_)
    · rw [List.length_map, List.length_map]; rfl
    · rintro i s' x hx ⟨s3, rfl⟩
      rw [List.getElem?_map, List.getElem?_map] at hx
      cases e : (Na05.rationals p)[i]? with
      | none => rw [e] at hx; cases hx
      | some y =>
        rw [e] at hx
        obtain rfl : x = li (Na05.fraction y) := (Option.some.inj hx).symm
        have hi : i < (Na05.rationals p).length := (List.getElem?_eq_some_iff.mp e).1
        have hfl : ∀ l : List Rat, (l.flatMap Na05.fraction).length = 2 * l.length := by
          intro l
          induction l with
          | nil => rfl
          | cons r l ih => rw [List.flatMap_cons, List.length_append, ih, List.length_cons]; show 2 + _ = _; omega
        refine run_ext (i := 2) rfl (e_var rfl).el (by simp only [List.length_map, List.length_cons, hfl, List.length_take]; show _ + 2 ≤ _; omega) ⟨.v (li (Na05.fraction y)), ?_⟩
        rw [List.take_add_one, e, List.flatMap_append]
        simp only [Option.toList_some, List.flatMap_cons, List.flatMap_nil, List.append_nil, List.map_append, List.map_cons]
        rfl
    · rintro s' ⟨s3, rfl⟩
      rw [List.length_map, List.length_map, List.take_length]
      exact run_freeze (i := 2) rfl (run_ret (e_var rfl) ⟨rfl, rfl⟩)
theorem ok_answer_squarefree : FnOk P w K mg base CX0 9 T.a_answer_squarefree T.fd_answer_squarefree ["line"] (spLn T.cl (R_pl .squarefree)) := by
  refine fn_ln T.d_answer_squarefree.F sc_answer_squarefree (fun p q ss p' q' r h => by rw [h.1]; rfl) (fun cdv A outer s H E hr => ⟨_, (pss_cons (ps_if (pt_val (pe_call (ok_isz T) (hr.mono (by decide)) rfl T.d_isz.g T.d_isz.F.kp T.d_isz.b .nil pass0 (pa_cons (pe_fld (pv 0) rfl) pa_nil))) (pss_one (ps_ret (pe_lst (pa_cons (pe_glob (v := .int (-6)) rfl T.c_REFUSED_ZERO ⟨_, rfl⟩) pa_nil)))) pss_nil)
      (pss_one (ps_ret (pe_call (ok_shown T) (hr.mono (by decide)) rfl T.d_shown.g T.d_shown.F.kp T.d_shown.b .nil pass0 (pa_cons (pe_call (ok_square_free T) (hr.mono (by decide)) rfl T.d_square_free.g T.d_square_free.F.kp T.d_square_free.b .nil pass0 (pa_cons (pe_fld (pv 0) rfl) pa_nil)) pa_nil))))), ?_⟩)
  rintro a p q ss p' q' r ⟨rfl, ⟨hp, hq⟩, ans, hst, rfl⟩
  have hp : Good p := hp
  cases hst
  have l1 := hp.len
  refine q_when (et_B (e_call (ea_1 (e_fst T.oc rfl)) ⟨p, rfl, rfl⟩)) (fun h => ?_) (fun h => ?_)
  · exact q_ret (e_lst (ea_1 e_int) (by simp)) ⟨by rw [if_pos (of_decide_eq_true h)]; rfl, rfl⟩
  · have hn : p ≠ [] := of_decide_eq_false h
    have hl : (Na05.squarefree p).length ≤ 1000 := by
      obtain ⟨cb, _⟩ := MA.common_ok hp.tr (MA.tr_slope (f := p)) (Or.inl hn)
      rw [← MA.squarefree_is hp.tr hn, MA.bareM_len (MA.tr_quot hp.tr cb.tr cb.ne)]
      obtain ⟨_, m2, _⟩ := MA.pst_ok hp.tr cb.tr cb.ne _ (Nat.le_refl (p.length + 1 - (Na05.common p (Na05.slope p)).length))
      show (pst p _ _).1.length ≤ 1000
      omega
    rw [if_neg hn]
    exact run_ret (e_call (ea_1 (e_call (ea_1 (e_fst T.oc rfl)) ⟨p, rfl, hp.tr, hn, hp.len, hp.bd, good_sq hp hn, rfl⟩)) ⟨_, rfl, hl, rfl⟩) ⟨rfl, rfl⟩
/-! ### circle, value, swap -/
theorem ok_answer_circle : FnOk P w K mg base CX0 9 T.a_answer_circle T.fd_answer_circle ["line", "place"] (spLn T.cl (R_pn1 .circle)) := by
  refine fn_ln T.d_answer_circle.F sc_answer_circle (fun p q ss p' q' r ⟨_, _, h, _⟩ => by rw [h]; rfl) (fun cdv A outer s H E hr => ⟨_, (pss_cons (ps_if (PW.pt (pw_or (pt_cmpR op_lt (pv 1) pe_int (nomark _)) (pw_or1 (pt_cmpR op_gt (pv 1) (pe_glob (v := .int (30)) rfl T.c_HIGHEST_CIRCLE ⟨_, rfl⟩) (nomark _))))) (pss_one (ps_ret (pe_lst (pa_cons (pe_glob (v := .int (-1)) rfl T.c_REFUSED_NUMBERS ⟨_, rfl⟩) pa_nil)))) pss_nil)
      (pss_cons (ps_fld (pv 0) (pe_call (ok_circle T) (hr.mono (by decide)) rfl T.d_circle.g T.d_circle.F.kp T.d_circle.b .nil pass0 (pa_cons (pv 1) pa_nil)) rfl)
      (pss_one (ps_ret (pe_call (ok_shown T) (hr.mono (by decide)) rfl T.d_shown.g T.d_shown.F.kp T.d_shown.b .nil pass0 (pa_cons (pe_fld (pv 0) rfl) pa_nil)))))), ?_⟩)
  rintro a p q ss p' q' r ⟨n, ans, rfl, hg, hst, rfl⟩
  have hst : (if n = 0 ∨ 30 < n then ((⟨p, q⟩ : Na05.Desk), [-1]) else (⟨Na05.circle (n + 1) n, q⟩, Na05.shown (Na05.circle (n + 1) n))) = (⟨p', q'⟩, ans) := hst
  refine q_when (et_or (et_test (e_lt (e_var rfl) e_int)) (fun _ => et_test (e_gt (e_var rfl) e_int))) (fun h => ?_) (fun h => ?_)
  · rw [Bool.or_eq_true, decide_eq_true_eq, decide_eq_true_eq] at h
    rw [if_pos (by omega)] at hst
    cases hst
    exact q_ret (e_lst (ea_1 e_int) (by simp)) ⟨rfl, rfl⟩
  · rw [Bool.or_eq_false_iff, decide_eq_false_iff_not, decide_eq_false_iff_not] at h
    rw [if_neg (by omega), MA.circle_tab _ _ (by omega) (by omega) (Nat.lt_succ_self n)] at hst
    cases hst
    have hc : MA.CircP (tb n) n := ⟨by omega, by omega, rfl⟩
    have := hc.len
    refine q_fst T.oc rfl rfl (e_call (ea_1 (e_var rfl)) ⟨n, rfl, by omega, by omega, rfl⟩) ?_
    exact run_ret (e_call (ea_1 (e_fst T.oc rfl)) ⟨_, rfl, by omega, rfl⟩) ⟨rfl, rfl⟩
theorem ok_answer_value : FnOk P w K mg base CX0 9 T.a_answer_value T.fd_answer_value ["line", "handed", "below"] (spLn T.cl (R_pn2 .value)) := by
  refine fn_ln T.d_answer_value.F sc_answer_value (fun p q ss p' q' r ⟨_, _, _, h, _⟩ => by rw [h]; rfl) (fun cdv A outer s H E hr => ⟨_, (pss_cons (ps_if (pt_cmpR op_eq (pv 2) pe_int (nomark _)) (pss_one (ps_ret (pe_lst (pa_cons (pe_glob (v := .int (-6)) rfl T.c_REFUSED_ZERO ⟨_, rfl⟩) pa_nil)))) pss_nil)
      (pss_one (ps_ret (pe_call (ok_value_at T) (hr.mono (by decide)) rfl T.d_value_at.g T.d_value_at.F.kp T.d_value_at.b .nil pass0 (pa_cons (pe_fld (pv 0) rfl) (pa_cons (pe_call (ok_number_handed T) (hr.mono (by decide)) rfl T.d_number_handed.g T.d_number_handed.F.kp T.d_number_handed.b .nil pass0 (pa_cons (pv 1) pa_nil)) (pa_cons (pv 2) pa_nil))))))), ?_⟩)
  rintro a p q ss p' q' r ⟨m, n, ans, rfl, hm, hn, ⟨hp, hq⟩, hst, rfl⟩
  have hp : Good p := hp
  cases hst
  refine q_when (et_test (e_eq (e_var rfl) e_int)) (fun h => ?_) (fun h => ?_)
  · have h0 := of_decide_eq_true h
    exact q_ret (e_lst (ea_1 e_int) (by simp)) ⟨by rw [if_pos (by omega)]; rfl, rfl⟩
  · have h0 := of_decide_eq_false h
    rw [if_neg (by omega)]
    have hz : (Na05.zahl m).natAbs < 2 ^ 40 := by
      unfold Na05.zahl
      split
      · show _ < 1099511627776; omega
      · show _ < 1099511627776; omega
    exact run_ret (e_call (ea_cons (e_fst T.oc rfl) (ea_cons (e_call (ea_1 (e_var rfl)) ⟨m, rfl, rfl⟩) (ea_1 (e_var rfl)))) ⟨p, Na05.zahl m, (n : Int), rfl, hp.len, hp.bd, hz, h0, by show _ < 1099511627776; omega, rfl⟩) ⟨rfl, rfl⟩
theorem ok_answer_swap : FnOk P w K mg base CX0 9 T.a_answer_swap T.fd_answer_swap ["line"] (spLn T.cl (R_pl .swap)) := by
  refine fn_ln T.d_answer_swap.F sc_answer_swap (fun p q ss p' q' r h => by rw [h.1]; rfl) (fun cdv A outer s H E hr => ⟨_, (pss_cons (ps_set (i := 1) sc_answer_swap.nd rfl (Or.inl rfl) (pe_fld (pv 0) rfl))
      (pss_cons (ps_fld (pv 0) (pe_fld (pv 0) rfl) rfl)
      (pss_cons (ps_fld (pv 0) (pv 1) rfl)
      (pss_one (ps_ret (pe_call (ok_shown T) (hr.mono (by decide)) rfl T.d_shown.g T.d_shown.F.kp T.d_shown.b .nil pass0 (pa_cons (pe_fld (pv 0) rfl) pa_nil))))))), ?_⟩)
  rintro a p q ss p' q' r ⟨rfl, ⟨hp, hq⟩, ans, hst, rfl⟩
  have hq : Good q := hq
  cases hst
  have := hq.len
  refine q_set (e_fst T.oc rfl) (q_fst T.oc rfl rfl (e_snd T.oc rfl) (q_snd T.oc rfl rfl (e_var rfl) ?_))
  exact run_ret (e_call (ea_1 (e_fst T.oc rfl)) ⟨_, rfl, by omega, rfl⟩) ⟨rfl, rfl⟩
end
end Py
namespace Py
open PySem PySem.Spec PyProof.Rows L2
open MA (Tr Bd)
/-! ### the table of the plain calls -/
theorem lookup_nodup {l : List (Addr × Sp)} (h : (l.map (·.1)).Nodup) {a : Addr} {sp : Sp} (hm : (a, sp) ∈ l) : l.lookup a = some sp := by
  induction l with
  | nil => cases hm
  | cons x l ih =>
    obtain ⟨b, t⟩ := x
    rw [List.map_cons, List.nodup_cons] at h
    rw [List.lookup_cons]
    rcases List.mem_cons.mp hm with e | e
    · cases e
      rw [beq_self_eq_true]
    · have hne : ¬ a = b := fun z => h.1 (by rw [← z]; exact List.mem_map.mpr ⟨_, e, rfl⟩)
      rw [beq_false_of_ne hne]
      exact ih h.2 e
theorem mem_lookupA {l : List (Addr × Sp)} {a : Addr} {sp : Sp} (h : l.lookup a = some sp) : (a, sp) ∈ l := by
  induction l with
  | nil => cases h
  | cons x l ih =>
    obtain ⟨b, t⟩ := x
    rw [List.lookup_cons] at h
    by_cases c : a = b
    · subst c
      rw [beq_self_eq_true] at h
      have h : some t = some sp := h
      cases h
      exact List.mem_cons_self ..
    · rw [beq_false_of_ne c] at h
      exact List.mem_cons_of_mem _ (ih h)
section
variable {P : Program} {w : World} {K : PySem.W.Frag} {mg : Str → Option Value} {base : Heap} (T : Txt K mg)
def tabL : List (Addr × Sp) := [(T.a_answer_times, spLn T.cl (R_pl .times)), (T.a_answer_divide, spLn T.cl (R_pl .divide)), (T.a_answer_common, spLn T.cl (R_pl .common)), (T.a_answer_resultant, spLn T.cl (R_pl .resultant)), (T.a_answer_disc, spLn T.cl (R_pl .disc)), (T.a_answer_apart, spLn T.cl (R_pl .apart)), (T.a_answer_irreducible, spLn T.cl (R_pl .irreducible)), (T.a_answer_rationals, spLn T.cl (R_pl .rationals)), (T.a_answer_squarefree, spLn T.cl (R_pl .squarefree)), (T.a_answer_swap, spLn T.cl (R_pl .swap))]
def tabS (f : Addr) : Option Sp := (tabL T).lookup f
theorem tabS_at {a : Addr} {sp : Sp} (hm : (a, sp) ∈ tabL T) : tabS T a = some sp := lookup_nodup (show ((tabL T).map (·.1)).Nodup from T.nd_PLAIN_CALLS) hm
theorem held_PLAIN_CALLS (TB : LamX.TabB base mg T.co_rational_roots T.ta_rational_roots) : ∀ f sp, tabS T f = some sp → Held P w K mg base 9 f sp := fun f sp h => by
  have h : (tabL T).lookup f = some sp := h
  have hm : (f, sp) ∈ tabL T := mem_lookupA h
  unfold tabL at hm
  simp only [List.mem_cons, List.not_mem_nil, or_false, Prod.mk.injEq] at hm
  rcases hm with ⟨rfl, rfl⟩ | ⟨rfl, rfl⟩ | ⟨rfl, rfl⟩ | ⟨rfl, rfl⟩ | ⟨rfl, rfl⟩ | ⟨rfl, rfl⟩ | ⟨rfl, rfl⟩ | ⟨rfl, rfl⟩ | ⟨rfl, rfl⟩ | ⟨rfl, rfl⟩
  · exact ⟨⟨_, _, ok_answer_times T, T.d_answer_times.F.kp, T.d_answer_times.b⟩⟩
  · exact ⟨⟨_, _, ok_answer_divide T, T.d_answer_divide.F.kp, T.d_answer_divide.b⟩⟩
  · exact ⟨⟨_, _, ok_answer_common T, T.d_answer_common.F.kp, T.d_answer_common.b⟩⟩
  · exact ⟨⟨_, _, ok_answer_resultant T, T.d_answer_resultant.F.kp, T.d_answer_resultant.b⟩⟩
  · exact ⟨⟨_, _, ok_answer_disc T, T.d_answer_disc.F.kp, T.d_answer_disc.b⟩⟩
  · exact ⟨⟨_, _, ok_answer_apart T, T.d_answer_apart.F.kp, T.d_answer_apart.b⟩⟩
  · exact ⟨⟨_, _, ok_answer_irreducible T, T.d_answer_irreducible.F.kp, T.d_answer_irreducible.b⟩⟩
  · exact ⟨⟨_, _, ok_answer_rationals T TB, T.d_answer_rationals.F.kp, T.d_answer_rationals.b⟩⟩
  · exact ⟨⟨_, _, ok_answer_squarefree T, T.d_answer_squarefree.F.kp, T.d_answer_squarefree.b⟩⟩
  · exact ⟨⟨_, _, ok_answer_swap T, T.d_answer_swap.F.kp, T.d_answer_swap.b⟩⟩
theorem cut_two (l : List Nat) (x y : Int) : cutS ((x :: y :: Na05.ints l).map Sh.i) (some 2) none = (Na05.ints l).map Sh.i := by
  rw [cutS_map]
  have := cut_from (x :: y :: Na05.ints l) (k := 2) (by simp)
  rw [show ((2 : Nat) : Int) = 2 from rfl] at this
  rw [this]; rfl
theorem ok_answer_call (TB : LamX.TabB base mg T.co_rational_roots T.ta_rational_roots) : FnOk P w K mg base CX0 20 T.a_answer_call T.fd_answer_call ["line", "call"] (spLn T.cl R_call) := by
  refine fn_ln T.d_answer_call.F sc_answer_call (fun p q ss p' q' r ⟨_, _, _, h, _⟩ => by rw [h]; rfl) (fun cdv A outer s H E hr => ⟨_, (pss_cons (ps_if (pt_cmpR op_eq (pe_ix ix_list (pv 1) pe_int (fun _ _ => rfl)) (pe_glob (v := .int (0)) rfl T.c_CALL_ONE ⟨_, rfl⟩) (nomark _)) (pss_one (ps_ret (pe_call (ok_answer_one T) (hr.mono (by decide)) rfl T.d_answer_one.g T.d_answer_one.F.kp T.d_answer_one.b .nil pass0 (pa_cons (pv 0) (pa_cons (pe_slice sl_list (pv 1) (po_some pe_int) po_none) pa_nil))))) pss_nil)
      (pss_cons (ps_if (pt_cmpR op_eq (pe_ix ix_list (pv 1) pe_int (fun _ _ => rfl)) (pe_glob (v := .int (1)) rfl T.c_CALL_TWO ⟨_, rfl⟩) (nomark _)) (pss_one (ps_ret (pe_call (ok_answer_two T) (hr.mono (by decide)) rfl T.d_answer_two.g T.d_answer_two.F.kp T.d_answer_two.b .nil pass0 (pa_cons (pv 0) (pa_cons (pe_slice sl_list (pv 1) (po_some pe_int) po_none) pa_nil))))) pss_nil)
      (pss_cons (ps_if (pt_cmpR op_eq (pe_ix ix_list (pv 1) pe_int (fun _ _ => rfl)) (pe_glob (v := .int (11)) rfl T.c_CALL_CIRCLE ⟨_, rfl⟩) (nomark _)) (pss_one (ps_ret (pe_call (ok_answer_circle T) (hr.mono (by decide)) rfl T.d_answer_circle.g T.d_answer_circle.F.kp T.d_answer_circle.b .nil pass0 (pa_cons (pv 0) (pa_cons (pe_ix ix_list (pv 1) pe_int (fun _ _ => rfl)) pa_nil))))) pss_nil)
      (pss_cons (ps_if (pt_cmpR op_eq (pe_ix ix_list (pv 1) pe_int (fun _ _ => rfl)) (pe_glob (v := .int (12)) rfl T.c_CALL_VALUE ⟨_, rfl⟩) (nomark _)) (pss_one (ps_ret (pe_call (ok_answer_value T) (hr.mono (by decide)) rfl T.d_answer_value.g T.d_answer_value.F.kp T.d_answer_value.b .nil pass0 (pa_cons (pv 0) (pa_cons (pe_ix ix_list (pv 1) pe_int (fun _ _ => rfl)) (pa_cons (pe_ix ix_list (pv 1) pe_int (fun _ _ => rfl)) pa_nil)))))) pss_nil)
      (pss_one (ps_ret (pe_callV (held_PLAIN_CALLS T TB) (hr.mono (by decide)) (pe_ix (ix_kint T.k_PLAIN_CALLS) (pe_glob (v := .ref T.d_PLAIN_CALLS) rfl T.g_PLAIN_CALLS rfl) (pe_ix ix_list (pv 1) pe_int (fun _ _ => rfl)) (fun _ _ => rfl)) (pa_cons (pv 0) pa_nil)))))))), ?_⟩)
  rintro a p q ss p' q' r ⟨cl, c, ans, rfl, hcl, hg, hst, rfl⟩
  have cls : (∃ l : List Nat, c = .one l ∧ cl = 0 :: (l.length : Int) :: Na05.ints l) ∨ (∃ l : List Nat, c = .two l ∧ cl = 1 :: (l.length : Int) :: Na05.ints l) ∨ (∃ n : Nat, c = .circle n ∧ cl = [11, (n : Int)]) ∨ (∃ m n : Nat, c = .value m n ∧ cl = [12, (m : Int), (n : Int)] ∧ m < 2 ^ 32 ∧ n < 2 ^ 32) ∨
      ∃ (n : Int) (f : Addr), cl = [n] ∧ n ≠ 0 ∧ n ≠ 1 ∧ n ≠ 11 ∧ n ≠ 12 ∧ findBy Value.isInt T.es_PLAIN_CALLS n = some (.ref f) ∧ tabS T f = some (spLn T.cl (R_pl c)) := by
    cases c <;> simp only [MN.CallAt] at hcl
    case one l => exact Or.inl ⟨l, rfl, hcl.1⟩
    case two l => exact Or.inr (Or.inl ⟨l, rfl, hcl.1⟩)
    case circle n => exact Or.inr (Or.inr (Or.inl ⟨n, rfl, hcl.1⟩))
    case value m n => exact Or.inr (Or.inr (Or.inr (Or.inl ⟨m, n, rfl, hcl⟩)))
    case times => exact Or.inr (Or.inr (Or.inr (Or.inr ⟨_, _, hcl, by decide, by decide, by decide, by decide, T.x_PLAIN_CALLS_2, tabS_at T (by simp [tabL])⟩)))
    case divide => exact Or.inr (Or.inr (Or.inr (Or.inr ⟨_, _, hcl, by decide, by decide, by decide, by decide, T.x_PLAIN_CALLS_3, tabS_at T (by simp [tabL])⟩)))
    case common => exact Or.inr (Or.inr (Or.inr (Or.inr ⟨_, _, hcl, by decide, by decide, by decide, by decide, T.x_PLAIN_CALLS_4, tabS_at T (by simp [tabL])⟩)))
    case resultant => exact Or.inr (Or.inr (Or.inr (Or.inr ⟨_, _, hcl, by decide, by decide, by decide, by decide, T.x_PLAIN_CALLS_5, tabS_at T (by simp [tabL])⟩)))
    case disc => exact Or.inr (Or.inr (Or.inr (Or.inr ⟨_, _, hcl, by decide, by decide, by decide, by decide, T.x_PLAIN_CALLS_6, tabS_at T (by simp [tabL])⟩)))
    case apart => exact Or.inr (Or.inr (Or.inr (Or.inr ⟨_, _, hcl, by decide, by decide, by decide, by decide, T.x_PLAIN_CALLS_7, tabS_at T (by simp [tabL])⟩)))
    case irreducible => exact Or.inr (Or.inr (Or.inr (Or.inr ⟨_, _, hcl, by decide, by decide, by decide, by decide, T.x_PLAIN_CALLS_8, tabS_at T (by simp [tabL])⟩)))
    case rationals => exact Or.inr (Or.inr (Or.inr (Or.inr ⟨_, _, hcl, by decide, by decide, by decide, by decide, T.x_PLAIN_CALLS_9, tabS_at T (by simp [tabL])⟩)))
    case squarefree => exact Or.inr (Or.inr (Or.inr (Or.inr ⟨_, _, hcl, by decide, by decide, by decide, by decide, T.x_PLAIN_CALLS_10, tabS_at T (by simp [tabL])⟩)))
    case swap => exact Or.inr (Or.inr (Or.inr (Or.inr ⟨_, _, hcl, by decide, by decide, by decide, by decide, T.x_PLAIN_CALLS_13, tabS_at T (by simp [tabL])⟩)))
  obtain ⟨x0, rest, hx0⟩ : ∃ x0 rest, cl = x0 :: rest := by
    rcases cls with ⟨l, _, e⟩ | ⟨l, _, e⟩ | ⟨n, _, e⟩ | ⟨m, n, _, e, _⟩ | ⟨n, f, e, _⟩ <;> exact ⟨_, _, e⟩
  have h0 : atI (cl.map Sh.i) 0 = some (.i x0) := atI_ints (by rw [hx0]; exact atI_head (f := x0 :: rest) (by simp))
  refine q_when (et_test (e_eq (e_ixL (e_var rfl) e_int h0) e_int)) (fun h => ?_) (fun h => ?_)
  · have h := of_decide_eq_true h
    rcases cls with ⟨l, rfl, e⟩ | ⟨l, _, e⟩ | ⟨n, _, e⟩ | ⟨m, n, _, e, _⟩ | ⟨n, f, e, n0, _⟩
    · subst e
      exact q_retLn (i := 0) (R1 := R_pn .one) rfl rfl (ea_1 (e_is (en_sl (e_var rfl) (eo_some e_int) eo_none).e (s' := li (Na05.ints l)) (by rw [cut_two]))) ⟨l, ans, rfl, hg, hst, rfl⟩ ⟨rfl, rfl⟩
    all_goals
      exfalso
      rw [e] at hx0
      cases hx0
      omega
  · have h := of_decide_eq_false h
    refine q_when (et_test (e_eq (e_ixL (e_var rfl) e_int h0) e_int)) (fun h2 => ?_) (fun h2 => ?_)
    · have h2 := of_decide_eq_true h2
      rcases cls with ⟨l, _, e⟩ | ⟨l, rfl, e⟩ | ⟨n, _, e⟩ | ⟨m, n, _, e, _⟩ | ⟨n, f, e, n0, n1, _⟩
      · exfalso; rw [e] at hx0; cases hx0; omega
      · subst e
        exact q_retLn (i := 0) (R1 := R_pn .two) rfl rfl (ea_1 (e_is (en_sl (e_var rfl) (eo_some e_int) eo_none).e (s' := li (Na05.ints l)) (by rw [cut_two]))) ⟨l, ans, rfl, hg, hst, rfl⟩ ⟨rfl, rfl⟩
      all_goals
        exfalso
        rw [e] at hx0
        cases hx0
        omega
    · have h2 := of_decide_eq_false h2
      refine q_when (et_test (e_eq (e_ixL (e_var rfl) e_int h0) e_int)) (fun h3 => ?_) (fun h3 => ?_)
      · have h3 := of_decide_eq_true h3
        rcases cls with ⟨l, _, e⟩ | ⟨l, _, e⟩ | ⟨n, rfl, e⟩ | ⟨m, n, _, e, _⟩ | ⟨n, f, e, n0, n1, n11, _⟩
        · exfalso; rw [e] at hx0; cases hx0; omega
        · exfalso; rw [e] at hx0; cases hx0; omega
        · subst e
          exact q_retLn (i := 0) (R1 := R_pn1 .circle) rfl rfl (ea_1 (e_ixL (e_var rfl) e_int (atI_ints (ns := [11, (n : Int)]) rfl))) ⟨n, ans, rfl, hg, hst, rfl⟩ ⟨rfl, rfl⟩
        all_goals
          exfalso
          rw [e] at hx0
          cases hx0
          omega
      · have h3 := of_decide_eq_false h3
        refine q_when (et_test (e_eq (e_ixL (e_var rfl) e_int h0) e_int)) (fun h4 => ?_) (fun h4 => ?_)
        · have h4 := of_decide_eq_true h4
          rcases cls with ⟨l, _, e⟩ | ⟨l, _, e⟩ | ⟨n, _, e⟩ | ⟨m, n, rfl, e, b1, b2⟩ | ⟨n, f, e, n0, n1, n11, n12, _⟩
          · exfalso; rw [e] at hx0; cases hx0; omega
          · exfalso; rw [e] at hx0; cases hx0; omega
          · exfalso; rw [e] at hx0; cases hx0; omega
          · subst e
            exact q_retLn (i := 0) (R1 := R_pn2 .value) rfl rfl (ea_cons (e_ixL (e_var rfl) e_int (atI_ints (ns := [12, (m : Int), (n : Int)]) rfl)) (ea_1 (e_ixL (e_var rfl) e_int (atI_ints (ns := [12, (m : Int), (n : Int)]) rfl)))) ⟨m, n, ans, rfl, b1, b2, hg, hst, rfl⟩ ⟨rfl, rfl⟩
          · exfalso; rw [e] at hx0; cases hx0; omega
        · have h4 := of_decide_eq_false h4
          rcases cls with ⟨l, _, e⟩ | ⟨l, _, e⟩ | ⟨n, _, e⟩ | ⟨m, n, _, e, _⟩ | ⟨n, f, e, n0, n1, n11, n12, hx, hS⟩
          · exfalso; rw [e] at hx0; cases hx0; omega
          · exfalso; rw [e] at hx0; cases hx0; omega
          · exfalso; rw [e] at hx0; cases hx0; omega
          · exfalso; rw [e] at hx0; cases hx0; omega
          · rw [e] at hx0
            cases hx0
            exact run_retLnV (i := 0) (R1 := R_pl c) rfl rfl (e_ixI (e_glo fun F => rfl) (e_ixL (e_var rfl) e_int h0) hx) hS ea_nil ⟨rfl, hg, ans, hst, rfl⟩ ⟨rfl, rfl⟩
end
end Py
namespace Py
open PySem PySem.Spec PyProof.Rows L2
/-- the keys of a written dict, decided -/
def intKeyB (e : DictEntry) : Bool := match e.key with | .int k _ => decide (e.hash = hashInt k) | _ => false
theorem ints_keys {es : Array DictEntry} (h : es.toList.all intKeyB = true) : ∀ e ∈ es, ∃ k t, e.key = .int k t ∧ e.hash = hashInt k := fun e he => by
  have := List.all_eq_true.mp h e (Array.mem_toList_iff.mpr he)
  unfold intKeyB at this
  split at this
  · rename_i k t hk
    exact ⟨k, t, hk, of_decide_eq_true this⟩
  · cases this
/-- what a code object's fields must be, the table aside -/
def codeVs (vs : Array Value) : Bool := (match vs.getD 18 .none with | .str _ _ => true | _ => false) && (match vs.getD 7 .none with | .int _ _ => true | _ => false) && (match vs.getD 9 .none with | .bool _ => true | _ => false) && (match vs.getD 10 .none with | .int _ _ => true | _ => false)
theorem codeHd_by {K : PySem.W.Frag} {c P : Addr} {dd : Option Addr} {vs : Array Value} {sl : Array (Option Value)} (h1 : K.lookup c = some ⟨.type "code", dd, .fields vs, sl⟩) (h2 : vs[11]? = some (.ref P)) (h3 : codeVs vs = true) (h4 : c ≠ P) : PySem.W.codeHdIn K c P = true := by
  unfold codeVs at h3
  simp only [Bool.and_eq_true] at h3
  obtain ⟨⟨⟨a, b⟩, d⟩, e⟩ := h3
  unfold PySem.W.codeHdIn
  rw [h1]
  simp only [h2, Bool.and_eq_true, beq_self_eq_true, bne_iff_ne, ne_eq]
  exact ⟨⟨⟨⟨⟨trivial, a⟩, b⟩, d⟩, e⟩, h4⟩
theorem txt_mk {K : PySem.W.Frag} {h : Heap} {mg : Str → Option Value} {fa : Addr} (X : K.In h) (G : h.Ns mainGlobals mg) (hfa : mg "answers" = some (.ref fa))
    {od_wlz an_wlz : Option Addr} {sl_wlz : Array (Option Value)} {oc_wlz kV_wlz dc_wlz pm_wlz cd_wlz ct_wlz : Value} {f_wlz : Addr}
    {od_isz an_isz : Option Addr} {sl_isz : Array (Option Value)} {oc_isz kV_isz dc_isz pm_isz cd_isz ct_isz : Value} {f_isz : Addr}
    {od_deg an_deg : Option Addr} {sl_deg : Array (Option Value)} {oc_deg kV_deg dc_deg pm_deg cd_deg ct_deg : Value} {f_deg : Addr}
    {od_product an_product : Option Addr} {sl_product : Array (Option Value)} {oc_product kV_product dc_product pm_product cd_product ct_product : Value} {f_product : Addr}
    {od_gd an_gd : Option Addr} {sl_gd : Array (Option Value)} {oc_gd kV_gd dc_gd pm_gd cd_gd ct_gd : Value} {f_gd : Addr}
    {od_divisors an_divisors : Option Addr} {sl_divisors : Array (Option Value)} {oc_divisors kV_divisors dc_divisors pm_divisors cd_divisors ct_divisors : Value} {f_divisors : Addr}
    {od_low an_low : Option Addr} {sl_low : Array (Option Value)} {oc_low kV_low dc_low pm_low cd_low ct_low : Value} {f_low : Addr}
    {od_bare an_bare : Option Addr} {sl_bare : Array (Option Value)} {oc_bare kV_bare dc_bare pm_bare cd_bare ct_bare : Value} {f_bare : Addr}
    {od_less_multiple an_less_multiple : Option Addr} {sl_less_multiple : Array (Option Value)} {oc_less_multiple kV_less_multiple dc_less_multiple pm_less_multiple cd_less_multiple ct_less_multiple : Value} {f_less_multiple : Addr}
    {od_divided an_divided : Option Addr} {sl_divided : Array (Option Value)} {oc_divided kV_divided dc_divided pm_divided cd_divided ct_divided : Value} {f_divided : Addr}
    {od_greatest_common an_greatest_common : Option Addr} {sl_greatest_common : Array (Option Value)} {oc_greatest_common kV_greatest_common dc_greatest_common pm_greatest_common cd_greatest_common ct_greatest_common : Value} {f_greatest_common : Addr}
    {od_find_row an_find_row : Option Addr} {sl_find_row : Array (Option Value)} {oc_find_row kV_find_row dc_find_row pm_find_row cd_find_row ct_find_row : Value} {f_find_row : Addr}
    {od_cleared_row an_cleared_row : Option Addr} {sl_cleared_row : Array (Option Value)} {oc_cleared_row kV_cleared_row dc_cleared_row pm_cleared_row cd_cleared_row ct_cleared_row : Value} {f_cleared_row : Addr}
    {od_determinant an_determinant : Option Addr} {sl_determinant : Array (Option Value)} {oc_determinant kV_determinant dc_determinant pm_determinant cd_determinant ct_determinant : Value} {f_determinant : Addr}
    {od_shifted_rows an_shifted_rows : Option Addr} {sl_shifted_rows : Array (Option Value)} {oc_shifted_rows kV_shifted_rows dc_shifted_rows pm_shifted_rows cd_shifted_rows ct_shifted_rows : Value} {f_shifted_rows : Addr}
    {od_resultant an_resultant : Option Addr} {sl_resultant : Array (Option Value)} {oc_resultant kV_resultant dc_resultant pm_resultant cd_resultant ct_resultant : Value} {f_resultant : Addr}
    {od_slope an_slope : Option Addr} {sl_slope : Array (Option Value)} {oc_slope kV_slope dc_slope pm_slope cd_slope ct_slope : Value} {f_slope : Addr}
    {od_discriminant an_discriminant : Option Addr} {sl_discriminant : Array (Option Value)} {oc_discriminant kV_discriminant dc_discriminant pm_discriminant cd_discriminant ct_discriminant : Value} {f_discriminant : Addr}
    {od_square_free an_square_free : Option Addr} {sl_square_free : Array (Option Value)} {oc_square_free kV_square_free dc_square_free pm_square_free cd_square_free ct_square_free : Value} {f_square_free : Addr}
    {od_value_at an_value_at : Option Addr} {sl_value_at : Array (Option Value)} {oc_value_at kV_value_at dc_value_at pm_value_at cd_value_at ct_value_at : Value} {f_value_at : Addr}
    {od_power_less_1 an_power_less_1 : Option Addr} {sl_power_less_1 : Array (Option Value)} {oc_power_less_1 kV_power_less_1 dc_power_less_1 pm_power_less_1 cd_power_less_1 ct_power_less_1 : Value} {f_power_less_1 : Addr}
    {od_circle an_circle : Option Addr} {sl_circle : Array (Option Value)} {oc_circle kV_circle dc_circle pm_circle cd_circle ct_circle : Value} {f_circle : Addr}
    {od_signed_divisors an_signed_divisors : Option Addr} {sl_signed_divisors : Array (Option Value)} {oc_signed_divisors kV_signed_divisors dc_signed_divisors pm_signed_divisors cd_signed_divisors ct_signed_divisors : Value} {f_signed_divisors : Addr}
    {od_divides an_divides : Option Addr} {sl_divides : Array (Option Value)} {oc_divides kV_divides dc_divides pm_divides cd_divides ct_divides : Value} {f_divides : Addr}
    {od_part_of_degree_1 an_part_of_degree_1 : Option Addr} {sl_part_of_degree_1 : Array (Option Value)} {oc_part_of_degree_1 kV_part_of_degree_1 dc_part_of_degree_1 pm_part_of_degree_1 cd_part_of_degree_1 ct_part_of_degree_1 : Value} {f_part_of_degree_1 : Addr}
    {od_part_of_degree_2 an_part_of_degree_2 : Option Addr} {sl_part_of_degree_2 : Array (Option Value)} {oc_part_of_degree_2 kV_part_of_degree_2 dc_part_of_degree_2 pm_part_of_degree_2 cd_part_of_degree_2 ct_part_of_degree_2 : Value} {f_part_of_degree_2 : Addr}
    {od_lowest_part an_lowest_part : Option Addr} {sl_lowest_part : Array (Option Value)} {oc_lowest_part kV_lowest_part dc_lowest_part pm_lowest_part cd_lowest_part ct_lowest_part : Value} {f_lowest_part : Addr}
    {od_all_parts an_all_parts : Option Addr} {sl_all_parts : Array (Option Value)} {oc_all_parts kV_all_parts dc_all_parts pm_all_parts cd_all_parts ct_all_parts : Value} {f_all_parts : Addr}
    {od_degree_and_numbers an_degree_and_numbers : Option Addr} {sl_degree_and_numbers : Array (Option Value)} {oc_degree_and_numbers kV_degree_and_numbers dc_degree_and_numbers pm_degree_and_numbers cd_degree_and_numbers ct_degree_and_numbers : Value} {f_degree_and_numbers : Addr}
    {od_counted_parts an_counted_parts : Option Addr} {sl_counted_parts : Array (Option Value)} {oc_counted_parts kV_counted_parts dc_counted_parts pm_counted_parts cd_counted_parts ct_counted_parts : Value} {f_counted_parts : Addr}
    {od_whole_number an_whole_number : Option Addr} {sl_whole_number : Array (Option Value)} {oc_whole_number kV_whole_number dc_whole_number pm_whole_number cd_whole_number ct_whole_number : Value} {f_whole_number : Addr}
    {od_is_irreducible an_is_irreducible : Option Addr} {sl_is_irreducible : Array (Option Value)} {oc_is_irreducible kV_is_irreducible dc_is_irreducible pm_is_irreducible cd_is_irreducible ct_is_irreducible : Value} {f_is_irreducible : Addr}
    {od_rational_roots an_rational_roots : Option Addr} {sl_rational_roots : Array (Option Value)} {oc_rational_roots kV_rational_roots dc_rational_roots pm_rational_roots cd_rational_roots ct_rational_roots : Value} {f_rational_roots : Addr}
    {od_number_handed an_number_handed : Option Addr} {sl_number_handed : Array (Option Value)} {oc_number_handed kV_number_handed dc_number_handed pm_number_handed cd_number_handed ct_number_handed : Value} {f_number_handed : Addr}
    {od_polynomial_handed an_polynomial_handed : Option Addr} {sl_polynomial_handed : Array (Option Value)} {oc_polynomial_handed kV_polynomial_handed dc_polynomial_handed pm_polynomial_handed cd_polynomial_handed ct_polynomial_handed : Value} {f_polynomial_handed : Addr}
    {od_may_be_taken an_may_be_taken : Option Addr} {sl_may_be_taken : Array (Option Value)} {oc_may_be_taken kV_may_be_taken dc_may_be_taken pm_may_be_taken cd_may_be_taken ct_may_be_taken : Value} {f_may_be_taken : Addr}
    {od_shown an_shown : Option Addr} {sl_shown : Array (Option Value)} {oc_shown kV_shown dc_shown pm_shown cd_shown ct_shown : Value} {f_shown : Addr}
    {od_fractions_shown an_fractions_shown : Option Addr} {sl_fractions_shown : Array (Option Value)} {oc_fractions_shown kV_fractions_shown dc_fractions_shown pm_fractions_shown cd_fractions_shown ct_fractions_shown : Value} {f_fractions_shown : Addr}
    {od_answer_one an_answer_one : Option Addr} {sl_answer_one : Array (Option Value)} {oc_answer_one kV_answer_one dc_answer_one pm_answer_one cd_answer_one ct_answer_one : Value} {f_answer_one : Addr}
    {od_answer_two an_answer_two : Option Addr} {sl_answer_two : Array (Option Value)} {oc_answer_two kV_answer_two dc_answer_two pm_answer_two cd_answer_two ct_answer_two : Value} {f_answer_two : Addr}
    {od_answer_times an_answer_times : Option Addr} {sl_answer_times : Array (Option Value)} {oc_answer_times kV_answer_times dc_answer_times pm_answer_times cd_answer_times ct_answer_times : Value} {f_answer_times : Addr}
    {od_answer_divide an_answer_divide : Option Addr} {sl_answer_divide : Array (Option Value)} {oc_answer_divide kV_answer_divide dc_answer_divide pm_answer_divide cd_answer_divide ct_answer_divide : Value} {f_answer_divide : Addr}
    {od_answer_common an_answer_common : Option Addr} {sl_answer_common : Array (Option Value)} {oc_answer_common kV_answer_common dc_answer_common pm_answer_common cd_answer_common ct_answer_common : Value} {f_answer_common : Addr}
    {od_answer_resultant an_answer_resultant : Option Addr} {sl_answer_resultant : Array (Option Value)} {oc_answer_resultant kV_answer_resultant dc_answer_resultant pm_answer_resultant cd_answer_resultant ct_answer_resultant : Value} {f_answer_resultant : Addr}
    {od_answer_disc an_answer_disc : Option Addr} {sl_answer_disc : Array (Option Value)} {oc_answer_disc kV_answer_disc dc_answer_disc pm_answer_disc cd_answer_disc ct_answer_disc : Value} {f_answer_disc : Addr}
    {od_may_be_taken_apart an_may_be_taken_apart : Option Addr} {sl_may_be_taken_apart : Array (Option Value)} {oc_may_be_taken_apart kV_may_be_taken_apart dc_may_be_taken_apart pm_may_be_taken_apart cd_may_be_taken_apart ct_may_be_taken_apart : Value} {f_may_be_taken_apart : Addr}
    {od_answer_apart an_answer_apart : Option Addr} {sl_answer_apart : Array (Option Value)} {oc_answer_apart kV_answer_apart dc_answer_apart pm_answer_apart cd_answer_apart ct_answer_apart : Value} {f_answer_apart : Addr}
    {od_answer_irreducible an_answer_irreducible : Option Addr} {sl_answer_irreducible : Array (Option Value)} {oc_answer_irreducible kV_answer_irreducible dc_answer_irreducible pm_answer_irreducible cd_answer_irreducible ct_answer_irreducible : Value} {f_answer_irreducible : Addr}
    {od_answer_rationals an_answer_rationals : Option Addr} {sl_answer_rationals : Array (Option Value)} {oc_answer_rationals kV_answer_rationals dc_answer_rationals pm_answer_rationals cd_answer_rationals ct_answer_rationals : Value} {f_answer_rationals : Addr}
    {od_answer_squarefree an_answer_squarefree : Option Addr} {sl_answer_squarefree : Array (Option Value)} {oc_answer_squarefree kV_answer_squarefree dc_answer_squarefree pm_answer_squarefree cd_answer_squarefree ct_answer_squarefree : Value} {f_answer_squarefree : Addr}
    {od_answer_circle an_answer_circle : Option Addr} {sl_answer_circle : Array (Option Value)} {oc_answer_circle kV_answer_circle dc_answer_circle pm_answer_circle cd_answer_circle ct_answer_circle : Value} {f_answer_circle : Addr}
    {od_answer_value an_answer_value : Option Addr} {sl_answer_value : Array (Option Value)} {oc_answer_value kV_answer_value dc_answer_value pm_answer_value cd_answer_value ct_answer_value : Value} {f_answer_value : Addr}
    {od_answer_swap an_answer_swap : Option Addr} {sl_answer_swap : Array (Option Value)} {oc_answer_swap kV_answer_swap dc_answer_swap pm_answer_swap cd_answer_swap ct_answer_swap : Value} {f_answer_swap : Addr}
    {od_call_end an_call_end : Option Addr} {sl_call_end : Array (Option Value)} {oc_call_end kV_call_end dc_call_end pm_call_end cd_call_end ct_call_end : Value} {f_call_end : Addr}
    {od_answer_call an_answer_call : Option Addr} {sl_answer_call : Array (Option Value)} {oc_answer_call kV_answer_call dc_answer_call pm_answer_call cd_answer_call ct_answer_call : Value} {f_answer_call : Addr}
    {od_answers an_answers : Option Addr} {sl_answers : Array (Option Value)} {oc_answers kV_answers dc_answers pm_answers cd_answers ct_answers : Value} {f_answers : Addr}
    {od_Line an_Line : Option Addr} {sl_Line : Array (Option Value)} {oc_Line kV_Line dc_Line pm_Line cd_Line ct_Line : Value} {f_Line : Addr}
    {C_Line : Addr}
    {co_rational_roots ta_rational_roots : Addr} {dd_rational_roots : Option Addr} {vv_rational_roots : Array Value} {ss_rational_roots : Array (Option Value)}
    {t_CALL_ONE : Nat}
    {t_CALL_TWO : Nat}
    {t_CALL_CIRCLE : Nat}
    {t_CALL_VALUE : Nat}
    {t_REFUSED_NUMBERS : Nat}
    {t_REFUSED_DEGREE : Nat}
    {t_REFUSED_POLYNOMIAL : Nat}
    {t_REFUSED_ZERO : Nat}
    {t_MOST_NUMBERS : Nat}
    {t_HIGHEST_HANDED : Nat}
    {t_HIGHEST_DEGREE : Nat}
    {t_HIGHEST_CIRCLE : Nat}
    {t_LARGEST_TAKEN_APART : Nat}
    {d_PLAIN_CALLS : Addr} {es_PLAIN_CALLS : Array DictEntry} {n_PLAIN_CALLS : Nat}
    (a_wlz : PySem.W.nsIn K mainGlobals "without_last_zeros" = some (some (.ref f_wlz))) (l_wlz : K.lookup f_wlz = some ⟨oc_wlz, od_wlz, .func (PySem.W.fnOf "without_last_zeros" "without_last_zeros" (defArgs s_wlz) (defBody s_wlz) (defScope s_wlz) .none kV_wlz dc_wlz pm_wlz an_wlz cd_wlz ct_wlz), sl_wlz⟩) (c_wlz : PySem.W.codeIn K cd_wlz "without_last_zeros" = true) (k_wlz : PySem.W.keepIn K (.ref f_wlz) = true)
    (a_isz : PySem.W.nsIn K mainGlobals "is_zero" = some (some (.ref f_isz))) (l_isz : K.lookup f_isz = some ⟨oc_isz, od_isz, .func (PySem.W.fnOf "is_zero" "is_zero" (defArgs s_isz) (defBody s_isz) (defScope s_isz) .none kV_isz dc_isz pm_isz an_isz cd_isz ct_isz), sl_isz⟩) (c_isz : PySem.W.codeIn K cd_isz "is_zero" = true) (k_isz : PySem.W.keepIn K (.ref f_isz) = true)
    (a_deg : PySem.W.nsIn K mainGlobals "degree" = some (some (.ref f_deg))) (l_deg : K.lookup f_deg = some ⟨oc_deg, od_deg, .func (PySem.W.fnOf "degree" "degree" (defArgs s_deg) (defBody s_deg) (defScope s_deg) .none kV_deg dc_deg pm_deg an_deg cd_deg ct_deg), sl_deg⟩) (c_deg : PySem.W.codeIn K cd_deg "degree" = true) (k_deg : PySem.W.keepIn K (.ref f_deg) = true)
    (a_product : PySem.W.nsIn K mainGlobals "product" = some (some (.ref f_product))) (l_product : K.lookup f_product = some ⟨oc_product, od_product, .func (PySem.W.fnOf "product" "product" (defArgs s_product) (defBody s_product) (defScope s_product) .none kV_product dc_product pm_product an_product cd_product ct_product), sl_product⟩) (c_product : PySem.W.codeIn K cd_product "product" = true) (k_product : PySem.W.keepIn K (.ref f_product) = true)
    (a_gd : PySem.W.nsIn K mainGlobals "greatest_divisor" = some (some (.ref f_gd))) (l_gd : K.lookup f_gd = some ⟨oc_gd, od_gd, .func (PySem.W.fnOf "greatest_divisor" "greatest_divisor" (defArgs s_gd) (defBody s_gd) (defScope s_gd) .none kV_gd dc_gd pm_gd an_gd cd_gd ct_gd), sl_gd⟩) (c_gd : PySem.W.codeIn K cd_gd "greatest_divisor" = true) (k_gd : PySem.W.keepIn K (.ref f_gd) = true)
    (a_divisors : PySem.W.nsIn K mainGlobals "divisors" = some (some (.ref f_divisors))) (l_divisors : K.lookup f_divisors = some ⟨oc_divisors, od_divisors, .func (PySem.W.fnOf "divisors" "divisors" (defArgs s_divisors) (defBody s_divisors) (defScope s_divisors) .none kV_divisors dc_divisors pm_divisors an_divisors cd_divisors ct_divisors), sl_divisors⟩) (c_divisors : PySem.W.codeIn K cd_divisors "divisors" = true) (k_divisors : PySem.W.keepIn K (.ref f_divisors) = true)
    (a_low : PySem.W.nsIn K mainGlobals "lowest_terms" = some (some (.ref f_low))) (l_low : K.lookup f_low = some ⟨oc_low, od_low, .func (PySem.W.fnOf "lowest_terms" "lowest_terms" (defArgs s_low) (defBody s_low) (defScope s_low) .none kV_low dc_low pm_low an_low cd_low ct_low), sl_low⟩) (c_low : PySem.W.codeIn K cd_low "lowest_terms" = true) (k_low : PySem.W.keepIn K (.ref f_low) = true)
    (a_bare : PySem.W.nsIn K mainGlobals "bare" = some (some (.ref f_bare))) (l_bare : K.lookup f_bare = some ⟨oc_bare, od_bare, .func (PySem.W.fnOf "bare" "bare" (defArgs s_bare) (defBody s_bare) (defScope s_bare) .none kV_bare dc_bare pm_bare an_bare cd_bare ct_bare), sl_bare⟩) (c_bare : PySem.W.codeIn K cd_bare "bare" = true) (k_bare : PySem.W.keepIn K (.ref f_bare) = true)
    (a_less_multiple : PySem.W.nsIn K mainGlobals "less_multiple" = some (some (.ref f_less_multiple))) (l_less_multiple : K.lookup f_less_multiple = some ⟨oc_less_multiple, od_less_multiple, .func (PySem.W.fnOf "less_multiple" "less_multiple" (defArgs s_less_multiple) (defBody s_less_multiple) (defScope s_less_multiple) .none kV_less_multiple dc_less_multiple pm_less_multiple an_less_multiple cd_less_multiple ct_less_multiple), sl_less_multiple⟩) (c_less_multiple : PySem.W.codeIn K cd_less_multiple "less_multiple" = true) (k_less_multiple : PySem.W.keepIn K (.ref f_less_multiple) = true)
    (a_divided : PySem.W.nsIn K mainGlobals "divided" = some (some (.ref f_divided))) (l_divided : K.lookup f_divided = some ⟨oc_divided, od_divided, .func (PySem.W.fnOf "divided" "divided" (defArgs s_divided) (defBody s_divided) (defScope s_divided) .none kV_divided dc_divided pm_divided an_divided cd_divided ct_divided), sl_divided⟩) (c_divided : PySem.W.codeIn K cd_divided "divided" = true) (k_divided : PySem.W.keepIn K (.ref f_divided) = true)
    (a_greatest_common : PySem.W.nsIn K mainGlobals "greatest_common" = some (some (.ref f_greatest_common))) (l_greatest_common : K.lookup f_greatest_common = some ⟨oc_greatest_common, od_greatest_common, .func (PySem.W.fnOf "greatest_common" "greatest_common" (defArgs s_greatest_common) (defBody s_greatest_common) (defScope s_greatest_common) .none kV_greatest_common dc_greatest_common pm_greatest_common an_greatest_common cd_greatest_common ct_greatest_common), sl_greatest_common⟩) (c_greatest_common : PySem.W.codeIn K cd_greatest_common "greatest_common" = true) (k_greatest_common : PySem.W.keepIn K (.ref f_greatest_common) = true)
    (a_find_row : PySem.W.nsIn K mainGlobals "find_row" = some (some (.ref f_find_row))) (l_find_row : K.lookup f_find_row = some ⟨oc_find_row, od_find_row, .func (PySem.W.fnOf "find_row" "find_row" (defArgs s_find_row) (defBody s_find_row) (defScope s_find_row) .none kV_find_row dc_find_row pm_find_row an_find_row cd_find_row ct_find_row), sl_find_row⟩) (c_find_row : PySem.W.codeIn K cd_find_row "find_row" = true) (k_find_row : PySem.W.keepIn K (.ref f_find_row) = true)
    (a_cleared_row : PySem.W.nsIn K mainGlobals "cleared_row" = some (some (.ref f_cleared_row))) (l_cleared_row : K.lookup f_cleared_row = some ⟨oc_cleared_row, od_cleared_row, .func (PySem.W.fnOf "cleared_row" "cleared_row" (defArgs s_cleared_row) (defBody s_cleared_row) (defScope s_cleared_row) .none kV_cleared_row dc_cleared_row pm_cleared_row an_cleared_row cd_cleared_row ct_cleared_row), sl_cleared_row⟩) (c_cleared_row : PySem.W.codeIn K cd_cleared_row "cleared_row" = true) (k_cleared_row : PySem.W.keepIn K (.ref f_cleared_row) = true)
    (a_determinant : PySem.W.nsIn K mainGlobals "determinant" = some (some (.ref f_determinant))) (l_determinant : K.lookup f_determinant = some ⟨oc_determinant, od_determinant, .func (PySem.W.fnOf "determinant" "determinant" (defArgs s_determinant) (defBody s_determinant) (defScope s_determinant) .none kV_determinant dc_determinant pm_determinant an_determinant cd_determinant ct_determinant), sl_determinant⟩) (c_determinant : PySem.W.codeIn K cd_determinant "determinant" = true) (k_determinant : PySem.W.keepIn K (.ref f_determinant) = true)
    (a_shifted_rows : PySem.W.nsIn K mainGlobals "shifted_rows" = some (some (.ref f_shifted_rows))) (l_shifted_rows : K.lookup f_shifted_rows = some ⟨oc_shifted_rows, od_shifted_rows, .func (PySem.W.fnOf "shifted_rows" "shifted_rows" (defArgs s_shifted_rows) (defBody s_shifted_rows) (defScope s_shifted_rows) .none kV_shifted_rows dc_shifted_rows pm_shifted_rows an_shifted_rows cd_shifted_rows ct_shifted_rows), sl_shifted_rows⟩) (c_shifted_rows : PySem.W.codeIn K cd_shifted_rows "shifted_rows" = true) (k_shifted_rows : PySem.W.keepIn K (.ref f_shifted_rows) = true)
    (a_resultant : PySem.W.nsIn K mainGlobals "resultant" = some (some (.ref f_resultant))) (l_resultant : K.lookup f_resultant = some ⟨oc_resultant, od_resultant, .func (PySem.W.fnOf "resultant" "resultant" (defArgs s_resultant) (defBody s_resultant) (defScope s_resultant) .none kV_resultant dc_resultant pm_resultant an_resultant cd_resultant ct_resultant), sl_resultant⟩) (c_resultant : PySem.W.codeIn K cd_resultant "resultant" = true) (k_resultant : PySem.W.keepIn K (.ref f_resultant) = true)
    (a_slope : PySem.W.nsIn K mainGlobals "slope" = some (some (.ref f_slope))) (l_slope : K.lookup f_slope = some ⟨oc_slope, od_slope, .func (PySem.W.fnOf "slope" "slope" (defArgs s_slope) (defBody s_slope) (defScope s_slope) .none kV_slope dc_slope pm_slope an_slope cd_slope ct_slope), sl_slope⟩) (c_slope : PySem.W.codeIn K cd_slope "slope" = true) (k_slope : PySem.W.keepIn K (.ref f_slope) = true)
    (a_discriminant : PySem.W.nsIn K mainGlobals "discriminant" = some (some (.ref f_discriminant))) (l_discriminant : K.lookup f_discriminant = some ⟨oc_discriminant, od_discriminant, .func (PySem.W.fnOf "discriminant" "discriminant" (defArgs s_discriminant) (defBody s_discriminant) (defScope s_discriminant) .none kV_discriminant dc_discriminant pm_discriminant an_discriminant cd_discriminant ct_discriminant), sl_discriminant⟩) (c_discriminant : PySem.W.codeIn K cd_discriminant "discriminant" = true) (k_discriminant : PySem.W.keepIn K (.ref f_discriminant) = true)
    (a_square_free : PySem.W.nsIn K mainGlobals "square_free" = some (some (.ref f_square_free))) (l_square_free : K.lookup f_square_free = some ⟨oc_square_free, od_square_free, .func (PySem.W.fnOf "square_free" "square_free" (defArgs s_square_free) (defBody s_square_free) (defScope s_square_free) .none kV_square_free dc_square_free pm_square_free an_square_free cd_square_free ct_square_free), sl_square_free⟩) (c_square_free : PySem.W.codeIn K cd_square_free "square_free" = true) (k_square_free : PySem.W.keepIn K (.ref f_square_free) = true)
    (a_value_at : PySem.W.nsIn K mainGlobals "value_at" = some (some (.ref f_value_at))) (l_value_at : K.lookup f_value_at = some ⟨oc_value_at, od_value_at, .func (PySem.W.fnOf "value_at" "value_at" (defArgs s_value_at) (defBody s_value_at) (defScope s_value_at) .none kV_value_at dc_value_at pm_value_at an_value_at cd_value_at ct_value_at), sl_value_at⟩) (c_value_at : PySem.W.codeIn K cd_value_at "value_at" = true) (k_value_at : PySem.W.keepIn K (.ref f_value_at) = true)
    (a_power_less_1 : PySem.W.nsIn K mainGlobals "power_less_1" = some (some (.ref f_power_less_1))) (l_power_less_1 : K.lookup f_power_less_1 = some ⟨oc_power_less_1, od_power_less_1, .func (PySem.W.fnOf "power_less_1" "power_less_1" (defArgs s_power_less_1) (defBody s_power_less_1) (defScope s_power_less_1) .none kV_power_less_1 dc_power_less_1 pm_power_less_1 an_power_less_1 cd_power_less_1 ct_power_less_1), sl_power_less_1⟩) (c_power_less_1 : PySem.W.codeIn K cd_power_less_1 "power_less_1" = true) (k_power_less_1 : PySem.W.keepIn K (.ref f_power_less_1) = true)
    (a_circle : PySem.W.nsIn K mainGlobals "circle" = some (some (.ref f_circle))) (l_circle : K.lookup f_circle = some ⟨oc_circle, od_circle, .func (PySem.W.fnOf "circle" "circle" (defArgs s_circle) (defBody s_circle) (defScope s_circle) .none kV_circle dc_circle pm_circle an_circle cd_circle ct_circle), sl_circle⟩) (c_circle : PySem.W.codeIn K cd_circle "circle" = true) (k_circle : PySem.W.keepIn K (.ref f_circle) = true)
    (a_signed_divisors : PySem.W.nsIn K mainGlobals "signed_divisors" = some (some (.ref f_signed_divisors))) (l_signed_divisors : K.lookup f_signed_divisors = some ⟨oc_signed_divisors, od_signed_divisors, .func (PySem.W.fnOf "signed_divisors" "signed_divisors" (defArgs s_signed_divisors) (defBody s_signed_divisors) (defScope s_signed_divisors) .none kV_signed_divisors dc_signed_divisors pm_signed_divisors an_signed_divisors cd_signed_divisors ct_signed_divisors), sl_signed_divisors⟩) (c_signed_divisors : PySem.W.codeIn K cd_signed_divisors "signed_divisors" = true) (k_signed_divisors : PySem.W.keepIn K (.ref f_signed_divisors) = true)
    (a_divides : PySem.W.nsIn K mainGlobals "divides" = some (some (.ref f_divides))) (l_divides : K.lookup f_divides = some ⟨oc_divides, od_divides, .func (PySem.W.fnOf "divides" "divides" (defArgs s_divides) (defBody s_divides) (defScope s_divides) .none kV_divides dc_divides pm_divides an_divides cd_divides ct_divides), sl_divides⟩) (c_divides : PySem.W.codeIn K cd_divides "divides" = true) (k_divides : PySem.W.keepIn K (.ref f_divides) = true)
    (a_part_of_degree_1 : PySem.W.nsIn K mainGlobals "part_of_degree_1" = some (some (.ref f_part_of_degree_1))) (l_part_of_degree_1 : K.lookup f_part_of_degree_1 = some ⟨oc_part_of_degree_1, od_part_of_degree_1, .func (PySem.W.fnOf "part_of_degree_1" "part_of_degree_1" (defArgs s_part_of_degree_1) (defBody s_part_of_degree_1) (defScope s_part_of_degree_1) .none kV_part_of_degree_1 dc_part_of_degree_1 pm_part_of_degree_1 an_part_of_degree_1 cd_part_of_degree_1 ct_part_of_degree_1), sl_part_of_degree_1⟩) (c_part_of_degree_1 : PySem.W.codeIn K cd_part_of_degree_1 "part_of_degree_1" = true) (k_part_of_degree_1 : PySem.W.keepIn K (.ref f_part_of_degree_1) = true)
    (a_part_of_degree_2 : PySem.W.nsIn K mainGlobals "part_of_degree_2" = some (some (.ref f_part_of_degree_2))) (l_part_of_degree_2 : K.lookup f_part_of_degree_2 = some ⟨oc_part_of_degree_2, od_part_of_degree_2, .func (PySem.W.fnOf "part_of_degree_2" "part_of_degree_2" (defArgs s_part_of_degree_2) (defBody s_part_of_degree_2) (defScope s_part_of_degree_2) .none kV_part_of_degree_2 dc_part_of_degree_2 pm_part_of_degree_2 an_part_of_degree_2 cd_part_of_degree_2 ct_part_of_degree_2), sl_part_of_degree_2⟩) (c_part_of_degree_2 : PySem.W.codeIn K cd_part_of_degree_2 "part_of_degree_2" = true) (k_part_of_degree_2 : PySem.W.keepIn K (.ref f_part_of_degree_2) = true)
    (a_lowest_part : PySem.W.nsIn K mainGlobals "lowest_part" = some (some (.ref f_lowest_part))) (l_lowest_part : K.lookup f_lowest_part = some ⟨oc_lowest_part, od_lowest_part, .func (PySem.W.fnOf "lowest_part" "lowest_part" (defArgs s_lowest_part) (defBody s_lowest_part) (defScope s_lowest_part) .none kV_lowest_part dc_lowest_part pm_lowest_part an_lowest_part cd_lowest_part ct_lowest_part), sl_lowest_part⟩) (c_lowest_part : PySem.W.codeIn K cd_lowest_part "lowest_part" = true) (k_lowest_part : PySem.W.keepIn K (.ref f_lowest_part) = true)
    (a_all_parts : PySem.W.nsIn K mainGlobals "all_parts" = some (some (.ref f_all_parts))) (l_all_parts : K.lookup f_all_parts = some ⟨oc_all_parts, od_all_parts, .func (PySem.W.fnOf "all_parts" "all_parts" (defArgs s_all_parts) (defBody s_all_parts) (defScope s_all_parts) .none kV_all_parts dc_all_parts pm_all_parts an_all_parts cd_all_parts ct_all_parts), sl_all_parts⟩) (c_all_parts : PySem.W.codeIn K cd_all_parts "all_parts" = true) (k_all_parts : PySem.W.keepIn K (.ref f_all_parts) = true)
    (a_degree_and_numbers : PySem.W.nsIn K mainGlobals "degree_and_numbers" = some (some (.ref f_degree_and_numbers))) (l_degree_and_numbers : K.lookup f_degree_and_numbers = some ⟨oc_degree_and_numbers, od_degree_and_numbers, .func (PySem.W.fnOf "degree_and_numbers" "degree_and_numbers" (defArgs s_degree_and_numbers) (defBody s_degree_and_numbers) (defScope s_degree_and_numbers) .none kV_degree_and_numbers dc_degree_and_numbers pm_degree_and_numbers an_degree_and_numbers cd_degree_and_numbers ct_degree_and_numbers), sl_degree_and_numbers⟩) (c_degree_and_numbers : PySem.W.codeIn K cd_degree_and_numbers "degree_and_numbers" = true) (k_degree_and_numbers : PySem.W.keepIn K (.ref f_degree_and_numbers) = true)
    (a_counted_parts : PySem.W.nsIn K mainGlobals "counted_parts" = some (some (.ref f_counted_parts))) (l_counted_parts : K.lookup f_counted_parts = some ⟨oc_counted_parts, od_counted_parts, .func (PySem.W.fnOf "counted_parts" "counted_parts" (defArgs s_counted_parts) (defBody s_counted_parts) (defScope s_counted_parts) .none kV_counted_parts dc_counted_parts pm_counted_parts an_counted_parts cd_counted_parts ct_counted_parts), sl_counted_parts⟩) (c_counted_parts : PySem.W.codeIn K cd_counted_parts "counted_parts" = true) (k_counted_parts : PySem.W.keepIn K (.ref f_counted_parts) = true)
    (a_whole_number : PySem.W.nsIn K mainGlobals "whole_number" = some (some (.ref f_whole_number))) (l_whole_number : K.lookup f_whole_number = some ⟨oc_whole_number, od_whole_number, .func (PySem.W.fnOf "whole_number" "whole_number" (defArgs s_whole_number) (defBody s_whole_number) (defScope s_whole_number) .none kV_whole_number dc_whole_number pm_whole_number an_whole_number cd_whole_number ct_whole_number), sl_whole_number⟩) (c_whole_number : PySem.W.codeIn K cd_whole_number "whole_number" = true) (k_whole_number : PySem.W.keepIn K (.ref f_whole_number) = true)
    (a_is_irreducible : PySem.W.nsIn K mainGlobals "is_irreducible" = some (some (.ref f_is_irreducible))) (l_is_irreducible : K.lookup f_is_irreducible = some ⟨oc_is_irreducible, od_is_irreducible, .func (PySem.W.fnOf "is_irreducible" "is_irreducible" (defArgs s_is_irreducible) (defBody s_is_irreducible) (defScope s_is_irreducible) .none kV_is_irreducible dc_is_irreducible pm_is_irreducible an_is_irreducible cd_is_irreducible ct_is_irreducible), sl_is_irreducible⟩) (c_is_irreducible : PySem.W.codeIn K cd_is_irreducible "is_irreducible" = true) (k_is_irreducible : PySem.W.keepIn K (.ref f_is_irreducible) = true)
    (a_rational_roots : PySem.W.nsIn K mainGlobals "rational_roots" = some (some (.ref f_rational_roots))) (l_rational_roots : K.lookup f_rational_roots = some ⟨oc_rational_roots, od_rational_roots, .func (PySem.W.fnOf "rational_roots" "rational_roots" (defArgs s_rational_roots) (defBody s_rational_roots) (defScope s_rational_roots) .none kV_rational_roots dc_rational_roots pm_rational_roots an_rational_roots cd_rational_roots ct_rational_roots), sl_rational_roots⟩) (c_rational_roots : PySem.W.codeIn K cd_rational_roots "rational_roots" = true) (k_rational_roots : PySem.W.keepIn K (.ref f_rational_roots) = true)
    (a_number_handed : PySem.W.nsIn K mainGlobals "number_handed" = some (some (.ref f_number_handed))) (l_number_handed : K.lookup f_number_handed = some ⟨oc_number_handed, od_number_handed, .func (PySem.W.fnOf "number_handed" "number_handed" (defArgs s_number_handed) (defBody s_number_handed) (defScope s_number_handed) .none kV_number_handed dc_number_handed pm_number_handed an_number_handed cd_number_handed ct_number_handed), sl_number_handed⟩) (c_number_handed : PySem.W.codeIn K cd_number_handed "number_handed" = true) (k_number_handed : PySem.W.keepIn K (.ref f_number_handed) = true)
    (a_polynomial_handed : PySem.W.nsIn K mainGlobals "polynomial_handed" = some (some (.ref f_polynomial_handed))) (l_polynomial_handed : K.lookup f_polynomial_handed = some ⟨oc_polynomial_handed, od_polynomial_handed, .func (PySem.W.fnOf "polynomial_handed" "polynomial_handed" (defArgs s_polynomial_handed) (defBody s_polynomial_handed) (defScope s_polynomial_handed) .none kV_polynomial_handed dc_polynomial_handed pm_polynomial_handed an_polynomial_handed cd_polynomial_handed ct_polynomial_handed), sl_polynomial_handed⟩) (c_polynomial_handed : PySem.W.codeIn K cd_polynomial_handed "polynomial_handed" = true) (k_polynomial_handed : PySem.W.keepIn K (.ref f_polynomial_handed) = true)
    (a_may_be_taken : PySem.W.nsIn K mainGlobals "may_be_taken" = some (some (.ref f_may_be_taken))) (l_may_be_taken : K.lookup f_may_be_taken = some ⟨oc_may_be_taken, od_may_be_taken, .func (PySem.W.fnOf "may_be_taken" "may_be_taken" (defArgs s_may_be_taken) (defBody s_may_be_taken) (defScope s_may_be_taken) .none kV_may_be_taken dc_may_be_taken pm_may_be_taken an_may_be_taken cd_may_be_taken ct_may_be_taken), sl_may_be_taken⟩) (c_may_be_taken : PySem.W.codeIn K cd_may_be_taken "may_be_taken" = true) (k_may_be_taken : PySem.W.keepIn K (.ref f_may_be_taken) = true)
    (a_shown : PySem.W.nsIn K mainGlobals "shown" = some (some (.ref f_shown))) (l_shown : K.lookup f_shown = some ⟨oc_shown, od_shown, .func (PySem.W.fnOf "shown" "shown" (defArgs s_shown) (defBody s_shown) (defScope s_shown) .none kV_shown dc_shown pm_shown an_shown cd_shown ct_shown), sl_shown⟩) (c_shown : PySem.W.codeIn K cd_shown "shown" = true) (k_shown : PySem.W.keepIn K (.ref f_shown) = true)
    (a_fractions_shown : PySem.W.nsIn K mainGlobals "fractions_shown" = some (some (.ref f_fractions_shown))) (l_fractions_shown : K.lookup f_fractions_shown = some ⟨oc_fractions_shown, od_fractions_shown, .func (PySem.W.fnOf "fractions_shown" "fractions_shown" (defArgs s_fractions_shown) (defBody s_fractions_shown) (defScope s_fractions_shown) .none kV_fractions_shown dc_fractions_shown pm_fractions_shown an_fractions_shown cd_fractions_shown ct_fractions_shown), sl_fractions_shown⟩) (c_fractions_shown : PySem.W.codeIn K cd_fractions_shown "fractions_shown" = true) (k_fractions_shown : PySem.W.keepIn K (.ref f_fractions_shown) = true)
    (a_answer_one : PySem.W.nsIn K mainGlobals "answer_one" = some (some (.ref f_answer_one))) (l_answer_one : K.lookup f_answer_one = some ⟨oc_answer_one, od_answer_one, .func (PySem.W.fnOf "answer_one" "answer_one" (defArgs s_answer_one) (defBody s_answer_one) (defScope s_answer_one) .none kV_answer_one dc_answer_one pm_answer_one an_answer_one cd_answer_one ct_answer_one), sl_answer_one⟩) (c_answer_one : PySem.W.codeIn K cd_answer_one "answer_one" = true) (k_answer_one : PySem.W.keepIn K (.ref f_answer_one) = true)
    (a_answer_two : PySem.W.nsIn K mainGlobals "answer_two" = some (some (.ref f_answer_two))) (l_answer_two : K.lookup f_answer_two = some ⟨oc_answer_two, od_answer_two, .func (PySem.W.fnOf "answer_two" "answer_two" (defArgs s_answer_two) (defBody s_answer_two) (defScope s_answer_two) .none kV_answer_two dc_answer_two pm_answer_two an_answer_two cd_answer_two ct_answer_two), sl_answer_two⟩) (c_answer_two : PySem.W.codeIn K cd_answer_two "answer_two" = true) (k_answer_two : PySem.W.keepIn K (.ref f_answer_two) = true)
    (a_answer_times : PySem.W.nsIn K mainGlobals "answer_times" = some (some (.ref f_answer_times))) (l_answer_times : K.lookup f_answer_times = some ⟨oc_answer_times, od_answer_times, .func (PySem.W.fnOf "answer_times" "answer_times" (defArgs s_answer_times) (defBody s_answer_times) (defScope s_answer_times) .none kV_answer_times dc_answer_times pm_answer_times an_answer_times cd_answer_times ct_answer_times), sl_answer_times⟩) (c_answer_times : PySem.W.codeIn K cd_answer_times "answer_times" = true) (k_answer_times : PySem.W.keepIn K (.ref f_answer_times) = true)
    (a_answer_divide : PySem.W.nsIn K mainGlobals "answer_divide" = some (some (.ref f_answer_divide))) (l_answer_divide : K.lookup f_answer_divide = some ⟨oc_answer_divide, od_answer_divide, .func (PySem.W.fnOf "answer_divide" "answer_divide" (defArgs s_answer_divide) (defBody s_answer_divide) (defScope s_answer_divide) .none kV_answer_divide dc_answer_divide pm_answer_divide an_answer_divide cd_answer_divide ct_answer_divide), sl_answer_divide⟩) (c_answer_divide : PySem.W.codeIn K cd_answer_divide "answer_divide" = true) (k_answer_divide : PySem.W.keepIn K (.ref f_answer_divide) = true)
    (a_answer_common : PySem.W.nsIn K mainGlobals "answer_common" = some (some (.ref f_answer_common))) (l_answer_common : K.lookup f_answer_common = some ⟨oc_answer_common, od_answer_common, .func (PySem.W.fnOf "answer_common" "answer_common" (defArgs s_answer_common) (defBody s_answer_common) (defScope s_answer_common) .none kV_answer_common dc_answer_common pm_answer_common an_answer_common cd_answer_common ct_answer_common), sl_answer_common⟩) (c_answer_common : PySem.W.codeIn K cd_answer_common "answer_common" = true) (k_answer_common : PySem.W.keepIn K (.ref f_answer_common) = true)
    (a_answer_resultant : PySem.W.nsIn K mainGlobals "answer_resultant" = some (some (.ref f_answer_resultant))) (l_answer_resultant : K.lookup f_answer_resultant = some ⟨oc_answer_resultant, od_answer_resultant, .func (PySem.W.fnOf "answer_resultant" "answer_resultant" (defArgs s_answer_resultant) (defBody s_answer_resultant) (defScope s_answer_resultant) .none kV_answer_resultant dc_answer_resultant pm_answer_resultant an_answer_resultant cd_answer_resultant ct_answer_resultant), sl_answer_resultant⟩) (c_answer_resultant : PySem.W.codeIn K cd_answer_resultant "answer_resultant" = true) (k_answer_resultant : PySem.W.keepIn K (.ref f_answer_resultant) = true)
    (a_answer_disc : PySem.W.nsIn K mainGlobals "answer_disc" = some (some (.ref f_answer_disc))) (l_answer_disc : K.lookup f_answer_disc = some ⟨oc_answer_disc, od_answer_disc, .func (PySem.W.fnOf "answer_disc" "answer_disc" (defArgs s_answer_disc) (defBody s_answer_disc) (defScope s_answer_disc) .none kV_answer_disc dc_answer_disc pm_answer_disc an_answer_disc cd_answer_disc ct_answer_disc), sl_answer_disc⟩) (c_answer_disc : PySem.W.codeIn K cd_answer_disc "answer_disc" = true) (k_answer_disc : PySem.W.keepIn K (.ref f_answer_disc) = true)
    (a_may_be_taken_apart : PySem.W.nsIn K mainGlobals "may_be_taken_apart" = some (some (.ref f_may_be_taken_apart))) (l_may_be_taken_apart : K.lookup f_may_be_taken_apart = some ⟨oc_may_be_taken_apart, od_may_be_taken_apart, .func (PySem.W.fnOf "may_be_taken_apart" "may_be_taken_apart" (defArgs s_may_be_taken_apart) (defBody s_may_be_taken_apart) (defScope s_may_be_taken_apart) .none kV_may_be_taken_apart dc_may_be_taken_apart pm_may_be_taken_apart an_may_be_taken_apart cd_may_be_taken_apart ct_may_be_taken_apart), sl_may_be_taken_apart⟩) (c_may_be_taken_apart : PySem.W.codeIn K cd_may_be_taken_apart "may_be_taken_apart" = true) (k_may_be_taken_apart : PySem.W.keepIn K (.ref f_may_be_taken_apart) = true)
    (a_answer_apart : PySem.W.nsIn K mainGlobals "answer_apart" = some (some (.ref f_answer_apart))) (l_answer_apart : K.lookup f_answer_apart = some ⟨oc_answer_apart, od_answer_apart, .func (PySem.W.fnOf "answer_apart" "answer_apart" (defArgs s_answer_apart) (defBody s_answer_apart) (defScope s_answer_apart) .none kV_answer_apart dc_answer_apart pm_answer_apart an_answer_apart cd_answer_apart ct_answer_apart), sl_answer_apart⟩) (c_answer_apart : PySem.W.codeIn K cd_answer_apart "answer_apart" = true) (k_answer_apart : PySem.W.keepIn K (.ref f_answer_apart) = true)
    (a_answer_irreducible : PySem.W.nsIn K mainGlobals "answer_irreducible" = some (some (.ref f_answer_irreducible))) (l_answer_irreducible : K.lookup f_answer_irreducible = some ⟨oc_answer_irreducible, od_answer_irreducible, .func (PySem.W.fnOf "answer_irreducible" "answer_irreducible" (defArgs s_answer_irreducible) (defBody s_answer_irreducible) (defScope s_answer_irreducible) .none kV_answer_irreducible dc_answer_irreducible pm_answer_irreducible an_answer_irreducible cd_answer_irreducible ct_answer_irreducible), sl_answer_irreducible⟩) (c_answer_irreducible : PySem.W.codeIn K cd_answer_irreducible "answer_irreducible" = true) (k_answer_irreducible : PySem.W.keepIn K (.ref f_answer_irreducible) = true)
    (a_answer_rationals : PySem.W.nsIn K mainGlobals "answer_rationals" = some (some (.ref f_answer_rationals))) (l_answer_rationals : K.lookup f_answer_rationals = some ⟨oc_answer_rationals, od_answer_rationals, .func (PySem.W.fnOf "answer_rationals" "answer_rationals" (defArgs s_answer_rationals) (defBody s_answer_rationals) (defScope s_answer_rationals) .none kV_answer_rationals dc_answer_rationals pm_answer_rationals an_answer_rationals cd_answer_rationals ct_answer_rationals), sl_answer_rationals⟩) (c_answer_rationals : PySem.W.codeIn K cd_answer_rationals "answer_rationals" = true) (k_answer_rationals : PySem.W.keepIn K (.ref f_answer_rationals) = true)
    (a_answer_squarefree : PySem.W.nsIn K mainGlobals "answer_squarefree" = some (some (.ref f_answer_squarefree))) (l_answer_squarefree : K.lookup f_answer_squarefree = some ⟨oc_answer_squarefree, od_answer_squarefree, .func (PySem.W.fnOf "answer_squarefree" "answer_squarefree" (defArgs s_answer_squarefree) (defBody s_answer_squarefree) (defScope s_answer_squarefree) .none kV_answer_squarefree dc_answer_squarefree pm_answer_squarefree an_answer_squarefree cd_answer_squarefree ct_answer_squarefree), sl_answer_squarefree⟩) (c_answer_squarefree : PySem.W.codeIn K cd_answer_squarefree "answer_squarefree" = true) (k_answer_squarefree : PySem.W.keepIn K (.ref f_answer_squarefree) = true)
    (a_answer_circle : PySem.W.nsIn K mainGlobals "answer_circle" = some (some (.ref f_answer_circle))) (l_answer_circle : K.lookup f_answer_circle = some ⟨oc_answer_circle, od_answer_circle, .func (PySem.W.fnOf "answer_circle" "answer_circle" (defArgs s_answer_circle) (defBody s_answer_circle) (defScope s_answer_circle) .none kV_answer_circle dc_answer_circle pm_answer_circle an_answer_circle cd_answer_circle ct_answer_circle), sl_answer_circle⟩) (c_answer_circle : PySem.W.codeIn K cd_answer_circle "answer_circle" = true) (k_answer_circle : PySem.W.keepIn K (.ref f_answer_circle) = true)
    (a_answer_value : PySem.W.nsIn K mainGlobals "answer_value" = some (some (.ref f_answer_value))) (l_answer_value : K.lookup f_answer_value = some ⟨oc_answer_value, od_answer_value, .func (PySem.W.fnOf "answer_value" "answer_value" (defArgs s_answer_value) (defBody s_answer_value) (defScope s_answer_value) .none kV_answer_value dc_answer_value pm_answer_value an_answer_value cd_answer_value ct_answer_value), sl_answer_value⟩) (c_answer_value : PySem.W.codeIn K cd_answer_value "answer_value" = true) (k_answer_value : PySem.W.keepIn K (.ref f_answer_value) = true)
    (a_answer_swap : PySem.W.nsIn K mainGlobals "answer_swap" = some (some (.ref f_answer_swap))) (l_answer_swap : K.lookup f_answer_swap = some ⟨oc_answer_swap, od_answer_swap, .func (PySem.W.fnOf "answer_swap" "answer_swap" (defArgs s_answer_swap) (defBody s_answer_swap) (defScope s_answer_swap) .none kV_answer_swap dc_answer_swap pm_answer_swap an_answer_swap cd_answer_swap ct_answer_swap), sl_answer_swap⟩) (c_answer_swap : PySem.W.codeIn K cd_answer_swap "answer_swap" = true) (k_answer_swap : PySem.W.keepIn K (.ref f_answer_swap) = true)
    (a_call_end : PySem.W.nsIn K mainGlobals "call_end" = some (some (.ref f_call_end))) (l_call_end : K.lookup f_call_end = some ⟨oc_call_end, od_call_end, .func (PySem.W.fnOf "call_end" "call_end" (defArgs s_call_end) (defBody s_call_end) (defScope s_call_end) .none kV_call_end dc_call_end pm_call_end an_call_end cd_call_end ct_call_end), sl_call_end⟩) (c_call_end : PySem.W.codeIn K cd_call_end "call_end" = true) (k_call_end : PySem.W.keepIn K (.ref f_call_end) = true)
    (a_answer_call : PySem.W.nsIn K mainGlobals "answer_call" = some (some (.ref f_answer_call))) (l_answer_call : K.lookup f_answer_call = some ⟨oc_answer_call, od_answer_call, .func (PySem.W.fnOf "answer_call" "answer_call" (defArgs s_answer_call) (defBody s_answer_call) (defScope s_answer_call) .none kV_answer_call dc_answer_call pm_answer_call an_answer_call cd_answer_call ct_answer_call), sl_answer_call⟩) (c_answer_call : PySem.W.codeIn K cd_answer_call "answer_call" = true) (k_answer_call : PySem.W.keepIn K (.ref f_answer_call) = true)
    (a_answers : PySem.W.nsIn K mainGlobals "answers" = some (some (.ref f_answers))) (l_answers : K.lookup f_answers = some ⟨oc_answers, od_answers, .func (PySem.W.fnOf "answers" "answers" (defArgs s_answers) (defBody s_answers) (defScope s_answers) .none kV_answers dc_answers pm_answers an_answers cd_answers ct_answers), sl_answers⟩) (c_answers : PySem.W.codeIn K cd_answers "answers" = true) (k_answers : PySem.W.keepIn K (.ref f_answers) = true)
    (g_Line : PySem.W.nsIn K mainGlobals "Line" = some (some (.ref C_Line))) (a_Line : PySem.W.findIn K (.ref C_Line) "__init__" = some (some (.ref f_Line))) (i_Line : PySem.W.isFn K (.ref f_Line) = true) (l_Line : K.lookup f_Line = some ⟨oc_Line, od_Line, .func (PySem.W.fnOf "__init__" "Line.__init__" (defArgs s_Line___init__) (defBody s_Line___init__) (defScope s_Line___init__) .none kV_Line dc_Line pm_Line an_Line cd_Line ct_Line), sl_Line⟩) (c_Line : PySem.W.codeIn K cd_Line "Line.__init__" = true) (k_Line : PySem.W.keepIn K (.ref f_Line) = true)
    (pg_Line : PySem.W.plainGet K C_Line Str.empty = true) (hd_Line : PySem.W.hasDictIn K C_Line = true) (po_Line : PySem.W.plainOver K C_Line = true) (sa_Line : PySem.W.findIn K (.ref C_Line) "__setattr__" = some (some (.builtin "object.__setattr__"))) (mk_Line : PySem.W.makesIn K C_Line = true) (kc_Line : PySem.W.keepIn K (.ref C_Line) = true) (n1_Line : PySem.W.findIn K (.ref C_Line) "first" = some none) (n2_Line : PySem.W.findIn K (.ref C_Line) "second" = some none)
    (cc_rational_roots : cd_rational_roots = .ref co_rational_roots) (lc_rational_roots : K.lookup co_rational_roots = some ⟨.type "code", dd_rational_roots, .fields vv_rational_roots, ss_rational_roots⟩) (ix_rational_roots : vv_rational_roots[11]? = some (.ref ta_rational_roots)) (cv_rational_roots : codeVs vv_rational_roots = true) (ne_rational_roots : co_rational_roots ≠ ta_rational_roots) (nl_rational_roots : K.lookup ta_rational_roots = none)
    (m_abs : PySem.W.nsIn K mainGlobals "abs" = some none)
    (m_enumerate : PySem.W.nsIn K mainGlobals "enumerate" = some none)
    (m_len : PySem.W.nsIn K mainGlobals "len" = some none)
    (m_list : PySem.W.nsIn K mainGlobals "list" = some none)
    (m_max : PySem.W.nsIn K mainGlobals "max" = some none)
    (m_range : PySem.W.nsIn K mainGlobals "range" = some none)
    (m_reversed : PySem.W.nsIn K mainGlobals "reversed" = some none)
    (m_sorted : PySem.W.nsIn K mainGlobals "sorted" = some none)
    (m_sum : PySem.W.nsIn K mainGlobals "sum" = some none)
    (m_zip : PySem.W.nsIn K mainGlobals "zip" = some none)
    (v_CALL_ONE : PySem.W.nsIn K mainGlobals "CALL_ONE" = some (some (.int 0 t_CALL_ONE)))
    (v_CALL_TWO : PySem.W.nsIn K mainGlobals "CALL_TWO" = some (some (.int 1 t_CALL_TWO)))
    (v_CALL_CIRCLE : PySem.W.nsIn K mainGlobals "CALL_CIRCLE" = some (some (.int 11 t_CALL_CIRCLE)))
    (v_CALL_VALUE : PySem.W.nsIn K mainGlobals "CALL_VALUE" = some (some (.int 12 t_CALL_VALUE)))
    (v_REFUSED_NUMBERS : PySem.W.nsIn K mainGlobals "REFUSED_NUMBERS" = some (some (.int (-1) t_REFUSED_NUMBERS)))
    (v_REFUSED_DEGREE : PySem.W.nsIn K mainGlobals "REFUSED_DEGREE" = some (some (.int (-5) t_REFUSED_DEGREE)))
    (v_REFUSED_POLYNOMIAL : PySem.W.nsIn K mainGlobals "REFUSED_POLYNOMIAL" = some (some (.int (-6) t_REFUSED_POLYNOMIAL)))
    (v_REFUSED_ZERO : PySem.W.nsIn K mainGlobals "REFUSED_ZERO" = some (some (.int (-6) t_REFUSED_ZERO)))
    (v_MOST_NUMBERS : PySem.W.nsIn K mainGlobals "MOST_NUMBERS" = some (some (.int 6 t_MOST_NUMBERS)))
    (v_HIGHEST_HANDED : PySem.W.nsIn K mainGlobals "HIGHEST_HANDED" = some (some (.int 60 t_HIGHEST_HANDED)))
    (v_HIGHEST_DEGREE : PySem.W.nsIn K mainGlobals "HIGHEST_DEGREE" = some (some (.int 5 t_HIGHEST_DEGREE)))
    (v_HIGHEST_CIRCLE : PySem.W.nsIn K mainGlobals "HIGHEST_CIRCLE" = some (some (.int 30 t_HIGHEST_CIRCLE)))
    (v_LARGEST_TAKEN_APART : PySem.W.nsIn K mainGlobals "LARGEST_TAKEN_APART" = some (some (.int 12 t_LARGEST_TAKEN_APART)))
    (g_PLAIN_CALLS : PySem.W.nsIn K mainGlobals "PLAIN_CALLS" = some (some (.ref d_PLAIN_CALLS))) (l_PLAIN_CALLS : K.lookup d_PLAIN_CALLS = some ⟨.type "dict", none, .dict es_PLAIN_CALLS n_PLAIN_CALLS, #[]⟩) (e_PLAIN_CALLS : ∀ e ∈ es_PLAIN_CALLS, ∃ k t, e.key = .int k t ∧ e.hash = hashInt k)
    (nd_PLAIN_CALLS : ([f_answer_times, f_answer_divide, f_answer_common, f_answer_resultant, f_answer_disc, f_answer_apart, f_answer_irreducible, f_answer_rationals, f_answer_squarefree, f_answer_swap] : List Addr).Nodup)
    (x_PLAIN_CALLS_2 : findBy Value.isInt es_PLAIN_CALLS 2 = some (.ref f_answer_times))
    (x_PLAIN_CALLS_3 : findBy Value.isInt es_PLAIN_CALLS 3 = some (.ref f_answer_divide))
    (x_PLAIN_CALLS_4 : findBy Value.isInt es_PLAIN_CALLS 4 = some (.ref f_answer_common))
    (x_PLAIN_CALLS_5 : findBy Value.isInt es_PLAIN_CALLS 5 = some (.ref f_answer_resultant))
    (x_PLAIN_CALLS_6 : findBy Value.isInt es_PLAIN_CALLS 6 = some (.ref f_answer_disc))
    (x_PLAIN_CALLS_7 : findBy Value.isInt es_PLAIN_CALLS 7 = some (.ref f_answer_apart))
    (x_PLAIN_CALLS_8 : findBy Value.isInt es_PLAIN_CALLS 8 = some (.ref f_answer_irreducible))
    (x_PLAIN_CALLS_9 : findBy Value.isInt es_PLAIN_CALLS 9 = some (.ref f_answer_rationals))
    (x_PLAIN_CALLS_10 : findBy Value.isInt es_PLAIN_CALLS 10 = some (.ref f_answer_squarefree))
    (x_PLAIN_CALLS_13 : findBy Value.isInt es_PLAIN_CALLS 13 = some (.ref f_answer_swap)) :
    ∃ T : Txt K mg, T.a_answers = fa ∧ K.lookup T.ta_rational_roots = none := by
  have e := hfa.symm.trans (PySem.W.mg_of X G a_answers)
  cases e
  exact ⟨{
    a_wlz := f_wlz
    fd_wlz := _
    d_wlz := ⟨fun_mk (st := s_wlz) l_wlz c_wlz k_wlz, PySem.W.mg_of X G a_wlz, (fun_mk (st := s_wlz) l_wlz c_wlz k_wlz).binds (ps := ["numbers"]) fun _ _ _ _ _ _ us hl => match us, hl with | [_], _ => rfl⟩
    a_isz := f_isz
    fd_isz := _
    d_isz := ⟨fun_mk (st := s_isz) l_isz c_isz k_isz, PySem.W.mg_of X G a_isz, (fun_mk (st := s_isz) l_isz c_isz k_isz).binds (ps := ["polynomial"]) fun _ _ _ _ _ _ us hl => match us, hl with | [_], _ => rfl⟩
    a_deg := f_deg
    fd_deg := _
    d_deg := ⟨fun_mk (st := s_deg) l_deg c_deg k_deg, PySem.W.mg_of X G a_deg, (fun_mk (st := s_deg) l_deg c_deg k_deg).binds (ps := ["polynomial"]) fun _ _ _ _ _ _ us hl => match us, hl with | [_], _ => rfl⟩
    a_product := f_product
    fd_product := _
    d_product := ⟨fun_mk (st := s_product) l_product c_product k_product, PySem.W.mg_of X G a_product, (fun_mk (st := s_product) l_product c_product k_product).binds (ps := ["first", "second"]) fun _ _ _ _ _ _ us hl => match us, hl with | [_, _], _ => rfl⟩
    a_gd := f_gd
    fd_gd := _
    d_gd := ⟨fun_mk (st := s_gd) l_gd c_gd k_gd, PySem.W.mg_of X G a_gd, (fun_mk (st := s_gd) l_gd c_gd k_gd).binds (ps := ["left", "right"]) fun _ _ _ _ _ _ us hl => match us, hl with | [_, _], _ => rfl⟩
    a_divisors := f_divisors
    fd_divisors := _
    d_divisors := ⟨fun_mk (st := s_divisors) l_divisors c_divisors k_divisors, PySem.W.mg_of X G a_divisors, (fun_mk (st := s_divisors) l_divisors c_divisors k_divisors).binds (ps := ["number"]) fun _ _ _ _ _ _ us hl => match us, hl with | [_], _ => rfl⟩
    a_low := f_low
    fd_low := _
    d_low := ⟨fun_mk (st := s_low) l_low c_low k_low, PySem.W.mg_of X G a_low, (fun_mk (st := s_low) l_low c_low k_low).binds (ps := ["above", "below"]) fun _ _ _ _ _ _ us hl => match us, hl with | [_, _], _ => rfl⟩
    a_bare := f_bare
    fd_bare := _
    d_bare := ⟨fun_mk (st := s_bare) l_bare c_bare k_bare, PySem.W.mg_of X G a_bare, (fun_mk (st := s_bare) l_bare c_bare k_bare).binds (ps := ["polynomial"]) fun _ _ _ _ _ _ us hl => match us, hl with | [_], _ => rfl⟩
    a_less_multiple := f_less_multiple
    fd_less_multiple := _
    d_less_multiple := ⟨fun_mk (st := s_less_multiple) l_less_multiple c_less_multiple k_less_multiple, PySem.W.mg_of X G a_less_multiple, (fun_mk (st := s_less_multiple) l_less_multiple c_less_multiple k_less_multiple).binds (ps := ["polynomial", "factor", "other"]) fun _ _ _ _ _ _ us hl => match us, hl with | [_, _, _], _ => rfl⟩
    a_divided := f_divided
    fd_divided := _
    d_divided := ⟨fun_mk (st := s_divided) l_divided c_divided k_divided, PySem.W.mg_of X G a_divided, (fun_mk (st := s_divided) l_divided c_divided k_divided).binds (ps := ["first", "second"]) fun _ _ _ _ _ _ us hl => match us, hl with | [_, _], _ => rfl⟩
    a_greatest_common := f_greatest_common
    fd_greatest_common := _
    d_greatest_common := ⟨fun_mk (st := s_greatest_common) l_greatest_common c_greatest_common k_greatest_common, PySem.W.mg_of X G a_greatest_common, (fun_mk (st := s_greatest_common) l_greatest_common c_greatest_common k_greatest_common).binds (ps := ["first", "second"]) fun _ _ _ _ _ _ us hl => match us, hl with | [_, _], _ => rfl⟩
    a_find_row := f_find_row
    fd_find_row := _
    d_find_row := ⟨fun_mk (st := s_find_row) l_find_row c_find_row k_find_row, PySem.W.mg_of X G a_find_row, (fun_mk (st := s_find_row) l_find_row c_find_row k_find_row).binds (ps := ["rows", "column"]) fun _ _ _ _ _ _ us hl => match us, hl with | [_, _], _ => rfl⟩
    a_cleared_row := f_cleared_row
    fd_cleared_row := _
    d_cleared_row := ⟨fun_mk (st := s_cleared_row) l_cleared_row c_cleared_row k_cleared_row, PySem.W.mg_of X G a_cleared_row, (fun_mk (st := s_cleared_row) l_cleared_row c_cleared_row k_cleared_row).binds (ps := ["row", "top_row", "column", "before"]) fun _ _ _ _ _ _ us hl => match us, hl with | [_, _, _, _], _ => rfl⟩
    a_determinant := f_determinant
    fd_determinant := _
    d_determinant := ⟨fun_mk (st := s_determinant) l_determinant c_determinant k_determinant, PySem.W.mg_of X G a_determinant, (fun_mk (st := s_determinant) l_determinant c_determinant k_determinant).binds (ps := ["table"]) fun _ _ _ _ _ _ us hl => match us, hl with | [_], _ => rfl⟩
    a_shifted_rows := f_shifted_rows
    fd_shifted_rows := _
    d_shifted_rows := ⟨fun_mk (st := s_shifted_rows) l_shifted_rows c_shifted_rows k_shifted_rows, PySem.W.mg_of X G a_shifted_rows, (fun_mk (st := s_shifted_rows) l_shifted_rows c_shifted_rows k_shifted_rows).binds (ps := ["polynomial", "count", "width"]) fun _ _ _ _ _ _ us hl => match us, hl with | [_, _, _], _ => rfl⟩
    a_resultant := f_resultant
    fd_resultant := _
    d_resultant := ⟨fun_mk (st := s_resultant) l_resultant c_resultant k_resultant, PySem.W.mg_of X G a_resultant, (fun_mk (st := s_resultant) l_resultant c_resultant k_resultant).binds (ps := ["first", "second"]) fun _ _ _ _ _ _ us hl => match us, hl with | [_, _], _ => rfl⟩
    a_slope := f_slope
    fd_slope := _
    d_slope := ⟨fun_mk (st := s_slope) l_slope c_slope k_slope, PySem.W.mg_of X G a_slope, (fun_mk (st := s_slope) l_slope c_slope k_slope).binds (ps := ["polynomial"]) fun _ _ _ _ _ _ us hl => match us, hl with | [_], _ => rfl⟩
    a_discriminant := f_discriminant
    fd_discriminant := _
    d_discriminant := ⟨fun_mk (st := s_discriminant) l_discriminant c_discriminant k_discriminant, PySem.W.mg_of X G a_discriminant, (fun_mk (st := s_discriminant) l_discriminant c_discriminant k_discriminant).binds (ps := ["polynomial"]) fun _ _ _ _ _ _ us hl => match us, hl with | [_], _ => rfl⟩
    a_square_free := f_square_free
    fd_square_free := _
    d_square_free := ⟨fun_mk (st := s_square_free) l_square_free c_square_free k_square_free, PySem.W.mg_of X G a_square_free, (fun_mk (st := s_square_free) l_square_free c_square_free k_square_free).binds (ps := ["polynomial"]) fun _ _ _ _ _ _ us hl => match us, hl with | [_], _ => rfl⟩
    a_value_at := f_value_at
    fd_value_at := _
    d_value_at := ⟨fun_mk (st := s_value_at) l_value_at c_value_at k_value_at, PySem.W.mg_of X G a_value_at, (fun_mk (st := s_value_at) l_value_at c_value_at k_value_at).binds (ps := ["polynomial", "above", "below"]) fun _ _ _ _ _ _ us hl => match us, hl with | [_, _, _], _ => rfl⟩
    a_power_less_1 := f_power_less_1
    fd_power_less_1 := _
    d_power_less_1 := ⟨fun_mk (st := s_power_less_1) l_power_less_1 c_power_less_1 k_power_less_1, PySem.W.mg_of X G a_power_less_1, (fun_mk (st := s_power_less_1) l_power_less_1 c_power_less_1 k_power_less_1).binds (ps := ["power"]) fun _ _ _ _ _ _ us hl => match us, hl with | [_], _ => rfl⟩
    a_circle := f_circle
    fd_circle := _
    d_circle := ⟨fun_mk (st := s_circle) l_circle c_circle k_circle, PySem.W.mg_of X G a_circle, (fun_mk (st := s_circle) l_circle c_circle k_circle).binds (ps := ["place"]) fun _ _ _ _ _ _ us hl => match us, hl with | [_], _ => rfl⟩
    a_signed_divisors := f_signed_divisors
    fd_signed_divisors := _
    d_signed_divisors := ⟨fun_mk (st := s_signed_divisors) l_signed_divisors c_signed_divisors k_signed_divisors, PySem.W.mg_of X G a_signed_divisors, (fun_mk (st := s_signed_divisors) l_signed_divisors c_signed_divisors k_signed_divisors).binds (ps := ["number"]) fun _ _ _ _ _ _ us hl => match us, hl with | [_], _ => rfl⟩
    a_divides := f_divides
    fd_divides := _
    d_divides := ⟨fun_mk (st := s_divides) l_divides c_divides k_divides, PySem.W.mg_of X G a_divides, (fun_mk (st := s_divides) l_divides c_divides k_divides).binds (ps := ["part", "polynomial"]) fun _ _ _ _ _ _ us hl => match us, hl with | [_, _], _ => rfl⟩
    a_part_of_degree_1 := f_part_of_degree_1
    fd_part_of_degree_1 := _
    d_part_of_degree_1 := ⟨fun_mk (st := s_part_of_degree_1) l_part_of_degree_1 c_part_of_degree_1 k_part_of_degree_1, PySem.W.mg_of X G a_part_of_degree_1, (fun_mk (st := s_part_of_degree_1) l_part_of_degree_1 c_part_of_degree_1 k_part_of_degree_1).binds (ps := ["polynomial"]) fun _ _ _ _ _ _ us hl => match us, hl with | [_], _ => rfl⟩
    a_part_of_degree_2 := f_part_of_degree_2
    fd_part_of_degree_2 := _
    d_part_of_degree_2 := ⟨fun_mk (st := s_part_of_degree_2) l_part_of_degree_2 c_part_of_degree_2 k_part_of_degree_2, PySem.W.mg_of X G a_part_of_degree_2, (fun_mk (st := s_part_of_degree_2) l_part_of_degree_2 c_part_of_degree_2 k_part_of_degree_2).binds (ps := ["polynomial"]) fun _ _ _ _ _ _ us hl => match us, hl with | [_], _ => rfl⟩
    a_lowest_part := f_lowest_part
    fd_lowest_part := _
    d_lowest_part := ⟨fun_mk (st := s_lowest_part) l_lowest_part c_lowest_part k_lowest_part, PySem.W.mg_of X G a_lowest_part, (fun_mk (st := s_lowest_part) l_lowest_part c_lowest_part k_lowest_part).binds (ps := ["polynomial"]) fun _ _ _ _ _ _ us hl => match us, hl with | [_], _ => rfl⟩
    a_all_parts := f_all_parts
    fd_all_parts := _
    d_all_parts := ⟨fun_mk (st := s_all_parts) l_all_parts c_all_parts k_all_parts, PySem.W.mg_of X G a_all_parts, (fun_mk (st := s_all_parts) l_all_parts c_all_parts k_all_parts).binds (ps := ["polynomial"]) fun _ _ _ _ _ _ us hl => match us, hl with | [_], _ => rfl⟩
    a_degree_and_numbers := f_degree_and_numbers
    fd_degree_and_numbers := _
    d_degree_and_numbers := ⟨fun_mk (st := s_degree_and_numbers) l_degree_and_numbers c_degree_and_numbers k_degree_and_numbers, PySem.W.mg_of X G a_degree_and_numbers, (fun_mk (st := s_degree_and_numbers) l_degree_and_numbers c_degree_and_numbers k_degree_and_numbers).binds (ps := ["part"]) fun _ _ _ _ _ _ us hl => match us, hl with | [_], _ => rfl⟩
    a_counted_parts := f_counted_parts
    fd_counted_parts := _
    d_counted_parts := ⟨fun_mk (st := s_counted_parts) l_counted_parts c_counted_parts k_counted_parts, PySem.W.mg_of X G a_counted_parts, (fun_mk (st := s_counted_parts) l_counted_parts c_counted_parts k_counted_parts).binds (ps := ["polynomial"]) fun _ _ _ _ _ _ us hl => match us, hl with | [_], _ => rfl⟩
    a_whole_number := f_whole_number
    fd_whole_number := _
    d_whole_number := ⟨fun_mk (st := s_whole_number) l_whole_number c_whole_number k_whole_number, PySem.W.mg_of X G a_whole_number, (fun_mk (st := s_whole_number) l_whole_number c_whole_number k_whole_number).binds (ps := ["polynomial"]) fun _ _ _ _ _ _ us hl => match us, hl with | [_], _ => rfl⟩
    a_is_irreducible := f_is_irreducible
    fd_is_irreducible := _
    d_is_irreducible := ⟨fun_mk (st := s_is_irreducible) l_is_irreducible c_is_irreducible k_is_irreducible, PySem.W.mg_of X G a_is_irreducible, (fun_mk (st := s_is_irreducible) l_is_irreducible c_is_irreducible k_is_irreducible).binds (ps := ["polynomial"]) fun _ _ _ _ _ _ us hl => match us, hl with | [_], _ => rfl⟩
    a_rational_roots := f_rational_roots
    fd_rational_roots := _
    d_rational_roots := ⟨fun_mk (st := s_rational_roots) l_rational_roots c_rational_roots k_rational_roots, PySem.W.mg_of X G a_rational_roots, (fun_mk (st := s_rational_roots) l_rational_roots c_rational_roots k_rational_roots).binds (ps := ["polynomial"]) fun _ _ _ _ _ _ us hl => match us, hl with | [_], _ => rfl⟩
    a_number_handed := f_number_handed
    fd_number_handed := _
    d_number_handed := ⟨fun_mk (st := s_number_handed) l_number_handed c_number_handed k_number_handed, PySem.W.mg_of X G a_number_handed, (fun_mk (st := s_number_handed) l_number_handed c_number_handed k_number_handed).binds (ps := ["handed"]) fun _ _ _ _ _ _ us hl => match us, hl with | [_], _ => rfl⟩
    a_polynomial_handed := f_polynomial_handed
    fd_polynomial_handed := _
    d_polynomial_handed := ⟨fun_mk (st := s_polynomial_handed) l_polynomial_handed c_polynomial_handed k_polynomial_handed, PySem.W.mg_of X G a_polynomial_handed, (fun_mk (st := s_polynomial_handed) l_polynomial_handed c_polynomial_handed k_polynomial_handed).binds (ps := ["numbers"]) fun _ _ _ _ _ _ us hl => match us, hl with | [_], _ => rfl⟩
    a_may_be_taken := f_may_be_taken
    fd_may_be_taken := _
    d_may_be_taken := ⟨fun_mk (st := s_may_be_taken) l_may_be_taken c_may_be_taken k_may_be_taken, PySem.W.mg_of X G a_may_be_taken, (fun_mk (st := s_may_be_taken) l_may_be_taken c_may_be_taken k_may_be_taken).binds (ps := ["numbers"]) fun _ _ _ _ _ _ us hl => match us, hl with | [_], _ => rfl⟩
    a_shown := f_shown
    fd_shown := _
    d_shown := ⟨fun_mk (st := s_shown) l_shown c_shown k_shown, PySem.W.mg_of X G a_shown, (fun_mk (st := s_shown) l_shown c_shown k_shown).binds (ps := ["polynomial"]) fun _ _ _ _ _ _ us hl => match us, hl with | [_], _ => rfl⟩
    a_fractions_shown := f_fractions_shown
    fd_fractions_shown := _
    d_fractions_shown := ⟨fun_mk (st := s_fractions_shown) l_fractions_shown c_fractions_shown k_fractions_shown, PySem.W.mg_of X G a_fractions_shown, (fun_mk (st := s_fractions_shown) l_fractions_shown c_fractions_shown k_fractions_shown).binds (ps := ["numbers", "below"]) fun _ _ _ _ _ _ us hl => match us, hl with | [_, _], _ => rfl⟩
    a_answer_one := f_answer_one
    fd_answer_one := _
    d_answer_one := ⟨fun_mk (st := s_answer_one) l_answer_one c_answer_one k_answer_one, PySem.W.mg_of X G a_answer_one, (fun_mk (st := s_answer_one) l_answer_one c_answer_one k_answer_one).binds (ps := ["line", "numbers"]) fun _ _ _ _ _ _ us hl => match us, hl with | [_, _], _ => rfl⟩
    a_answer_two := f_answer_two
    fd_answer_two := _
    d_answer_two := ⟨fun_mk (st := s_answer_two) l_answer_two c_answer_two k_answer_two, PySem.W.mg_of X G a_answer_two, (fun_mk (st := s_answer_two) l_answer_two c_answer_two k_answer_two).binds (ps := ["line", "numbers"]) fun _ _ _ _ _ _ us hl => match us, hl with | [_, _], _ => rfl⟩
    a_answer_times := f_answer_times
    fd_answer_times := _
    d_answer_times := ⟨fun_mk (st := s_answer_times) l_answer_times c_answer_times k_answer_times, PySem.W.mg_of X G a_answer_times, (fun_mk (st := s_answer_times) l_answer_times c_answer_times k_answer_times).binds (ps := ["line"]) fun _ _ _ _ _ _ us hl => match us, hl with | [_], _ => rfl⟩
    a_answer_divide := f_answer_divide
    fd_answer_divide := _
    d_answer_divide := ⟨fun_mk (st := s_answer_divide) l_answer_divide c_answer_divide k_answer_divide, PySem.W.mg_of X G a_answer_divide, (fun_mk (st := s_answer_divide) l_answer_divide c_answer_divide k_answer_divide).binds (ps := ["line"]) fun _ _ _ _ _ _ us hl => match us, hl with | [_], _ => rfl⟩
    a_answer_common := f_answer_common
    fd_answer_common := _
    d_answer_common := ⟨fun_mk (st := s_answer_common) l_answer_common c_answer_common k_answer_common, PySem.W.mg_of X G a_answer_common, (fun_mk (st := s_answer_common) l_answer_common c_answer_common k_answer_common).binds (ps := ["line"]) fun _ _ _ _ _ _ us hl => match us, hl with | [_], _ => rfl⟩
    a_answer_resultant := f_answer_resultant
    fd_answer_resultant := _
    d_answer_resultant := ⟨fun_mk (st := s_answer_resultant) l_answer_resultant c_answer_resultant k_answer_resultant, PySem.W.mg_of X G a_answer_resultant, (fun_mk (st := s_answer_resultant) l_answer_resultant c_answer_resultant k_answer_resultant).binds (ps := ["line"]) fun _ _ _ _ _ _ us hl => match us, hl with | [_], _ => rfl⟩
    a_answer_disc := f_answer_disc
    fd_answer_disc := _
    d_answer_disc := ⟨fun_mk (st := s_answer_disc) l_answer_disc c_answer_disc k_answer_disc, PySem.W.mg_of X G a_answer_disc, (fun_mk (st := s_answer_disc) l_answer_disc c_answer_disc k_answer_disc).binds (ps := ["line"]) fun _ _ _ _ _ _ us hl => match us, hl with | [_], _ => rfl⟩
    a_may_be_taken_apart := f_may_be_taken_apart
    fd_may_be_taken_apart := _
    d_may_be_taken_apart := ⟨fun_mk (st := s_may_be_taken_apart) l_may_be_taken_apart c_may_be_taken_apart k_may_be_taken_apart, PySem.W.mg_of X G a_may_be_taken_apart, (fun_mk (st := s_may_be_taken_apart) l_may_be_taken_apart c_may_be_taken_apart k_may_be_taken_apart).binds (ps := ["polynomial"]) fun _ _ _ _ _ _ us hl => match us, hl with | [_], _ => rfl⟩
    a_answer_apart := f_answer_apart
    fd_answer_apart := _
    d_answer_apart := ⟨fun_mk (st := s_answer_apart) l_answer_apart c_answer_apart k_answer_apart, PySem.W.mg_of X G a_answer_apart, (fun_mk (st := s_answer_apart) l_answer_apart c_answer_apart k_answer_apart).binds (ps := ["line"]) fun _ _ _ _ _ _ us hl => match us, hl with | [_], _ => rfl⟩
    a_answer_irreducible := f_answer_irreducible
    fd_answer_irreducible := _
    d_answer_irreducible := ⟨fun_mk (st := s_answer_irreducible) l_answer_irreducible c_answer_irreducible k_answer_irreducible, PySem.W.mg_of X G a_answer_irreducible, (fun_mk (st := s_answer_irreducible) l_answer_irreducible c_answer_irreducible k_answer_irreducible).binds (ps := ["line"]) fun _ _ _ _ _ _ us hl => match us, hl with | [_], _ => rfl⟩
    a_answer_rationals := f_answer_rationals
    fd_answer_rationals := _
    d_answer_rationals := ⟨fun_mk (st := s_answer_rationals) l_answer_rationals c_answer_rationals k_answer_rationals, PySem.W.mg_of X G a_answer_rationals, (fun_mk (st := s_answer_rationals) l_answer_rationals c_answer_rationals k_answer_rationals).binds (ps := ["line"]) fun _ _ _ _ _ _ us hl => match us, hl with | [_], _ => rfl⟩
    a_answer_squarefree := f_answer_squarefree
    fd_answer_squarefree := _
    d_answer_squarefree := ⟨fun_mk (st := s_answer_squarefree) l_answer_squarefree c_answer_squarefree k_answer_squarefree, PySem.W.mg_of X G a_answer_squarefree, (fun_mk (st := s_answer_squarefree) l_answer_squarefree c_answer_squarefree k_answer_squarefree).binds (ps := ["line"]) fun _ _ _ _ _ _ us hl => match us, hl with | [_], _ => rfl⟩
    a_answer_circle := f_answer_circle
    fd_answer_circle := _
    d_answer_circle := ⟨fun_mk (st := s_answer_circle) l_answer_circle c_answer_circle k_answer_circle, PySem.W.mg_of X G a_answer_circle, (fun_mk (st := s_answer_circle) l_answer_circle c_answer_circle k_answer_circle).binds (ps := ["line", "place"]) fun _ _ _ _ _ _ us hl => match us, hl with | [_, _], _ => rfl⟩
    a_answer_value := f_answer_value
    fd_answer_value := _
    d_answer_value := ⟨fun_mk (st := s_answer_value) l_answer_value c_answer_value k_answer_value, PySem.W.mg_of X G a_answer_value, (fun_mk (st := s_answer_value) l_answer_value c_answer_value k_answer_value).binds (ps := ["line", "handed", "below"]) fun _ _ _ _ _ _ us hl => match us, hl with | [_, _, _], _ => rfl⟩
    a_answer_swap := f_answer_swap
    fd_answer_swap := _
    d_answer_swap := ⟨fun_mk (st := s_answer_swap) l_answer_swap c_answer_swap k_answer_swap, PySem.W.mg_of X G a_answer_swap, (fun_mk (st := s_answer_swap) l_answer_swap c_answer_swap k_answer_swap).binds (ps := ["line"]) fun _ _ _ _ _ _ us hl => match us, hl with | [_], _ => rfl⟩
    a_call_end := f_call_end
    fd_call_end := _
    d_call_end := ⟨fun_mk (st := s_call_end) l_call_end c_call_end k_call_end, PySem.W.mg_of X G a_call_end, (fun_mk (st := s_call_end) l_call_end c_call_end k_call_end).binds (ps := ["calls", "place"]) fun _ _ _ _ _ _ us hl => match us, hl with | [_, _], _ => rfl⟩
    a_answer_call := f_answer_call
    fd_answer_call := _
    d_answer_call := ⟨fun_mk (st := s_answer_call) l_answer_call c_answer_call k_answer_call, PySem.W.mg_of X G a_answer_call, (fun_mk (st := s_answer_call) l_answer_call c_answer_call k_answer_call).binds (ps := ["line", "call"]) fun _ _ _ _ _ _ us hl => match us, hl with | [_, _], _ => rfl⟩
    a_answers := fa
    fd_answers := _
    d_answers := ⟨fun_mk (st := s_answers) l_answers c_answers k_answers, PySem.W.mg_of X G a_answers, (fun_mk (st := s_answers) l_answers c_answers k_answers).binds (ps := ["calls"]) fun _ _ _ _ _ _ us hl => match us, hl with | [_], _ => rfl⟩
    co_rational_roots := co_rational_roots
    ta_rational_roots := ta_rational_roots
    cc_rational_roots := cc_rational_roots
    hd_rational_roots := codeHd_by lc_rational_roots ix_rational_roots cv_rational_roots ne_rational_roots
    m_abs := PySem.W.mg_none_of X G m_abs
    m_enumerate := PySem.W.mg_none_of X G m_enumerate
    m_len := PySem.W.mg_none_of X G m_len
    m_list := PySem.W.mg_none_of X G m_list
    m_max := PySem.W.mg_none_of X G m_max
    m_range := PySem.W.mg_none_of X G m_range
    m_reversed := PySem.W.mg_none_of X G m_reversed
    m_sorted := PySem.W.mg_none_of X G m_sorted
    m_sum := PySem.W.mg_none_of X G m_sum
    m_zip := PySem.W.mg_none_of X G m_zip
    a_Line := C_Line
    f_Line := f_Line
    fd_Line := _
    F_Line := fun_mk (st := s_Line___init__) l_Line c_Line k_Line
    mk_Line := ⟨mk_Line, a_Line, i_Line, kc_Line⟩
    b_Line := (fun_mk (st := s_Line___init__) l_Line c_Line k_Line).binds (ps := ["self"]) fun _ _ _ _ _ _ us hl => match us, hl with | [_], _ => rfl
    g_Line := PySem.W.mg_of X G g_Line
    o_Line := ⟨⟨pg_Line, hd_Line, po_Line, sa_Line⟩, n1_Line, n2_Line⟩
    t_CALL_ONE := t_CALL_ONE
    c_CALL_ONE := PySem.W.mg_of X G v_CALL_ONE
    t_CALL_TWO := t_CALL_TWO
    c_CALL_TWO := PySem.W.mg_of X G v_CALL_TWO
    t_CALL_CIRCLE := t_CALL_CIRCLE
    c_CALL_CIRCLE := PySem.W.mg_of X G v_CALL_CIRCLE
    t_CALL_VALUE := t_CALL_VALUE
    c_CALL_VALUE := PySem.W.mg_of X G v_CALL_VALUE
    t_REFUSED_NUMBERS := t_REFUSED_NUMBERS
    c_REFUSED_NUMBERS := PySem.W.mg_of X G v_REFUSED_NUMBERS
    t_REFUSED_DEGREE := t_REFUSED_DEGREE
    c_REFUSED_DEGREE := PySem.W.mg_of X G v_REFUSED_DEGREE
    t_REFUSED_POLYNOMIAL := t_REFUSED_POLYNOMIAL
    c_REFUSED_POLYNOMIAL := PySem.W.mg_of X G v_REFUSED_POLYNOMIAL
    t_REFUSED_ZERO := t_REFUSED_ZERO
    c_REFUSED_ZERO := PySem.W.mg_of X G v_REFUSED_ZERO
    t_MOST_NUMBERS := t_MOST_NUMBERS
    c_MOST_NUMBERS := PySem.W.mg_of X G v_MOST_NUMBERS
    t_HIGHEST_HANDED := t_HIGHEST_HANDED
    c_HIGHEST_HANDED := PySem.W.mg_of X G v_HIGHEST_HANDED
    t_HIGHEST_DEGREE := t_HIGHEST_DEGREE
    c_HIGHEST_DEGREE := PySem.W.mg_of X G v_HIGHEST_DEGREE
    t_HIGHEST_CIRCLE := t_HIGHEST_CIRCLE
    c_HIGHEST_CIRCLE := PySem.W.mg_of X G v_HIGHEST_CIRCLE
    t_LARGEST_TAKEN_APART := t_LARGEST_TAKEN_APART
    c_LARGEST_TAKEN_APART := PySem.W.mg_of X G v_LARGEST_TAKEN_APART
    d_PLAIN_CALLS := d_PLAIN_CALLS
    es_PLAIN_CALLS := es_PLAIN_CALLS
    n_PLAIN_CALLS := n_PLAIN_CALLS
    k_PLAIN_CALLS := ⟨l_PLAIN_CALLS, e_PLAIN_CALLS⟩
    g_PLAIN_CALLS := PySem.W.mg_of X G g_PLAIN_CALLS
    nd_PLAIN_CALLS := nd_PLAIN_CALLS
    x_PLAIN_CALLS_2 := x_PLAIN_CALLS_2
    x_PLAIN_CALLS_3 := x_PLAIN_CALLS_3
    x_PLAIN_CALLS_4 := x_PLAIN_CALLS_4
    x_PLAIN_CALLS_5 := x_PLAIN_CALLS_5
    x_PLAIN_CALLS_6 := x_PLAIN_CALLS_6
    x_PLAIN_CALLS_7 := x_PLAIN_CALLS_7
    x_PLAIN_CALLS_8 := x_PLAIN_CALLS_8
    x_PLAIN_CALLS_9 := x_PLAIN_CALLS_9
    x_PLAIN_CALLS_10 := x_PLAIN_CALLS_10
    x_PLAIN_CALLS_13 := x_PLAIN_CALLS_13 }, rfl, nl_rational_roots⟩
end Py
/-! The end of a row told by a specification, where one def's code object has a table that may grow. -/
namespace Py
open PySem PySem.Spec PyProof.Rows L2
open Evl (Ex)
open PySem.W (WData Codec OpenSpec WellAll ReadsW)
mutual
theorem dw_ext {K : PySem.W.Frag} {H H' : Hp} (e : Ex H H') : ∀ {v : V} {d : WData}, Dw K H v d → Dw K H' v d
  | _, _, .non => .non
  | _, _, .bl b => .bl b
  | _, _, .int i => .int i
  | _, _, .str x => .str x
  | _, _, .byt b => .byt b
  | _, _, .lst hs ha => .lst (Evl.ex_l e hs) (dws_ext e ha)
  | _, _, .tup hs ha => .tup (Evl.ex_t e hs) (dws_ext e ha)
theorem dws_ext {K : PySem.W.Frag} {H H' : Hp} (e : Ex H H') : ∀ {vs : List V} {ds : List WData}, DwAll K H vs ds → DwAll K H' vs ds
  | _, _, .nil => .nil
  | _, _, .cons a b => .cons (dw_ext e a) (dws_ext e b)
end
/-- what is tracked at the beginning: what is handed in, and the table -/
def OnlyT (H : Hp) (P : Addr) : Prop := H P = some (.tbl #[]) ∧ ∀ b, b ≠ P → H b = none ∨ ∃ o u, H b = some (.frz o u)
theorem OnlyT.fx {H : Hp} {P : Addr} (h : OnlyT H P) : Fx H H := fun a o e => by
  by_cases c : a = P
  · subst c
    rw [h.1] at e
    cases e
    exact LamX.TabS.nil h.1
  · rcases h.2 a c with z | ⟨ob, u, z⟩
    · rw [z] at e; cases e
    · rw [z] at e; cases e; exact z
section
variable {Pg : Program} {w : World} {K : PySem.W.Frag} {mg mb : Str → Option Value} {CX : CXT} {k : Nat} {fa c P : Addr} {fd : FuncData} {ps : List Str} {sp : Sp} {s1 : Shared} {vals : List Value} {ds : List WData} {R : PySem.W.WRecords} {cl : Str → Option Addr} {d0 : WData}
theorem spec_callT (KX : K.In s1.heap) (hns : s1.heap.Ns mainGlobals mg) (hb : s1.heap.Ns builtinsNs mb) (hbb : ∀ x : Str, x ≠ "__name__" → mb x = bootBuiltins x) (hlim : s1.heap.NoLimit) (hg : s1.gens = #[])
    (hT : s1.heap.get? P = some { cls := .none, data := .fields #[] }) (nT : K.lookup P = none) (CH : PySem.W.CodeHd s1.heap c P) (ck : (K.lookup c).isSome = true)
    (hbm : ∃ (bm : Addr) (ob : Obj), mg "__builtins__" = some (.ref bm) ∧ bm ≠ builtinsNs ∧ s1.heap.get? bm = some ob ∧ ob.cls = .type "module" ∧ ob.dict = some builtinsNs ∧ ob.data = .plain)
    (hwl : WellAll w.params s1.heap vals ds) (hpl : plWs ds = true) (hwt : ∀ d ∈ ds, d.weight ≤ 1048576) (hr : Room k callerA)
    (FF : ∀ base : Heap, K.In base → base.Ns mainGlobals mg → LamX.TabB base mg c P → FnOk Pg w K mg base CX k fa fd ps sp) (hbind : ∀ (s : Shared) (us : List Value), us.length = ps.length → BindsTo s fd ⟨us, []⟩ (ps.zip us)) (hlen : ds.length = ps.length)
    (hsp : ∀ (H : Hp) (xs : List V), OnlyT H P → DwAll K H xs ds → sp xs H (fun v H' => Dw K H' v d0) fun _ _ _ => False) (hCX : ∀ H e s', CX [] H s1 (fun _ _ _ => False) e s' → False) :
    codeAny (model Pg w) callerA (.call (.ref fa) ⟨vals, []⟩) (fun r s' => ∃ u as, r = .ok (.ret u) ∧ ReadsW R cl s'.heap u d0 as ∧ OldK s1.heap s'.heap ∧ s'.os = s1.os ∧ AllBare s'.gens) s1 := by
  obtain ⟨A, ho, ar⟩ := area_all ds vals hwl hpl hwt
  have PA : P ∉ A := fun z => by
    obtain ⟨vs, _, _, q | q⟩ := ar P z
    · rw [hT] at q; cases q
    · rw [hT] at q; cases q
  have gP : argH K s1.heap A P = none := by
    unfold argH
    rw [if_neg PA]
  have hO1 := argH_only (K := K) ar
  have hok1 : HOk Pg w (argH K s1.heap A) s1.heap := argH_ok ar
  have hS1 := dw_all KX ar ds vals hwl hpl ho
  have hV := vals_toV ho
  have hK1 : ∀ b u, argH K s1.heap A b = some u → K.lookup b = none := fun b u q => (argH_is ar q).1
  have seq1 : ∀ b u, argH K s1.heap A b = some u → ∃ (cv : Value) (vs : List Value), s1.heap.get? b = some { cls := cv, data := .seq vs.toArray } := fun b u q => by
    obtain ⟨_, vs, _, _, z | z⟩ := argH_is ar q
    · exact ⟨_, vs, z.1⟩
    · exact ⟨_, vs, z.1⟩
  generalize argH K s1.heap A = G at gP hO1 hok1 hS1 hK1 seq1
  have eG : Ex G (upd G P (.tbl #[])) := Ex.new gP
  have hO : OnlyT (upd G P (.tbl #[])) P := ⟨upd_same, fun b hb => by rw [upd_ne hb]; exact hO1 b⟩
  have hok : HOk Pg w (upd G P (.tbl #[])) s1.heap := fun b u q => by
    by_cases z : b = P
    · subst z
      rw [upd_same] at q
      cases q
      exact hT
    · rw [upd_ne z] at q
      exact (hok1 b u q).stay (fun _ _ _ x => x) (fun d x => eG _ _ x) (fun d xs x => eG _ _ x)
  have hS := dws_ext (K := K) eG hS1
  have hK : ∀ b u, upd G P (.tbl #[]) b = some u → K.lookup b = none := fun b u q => by
    by_cases z : b = P
    · rw [z]; exact nT
    · rw [upd_ne z] at q; exact hK1 b u q
  -- what is of another make than a list, a tuple or an empty table is not tracked
  have out : ∀ {b : Addr} {o : Obj}, s1.heap.get? b = some o → (∀ vs n, o.data ≠ .seq vs n) → o.data ≠ .fields #[] → upd G P (.tbl #[]) b = none := fun {b o} e h1 h2 => by
    cases q : upd G P (.tbl #[]) b with
    | none => rfl
    | some u =>
      exfalso
      by_cases z : b = P
      · rw [z, hT] at e
        cases e
        exact h2 rfl
      · rw [upd_ne z] at q
        obtain ⟨cv, vs, e2⟩ := seq1 b u q
        rw [e2] at e
        cases e
        exact h1 _ _ rfl
  generalize upd G P (.tbl #[]) = H at eG hO hok hS hK out
  have same : ∀ {b : Addr} {o : Obj}, s1.heap.get? b = some o → H b = none → (hidT s1.heap H).get? b = some o := fun x n => hidT_get x n
  have nsK : ∀ {b : Addr} {m : Str → Option Value}, s1.heap.Ns b m → (hidT s1.heap H).Ns b m := fun {b m} ⟨o, es, ep, x, d, r⟩ =>
    ⟨o, es, ep, same x (out x (fun vs n z => by rw [d] at z; cases z) fun z => by rw [d] at z; cases z), d, r⟩
  have hKb : K.In (hidT s1.heap H) := fun b o x => same (KX b o x) (by
    cases q : H b with
    | none => rfl
    | some u => rw [hK b u q] at x; cases x)
  have hM : L2.Mod K mg (hidT s1.heap H) := ⟨hKb, nsK hns, ⟨mb, nsK hb, hbb⟩, let ⟨mc, h1, h2⟩ := hlim; ⟨mc, nsK h1, h2⟩⟩
  have nG : mainGlobals ≠ P := fun z => by
    obtain ⟨o, es, ep, x, hd, _⟩ := hns
    rw [z, hT] at x
    cases x
    cases hd
  have TB : LamX.TabB (hidT s1.heap H) mg c P := by
    refine ⟨?_, ?_, nG⟩
    · obtain ⟨oc, hoc⟩ := Option.isSome_iff_exists.mp ck
      have hc := hKb _ _ hoc
      have hc1 := KX _ _ hoc
      obtain ⟨o, us, r⟩ := CH
      obtain ⟨fl, tf, flg, tg, inF, tx, tt, x1, r⟩ := r
      rw [hc1] at x1
      cases x1
      exact ⟨_, us, fl, tf, flg, tg, inF, tx, tt, hc, r⟩
    · obtain ⟨bm, ob, b1, b2, b3, b4, b5, b6⟩ := hbm
      refine ⟨bm, ob, b1, b2, fun q => ?_, fun q => ?_, same b3 (out b3 (fun vs n z => by rw [b6] at z; cases z) fun z => by rw [b6] at z; cases z), b4, b5, b6⟩
      · obtain ⟨o, es, ep, x, hd, _⟩ := hns
        rw [q, x] at b3
        cases b3
        rw [hd] at b6
        cases b6
      · rw [q, hT] at b3
        cases b3
        cases b6
  have e0 : Env0 Pg w K mg (hidT s1.heap H) callerA [] s1 H := ⟨rfl, hM, fun b o x => of_hidT x, Nat.le_of_eq (hidT_size _ _), trivial, fun b z => absurd (show b ∈ ([] : List Addr) from z) (by simp), hok, .of_eq hg⟩
  have hl : vals.length = ps.length := (wellAll_len hwl).trans hlen
  refine codeAny_mono ((FF _ hKb (nsK hns) TB).run callerA [] s1 H ⟨vals, []⟩ vals (vals.map toV) _ _ hr e0 (hbind s1 vals hl) hV (hsp H _ hO hS)) fun r s' x => ?_
  match r, x with
  | .error e, x => exact (hCX H e s' x).elim
  | .ok .next, x => exact False.elim x
  | .ok .brk, x => exact False.elim x
  | .ok .cont, x => exact False.elim x
  | .ok (.ret u), x =>
    obtain ⟨v, H', os, bare, un, hok', r', q⟩ := x
    have kept : ∀ b o, b ≠ P → s1.heap.get? b = some o → s'.heap.get? b = some o := fun b o nb x => by
      rcases hO.2 b nb with z | ⟨ob, u3, z⟩
      · exact un.keep b o x z (fun y => absurd (show b ∈ ([] : List Addr) from y) (by simp)) (by simp)
      · obtain ⟨e1, _⟩ := hok b _ z
        obtain ⟨e2, _⟩ := hok' b _ (un.frzs b ob _ z)
        rw [x] at e1
        cases e1
        exact e2
    obtain ⟨more, tb⟩ := un.tbls P #[] hO.1
    have tb2 : s'.heap.get? P = some { cls := .none, data := .fields (#[] ++ more) } := hok' P _ tb
    have KX' : K.In s'.heap := fun b o x => kept b o (fun z => by rw [z, nT] at x; cases x) (KX b o x)
    obtain ⟨as, hrd⟩ := Dw.reads (R := R) (cl := cl) hok' KX' d0 v u q r'
    refine ⟨u, as, rfl, hrd, ⟨fun b o x => ?_, fun b o x => ?_⟩, os, bare⟩
    · by_cases z : b = P
      · rw [z] at x ⊢
        rw [hT] at x
        cases x
        exact .inr (.inl ⟨(CH.tab hT).isCodeTable, rfl, #[], more, rfl, tb2⟩)
      · exact .inl (kept b o z x)
    · by_cases z : b = P
      · rw [z]; exact ⟨_, tb2⟩
      · exact ⟨o, kept b o z x⟩
end
/-- the row's end: the table is that of the def called nm -/
theorem walk_specT {r : OpenSpec} {k : Nat} {q : Program} {loose : List Str} {XP : (Str → Option Value) → Heap → Prop} {YP : World → Heap → Prop} {d : DefRec} {K : Params → PySem.W.Frag} {CX : CXT} {ps : List Str} {nm : Str}
    (hwell : r.wellSaid = true) (hdf : d.params.defaults = []) (hlen : r.args.length = ps.length) (hr : Room k callerA) (hrec : ((recsOf q).any fun e => e.name == nm) = true) (hY : ∀ (w : World) (h : Heap), YP w h → (K w.params).In h)
    (FF : ∀ (w : World) (mg : Str → Option Value) (fa : Addr) (h : Heap), YP w h → (K w.params).In h → h.Ns mainGlobals mg → mg d.name = some (.ref fa) →
      ∃ (fd fR : FuncData) (aR c P : Addr) (oR : Obj) (sp : Sp), mg nm = some (.ref aR) ∧ (K w.params).lookup aR = some oR ∧ oR.data = .func fR ∧ fR.code = .ref c ∧ PySem.W.codeHdIn (K w.params) c P = true ∧ (K w.params).lookup P = none ∧
        (∀ (s : Shared) (us : List Value), us.length = ps.length → BindsTo s fd ⟨us, []⟩ (ps.zip us)) ∧
        (∀ base : Heap, (K w.params).In base → base.Ns mainGlobals mg → LamX.TabB base mg c P → FnOk r.prog w (K w.params) mg base CX k fa fd ps sp) ∧
        ∀ (H : Hp) (xs : List V) (a : Codec.denoteAll r.args), OnlyT H P → Codec.withinAll r.args a = true → Codec.app r.args r.asked a = true → DwAll (K w.params) H xs (Codec.encAll r.args a) →
          sp xs H (fun v H' => Dw (K w.params) H' v (r.ret.enc (Codec.app r.args r.f a))) fun _ _ _ => False)
    (hCX : ∀ (H : Hp) (s : Shared) (e : Value) (s' : Shared), CX [] H s (fun _ _ _ => False) e s' → False) :
    PySem.W.WalkOS q loose XP YP r d [] (fun f vs => PySem.call f vs) := by
  intro w s₀ s₁ mg mb G Y fa o pm cd doc dV kV ho hd hcd hD hmg hg args vals as hpre hlay hrd hwl hlo
  obtain ⟨a, e1, e2⟩ := PySem.W.os_pre_some hpre
  obtain ⟨e3, hwi⟩ := Codec.encAll_of_decAll r.args args a e1
  subst e3
  have KX := hY w _ Y
  obtain ⟨fd, fR, aR, c, P, oR, sp, m1, m2, m3, m4, m5, m6, hb, hF, hsp⟩ := FF w mg fa _ Y KX G.T.g hmg
  have CH := PySem.W.codeHd_of_K KX m5
  have ck : ((K w.params).lookup c).isSome = true := by
    unfold PySem.W.codeHdIn at m5
    cases z : (K w.params).lookup c with
    | none => rw [z] at m5; cases m5
    | some _ => rfl
  have hT : s₁.heap.get? P = some { cls := .none, data := .fields #[] } := by
    obtain ⟨dL, hm, hn1⟩ := List.any_eq_true.mp hrec
    have hn2 : dL.name = nm := beq_iff_eq.mp hn1
    obtain ⟨a', o', fd', c', P', h1, h2, h3, h4, h5, h6⟩ := G.T.tab dL hm
    rw [hn2, m1] at h1
    cases h1
    rw [KX _ _ m2] at h2
    cases h2
    rw [m3] at h3
    cases h3
    rw [m4] at h4
    cases h4
    obtain ⟨⟨oc, vc, y1, _, y3, y4⟩, hP⟩ := h6
    obtain ⟨ox, us, fl, tf, flg, tg, inF, tx, tt, x1, x2, x3, x4, x5, x6⟩ := CH
    rw [x1] at y1
    cases y1
    rw [x3] at y3
    cases y3
    rw [x4] at y4
    cases y4
    exact hP
  refine PySem.W.enter_call (codeAny_mono (spec_callT (R := []) (cl := classAt s₀.heap) (d0 := r.ret.enc (Codec.app r.args r.f a)) KX G.T.g G.T.b G.T.builtins G.T.nolimit hg hT m6 CH ck G.T.bmain hwl (pl_encAll _ _) (layable_weight hlay) hr hF hb (by rw [encAll_len]; exact hlen)
    (fun H xs hO hS => hsp H xs a hO hwi e2 hS) fun H e s' => hCX H s₁ e s') fun r' s' hq => ?_)
  obtain ⟨u, as', rfl, h1, h2, h3, h4⟩ := hq
  exact ⟨.inl ⟨u, _, as', rfl, fun _ => rfl, h1, (OpenSpec.post_iff hwell hwi _ _).mpr rfl, fun z => Bool.noConfusion (show false = true from z)⟩, h2, h3, h4⟩
end Py
namespace Py
open PySem PySem.Spec PyProof.Rows L2
/-- answers' promise for the row -/
def spAns (K : PySem.W.Frag) (P0 : Addr) : Sp := fun vs H Q _ => ∃ (a : Addr) (ns : List Int), vs = [.ref a] ∧ OnlyT H P0 ∧ SqL K H a (ns.map V.int) ∧ PyNa05.answers_asked ns = true ∧ ∀ (H' : Hp) (p : Addr), H' p = some (.lst ((PyNa05.answers ns).map V.int)) → Q (.ref p) H'
theorem ok_row {P : Program} {w : World} {K : PySem.W.Frag} {mg : Str → Option Value} {base : Heap} (T : Txt K mg) (TB : LamX.TabB base mg T.co_rational_roots T.ta_rational_roots) : FnOk P w K mg base CX0 22 T.a_answers T.fd_answers ["calls"] (spAns K T.ta_rational_roots) :=
  (ok_answers T (ok_answer_call T TB)).imp fun vs H Q E ⟨a, ns, e, hO, hs, hask, q⟩ => by
    subst e
    refine ⟨H, [sq K T.cl.2 ns], _, hO.fx, IsVs.cons (sq_mk hs hO.1) IsVs.nil, ⟨ns, rfl, hask, rfl⟩, fun v F' H' g hv => ?_⟩
    obtain ⟨p, vs, rfl, h1, h2⟩ := hv
    rw [(isVs_ints _ _).mp h2] at h1
    exact q H' p (g.fh _ _ h1)
theorem all_mk {P : Program} {w : World} {K : PySem.W.Frag} {mg : Str → Option Value} {fa : Addr} (h : ∃ T : Txt K mg, T.a_answers = fa ∧ K.lookup T.ta_rational_roots = none) :
    ∃ (fd fR : FuncData) (aR c P0 : Addr) (oR : Obj) (sp : Sp), mg "rational_roots" = some (.ref aR) ∧ K.lookup aR = some oR ∧ oR.data = .func fR ∧ fR.code = .ref c ∧ PySem.W.codeHdIn K c P0 = true ∧ K.lookup P0 = none ∧
      (∀ (s : Shared) (us : List Value), us.length = (["calls"] : List Str).length → BindsTo s fd ⟨us, []⟩ ((["calls"] : List Str).zip us)) ∧ (∀ base : Heap, K.In base → base.Ns mainGlobals mg → LamX.TabB base mg c P0 → FnOk P w K mg base CX0 22 fa fd ["calls"] sp) ∧ sp = spAns K P0 := by
  obtain ⟨T, rfl, hn⟩ := h
  obtain ⟨oc, od, kV, doc, pm, an, cdv, ct, osl, hfd, hlk, _⟩ := T.d_rational_roots.F.ex
  refine ⟨T.fd_answers, T.fd_rational_roots, T.a_rational_roots, T.co_rational_roots, T.ta_rational_roots, _, _, T.d_rational_roots.g, hlk, rfl, T.cc_rational_roots, T.hd_rational_roots, hn, fun s us hu => ?_, fun base _ _ TB => ok_row T TB, rfl⟩
  obtain ⟨oc, od, kV, doc, pm, an, cdv, ct, osl, hfd, _, _⟩ := T.d_answers.F.ex
  rw [hfd]
  match us, hu with
  | [_], _ => exact .of_eq rfl
end Py
open PySem PySem.W PyProof.Rows
set_option maxRecDepth 100000 in
set_option maxHeartbeats 8000000 in
theorem PySem.Challenge.cw_apartpolynomials_s01_answers_holds : PySem.Challenge.rw_apartpolynomials_s01_answers.Holds := by
  w_on; k_headS; (case hw => exact ⟨[.list [.int 2]], by decide +kernel, by decide +kernel⟩)
  k_fillS
  refine Py.walk_specT (r := PySem.Challenge.rw_apartpolynomials_s01_answers) (k := 22) (CX := L2.CX0) (ps := ["calls"]) (nm := "rational_roots") (by decide +kernel) rfl rfl ⟨rfl, by decide, by decide⟩ (by decide +kernel) (fun w h Y => PySem.W.kIn_of Y) ?F (fun _ _ _ _ z => z)
  case F =>
    intro w mg fa h Y KX G hmg
    suffices hh : _ by
      obtain ⟨fd, fR, aR, c, P0, oR, sp, m1, m2, m3, m4, m5, m6, m7, m8, m9⟩ := Py.all_mk hh
      refine ⟨fd, fR, aR, c, P0, oR, sp, m1, m2, m3, m4, m5, m6, m7, m8, fun H xs a hO hwi hask hx => ?_⟩
      subst m9
      cases hx with
      | cons h1 h2 =>
        cases h2
        cases h1 with
        | lst hs ha =>
          have e := L2.ints_dw a.1 _ ha
          subst e
          exact ⟨_, a.1, rfl, hO, hs, hask, fun H' p hp => .lst (L2.SqL.of hp) (L2.dw_ints _)⟩
    refine' Py.txt_mk KX G hmg ?a_wlz ?l_wlz ?c_wlz ?k_wlz ?a_isz ?l_isz ?c_isz ?k_isz ?a_deg ?l_deg ?c_deg ?k_deg ?a_product ?l_product ?c_product ?k_product ?a_gd ?l_gd ?c_gd ?k_gd ?a_divisors ?l_divisors ?c_divisors ?k_divisors ?a_low ?l_low ?c_low ?k_low ?a_bare ?l_bare ?c_bare ?k_bare ?a_less_multiple ?l_less_multiple ?c_less_multiple ?k_less_multiple ?a_divided ?l_divided ?c_divided ?k_divided ?a_greatest_common ?l_greatest_common ?c_greatest_common ?k_greatest_common ?a_find_row ?l_find_row ?c_find_row ?k_find_row ?a_cleared_row ?l_cleared_row ?c_cleared_row ?k_cleared_row ?a_determinant ?l_determinant ?c_determinant ?k_determinant ?a_shifted_rows ?l_shifted_rows ?c_shifted_rows ?k_shifted_rows ?a_resultant ?l_resultant ?c_resultant ?k_resultant ?a_slope ?l_slope ?c_slope ?k_slope ?a_discriminant ?l_discriminant ?c_discriminant ?k_discriminant ?a_square_free ?l_square_free ?c_square_free ?k_square_free ?a_value_at ?l_value_at ?c_value_at ?k_value_at ?a_power_less_1 ?l_power_less_1 ?c_power_less_1 ?k_power_less_1 ?a_circle ?l_circle ?c_circle ?k_circle ?a_signed_divisors ?l_signed_divisors ?c_signed_divisors ?k_signed_divisors ?a_divides ?l_divides ?c_divides ?k_divides ?a_part_of_degree_1 ?l_part_of_degree_1 ?c_part_of_degree_1 ?k_part_of_degree_1 ?a_part_of_degree_2 ?l_part_of_degree_2 ?c_part_of_degree_2 ?k_part_of_degree_2 ?a_lowest_part ?l_lowest_part ?c_lowest_part ?k_lowest_part ?a_all_parts ?l_all_parts ?c_all_parts ?k_all_parts ?a_degree_and_numbers ?l_degree_and_numbers ?c_degree_and_numbers ?k_degree_and_numbers ?a_counted_parts ?l_counted_parts ?c_counted_parts ?k_counted_parts ?a_whole_number ?l_whole_number ?c_whole_number ?k_whole_number ?a_is_irreducible ?l_is_irreducible ?c_is_irreducible ?k_is_irreducible ?a_rational_roots ?l_rational_roots ?c_rational_roots ?k_rational_roots ?a_number_handed ?l_number_handed ?c_number_handed ?k_number_handed ?a_polynomial_handed ?l_polynomial_handed ?c_polynomial_handed ?k_polynomial_handed ?a_may_be_taken ?l_may_be_taken ?c_may_be_taken ?k_may_be_taken ?a_shown ?l_shown ?c_shown ?k_shown ?a_fractions_shown ?l_fractions_shown ?c_fractions_shown ?k_fractions_shown ?a_answer_one ?l_answer_one ?c_answer_one ?k_answer_one ?a_answer_two ?l_answer_two ?c_answer_two ?k_answer_two ?a_answer_times ?l_answer_times ?c_answer_times ?k_answer_times ?a_answer_divide ?l_answer_divide ?c_answer_divide ?k_answer_divide ?a_answer_common ?l_answer_common ?c_answer_common ?k_answer_common ?a_answer_resultant ?l_answer_resultant ?c_answer_resultant ?k_answer_resultant ?a_answer_disc ?l_answer_disc ?c_answer_disc ?k_answer_disc ?a_may_be_taken_apart ?l_may_be_taken_apart ?c_may_be_taken_apart ?k_may_be_taken_apart ?a_answer_apart ?l_answer_apart ?c_answer_apart ?k_answer_apart ?a_answer_irreducible ?l_answer_irreducible ?c_answer_irreducible ?k_answer_irreducible ?a_answer_rationals ?l_answer_rationals ?c_answer_rationals ?k_answer_rationals ?a_answer_squarefree ?l_answer_squarefree ?c_answer_squarefree ?k_answer_squarefree ?a_answer_circle ?l_answer_circle ?c_answer_circle ?k_answer_circle ?a_answer_value ?l_answer_value ?c_answer_value ?k_answer_value ?a_answer_swap ?l_answer_swap ?c_answer_swap ?k_answer_swap ?a_call_end ?l_call_end ?c_call_end ?k_call_end ?a_answer_call ?l_answer_call ?c_answer_call ?k_answer_call ?a_answers ?l_answers ?c_answers ?k_answers ?g_Line ?a_Line ?i_Line ?l_Line ?c_Line ?k_Line ?pg_Line ?hd_Line ?po_Line ?sa_Line ?mk_Line ?kc_Line ?n1_Line ?n2_Line ?cc_rational_roots ?lc_rational_roots ?ix_rational_roots ?cv_rational_roots ?ne_rational_roots ?nl_rational_roots ?m_abs ?m_enumerate ?m_len ?m_list ?m_max ?m_range ?m_reversed ?m_sorted ?m_sum ?m_zip ?v_CALL_ONE ?v_CALL_TWO ?v_CALL_CIRCLE ?v_CALL_VALUE ?v_REFUSED_NUMBERS ?v_REFUSED_DEGREE ?v_REFUSED_POLYNOMIAL ?v_REFUSED_ZERO ?v_MOST_NUMBERS ?v_HIGHEST_HANDED ?v_HIGHEST_DEGREE ?v_HIGHEST_CIRCLE ?v_LARGEST_TAKEN_APART ?g_PLAIN_CALLS ?l_PLAIN_CALLS ?e_PLAIN_CALLS ?nd_PLAIN_CALLS ?x_PLAIN_CALLS_2 ?x_PLAIN_CALLS_3 ?x_PLAIN_CALLS_4 ?x_PLAIN_CALLS_5 ?x_PLAIN_CALLS_6 ?x_PLAIN_CALLS_7 ?x_PLAIN_CALLS_8 ?x_PLAIN_CALLS_9 ?x_PLAIN_CALLS_10 ?x_PLAIN_CALLS_13
    (case a_wlz => k_is); (case l_wlz => k_is); (case c_wlz => k_is); (case k_wlz => k_is); (case a_isz => k_is); (case l_isz => k_is)
    (case c_isz => k_is); (case k_isz => k_is); (case a_deg => k_is); (case l_deg => k_is); (case c_deg => k_is); (case k_deg => k_is)
    (case a_product => k_is); (case l_product => k_is); (case c_product => k_is); (case k_product => k_is); (case a_gd => k_is); (case l_gd => k_is)
    (case c_gd => k_is); (case k_gd => k_is); (case a_divisors => k_is); (case l_divisors => k_is); (case c_divisors => k_is); (case k_divisors => k_is)
    (case a_low => k_is); (case l_low => k_is); (case c_low => k_is); (case k_low => k_is); (case a_bare => k_is); (case l_bare => k_is)
    (case c_bare => k_is); (case k_bare => k_is); (case a_less_multiple => k_is); (case l_less_multiple => k_is); (case c_less_multiple => k_is); (case k_less_multiple => k_is)
    (case a_divided => k_is); (case l_divided => k_is); (case c_divided => k_is); (case k_divided => k_is); (case a_greatest_common => k_is); (case l_greatest_common => k_is)
    (case c_greatest_common => k_is); (case k_greatest_common => k_is); (case a_find_row => k_is); (case l_find_row => k_is); (case c_find_row => k_is); (case k_find_row => k_is)
    (case a_cleared_row => k_is); (case l_cleared_row => k_is); (case c_cleared_row => k_is); (case k_cleared_row => k_is); (case a_determinant => k_is); (case l_determinant => k_is)
    (case c_determinant => k_is); (case k_determinant => k_is); (case a_shifted_rows => k_is); (case l_shifted_rows => k_is); (case c_shifted_rows => k_is); (case k_shifted_rows => k_is)
    (case a_resultant => k_is); (case l_resultant => k_is); (case c_resultant => k_is); (case k_resultant => k_is); (case a_slope => k_is); (case l_slope => k_is)
    (case c_slope => k_is); (case k_slope => k_is); (case a_discriminant => k_is); (case l_discriminant => k_is); (case c_discriminant => k_is); (case k_discriminant => k_is)
    (case a_square_free => k_is); (case l_square_free => k_is); (case c_square_free => k_is); (case k_square_free => k_is); (case a_value_at => k_is); (case l_value_at => k_is)
    (case c_value_at => k_is); (case k_value_at => k_is); (case a_power_less_1 => k_is); (case l_power_less_1 => k_is); (case c_power_less_1 => k_is); (case k_power_less_1 => k_is)
    (case a_circle => k_is); (case l_circle => k_is); (case c_circle => k_is); (case k_circle => k_is); (case a_signed_divisors => k_is); (case l_signed_divisors => k_is)
    (case c_signed_divisors => k_is); (case k_signed_divisors => k_is); (case a_divides => k_is); (case l_divides => k_is); (case c_divides => k_is); (case k_divides => k_is)
    (case a_part_of_degree_1 => k_is); (case l_part_of_degree_1 => k_is); (case c_part_of_degree_1 => k_is); (case k_part_of_degree_1 => k_is); (case a_part_of_degree_2 => k_is); (case l_part_of_degree_2 => k_is)
    (case c_part_of_degree_2 => k_is); (case k_part_of_degree_2 => k_is); (case a_lowest_part => k_is); (case l_lowest_part => k_is); (case c_lowest_part => k_is); (case k_lowest_part => k_is)
    (case a_all_parts => k_is); (case l_all_parts => k_is); (case c_all_parts => k_is); (case k_all_parts => k_is); (case a_degree_and_numbers => k_is); (case l_degree_and_numbers => k_is)
    (case c_degree_and_numbers => k_is); (case k_degree_and_numbers => k_is); (case a_counted_parts => k_is); (case l_counted_parts => k_is); (case c_counted_parts => k_is); (case k_counted_parts => k_is)
    (case a_whole_number => k_is); (case l_whole_number => k_is); (case c_whole_number => k_is); (case k_whole_number => k_is); (case a_is_irreducible => k_is); (case l_is_irreducible => k_is)
    (case c_is_irreducible => k_is); (case k_is_irreducible => k_is); (case a_rational_roots => k_is); (case l_rational_roots => k_is); (case c_rational_roots => k_is); (case k_rational_roots => k_is)
    (case a_number_handed => k_is); (case l_number_handed => k_is); (case c_number_handed => k_is); (case k_number_handed => k_is); (case a_polynomial_handed => k_is); (case l_polynomial_handed => k_is)
    (case c_polynomial_handed => k_is); (case k_polynomial_handed => k_is); (case a_may_be_taken => k_is); (case l_may_be_taken => k_is); (case c_may_be_taken => k_is); (case k_may_be_taken => k_is)
    (case a_shown => k_is); (case l_shown => k_is); (case c_shown => k_is); (case k_shown => k_is); (case a_fractions_shown => k_is); (case l_fractions_shown => k_is)
    (case c_fractions_shown => k_is); (case k_fractions_shown => k_is); (case a_answer_one => k_is); (case l_answer_one => k_is); (case c_answer_one => k_is); (case k_answer_one => k_is)
    (case a_answer_two => k_is); (case l_answer_two => k_is); (case c_answer_two => k_is); (case k_answer_two => k_is); (case a_answer_times => k_is); (case l_answer_times => k_is)
    (case c_answer_times => k_is); (case k_answer_times => k_is); (case a_answer_divide => k_is); (case l_answer_divide => k_is); (case c_answer_divide => k_is); (case k_answer_divide => k_is)
    (case a_answer_common => k_is); (case l_answer_common => k_is); (case c_answer_common => k_is); (case k_answer_common => k_is); (case a_answer_resultant => k_is); (case l_answer_resultant => k_is)
    (case c_answer_resultant => k_is); (case k_answer_resultant => k_is); (case a_answer_disc => k_is); (case l_answer_disc => k_is); (case c_answer_disc => k_is); (case k_answer_disc => k_is)
    (case a_may_be_taken_apart => k_is); (case l_may_be_taken_apart => k_is); (case c_may_be_taken_apart => k_is); (case k_may_be_taken_apart => k_is); (case a_answer_apart => k_is); (case l_answer_apart => k_is)
    (case c_answer_apart => k_is); (case k_answer_apart => k_is); (case a_answer_irreducible => k_is); (case l_answer_irreducible => k_is); (case c_answer_irreducible => k_is); (case k_answer_irreducible => k_is)
    (case a_answer_rationals => k_is); (case l_answer_rationals => k_is); (case c_answer_rationals => k_is); (case k_answer_rationals => k_is); (case a_answer_squarefree => k_is); (case l_answer_squarefree => k_is)
    (case c_answer_squarefree => k_is); (case k_answer_squarefree => k_is); (case a_answer_circle => k_is); (case l_answer_circle => k_is); (case c_answer_circle => k_is); (case k_answer_circle => k_is)
    (case a_answer_value => k_is); (case l_answer_value => k_is); (case c_answer_value => k_is); (case k_answer_value => k_is); (case a_answer_swap => k_is); (case l_answer_swap => k_is)
    (case c_answer_swap => k_is); (case k_answer_swap => k_is); (case a_call_end => k_is); (case l_call_end => k_is); (case c_call_end => k_is); (case k_call_end => k_is)
    (case a_answer_call => k_is); (case l_answer_call => k_is); (case c_answer_call => k_is); (case k_answer_call => k_is); (case a_answers => k_is); (case l_answers => k_is)
    (case c_answers => k_is); (case k_answers => k_is); (case g_Line => k_is); (case a_Line => k_is); (case i_Line => k_is); (case l_Line => k_is)
    (case c_Line => k_is); (case k_Line => k_is); (case pg_Line => k_is); (case hd_Line => k_is); (case po_Line => k_is); (case sa_Line => k_is)
    (case mk_Line => k_is); (case kc_Line => k_is); (case n1_Line => k_is); (case n2_Line => k_is); (case cc_rational_roots => rfl); (case lc_rational_roots => k_is)
    (case ix_rational_roots => rfl); (case cv_rational_roots => rfl); (case ne_rational_roots => decide); (case nl_rational_roots => first | rfl | kernel_rfl); (case m_abs => k_is); (case m_enumerate => k_is)
    (case m_len => k_is); (case m_list => k_is); (case m_max => k_is); (case m_range => k_is); (case m_reversed => k_is); (case m_sorted => k_is)
    (case m_sum => k_is); (case m_zip => k_is); (case v_CALL_ONE => k_is); (case v_CALL_TWO => k_is); (case v_CALL_CIRCLE => k_is); (case v_CALL_VALUE => k_is)
    (case v_REFUSED_NUMBERS => k_is); (case v_REFUSED_DEGREE => k_is); (case v_REFUSED_POLYNOMIAL => k_is); (case v_REFUSED_ZERO => k_is); (case v_MOST_NUMBERS => k_is); (case v_HIGHEST_HANDED => k_is)
    (case v_HIGHEST_DEGREE => k_is); (case v_HIGHEST_CIRCLE => k_is); (case v_LARGEST_TAKEN_APART => k_is); (case g_PLAIN_CALLS => k_is); (case l_PLAIN_CALLS => k_is); (case e_PLAIN_CALLS => exact Py.ints_keys (by decide +kernel))
    (case nd_PLAIN_CALLS => decide); (case x_PLAIN_CALLS_2 => rfl); (case x_PLAIN_CALLS_3 => rfl); (case x_PLAIN_CALLS_4 => rfl); (case x_PLAIN_CALLS_5 => rfl); (case x_PLAIN_CALLS_6 => rfl)
    (case x_PLAIN_CALLS_7 => rfl); (case x_PLAIN_CALLS_8 => rfl); (case x_PLAIN_CALLS_9 => rfl); (case x_PLAIN_CALLS_10 => rfl); (case x_PLAIN_CALLS_13 => rfl)
