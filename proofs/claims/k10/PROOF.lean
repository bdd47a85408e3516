import PyProof.Rows.All
import Wide.All
import OpenK.AllK
import Wide.FinOn
import PyProof.EqAt
import PyProof.EqKinds
import PyProof.TupleCall
import HandS.ForMost
import HandS.ForExc
import HandS.Flow
import HandS.Gcd
import HandS.Wide
import HandS.Deep
import HandS.IsInst
import HandS.Defaults
import HandS.CallSlots
import HandS.ExcInit
import HandS.ExcField
import HandS.ExcIs
import KE.KMathG
import HandS.TupAny
import HandS.TryOnly
import HandS.Small
import OpenK.KOps
import HandS.StrMore
import HandS.Style
import HandS.Codes
import HandS.Zip
import HandS.Iter
import KE.GoesEnum
import KE.GoesMore
import KE.GoesZip
import KE.LtData
import Flt.RightSqrt
import PySem.Challenge.RW_stillarms_k10_whole_halves_and_quarters
set_option Elab.async false
set_option linter.all false
set_option maxRecDepth 100000
/-! Mir: data without addresses, functions on them, and what it is that a piece of text follows such a function. -/
namespace Mir
open PySem L2
open PySem.W (Frag)

/-- data -/
inductive Dt where
  | non | bl (b : Bool) | int (i : Int) | str (x : Str) | tup (ds : List Dt) | lst (ds : List Dt) | obj (c : Str) (fs : List (Str × Dt)) | hnd
/-- the hand that a law draws from: great cells, mixed, count -/
structure Hd where
  g : List Int
  m : Int
  c : Int
/-- a slot: nothing known, data, a list of one's own that is still growing -/
inductive Sl where
  | no | dat (d : Dt) | own (ds : List Dt) | slf (c : Str) (fs : List (Str × Dt))
abbrev Env' := List Sl
inductive R (α : Type) where
  | ok (a : α) (s : Hd)
  | err (c : Str) (fs : List (Str × Dt)) (ρ : Env') (s : Hd)
  | bad
def R.bind {α β : Type} (r : R α) (k : α → Hd → R β) : R β := match r with
  | .ok a s => k a s
  | .err c fs ρ s => .err c fs ρ s
  | .bad => .bad
@[simp] theorem R.bind_ok {α β : Type} (a : α) (s : Hd) (k : α → Hd → R β) : (R.ok a s).bind k = k a s := rfl
@[simp] theorem R.bind_err {α β : Type} (c : Str) (fs : List (Str × Dt)) (ρ : Env') (s : Hd) (k : α → Hd → R β) : (R.err c fs ρ s : R α).bind k = .err c fs ρ s := rfl
@[simp] theorem R.bind_bad {α β : Type} (k : α → Hd → R β) : (R.bad : R α).bind k = .bad := rfl
inductive Fl where
  | nx (ρ : Env') | rt (d : Dt) | bk (ρ : Env') | ct (ρ : Env')

section
variable (K : Frag) (mg : Str → Option Value) (h : Addr) (H : Hp)
mutual
inductive Den : V → Dt → Prop
  | non : Den .non .non
  | bl (b : Bool) : Den (.bl b) (.bl b)
  | int (i : Int) : Den (.int i) (.int i)
  | str (x : Str) : Den (.str x) (.str x)
  | tup {a : Addr} {xs : List V} {ds : List Dt} : SqT K H a xs → DenA xs ds → Den (.ref a) (.tup ds)
  | lst {a : Addr} {xs : List V} {ds : List Dt} : H a = some (.lst xs) → DenA xs ds → Den (.ref a) (.lst ds)
  | obj {a C dx : Addr} {c : Str} {fs : List (Str × V)} {ds : List (Str × Dt)} : mg c = some (.ref C) → H a = some (.ins C dx fs) → DenF fs ds → Den (.ref a) (.obj c ds)
  | hnd : Den (.ref h) .hnd
inductive DenA : List V → List Dt → Prop
  | nil : DenA [] []
  | cons {v : V} {vs : List V} {d : Dt} {ds : List Dt} : Den v d → DenA vs ds → DenA (v :: vs) (d :: ds)
inductive DenF : List (Str × V) → List (Str × Dt) → Prop
  | nil : DenF [] []
  | cons {n : Str} {v : V} {vs : List (Str × V)} {d : Dt} {ds : List (Str × Dt)} : Den v d → DenF vs ds → DenF ((n, v) :: vs) ((n, d) :: ds)
end
end

section
variable {K : Frag} {mg : Str → Option Value} {h : Addr} {H H' : Hp}
theorem sqt_mono {a : Addr} {xs : List V} (e : Same H H') (q : SqT K H a xs) : SqT K H' a xs := by
  rcases q with (q | ⟨o, q⟩) | q
  · exact .inl (.inl (e _ _ q))
  · exact .inl (.inr ⟨o, e _ _ q⟩)
  · exact .inr q
mutual
theorem Den.mono (e : Same H H') : ∀ {v : V} {d : Dt}, Den K mg h H v d → Den K mg h H' v d
  | _, _, .non => .non
  | _, _, .bl b => .bl b
  | _, _, .int i => .int i
  | _, _, .str x => .str x
  | _, _, .tup q r => .tup (sqt_mono e q) (DenA.mono e r)
  | _, _, .lst q r => .lst (e _ _ q) (DenA.mono e r)
  | _, _, .obj c q r => .obj c (e _ _ q) (DenF.mono e r)
  | _, _, .hnd => .hnd
theorem DenA.mono (e : Same H H') : ∀ {v : List V} {d : List Dt}, DenA K mg h H v d → DenA K mg h H' v d
  | _, _, .nil => .nil
  | _, _, .cons q r => .cons (Den.mono e q) (DenA.mono e r)
theorem DenF.mono (e : Same H H') : ∀ {v : List (Str × V)} {d : List (Str × Dt)}, DenF K mg h H v d → DenF K mg h H' v d
  | _, _, .nil => .nil
  | _, _, .cons q r => .cons (Den.mono e q) (DenF.mono e r)
end
theorem DenA.len : ∀ {vs : List V} {ds : List Dt}, DenA K mg h H vs ds → vs.length = ds.length
  | _, _, .nil => rfl
  | _, _, .cons _ r => congrArg Nat.succ (DenA.len r)
theorem DenA.get : ∀ {vs : List V} {ds : List Dt} {i : Nat} {d : Dt}, DenA K mg h H vs ds → ds[i]? = some d → ∃ v, vs[i]? = some v ∧ Den K mg h H v d
  | _, _, _, _, .nil, e => by simp at e
  | _, _, 0, _, .cons r _, e => by
    simp at e
    subst e
    exact ⟨_, rfl, r⟩
  | _, _, i + 1, d, .cons _ t, e => by
    obtain ⟨u, h1, h2⟩ := DenA.get (i := i) (d := d) t (by simpa using e)
    exact ⟨u, by simpa using h1, h2⟩
theorem DenA.getV : ∀ {vs : List V} {ds : List Dt} {i : Nat} {v : V}, DenA K mg h H vs ds → vs[i]? = some v → ∃ d, ds[i]? = some d ∧ Den K mg h H v d
  | _, _, _, _, .nil, e => by simp at e
  | _, _, 0, _, .cons r _, e => by
    simp at e
    subst e
    exact ⟨_, rfl, r⟩
  | _, _, i + 1, d, .cons _ t, e => by
    obtain ⟨u, h1, h2⟩ := DenA.getV (i := i) (v := d) t (by simpa using e)
    exact ⟨u, by simpa using h1, h2⟩
theorem DenA.append : ∀ {vs ws : List V} {ds es : List Dt}, DenA K mg h H vs ds → DenA K mg h H ws es → DenA K mg h H (vs ++ ws) (ds ++ es)
  | _, _, _, _, .nil, s => s
  | _, _, _, _, .cons r t, s => .cons r (DenA.append t s)
theorem DenA.take : ∀ {vs : List V} {ds : List Dt} (n : Nat), DenA K mg h H vs ds → DenA K mg h H (vs.take n) (ds.take n)
  | _, _, 0, _ => by
    rw [List.take_zero, List.take_zero]
    exact .nil
  | _, _, _ + 1, .nil => .nil
  | _, _, n + 1, .cons r t => .cons r (DenA.take n t)
theorem DenA.drop : ∀ {vs : List V} {ds : List Dt} (n : Nat), DenA K mg h H vs ds → DenA K mg h H (vs.drop n) (ds.drop n)
  | _, _, 0, r => r
  | _, _, _ + 1, .nil => .nil
  | _, _, n + 1, .cons _ t => DenA.drop n t
theorem DenA.set {v : V} {d : Dt} (r : Den K mg h H v d) : ∀ {vs : List V} {ds : List Dt} (i : Nat), DenA K mg h H vs ds → DenA K mg h H (vs.set i v) (ds.set i d)
  | _, _, _, .nil => .nil
  | _, _, 0, .cons _ t => .cons r t
  | _, _, i + 1, .cons q t => .cons q (DenA.set r i t)
theorem DenA.ints : ∀ (ns : List Int), DenA K mg h H (ns.map V.int) (ns.map Dt.int)
  | [] => .nil
  | n :: ns => .cons (.int n) (DenA.ints ns)
theorem DenA.ofInts : ∀ {vs : List V} {ns : List Int}, DenA K mg h H vs (ns.map Dt.int) → vs = ns.map V.int
  | _, [], .nil => rfl
  | _, n :: ns, .cons (.int _) r => by
    rw [DenA.ofInts r]
    rfl
end

/-! ### heaps: the part on which data rest, the hand, the step -/
def isH (h : Addr) (H : Hp) (p : Addr) : Prop := p = h ∨ ∃ r, H h = some (.lst (.ref p :: r))
structure Step (h : Addr) (H0 H H0' H' : Hp) : Prop where
  s0 : Same H0 H0'
  fr : ∀ p o, H p = some o → H0 p = none → ¬ isH h H p → H' p = some o ∧ H0' p = none ∧ ¬ isH h H' p
structure G (h : Addr) (H0 H : Hp) (s : Hd) : Prop where
  ex : Same H0 H
  h0 : H0 h = none
  gl : ∃ gl : Addr, H0 gl = none ∧ gl ≠ h ∧ H h = some (.lst [.ref gl, .int s.m, .int s.c]) ∧ H gl = some (.lst (s.g.map V.int))
section
variable {h : Addr} {H0 H H0' H' H0'' H'' : Hp} {s : Hd} {p : Addr} {o : HO}
theorem Step.refl (H0 H : Hp) : Step h H0 H H0 H := ⟨Same.refl _, fun _ _ a b c => ⟨a, b, c⟩⟩
theorem Step.trans (a : Step h H0 H H0' H') (b : Step h H0' H' H0'' H'') : Step h H0 H H0'' H'' :=
  ⟨a.s0.trans b.s0, fun p o x y z => by
    obtain ⟨x1, y1, z1⟩ := a.fr p o x y z
    exact b.fr p o x1 y1 z1⟩
theorem G.alloc (g : G h H0 H s) (hp : H p = none) : G h (upd H0 p o) (upd H p o) s ∧ Step h H0 H (upd H0 p o) (upd H p o) := by
  obtain ⟨gl, a1, a2, a3, a4⟩ := g.gl
  have n0 : H0 p = none := g.ex.free hp
  have e1 : h ≠ p := ne_of_none a3 hp
  have e2 : gl ≠ p := ne_of_none a4 hp
  refine ⟨⟨fun b u q => ?_, by rw [upd_ne e1]; exact g.h0, gl, by rw [upd_ne e2]; exact a1, a2, by rw [upd_ne e1]; exact a3, by rw [upd_ne e2]; exact a4⟩, ⟨fun b u q => ?_, fun q u x y z => ?_⟩⟩
  · by_cases hb : b = p
    · subst hb
      rw [upd_same] at q ⊢
      exact q
    · rw [upd_ne hb] at q ⊢
      exact g.ex _ _ q
  · rw [upd_ne (ne_of_none q n0)]
    exact q
  · have nq : q ≠ p := ne_of_none x hp
    refine ⟨by rw [upd_ne nq]; exact x, by rw [upd_ne nq]; exact y, fun w => z ?_⟩
    rcases w with w | ⟨r, w⟩
    · exact .inl w
    · rw [upd_ne e1] at w
      exact .inr ⟨r, w⟩
/-- a new object that no data rest on -/
theorem G.side (g : G h H0 H s) (hp : H p = none) : G h H0 (upd H p o) s ∧ Step h H0 H H0 (upd H p o) := by
  obtain ⟨gl, a1, a2, a3, a4⟩ := g.gl
  have n0 : H0 p = none := g.ex.free hp
  have e1 : h ≠ p := ne_of_none a3 hp
  have e2 : gl ≠ p := ne_of_none a4 hp
  refine ⟨⟨fun b u q => ?_, g.h0, gl, a1, a2, by rw [upd_ne e1]; exact a3, by rw [upd_ne e2]; exact a4⟩, ⟨Same.refl _, fun q u x y z => ?_⟩⟩
  · rw [upd_ne (ne_of_none q n0)]
    exact g.ex _ _ q
  · have nq : q ≠ p := ne_of_none x hp
    refine ⟨by rw [upd_ne nq]; exact x, y, fun w => z ?_⟩
    rcases w with w | ⟨r, w⟩
    · exact .inl w
    · rw [upd_ne e1] at w
      exact .inr ⟨r, w⟩
end

/-! ### slots -/
/-- a def's run: the hand, and the heaps at its entry -/
structure Ent where
  a : Addr
  E0 : Hp
  E : Hp
  sf : Addr
instance : CoeHead Ent Addr := ⟨Ent.a⟩
/-- none of the callers' own things -/
def NF (h : Ent) (p : Addr) : Prop := ∀ o, h.E p = some o → h.E0 p = none → isH h.a h.E p
def Sl.mine : Sl → Bool
  | .own _ => true
  | .slf _ _ => true
  | _ => false
section
variable (K : Frag) (mg : Str → Option Value) (h : Ent) (H0 H : Hp)
def SlOk : Option V → Sl → Prop
  | _, .no => True
  | some v, .dat d => Den K mg h.a H0 v d
  | some v, .own ds => ∃ p vs, v = .ref p ∧ H p = some (.lst vs) ∧ H0 p = none ∧ ¬ isH h.a H p ∧ NF h p ∧ DenA K mg h.a H0 vs ds
  | some v, .slf c fs => ∃ p C dx vs, v = .ref p ∧ p = h.sf ∧ mg c = some (.ref C) ∧ H p = some (.ins C dx vs) ∧ H0 p = none ∧ ¬ isH h.a H p ∧ NF h p ∧ DenF K mg h.a H0 vs fs
  | none, _ => False
structure Slots (σ : St) (ρ : Env') : Prop where
  len : σ.length = ρ.length
  at_ : ∀ (i : Nat) (o : Option V) (l : Sl), σ[i]? = some o → ρ[i]? = some l → SlOk K mg h H0 H o l
  ds : ∀ (i j : Nat) (p : Addr) (a b : Sl), ρ[i]? = some a → ρ[j]? = some b → a.mine = true → b.mine = true → σ[i]? = some (some (.ref p)) → σ[j]? = some (some (.ref p)) → i = j
  st : Step h.a h.E0 h.E H0 H
end
section
variable {K : Frag} {mg : Str → Option Value} {h : Ent} {H0 H H0' H' : Hp} {σ : St} {ρ : Env'}
theorem SlOk.step {o : Option V} {l : Sl} (st : Step h.a H0 H H0' H') (q : SlOk K mg h H0 H o l) : SlOk K mg h H0' H' o l := by
  cases o with
  | none =>
    cases l with
    | no => exact True.intro
    | dat d => exact q
    | own ds => exact q
    | slf c fs => exact q
  | some v =>
    cases l with
    | no => exact True.intro
    | dat d => exact Den.mono st.s0 q
    | own ds =>
      obtain ⟨p, vs, e, a, b, c, n, d⟩ := q
      obtain ⟨a1, b1, c1⟩ := st.fr p _ a b c
      exact ⟨p, vs, e, a1, b1, c1, n, d.mono st.s0⟩
    | slf c fs =>
      obtain ⟨p, C, dx, vs, e, ep, m, a, b, c, n, d⟩ := q
      obtain ⟨a1, b1, c1⟩ := st.fr p _ a b c
      exact ⟨p, C, dx, vs, e, ep, m, a1, b1, c1, n, d.mono st.s0⟩
theorem Slots.step (S : Slots K mg h H0 H σ ρ) (st : Step h.a H0 H H0' H') : Slots K mg h H0' H' σ ρ :=
  ⟨S.len, fun i o l a b => (S.at_ i o l a b).step st, S.ds, S.st.trans st⟩
theorem Slots.dat {i : Nat} {d : Dt} (S : Slots K mg h H0 H σ ρ) (e : ρ[i]? = some (.dat d)) : ∃ v, σ[i]? = some (some v) ∧ Den K mg h.a H0 v d := by
  obtain ⟨hl, _⟩ := List.getElem?_eq_some_iff.mp e
  have hl2 : i < σ.length := by rw [S.len]; exact hl
  have q := S.at_ i σ[i] _ (List.getElem?_eq_getElem hl2) e
  cases hv : σ[i] with
  | none =>
    rw [hv] at q
    exact q.elim
  | some v =>
    rw [hv] at q
    exact ⟨v, by rw [List.getElem?_eq_getElem hl2, hv], q⟩
theorem Slots.own {i : Nat} {ds : List Dt} (S : Slots K mg h H0 H σ ρ) (e : ρ[i]? = some (.own ds)) : ∃ p vs, σ[i]? = some (some (.ref p)) ∧ H p = some (.lst vs) ∧ H0 p = none ∧ ¬ isH h.a H p ∧ NF h p ∧ DenA K mg h.a H0 vs ds := by
  obtain ⟨hl, _⟩ := List.getElem?_eq_some_iff.mp e
  have hl2 : i < σ.length := by rw [S.len]; exact hl
  have q := S.at_ i σ[i] _ (List.getElem?_eq_getElem hl2) e
  cases hv : σ[i] with
  | none =>
    rw [hv] at q
    exact q.elim
  | some v =>
    rw [hv] at q
    obtain ⟨p, vs, rfl, q⟩ := q
    exact ⟨p, vs, by rw [List.getElem?_eq_getElem hl2, hv], q⟩
theorem Slots.slf {i : Nat} {c : Str} {fs : List (Str × Dt)} (S : Slots K mg h H0 H σ ρ) (e : ρ[i]? = some (.slf c fs)) : ∃ p C dx vs, σ[i]? = some (some (.ref p)) ∧ p = h.sf ∧ mg c = some (.ref C) ∧ H p = some (.ins C dx vs) ∧ H0 p = none ∧ ¬ isH h.a H p ∧ NF h p ∧ DenF K mg h.a H0 vs fs := by
  obtain ⟨hl, _⟩ := List.getElem?_eq_some_iff.mp e
  have hl2 : i < σ.length := by rw [S.len]; exact hl
  have q := S.at_ i σ[i] _ (List.getElem?_eq_getElem hl2) e
  cases hv : σ[i] with
  | none =>
    rw [hv] at q
    exact q.elim
  | some v =>
    rw [hv] at q
    obtain ⟨p, C, dx, vs, rfl, q⟩ := q
    exact ⟨p, C, dx, vs, by rw [List.getElem?_eq_getElem hl2, hv], q⟩
/-- another thing in one slot; p: if it is one's own, no other slot has it -/
theorem Slots.put {i : Nat} {o : Option V} {l : Sl} (S : Slots K mg h H0 H σ ρ) (q : SlOk K mg h H0 H o l) (nd : ∀ p, o = some (.ref p) → l.mine = true → ∀ (j : Nat) (b : Sl), j ≠ i → ρ[j]? = some b → b.mine = true → σ[j]? ≠ some (some (.ref p))) : Slots K mg h H0 H (σ.set i o) (ρ.set i l) := by
  refine ⟨by rw [List.length_set, List.length_set]; exact S.len, fun j o' l' a b => ?_, fun j k p a b e1 e2 m1 m2 e3 e4 => ?_, S.st⟩
  · by_cases hj : i = j
    · subst hj
      have hl : i < σ.length := by
        obtain ⟨q, _⟩ := List.getElem?_eq_some_iff.mp a
        rwa [List.length_set] at q
      rw [List.getElem?_set_self hl] at a
      rw [List.getElem?_set_self (by rw [← S.len]; exact hl)] at b
      cases a
      cases b
      exact q
    · rw [List.getElem?_set_ne hj] at a b
      exact S.at_ j o' l' a b
  · have self : ∀ (j : Nat) (a : Sl), (ρ.set i l)[j]? = some a → (σ.set i o)[j]? = some (some (.ref p)) → i = j → a = l ∧ o = some (.ref p) := fun j a x y z => by
      subst z
      have hl : i < ρ.length := by
        obtain ⟨q, _⟩ := List.getElem?_eq_some_iff.mp x
        rwa [List.length_set] at q
      rw [List.getElem?_set_self hl] at x
      rw [List.getElem?_set_self (by rw [S.len]; exact hl)] at y
      cases x
      cases y
      exact ⟨rfl, rfl⟩
    by_cases nj : i = j
    · obtain ⟨ea, eo⟩ := self j a e1 e3 nj
      by_cases nk : i = k
      · rw [← nj, ← nk]
      · rw [List.getElem?_set_ne nk] at e2 e4
        exact absurd e4 (nd p eo (by rw [← ea]; exact m1) k b (fun z => nk z.symm) e2 m2)
    · by_cases nk : i = k
      · obtain ⟨eb, eo⟩ := self k b e2 e4 nk
        rw [List.getElem?_set_ne nj] at e1 e3
        exact absurd e3 (nd p eo (by rw [← eb]; exact m2) j a (fun z => nj z.symm) e1 m1)
      · rw [List.getElem?_set_ne nj] at e1 e3
        rw [List.getElem?_set_ne nk] at e2 e4
        exact S.ds j k p a b e1 e2 m1 m2 e3 e4
theorem Slots.set {i : Nat} {v : V} {d : Dt} (S : Slots K mg h H0 H σ ρ) (q : Den K mg h.a H0 v d) : Slots K mg h H0 H (σ.set i (some v)) (ρ.set i (.dat d)) := S.put q fun _ _ z => Bool.noConfusion z
theorem Slots.forget {i : Nat} (S : Slots K mg h H0 H σ ρ) (o : Option V) : Slots K mg h H0 H (σ.set i o) (ρ.set i .no) := S.put (by cases o <;> exact True.intro) fun _ _ z => Bool.noConfusion z
/-- p is the own thing of slot i alone: what is there changes -/
theorem SlOk.other {o : Option V} {l : Sl} {p : Addr} {u : HO} (nh : p ≠ h.a) (q : SlOk K mg h H0 H o l) (n : o = some (.ref p) → l.mine = false) : SlOk K mg h H0 (upd H p u) o l := by
  have hi : ∀ q, ¬ isH h.a H q → ¬ isH h.a (upd H p u) q := fun q w z => by
    rcases z with z | ⟨r, z⟩
    · exact w (.inl z)
    · rw [upd_ne fun y => nh y.symm] at z
      exact w (.inr ⟨r, z⟩)
  cases o with
  | none =>
    cases l with
    | no => exact True.intro
    | dat d => exact q
    | own ds => exact q
    | slf c fs => exact q
  | some v =>
    cases l with
    | no => exact True.intro
    | dat d => exact q
    | own ds =>
      obtain ⟨p', vs, rfl, a, b, c, nf, d⟩ := q
      have ne : p' ≠ p := fun z => by
        subst z
        have := n rfl
        cases this
      exact ⟨p', vs, rfl, by rw [upd_ne ne]; exact a, b, hi _ c, nf, d⟩
    | slf c fs =>
      obtain ⟨p', C, dx, vs, rfl, ep, m, a, b, c, nf, d⟩ := q
      have ne : p' ≠ p := fun z => by
        subst z
        have := n rfl
        cases this
      exact ⟨p', C, dx, vs, rfl, ep, m, by rw [upd_ne ne]; exact a, b, hi _ c, nf, d⟩
theorem G.at {h : Addr} {s : Hd} {p : Addr} {u : HO} (g : G h H0 H s) (n0 : H0 p = none) (nh : ¬ isH h H p) : G h H0 (upd H p u) s := by
  obtain ⟨gl, a1, a2, a3, a4⟩ := g.gl
  have e1 : h ≠ p := fun z => nh (.inl z.symm)
  have e2 : gl ≠ p := fun z => nh (.inr ⟨_, by rw [← z]; exact a3⟩)
  refine ⟨fun b o q => ?_, g.h0, gl, a1, a2, by rw [upd_ne e1]; exact a3, by rw [upd_ne e2]; exact a4⟩
  rw [upd_ne (ne_of_none q n0)]
  exact g.ex _ _ q
theorem Step.at {p : Addr} {u : HO} (st : Step h.a h.E0 h.E H0 H) (nh : p ≠ h.a) (nf : NF h p) : Step h.a h.E0 h.E H0 (upd H p u) := by
  refine ⟨st.s0, fun q o x y z => ?_⟩
  have ne : q ≠ p := fun w => by
    subst w
    exact z (nf o x y)
  obtain ⟨a, b, c⟩ := st.fr q o x y z
  refine ⟨by rw [upd_ne ne]; exact a, b, fun w => c ?_⟩
  rcases w with w | ⟨r, w⟩
  · exact .inl w
  · rw [upd_ne fun y => nh y.symm] at w
    exact .inr ⟨r, w⟩
/-- what stands at one's own thing changes -/
theorem Slots.mut {i : Nat} {p : Addr} {a l : Sl} {u : HO} (S : Slots K mg h H0 H σ ρ) (e : ρ[i]? = some a) (m : a.mine = true) (es : σ[i]? = some (some (.ref p))) (nh : ¬ isH h.a H p) (nf : NF h p) (ml : l.mine = true)
    (ok : SlOk K mg h H0 (upd H p u) (some (.ref p)) l) : Slots K mg h H0 (upd H p u) σ (ρ.set i l) := by
  have nha : p ≠ h.a := fun z => nh (.inl z)
  have S1 : Slots K mg h H0 (upd H p u) (σ.set i none) (ρ.set i .no) := by
    have S0 := S.forget (i := i) none
    refine ⟨S0.len, fun j o l' x y => SlOk.other nha (S0.at_ j o l' x y) fun z => ?_, S0.ds, S.st.at nha nf⟩
    subst z
    by_cases hj : i = j
    · subst hj
      have hl : i < ρ.length := by
        obtain ⟨q, _⟩ := List.getElem?_eq_some_iff.mp y
        rwa [List.length_set] at q
      rw [List.getElem?_set_self hl] at y
      cases y
      rfl
    · rw [List.getElem?_set_ne hj] at x y
      cases hm : l'.mine with
      | false => rfl
      | true => exact absurd (S.ds i j p a l' e y m hm es x) hj
  have S2 := S1.put (i := i) (o := some (.ref p)) (l := l) ok fun q eq _ j b nj y mb x => by
    cases eq
    rw [List.getElem?_set_ne (Ne.symm nj)] at x y
    exact nj (S.ds j i p b a y e mb m x es)
  rw [List.set_set, List.set_set] at S2
  have id : σ.set i (some (.ref p)) = σ := by
    apply List.ext_getElem?
    intro j
    by_cases hj : i = j
    · subst hj
      obtain ⟨hl, _⟩ := List.getElem?_eq_some_iff.mp es
      rw [List.getElem?_set_self hl, es]
    · rw [List.getElem?_set_ne hj]
  rwa [id] at S2
end

/-! ### what is wanted behind a reading, by what its function says -/
section
variable (K : Frag) (mg : Str → Option Value) (h : Ent)
/-- a raised error's fields; none: it has no dict -/
def XdOk (h : Addr) (H0 H : Hp) : Option Addr → List (Str × Dt) → Prop
  | some dd, fs => fs ≠ [] ∧ ∃ fv, H dd = some (.xd fv) ∧ DenF K mg h H0 fv fs
  | none, fs => fs = []
def ErrP (H0 : Hp) (c : Str) (fs : List (Str × Dt)) (ρ : Env') (s : Hd) (Wx : WX) : Prop := ∀ (σ' : St) (C : Addr) (od : Option Addr) (H0' H' : Hp), Same H0 H0' → G h.a H0' H' s → Slots K mg h H0' H' σ' ρ → mg c = some (.ref C) → XdOk K mg h.a H0' H' od fs → Wx (.ref C) od σ' H'
def Post {α β : Type} (rel : Hp → α → β → Prop) (r : R β) (H0 H : Hp) (Wx : WX) (Q : α → Hp → Prop) : Prop := match r with
  | .ok b s => ∀ a H0' H', Step h.a H0 H H0' H' → G h.a H0' H' s → rel H0' a b → Q a H'
  | .err c fs ρ s => ErrP K mg h H0 c fs ρ s Wx
  | .bad => False
def PostS (r : R Fl) (H0 H : Hp) (Wx : WX) (D : Ends) : Prop := match r with
  | .ok (.nx ρ) s => ∀ σ' H0' H', Same H0 H0' → G h.a H0' H' s → Slots K mg h H0' H' σ' ρ → D.nx σ' H'
  | .ok (.rt d) s => ∀ v H0' H', Step h.a h.E0 h.E H0' H' → G h.a H0' H' s → Den K mg h.a H0' v d → D.rt v H'
  | .ok (.bk ρ) s => ∀ σ' H0' H', Same H0 H0' → G h.a H0' H' s → Slots K mg h H0' H' σ' ρ → D.bk σ' H'
  | .ok (.ct ρ) s => ∀ σ' H0' H', Same H0 H0' → G h.a H0' H' s → Slots K mg h H0' H' σ' ρ → D.ct σ' H'
  | .err c fs ρ s => ErrP K mg h H0 c fs ρ s Wx
  | .bad => False
end
section
variable {K : Frag} {mg : Str → Option Value} {h : Ent} {H0 H H0' H' : Hp} {Wx : WX}
theorem ErrP.step {c : Str} {fs : List (Str × Dt)} {ρ : Env'} {s : Hd} (st : Same H0 H0') (p : ErrP K mg h H0 c fs ρ s Wx) : ErrP K mg h H0' c fs ρ s Wx :=
  fun σ' C od A B s2 g S m x => p σ' C od A B (st.trans s2) g S m x
theorem Post.step {α β : Type} {rel : Hp → α → β → Prop} {r : R β} {Q : α → Hp → Prop} (st : Step h.a H0 H H0' H') (p : Post K mg h rel r H0 H Wx Q) : Post K mg h rel r H0' H' Wx Q := by
  cases r with
  | ok b s => exact fun a A B s2 g q => p a A B (st.trans s2) g q
  | err c fs ρ s => exact ErrP.step st.s0 p
  | bad => exact p
theorem PostS.step {r : R Fl} {D : Ends} (st : Same H0 H0') (p : PostS K mg h r H0 H Wx D) : PostS K mg h r H0' H' Wx D := by
  cases r with
  | ok f s =>
    cases f with
    | nx ρ => exact fun a A B s2 g q => p a A B (st.trans s2) g q
    | rt d => exact p
    | bk ρ => exact fun a A B s2 g q => p a A B (st.trans s2) g q
    | ct ρ => exact fun a A B s2 g q => p a A B (st.trans s2) g q
  | err c fs ρ s => exact ErrP.step st p
  | bad => exact p
theorem Post.bind {α β γ δ : Type} {rel1 : Hp → α → β → Prop} {rel2 : Hp → γ → δ → Prop} {r : R β} {k : β → Hd → R δ} {Q : γ → Hp → Prop} {Q1 : α → Hp → Prop} (p : Post K mg h rel2 (r.bind k) H0 H Wx Q)
    (f : ∀ b s a H0' H', Step h.a H0 H H0' H' → G h.a H0' H' s → rel1 H0' a b → Post K mg h rel2 (k b s) H0' H' Wx Q → Q1 a H') : Post K mg h rel1 r H0 H Wx Q1 := by
  cases r with
  | ok b s => exact fun a A B st g q => f b s a A B st g q (Post.step st p)
  | err c fs ρ s => exact p
  | bad => exact p
theorem PostS.bind {α β : Type} {rel1 : Hp → α → β → Prop} {r : R β} {k : β → Hd → R Fl} {D : Ends} {Q1 : α → Hp → Prop} (p : PostS K mg h (r.bind k) H0 H Wx D)
    (f : ∀ b s a H0' H', Step h.a H0 H H0' H' → G h.a H0' H' s → rel1 H0' a b → PostS K mg h (k b s) H0' H' Wx D → Q1 a H') : Post K mg h rel1 r H0 H Wx Q1 := by
  cases r with
  | ok b s => exact fun a A B st g q => f b s a A B st g q (PostS.step st.s0 p)
  | err c fs ρ s => exact p
  | bad => exact p
end

/-! ### readings that follow a function -/
abbrev ME := Env' → Hd → R Dt
abbrev MT := Env' → Hd → R Bool
abbrev MA := Env' → Hd → R (List Dt)
abbrev MS := Env' → Hd → R Fl
abbrev EqB : Hp → Bool → Bool → Prop := fun _ a b => a = b
section
variable (K : Frag) (mg : Str → Option Value) (Wx : WX)
def SE (te : TE) (m : ME) : Prop := ∀ (h : Ent) (H0 H : Hp) (s : Hd) (σ : St) (ρ : Env') (Q : VK), G h.a H0 H s → Slots K mg h H0 H σ ρ → Post K mg h (Den K mg h.a) (m ρ s) H0 H Wx Q → te σ H Q
def SA (ta : TA) (m : MA) : Prop := ∀ (h : Ent) (H0 H : Hp) (s : Hd) (σ : St) (ρ : Env') (Q : List V → Hp → Prop), G h.a H0 H s → Slots K mg h H0 H σ ρ → Post K mg h (DenA K mg h.a) (m ρ s) H0 H Wx Q → ta σ H Q
def ST (tt : TT) (m : MT) : Prop := ∀ (h : Ent) (H0 H : Hp) (s : Hd) (σ : St) (ρ : Env') (Q : Bool → Hp → Prop), G h.a H0 H s → Slots K mg h H0 H σ ρ → Post K mg h EqB (m ρ s) H0 H Wx Q → tt σ H Q
def SS (ts : TS) (m : MS) : Prop := ∀ (h : Ent) (H0 H : Hp) (s : Hd) (σ : St) (ρ : Env') (D : Ends), G h.a H0 H s → Slots K mg h H0 H σ ρ → PostS K mg h (m ρ s) H0 H Wx D → ts D σ H
end
/-! ### texts that follow a function -/
def QE (X : Cx) (Wx : WX) (e : Expr) (m : ME) : Prop := ∃ t, PE X e t ∧ SE X.K X.mg Wx t m
def QT (X : Cx) (Wx : WX) (e : Expr) (m : MT) : Prop := ∃ t, PT X e t ∧ ST X.K X.mg Wx t m
def QW (X : Cx) (Wx : WX) (e : Expr) (m : MT) : Prop := ∃ t, PW X e t ∧ ST X.K X.mg Wx t m
def QA (X : Cx) (Wx : WX) (es : List Expr) (m : MA) : Prop := ∃ t, PA X es t ∧ SA X.K X.mg Wx t m
def QS (X : Cx) (Wx : WX) (st : Stmt) (m : MS) : Prop := ∃ t, PS X st t ∧ SS X.K X.mg Wx t m
def QSs (X : Cx) (Wx : WX) (sts : List Stmt) (m : MS) : Prop := ∃ t, PSs X sts t ∧ SS X.K X.mg Wx t m
end Mir


set_option Elab.async false
set_option linter.all false
set_option maxRecDepth 100000
namespace Mir
open PySem PySem.Spec PyProof.Rows L2
open PySem.W (Frag)

/-! ### functions on data -/
def liftO {α : Type} (o : Option α) (s : Hd) : R α := match o with
  | some a => .ok a s
  | none => .bad
@[simp] theorem liftO_some {α : Type} (a : α) (s : Hd) : liftO (some a) s = .ok a s := rfl
@[simp] theorem liftO_none {α : Type} (s : Hd) : liftO (none : Option α) s = .bad := rfl
def mVar (i : Nat) : ME := fun ρ s => match ρ[i]? with
  | some (.dat d) => .ok d s
  | _ => .bad
def mC (d : Dt) : ME := fun _ s => .ok d s
def mOp (f : Dt → Dt → Option Dt) (a b : ME) : ME := fun ρ s => (a ρ s).bind fun d s1 => (b ρ s1).bind fun e s2 => liftO (f d e) s2
def mUn (f : Dt → Option Dt) (a : ME) : ME := fun ρ s => (a ρ s).bind fun d s1 => liftO (f d) s1
def mTest (a : ME) : MT := fun ρ s => (a ρ s).bind fun d s1 => match d with
  | .bl b => .ok b s1
  | _ => .bad
def fTru : Dt → Option Bool
  | .non => some false
  | .bl b => some b
  | .int i => some (i != 0)
  | .str x => if x.length ≤ 100000 then some ((x.length : Int) != 0) else none
  | .tup ds => some (!ds.isEmpty)
  | .lst ds => some (!ds.isEmpty)
  | _ => none
def mTru (a : ME) : MT := fun ρ s => (a ρ s).bind fun d s1 => liftO (fTru d) s1
def mAnd (a b : MT) : MT := fun ρ s => (a ρ s).bind fun c s1 => if c = true then b ρ s1 else .ok false s1
def mOr (a b : MT) : MT := fun ρ s => (a ρ s).bind fun c s1 => if c = true then .ok true s1 else b ρ s1
def mNot (a : MT) : MT := fun ρ s => (a ρ s).bind fun c s1 => .ok (!c) s1
def mIf (t : MT) (a b : ME) : ME := fun ρ s => (t ρ s).bind fun c s1 => if c = true then a ρ s1 else b ρ s1
def mAndV (a b : ME) : ME := fun ρ s => (a ρ s).bind fun d s1 => (liftO (fTru d) s1).bind fun c s2 => if c = true then b ρ s2 else .ok d s2
def mOrV (a b : ME) : ME := fun ρ s => (a ρ s).bind fun d s1 => (liftO (fTru d) s1).bind fun c s2 => if c = true then .ok d s2 else b ρ s2
def mNotV (a : ME) : ME := fun ρ s => (a ρ s).bind fun d s1 => (liftO (fTru d) s1).bind fun c s2 => .ok (.bl (!c)) s2
def mNil : MA := fun _ s => .ok [] s
def mCons (a : ME) (r : MA) : MA := fun ρ s => (a ρ s).bind fun d s1 => (r ρ s1).bind fun ds s2 => .ok (d :: ds) s2
def mTup (as : MA) : ME := fun ρ s => (as ρ s).bind fun ds s1 => if ds.length ≤ 100000 then .ok (.tup ds) s1 else .bad
def mLst (as : MA) : ME := fun ρ s => (as ρ s).bind fun ds s1 => if ds.length ≤ 100000 then .ok (.lst ds) s1 else .bad
def mCB (f : List Dt → Option Dt) (as : MA) : ME := fun ρ s => (as ρ s).bind fun ds s1 => liftO (f ds) s1
/-- a def called: n parameters, the defaults dd fill up -/
def mCall (n : Nat) (dd : List Dt) (m : List Dt → Hd → R Dt) (as : MA) : ME := fun ρ s => (as ρ s).bind fun ds s1 =>
  if (ds ++ dd).length = n then (match m (ds ++ dd) s1 with
    | .ok d s2 => .ok d s2
    | .err c fs _ s2 => .err c fs ρ s2
    | .bad => .bad) else .bad

section
variable (K : Frag) (mg : Str → Option Value)
def OpS (r : R2) (f : Dt → Dt → Option Dt) : Prop := ∀ (h : Addr) (H0 H : Hp) (s : Hd) (x y : V) (d e z : Dt) (Q : VK), G h H0 H s → Den K mg h H0 x d → Den K mg h H0 y e → f d e = some z →
  (∀ u H0' H', Step h H0 H H0' H' → G h H0' H' s → Den K mg h H0' u z → Q u H') → r x y H Q
def UnS (r : V → Hp → VK → Prop) (f : Dt → Option Dt) : Prop := ∀ (h : Addr) (H0 H : Hp) (s : Hd) (x : V) (d z : Dt) (Q : VK), G h H0 H s → Den K mg h H0 x d → f d = some z →
  (∀ u H0' H', Step h H0 H H0' H' → G h H0' H' s → Den K mg h H0' u z → Q u H') → r x H Q
def CaS (r : List V → Hp → VK → Prop) (f : List Dt → Option Dt) : Prop := ∀ (h : Addr) (H0 H : Hp) (s : Hd) (xs : List V) (ds : List Dt) (z : Dt) (Q : VK), G h H0 H s → DenA K mg h H0 xs ds → f ds = some z →
  (∀ u H0' H', Step h H0 H H0' H' → G h H0' H' s → Den K mg h H0' u z → Q u H') → r xs H Q
end
section
variable {K : Frag} {mg : Str → Option Value}
theorem OpS.or {r r' : R2} {f f' g : Dt → Dt → Option Dt} (a : OpS K mg r f) (b : OpS K mg r' f') (hg : ∀ d e z, g d e = some z → f d e = some z ∨ f' d e = some z) : OpS K mg (fun x y H Q => r x y H Q ∨ r' x y H Q) g :=
  fun h H0 H s x y d e z Q g0 hx hy hz q => (hg d e z hz).elim (fun z1 => .inl (a h H0 H s x y d e z Q g0 hx hy z1 q)) fun z1 => .inr (b h H0 H s x y d e z Q g0 hx hy z1 q)
theorem CaS.or {r r' : List V → Hp → VK → Prop} {f f' g : List Dt → Option Dt} (a : CaS K mg r f) (b : CaS K mg r' f') (hg : ∀ d z, g d = some z → f d = some z ∨ f' d = some z) : CaS K mg (fun x H Q => r x H Q ∨ r' x H Q) g :=
  fun h H0 H s x d z Q g0 hx hz q => (hg d z hz).elim (fun z1 => .inl (a h H0 H s x d z Q g0 hx z1 q)) fun z1 => .inr (b h H0 H s x d z Q g0 hx z1 q)
end

/-! ### operators -/
/-- ints -/
def fI (C : Int → Int → Prop) [∀ i j, Decidable (C i j)] (g : Int → Int → Dt) : Dt → Dt → Option Dt
  | .int i, .int j => if C i j then some (g i j) else none
  | _, _ => none
abbrev fSub := fI (fun _ _ => True) fun i j => .int (i - j)
abbrev fLt := fI (fun _ _ => True) fun i j => .bl (decide (i < j))
abbrev fLe := fI (fun _ _ => True) fun i j => .bl (decide (i ≤ j))
abbrev fGt := fI (fun _ _ => True) fun i j => .bl (decide (j < i))
abbrev fGe := fI (fun _ _ => True) fun i j => .bl (decide (j ≤ i))
def sizeOk (n : Nat) : Prop := n ≤ 100000
instance (n : Nat) : Decidable (sizeOk n) := inferInstanceAs (Decidable (n ≤ 100000))
theorem sizeOk.le {n : Nat} (h : sizeOk n) : n ≤ sizeLine := Nat.le_trans h (by decide)
theorem sizeOk.lt {n : Nat} (h : sizeOk n) : n < sizeLine := Nat.lt_of_le_of_lt h (by decide)
def fAdd : Dt → Dt → Option Dt
  | .int i, .int j => some (.int (i + j))
  | .tup a, .tup b => if a ≠ [] ∧ sizeOk (a.length + b.length) then some (.tup (a ++ b)) else none
  | .lst a, .lst b => if sizeOk (a.length + b.length) then some (.lst (a ++ b)) else none
  | .str a, .str b => if sizeOk (a.length + b.length) then some (.str (a ++ b)) else none
  | _, _ => none
def MulOk (i j : Int) : Prop := i.natAbs.log2 + j.natAbs.log2 < 1000000
instance (i j : Int) : Decidable (MulOk i j) := inferInstanceAs (Decidable (_ < _))
def DivOk (j : Int) : Prop := j ≠ 0 ∧ j.natAbs.log2 < 9000
instance (j : Int) : Decidable (DivOk j) := inferInstanceAs (Decidable (_ ∧ _))
def fMul : Dt → Dt → Option Dt
  | .int i, .int j => if MulOk i j then some (.int (i * j)) else none
  | .lst a, .int j => if j ≤ 1000 ∧ -1000 ≤ j ∧ sizeOk (a.length * j.toNat) then some (.lst (List.replicate j.toNat a).flatten) else none
  | _, _ => none
abbrev fDiv := fI (fun _ j => DivOk j) fun i j => .int (i.fdiv j)
abbrev fMod := fI (fun _ j => j ≠ 0) fun i j => .int (i.fmod j)
instance (i j : Int) : Decidable (CPow i j) := inferInstanceAs (Decidable (_ ∧ _ ∧ _))
abbrev fPow := fI CPow fun i j => .int (i ^ j.toNat)
def fNeg : Dt → Option Dt
  | .int i => some (.int (-i))
  | _ => none
section
variable {X : Cx} {K : Frag} {mg : Str → Option Value}
theorem fI_some {C : Int → Int → Prop} [∀ i j, Decidable (C i j)] {g : Int → Int → Dt} {d e z : Dt} (h : fI C g d e = some z) : ∃ i j, d = .int i ∧ e = .int j ∧ C i j ∧ z = g i j := by
  unfold fI at h
  split at h
  · split at h
    · cases h
      exact ⟨_, _, rfl, rfl, by assumption, rfl⟩
    · cases h
  · cases h
theorem os_I {C C' : Int → Int → Prop} [∀ i j, Decidable (C i j)] {g : Int → Int → Dt} {gv : Int → Int → V} (hc : ∀ i j, C i j → C' i j) (hd : ∀ (h : Addr) (H : Hp) i j, Den K mg h H (gv i j) (g i j)) : OpS K mg (rI C' gv) (fI C g) := by
  intro h H0 H s x y d e z Q g0 hx hy hz q
  obtain ⟨i, j, rfl, rfl, c, rfl⟩ := fI_some hz
  cases hx
  cases hy
  exact ⟨i, j, rfl, rfl, hc i j c, q _ H0 H (.refl _ _) g0 (hd h H0 i j)⟩
theorem os_I0 {g : Int → Int → Dt} {gv : Int → Int → V} (hd : ∀ (h : Addr) (H : Hp) i j, Den K mg h H (gv i j) (g i j)) : OpS K mg (rI0 gv) (fI (fun _ _ => True) g) := by
  intro h H0 H s x y d e z Q g0 hx hy hz q
  obtain ⟨i, j, rfl, rfl, c, rfl⟩ := fI_some hz
  cases hx
  cases hy
  exact ⟨i, j, rfl, rfl, q _ H0 H (.refl _ _) g0 (hd h H0 i j)⟩
theorem os_sub : OpS K mg (rI0 fun i j => .int (i - j)) fSub := os_I0 fun _ _ _ _ => .int _
theorem os_lt : OpS K mg (rI0 fun i j => .bl (decide (i < j))) fLt := os_I0 fun _ _ _ _ => .bl _
theorem os_le : OpS K mg (rI0 fun i j => .bl (decide (i ≤ j))) fLe := os_I0 fun _ _ _ _ => .bl _
theorem os_gt : OpS K mg (rI0 fun i j => .bl (decide (j < i))) fGt := os_I0 fun _ _ _ _ => .bl _
theorem os_ge : OpS K mg (rI0 fun i j => .bl (decide (j ≤ i))) fGe := os_I0 fun _ _ _ _ => .bl _
def CDivA (_ j : Int) : Prop := j ≠ 0 ∧ j.natAbs.log2 < 9000
theorem op_divA : OpR X (binaryOp .FloorDiv) (rI CDivA fun i j => .int (i.fdiv j)) := opI fun _ _ _ _ _ _ _ hc q => floordiv_int hc.1 q (.inl (PyProof.noPylong_of_log2 hc.2))
theorem os_div : OpS K mg (rI CDivA fun i j => .int (i.fdiv j)) fDiv := os_I (fun _ _ c => c) fun _ _ _ _ => .int _
theorem os_mod : OpS K mg (rI (fun _ j => j ≠ 0) fun i j => .int (i.fmod j)) fMod := os_I (fun _ _ c => c) fun _ _ _ _ => .int _
theorem os_pow : OpS K mg (rI CPow fun i j => .int (i ^ j.toNat)) fPow := os_I (fun _ _ c => c) fun _ _ _ _ => .int _
theorem us_neg : UnS K mg (rU fun i => .int (-i)) fNeg := by
  intro h H0 H s x d z Q g0 hx hz q
  cases hx <;> first | cases hz | skip
  exact ⟨_, rfl, q _ H0 H (.refl _ _) g0 (.int _)⟩
/-- + -/
def rAddA (K : Frag) : R2 := fun x y H Q => (rI0 fun i j => V.int (i + j)) x y H Q ∨ (rCatT K x y H Q ∨ (rCat x y H Q ∨ (∃ i j, x = .str i ∧ y = .str j ∧ i.length + j.length ≤ sizeLine ∧ Q (.str (i ++ j)) H)))
theorem op_addA : OpR X (binaryOp .Add) (rAddA X.K) := op_add.or (op_catT.or (op_cat.or op_add_str))
theorem os_add : OpS K mg (rAddA K) fAdd := by
  intro h H0 H s x y d e z Q g0 hx hy hz q
  unfold fAdd at hz
  split at hz
  · cases hx
    cases hy
    cases hz
    exact .inl ⟨_, _, rfl, rfl, q _ H0 H (.refl _ _) g0 (.int _)⟩
  · split at hz
    · rename_i c
      cases hz
      cases hx with
      | tup qa ra =>
        cases hy with
        | tup qb rb =>
          have la := ra.len
          have lb := rb.len
          refine .inr (.inl ⟨_, _, _, _, rfl, rfl, sqt_mono g0.ex qa, sqt_mono g0.ex qb, fun z => c.1 ?_, ?_, fun z => ?_, fun _ p hp => ?_⟩)
          · rw [z] at la
            exact List.length_eq_zero_iff.mp la.symm
          · rw [la, lb]
            exact c.2.le
          · rw [z] at lb
            rw [List.length_eq_zero_iff.mp lb.symm, List.append_nil] at q
            exact q _ H0 H (.refl _ _) g0 (.tup qa ra)
          · obtain ⟨g1, st⟩ := g0.alloc (o := .tup _) hp
            exact q _ _ _ st g1 (.tup (SqT.of upd_same) ((ra.append rb).mono st.s0))
    · cases hz
  · split at hz
    · rename_i c
      cases hz
      cases hx with
      | lst qa ra =>
        cases hy with
        | lst qb rb =>
          have la := ra.len
          have lb := rb.len
          refine .inr (.inr (.inl ⟨_, _, _, _, rfl, rfl, g0.ex _ _ qa, g0.ex _ _ qb, ?_, fun p hp => ?_⟩))
          · rw [la, lb]
            exact c.le
          · obtain ⟨g1, st⟩ := g0.alloc (o := .lst _) hp
            exact q _ _ _ st g1 (.lst upd_same ((ra.append rb).mono st.s0))
    · cases hz
  · split at hz
    · rename_i c
      cases hz
      cases hx
      cases hy
      exact .inr (.inr (.inr ⟨_, _, rfl, rfl, c.le, q _ H0 H (.refl _ _) g0 (.str _)⟩))
    · cases hz
  · cases hz
/-- * -/
def rMulA : R2 := fun x y H Q => rI CMulW (fun i j => .int (i * j)) x y H Q ∨ rRep x y H Q
theorem op_mulA : OpR X (binaryOp .Mult) rMulA := op_mulW.or op_rep
theorem DenA.rep {h : Addr} {H : Hp} {vs : List V} {ds : List Dt} (r : DenA K mg h H vs ds) : ∀ k : Nat, DenA K mg h H (List.replicate k vs).flatten (List.replicate k ds).flatten
  | 0 => .nil
  | k + 1 => by
    rw [List.replicate_succ, List.replicate_succ, List.flatten_cons, List.flatten_cons]
    exact r.append (DenA.rep r k)
theorem os_mul : OpS K mg rMulA fMul := by
  intro h H0 H s x y d e z Q g0 hx hy hz q
  unfold fMul at hz
  split at hz
  · split at hz
    · cases hx
      cases hy
      cases hz
      exact .inl ⟨_, _, rfl, rfl, by assumption, q _ H0 H (.refl _ _) g0 (.int _)⟩
    · cases hz
  · split at hz
    · rename_i c
      cases hz
      cases hy
      cases hx with
      | lst qa ra =>
        have la := ra.len
        refine .inr ⟨_, _, _, rfl, rfl, g0.ex _ _ qa, by omega, by omega, ?_, fun p hp => ?_⟩
        · rw [la]
          exact c.2.2.le
        · obtain ⟨g1, st⟩ := g0.alloc (o := .lst _) hp
          exact q _ _ _ st g1 (.lst upd_same ((ra.rep _).mono st.s0))
    · cases hz
  · cases hz
end

/-! ### equality -/
mutual
def toPy : Dt → Option PyData
  | .non => some .none
  | .bl b => some (.bool b)
  | .int i => some (.int i)
  | .str x => some (.str x)
  | .tup ds => (toPyA ds).map .tuple
  | .lst ds => (toPyA ds).map .list
  | .obj _ _ => none
  | .hnd => none
def toPyA : List Dt → Option (List PyData)
  | [] => some []
  | d :: ds => (toPy d).bind fun p => (toPyA ds).map fun ps => p :: ps
end
section
variable {K : Frag} {mg : Str → Option Value} {h : Addr} {H : Hp}
mutual
theorem Den.dp : ∀ {v : V} {d : Dt} {p : PyData}, Den K mg h H v d → toPy d = some p → Dp K H v p
  | _, _, _, .non, e => by
    cases e
    exact .non
  | _, _, _, .bl b, e => by
    cases e
    exact .bl b
  | _, _, _, .int i, e => by
    cases e
    exact .int i
  | _, _, _, .str x, e => by
    cases e
    exact .str x
  | _, .tup ds, p, .tup q r, e => by
    unfold toPy at e
    cases hp : toPyA ds with
    | none =>
      rw [hp] at e
      cases e
    | some ps =>
      rw [hp] at e
      cases e
      exact .tup q (DenA.dp r hp)
  | _, .lst ds, p, .lst q r, e => by
    unfold toPy at e
    cases hp : toPyA ds with
    | none =>
      rw [hp] at e
      cases e
    | some ps =>
      rw [hp] at e
      cases e
      exact .lst (SqL.of q) (DenA.dp r hp)
  | _, _, _, .obj _ _ _, e => by
    unfold toPy at e
    cases e
  | _, _, _, .hnd, e => by
    unfold toPy at e
    cases e
theorem DenA.dp : ∀ {vs : List V} {ds : List Dt} {ps : List PyData}, DenA K mg h H vs ds → toPyA ds = some ps → DpAll K H vs ps
  | _, _, _, .nil, e => by
    cases e
    exact .nil
  | _, d :: ds, ps, .cons q r, e => by
    unfold toPyA at e
    cases hp : toPy d with
    | none =>
      rw [hp] at e
      cases e
    | some p =>
      rw [hp] at e
      cases hq : toPyA ds with
      | none =>
        rw [hq] at e
        cases e
      | some qs =>
        rw [hq] at e
        cases e
        exact .cons (Den.dp q hp) (DenA.dp r hq)
end
end
/-- data that may be compared -/
def pyOk (d : Dt) : Option PyData := (toPy d).bind fun p => if SeqAt.shaped p = true then some p else none
theorem pyOk_some {d : Dt} {p : PyData} (h : pyOk d = some p) : toPy d = some p ∧ SeqAt.shaped p = true := by
  unfold pyOk at h
  cases e : toPy d with
  | none =>
    rw [e] at h
    cases h
  | some q =>
    rw [e] at h
    have h' : (if SeqAt.shaped q = true then some q else none) = some p := h
    by_cases c : SeqAt.shaped q = true
    · rw [if_pos c] at h'
      cases h'
      exact ⟨rfl, c⟩
    · rw [if_neg c] at h'
      cases h'
def fEqB (d e : Dt) : Option Bool := (pyOk d).bind fun p => (pyOk e).bind fun q => some (PyData.eqv p q)
def fEq (d e : Dt) : Option Dt := (fEqB d e).map .bl
def fNe (d e : Dt) : Option Dt := (fEqB d e).map fun b => .bl (!b)
def fIs : Dt → Dt → Option Dt
  | .bl a, .bl b => some (.bl (a == b))
  | .non, .non => some (.bl true)
  | .bl _, .non => some (.bl false)
  | .int _, .non => some (.bl false)
  | .str _, .non => some (.bl false)
  | .tup _, .non => some (.bl false)
  | .lst _, .non => some (.bl false)
  | .obj _ _, .non => some (.bl false)
  | _, _ => none
def fIsNot (d e : Dt) : Option Dt := match fIs d e with
  | some (.bl b) => some (.bl (!b))
  | _ => none
/-- x in xs, a list -/
def fInB (d : Dt) : Dt → Option Bool
  | .lst es => (pyOk d).bind fun p => (pyOk (.lst es)).bind fun q => match q with
    | .list qs => some (qs.any fun z => PyData.eqv z p)
    | _ => none
  | _ => none
def fIn (d e : Dt) : Option Dt := (fInB d e).map .bl
def fNotIn (d e : Dt) : Option Dt := (fInB d e).map fun b => .bl (!b)
section
variable {X : Cx} {K : Frag} {mg : Str → Option Value}
theorem fEqB_some {d e : Dt} {b : Bool} (h : fEqB d e = some b) : ∃ p q, toPy d = some p ∧ toPy e = some q ∧ SeqAt.shaped p = true ∧ SeqAt.shaped q = true ∧ b = PyData.eqv p q := by
  unfold fEqB at h
  cases e1 : pyOk d with
  | none =>
    rw [e1] at h
    cases h
  | some p =>
    rw [e1] at h
    cases e2 : pyOk e with
    | none =>
      rw [e2] at h
      cases h
    | some q =>
      rw [e2] at h
      cases h
      exact ⟨p, q, (pyOk_some e1).1, (pyOk_some e2).1, (pyOk_some e1).2, (pyOk_some e2).2, rfl⟩
theorem os_eq : OpS K mg (rEqD K) fEq := by
  intro h H0 H s x y d e z Q g0 hx hy hz q
  unfold fEq at hz
  cases hb : fEqB d e with
  | none =>
    rw [hb] at hz
    cases hz
  | some b =>
    rw [hb] at hz
    cases hz
    obtain ⟨p, p', a1, a2, a3, a4, rfl⟩ := fEqB_some hb
    exact ⟨p, p', (hx.mono g0.ex).dp a1, (hy.mono g0.ex).dp a2, a3, a4, q _ H0 H (.refl _ _) g0 (.bl _)⟩
theorem os_ne : OpS K mg (rNeD K) fNe := by
  intro h H0 H s x y d e z Q g0 hx hy hz q
  unfold fNe at hz
  cases hb : fEqB d e with
  | none =>
    rw [hb] at hz
    cases hz
  | some b =>
    rw [hb] at hz
    cases hz
    obtain ⟨p, p', a1, a2, a3, a4, rfl⟩ := fEqB_some hb
    exact ⟨p, p', (hx.mono g0.ex).dp a1, (hy.mono g0.ex).dp a2, a3, a4, q _ H0 H (.refl _ _) g0 (.bl _)⟩
def rIsA : R2 := fun x y H Q => (y = .non ∧ Q (.bl (decide (x = .non))) H) ∨ ∃ a b, x = .bl a ∧ y = .bl b ∧ Q (.bl (a == b)) H
def rIsNotA : R2 := fun x y H Q => (y = .non ∧ Q (.bl (!decide (x = .non))) H) ∨ ∃ a b, x = .bl a ∧ y = .bl b ∧ Q (.bl (!(a == b))) H
theorem op_isB : OpR X (compareOp .Is) (fun x y H Q => ∃ a b, x = .bl a ∧ y = .bl b ∧ Q (.bl (a == b)) H) := by
  intro pins s σ H x y v u Q I rx ry hh
  obtain ⟨a, b, rfl, rfl, q⟩ := hh
  cases rx
  cases ry
  exact is_bool ⟨.bl _, H, I, rfl, q⟩
theorem op_isA : OpR X (compareOp .Is) rIsA := op_isN.or op_isB
theorem isnot_bool' {M : Model} {A : Around} {Q : Value → Shared → Prop} {E : Value → Shared → Prop} {s : Shared} {c d : Bool} (h : Q (.bool (!(c == d))) s) : wpAny M A (compareOp .IsNot (.bool c) (.bool d)) Q E s := by
  have e : isSame (.bool c) (.bool d) = pure (c == d) := by cases c <;> cases d <;> rfl
  show wpAny M A (do return Value.bool (!(← isSame (.bool c) (.bool d)))) Q E s
  rw [e]
  exact wpAny_bind (wpAny_pure (wpAny_pure h))
theorem op_isNotB : OpR X (compareOp .IsNot) (fun x y H Q => ∃ a b, x = .bl a ∧ y = .bl b ∧ Q (.bl (!(a == b))) H) := by
  intro pins s σ H x y v u Q I rx ry hh
  obtain ⟨a, b, rfl, rfl, q⟩ := hh
  cases rx
  cases ry
  exact isnot_bool' ⟨.bl _, H, I, rfl, q⟩
theorem op_isNotA : OpR X (compareOp .IsNot) rIsNotA := op_notN.or op_isNotB
theorem fIs_cases {d e : Dt} {z : Dt} (hz : fIs d e = some z) {h : Addr} {H : Hp} {x y : V} (hx : Den K mg h H x d) (hy : Den K mg h H y e) : (y = .non ∧ z = .bl (decide (x = .non))) ∨ ∃ a b, x = .bl a ∧ y = .bl b ∧ z = .bl (a == b) := by
  unfold fIs at hz
  split at hz <;> first
    | (cases hz; done)
    | (cases hz; cases hx; cases hy; exact .inr ⟨_, _, rfl, rfl, rfl⟩)
    | (cases hz; cases hx <;> cases hy; exact .inl ⟨rfl, rfl⟩)
theorem os_is : OpS K mg rIsA fIs := by
  intro h H0 H s x y d e z Q g0 hx hy hz q
  rcases fIs_cases hz hx hy with ⟨rfl, rfl⟩ | ⟨a, b, rfl, rfl, rfl⟩
  · exact .inl ⟨rfl, q _ H0 H (.refl _ _) g0 (.bl _)⟩
  · exact .inr ⟨a, b, rfl, rfl, q _ H0 H (.refl _ _) g0 (.bl _)⟩
theorem os_isNot : OpS K mg rIsNotA fIsNot := by
  intro h H0 H s x y d e z Q g0 hx hy hz q
  unfold fIsNot at hz
  split at hz
  · rename_i b hb
    cases hz
    rcases fIs_cases hb hx hy with ⟨rfl, eb⟩ | ⟨a, c, rfl, rfl, eb⟩
    · cases eb
      exact .inl ⟨rfl, q _ H0 H (.refl _ _) g0 (.bl _)⟩
    · cases eb
      exact .inr ⟨a, c, rfl, rfl, q _ H0 H (.refl _ _) g0 (.bl _)⟩
  · cases hz
theorem fInB_some {d e : Dt} {b : Bool} (h : fInB d e = some b) : ∃ es p qs, e = .lst es ∧ toPy d = some p ∧ toPy e = some (.list qs) ∧ SeqAt.shaped p = true ∧ SeqAt.shaped (.list qs) = true ∧ b = qs.any fun z => PyData.eqv z p := by
  unfold fInB at h
  split at h
  · rename_i es
    cases e1 : pyOk d with
    | none =>
      rw [e1] at h
      cases h
    | some p =>
      rw [e1] at h
      cases e2 : pyOk (.lst es) with
      | none =>
        rw [e2] at h
        cases h
      | some q =>
        rw [e2] at h
        obtain ⟨b1, b2⟩ := pyOk_some e1
        obtain ⟨c1, c2⟩ := pyOk_some e2
        cases q with
        | list qs =>
          cases h
          exact ⟨es, p, qs, rfl, b1, c1, b2, c2, rfl⟩
        | _ => cases h
  · cases h
theorem os_in : OpS K mg (rInD K) fIn := by
  intro h H0 H s x y d e z Q g0 hx hy hz q
  unfold fIn at hz
  cases hb : fInB d e with
  | none =>
    rw [hb] at hz
    cases hz
  | some b =>
    rw [hb] at hz
    cases hz
    obtain ⟨es, p, qs, rfl, a1, a2, a3, a4, rfl⟩ := fInB_some hb
    exact ⟨p, qs, (hx.mono g0.ex).dp a1, (hy.mono g0.ex).dp a2, a3, a4, q _ H0 H (.refl _ _) g0 (.bl _)⟩
theorem os_notIn : OpS K mg (rNotInD K) fNotIn := by
  intro h H0 H s x y d e z Q g0 hx hy hz q
  unfold fNotIn at hz
  cases hb : fInB d e with
  | none =>
    rw [hb] at hz
    cases hz
  | some b =>
    rw [hb] at hz
    cases hz
    obtain ⟨es, p, qs, rfl, a1, a2, a3, a4, rfl⟩ := fInB_some hb
    exact ⟨p, qs, (hx.mono g0.ex).dp a1, (hy.mono g0.ex).dp a2, a3, a4, q _ H0 H (.refl _ _) g0 (.bl _)⟩
end

/-! ### places, lengths, types -/
def fIx : Dt → Dt → Option Dt
  | .tup ds, .int i => atI ds i
  | .lst ds, .int i => atI ds i
  | .str x, .int i => if sizeOk x.length then (atI x.cps.toList i).map fun c => .str ⟨#[c]⟩ else none
  | _, _ => none
def fLen : List Dt → Option Dt
  | [.tup ds] => some (.int ds.length)
  | [.lst ds] => some (.int ds.length)
  | [.str x] => if sizeOk x.length then some (.int x.length) else none
  | _ => none
def fAbs : List Dt → Option Dt
  | [.int i] => some (.int (if i < 0 then -i else i))
  | _ => none
def fIntC : List Dt → Option Dt
  | [.int i] => some (.int i)
  | [.bl k] => some (.int (if k then 1 else 0))
  | _ => none
def fGcd : List Dt → Option Dt
  | [.int a, .int b] => some (.int ((Nat.gcd a.natAbs b.natAbs : Nat) : Int))
  | _ => none
def fListC : List Dt → Option Dt
  | [.tup ds] => some (.lst ds)
  | [.lst ds] => some (.lst ds)
  | _ => none
def fTupC : List Dt → Option Dt
  | [.tup ds] => some (.tup ds)
  | [.lst ds] => some (.tup ds)
  | _ => none
def tyN : Dt → Option String
  | .non => some "NoneType"
  | .bl _ => some "bool"
  | .int _ => some "int"
  | .str _ => some "str"
  | .tup _ => some "tuple"
  | .lst _ => some "list"
  | _ => none
def fIsi (T : String) (d : Dt) : Option Bool := (tyN d).bind fun n => kitB n T
section
variable {X : Cx} {K : Frag} {mg : Str → Option Value}
theorem DenA.atI' {h : Addr} {H : Hp} {vs : List V} {ds : List Dt} {i : Int} {z : Dt} (r : DenA K mg h H vs ds) (e : atI ds i = some z) : ∃ v, atI vs i = some v ∧ Den K mg h H v z := by
  have l := r.len
  unfold atI at e ⊢
  rw [l]
  cases hj : ixN ds.length i with
  | none =>
    rw [hj] at e
    cases e
  | some j =>
    rw [hj] at e
    exact r.get e
theorem os_ix : OpS K mg (rIx K) fIx := by
  intro h H0 H s x y d e z Q g0 hx hy hz q
  unfold fIx at hz
  split at hz
  · cases hy
    cases hx with
    | tup qa ra =>
      obtain ⟨v, a1, a2⟩ := ra.atI' hz
      exact .inr (.inl ⟨_, _, _, _, rfl, rfl, sqt_mono g0.ex qa, a1, q _ H0 H (.refl _ _) g0 a2⟩)
  · cases hy
    cases hx with
    | lst qa ra =>
      obtain ⟨v, a1, a2⟩ := ra.atI' hz
      exact .inl ⟨_, _, _, _, rfl, rfl, SqL.of (g0.ex _ _ qa), a1, q _ H0 H (.refl _ _) g0 a2⟩
  · split at hz
    · rename_i x i c
      cases hy
      cases hx
      cases ha : atI x.cps.toList i with
      | none =>
        rw [ha] at hz
        cases hz
      | some k =>
        rw [ha] at hz
        cases hz
        exact .inr (.inr ⟨_, _, _, rfl, rfl, c.le, ha, q _ H0 H (.refl _ _) g0 (.str _)⟩)
    · cases hz
  · cases hz
def rLenA (K : Frag) : List V → Hp → VK → Prop := fun xs H Q => (∃ p ys, xs = [.ref p] ∧ (SqL K H p ys ∨ SqT K H p ys) ∧ Q (.int ys.length) H) ∨ (∃ z : Str, xs = [.str z] ∧ z.length ≤ sizeLine ∧ Q (.int z.length) H)
theorem cs_len : CaS K mg (rLenA K) fLen := by
  intro h H0 H s xs ds z Q g0 hx hz q
  unfold fLen at hz
  split at hz
  · cases hz
    cases hx with
    | cons a r =>
      cases r
      cases a with
      | tup qa ra => exact .inl ⟨_, _, rfl, .inr (sqt_mono g0.ex qa), by rw [ra.len]; exact q _ H0 H (.refl _ _) g0 (.int _)⟩
  · cases hz
    cases hx with
    | cons a r =>
      cases r
      cases a with
      | lst qa ra => exact .inl ⟨_, _, rfl, .inl (SqL.of (g0.ex _ _ qa)), by rw [ra.len]; exact q _ H0 H (.refl _ _) g0 (.int _)⟩
  · split at hz
    · rename_i c
      cases hz
      cases hx with
      | cons a r =>
        cases r
        cases a
        exact .inr ⟨_, rfl, c.le, q _ H0 H (.refl _ _) g0 (.int _)⟩
    · cases hz
  · cases hz
theorem call_lenA : CallR X (.builtin "len") (rLenA X.K) := call_len_seq.or call_len_str
theorem cs_abs : CaS K mg (fun xs H Q => ∃ i, xs = [.int i] ∧ Q (.int (if i < 0 then -i else i)) H) fAbs := by
  intro h H0 H s xs ds z Q g0 hx hz q
  unfold fAbs at hz
  split at hz
  · cases hz
    cases hx with
    | cons a r =>
      cases r
      cases a
      exact ⟨_, rfl, q _ H0 H (.refl _ _) g0 (.int _)⟩
  · cases hz
theorem cs_int : CaS K mg (fun xs H Q => (∃ i, xs = [.int i] ∧ Q (.int i) H) ∨ ∃ k, xs = [.bl k] ∧ Q (.int (if k then 1 else 0)) H) fIntC := by
  intro h H0 H s xs ds z Q g0 hx hz q
  unfold fIntC at hz
  split at hz
  · cases hz
    cases hx with
    | cons a r =>
      cases r
      cases a
      exact .inl ⟨_, rfl, q _ H0 H (.refl _ _) g0 (.int _)⟩
  · cases hz
    cases hx with
    | cons a r =>
      cases r
      cases a
      exact .inr ⟨_, rfl, q _ H0 H (.refl _ _) g0 (.int _)⟩
  · cases hz
theorem cs_gcd : CaS K mg rGcd fGcd := by
  intro h H0 H s xs ds z Q g0 hx hz q
  unfold fGcd at hz
  split at hz
  · cases hz
    cases hx with
    | cons a r =>
      cases r with
      | cons b r =>
        cases r
        cases a
        cases b
        exact ⟨_, _, rfl, q _ H0 H (.refl _ _) g0 (.int _)⟩
  · cases hz
theorem cs_list : CaS K mg (fun xs H Q => ∃ p ys, xs = [.ref p] ∧ (SqL K H p ys ∨ SqT K H p ys) ∧ ∀ l, H l = none → Q (.ref l) (upd H l (.lst ys))) fListC := by
  intro h H0 H s xs ds z Q g0 hx hz q
  unfold fListC at hz
  split at hz
  · cases hz
    cases hx with
    | cons a r =>
      cases r
      cases a with
      | tup qa ra =>
        refine ⟨_, _, rfl, .inr (sqt_mono g0.ex qa), fun p hp => ?_⟩
        obtain ⟨g1, st⟩ := g0.alloc (o := .lst _) hp
        exact q _ _ _ st g1 (.lst upd_same (ra.mono st.s0))
  · cases hz
    cases hx with
    | cons a r =>
      cases r
      cases a with
      | lst qa ra =>
        refine ⟨_, _, rfl, .inl (SqL.of (g0.ex _ _ qa)), fun p hp => ?_⟩
        obtain ⟨g1, st⟩ := g0.alloc (o := .lst _) hp
        exact q _ _ _ st g1 (.lst upd_same (ra.mono st.s0))
  · cases hz
theorem cs_tuple : CaS K mg (fun xs H Q => ∃ p ys, xs = [.ref p] ∧ ((SqL K H p ys ∧ ∀ l, H l = none → Q (.ref l) (upd H l (.tup ys))) ∨ (SqT K H p ys ∧ Q (.ref p) H))) fTupC := by
  intro h H0 H s xs ds z Q g0 hx hz q
  unfold fTupC at hz
  split at hz
  · cases hz
    cases hx with
    | cons a r =>
      cases r
      cases a with
      | tup qa ra => exact ⟨_, _, rfl, .inr ⟨sqt_mono g0.ex qa, q _ H0 H (.refl _ _) g0 (.tup qa ra)⟩⟩
  · cases hz
    cases hx with
    | cons a r =>
      cases r
      cases a with
      | lst qa ra =>
        refine ⟨_, _, rfl, .inl ⟨SqL.of (g0.ex _ _ qa), fun p hp => ?_⟩⟩
        obtain ⟨g1, st⟩ := g0.alloc (o := .tup _) hp
        exact q _ _ _ st g1 (.tup (SqT.of upd_same) (ra.mono st.s0))
  · cases hz
theorem TyX.of {h : Addr} {H : Hp} {x : V} {d : Dt} {n : String} (q : Den K mg h H x d) (e : tyN d = some n) : TyX K H x (.type n) := by
  cases q with
  | non =>
    cases e
    exact .base .non
  | bl b =>
    cases e
    exact .base (.bl b)
  | int i =>
    cases e
    exact .base (.int i)
  | str x =>
    cases e
    exact .base (.str x)
  | tup q r =>
    cases e
    rcases q with (q | ⟨o, q⟩) | ⟨o, its, n, q1, q2, _⟩
    · exact .base (.tup q)
    · exact .fTuple q
    · exact .kTuple q1 q2
  | lst q r =>
    cases e
    exact .base (.lst q)
  | obj _ _ _ => cases e
  | hnd => cases e
end
end Mir


set_option Elab.async false
set_option linter.all false
set_option maxRecDepth 100000
namespace Mir
open PySem PySem.Spec PyProof.Rows L2
open PySem.W (Frag)

/-! ### expressions -/
section
variable {K : Frag} {mg : Str → Option Value} {Wx : WX} {ta tb : TE} {a b : ME} {tt tu : TT} {mt mu : MT} {t : TA} {as : MA}
theorem se_var {i : Nat} : SE K mg Wx (tVar i) (mVar i) := by
  intro h H0 H s σ ρ Q g S p
  unfold mVar at p
  split at p
  · rename_i d e
    obtain ⟨v, e1, q⟩ := S.dat e
    exact ⟨v, e1, p v H0 H (.refl _ _) g q⟩
  · exact p.elim
theorem se_c {v : V} {d : Dt} (hd : ∀ (h : Addr) (H : Hp), Den K mg h H v d) : SE K mg Wx (tC v) (mC d) := fun h H0 H s σ ρ Q g S p => p v H0 H (.refl _ _) g (hd h H0)
theorem post_lift {α : Type} {h : Ent} {H0 H : Hp} {rel : Hp → α → Dt → Prop} {o : Option Dt} {s : Hd} {Q : α → Hp → Prop} (p : Post K mg h rel (liftO o s) H0 H Wx Q) : ∃ z, o = some z ∧ Post K mg h rel (.ok z s) H0 H Wx Q := by
  cases o with
  | none => exact p.elim
  | some z => exact ⟨z, rfl, p⟩
theorem se_op {r : R2} {f : Dt → Dt → Option Dt} (hr : OpS K mg r f) (ha : SE K mg Wx ta a) (hb : SE K mg Wx tb b) : SE K mg Wx (tOp r ta tb) (mOp f a b) := by
  intro h H0 H s σ ρ Q g S p
  refine ha h H0 H s σ ρ _ g S (Post.bind p fun d s1 x A B st g1 dx p1 => hb h A B s1 σ ρ _ g1 (S.step st) (Post.bind p1 fun e s2 y A2 B2 st2 g2 dy p2 => ?_))
  obtain ⟨z, hz, p3⟩ := post_lift p2
  exact hr h A2 B2 s2 x y d e z Q g2 (dx.mono st2.s0) dy hz fun u A3 B3 st3 g3 du => p3 u A3 B3 st3 g3 du
theorem se_un {r : V → Hp → VK → Prop} {f : Dt → Option Dt} (hr : UnS K mg r f) (ha : SE K mg Wx ta a) : SE K mg Wx (tUn r ta) (mUn f a) := by
  intro h H0 H s σ ρ Q g S p
  refine ha h H0 H s σ ρ _ g S (Post.bind p fun d s1 x A B st g1 dx p1 => ?_)
  obtain ⟨z, hz, p3⟩ := post_lift p1
  exact hr h A B s1 x d z Q g1 dx hz fun u A3 B3 st3 g3 du => p3 u A3 B3 st3 g3 du
theorem st_test (ha : SE K mg Wx ta a) : ST K mg Wx (tTest ta) (mTest a) := by
  intro h H0 H s σ ρ Q g S p
  refine ha h H0 H s σ ρ _ g S (Post.bind p fun d s1 x A B st g1 dx p1 => ?_)
  cases dx with
  | bl k => exact ⟨k, rfl, p1 k A B (.refl _ _) g1 rfl⟩
  | _ => exact p1.elim
theorem truV {h : Addr} {H0 H : Hp} {x : V} {d : Dt} {k : Bool} (e : Same H0 H) (q : Den K mg h H0 x d) (hk : fTru d = some k) : TruV K x H k := by
  cases q with
  | non =>
    cases hk
    rfl
  | bl b =>
    cases hk
    rfl
  | int i =>
    cases hk
    rfl
  | str y =>
    have hk : (if y.length ≤ 100000 then some ((y.length : Int) != 0) else none) = some k := hk
    by_cases c : y.length ≤ 100000
    · rw [if_pos c] at hk
      cases hk
      exact ⟨sizeOk.le c, rfl⟩
    · rw [if_neg c] at hk
      cases hk
  | tup q r =>
    cases hk
    refine .inr (.inl ⟨_, sqt_mono e q, ?_⟩)
    cases r <;> rfl
  | lst q r =>
    cases hk
    refine .inl ⟨_, SqL.of (e _ _ q), ?_⟩
    cases r <;> rfl
  | obj _ _ _ => cases hk
  | hnd => cases hk
theorem post_liftB {h : Ent} {H0 H : Hp} {o : Option Bool} {s : Hd} {Q : Bool → Hp → Prop} (p : Post K mg h EqB (liftO o s) H0 H Wx Q) : ∃ z, o = some z ∧ Post K mg h EqB (.ok z s) H0 H Wx Q := by
  cases o with
  | none => exact p.elim
  | some z => exact ⟨z, rfl, p⟩
theorem st_tru (ha : SE K mg Wx ta a) : ST K mg Wx (fun σ H Q => ta σ H fun x H' => ∃ k, TruV K x H' k ∧ Q k H') (mTru a) := by
  intro h H0 H s σ ρ Q g S p
  refine ha h H0 H s σ ρ _ g S (Post.bind p fun d s1 x A B st g1 dx p1 => ?_)
  obtain ⟨k, hk, p2⟩ := post_liftB p1
  exact ⟨k, truV g1.ex dx hk, p2 k A B (.refl _ _) g1 rfl⟩
theorem st_and (ha : ST K mg Wx tt mt) (hb : ST K mg Wx tu mu) : ST K mg Wx (tAnd tt tu) (mAnd mt mu) := by
  intro h H0 H s σ ρ Q g S p
  refine ha h H0 H s σ ρ _ g S (Post.bind p fun d s1 x A B st g1 dx p1 => ?_)
  cases (show x = d from dx)
  cases d with
  | true => exact hb h A B s1 σ ρ Q g1 (S.step st) p1
  | false => exact p1 false A B (.refl _ _) g1 rfl
theorem st_or (ha : ST K mg Wx tt mt) (hb : ST K mg Wx tu mu) : ST K mg Wx (tOr tt tu) (mOr mt mu) := by
  intro h H0 H s σ ρ Q g S p
  refine ha h H0 H s σ ρ _ g S (Post.bind p fun d s1 x A B st g1 dx p1 => ?_)
  cases (show x = d from dx)
  cases d with
  | false => exact hb h A B s1 σ ρ Q g1 (S.step st) p1
  | true => exact p1 true A B (.refl _ _) g1 rfl
theorem st_not (ha : ST K mg Wx tt mt) : ST K mg Wx (tNot tt) (mNot mt) := by
  intro h H0 H s σ ρ Q g S p
  refine ha h H0 H s σ ρ _ g S (Post.bind p fun d s1 x A B st g1 dx p1 => ?_)
  cases (show x = d from dx)
  exact p1 _ A B (.refl _ _) g1 rfl
theorem se_if (ht : ST K mg Wx tt mt) (ha : SE K mg Wx ta a) (hb : SE K mg Wx tb b) : SE K mg Wx (tIf tt ta tb) (mIf mt a b) := by
  intro h H0 H s σ ρ Q g S p
  refine ht h H0 H s σ ρ _ g S (Post.bind p fun d s1 x A B st g1 dx p1 => ?_)
  cases (show x = d from dx)
  cases d with
  | true => exact ha h A B s1 σ ρ Q g1 (S.step st) p1
  | false => exact hb h A B s1 σ ρ Q g1 (S.step st) p1
theorem se_andV (ha : SE K mg Wx ta a) (hb : SE K mg Wx tb b) : SE K mg Wx (tAndT K ta tb) (mAndV a b) := by
  intro h H0 H s σ ρ Q g S p
  refine ha h H0 H s σ ρ _ g S (Post.bind p fun d s1 x A B st g1 dx p1 => ?_)
  cases hk : fTru d with
  | none =>
    rw [hk] at p1
    exact p1.elim
  | some k =>
    rw [hk] at p1
    refine ⟨k, truV g1.ex dx hk, ?_⟩
    cases k with
    | true => exact hb h A B s1 σ ρ Q g1 (S.step st) p1
    | false => exact p1 x A B (.refl _ _) g1 dx
theorem se_orV (ha : SE K mg Wx ta a) (hb : SE K mg Wx tb b) : SE K mg Wx (tOrT K ta tb) (mOrV a b) := by
  intro h H0 H s σ ρ Q g S p
  refine ha h H0 H s σ ρ _ g S (Post.bind p fun d s1 x A B st g1 dx p1 => ?_)
  cases hk : fTru d with
  | none =>
    rw [hk] at p1
    exact p1.elim
  | some k =>
    rw [hk] at p1
    refine ⟨k, truV g1.ex dx hk, ?_⟩
    cases k with
    | false => exact hb h A B s1 σ ρ Q g1 (S.step st) p1
    | true => exact p1 x A B (.refl _ _) g1 dx
theorem se_notV (ha : SE K mg Wx ta a) : SE K mg Wx (tNotT K ta) (mNotV a) := by
  intro h H0 H s σ ρ Q g S p
  refine ha h H0 H s σ ρ _ g S (Post.bind p fun d s1 x A B st g1 dx p1 => ?_)
  cases hk : fTru d with
  | none =>
    rw [hk] at p1
    exact p1.elim
  | some k =>
    rw [hk] at p1
    exact ⟨k, truV g1.ex dx hk, p1 _ A B (.refl _ _) g1 (.bl _)⟩
theorem sa_nil : SA K mg Wx tNil mNil := fun h H0 H s σ ρ Q g S p => p [] H0 H (.refl _ _) g .nil
theorem sa_cons (ha : SE K mg Wx ta a) (hr : SA K mg Wx t as) : SA K mg Wx (tCons ta t) (mCons a as) := by
  intro h H0 H s σ ρ Q g S p
  refine ha h H0 H s σ ρ _ g S (Post.bind p fun d s1 x A B st g1 dx p1 => hr h A B s1 σ ρ _ g1 (S.step st) (Post.bind p1 fun ds s2 xs A2 B2 st2 g2 dxs p2 => ?_))
  exact p2 (x :: xs) A2 B2 (.refl _ _) g2 (.cons (dx.mono st2.s0) dxs)
theorem se_tup (ha : SA K mg Wx t as) : SE K mg Wx (tTup t) (mTup as) := by
  intro h H0 H s σ ρ Q g S p
  refine ha h H0 H s σ ρ _ g S (Post.bind p fun ds s1 xs A B st g1 dx p1 => ?_)
  by_cases c : ds.length ≤ 100000
  · rw [if_pos c] at p1
    refine ⟨by rw [dx.len]; exact sizeOk.le c, fun q hq => ?_⟩
    obtain ⟨g2, st2⟩ := g1.alloc (o := .tup xs) hq
    exact p1 _ _ _ st2 g2 (.tup (SqT.of upd_same) (dx.mono st2.s0))
  · rw [if_neg c] at p1
    exact p1.elim
theorem se_lst (ha : SA K mg Wx t as) : SE K mg Wx (tLst t) (mLst as) := by
  intro h H0 H s σ ρ Q g S p
  refine ha h H0 H s σ ρ _ g S (Post.bind p fun ds s1 xs A B st g1 dx p1 => ?_)
  by_cases c : ds.length ≤ 100000
  · rw [if_pos c] at p1
    refine ⟨by rw [dx.len]; exact sizeOk.le c, fun q hq => ?_⟩
    obtain ⟨g2, st2⟩ := g1.alloc (o := .lst xs) hq
    exact p1 _ _ _ st2 g2 (.lst upd_same (dx.mono st2.s0))
  · rw [if_neg c] at p1
    exact p1.elim
theorem se_cb {r : List V → Hp → VK → Prop} {f : List Dt → Option Dt} (hr : CaS K mg r f) (ha : SA K mg Wx t as) : SE K mg Wx (tCB r t) (mCB f as) := by
  intro h H0 H s σ ρ Q g S p
  refine ha h H0 H s σ ρ _ g S (Post.bind p fun ds s1 xs A B st g1 dx p1 => ?_)
  obtain ⟨z, hz, p3⟩ := post_lift p1
  exact hr h A B s1 xs ds z Q g1 dx hz fun u A3 B3 st3 g3 du => p3 u A3 B3 st3 g3 du
end

/-! ### calls of defs -/
section
variable (K : Frag) (mg : Str → Option Value)
def PostC (h : Addr) (r : R Dt) (H0 H : Hp) (E : XK) (Q : VK) : Prop := match r with
  | .ok d s => ∀ v H0' H', Step h H0 H H0' H' → G h H0' H' s → Den K mg h H0' v d → Q v H'
  | .err c fs _ s => ∀ (C : Addr) (od : Option Addr) (H0' H' : Hp), Step h H0 H H0' H' → G h H0' H' s → mg c = some (.ref C) → XdOk K mg h H0' H' od fs → E (.ref C) od H'
  | .bad => False
/-- the promise: what m says -/
def spM (n : Nat) (m : List Dt → Hd → R Dt) : Sp := fun vs H Q E => vs.length = n ∧ ∃ (h : Addr) (H0 : Hp) (s : Hd) (ds : List Dt), G h H0 H s ∧ DenA K mg h H0 vs ds ∧ PostC K mg h (m ds s) H0 H E Q
end
section
variable {K : Frag} {mg : Str → Option Value} {Wx : WX} {t : TA} {as : MA}
theorem se_call {n : Nat} {dvs : List V} {dd : List Dt} {m : List Dt → Hd → R Dt} (hd : ∀ (h : Addr) (H : Hp), DenA K mg h H dvs dd) (ha : SA K mg Wx t as) : SE K mg Wx (tCallSD (spM K mg n m) dvs (WE Wx) t) (mCall n dd m as) := by
  intro h H0 H s σ ρ Q g S p
  refine ha h H0 H s σ ρ _ g S (Post.bind p fun ds s1 xs A B st g1 dx p1 => ?_)
  by_cases c : (ds ++ dd).length = n
  · rw [if_pos c] at p1
    have dx2 := dx.append (hd h A)
    refine ⟨by rw [dx2.len]; exact c, h, A, s1, ds ++ dd, g1, dx2, ?_⟩
    cases hm : m (ds ++ dd) s1 with
    | ok d s2 =>
      rw [hm] at p1
      exact p1
    | err cc fs ρ' s2 =>
      rw [hm] at p1
      exact fun C e A2 B2 st2 g2 mc x => p1 σ C e A2 B2 st2.s0 g2 (S.step (st.trans st2)) mc x
    | bad =>
      rw [hm] at p1
      exact p1.elim
  · rw [if_neg c] at p1
    exact p1.elim
end

section
variable {X : Cx} {Wx : WX} {a b c e : Expr} {ma mb mc : ME} {mt mu : MT} {as : MA} {rest es : List Expr} {pos p : Pos}
theorem qe_var (i : Nat) {x : Str} (hN : X.N[i]? = some x := by rfl) (hv : Vis X.env.scope x := by first | exact Or.inl rfl | exact Or.inr (Or.inl rfl) | exact Or.inr (Or.inr rfl)) (hd : (x == ("__debug__" : Str)) = false := by decide)
    (hcd : (x == ("__classdict__" : Str)) = false := by decide) : QE X Wx (.Name x pos) (mVar i) := ⟨_, pe_var hN hv hd hcd, se_var⟩
theorem qe_int {i j} : QE X Wx (.Constant (.int i) j pos) (mC (.int i)) := ⟨_, pe_int, se_c fun _ _ => .int i⟩
theorem qe_bl {i j} : QE X Wx (.Constant (.bool i) j pos) (mC (.bl i)) := ⟨_, pe_bl, se_c fun _ _ => .bl i⟩
theorem qe_non {j} : QE X Wx (.Constant .none j pos) (mC .non) := ⟨_, pe_non, se_c fun _ _ => .non⟩
theorem qe_str {x j} : QE X Wx (.Constant (.str x) j pos) (mC (.str x)) := ⟨_, pe_str, se_c fun _ _ => .str x⟩
/-- a module's constant -/
theorem qe_glob {x : Str} {v : V} {u : Value} {d : Dt} (hg : Gl X x) (hm : X.mg x = some u) (r : RelV v u) (hd : ∀ (h : Addr) (H : Hp), Den X.K X.mg h H v d) (hdb : (x == ("__debug__" : Str)) = false := by decide) : QE X Wx (.Name x pos) (mC d) :=
  ⟨_, pe_glob hg hm r hdb, se_c hd⟩
theorem qe_op {op : Operator} {r : R2} {f : Dt → Dt → Option Dt} (ho : OpR X (binaryOp op) r) (hs : OpS X.K X.mg r f) (ha : QE X Wx a ma) (hb : QE X Wx b mb) : QE X Wx (.BinOp a op b pos) (mOp f ma mb) := by
  obtain ⟨ta, pa, sa⟩ := ha
  obtain ⟨tb, pb, sb⟩ := hb
  exact ⟨_, pe_op ho pa pb, se_op hs sa sb⟩
theorem qe_un {op : UnaryOp} {r : V → Hp → VK → Prop} {f : Dt → Option Dt} (ho : UnR X (unaryOp op) r) (hs : UnS X.K X.mg r f) (ha : QE X Wx a ma) : QE X Wx (.UnaryOp op a pos) (mUn f ma) := by
  obtain ⟨ta, pa, sa⟩ := ha
  exact ⟨_, pe_un ho pa, se_un hs sa⟩
theorem qe_cmp {op : CmpOp} {r : R2} {f : Dt → Dt → Option Dt} (ho : OpR X (compareOp op) r) (hs : OpS X.K X.mg r f) (ha : QE X Wx a ma) (hb : QE X Wx b mb) (hm : behindInMarks op b = false) : QE X Wx (.Compare a [op] [b] pos) (mOp f ma mb) := by
  obtain ⟨ta, pa, sa⟩ := ha
  obtain ⟨tb, pb, sb⟩ := hb
  exact ⟨_, pe_cmpR ho pa pb hm, se_op hs sa sb⟩
theorem qt_cmp {op : CmpOp} {r : R2} {f : Dt → Dt → Option Dt} (ho : OpR X (compareOp op) r) (hs : OpS X.K X.mg r f) (ha : QE X Wx a ma) (hb : QE X Wx b mb) (hm : behindInMarks op b = false) : QT X Wx (.Compare a [op] [b] pos) (mTest (mOp f ma mb)) := by
  obtain ⟨ta, pa, sa⟩ := ha
  obtain ⟨tb, pb, sb⟩ := hb
  exact ⟨_, pt_cmpR ho pa pb hm, st_test (se_op hs sa sb)⟩
theorem qt_tru (ha : QE X Wx a ma) (he : ∀ whole, isTrue a X.env whole = (do let v ← whole; standAt a.pos; holding [v] (truthy v)) := by intro _; rfl) : QT X Wx a (mTru ma) := by
  obtain ⟨ta, pa, sa⟩ := ha
  exact ⟨_, pt_truth pa he, st_tru sa⟩
theorem qt_w (h : QW X Wx a mt) : QT X Wx a mt := by
  obtain ⟨t, pw, s⟩ := h
  exact ⟨t, pw.pt, s⟩
theorem qw_and1 (h : QT X Wx a mt) : QW X Wx (.BoolOp .And [a] pos) mt := by
  obtain ⟨t, pw, s⟩ := h
  exact ⟨t, pw_and1 pw, s⟩
theorem qw_or1 (h : QT X Wx a mt) : QW X Wx (.BoolOp .Or [a] pos) mt := by
  obtain ⟨t, pw, s⟩ := h
  exact ⟨t, pw_or1 pw, s⟩
theorem qw_and (h : QT X Wx a mt) (h2 : QW X Wx (.BoolOp .And (b :: rest) pos) mu) : QW X Wx (.BoolOp .And (a :: b :: rest) pos) (mAnd mt mu) := by
  obtain ⟨t, pw, s⟩ := h
  obtain ⟨t2, pw2, s2⟩ := h2
  exact ⟨_, pw_and pw pw2, st_and s s2⟩
theorem qw_or (h : QT X Wx a mt) (h2 : QW X Wx (.BoolOp .Or (b :: rest) pos) mu) : QW X Wx (.BoolOp .Or (a :: b :: rest) pos) (mOr mt mu) := by
  obtain ⟨t, pw, s⟩ := h
  obtain ⟨t2, pw2, s2⟩ := h2
  exact ⟨_, pw_or pw pw2, st_or s s2⟩
theorem qt_not (h : QT X Wx a mt) : QT X Wx (.UnaryOp .Not a pos) (mNot mt) := by
  obtain ⟨t, pw, s⟩ := h
  exact ⟨_, pt_not pw, st_not s⟩
theorem qe_one {op} (h : QE X Wx a ma) : QE X Wx (.BoolOp op [a] pos) ma := by
  obtain ⟨t, pw, s⟩ := h
  exact ⟨_, pe_one pw, s⟩
theorem qe_and (h : QE X Wx a ma) (h2 : QE X Wx (.BoolOp .And (b :: rest) pos) mb) : QE X Wx (.BoolOp .And (a :: b :: rest) pos) (mAndV ma mb) := by
  obtain ⟨t, pw, s⟩ := h
  obtain ⟨t2, pw2, s2⟩ := h2
  exact ⟨_, pe_andT pw pw2, se_andV s s2⟩
theorem qe_or (h : QE X Wx a ma) (h2 : QE X Wx (.BoolOp .Or (b :: rest) pos) mb) : QE X Wx (.BoolOp .Or (a :: b :: rest) pos) (mOrV ma mb) := by
  obtain ⟨t, pw, s⟩ := h
  obtain ⟨t2, pw2, s2⟩ := h2
  exact ⟨_, pe_orT pw pw2, se_orV s s2⟩
theorem qe_not (h : QE X Wx a ma) : QE X Wx (.UnaryOp .Not a pos) (mNotV ma) := by
  obtain ⟨t, pw, s⟩ := h
  exact ⟨_, pe_notT pw, se_notV s⟩
theorem qe_if (h : QT X Wx c mt) (ha : QE X Wx a ma) (hb : QE X Wx b mb) : QE X Wx (.IfExp c a b pos) (mIf mt ma mb) := by
  obtain ⟨t, pw, s⟩ := h
  obtain ⟨ta, pa, sa⟩ := ha
  obtain ⟨tb, pb, sb⟩ := hb
  exact ⟨_, pe_ifExp pw pa pb, se_if s sa sb⟩
theorem qa_nil : QA X Wx [] mNil := ⟨_, pa_nil, sa_nil⟩
theorem qa_cons (ha : QE X Wx e ma) (hr : QA X Wx es as) (hs : starEach (e :: es) X.env = (false, eval e X.env) :: starEach es X.env := by rfl) : QA X Wx (e :: es) (mCons ma as) := by
  obtain ⟨ta, pa, sa⟩ := ha
  obtain ⟨tr, pr, sr⟩ := hr
  exact ⟨_, pa_cons pa pr hs, sa_cons sa sr⟩
theorem qe_tup {x1} (h : QA X Wx es as) : QE X Wx (.Tuple es x1 pos) (mTup as) := by
  obtain ⟨t, q, s⟩ := h
  exact ⟨_, pe_tup q, se_tup s⟩
theorem qe_lst (h : QA X Wx es as) : QE X Wx (.List es pos) (mLst as) := by
  obtain ⟨t, q, s⟩ := h
  exact ⟨_, pe_lst q, se_lst s⟩
theorem qe_ix (ha : QE X Wx a ma) (hb : QE X Wx b mb) (hs : PlainIx b := by exact fun _ _ => rfl) : QE X Wx (.Subscript a b pos) (mOp fIx ma mb) := by
  obtain ⟨ta, pa, sa⟩ := ha
  obtain ⟨tb, pb, sb⟩ := hb
  exact ⟨_, pe_ix ix_seq pa pb hs, se_op os_ix sa sb⟩
variable {x : Str} {id T : String} {r : List V → Hp → VK → Prop} {f : List Dt → Option Dt}
theorem qe_callB (hc : CallR X (.builtin id) r) (hs : CaS X.K X.mg r f) (hg : Gl X x) (hm : X.mg x = none) (hv : bootBuiltins x = some (.builtin id)) (ha : QA X Wx (e :: es) as) (hn : x ≠ "__name__" := by decide) (hdb : (x == ("__debug__" : Str)) = false := by decide)
    (he : starEach (e :: es) X.env = (false, eval e X.env) :: starEach es X.env := by rfl) (hpl : (backTo pos (starEach es X.env)).any (·.1) = false := by rfl) : QE X Wx (.Call (.Name x p) (e :: es) [] pos) (mCB f as) := by
  obtain ⟨t, q, s⟩ := ha
  exact ⟨_, pe_callB hc hg hm hv q hn hdb he hpl, se_cb hs s⟩
theorem qe_callTy (hc : CallR X (.type T) r) (hs : CaS X.K X.mg r f) (hg : Gl X x) (hm : X.mg x = none) (hv : bootBuiltins x = some (.type T)) (ha : QA X Wx (e :: es) as) (hn : x ≠ "__name__" := by decide) (hdb : (x == ("__debug__" : Str)) = false := by decide)
    (he : starEach (e :: es) X.env = (false, eval e X.env) :: starEach es X.env := by rfl) (hpl : (backTo pos (starEach es X.env)).any (·.1) = false := by rfl) : QE X Wx (.Call (.Name x p) (e :: es) [] pos) (mCB f as) := by
  obtain ⟨t, q, s⟩ := ha
  exact ⟨_, pe_callTy hc hg hm hv q hn hdb he hpl, se_cb hs s⟩
theorem qe_callBfun (hc : CallR X (.builtin id) r) (hs : CaS X.K X.mg r f) (hg : Gl X x) (hm : X.mg x = some (.builtin id)) (ha : QA X Wx (e :: es) as) (hdb : (x == ("__debug__" : Str)) = false := by decide)
    (he : starEach (e :: es) X.env = (false, eval e X.env) :: starEach es X.env := by rfl) (hpl : (backTo pos (starEach es X.env)).any (·.1) = false := by rfl) : QE X Wx (.Call (.Name x p) (e :: es) [] pos) (mCB f as) := by
  obtain ⟨t, q, s⟩ := ha
  exact ⟨_, pe_callBfun hc hg hm q hdb he hpl, se_cb hs s⟩
/-- f(e, ..) -/
theorem qe_call {k n : Nat} {fa : Addr} {fd : FuncData} {ps : List Str} {m : List Dt → Hd → R Dt} {dvs : List V} {dd : List Dt} {dsV : List Value} (F : FnOk X.prog X.w X.K X.mg X.base (L2.CX X.prog X.w) k fa fd ps (spM X.K X.mg n m)) (hr : Room k X.A) (hg : Gl X x)
    (hm : X.mg x = some (.ref fa)) (hk : PySem.W.keepIn X.K (.ref fa) = true) (hb : Binds X.K fd ps dsV) (hd : Vals dvs dsV) (hdd : ∀ (h : Addr) (H : Hp), DenA X.K X.mg h H dvs dd) (tk : Takes X Wx) (ha : QA X Wx (e :: es) as)
    (hdb : (x == ("__debug__" : Str)) = false := by decide) (he : starEach (e :: es) X.env = (false, eval e X.env) :: starEach es X.env := by rfl) (hpl : (backTo pos (starEach es X.env)).any (·.1) = false := by rfl) :
    QE X Wx (.Call (.Name x p) (e :: es) [] pos) (mCall n dd m as) := by
  obtain ⟨t, q, s⟩ := ha
  exact ⟨_, pe_callSD F hr hg hm hk hb hd (fun σ => passAt tk σ) q hdb he hpl, se_call hdd s⟩
end
/-! ### isinstance -/
def mIsi (T : String) (a : ME) : ME := fun ρ s => (a ρ s).bind fun d s1 => liftO ((fIsi T d).map Dt.bl) s1
section
variable {X : Cx} {Wx : WX} {a : Expr} {ma : ME} {pos p p2 : Pos} {T : String} {x : Str}
theorem qe_isi (ha : QE X Wx a ma) (hg : Gl X "isinstance") (hm : X.mg "isinstance" = none) (hgT : Gl X x) (hmT : X.mg x = none) (hvT : bootBuiltins x = some (.type T)) (hn : x ≠ "__name__" := by decide) (hdb : (x == ("__debug__" : Str)) = false := by decide)
    (he : starEach [a, .Name x p2] X.env = (false, eval a X.env) :: starEach [.Name x p2] X.env := by rfl) (he2 : starEach [.Name x p2] X.env = (false, eval (.Name x p2) X.env) :: starEach [] X.env := by rfl)
    (hpl : (backTo pos (starEach [.Name x p2] X.env)).any (·.1) = false := by rfl) : QE X Wx (.Call (.Name "isinstance" p) [a, .Name x p2] [] pos) (mIsi T ma) := by
  obtain ⟨ta, pa, sa⟩ := ha
  refine ⟨_, pe_callB call_isi hg hm (by decide +kernel) (pa_cons pa (pa_cons (pe_bltn (v := .ty T) hgT hmT hvT rfl hn hdb) pa_nil he2) he) (by decide) (by decide) he hpl, ?_⟩
  intro h H0 H s σ ρ Q g S pp
  refine sa h H0 H s σ ρ _ g S (Post.bind pp fun d s1 x A B st g1 dx p1 => ?_)
  obtain ⟨z, hz, p3⟩ := post_lift p1
  unfold fIsi at hz
  cases ht : tyN d with
  | none =>
    rw [ht] at hz
    cases hz
  | some n =>
    rw [ht] at hz
    have hz : (kitB n T).map Dt.bl = some z := hz
    cases hb : kitB n T with
    | none =>
      rw [hb] at hz
      cases hz
    | some b =>
      rw [hb] at hz
      cases hz
      exact ⟨x, .ty T, .type n, .type T, b, rfl, .ty T, TyX.of (dx.mono g1.ex) ht, kit_ty hb, p3 _ A B (.refl _ _) g1 (.bl b)⟩
end
end Mir


set_option Elab.async false
set_option linter.all false
set_option maxRecDepth 100000
namespace Mir
open PySem PySem.Spec PyProof.Rows L2
open PySem.W (Frag)

/-! ### statements -/
def mNext : MS := fun ρ s => .ok (.nx ρ) s
def mSeq (a b : MS) : MS := fun ρ s => match a ρ s with
  | .ok (.nx ρ') s' => b ρ' s'
  | .ok (.rt d) s' => .ok (.rt d) s'
  | .ok (.bk ρ') s' => .ok (.bk ρ') s'
  | .ok (.ct ρ') s' => .ok (.ct ρ') s'
  | .err c fs ρ' s' => .err c fs ρ' s'
  | .bad => .bad
def mSet (i : Nat) (a : ME) : MS := fun ρ s => (a ρ s).bind fun d s1 => .ok (.nx (ρ.set i (.dat d))) s1
def mRet (a : ME) : MS := fun ρ s => (a ρ s).bind fun d s1 => .ok (.rt d) s1
def mRetN : MS := fun _ s => .ok (.rt .non) s
def mDrop (a : ME) : MS := fun ρ s => (a ρ s).bind fun _ s1 => .ok (.nx ρ) s1
def mIfS (t : MT) (a b : MS) : MS := fun ρ s => (t ρ s).bind fun c s1 => if c = true then a ρ s1 else b ρ s1
def mBreak : MS := fun ρ s => .ok (.bk ρ) s
def mCont : MS := fun ρ s => .ok (.ct ρ) s
/-- a, b = x, y -/
def mPar (i j : Nat) (as : MA) : MS := fun ρ s => (as ρ s).bind fun ds s1 => match ds with
  | [d, e] => .ok (.nx ((ρ.set i (.dat d)).set j (.dat e))) s1
  | _ => .bad
/-- targets -/
abbrev GM := Dt → Env' → Option Env'
abbrev GMs := List Dt → Env' → Option Env'
def gmName (j : Nat) : GM := fun d ρ => some (ρ.set j (.dat d))
def gmNil : GMs := fun ds ρ => match ds with
  | [] => some ρ
  | _ => none
def gmCons (g : GM) (gs : GMs) : GMs := fun ds ρ => match ds with
  | d :: r => (g d ρ).bind fun ρ1 => gs r ρ1
  | _ => none
def gmSeq (n : Nat) (gs : GMs) : GM := fun d ρ => match d with
  | .tup ds => if ds.length = n then gs ds ρ else none
  | .lst ds => if ds.length = n then gs ds ρ else none
  | _ => none
def mAsg (g : GM) (a : ME) : MS := fun ρ s => (a ρ s).bind fun d s1 => match g d ρ with
  | some ρ1 => .ok (.nx ρ1) s1
  | none => .bad
def loopF (g : GM) (body : MS) : List Dt → MS
  | [], ρ, s => .ok (.nx ρ) s
  | d :: ds, ρ, s => match g d ρ with
    | none => .bad
    | some ρ1 => match body ρ1 s with
      | .ok (.nx ρ2) s2 => loopF g body ds ρ2 s2
      | .ok (.ct ρ2) s2 => loopF g body ds ρ2 s2
      | .ok (.bk ρ2) s2 => .ok (.nx ρ2) s2
      | .ok (.rt d) s2 => .ok (.rt d) s2
      | .err c fs ρ2 s2 => .err c fs ρ2 s2
      | .bad => .bad
/-- what a for walks -/
def mFor (g : GM) (it : MA) (body : MS) : MS := fun ρ s => (it ρ s).bind fun ds s1 => loopF g body ds ρ s1
def mSeqI (a : ME) : MA := fun ρ s => (a ρ s).bind fun d s1 => match d with
  | .tup ds => .ok ds s1
  | .lst ds => .ok ds s1
  | _ => .bad
def rangeD (lo : Int) (n : Nat) : List Dt := (List.range n).map fun (i : Nat) => Dt.int (lo + i)
def rngOk (i : Int) : Prop := -1000000 ≤ i ∧ i ≤ 1000000
instance (i : Int) : Decidable (rngOk i) := inferInstanceAs (Decidable (_ ∧ _))
def mRng1 (a : ME) : MA := fun ρ s => (a ρ s).bind fun d s1 => match d with
  | .int b => if rngOk b then .ok (rangeD 0 b.toNat) s1 else .bad
  | _ => .bad
def mRng2 (a b : ME) : MA := fun ρ s => (a ρ s).bind fun d s1 => (b ρ s1).bind fun e s2 => match d, e with
  | .int i, .int j => if rngOk i ∧ rngOk j then .ok (rangeD i (j - i).toNat) s2 else .bad
  | _, _ => .bad
def loopW (t : MT) (body : MS) : Nat → MS
  | 0, _, _ => .bad
  | n + 1, ρ, s => (t ρ s).bind fun c s1 => if c = true then (match body ρ s1 with
      | .ok (.nx ρ2) s2 => loopW t body n ρ2 s2
      | .ok (.ct ρ2) s2 => loopW t body n ρ2 s2
      | .ok (.bk ρ2) s2 => .ok (.nx ρ2) s2
      | .ok (.rt d) s2 => .ok (.rt d) s2
      | .err c fs ρ2 s2 => .err c fs ρ2 s2
      | .bad => .bad) else .ok (.nx ρ) s1
/-- comprehensions -/
def wipeE (ρ : Env') : List Nat → Env'
  | [] => ρ
  | v :: vs => (wipeE ρ vs).set v .no
def noErr {α : Type} : R α → R α
  | .err _ _ _ _ => .bad
  | r => r
def mYes : MT := fun _ s => .ok true s
def loopC (g : GM) (t : MT) (a : ME) (vs : List Nat) : List Dt → List Dt → ME
  | [], acc, _, s => .ok (.lst acc) s
  | d :: ds, acc, ρ, s => match g d (wipeE ρ vs) with
    | none => .bad
    | some ρ1 => (noErr (t ρ1 s)).bind fun c s1 => if c = true then (noErr (a ρ1 s1)).bind fun e s2 => if sizeOk acc.length then loopC g t a vs ds (acc ++ [e]) ρ s2 else .bad else loopC g t a vs ds acc ρ s1
def mLc (g : GM) (it : MA) (t : MT) (a : ME) (vs : List Nat) : ME := fun ρ s => (it ρ s).bind fun ds s1 => loopC g t a vs ds [] ρ s1
theorem R.bind_assoc {α β γ : Type} (r : R α) (k : α → Hd → R β) (k2 : β → Hd → R γ) : (r.bind k).bind k2 = r.bind fun x s => (k x s).bind k2 := by cases r <;> rfl

section
variable {K : Frag} {mg : Str → Option Value} {Wx : WX} {ta : TE} {a : ME} {tt : TT} {mt : MT} {t : TA} {as : MA} {ts tu : TS} {ms mu : MS}
theorem ss_next : SS K mg Wx tNext mNext := fun h H0 H s σ ρ D g S p => p σ H0 H (Same.refl _) g S
theorem ss_seq (h1 : SS K mg Wx ts ms) (h2 : SS K mg Wx tu mu) : SS K mg Wx (tSeq ts tu) (mSeq ms mu) := by
  intro h H0 H s σ ρ D g S p
  refine h1 h H0 H s σ ρ _ g S ?_
  have p : PostS K mg h (mSeq ms mu ρ s) H0 H Wx D := p
  unfold mSeq at p
  cases e : ms ρ s with
  | ok f s2 =>
    rw [e] at p
    cases f with
    | nx ρ' => exact fun σ' A B st g' S' => h2 h A B s2 σ' ρ' D g' S' (PostS.step st p)
    | rt d => exact p
    | bk ρ' => exact p
    | ct ρ' => exact p
  | err c fs ρ' s2 =>
    rw [e] at p
    exact p
  | bad =>
    rw [e] at p
    exact p
theorem ss_set {i : Nat} (ha : SE K mg Wx ta a) : SS K mg Wx (tAsg ta (gName i)) (mSet i a) := by
  intro h H0 H s σ ρ D g S p
  refine ha h H0 H s σ ρ _ g S (PostS.bind p fun d s1 x A B st g1 dx p1 => ?_)
  exact p1 _ A B (Same.refl _) g1 ((S.step st).set dx)
theorem ss_ret (ha : SE K mg Wx ta a) : SS K mg Wx (tRet ta) (mRet a) := by
  intro h H0 H s σ ρ D g S p
  refine ha h H0 H s σ ρ _ g S (PostS.bind p fun d s1 x A B st g1 dx p1 => ?_)
  exact p1 x A B (S.step st).st g1 dx
theorem ss_retN : SS K mg Wx tRetN mRetN := fun h H0 H s σ ρ D g S p => p .non H0 H S.st g .non
theorem ss_drop (ha : SE K mg Wx ta a) : SS K mg Wx (tDrop ta) (mDrop a) := by
  intro h H0 H s σ ρ D g S p
  refine ha h H0 H s σ ρ _ g S (PostS.bind p fun d s1 x A B st g1 dx p1 => ?_)
  exact p1 σ A B (Same.refl _) g1 (S.step st)
theorem ss_if (ht : ST K mg Wx tt mt) (h1 : SS K mg Wx ts ms) (h2 : SS K mg Wx tu mu) : SS K mg Wx (tIfS tt ts tu) (mIfS mt ms mu) := by
  intro h H0 H s σ ρ D g S p
  refine ht h H0 H s σ ρ _ g S (PostS.bind p fun d s1 x A B st g1 dx p1 => ?_)
  cases (show x = d from dx)
  cases d with
  | true => exact h1 h A B s1 σ ρ D g1 (S.step st) p1
  | false => exact h2 h A B s1 σ ρ D g1 (S.step st) p1
theorem ss_break : SS K mg Wx tBreak mBreak := fun h H0 H s σ ρ D g S p => p σ H0 H (Same.refl _) g S
theorem ss_cont : SS K mg Wx tCont mCont := fun h H0 H s σ ρ D g S p => p σ H0 H (Same.refl _) g S
theorem ss_par {i j : Nat} (ha : SA K mg Wx t as) : SS K mg Wx (tPar i j t) (mPar i j as) := by
  intro h H0 H s σ ρ D g S p
  refine ha h H0 H s σ ρ _ g S (PostS.bind p fun ds s1 xs A B st g1 dx p1 => ?_)
  cases dx with
  | nil => exact p1.elim
  | cons q r =>
    cases r with
    | nil => exact p1.elim
    | cons q2 r =>
      cases r with
      | nil => exact ⟨_, _, rfl, p1 _ A B (Same.refl _) g1 (((S.step st).set q).set q2)⟩
      | cons q3 r => exact p1.elim
end

/-! ### targets -/
/-- at the slots js alone something else -/
def OffIx (js : List Nat) (σ σ1 : L2.St) : Prop := σ1.length = σ.length ∧ ∀ i : Nat, i ∉ js → σ1[i]? = σ[i]?
section
variable (K : Frag) (mg : Str → Option Value)
def SG (js : List Nat) (g : TG) (m : GM) : Prop := ∀ (h : Ent) (H0 H : Hp) (s : Hd) (x : V) (d : Dt) (σ : L2.St) (ρ ρ1 : Env') (Q : L2.St → Hp → Prop), G h H0 H s → Slots K mg h H0 H σ ρ → Den K mg h H0 x d → m d ρ = some ρ1 →
  (∀ σ1, OffIx js σ σ1 → Slots K mg h H0 H σ1 ρ1 → Q σ1 H) → g x σ H Q
def SGs (js : List Nat) (g : TGs) (m : GMs) : Prop := ∀ (h : Ent) (H0 H : Hp) (s : Hd) (xs : List V) (ds : List Dt) (σ : L2.St) (ρ ρ1 : Env') (Q : L2.St → Hp → Prop), G h H0 H s → Slots K mg h H0 H σ ρ → DenA K mg h H0 xs ds → m ds ρ = some ρ1 →
  (∀ σ1, OffIx js σ σ1 → Slots K mg h H0 H σ1 ρ1 → Q σ1 H) → g xs σ H Q
end
def gSeq (K : Frag) (n : Nat) (t : TGs) : TG := fun v σ H Q => gTup K n t v σ H Q ∨ gLst K n t v σ H Q
theorem pg_or {X : Cx} {e : Expr} {t u : TG} (h1 : PG X e t) (h2 : PG X e u) : PG X e (fun v σ H Q => t v σ H Q ∨ u v σ H Q) :=
  ⟨fun pins s σ H v w Q I r h => h.elim (fun z => h1.run pins s σ H v w Q I r z) fun z => h2.run pins s σ H v w Q I r z⟩
theorem pg_seq {X : Cx} {pos : Pos} {es : List Expr} {k : Nat} {t : TGs} {n : Nat} (hc : X.calm = true) (h : PGs X es t)
    (hn : (assignEach es X.env).length = n := by rfl) (hst : (assignEach es X.env).findIdx? (·.1) = none := by rfl) : PG X (.Tuple es k pos) (gSeq X.K n t) := pg_or (pg_tup hc h hn hst) (pg_lst hc h hn hst)
section
variable {K : Frag} {mg : Str → Option Value}
theorem sg_name {j : Nat} : SG K mg [j] (gName j) (gmName j) := by
  intro h H0 H s x d σ ρ ρ1 Q g S dx e q
  cases e
  exact q _ ⟨List.length_set, fun i hi => List.getElem?_set_ne (fun z => hi (by rw [z]; exact List.mem_singleton.mpr rfl))⟩ (S.set dx)
theorem sgs_nil : SGs K mg [] gNil gmNil := by
  intro h H0 H s xs ds σ ρ ρ1 Q g S dx e q
  cases dx with
  | nil =>
    cases e
    exact ⟨rfl, q σ ⟨rfl, fun _ _ => rfl⟩ S⟩
  | cons _ _ => cases e
theorem sgs_cons {js ks : List Nat} {g : TG} {gs : TGs} {m : GM} {ms : GMs} (h1 : SG K mg js g m) (h2 : SGs K mg ks gs ms) : SGs K mg (js ++ ks) (gCons g gs) (gmCons m ms) := by
  intro h H0 H s xs ds σ ρ ρ1 Q g0 S dx e q
  cases dx with
  | nil => cases e
  | @cons v vs d ds dv dvs =>
    have e : (m d ρ).bind (fun ρ1 => ms ds ρ1) = some ρ1 := e
    cases hm : m d ρ with
    | none =>
      rw [hm] at e
      cases e
    | some ρ2 =>
      rw [hm] at e
      refine ⟨v, vs, rfl, h1 h H0 H s v d σ ρ ρ2 _ g0 S dv hm fun σ2 o2 S2 => h2 h H0 H s vs ds σ2 ρ2 ρ1 Q g0 S2 dvs e fun σ3 o3 S3 => q σ3 ⟨o3.1.trans o2.1, fun i hi => ?_⟩ S3⟩
      rw [o3.2 i fun z => hi (List.mem_append_right _ z), o2.2 i fun z => hi (List.mem_append_left _ z)]
theorem sg_seq {js : List Nat} {n : Nat} {gs : TGs} {ms : GMs} (h1 : SGs K mg js gs ms) : SG K mg js (gSeq K n gs) (gmSeq n ms) := by
  intro h H0 H s x d σ ρ ρ1 Q g0 S dx e q
  cases dx with
  | @tup a xs ds qa ra =>
    have e : (if ds.length = n then ms ds ρ else none) = some ρ1 := e
    by_cases c : ds.length = n
    · rw [if_pos c] at e
      exact .inl ⟨_, _, rfl, sqt_mono g0.ex qa, ra.len.trans c, h1 h H0 H s _ _ σ ρ ρ1 Q g0 S ra e q⟩
    · rw [if_neg c] at e
      cases e
  | @lst a xs ds qa ra =>
    have e : (if ds.length = n then ms ds ρ else none) = some ρ1 := e
    by_cases c : ds.length = n
    · rw [if_pos c] at e
      exact .inr ⟨_, _, rfl, SqL.of (g0.ex _ _ qa), ra.len.trans c, h1 h H0 H s _ _ σ ρ ρ1 Q g0 S ra e q⟩
    · rw [if_neg c] at e
      cases e
  | _ => cases e
theorem ss_asg {Wx : WX} {ta : TE} {a : ME} {js : List Nat} {g : TG} {m : GM} (ha : SE K mg Wx ta a) (hg : SG K mg js g m) : SS K mg Wx (tAsg ta g) (mAsg m a) := by
  intro h H0 H s σ ρ D g0 S p
  refine ha h H0 H s σ ρ _ g0 S (PostS.bind p fun d s1 x A B st g1 dx p1 => ?_)
  cases e : m d ρ with
  | none =>
    rw [e] at p1
    exact p1.elim
  | some ρ1 =>
    rw [e] at p1
    exact hg h A B s1 x d σ ρ ρ1 _ g1 (S.step st) dx e fun σ1 _ S1 => p1 σ1 A B (Same.refl _) g1 S1
end

/-! ### what a for walks: a list or a tuple -/
def iSeq (K : Frag) (tl : TE) : TI := fun σ H R => tl σ H fun x H1 => (∃ a, x = .ref a ∧ (∃ xs, SqL K H1 a xs) ∧ R (Itl K a) H1) ∨ ∃ a, x = .ref a ∧ (∃ xs, SqT K H1 a xs) ∧ R (Itt K a) H1
theorem pi_seq {X : Cx} {tg l : Expr} {tl : TE} (hl : PE X l tl) : PI X tg l (iSeq X.K tl) := by
  refine ⟨fun pins s σ H R I h => ?_⟩
  refine thn (hl.run pins s σ H _ I h) fun v s1 ⟨x, H1, I1, r1, q1⟩ => ?_
  rcases q1 with ⟨a, e, ⟨xs, hq⟩, q⟩ | ⟨a, e, ⟨xs, hq⟩, q⟩
  · subst e
    cases r1
    obtain ⟨its, rv, p, hz⟩ := I1.list hq
    refine wpAny_pyIter_list p.isList ?_
    refine ⟨s1.heap.objs.size, [s1.heap.objs.size], _, _, H1, rfl, I1.kept (t' := s1.toks) fun b o e => Heap.get?_push_of_some _ e, turn_list a _, ⟨_, Heap.get?_push_size _ rfl, rfl, rfl⟩, fun b hb => ?_, q⟩
    have e : b = s1.heap.objs.size := by simpa using hb
    subst e
    exact I1.fpOk (Nat.le_refl _) (I1.hok.fresh (Nat.le_refl _))
  · subst e
    cases r1
    obtain ⟨its, rv, p, hz⟩ := I1.tuple hq
    refine wpAny_pyIter_tuple (show s1.heap.IsTuple a its.toArray from p) ?_
    refine ⟨s1.heap.objs.size, [s1.heap.objs.size], _, _, H1, rfl, I1.kept (t' := s1.toks) fun b o e => Heap.get?_push_of_some _ e, turn_tuple a _, ⟨_, Heap.get?_push_size _ rfl, rfl, rfl⟩, fun b hb => ?_, q⟩
    have e : b = s1.heap.objs.size := by simpa using hb
    subst e
    exact I1.fpOk (Nat.le_refl _) (I1.hok.fresh (Nat.le_refl _))
section
variable {K : Frag} {mg : Str → Option Value} {Wx : WX} {ta : TE} {a : ME} {t : TA} {as : MA} {tb : TS} {body : MS} {js : List Nat} {g : TG} {m : GM}
theorem drop_cons {α : Type} {ds : List α} {i : Nat} {d : α} (e : ds[i]? = some d) : ds.drop i = d :: ds.drop (i + 1) := by
  obtain ⟨hl, e2⟩ := List.getElem?_eq_some_iff.mp e
  rw [← e2]
  exact List.drop_eq_getElem_cons hl
/-- one turn -/
theorem turn_ok {h : Ent} {A B : Hp} {s : Hd} {σ : L2.St} {ρ : Env'} {x : V} {d : Dt} {ds : List Dt} {D : Ends} {Pn : L2.St → Hp → Prop} (hg : SG K mg js g m) (hb : SS K mg Wx tb body) (g0 : G h A B s) (S : Slots K mg h A B σ ρ) (dx : Den K mg h A x d)
    (p : PostS K mg h (loopF m body (d :: ds) ρ s) A B Wx D)
    (next : ∀ σ' A' B' s' ρ', Same A A' → G h A' B' s' → Slots K mg h A' B' σ' ρ' → PostS K mg h (loopF m body ds ρ' s') A' B' Wx D → Pn σ' B') :
    g x σ B fun σ2 H2 => tb { D with nx := Pn, ct := Pn, bk := D.nx } σ2 H2 := by
  unfold loopF at p
  cases e : m d ρ with
  | none =>
    rw [e] at p
    exact p.elim
  | some ρ1 =>
    rw [e] at p
    refine hg h A B s x d σ ρ ρ1 _ g0 S dx e fun σ1 _ S1 => hb h A B s σ1 ρ1 _ g0 S1 ?_
    cases eb : body ρ1 s with
    | ok f s2 =>
      cases f with
      | nx ρ2 =>
        simp only [eb] at p
        exact fun σ' A' B' st g' S' => next σ' A' B' s2 ρ2 st g' S' (PostS.step st p)
      | ct ρ2 =>
        simp only [eb] at p
        exact fun σ' A' B' st g' S' => next σ' A' B' s2 ρ2 st g' S' (PostS.step st p)
      | bk ρ2 =>
        simp only [eb] at p
        exact p
      | rt d2 =>
        simp only [eb] at p
        exact p
    | err c fs ρ2 s2 =>
      simp only [eb] at p
      exact p
    | bad =>
      simp only [eb] at p
      exact p
theorem rangeD_len (lo : Int) (n : Nat) : (rangeD lo n).length = n := by
  unfold rangeD
  rw [List.length_map, List.length_range]
theorem rangeD_get {lo : Int} {n i : Nat} (hi : i < n) : (rangeD lo n)[i]? = some (.int (lo + i)) := by
  unfold rangeD
  rw [List.getElem?_map, List.getElem?_range hi]
  rfl
theorem for_rng {h : Ent} {A B : Hp} {s : Hd} {σ : L2.St} {ρ : Env'} {D : Ends} {lo : Int} {n : Nat} (hg : SG K mg js g m) (hb : SS K mg Wx tb body) (g1 : G h A B s) (S1 : Slots K mg h A B σ ρ) (p1 : PostS K mg h (loopF m body (rangeD lo n) ρ s) A B Wx D) :
    ∃ W : Nat → Nat → L2.St → Hp → Prop, (∃ m, W 0 m σ B) ∧ ∀ i m σ H, W i m σ H →
      ((Itr lo n).stop i H ∧ D.nx σ H) ∨ ((Itr lo n).go i H ∧ ∃ N : L2.St → Hp → Prop, (∀ σ' H', N σ' H' → ∃ m', m' < m ∧ W (i + 1) m' σ' H') ∧ ∀ x H', (Itr lo n).yld i H x H' → g x σ H' fun σ2 H2 => tb { D with nx := N, ct := N, bk := D.nx } σ2 H2) := by
  refine for_range (fun i σ' H' => ∃ A' s' ρ', Same A A' ∧ G h A' H' s' ∧ Slots K mg h A' H' σ' ρ' ∧ PostS K mg h (loopF m body ((rangeD lo n).drop i) ρ' s') A' H' Wx D)
    ⟨A, s, ρ, Same.refl _, g1, S1, p1⟩ (fun i σ' H' hi ⟨A', s', ρ', st', g', S', p'⟩ => ?_) (fun σ' H' ⟨A', s', ρ', st', g', S', p'⟩ => ?_)
  · rw [drop_cons (rangeD_get hi)] at p'
    exact turn_ok hg hb g' S' (.int _) p' fun σ2 A2 B2 s2 ρ2 st2 g2 S2 p2 => ⟨A2, s2, ρ2, st'.trans st2, g2, S2, p2⟩
  · have e : (rangeD lo n).drop n = [] := List.drop_eq_nil_of_le (by rw [rangeD_len]; exact Nat.le_refl _)
    rw [e] at p'
    exact p' σ' A' H' (Same.refl _) g' S'
theorem DenA.one {h : Addr} {H : Hp} {vs : List V} {d : Dt} (r : DenA K mg h H vs [d]) : ∃ v, vs = [v] ∧ Den K mg h H v d := by
  cases r with
  | cons q r =>
    cases r
    exact ⟨_, rfl, q⟩
theorem DenA.two {h : Addr} {H : Hp} {vs : List V} {d e : Dt} (r : DenA K mg h H vs [d, e]) : ∃ v w, vs = [v, w] ∧ Den K mg h H v d ∧ Den K mg h H w e := by
  cases r with
  | cons q r =>
    obtain ⟨w, rfl, q2⟩ := r.one
    exact ⟨_, w, rfl, q, q2⟩
end
end Mir


set_option Elab.async false
set_option linter.all false
set_option maxRecDepth 100000
namespace Mir
open PySem PySem.Spec PyProof.Rows L2
open PySem.W (Frag)

/-! ### comprehensions -/
section
theorem wipeE_length (ρ : Env') : ∀ vs : List Nat, (wipeE ρ vs).length = ρ.length
  | [] => rfl
  | v :: vs => by
    unfold wipeE
    rw [List.length_set, wipeE_length ρ vs]
variable {K : Frag} {mg : Str → Option Value}
theorem Slots.wipe {h : Ent} {H0 H : Hp} {σ : L2.St} {ρ : Env'} (S : Slots K mg h H0 H σ ρ) : ∀ vs : List Nat, Slots K mg h H0 H (L2.wipe σ vs) (wipeE ρ vs)
  | [] => S
  | v :: vs => (Slots.wipe S vs).forget none
theorem wipe_in {σ : L2.St} {i : Nat} : ∀ {vs : List Nat}, i ∈ vs → i < σ.length → (L2.wipe σ vs)[i]? = some none
  | [], hi, _ => by cases hi
  | v :: vs, hi, hl => by
    show ((L2.wipe σ vs).set v none)[i]? = some none
    by_cases e : v = i
    · subst e
      exact List.getElem?_set_self (by rw [wipe_length]; exact hl)
    · rw [List.getElem?_set_ne e]
      rcases List.mem_cons.mp hi with z | z
      · exact absurd z.symm e
      · exact wipe_in z hl
theorem wipe_out' {σ : L2.St} {i : Nat} : ∀ {vs : List Nat}, i ∉ vs → (L2.wipe σ vs)[i]? = σ[i]?
  | [], _ => rfl
  | v :: vs, hi => by
    show ((L2.wipe σ vs).set v none)[i]? = σ[i]?
    rw [List.getElem?_set_ne fun z => hi (by rw [z]; exact List.mem_cons_self), wipe_out' fun z => hi (List.mem_cons_of_mem _ z)]
theorem wipe_off {σ σ2 : L2.St} {js vs : List Nat} (hs : ∀ j ∈ js, j ∈ vs) (o : OffIx js (L2.wipe σ vs) σ2) : L2.wipe σ2 vs = L2.wipe σ vs := by
  have hl : σ2.length = σ.length := by rw [o.1, wipe_length]
  apply List.ext_getElem?
  intro i
  by_cases hi : i ∈ vs
  · by_cases hb : i < σ.length
    · rw [wipe_in hi hb, wipe_in hi (by rw [hl]; exact hb)]
    · rw [List.getElem?_eq_none (by rw [wipe_length, hl]; omega), List.getElem?_eq_none (by rw [wipe_length]; omega)]
  · rw [wipe_out' hi, o.2 i fun z => hi (hs i z), wipe_out' hi]
end
theorem same_upd' {H : Hp} {p : Addr} {o : HO} (h : H p = none) : Same H (upd H p o) := fun b x e => by
  rw [upd_ne (ne_of_none e h)]
  exact e
abbrev WF : WX := fun _ _ _ _ => False
section
variable {K : Frag} {mg : Str → Option Value} {Wx : WX} {ta : TE} {a b : ME} {tt : TT} {mt : MT} {js vs : List Nat} {g : TG} {m : GM}
theorem Post.noErr {α β δ : Type} {h : Ent} {H0 H : Hp} {PF : R δ → Prop} (hbad : PF .bad → False) {rel1 : Hp → α → β → Prop} {r : R β} {k : β → Hd → R δ} {Q1 : α → Hp → Prop} (p : PF ((noErr r).bind k))
    (f : ∀ b s a H0' H', Step h.a H0 H H0' H' → G h.a H0' H' s → rel1 H0' a b → PF (k b s) → Q1 a H') : Post K mg h rel1 r H0 H WF Q1 := by
  cases r with
  | ok b s => exact fun a A B st g q => f b s a A B st g q p
  | err c fs ρ s => exact (hbad p).elim
  | bad => exact (hbad p).elim
theorem Post.bindF {α β δ : Type} {h : Ent} {H0 H : Hp} {PF : R δ → Prop} (hbad : PF .bad → False) (herr : ∀ c fs ρ s, PF (.err c fs ρ s) → ErrP K mg h H0 c fs ρ s Wx) {rel1 : Hp → α → β → Prop} {r : R β} {k : β → Hd → R δ} {Q1 : α → Hp → Prop} (p : PF (r.bind k))
    (f : ∀ b s a H0' H', Step h.a H0 H H0' H' → G h.a H0' H' s → rel1 H0' a b → PF (k b s) → Q1 a H') : Post K mg h rel1 r H0 H Wx Q1 := by
  cases r with
  | ok b s => exact fun a A B st g q => f b s a A B st g q p
  | err c fs ρ s => exact herr _ _ _ _ p
  | bad => exact (hbad p).elim
/-- the word of a comprehension's loop: D the new list, not yet among the data -/
def CW (K : Frag) (mg : Str → Option Value) (PF : R Dt → Prop) (m : GM) (mt : MT) (a : ME) (vs : List Nat) (h : Ent) (A B : Hp) (ρ : Env') (D : Addr) (ds : List Dt) (B' : Hp) : Prop :=
  ∃ (A' : Hp) (s' : Hd) (acc : List Dt) (vv : List V), Step h A B A' B' ∧ G h A' B' s' ∧ B D = none ∧ A' D = none ∧ ¬ isH h B' D ∧ B' D = some (.lst vv) ∧ DenA K mg h A' vv acc ∧ PF (loopC m mt a vs ds acc ρ s')
theorem cw_turn {h : Ent} {A B B' : Hp} {σ : L2.St} {ρ : Env'} {D : Addr} {PF : R Dt → Prop} (hbad : PF .bad → False) {x : V} {d : Dt} {ds : List Dt} (hg : SG K mg js g m) (hv : ∀ j ∈ js, j ∈ vs) (ht : ST K mg WF tt mt) (ha : SE K mg WF ta a) (S : Slots K mg h A B σ ρ)
    (w : CW K mg PF m mt a vs h A B ρ D (d :: ds) B') (dx : ∀ A', Same A A' → Den K mg h A' x d) :
    g x (L2.wipe σ vs) B' fun σ2 H2 => L2.wipe σ2 vs = L2.wipe σ vs ∧ tt σ2 H2 fun b H3 =>
      if b = true then ta σ2 H3 fun y H4 => ∃ acc, H4 D = some (.lst acc) ∧ acc.length < sizeLine ∧ CW K mg PF m mt a vs h A B ρ D ds (upd H4 D (.lst (acc ++ [y]))) else CW K mg PF m mt a vs h A B ρ D ds H3 := by
  obtain ⟨A', s', acc, vv, st, g0, hB, hD, nD, eD, da, p⟩ := w
  unfold loopC at p
  cases e : m d (wipeE ρ vs) with
  | none =>
    rw [e] at p
    exact (hbad p).elim
  | some ρ1 =>
    simp only [e] at p
    refine hg h A' B' s' x d _ _ ρ1 _ g0 ((S.step st).wipe vs) (dx A' st.s0) e fun σ1 o1 S1 => ⟨wipe_off hv o1, ht h A' B' s' σ1 ρ1 _ g0 S1 (Post.noErr hbad p fun c s1 c' A2 B2 st2 g2 ec p2 => ?_)⟩
    have ec : c' = c := ec
    subst ec
    have f2 := st2.fr D _ eD hD nD
    cases c' with
    | false => exact ⟨A2, s1, acc, vv, st.trans st2, g2, hB, f2.2.1, f2.2.2, f2.1, da.mono st2.s0, p2⟩
    | true =>
      show ta σ1 B2 _
      rw [if_pos rfl] at p2
      refine ha h A2 B2 s1 σ1 ρ1 _ g2 (S1.step st2) (Post.noErr hbad p2 fun z s3 y A3 B3 st3 g3 dy p3 => ?_)
      have f3 := st3.fr D _ f2.1 f2.2.1 f2.2.2
      by_cases c : sizeOk acc.length
      · rw [if_pos c] at p3
        refine ⟨vv, f3.1, by rw [da.len]; exact c.lt, ?_⟩
        obtain ⟨gl, a1, a2, a3, a4⟩ := g3.gl
        have n1 : h ≠ D := fun z => f3.2.2 (.inl z.symm)
        have n2 : gl ≠ D := fun z => f3.2.2 (.inr ⟨_, by rw [← z]; exact a3⟩)
        have nH : ∀ q, isH h (upd B3 D (.lst (vv ++ [y]))) q → isH h B3 q := fun q w => by
          rcases w with w | ⟨r, w⟩
          · exact .inl w
          · rw [upd_ne n1] at w
            exact .inr ⟨r, w⟩
        have st4 : Step h A B A3 (upd B3 D (.lst (vv ++ [y]))) := ⟨(st.trans (st2.trans st3)).s0, fun q u x1 x2 x3 => by
          have nq : q ≠ D := ne_of_none x1 hB
          obtain ⟨y1, y2, y3⟩ := (st.trans (st2.trans st3)).fr q u x1 x2 x3
          exact ⟨by rw [upd_ne nq]; exact y1, y2, fun w => y3 (nH q w)⟩⟩
        refine ⟨A3, s3, acc ++ [z], vv ++ [y], st4, ⟨fun q u w => ?_, g3.h0, gl, a1, a2, by rw [upd_ne n1]; exact a3, by rw [upd_ne n2]; exact a4⟩, hB, f3.2.1, fun w => f3.2.2 (nH D w), upd_same, ((da.mono st2.s0).mono st3.s0).append (.cons dy .nil), p3⟩
        rw [upd_ne fun z => by rw [z, f3.2.1] at w; cases w]
        exact g3.ex _ _ w
      · rw [if_neg c] at p3
        exact (hbad p3).elim
theorem cw_start {h : Ent} {A B : Hp} {s : Hd} {ρ : Env'} {D : Addr} {PF : R Dt → Prop} {ds : List Dt} (g0 : G h A B s) (hD : B D = none) (p : PF (loopC m mt a vs ds [] ρ s)) : CW K mg PF m mt a vs h A B ρ D ds (upd B D (.lst [])) := by
  obtain ⟨g1, st⟩ := g0.side (o := .lst []) hD
  obtain ⟨gl, a1, a2, a3, a4⟩ := g0.gl
  have n1 : h ≠ D := ne_of_none a3 hD
  have n2 : gl ≠ D := ne_of_none a4 hD
  refine ⟨A, s, [], [], st, g1, hD, g0.ex.free hD, fun w => ?_, upd_same, .nil, p⟩
  rcases w with w | ⟨r, w⟩
  · exact n1 w.symm
  · rw [upd_ne n1, a3] at w
    cases w
    exact n2 rfl
/-- behind the last turn: the new list is nobody's yet -/
def CWFin (K : Frag) (mg : Str → Option Value) (PF : R Dt → Prop) (h : Ent) (A B : Hp) (Q : VK) : Prop := ∀ (D : Addr) (A' B' : Hp) (s' : Hd) (acc : List Dt) (vv : List V), B D = none → Step h.a A B A' B' → G h.a A' B' s' → A' D = none → ¬ isH h.a B' D → B' D = some (.lst vv) → DenA K mg h.a A' vv acc → PF (.ok (.lst acc) s') → Q (.ref D) B'
theorem cw_end {h : Ent} {A B B' : Hp} {ρ : Env'} {D : Addr} {PF : R Dt → Prop} {Q : VK} (fin : CWFin K mg PF h A B Q) (w : CW K mg PF m mt a vs h A B ρ D [] B') : Q (.ref D) B' := by
  obtain ⟨A', s', acc, vv, st, g0, hB, hD, nD, eD, da, p⟩ := w
  exact fin D A' B' s' acc vv hB st g0 hD nD eD da p
/-- it becomes data -/
theorem fin_den {h : Ent} {A B : Hp} {Q : VK} : CWFin K mg (fun r => Post K mg h (Den K mg h.a) r A B Wx Q) h A B Q := by
  intro D A' B' s' acc vv hB st g0 hD nD eD da p
  have e0 : Same A' (upd A' D (.lst vv)) := same_upd' hD
  refine p (.ref D) (upd A' D (.lst vv)) B' ⟨st.s0.trans e0, fun q u x1 x2 x3 => ?_⟩ ⟨fun q u x => ?_, ?_, ?_⟩ (.lst upd_same (da.mono e0))
  · obtain ⟨y1, y2, y3⟩ := st.fr q u x1 x2 x3
    exact ⟨y1, by rw [upd_ne (ne_of_none x1 hB)]; exact y2, y3⟩
  · by_cases c : q = D
    · subst c
      rw [upd_same] at x
      rw [eD]
      exact x
    · rw [upd_ne c] at x
      exact g0.ex _ _ x
  · rw [upd_ne fun z => nD (.inl z.symm)]
    exact g0.h0
  · obtain ⟨gl, a1, a2, a3, a4⟩ := g0.gl
    exact ⟨gl, by rw [upd_ne fun z => nD (.inr ⟨_, by rw [← z]; exact a3⟩)]; exact a1, a2, a3, a4⟩
theorem lc_rng {h : Ent} {A B : Hp} {s : Hd} {σ : L2.St} {ρ : Env'} {Q : VK} {PF : R Dt → Prop} (hbad : PF .bad → False) (fin : CWFin K mg PF h A B Q) {lo : Int} {n : Nat} (hg : SG K mg js g m) (hv : ∀ j ∈ js, j ∈ vs) (ht : ST K mg WF tt mt) (ha : SE K mg WF ta a) (g1 : G h A B s) (S1 : Slots K mg h A B σ ρ)
    (p1 : PF (loopC m mt a vs (rangeD lo n) [] ρ s)) (D : Addr) (hD : B D = none) :
    ∃ W : Nat → Nat → Hp → Prop, (∃ m, W 0 m (upd B D (.lst []))) ∧ ∀ i m H, W i m H →
      ((Itr lo n).stop i H ∧ Q (.ref D) H) ∨ ((Itr lo n).go i H ∧ ∃ Nx : Hp → Prop, (∀ H', Nx H' → ∃ m', m' < m ∧ W (i + 1) m' H') ∧ ∀ x H', (Itr lo n).yld i H x H' → g x (L2.wipe σ vs) H' fun σ2 H2 => L2.wipe σ2 vs = L2.wipe σ vs ∧ tt σ2 H2 fun b H3 =>
        if b = true then ta σ2 H3 fun y H4 => ∃ acc, H4 D = some (.lst acc) ∧ acc.length < sizeLine ∧ Nx (upd H4 D (.lst (acc ++ [y]))) else Nx H3) := by
  refine lc_range (Qd := fun H => Q (.ref D) H) (fun i H' => CW K mg PF m mt a vs h A B ρ D ((rangeD lo n).drop i) H') (cw_start g1 hD p1) (fun i H' hi w => ?_) (fun H' w => ?_)
  · rw [drop_cons (rangeD_get hi)] at w
    exact cw_turn hbad hg hv ht ha S1 w fun A' e => .int _
  · have e : (rangeD lo n).drop n = [] := List.drop_eq_nil_of_le (by rw [rangeD_len]; exact Nat.le_refl _)
    rw [e] at w
    exact cw_end fin w
theorem st_yes : ST K mg Wx tYes mYes := fun h H0 H s σ ρ Q g S p => p true H0 H (.refl _ _) g rfl
end
/-- what a loop or a comprehension walks, and the data that come -/
structure SI (K : Frag) (mg : Str → Option Value) (Wx : WX) (wi : TI) (mi : MA) : Prop where
  for_ : ∀ {js : List Nat} {g : TG} {m : GM} {tb : TS} {body : MS}, SG K mg js g m → SS K mg Wx tb body → SS K mg Wx (tFor wi g tb) (mFor m mi body)
  lcF : ∀ {js : List Nat} {g : TG} {m : GM} {tt : TT} {mt : MT} {ta : TE} {a : ME} {vs : List Nat}, SG K mg js g m → (∀ j ∈ js, j ∈ vs) → ST K mg WF tt mt → SE K mg WF ta a →
    ∀ (h : Ent) (H0 H : Hp) (s : Hd) (σ : L2.St) (ρ : Env') (Q : VK) (PF : R Dt → Prop), (PF .bad → False) → (∀ c fs ρ s, PF (.err c fs ρ s) → ErrP K mg h H0 c fs ρ s Wx) → (∀ A B, Step h.a H0 H A B → CWFin K mg PF h A B Q) → G h.a H0 H s → Slots K mg h H0 H σ ρ → PF (mLc m mi mt a vs ρ s) → tLc wi g tt ta vs σ H Q
theorem SI.lc {K : Frag} {mg : Str → Option Value} {Wx : WX} {wi : TI} {mi : MA} (I : SI K mg Wx wi mi) {js : List Nat} {g : TG} {m : GM} {tt : TT} {mt : MT} {ta : TE} {a : ME} {vs : List Nat} (hg : SG K mg js g m) (hv : ∀ j ∈ js, j ∈ vs) (ht : ST K mg WF tt mt) (ha : SE K mg WF ta a) : SE K mg Wx (tLc wi g tt ta vs) (mLc m mi mt a vs) := by
  intro h H0 H s σ ρ Q g0 S p
  refine I.lcF hg hv ht ha h H0 H s σ ρ Q (fun r => Post K mg h (Den K mg h.a) r H0 H Wx Q) (fun z => z.elim) (fun c fs ρ s z => z) (fun A B st => ?_) g0 S p
  intro D A' B' s' acc vv hB st2 g2 hD nD eD da p2
  exact fin_den (Wx := Wx) D A' B' s' acc vv hB st2 g2 hD nD eD da (Post.step st p2)
section
variable {K : Frag} {mg : Str → Option Value} {Wx : WX} {tl tl2 : TE} {b b2 : ME}
theorem si_seq (hb : SE K mg Wx tl b) : SI K mg Wx (iSeq K tl) (mSeqI b) where
  for_ := by
    intro js g m tb body hg hb2 h H0 H s σ ρ D g0 S p
    have p : PostS K mg h (((b ρ s).bind _).bind _) H0 H Wx D := p
    rw [R.bind_assoc] at p
    refine hb h H0 H s σ ρ _ g0 S (PostS.bind p fun d s1 x A B st g1 dx p1 => ?_)
    have S1 := S.step st
    cases dx with
    | @lst a xs ds qa ra =>
      refine .inl ⟨a, rfl, ⟨xs, SqL.of (g1.ex _ _ qa)⟩, for_list (K := K) (a := a) (xs := xs) (fun i σ' H' => ∃ A' s' ρ', Same A A' ∧ G h A' H' s' ∧ Slots K mg h A' H' σ' ρ' ∧ PostS K mg h (loopF m body (ds.drop i) ρ' s') A' H' Wx D)
        ⟨A, s1, ρ, Same.refl _, g1, S1, p1⟩ (fun i σ' H' _ ⟨A', s', ρ', st', g', _, _⟩ => SqL.of (g'.ex _ _ (st' _ _ qa))) (fun i x σ' H' hx ⟨A', s', ρ', st', g', S', p'⟩ => ?_) (fun σ' H' ⟨A', s', ρ', st', g', S', p'⟩ => ?_)⟩
      · obtain ⟨d, hd, dx⟩ := ra.getV hx
        rw [drop_cons hd] at p'
        exact turn_ok hg hb2 g' S' (dx.mono st') p' fun σ2 A2 B2 s2 ρ2 st2 g2 S2 p2 => ⟨A2, s2, ρ2, st'.trans st2, g2, S2, p2⟩
      · rw [ra.len, List.drop_length] at p'
        exact p' σ' A' H' (Same.refl _) g' S'
    | @tup a xs ds qa ra =>
      refine .inr ⟨a, rfl, ⟨xs, sqt_mono g1.ex qa⟩, for_tup (K := K) (a := a) (xs := xs) (fun i σ' H' => ∃ A' s' ρ', Same A A' ∧ G h A' H' s' ∧ Slots K mg h A' H' σ' ρ' ∧ PostS K mg h (loopF m body (ds.drop i) ρ' s') A' H' Wx D)
        ⟨A, s1, ρ, Same.refl _, g1, S1, p1⟩ (fun i σ' H' _ ⟨A', s', ρ', st', g', _, _⟩ => sqt_mono g'.ex (sqt_mono st' qa)) (fun i x σ' H' hx ⟨A', s', ρ', st', g', S', p'⟩ => ?_) (fun σ' H' ⟨A', s', ρ', st', g', S', p'⟩ => ?_)⟩
      · obtain ⟨d, hd, dx⟩ := ra.getV hx
        rw [drop_cons hd] at p'
        exact turn_ok hg hb2 g' S' (dx.mono st') p' fun σ2 A2 B2 s2 ρ2 st2 g2 S2 p2 => ⟨A2, s2, ρ2, st'.trans st2, g2, S2, p2⟩
      · rw [ra.len, List.drop_length] at p'
        exact p' σ' A' H' (Same.refl _) g' S'
    | _ => exact p1.elim
  lcF := by
    intro js g m tt mt ta a vs hg hv ht ha h H0 H s σ ρ Q PF hbad herr fin0 g0 S p
    have p : PF (((b ρ s).bind _).bind _) := p
    rw [R.bind_assoc] at p
    refine hb h H0 H s σ ρ _ g0 S (Post.bindF hbad herr p fun d s1 x A B st g1 dx p1 => ?_)
    have S1 := S.step st
    have fin := fin0 A B st
    cases dx with
    | @lst aa xs ds qa ra =>
      refine .inl ⟨aa, rfl, ⟨xs, SqL.of (g1.ex _ _ qa)⟩, fun D hD => lc_list (K := K) (a := aa) (xs := xs) (fun i H' => CW K mg PF m mt a vs h A B ρ D (ds.drop i) H') (cw_start g1 hD p1) (fun i H' _ w => ?_) (fun i x H' hx w => ?_) (fun H' w => ?_)⟩
      · obtain ⟨A', _, _, _, st', g', _⟩ := w
        exact SqL.of (g'.ex _ _ (st'.s0 _ _ qa))
      · obtain ⟨d, hd, dx⟩ := ra.getV hx
        rw [drop_cons hd] at w
        exact cw_turn hbad hg hv ht ha S1 w fun A' e => dx.mono e
      · rw [ra.len, List.drop_length] at w
        exact cw_end fin w
    | @tup aa xs ds qa ra =>
      refine .inr ⟨aa, rfl, ⟨xs, sqt_mono g1.ex qa⟩, fun D hD => lc_tup (K := K) (a := aa) (xs := xs) (fun i H' => CW K mg PF m mt a vs h A B ρ D (ds.drop i) H') (cw_start g1 hD p1) (fun i H' _ w => ?_) (fun i x H' hx w => ?_) (fun H' w => ?_)⟩
      · obtain ⟨A', _, _, _, st', g', _⟩ := w
        exact sqt_mono g'.ex (sqt_mono st'.s0 qa)
      · obtain ⟨d, hd, dx⟩ := ra.getV hx
        rw [drop_cons hd] at w
        exact cw_turn hbad hg hv ht ha S1 w fun A' e => dx.mono e
      · rw [ra.len, List.drop_length] at w
        exact cw_end fin w
    | _ => exact (hbad p1).elim
theorem si_rng1 (hb : SE K mg Wx tl b) : SI K mg Wx (iRng1 (tCons tl tNil)) (mRng1 b) where
  for_ := by
    intro js g m tb body hg hb2 h H0 H s σ ρ D g0 S p
    have p : PostS K mg h (((b ρ s).bind _).bind _) H0 H Wx D := p
    rw [R.bind_assoc] at p
    refine hb h H0 H s σ ρ _ g0 S (PostS.bind p fun d s1 x A B st g1 dx p1 => ?_)
    cases dx with
    | int j =>
      by_cases c : rngOk j
      · simp only [if_pos c] at p1
        exact ⟨j, rfl, by have := c.1; omega, by have := c.2; omega, for_rng hg hb2 g1 (S.step st) p1⟩
      · simp only [if_neg c] at p1
        exact p1.elim
    | _ => exact p1.elim
  lcF := by
    intro js g m tt mt ta a vs hg hv ht ha h H0 H s σ ρ Q PF hbad herr fin0 g0 S p
    have p : PF (((b ρ s).bind _).bind _) := p
    rw [R.bind_assoc] at p
    refine hb h H0 H s σ ρ _ g0 S (Post.bindF hbad herr p fun d s1 x A B st g1 dx p1 => ?_)
    cases dx with
    | int j =>
      by_cases c : rngOk j
      · simp only [if_pos c] at p1
        exact ⟨j, rfl, by have := c.1; omega, by have := c.2; omega, fun D hD => lc_rng hbad (fin0 A B st) hg hv ht ha g1 (S.step st) p1 D hD⟩
      · simp only [if_neg c] at p1
        exact (hbad p1).elim
    | _ => exact (hbad p1).elim
theorem si_rng2 (hb : SE K mg Wx tl b) (hb2 : SE K mg Wx tl2 b2) : SI K mg Wx (iRng2 (tCons tl (tCons tl2 tNil))) (mRng2 b b2) where
  for_ := by
    intro js g m tb body hg hbb h H0 H s σ ρ D g0 S p
    have p : PostS K mg h (((b ρ s).bind _).bind _) H0 H Wx D := p
    rw [R.bind_assoc] at p
    refine hb h H0 H s σ ρ _ g0 S (PostS.bind p fun d s1 x A B st g1 dx p1 => ?_)
    rw [R.bind_assoc] at p1
    refine hb2 h A B s1 σ ρ _ g1 (S.step st) (PostS.bind p1 fun d2 s2 x2 A2 B2 st2 g2 dx2 p2 => ?_)
    cases dx with
    | int i =>
      cases dx2 with
      | int j =>
        by_cases c : rngOk i ∧ rngOk j
        · simp only [if_pos c] at p2
          obtain ⟨⟨c1, c2⟩, c3, c4⟩ := c
          exact ⟨i, j, rfl, ⟨by omega, by omega, by omega, by omega⟩, for_rng hg hbb g2 (S.step (st.trans st2)) p2⟩
        · simp only [if_neg c] at p2
          exact p2.elim
      | _ => exact p2.elim
    | _ => cases dx2 <;> exact p2.elim
  lcF := by
    intro js g m tt mt ta a vs hg hv ht ha h H0 H s σ ρ Q PF hbad herr fin0 g0 S p
    have p : PF (((b ρ s).bind _).bind _) := p
    rw [R.bind_assoc] at p
    refine hb h H0 H s σ ρ _ g0 S (Post.bindF hbad herr p fun d s1 x A B st g1 dx p1 => ?_)
    rw [R.bind_assoc] at p1
    refine hb2 h A B s1 σ ρ _ g1 (S.step st) (Post.bindF hbad (fun c fs ρ s z => ErrP.step st.s0 (herr c fs ρ s z)) p1 fun d2 s2 x2 A2 B2 st2 g2 dx2 p2 => ?_)
    cases dx with
    | int i =>
      cases dx2 with
      | int j =>
        by_cases c : rngOk i ∧ rngOk j
        · simp only [if_pos c] at p2
          obtain ⟨⟨c1, c2⟩, c3, c4⟩ := c
          exact ⟨i, j, rfl, ⟨by omega, by omega, by omega, by omega⟩, fun D hD => lc_rng hbad (fin0 A2 B2 (st.trans st2)) hg hv ht ha g2 (S.step (st.trans st2)) p2 D hD⟩
        · simp only [if_neg c] at p2
          exact (hbad p2).elim
      | _ => exact (hbad p2).elim
    | _ => cases dx2 <;> exact (hbad p2).elim
end
end Mir


set_option Elab.async false
set_option linter.all false
set_option maxRecDepth 100000
namespace Mir
open PySem PySem.Spec PyProof.Rows L2
open PySem.W (Frag)

/-! ### texts: statements -/
section
variable {X : Cx} {Wx : WX} {a b c e : Expr} {ma mb : ME} {mt : MT} {as : MA} {st : Stmt} {rest sts sts2 : List Stmt} {ms mu : MS} {pos p : Pos} {es : List Expr}
theorem qss_nil : QSs X Wx [] mNext := ⟨_, pss_nil, ss_next⟩
theorem qss_cons (h1 : QS X Wx st ms) (h2 : QSs X Wx rest mu) : QSs X Wx (st :: rest) (mSeq ms mu) := by
  obtain ⟨t, p, s⟩ := h1
  obtain ⟨t2, p2, s2⟩ := h2
  exact ⟨_, pss_cons p p2, ss_seq s s2⟩
theorem qss_one (h1 : QS X Wx st ms) : QSs X Wx [st] ms := by
  obtain ⟨t, p, s⟩ := h1
  exact ⟨_, pss_one p, s⟩
theorem qs_set (i : Nat) {x : Str} {pos' : Pos} (hN : X.N.Nodup) (he : QE X Wx e ma) (hi : X.N[i]? = some x := by rfl) (hx : Loc X.env.scope x := by first | exact Or.inl rfl | exact Or.inr rfl) (hs : swapsWith e (some (.Name x pos')) pos.line X.env = pure false := by rfl)
    (hf : X.fn x = true ∨ X.env.scope.names.lookup x = some .local := by first | exact .inl rfl | exact .inr rfl) : QS X Wx (.Assign [.Name x pos'] e pos) (mSet i ma) := by
  obtain ⟨t, q, s⟩ := he
  exact ⟨_, ps_set hN hi hx q hs hf, ss_set s⟩
theorem qs_ret (he : QE X Wx e ma) : QS X Wx (.Return (some e) pos) (mRet ma) := by
  obtain ⟨t, q, s⟩ := he
  exact ⟨_, ps_ret q, ss_ret s⟩
theorem qs_retN : QS X Wx (.Return none pos) mRetN := ⟨_, ps_retN, ss_retN⟩
theorem qs_pass : QS X Wx (.Pass pos) mNext := ⟨_, ps_pass, ss_next⟩
theorem qs_break : QS X Wx (.Break pos) mBreak := ⟨_, ps_break, ss_break⟩
theorem qs_continue : QS X Wx (.Continue pos) mCont := ⟨_, ps_continue, ss_cont⟩
theorem qs_expr (he : QE X Wx e ma) (hs : swapsWith e none pos.line X.env = pure false := by rfl) : QS X Wx (.Expr e pos) (mDrop ma) := by
  obtain ⟨t, q, s⟩ := he
  exact ⟨_, ps_expr q hs, ss_drop s⟩
theorem qs_if (hc : QT X Wx c mt) (h1 : QSs X Wx sts ms) (h2 : QSs X Wx sts2 mu) : QS X Wx (.If c sts sts2 pos) (mIfS mt ms mu) := by
  obtain ⟨t, q, s⟩ := hc
  obtain ⟨t1, q1, s1⟩ := h1
  obtain ⟨t2, q2, s2⟩ := h2
  exact ⟨_, ps_if q q1 q2, ss_if s s1 s2⟩
theorem qs_par (i j : Nat) {x y : Str} {px py pt : Pos} {kt k2 pt2} (hc : X.calm = true) (hN : X.N.Nodup) (hij : i ≠ j) (ha : QA X Wx [a, b] as) (hi : X.N[i]? = some x := by rfl) (hj : X.N[j]? = some y := by rfl)
    (hx : X.env.scope.names.lookup x = some .local := by rfl) (hy : X.env.scope.names.lookup y = some .local := by rfl)
    (hw : swappedStores [.Tuple [.Name x px, .Name y py] kt pt] (.Tuple [a, b] k2 pt2) X.env = pure (some [x, y]) := by rfl)
    (hs : swapsWithSole [.Tuple [.Name x px, .Name y py] kt pt] (.Tuple [a, b] k2 pt2) pos.line X.env = pure false := by rfl) :
    QS X Wx (.Assign [.Tuple [.Name x px, .Name y py] kt pt] (.Tuple [a, b] k2 pt2) pos) (mPar i j as) := by
  obtain ⟨t, q, s⟩ := ha
  exact ⟨_, ps_par hc hN hi hj hij hx hy q hw hs, ss_par s⟩
end

/-! ### targets -/
def QG (X : Cx) (js : List Nat) (tg : Expr) (g : TG) (m : GM) : Prop := PG X tg g ∧ SG X.K X.mg js g m
def QGs (X : Cx) (js : List Nat) (tgs : List Expr) (g : TGs) (m : GMs) : Prop := PGs X tgs g ∧ SGs X.K X.mg js g m
section
variable {X : Cx} {Wx : WX} {e tg : Expr} {es : List Expr} {ma : ME} {pos : Pos} {js ks : List Nat} {g : TG} {gs : TGs} {m : GM} {ms : GMs} {iter : Expr} {body : List Stmt} {mb : MS}
theorem qg_name (j : Nat) {x : Str} (hN : X.N.Nodup) (hi : X.N[j]? = some x := by rfl) (hx : Loc X.env.scope x := by first | exact Or.inl rfl | exact Or.inr rfl) (hf : X.fn x = true ∨ X.env.scope.names.lookup x = some .local := by first | exact .inl rfl | exact .inr rfl) : QG X [j] (.Name x pos) (gName j) (gmName j) :=
  ⟨pg_name hN hi hx hf, sg_name⟩
theorem qgs_nil : QGs X [] [] gNil gmNil := ⟨pgs_nil, sgs_nil⟩
theorem qgs_cons (h1 : QG X js e g m) (h2 : QGs X ks es gs ms) (hs : (assignEach (e :: es) X.env).map (·.2) = assign e X.env :: (assignEach es X.env).map (·.2) := by rfl) : QGs X (js ++ ks) (e :: es) (gCons g gs) (gmCons m ms) :=
  ⟨pgs_cons h1.1 h2.1 hs, sgs_cons h1.2 h2.2⟩
theorem qg_seq {k : Nat} (n : Nat) (hc : X.calm = true) (h : QGs X js es gs ms) (hn : (assignEach es X.env).length = n := by rfl) (hst : (assignEach es X.env).findIdx? (·.1) = none := by rfl) : QG X js (.Tuple es k pos) (gSeq X.K n gs) (gmSeq n ms) :=
  ⟨pg_seq hc h.1 hn hst, sg_seq h.2⟩
theorem qs_asg (he : QE X Wx e ma) (hg : QG X js tg g m) (hs : swapsWithSole [tg] e pos.line X.env = pure false := by rfl) (hw : swappedStores [tg] e X.env = pure none := by rfl)
    (h1 : (assignEach [tg] X.env).map (·.2) = [assign tg X.env] := by rfl) : QS X Wx (.Assign [tg] e pos) (mAsg m ma) := by
  obtain ⟨t, q, s⟩ := he
  exact ⟨_, ps_asg q hg.1 hs hw h1, ss_asg s hg.2⟩
/-- what is walked -/
def QI (X : Cx) (Wx : WX) (iter : Expr) (mi : MA) : Prop := ∃ wi, (∀ tg, PI X tg iter wi) ∧ SI X.K X.mg Wx wi mi ∧ ∀ x, foldedSetIterable iter X.env x = pure x
variable {e2 : Expr} {ma2 : ME} {mi : MA} {p : Pos}
theorem qi_seq (hi : QE X Wx iter ma) (hs : ∀ x, foldedSetIterable iter X.env x = pure x := by intro _; rfl) : QI X Wx iter (mSeqI ma) := by
  obtain ⟨t, q, s⟩ := hi
  exact ⟨_, fun _ => pi_seq q, si_seq s, hs⟩
theorem qi_rng1 (hgr : Gl X "range") (hm : X.mg "range" = none) (hi : QE X Wx e ma) (hse : starEach [e] X.env = [(false, eval e X.env)] := by rfl) (hs : ∀ x, foldedSetIterable (.Call (.Name "range" p) [e] [] pos) X.env x = pure x := by intro _; rfl) : QI X Wx (.Call (.Name "range" p) [e] [] pos) (mRng1 ma) := by
  obtain ⟨t, q, s⟩ := hi
  exact ⟨_, fun _ => pi_range1 hgr hm (pa_cons q pa_nil hse) hse, si_rng1 s, hs⟩
theorem qi_rng2 (hgr : Gl X "range") (hm : X.mg "range" = none) (hi : QE X Wx e ma) (hi2 : QE X Wx e2 ma2) (hse : starEach [e, e2] X.env = [(false, eval e X.env), (false, eval e2 X.env)] := by rfl) (hse2 : starEach [e2] X.env = [(false, eval e2 X.env)] := by rfl)
    (hs : ∀ x, foldedSetIterable (.Call (.Name "range" p) [e, e2] [] pos) X.env x = pure x := by intro _; rfl) : QI X Wx (.Call (.Name "range" p) [e, e2] [] pos) (mRng2 ma ma2) := by
  obtain ⟨t, q, s⟩ := hi
  obtain ⟨t2, q2, s2⟩ := hi2
  exact ⟨_, fun _ => pi_range2 hgr hm (pa_cons q (pa_cons q2 pa_nil hse2) (by rw [hse, hse2])) hse hse2, si_rng2 s s2, hs⟩
theorem qs_for (hp : PassesOwn (model X.prog X.w) X.A X.env X.xe) (hc : X.calm = true) (hi : QI X Wx iter mi) (hg : QG X js tg g m) (hb : QSs X Wx body mb) : QS X Wx (.For tg iter body [] pos) (mFor m mi mb) := by
  obtain ⟨wi, q, s, hs⟩ := hi
  obtain ⟨tb, qb, sb⟩ := hb
  exact ⟨_, ps_for hp hc (q _) hg.1 qb hs, s.for_ hg.2 sb⟩
end

/-! ### comprehensions: the reading that a function itself gives -/
section
variable (K : Frag) (mg : Str → Option Value) (Wx : WX)
def cE (m : ME) : TE := fun σ H Q => ∃ (h : Ent) (H0 : Hp) (s : Hd) (ρ : Env'), G h H0 H s ∧ Slots K mg h H0 H σ ρ ∧ Post K mg h (Den K mg h.a) (m ρ s) H0 H Wx Q
def cT (m : MT) : TT := fun σ H Q => ∃ (h : Ent) (H0 : Hp) (s : Hd) (ρ : Env'), G h H0 H s ∧ Slots K mg h H0 H σ ρ ∧ Post K mg h EqB (m ρ s) H0 H Wx Q
def cS (m : MS) : TS := fun D σ H => ∃ (h : Ent) (H0 : Hp) (s : Hd) (ρ : Env'), G h H0 H s ∧ Slots K mg h H0 H σ ρ ∧ PostS K mg h (m ρ s) H0 H Wx D
end
section
variable {K : Frag} {mg : Str → Option Value} {X : Cx} {Wx : WX} {e : Expr} {sts : List Stmt} {ma : ME} {mt : MT} {ms : MS}
theorem se_cE : SE K mg Wx (cE K mg Wx ma) ma := fun h H0 H s σ ρ Q g S p => ⟨h, H0, s, ρ, g, S, p⟩
theorem st_cT : ST K mg Wx (cT K mg Wx mt) mt := fun h H0 H s σ ρ Q g S p => ⟨h, H0, s, ρ, g, S, p⟩
theorem ss_cS : SS K mg Wx (cS K mg Wx ms) ms := fun h H0 H s σ ρ Q g S p => ⟨h, H0, s, ρ, g, S, p⟩
theorem QE.can (q : QE X Wx e ma) : PE X e (cE X.K X.mg Wx ma) := by
  obtain ⟨t, p, s⟩ := q
  exact ⟨fun pins sh σ H Q I ⟨h, H0, s', ρ, g, S, w⟩ => p.run pins sh σ H Q I (s h H0 H s' σ ρ Q g S w)⟩
theorem QT.can (q : QT X Wx e mt) : PT X e (cT X.K X.mg Wx mt) := by
  obtain ⟨t, p, s⟩ := q
  exact ⟨fun pins sh σ H Q I ⟨h, H0, s', ρ, g, S, w⟩ => p.run pins sh σ H Q I (s h H0 H s' σ ρ Q g S w)⟩
theorem QSs.can (q : QSs X Wx sts ms) : PSs X sts (cS X.K X.mg Wx ms) := by
  obtain ⟨t, p, s⟩ := q
  exact ⟨fun pins sh σ H D I ⟨h, H0, s', ρ, g, S, w⟩ => p.run pins sh σ H D I (s h H0 H s' σ ρ D g S w)⟩
end
section
variable {X : Cx} {Wx : WX} {elt tg iter e2 : Expr} {scope : Scope} {own : List (Str × Nat)} {pos p pos2 : Pos} {g : TG} {m : GM} {js : List Nat} {ifs : List Expr} {mt : MT} {ma mb mb2 : ME}
/-- the tests of a clause -/
def QTs (X : Cx) (ifs : List Expr) (mt : MT) : Prop := (ifs = [] ∧ mt = mYes) ∨ ∃ c, ifs = [c] ∧ QT X WF c mt
theorem qts_nil : QTs X [] mYes := .inl ⟨rfl, rfl⟩
theorem qts_one {c : Expr} (h : QT X WF c mt) : QTs X [c] mt := .inr ⟨c, rfl, h⟩
theorem QTs.can (q : QTs X ifs mt) : PTs X ifs (cT X.K X.mg WF mt) := by
  rcases q with ⟨rfl, rfl⟩ | ⟨c, rfl, q⟩
  · exact ⟨fun pins sh σ H Q I ⟨h, H0, s', ρ, g, S, w⟩ => pts_nil.run pins sh σ H Q I (w true H0 H (.refl _ _) g rfl)⟩
  · exact pts_one q.can
theorem qe_lc {mi : MA} {vs : List Nat} (hc : X.calm = true) (hN : X.N.Nodup) (hi : QI X Wx iter mi) (ok : BlkOk X.N X.env.scope scope own) (hvs : own.map (·.2) = vs) (hv : ∀ j ∈ js, j ∈ vs) (hsg : SG X.K X.mg js g m)
    (hg : ∀ (s : Shared) (H : Hp) (C : Addr) (cl : List (Str × Addr)) (fp : List Addr), PG (X.blk s H scope (compEnvC scope cl C X.env) fp) tg g)
    (ht : ∀ (s : Shared) (H : Hp) (C : Addr) (cl : List (Str × Addr)) (fp : List Addr), QTs (X.blk s H scope (compEnvC scope cl C X.env) fp) ifs mt)
    (he : ∀ (s : Shared) (H : Hp) (C : Addr) (cl : List (Str × Addr)) (fp : List Addr), QE (X.blk s H scope (compEnvC scope cl C X.env) fp) WF elt ma) :
    QE X Wx (.ListComp elt [⟨tg, iter, ifs, 0⟩] scope pos) (mLc m mi mt ma vs) := by
  subst hvs
  obtain ⟨wi, q, s, hs⟩ := hi
  exact ⟨_, pe_lc hc hN (q _) ok hg (fun s H C cl fp => (ht s H C cl fp).can) (fun s H C cl fp => (he s H C cl fp).can) hs, s.lc hsg hv st_cT se_cE⟩
/-- name = [..] -/
theorem qs_setLc {mi : MA} {vs : List Nat} (i : Nat) {y : Str} {py spos : Pos} (hc : X.calm = true) (hN : X.N.Nodup) (hi : QI X Wx iter mi) (ok : BlkOk X.N X.env.scope scope own) (hvs : own.map (·.2) = vs) (hv : ∀ j ∈ js, j ∈ vs) (hsg : SG X.K X.mg js g m)
    (hg : ∀ (s : Shared) (H : Hp) (C : Addr) (cl : List (Str × Addr)) (fp : List Addr), PG (X.blk s H scope (compEnvC scope cl C X.env) fp) tg g)
    (ht : ∀ (s : Shared) (H : Hp) (C : Addr) (cl : List (Str × Addr)) (fp : List Addr), QTs (X.blk s H scope (compEnvC scope cl C X.env) fp) ifs mt)
    (he : ∀ (s : Shared) (H : Hp) (C : Addr) (cl : List (Str × Addr)) (fp : List Addr), QE (X.blk s H scope (compEnvC scope cl C X.env) fp) WF elt ma)
    (hy : X.N[i]? = some y := by rfl) (hyl : X.env.scope.names.lookup y = some .local := by rfl) (hsw : swapsWith (.ListComp elt [⟨tg, iter, ifs, 0⟩] scope pos) (some (.Name y py)) spos.line X.env = pure true := by exact sw_true rfl rfl rfl (by decide +kernel)) :
    QS X Wx (.Assign [.Name y py] (.ListComp elt [⟨tg, iter, ifs, 0⟩] scope pos) spos) (mSet i (mLc m mi mt ma vs)) := by
  subst hvs
  obtain ⟨wi, q, s, hs⟩ := hi
  exact ⟨_, ps_setLc hc hN hy hyl hsw (q _) ok hg (fun s H C cl fp => (ht s H C cl fp).can) (fun s H C cl fp => (he s H C cl fp).can) hs, ss_set (s.lc hsg hv st_cT se_cE)⟩
end
end Mir


set_option Elab.async false
set_option linter.all false
set_option maxRecDepth 100000
namespace Mir
open PySem PySem.Spec PyProof.Rows L2
open PySem.W (Frag)

/-! ### defs -/
def startE (n : Nat) (ds : List Dt) : Env' := ds.map .dat ++ List.replicate (n - ds.length) .no
def mDef (n : Nat) (ms : MS) : List Dt → Hd → R Dt := fun ds s => match ms (startE n ds) s with
  | .ok (.nx _) s' => .ok .non s'
  | .ok (.rt d) s' => .ok d s'
  | .err c fs ρ s' => .err c fs ρ s'
  | _ => .bad
section
variable {K : Frag} {mg : Str → Option Value}
theorem slots_start {h : Ent} {H0 H : Hp} {N : List Str} {vs : List V} {ds : List Dt} (st : Step h.a h.E0 h.E H0 H) (da : DenA K mg h.a H0 vs ds) : Slots K mg h H0 H (L2.start N vs) (startE N.length ds) := by
  have l := da.len
  unfold L2.start startE
  have own : ∀ (i : Nat) (b : Sl), (ds.map Sl.dat ++ List.replicate (N.length - ds.length) Sl.no)[i]? = some b → b.mine = true → False := fun i b z m => by
    by_cases hi : i < ds.length
    · rw [List.getElem?_append_left (by rw [List.length_map]; exact hi), List.getElem?_map, List.getElem?_eq_getElem hi] at z
      cases z
      cases m
    · rw [List.getElem?_append_right (by rw [List.length_map]; omega), List.getElem?_replicate] at z
      split at z <;> cases z
      cases m
  refine ⟨by simp [l], fun i o sl a b => ?_, fun i j p x y e1 e2 m1 _ _ _ => (own i x e1 m1).elim, st⟩
  by_cases hi : i < ds.length
  · rw [List.getElem?_append_left (by rw [List.length_map]; omega), List.getElem?_map] at a
    rw [List.getElem?_append_left (by rw [List.length_map]; exact hi), List.getElem?_map, List.getElem?_eq_getElem hi] at b
    cases b
    obtain ⟨v, e1, e2⟩ := da.get (List.getElem?_eq_getElem hi)
    rw [e1] at a
    cases a
    exact e2
  · rw [List.getElem?_append_right (by rw [List.length_map]; omega), List.getElem?_replicate] at b
    split at b
    · cases b
      cases o <;> exact True.intro
    · cases b
theorem postS_of {h : Ent} {r : R Fl} {H0 H : Hp} {Q : VK} {E : XK} (p : PostC K mg h.a (match r with
    | .ok (.nx _) s' => .ok .non s'
    | .ok (.rt d) s' => .ok d s'
    | .err c fs ρ s' => .err c fs ρ s'
    | _ => .bad) h.E0 h.E E Q) : PostS K mg h r H0 H (fun c d _ H' => E c d H') { nx := fun _ H' => Q .non H', rt := Q } := by
  cases r with
  | ok f s =>
    cases f with
    | nx ρ => exact fun σ' A B st g S => p .non A B S.st g .non
    | rt d => exact p
    | bk ρ => exact p.elim
    | ct ρ => exact p.elim
  | err c fs ρ s => exact fun σ' C od A B st g S mc x => p C od A B S.st g mc x
  | bad => exact p
end
section
variable {P : Program} {w : World} {K : Frag} {mg : Str → Option Value} {base : Heap} {x qual : Str} {st : Stmt} {f : Addr} {fd : FuncData} {N ps : List Str} {k : Nat} {ms : MS}
abbrev cxD (P : Program) (w : World) (K : Frag) (mg : Str → Option Value) (base : Heap) (N : List Str) (qual : Str) (scope : Scope) (f : Addr) (cd : Value) (A : Around) (outer : List Env) (s : Shared) (H : Hp) (E : XK) : Cx := cxOf (L2.CX P w) P w K mg base N qual scope f cd A outer s H E
abbrev wE (E : XK) : WX := fun c d _ H => E c d H
theorem cx_takes {scope : Scope} {cdv : Value} {A : Around} {outer : List Env} {s : Shared} {H : Hp} {E : XK} : Takes (cxD P w K mg base N qual scope f cdv A outer s H E) (wE E) := takes_of rfl rfl rfl rfl
theorem cx_pass {scope : Scope} {cdv : Value} {A : Around} {outer : List Env} {s : Shared} {H : Hp} {E : XK} : PassesOwn (model (cxD P w K mg base N qual scope f cdv A outer s H E).prog (cxD P w K mg base N qual scope f cdv A outer s H E).w) (cxD P w K mg base N qual scope f cdv A outer s H E).A (cxD P w K mg base N qual scope f cdv A outer s H E).env (cxD P w K mg base N qual scope f cdv A outer s H E).xe := passes_of rfl
/-- a def follows its function -/
theorem okM {n nn : Nat} (F : Fun K x qual st f fd) (S : FnScope N ps (defScope st)) (hn : ps.length = n) (hN : N.length = nn)
    (hb : ∀ (cdv : Value) (A : Around) (outer : List Env) (s : Shared) (H : Hp) (E : XK), Room k (A.deeper (envOfC qual (defScope st) s.heap.objs.size f cdv)) → QSs (cxD P w K mg base N qual (defScope st) f cdv A outer s H E) (wE E) (defBody st) ms) :
    FnOk P w K mg base (L2.CX P w) (k + 1) f fd ps (spM K mg n (mDef nn ms)) := by
  subst hn
  subst hN
  refine F.okX S (fun vs H Q E h => h.1) (fun cdv A outer s H vs Q E hr h => ?_)
  obtain ⟨hl, hh, H0, s', ds, g, da, p⟩ := h
  obtain ⟨ts, q, ss⟩ := hb cdv A outer s H E hr
  exact ⟨ts, q, ss ⟨hh, H0, H, hh⟩ H0 H s' _ _ _ g (slots_start (.refl _ _) da) (postS_of (h := ⟨hh, H0, H, hh⟩) p)⟩
theorem okMD {n nn : Nat} {params : Arguments} {body : List Stmt} {scope : Scope} {dvs : List V} (F : FunD K x qual params body scope dvs [] f fd) (S : FnScope N ps scope) (hn : ps.length = n) (hN : N.length = nn)
    (hb : ∀ (cdv : Value) (A : Around) (outer : List Env) (s : Shared) (H : Hp) (E : XK), Room k (A.deeper (envOfC qual scope s.heap.objs.size f cdv)) → QSs (cxD P w K mg base N qual scope f cdv A outer s H E) (wE E) body ms) :
    FnOk P w K mg base (L2.CX P w) (k + 1) f fd ps (spM K mg n (mDef nn ms)) := by
  subst hn
  subst hN
  refine F.ok S (fun vs H Q E h => h.1) (fun cdv A outer s H vs Q E hr h => ?_)
  obtain ⟨hl, hh, H0, s', ds, g, da, p⟩ := h
  obtain ⟨ts, q, ss⟩ := hb cdv A outer s H E hr
  exact ⟨ts, q, ss ⟨hh, H0, H, hh⟩ H0 H s' _ _ _ g (slots_start (.refl _ _) da) (postS_of (h := ⟨hh, H0, H, hh⟩) p)⟩
end

/-! ### raise: an own error that keeps its arguments -/
/-- what __init__ of such a class promises -/
def spI (K : Frag) (names : List Str) : Sp := fun vs H Q E => ∃ (a C : Addr) (ws : List V), vs = .ref a :: ws ∧ ws.length = names.length ∧ H a = some (exo a C none) ∧ OexC K C ∧ (∀ f ∈ names, PySem.W.findIn K (.ref C) f = some none) ∧
  ∀ d : Addr, H d = none → d ≠ a → Q .non (upd (upd H d (exd d (names.zip ws).reverse)) a (exo a C (some d)))
/-- what the text knows of the class named c -/
structure ExC (X : Cx) (c : Str) (names : List Str) (C : Addr) : Prop where
  m : X.mg c = some (.ref C)
  ox : OexC X.K C
  no : ∀ f ∈ names, PySem.W.findIn X.K (.ref C) f = some none
def mRaise (c : Str) (names : List Str) (as : MA) : MS := fun ρ s => (as ρ s).bind fun ds s1 => if ds.length = names.length ∧ names.length ≤ 100 ∧ 0 < names.length then .err c (names.zip ds).reverse ρ s1 else .bad
section
variable {K : Frag} {mg : Str → Option Value} {h : Addr} {H : Hp}
theorem DenF.app : ∀ {a b : List (Str × V)} {c d : List (Str × Dt)}, DenF K mg h H a c → DenF K mg h H b d → DenF K mg h H (a ++ b) (c ++ d)
  | _, _, _, _, .nil, s => s
  | _, _, _, _, .cons r t, s => .cons r (DenF.app t s)
theorem DenF.zipR : ∀ {vs : List V} {ds : List Dt} (names : List Str), DenA K mg h H vs ds → DenF K mg h H (names.zip vs).reverse (names.zip ds).reverse
  | _, _, [], _ => by
    rw [List.zip_nil_left, List.zip_nil_left]
    exact .nil
  | _, _, _ :: _, .nil => .nil
  | _, _, n :: ns, .cons q r => by
    rw [List.zip_cons_cons, List.zip_cons_cons, List.reverse_cons, List.reverse_cons]
    exact DenF.app (DenF.zipR ns r) (.cons q .nil)
theorem DenF.look {f : Str} {d : Dt} : ∀ {fv : List (Str × V)} {fs : List (Str × Dt)}, DenF K mg h H fv fs → fs.lookup f = some d → ∃ v, fv.lookup f = some v ∧ Den K mg h H v d
  | _, _, .nil, e => by cases e
  | _, _, @DenF.cons _ _ _ _ n v vs d' ds q r, e => by
    by_cases c : f = n
    · subst c
      simp only [List.lookup, beq_self_eq_true] at e ⊢
      cases e
      exact ⟨v, rfl, q⟩
    · have c' : (f == n) = false := by simpa using c
      simp only [List.lookup, c'] at e ⊢
      exact DenF.look r e
end
section
variable {X : Cx} {Wx : WX} {e : Expr} {es : List Expr} {c : Str} {p pos pos2 : Pos} {as : MA}
theorem qs_raise {names : List Str} {C fI : Addr} {k : Nat} {fd : FuncData} {ps : List Str} (hc : X.calm = true) (tk : Takes X Wx) (T : ExC X c names C) (iC : PySem.W.findIn X.K (.ref C) "__init__" = some (some (.ref fI))) (tI : PySem.W.typeIn X.K (.ref fI) = some (.type "function"))
    (F1 : FnOk X.prog X.w X.K X.mg X.base (L2.CX X.prog X.w) k fI fd ps (spI X.K names)) (hr : Room (k + 1) X.A) (hb : Binds X.K fd ps []) (hg : Gl X c) (ha : QA X Wx (e :: es) as)
    (hdb : (c == ("__debug__" : Str)) = false := by decide) (he : starEach (e :: es) X.env = (false, eval e X.env) :: starEach es X.env := by rfl) (hpl : (backTo pos (starEach es X.env)).any (·.1) = false := by rfl) :
    QS X Wx (.Raise (some (.Call (.Name c p) (e :: es) [] pos)) none pos2) (mRaise c names as) := by
  obtain ⟨t, q, sa⟩ := ha
  refine ⟨_, ps_raise hc tk (pmk_oex T.ox iC tI F1 hr hb .nil passL hg T.m q hdb he hpl), ?_⟩
  intro h H0 H s σ ρ D g S pp
  show t σ H _
  refine sa h H0 H s σ ρ _ g S (PostS.bind pp fun ds s1 xs A B st g1 dx p1 => ?_)
  by_cases cc : ds.length = names.length ∧ names.length ≤ 100 ∧ 0 < names.length
  · rw [if_pos cc] at p1
    have l := dx.len
    refine ⟨by omega, fun a na => ⟨a, C, xs ++ [], rfl, by rw [List.append_nil]; omega, upd_same, T.ox, T.no, fun d hd nd => ?_⟩⟩
    rw [List.append_nil]
    have hd0 : B d = none := by rwa [upd_ne nd] at hd
    refine ⟨rfl, d, _, upd_same, by rw [upd_ne nd]; exact upd_same, hd0, ?_⟩
    have eq : upd (del (upd (upd (upd B a (exo a C none)) d (exd d (names.zip xs).reverse)) a (exo a C (some d))) a) d (.xd (names.zip xs).reverse) = upd B d (.xd (names.zip xs).reverse) := by
      funext b
      by_cases e1 : b = d
      · subst e1
        rw [upd_same, upd_same]
      · rw [upd_ne e1, upd_ne e1]
        by_cases e2 : b = a
        · subst e2
          rw [del_same, na]
        · rw [del_ne e2, upd_ne e2, upd_ne e1, upd_ne e2]
    rw [eq]
    obtain ⟨g2, st2⟩ := g1.side (o := .xd (names.zip xs).reverse) hd0
    have nz : (names.zip ds).reverse ≠ [] := fun z => by
      have z := congrArg List.length z
      rw [List.length_reverse, List.length_zip] at z
      have z : min names.length ds.length = 0 := z
      omega
    exact p1 σ C (some d) A _ st2.s0 g2 ((S.step st).step st2) T.m ⟨nz, _, upd_same, DenF.zipR names dx⟩
  · rw [if_neg cc] at p1
    exact p1.elim
end

theorem visP {N P : List Str} {sc : Scope} (S : FnScope N P sc) {x : Str} (m : x ∈ P) : Vis sc x := (S.par x m).elim .inl fun z => .inr (.inl z)
/-! ### __init__ of such a class, one and two fields -/
section
variable {P : Program} {w : World} {K : Frag} {mg : Str → Option Value} {base : Heap} {qual f1 f2 f3 : Str} {st : Stmt} {f : Addr} {fd : FuncData}
theorem init1 {p1 p2 p3 p4 : Pos} (F : Fun K "__init__" qual st f fd) (S : FnScope ["self", f1] ["self", f1] (defScope st)) (hb : defBody st = [.Assign [.Attribute (.Name "self" p1) f1 p2] (.Name f1 p3) p4])
    (hdb : (f1 == ("__debug__" : Str)) = false := by decide) (hcd : (f1 == ("__classdict__" : Str)) = false := by decide) : FnOk P w K mg base (L2.CX P w) 1 f fd ["self", f1] (spI K [f1]) := by
  refine F.okX S (fun vs H Q E h => ?_) (fun cdv A outer s H vs Q E hr h => ?_)
  · obtain ⟨a, C, ws, rfl, l, _⟩ := h
    show ws.length + 1 = 2
    rw [l]
    rfl
  · obtain ⟨a, C, ws, rfl, l, ha, T, no, q⟩ := h
    obtain ⟨y, rfl⟩ : ∃ y, ws = [y] := by
      match ws, l with
      | [y], _ => exact ⟨y, rfl⟩
    rw [hb]
    have v0 : Vis (defScope st) "self" := visP S List.mem_cons_self
    have v1 : Vis (defScope st) f1 := visP S (List.mem_cons_of_mem _ List.mem_cons_self)
    refine ⟨_, pss_one (ps_ost (pe_var (i := 0) rfl v0) (pe_var (i := 1) rfl v1 hdb hcd)), ?_⟩
    exact ⟨y, rfl, .ref a, rfl, a, C, rfl, T, no f1 List.mem_cons_self, .inl ⟨ha, fun dx hd nd => q dx hd nd⟩⟩
theorem init2 {p1 p2 p3 p4 q1 q2 q3 q4 : Pos} (F : Fun K "__init__" qual st f fd) (S : FnScope ["self", f1, f2] ["self", f1, f2] (defScope st))
    (hb : defBody st = [.Assign [.Attribute (.Name "self" p1) f1 p2] (.Name f1 p3) p4, .Assign [.Attribute (.Name "self" q1) f2 q2] (.Name f2 q3) q4])
    (hdb : (f1 == ("__debug__" : Str)) = false := by decide) (hcd : (f1 == ("__classdict__" : Str)) = false := by decide) (hdb2 : (f2 == ("__debug__" : Str)) = false := by decide) (hcd2 : (f2 == ("__classdict__" : Str)) = false := by decide) : FnOk P w K mg base (L2.CX P w) 1 f fd ["self", f1, f2] (spI K [f1, f2]) := by
  refine F.okX S (fun vs H Q E h => ?_) (fun cdv A outer s H vs Q E hr h => ?_)
  · obtain ⟨a, C, ws, rfl, l, _⟩ := h
    show ws.length + 1 = 3
    rw [l]
    rfl
  · obtain ⟨a, C, ws, rfl, l, ha, T, no, q⟩ := h
    obtain ⟨y, z, rfl⟩ : ∃ y z, ws = [y, z] := by
      match ws, l with
      | [y, z], _ => exact ⟨y, z, rfl⟩
    rw [hb]
    have v0 : Vis (defScope st) "self" := visP S List.mem_cons_self
    have v1 : Vis (defScope st) f1 := visP S (List.mem_cons_of_mem _ List.mem_cons_self)
    have v2 : Vis (defScope st) f2 := visP S (List.mem_cons_of_mem _ (List.mem_cons_of_mem _ List.mem_cons_self))
    refine ⟨_, pss_cons (ps_ost (pe_var (i := 0) rfl v0) (pe_var (i := 1) rfl v1 hdb hcd)) (pss_one (ps_ost (pe_var (i := 0) rfl v0) (pe_var (i := 2) rfl v2 hdb2 hcd2))), ?_⟩
    refine ⟨y, rfl, .ref a, rfl, a, C, rfl, T, no f1 List.mem_cons_self, .inl ⟨ha, fun dx hd nd => ?_⟩⟩
    refine ⟨z, rfl, .ref a, rfl, a, C, rfl, T, no f2 (List.mem_cons_of_mem _ List.mem_cons_self), .inr ⟨dx, [(f1, y)], upd_same, by rw [upd_ne nd]; exact upd_same, (show 1 ≤ 900 by decide), ?_⟩⟩
    have eq : upd (upd (upd H dx (exd dx [(f1, y)])) a (exo a C (some dx))) dx (exd dx [(f2, z), (f1, y)]) = upd (upd H dx (exd dx [(f2, z), (f1, y)])) a (exo a C (some dx)) := by
      funext b
      by_cases e1 : b = dx
      · subst e1
        rw [upd_same, upd_ne nd, upd_same]
      · rw [upd_ne e1]
        by_cases e2 : b = a
        · subst e2
          rw [upd_same, upd_same]
        · rw [upd_ne e2, upd_ne e2, upd_ne e1, upd_ne e1]
    show Q .non _
    rw [eq]
    exact q dx hd nd
end
end Mir


set_option Elab.async false
set_option linter.all false
set_option maxRecDepth 100000
namespace Mir
open PySem PySem.Spec PyProof.Rows L2
open PySem.W (Frag)

/-! ### the hand: how it is made -/
def hAdd : R2 := rI0 fun i j => .int (i + j)
def hMul : R2 := rI CMul fun i j => .int (i * j)
def hMod : R2 := rI (fun _ j => 0 < j) fun i j => .int (i % j)
def hDiv : R2 := rI CDiv fun i j => .int (i / j)
def hDivW : R2 := rI CDivW fun i j => .int (i / j)
def hPow : R2 := rI CPow fun i j => .int (i ^ j.toNat)
def hGe : R2 := rI0 fun i j => .bl (decide (j ≤ i))
def cInt : List V → Hp → VK → Prop := fun xs H Q => (∃ i, xs = [.int i] ∧ Q (.int i) H) ∨ ∃ k, xs = [.bl k] ∧ Q (.int (if k then 1 else 0)) H
def cAbs : List V → Hp → VK → Prop := fun xs H Q => ∃ i, xs = [.int i] ∧ Q (.int (if i < 0 then -i else i)) H
def t1 (r : List V → Hp → VK → Prop) (t : TE) : TE := tCB r (tCons t tNil)
def tI (i : Int) : TE := tC (.int i)
def tHandTurn (K : Frag) : TS :=
  tSeq (tAsg (t1 cAbs (t1 cInt (tVar 3))) (gName 4))
    (tSeq (tAsg (tOp hAdd (tOp hMod (t1 cInt (tOp hAdd (tOp hMul (tVar 2) (tI 31337)) (tVar 4))) (tI 2147483629)) (tI 1)) (gName 2))
      (tIfS (tTest (tOp hGe (tVar 4) (tOp hPow (tI 10) (tI 18)))) (tDrop (tBM K "list" rAppend (tVar 1) (tCons (tVar 4) tNil))) tNext))
def tHand (K : Frag) : TS :=
  tSeq (tAsg (tLst tNil) (gName 1)) (tSeq (tAsg (tOp hAdd (t1 (rLenA K) (tVar 0)) (tI 7)) (gName 2))
    (tSeq (tFor (iList K (tVar 0)) (gName 3) (tHandTurn K)) (tRet (tLst (tCons (tVar 1) (tCons (tVar 2) (tCons (tI 0) tNil)))))))
def spHand (K : Frag) : Sp := fun vs H Q _ => ∃ (a : Addr) (ns : List Int), vs = [.ref a] ∧ SqL K H a (ns.map V.int) ∧ ns.length ≤ 63 ∧
  ∀ (h gl : Addr) (g : List Int) (m : Int) (H' : Hp), Same H H' → H h = none → H gl = none → gl ≠ h → H' h = some (.lst [.ref gl, .int m, .int 0]) → H' gl = some (.lst (g.map V.int)) → Q (.ref h) H'
theorem pow18 : CPow 10 18 := ⟨by decide, by decide, by decide⟩
theorem hand_run {K : Frag} {vs : List V} {H : Hp} {Q : VK} {E : XK} (hh : spHand K vs H Q E) : tHand K { nx := fun _ H' => Q .non H', rt := Q } (vs.map some ++ [none, none, none, none]) H := by
  obtain ⟨a, ns, rfl, hS, hl, q⟩ := hh
  refine ⟨Nat.zero_le _, fun gl hgl => ?_⟩
  have s1 : Same H (upd H gl (.lst [])) := same_upd' hgl
  refine ⟨.ref a, rfl, .inl ⟨a, _, rfl, .inl (s1.seq hS), _, 7, rfl, rfl, ?_⟩⟩
  refine ⟨.ref a, rfl, a, rfl, ⟨_, s1.seq hS⟩, for_list (K := K) (a := a) (xs := ns.map V.int) (fun i σ H' => ∃ (g : List Int) (m : Int) (y z : Option V), σ = [some (.ref a), some (.ref gl), some (.int m), y, z] ∧ Same H H' ∧ H' gl = some (.lst (g.map V.int)) ∧ g.length ≤ i)
    ⟨[], _, none, none, rfl, s1, upd_same, Nat.le_refl _⟩ (fun i σ H' _ ⟨_, _, _, _, _, s, _⟩ => s.seq hS) ?_ ?_⟩
  · rintro i x σ H' hx ⟨g, m, y, z, rfl, s, eg, lg⟩
    have hi : i < ns.length := by
      obtain ⟨w, _⟩ := List.getElem?_eq_some_iff.mp hx
      simpa using w
    obtain ⟨n, hn⟩ : ∃ n, x = V.int n := by
      rw [List.getElem?_map, List.getElem?_eq_getElem hi] at hx
      exact ⟨_, (Option.some.inj hx).symm⟩
    subst hn
    refine ⟨_, rfl, .inl ⟨n, rfl, n, rfl, ?_⟩⟩
    generalize hz : (if n < 0 then -n else n) = k
    refine ⟨_, rfl, m, 31337, rfl, rfl, .inr ⟨by decide, by decide⟩, _, rfl, _, k, rfl, rfl, .inl ⟨_, rfl, _, 2147483629, rfl, rfl, (show (0 : Int) < 2147483629 by decide), _, 1, rfl, rfl, ?_⟩⟩
    refine ⟨_, rfl, 10, 18, rfl, rfl, pow18, k, 10 ^ 18, rfl, rfl, _, rfl, ?_⟩
    by_cases c : (10 : Int) ^ 18 ≤ k
    · rw [decide_eq_true c]
      refine iteT ⟨.ref gl, rfl, .inl ⟨rfl, _, .inl (.inl eg)⟩, .int k, rfl, gl, _, _, rfl, rfl, eg, ?_, ?_⟩
      · rw [List.length_map]
        exact small1000 (by omega)
      · refine ⟨g ++ [k], _, _, _, rfl, fun b o w => ?_, ?_, ?_⟩
        · have nb : b ≠ gl := ne_of_none w hgl
          rw [upd_ne nb]
          exact s b o w
        · rw [upd_same, List.map_append]
          rfl
        · rw [List.length_append]
          show g.length + 1 ≤ i + 1
          omega
    · rw [decide_eq_false c]
      exact iteF ⟨g, _, _, _, rfl, s, eg, by omega⟩
  · rintro σ H' ⟨g, m, y, z, rfl, s, eg, lg⟩
    refine ⟨_, rfl, _, rfl, (by show 3 ≤ sizeLine; decide), fun h nh => ?_⟩
    have n1 : gl ≠ h := ne_of_none eg nh
    refine q h gl g m _ (fun b o w => ?_) (s.free nh) hgl n1 upd_same (by rw [upd_ne n1]; exact eg)
    rw [upd_ne (ne_of_none (s b o w) nh)]
    exact s b o w

/-! ### the hand: a draw -/
def dropZ : List Int → List Int
  | [] => []
  | x :: r => if x = 0 then dropZ r else x :: r
def stM (s : Hd) : Int := (s.m * 69621 + 12345) % 2147483647
def stO (m c : Int) : Int := (m * 48271 + c * 7919) % 2147483629
def stT (o c : Int) : Int := (o * o + c * 104729 + o / 131) % 2147483587
def takeV (s : Hd) (many : Int) : Int := match dropZ s.g with
  | x :: _ => x % many
  | [] => (stT (stO (stM s) (s.c + 1)) (s.c + 1) / 17) % many
def takeS (s : Hd) (many : Int) : Hd := match dropZ s.g with
  | x :: r => ⟨(x / many) :: r, s.m, s.c⟩
  | [] => ⟨[], stM s, s.c + 1⟩
def manyOk (n : Int) : Prop := 0 < n ∧ n.natAbs.log2 < 9000
instance (n : Int) : Decidable (manyOk n) := inferInstanceAs (Decidable (_ ∧ _))
def mTake : List Dt → Hd → R Dt := fun ds s => match ds with
  | [.hnd, .int n] => if manyOk n then .ok (.int (takeV s n)) (takeS s n) else .bad
  | _ => .bad
theorem takeV_ge {s : Hd} {n : Int} (h : 0 < n) : 0 ≤ takeV s n := by
  unfold takeV
  split <;> exact Int.emod_nonneg _ (by omega)
theorem takeV_lt {s : Hd} {n : Int} (h : 0 < n) : takeV s n < n := by
  unfold takeV
  split <;> exact Int.emod_lt_of_pos _ h
/-- the hand changed, nothing else -/
theorem G.mut {h : Addr} {H0 H H' : Hp} {s s' : Hd} {gl gl' : Addr} (g : G h H0 H s) (e1 : H h = some (.lst [.ref gl, .int s.m, .int s.c])) (n0 : H0 gl = none) (n1 : H0 gl' = none) (n2 : gl' ≠ h)
    (e3 : H' h = some (.lst [.ref gl', .int s'.m, .int s'.c])) (e4 : H' gl' = some (.lst (s'.g.map V.int))) (k : ∀ q o, H q = some o → q ≠ h → q ≠ gl → H' q = some o) (f : gl' = gl ∨ H gl' = none) : G h H0 H' s' ∧ Step h H0 H H0 H' := by
  refine ⟨⟨fun q o w => k q o (g.ex q o w) (fun z => ?_) (fun z => ?_), g.h0, gl', n1, n2, e3, e4⟩, ⟨Same.refl _, fun q o w1 w2 w3 => ?_⟩⟩
  · rw [z, g.h0] at w
    cases w
  · rw [z, n0] at w
    cases w
  · have a1 : q ≠ h := fun z => w3 (.inl z)
    have a2 : q ≠ gl := fun z => w3 (.inr ⟨_, by rw [z]; exact e1⟩)
    refine ⟨k q o w1 a1 a2, w2, fun w => ?_⟩
    rcases w with w | ⟨r, w⟩
    · exact a1 w
    · rw [e3] at w
      have w' : q = gl' := by
        have := Option.some.inj w
        injection this with z
        injection z with z1 z2
        injection z1 with z3
        exact z3.symm
      rcases f with f | f
      · exact a2 (w'.trans f)
      · rw [w', f] at w1
        cases w1
def t0 (K : Frag) : TE := tOp (rIxL K) (tVar 0) (tI 0)
def t00 (K : Frag) : TE := tOp (rIxL K) (t0 K) (tI 0)
def tAt (K : Frag) (i : Int) : TE := tOp (rIxL K) (tVar 0) (tI i)
def tTr (K : Frag) (ta : TE) : TT := fun σ H Q => ta σ H fun x H' => ∃ k, TruV K x H' k ∧ Q k H'
def tTakeW (K : Frag) : TS := tWhile (tAnd (tTr K (t0 K)) (tTest (tOp rEq (t00 K) (tI 0)))) (tAsg (tSl (rSlL K) (t0 K) (tPart (tI 1)) tNoPart) (gSub (tVar 0) (tI 0) rSetL))
def tTakeI (K : Frag) : TS := tSeq (tAsg (t00 K) (gName 2)) (tSeq (tAsg (tOp hDivW (t1 cInt (tVar 2)) (tVar 1)) (gSub (t0 K) (tI 0) rSetL)) (tRet (tOp hMod (t1 cInt (tVar 2)) (tVar 1))))
def tTakeR (K : Frag) : TS :=
  tSeq (tAsg (tOp hAdd (tAt K 2) (tI 1)) (gSub (tVar 0) (tI 2) rSetL))
    (tSeq (tAsg (tOp hMod (t1 cInt (tOp hAdd (tOp hMul (tAt K 1) (tI 69621)) (tI 12345))) (tI 2147483647)) (gSub (tVar 0) (tI 1) rSetL))
    (tSeq (tAsg (tOp hMod (t1 cInt (tOp hAdd (tOp hMul (tAt K 1) (tI 48271)) (tOp hMul (tAt K 2) (tI 7919)))) (tI 2147483629)) (gName 3))
    (tSeq (tAsg (tOp hMod (t1 cInt (tOp hAdd (tOp hAdd (tOp hMul (tVar 3) (tVar 3)) (tOp hMul (tAt K 2) (tI 104729))) (tOp hDiv (tVar 3) (tI 131)))) (tI 2147483587)) (gName 4))
    (tRet (tOp hMod (t1 cInt (tOp hDiv (tVar 4) (tI 17))) (tVar 1))))))
def tTake (K : Frag) : TS := tSeq (tTakeW K) (tSeq (tIfS (tTr K (t0 K)) (tTakeI K) tNext) (tTakeR K))
theorem take_run {K : Frag} {mg : Str → Option Value} {vs : List V} {H : Hp} {Q : VK} {E : XK} (hh : spM K mg 2 mTake vs H Q E) : tTake K { nx := fun _ H' => Q .non H', rt := Q } (vs.map some ++ [none, none, none]) H := by
  obtain ⟨hl, h, H0, s, ds, g, da, p⟩ := hh
  -- the arguments
  obtain ⟨n, rfl, mk⟩ : ∃ n : Int, ds = [.hnd, .int n] ∧ manyOk n := by
    unfold mTake at p
    split at p
    · split at p
      · exact ⟨_, rfl, by assumption⟩
      · exact p.elim
    · exact p.elim
  obtain ⟨v, w, rfl, dv, dw⟩ := da.two
  cases dv
  cases dw
  have p : PostC K mg h (if manyOk n then .ok (.int (takeV s n)) (takeS s n) else .bad) H0 H E Q := p
  rw [if_pos mk] at p
  -- the loop
  refine ⟨fun k σ H' => ∃ gz, σ = [some (.ref h), some (.int n), none, none, none] ∧ gz.length = k ∧ dropZ gz = dropZ s.g ∧ G h H0 H' ⟨gz, s.m, s.c⟩ ∧ Step h H0 H H0 H', ⟨_, s.g, rfl, rfl, rfl, g, .refl _ _⟩, ?_⟩
  rintro k σ H' ⟨gz, rfl, hk, hz, g1, st1⟩
  obtain ⟨gl, a1, a2, a3, a4⟩ := g1.gl
  have eh : SqL K H' h [.ref gl, .int s.m, .int s.c] := SqL.of a3
  have eg : SqL K H' gl (gz.map V.int) := SqL.of a4
  have x0 : atI [V.ref gl, .int s.m, .int s.c] 0 = some (.ref gl) := rfl
  refine ⟨.ref h, rfl, h, _, 0, _, rfl, rfl, eh, x0, ?_⟩
  cases gz with
  | nil =>
    refine ⟨false, .inl ⟨_, eg, rfl⟩, ?_⟩
    refine iteF (iteF ?_)
    -- nothing great is left
    refine ⟨.ref h, rfl, h, _, 0, _, rfl, rfl, eh, x0, false, .inl ⟨_, eg, rfl⟩, iteF ?_⟩
    have hz : dropZ s.g = [] := hz.symm
    refine ⟨.ref h, rfl, h, _, 2, .int s.c, rfl, rfl, eh, rfl, s.c, 1, rfl, rfl, .ref h, rfl, h, _, 2, 2, rfl, rfl, a3, rfl, ?_⟩
    have b3 : (upd H' h (.lst [.ref gl, .int s.m, .int (s.c + 1)])) h = some (.lst [.ref gl, .int s.m, .int (s.c + 1)]) := upd_same
    refine ⟨.ref h, rfl, h, [.ref gl, .int s.m, .int (s.c + 1)], 1, .int s.m, rfl, rfl, SqL.of b3, rfl, s.m, 69621, rfl, rfl, .inr ⟨by decide, by decide⟩, _, 12345, rfl, rfl, .inl ⟨_, rfl, _, 2147483647, rfl, rfl, (show (0 : Int) < 2147483647 by decide), .ref h, rfl, h, _, 1, 1, rfl, rfl, b3, rfl, ?_⟩⟩
    have c3 : (upd (upd H' h (.lst [.ref gl, .int s.m, .int (s.c + 1)])) h (.lst [.ref gl, .int (stM s), .int (s.c + 1)])) h = some (.lst [.ref gl, .int (stM s), .int (s.c + 1)]) := upd_same
    have c4 : SqL K (upd (upd H' h (.lst [.ref gl, .int s.m, .int (s.c + 1)])) h (.lst [.ref gl, .int (stM s), .int (s.c + 1)])) h [.ref gl, .int (stM s), .int (s.c + 1)] := SqL.of c3
    refine ⟨.ref h, rfl, h, _, 1, .int (stM s), rfl, rfl, c4, rfl, stM s, 48271, rfl, rfl, .inr ⟨by decide, by decide⟩, .ref h, rfl, h, _, 2, .int (s.c + 1), rfl, rfl, c4, rfl, s.c + 1, 7919, rfl, rfl, .inr ⟨by decide, by decide⟩, _, _, rfl, rfl, .inl ⟨_, rfl, _, 2147483629, rfl, rfl, (show (0 : Int) < 2147483629 by decide), ?_⟩⟩
    have ob : 0 ≤ stO (stM s) (s.c + 1) ∧ stO (stM s) (s.c + 1) < 2147483629 := ⟨Int.emod_nonneg _ (by decide), Int.emod_lt_of_pos _ (by decide)⟩
    refine ⟨_, rfl, _, rfl, stO (stM s) (s.c + 1), stO (stM s) (s.c + 1), rfl, rfl, .inl ⟨by omega, by omega⟩, .ref h, rfl, h, _, 2, .int (s.c + 1), rfl, rfl, c4, rfl, s.c + 1, 104729, rfl, rfl, .inr ⟨by decide, by decide⟩, _, _, rfl, rfl,
      _, rfl, stO (stM s) (s.c + 1), 131, rfl, rfl, ⟨by decide, by decide⟩, _, _, rfl, rfl, .inl ⟨_, rfl, _, 2147483587, rfl, rfl, (show (0 : Int) < 2147483587 by decide), ?_⟩⟩
    refine ⟨_, rfl, stT (stO (stM s) (s.c + 1)) (s.c + 1), 17, rfl, rfl, ⟨by decide, by decide⟩, .inl ⟨_, rfl, _, rfl, _, n, rfl, rfl, mk.1, ?_⟩⟩
    have ng : gl ≠ h := a2
    obtain ⟨g2, st2⟩ := g1.mut (s' := ⟨[], stM s, s.c + 1⟩) (gl' := gl) a3 a1 a1 ng c3 (by rw [upd_ne ng, upd_ne ng]; exact a4) (fun q o w w1 w2 => by rw [upd_ne w1, upd_ne w1]; exact w) (.inl rfl)
    have ev : takeV s n = (stT (stO (stM s) (s.c + 1)) (s.c + 1) / 17) % n := by
      unfold takeV
      rw [hz]
    have es : takeS s n = ⟨[], stM s, s.c + 1⟩ := by
      unfold takeS
      rw [hz]
    have p : ∀ v H0' H', Step h H0 H H0' H' → G h H0' H' (takeS s n) → Den K mg h H0' v (.int (takeV s n)) → Q v H' := p
    rw [es, ev] at p
    exact p _ H0 _ (st1.trans st2) g2 (.int _)
  | cons z gr =>
    refine ⟨true, .inl ⟨_, eg, rfl⟩, iteT ?_⟩
    have ix0 : ixN ((z :: gr).map V.int).length 0 = some 0 := by
      unfold ixN
      rw [if_pos (by decide), if_pos (by rw [List.length_map, List.length_cons]; omega)]
      rfl
    have y0 : atI (((z :: gr).map V.int)) 0 = some (.int z) := atI_nat (j := 0) rfl
    refine ⟨.ref h, rfl, h, _, 0, _, rfl, rfl, eh, x0, gl, _, 0, _, rfl, rfl, eg, y0, rfl, _, rfl, ?_⟩
    by_cases cz : z = 0
    · subst cz
      rw [decide_eq_true rfl]
      refine iteT ⟨fun σ' H'' => ∃ k', k' < k ∧ ∃ gz, σ' = [some (.ref h), some (.int n), none, none, none] ∧ gz.length = k' ∧ dropZ gz = dropZ s.g ∧ G h H0 H'' ⟨gz, s.m, s.c⟩ ∧ Step h H0 H H0 H'', fun _ _ w => w, ?_⟩
      refine ⟨.ref h, rfl, h, _, 0, _, rfl, rfl, eh, x0, 1, rfl, gl, _, rfl, eg, fun q nq => ?_⟩
      have cut : cutV ((0 :: gr).map V.int) (some 1) none = gr.map V.int := by
        unfold cutV
        rw [show HT.sIx ((0 :: gr).map V.int).length 0 (some 1) = min 1 ((0 :: gr).map V.int).length from HT.sIx_nat _ 0 1, HT.sIx_none]
        simp
        exact List.take_of_length_le (by rw [List.length_map]; exact Nat.le_refl _)
      rw [cut]
      have nh : h ≠ q := ne_of_none a3 nq
      have ngq : gl ≠ q := ne_of_none a4 nq
      refine ⟨.ref h, rfl, h, [.ref gl, .int s.m, .int s.c], 0, 0, rfl, rfl, by rw [upd_ne nh]; exact a3, rfl, ?_⟩
      have nq0 : H0 q = none := g1.ex.free nq
      obtain ⟨g2, st2⟩ := g1.mut (s' := ⟨gr, s.m, s.c⟩) (gl' := q) (H' := upd (upd H' q (.lst (gr.map V.int))) h (.lst [.ref q, .int s.m, .int s.c])) a3 a1 nq0 (Ne.symm nh) upd_same (by rw [upd_ne (Ne.symm nh), upd_same])
        (fun b o w w1 w2 => by rw [upd_ne w1, upd_ne (ne_of_none w nq)]; exact w) (.inr nq)
      have hz' : dropZ gr = dropZ s.g := by
        rw [← hz]
        show _ = if (0 : Int) = 0 then dropZ gr else _
        rw [if_pos rfl]
      exact ⟨gr.length, by rw [← hk]; exact Nat.lt_succ_self _, gr, rfl, rfl, hz', g2, st1.trans st2⟩
    · have dn : decide (V.int z = V.int 0) = false := decide_eq_false fun e => cz (V.int.inj e)
      rw [dn]
      refine iteF ?_
      have hz2 : dropZ s.g = z :: gr := by
        rw [← hz]
        show (if z = 0 then dropZ gr else z :: gr) = _
        rw [if_neg cz]
      refine ⟨.ref h, rfl, h, _, 0, _, rfl, rfl, eh, x0, true, .inl ⟨_, eg, rfl⟩, iteT ?_⟩
      refine ⟨.ref h, rfl, h, _, 0, _, rfl, rfl, eh, x0, gl, _, 0, _, rfl, rfl, eg, y0, ?_⟩
      refine ⟨_, rfl, .inl ⟨z, rfl, _, rfl, z, n, rfl, rfl, ⟨mk.1, mk.2⟩, .ref h, rfl, h, _, 0, _, rfl, rfl, eh, x0, gl, _, 0, 0, rfl, rfl, a4, ix0, ?_⟩⟩
      have ng : h ≠ gl := Ne.symm a2
      refine ⟨_, rfl, .inl ⟨z, rfl, _, rfl, z, n, rfl, rfl, mk.1, ?_⟩⟩
      obtain ⟨g2, st2⟩ := g1.mut (s' := ⟨(z / n) :: gr, s.m, s.c⟩) (gl' := gl) (H' := upd H' gl (.lst (((z :: gr).map V.int).set 0 (.int (z / n))))) a3 a1 a1 a2 (by rw [upd_ne ng]; exact a3) (by rw [upd_same]; rfl) (fun q o w w1 w2 => by rw [upd_ne w2]; exact w) (.inl rfl)
      have ev : takeV s n = z % n := by
        unfold takeV
        rw [hz2]
      have es : takeS s n = ⟨(z / n) :: gr, s.m, s.c⟩ := by
        unfold takeS
        rw [hz2]
      have p : ∀ v H0' H', Step h H0 H H0' H' → G h H0' H' (takeS s n) → Den K mg h H0' v (.int (takeV s n)) → Q v H' := p
      rw [es, ev] at p
      exact p _ H0 _ (st1.trans st2) g2 (.int _)
end Mir


set_option Elab.async false
set_option linter.all false
set_option maxRecDepth 100000
namespace Mir
open PySem PySem.Spec PyProof.Rows L2
open PySem.W (Frag)

/-! ### try: body, except c as w: suite -/
/-- a suite's function: the caught error's fields first -/
abbrev MX := List (Str × Dt) → MS
def mTryAs (i : Nat) (c : Str) (body : MS) (suite : MX) : MS := fun ρ s => match body ρ s with
  | .err c' fs ρ' s' => if c' = c ∧ i < ρ'.length then (match suite fs (ρ'.set i .no) s' with
      | .ok (.nx ρ2) s2 => .ok (.nx (ρ2.set i .no)) s2
      | .ok (.rt d) s2 => .ok (.rt d) s2
      | .ok (.bk ρ2) s2 => .ok (.bk (ρ2.set i .no)) s2
      | .ok (.ct ρ2) s2 => .ok (.ct (ρ2.set i .no)) s2
      | _ => .bad) else .bad
  | .ok f s' => .ok f s'
  | .bad => .bad
section
variable (K : Frag) (mg : Str → Option Value) (i : Nat) (C a : Addr) (dd : Option Addr)
def XE' (te : TE) (m : List (Str × Dt) → ME) : Prop := ∀ (h : Ent) (H0 H : Hp) (s : Hd) (σ : L2.St) (ρ : Env') (Q : VK) (fs : List (Str × Dt)), G h H0 H s → Slots K mg h H0 H σ ρ → σ[i]? = some (some (.ref a)) → XdOk K mg h H0 H dd fs →
  Post K mg h (Den K mg h.a) (m fs ρ s) H0 H WF Q → te σ H Q
def XA' (te : TA) (m : List (Str × Dt) → MA) : Prop := ∀ (h : Ent) (H0 H : Hp) (s : Hd) (σ : L2.St) (ρ : Env') (Q : List V → Hp → Prop) (fs : List (Str × Dt)), G h H0 H s → Slots K mg h H0 H σ ρ → σ[i]? = some (some (.ref a)) → XdOk K mg h H0 H dd fs →
  Post K mg h (DenA K mg h.a) (m fs ρ s) H0 H WF Q → te σ H Q
def XS' (ts : TS) (m : MX) : Prop := ∀ (h : Ent) (H0 H : Hp) (s : Hd) (σ : L2.St) (ρ : Env') (D : Ends) (fs : List (Str × Dt)), G h H0 H s → Slots K mg h H0 H σ ρ → σ[i]? = some (some (.ref a)) → XdOk K mg h H0 H dd fs →
  PostS K mg h (m fs ρ s) H0 H WF D → ts D σ H
end
def xFld (f : Str) : List (Str × Dt) → ME := fun fs _ s => liftO (fs.lookup f) s
def xC (d : Dt) : List (Str × Dt) → ME := fun _ _ s => .ok d s
def xNil : List (Str × Dt) → MA := fun _ _ s => .ok [] s
def xCons (a : List (Str × Dt) → ME) (r : List (Str × Dt) → MA) : List (Str × Dt) → MA := fun fs ρ s => (a fs ρ s).bind fun d s1 => (r fs ρ s1).bind fun ds s2 => .ok (d :: ds) s2
def xTup (as : List (Str × Dt) → MA) : List (Str × Dt) → ME := fun fs ρ s => (as fs ρ s).bind fun ds s1 => if ds.length ≤ 100000 then .ok (.tup ds) s1 else .bad
def xRet (a : List (Str × Dt) → ME) : MX := fun fs ρ s => (a fs ρ s).bind fun d s1 => .ok (.rt d) s1
section
variable {K : Frag} {mg : Str → Option Value} {i : Nat} {C a : Addr} {dd : Option Addr} {te : TE} {ta : TA} {m : List (Str × Dt) → ME} {ma : List (Str × Dt) → MA}
theorem xd_keep {h : Addr} {H0 H H0' H' : Hp} {s s' : Hd} {fv : List (Str × V)} {dd : Addr} (g : G h H0 H s) (st : Step h H0 H H0' H') (g' : G h H0' H' s') (e : H dd = some (.xd fv)) : H' dd = some (.xd fv) := by
  cases q : H0 dd with
  | some o =>
    have w := g.ex _ _ q
    rw [e] at w
    cases w
    exact g'.ex _ _ (st.s0 _ _ q)
  | none =>
    refine (st.fr dd _ e q fun z => ?_).1
    obtain ⟨gl, a1, a2, a3, a4⟩ := g.gl
    rcases z with z | ⟨r, z⟩
    · rw [z, a3] at e
      cases e
    · rw [a3] at z
      cases z
      rw [a4] at e
      cases e
theorem xd_step' {h : Addr} {H0 H H0' H' : Hp} {s s' : Hd} {fs : List (Str × Dt)} (g : G h H0 H s) (st : Step h H0 H H0' H') (g' : G h H0' H' s') (e : XdOk K mg h H0 H dd fs) : XdOk K mg h H0' H' dd fs := by
  cases dd with
  | none => exact e
  | some dd =>
    obtain ⟨nz, fv, e1, e2⟩ := e
    exact ⟨nz, fv, xd_keep g st g' e1, e2.mono st.s0⟩
theorem xe_fld {f : Str} : XE' K mg i a dd (tXf a (.ref C) dd C f (tVar i)) (xFld f) := by
  intro h H0 H s σ ρ Q fs g S ei ed p
  obtain ⟨z, hz, p⟩ := post_lift p
  cases dd with
  | none =>
    have ed : fs = [] := ed
    subst ed
    cases hz
  | some dd =>
    obtain ⟨_, fv, ed, df⟩ := ed
    obtain ⟨v, e1, e2⟩ := df.look hz
    exact ⟨.ref a, ei, rfl, rfl, dd, fv, v, rfl, ed, e1, p v H0 H (.refl _ _) g e2⟩
theorem xe_c {v : V} {d : Dt} (hd : ∀ (h : Addr) (H : Hp), Den K mg h H v d) : XE' K mg i a dd (tC v) (xC d) := fun h H0 H s σ ρ Q fs g S ei ed p => p v H0 H (.refl _ _) g (hd h H0)
theorem xa_nil : XA' K mg i a dd tNil xNil := fun h H0 H s σ ρ Q fs g S ei ed p => p [] H0 H (.refl _ _) g .nil
theorem xa_cons (h1 : XE' K mg i a dd te m) (h2 : XA' K mg i a dd ta ma) : XA' K mg i a dd (tCons te ta) (xCons m ma) := by
  intro h H0 H s σ ρ Q fs g S ei ed p
  refine h1 h H0 H s σ ρ _ fs g S ei ed (Post.bind p fun d s1 x A B st g1 dx p1 => h2 h A B s1 σ ρ _ fs g1 (S.step st) ei (xd_step' g st g1 ed) (Post.bind p1 fun ds s2 xs A2 B2 st2 g2 dxs p2 => ?_))
  exact p2 (x :: xs) A2 B2 (.refl _ _) g2 (.cons (dx.mono st2.s0) dxs)
theorem xe_tup (h1 : XA' K mg i a dd ta ma) : XE' K mg i a dd (tTup ta) (xTup ma) := by
  intro h H0 H s σ ρ Q fs g S ei ed p
  refine h1 h H0 H s σ ρ _ fs g S ei ed (Post.bind p fun ds s1 xs A B st g1 dx p1 => ?_)
  by_cases c : ds.length ≤ 100000
  · rw [if_pos c] at p1
    refine ⟨by rw [dx.len]; exact sizeOk.le c, fun q hq => ?_⟩
    obtain ⟨g2, st2⟩ := g1.alloc (o := .tup xs) hq
    exact p1 _ _ _ st2 g2 (.tup (SqT.of upd_same) (dx.mono st2.s0))
  · rw [if_neg c] at p1
    exact p1.elim
theorem xe_any {te : TE} {m : ME} (h1 : SE K mg WF te m) : XE' K mg i a dd te (fun _ => m) := fun h H0 H s σ ρ Q fs g S ei ed p => h1 h H0 H s σ ρ Q g S p
theorem xs_ret (h1 : XE' K mg i a dd te m) : XS' K mg i a dd (tRet te) (xRet m) := by
  intro h H0 H s σ ρ D fs g S ei ed p
  refine h1 h H0 H s σ ρ _ fs g S ei ed (PostS.bind p fun d s1 x A B st g1 dx p1 => ?_)
  exact p1 x A B (S.step st).st g1 dx
end
/-- a suite as text: ts its reading by the caught error's address, class and dict -/
structure QX (X : Cx) (i : Nat) (C : Addr) (b₀ : Stmt) (suite : List Stmt) (ts : Addr → Value → Option Addr → TS) (m : MX) : Prop where
  text : ∀ (a : Addr) (oe : Obj) (cls : Value) (d : Option Addr) (pn : List (Addr × Obj)), Zc cls d oe → (∃ vs, oe.data = .fields vs) → PSs (X.suite a ((a, oe) :: pn)) (b₀ :: suite) (ts a cls d)
  read : ∀ (a : Addr) (dd : Option Addr), XS' X.K X.mg i a dd (ts a (.ref C) dd) m
section
variable {X : Cx} {Wx : WX} {c n : Str} {C : Addr} {i : Nat} {body suite : List Stmt} {b₀ : Stmt} {np pos pos' : Pos} {mb : MS} {mx : MX} {ts : Addr → Value → Option Addr → TS}
theorem qs_tryAs (hs : X.stack = X.env :: X.outer) (hf : X.env.frame = some X.env.locals) (hN : X.N.Nodup) (hi : X.N[i]? = some n) (hln : X.env.kindOf n = some .local) (hm : X.mg c = some (.ref C)) (hg : Gl X c) (hdb : (c == ("__debug__" : Str)) = false) (tk : Takes X Wx)
    (he : PySem.W.exmOne X.K (.ref C) (.ref C) = some true)
    (hb : ∀ (W : WX) (pn : List (Addr × Obj)) (xe : Value → Shared → Prop), Takes (X.tr pn xe) W → PassesOwn (model X.prog X.w) X.A X.env xe → QSs (X.tr pn xe) W body mb) (hx : QX X i C b₀ suite ts mx) :
    QS X Wx (.Try body [.ExceptHandler (some (.Name c np)) (some n) (b₀ :: suite) pos'] [] [] pos) (mTryAs i c mb mx) := by
  refine ⟨_, ps_try_as (tb := fun W => cS X.K X.mg W mb) (ts := ts) (Wout := Wx) hs hf hN hi hln ⟨hg, hdb, .inl hm⟩ tk (fun W pn xe t p => (hb W pn xe t p).can) hx.text, ?_⟩
  intro h H0 H s σ ρ D g S p
  refine ⟨h, H0, s, ρ, g, S, ?_⟩
  have p : PostS X.K X.mg h (mTryAs i c mb mx ρ s) H0 H Wx D := p
  unfold mTryAs at p
  cases e : mb ρ s with
  | ok f s' =>
    rw [e] at p
    cases f with
    | nx ρ' => exact p
    | rt d => exact p
    | bk ρ' => exact p
    | ct ρ' => exact p
  | bad =>
    rw [e] at p
    exact p
  | err c' fs ρ' s' =>
    rw [e] at p
    by_cases cc : c' = c ∧ i < ρ'.length
    · obtain ⟨rfl, hl⟩ := cc
      simp only [hl, and_self, if_true] at p
      intro σ' C' dd A B st g' S' mc x
      obtain rfl : C = C' := by
        rw [hm] at mc
        cases mc
        rfl
      refine ⟨true, he, fun _ a na => ?_, fun q => Bool.noConfusion q⟩
      refine hx.read a dd h A B s' (σ'.set i (some (.ref a))) (ρ'.set i .no) _ fs g' (S'.forget _) (List.getElem?_set_self (by rw [S'.len]; exact hl)) x ?_
      have p := PostS.step (H' := B) st p
      cases em : mx fs (ρ'.set i .no) s' with
      | ok fl s2 =>
        rw [em] at p
        cases fl with
        | nx ρ2 => exact fun σ2 A2 B2 st2 g2 S2 => p (σ2.set i none) A2 B2 st2 g2 (S2.forget none)
        | rt d => exact p
        | bk ρ2 => exact fun σ2 A2 B2 st2 g2 S2 => p (σ2.set i none) A2 B2 st2 g2 (S2.forget none)
        | ct ρ2 => exact fun σ2 A2 B2 st2 g2 S2 => p (σ2.set i none) A2 B2 st2 g2 (S2.forget none)
      | err c2 fs2 ρ2 s2 =>
        rw [em] at p
        exact p.elim
      | bad =>
        rw [em] at p
        exact p.elim
    · simp only [cc, if_false] at p
      exact p.elim
end

/-! ### the law -/
def spLaw (K : Frag) : Sp := fun vs H Q _ => ∃ (a : Addr) (ns : List Int), vs = [.ref a] ∧ SqL K H a (ns.map V.int) ∧ ns.length ≤ 63 ∧ ∀ H', Q (.bl true) H'
/-- the slots behind the law's first row: the script, the hand -/
def lawE (n : Nat) : Env' := .no :: .dat .hnd :: List.replicate n .no
theorem law_run {K : Frag} {mg : Str → Option Value} {Wx : WX} {n : Nat} {vs : List V} {H : Hp} {Q : VK} {E : XK} {W : L2.St → XK} {ts : TS} {ms : MS} (hh : spLaw K vs H Q E) (hs : SS K mg Wx ts ms) (hm : ∀ s : Hd, ∃ s' : Hd, ms (lawE n) s = .ok (.rt (.bl true)) s') :
    tSeq (tAsg (tCallSD (spHand K) [] W (tCons (tVar 0) tNil)) (gName 1)) ts { nx := fun _ H' => Q .non H', rt := Q } (vs.map some ++ List.replicate (n + 1) none) H := by
  obtain ⟨a, ns, rfl, hS, hl, q⟩ := hh
  refine ⟨.ref a, rfl, a, ns, rfl, hS, hl, fun h gl g m H' s e1 e2 ne e3 e4 => ?_⟩
  obtain ⟨s', hr⟩ := hm ⟨g, m, 0⟩
  refine hs ⟨h, H, H', h⟩ H H' ⟨g, m, 0⟩ (some (.ref a) :: some (.ref h) :: List.replicate n none) (lawE n) _ ⟨s, e1, gl, e2, ne, e3, e4⟩ ⟨by simp [lawE], fun i o l x y => ?_, fun i j p x y z1 _ m1 _ _ _ => ?_, .refl _ _⟩ ?_
  · match i, x, y with
    | 0, x, y =>
      cases x
      cases y
      exact True.intro
    | 1, x, y =>
      cases x
      cases y
      exact .hnd
    | i + 2, x, y =>
      have y : (List.replicate n Sl.no)[i]? = some l := y
      rw [List.getElem?_replicate] at y
      split at y
      · cases y
        cases o <;> exact True.intro
      · cases y
  · match i, z1 with
    | 0, z1 =>
      cases z1
      cases m1
    | 1, z1 =>
      cases z1
      cases m1
    | i + 2, z1 =>
      have z1 : (List.replicate n Sl.no)[i]? = some x := z1
      rw [List.getElem?_replicate] at z1
      split at z1 <;> cases z1
      cases m1
  · rw [hr]
    intro v A B _ _ dv
    cases dv
    exact q B
end Mir


set_option Elab.async false
set_option linter.all false
set_option maxRecDepth 100000
namespace Mir
open PySem PySem.Spec PyProof.Rows L2
open PySem.W (Frag)

/-- a def that is called with some parameters written, dd for the others -/
def Callee (P : Program) (w : World) (K : Frag) (mg : Str → Option Value) (base : Heap) (k : Nat) (x : Str) (n : Nat) (dd : List Dt) (m : List Dt → Hd → R Dt) : Prop :=
  ∃ (f : Addr) (fd : FuncData) (ps : List Str) (dvs : List V) (dsV : List Value), FnOk P w K mg base (L2.CX P w) k f fd ps (spM K mg n m) ∧ mg x = some (.ref f) ∧ PySem.W.keepIn K (.ref f) = true ∧ Binds K fd ps dsV ∧ Vals dvs dsV ∧ ∀ (h : Addr) (H : Hp), DenA K mg h H dvs dd
section
variable {X : Cx} {Wx : WX} {e : Expr} {es : List Expr} {x : Str} {p pos : Pos} {as : MA} {k j n : Nat} {dd : List Dt} {m : List Dt → Hd → R Dt}
theorem qe_c (C : Callee X.prog X.w X.K X.mg X.base k x n dd m) (hr : Room j X.A) (hk : k ≤ j) (tk : Takes X Wx) (ha : QA X Wx (e :: es) as) (hg : Gl X x := by rfl)
    (hdb : (x == ("__debug__" : Str)) = false := by decide) (he : starEach (e :: es) X.env = (false, eval e X.env) :: starEach es X.env := by rfl) (hpl : (backTo pos (starEach es X.env)).any (·.1) = false := by rfl) :
    QE X Wx (.Call (.Name x p) (e :: es) [] pos) (mCall n dd m as) := by
  obtain ⟨f, fd, ps, dvs, dsV, F, hm, kp, hb, hd, hdd⟩ := C
  exact qe_call F (hr.mono hk) hg hm kp hb hd hdd tk ha hdb he hpl
end
/-- the class of an own error whose arguments are kept -/
def Caught (K : Frag) (mg : Str → Option Value) (c : Str) (C : Addr) : Prop := mg c = some (.ref C) ∧ PySem.W.exmOne K (.ref C) (.ref C) = some true ∧ XfC K C
def Thrown (P : Program) (w : World) (K : Frag) (mg : Str → Option Value) (base : Heap) (c : Str) (names : List Str) : Prop :=
  ∃ (C fI : Addr) (fd : FuncData) (ps : List Str), mg c = some (.ref C) ∧ OexC K C ∧ (∀ f ∈ names, PySem.W.findIn K (.ref C) f = some none) ∧ PySem.W.findIn K (.ref C) "__init__" = some (some (.ref fI)) ∧ PySem.W.typeIn K (.ref fI) = some (.type "function") ∧
    FnOk P w K mg base (L2.CX P w) 1 fI fd ps (spI K names) ∧ Binds K fd ps []
section
variable {X : Cx} {Wx : WX} {e : Expr} {es : List Expr} {c : Str} {p pos pos2 : Pos} {as : MA} {j : Nat} {names : List Str}
theorem qs_throw (T : Thrown X.prog X.w X.K X.mg X.base c names) (hr : Room j X.A) (hj : 2 ≤ j) (hc : X.calm = true) (tk : Takes X Wx) (ha : QA X Wx (e :: es) as) (hg : Gl X c := by rfl)
    (hdb : (c == ("__debug__" : Str)) = false := by decide) (he : starEach (e :: es) X.env = (false, eval e X.env) :: starEach es X.env := by rfl) (hpl : (backTo pos (starEach es X.env)).any (·.1) = false := by rfl) :
    QS X Wx (.Raise (some (.Call (.Name c p) (e :: es) [] pos)) none pos2) (mRaise c names as) := by
  obtain ⟨C, fI, fd, ps, hm, ox, no, iC, tI, F, hb⟩ := T
  exact qs_raise hc tk ⟨hm, ox, no⟩ iC tI F (hr.mono hj) hb hg ha hdb he hpl
end
/-! ### tuples of the module -/
section
variable {K : Frag} {mg : Str → Option Value}
/-- a written tuple's items -/
inductive KDen (K : Frag) : Value → Dt → Prop where
  | int (i : Int) (t : Tok) : KDen K (.int i t) (.int i)
  | str (x : Str) (t : Tok) : KDen K (.str x t) (.str x)
  | non : KDen K .none .non
  | bl (b : Bool) : KDen K (.bool b) (.bl b)
theorem KDen.den {u : Value} {d : Dt} (q : KDen K u d) : ∃ v, RelV v u ∧ ∀ (h : Addr) (H : Hp), Den K mg h H v d := by
  cases q with
  | int i t => exact ⟨.int i, ⟨t, rfl⟩, fun _ _ => .int i⟩
  | str x t => exact ⟨.str x, ⟨t, rfl⟩, fun _ _ => .str x⟩
  | non => exact ⟨.non, rfl, fun _ _ => .non⟩
  | bl b => exact ⟨.bl b, rfl, fun _ _ => .bl b⟩
theorem rat_den {Z : Addr} {od : Option Addr} {n : Nat} {sl : Array (Option Value)} {a b : Int} {ta tb : Tok} (l : K.lookup Z = some ⟨.type "tuple", od, .seq #[.int a ta, .int b tb] n, sl⟩) (h : Addr) (H : Hp) : Den K mg h H (.ref Z) (.tup [.int a, .int b]) :=
  .tup (xs := [.int a, .int b]) (.inr ⟨_, _, _, l, rfl, rfl, (by show 2 ≤ sizeLine; decide), .cons ⟨ta, rfl⟩ (.cons ⟨tb, rfl⟩ .nil)⟩) (.cons (.int a) (.cons (.int b) .nil))
end
/-! ### keywords: f(e, .., k = v) where the defaults stand between -/
def mCallK (np nk n : Nat) (mid : List Dt) (m : List Dt → Hd → R Dt) (as ks : MA) : ME := fun ρ s => (as ρ s).bind fun ds s1 => (ks ρ s1).bind fun es s2 =>
  if ds.length = np ∧ es.length = nk ∧ (ds ++ (mid ++ es)).length = n then (match m (ds ++ (mid ++ es)) s2 with
    | .ok d s3 => .ok d s3
    | .err c fs _ s3 => .err c fs ρ s3
    | .bad => .bad) else .bad
def CalleeK (P : Program) (w : World) (K : Frag) (mg : Str → Option Value) (base : Heap) (k : Nat) (x : Str) (np : Nat) (ks : List Str) (n : Nat) (mid : List Dt) (m : List Dt → Hd → R Dt) : Prop :=
  ∃ (f : Addr) (fd : FuncData) (ps : List Str) (mv : List V) (mV : List Value), FnOk P w K mg base (L2.CX P w) k f fd ps (spM K mg n m) ∧ mg x = some (.ref f) ∧ PySem.W.keepIn K (.ref f) = true ∧
    KBn K fd ps np ks (fun us ws => us ++ (mV ++ ws)) (fun vs zs => vs ++ (mv ++ zs)) ∧ ∀ (h : Addr) (H : Hp), DenA K mg h H mv mid
def QK (X : Cx) (Wx : WX) (kws : List Keyword) (m : MA) : Prop := ∃ t, PK X kws t ∧ SA X.K X.mg Wx t m
section
variable {X : Cx} {Wx : WX} {e : Expr} {es : List Expr} {x : Str} {p pos kpos : Pos} {as ks' : MA} {k j n np : Nat} {mid : List Dt} {m : List Dt → Hd → R Dt} {ks : List Str} {kws : List Keyword} {nm : Option Str} {ma : ME} {E : XK}
theorem qk_nil : QK X Wx [] mNil := ⟨_, pk_nil, sa_nil⟩
theorem qk_cons (ha : QE X Wx e ma) (hr : QK X Wx kws as) : QK X Wx (⟨nm, e, kpos⟩ :: kws) (mCons ma as) := by
  obtain ⟨t, q, s⟩ := ha
  obtain ⟨t2, q2, s2⟩ := hr
  exact ⟨_, pk_cons q q2, sa_cons s s2⟩
theorem qe_ck (C : CalleeK X.prog X.w X.K X.mg X.base k x np ks n mid m) (hr : Room j X.A) (hk : k ≤ j) (tk : Takes X (wE E)) (ha : QA X (wE E) (e :: es) as) (hw : QK X (wE E) kws ks') (hg : Gl X x := by rfl)
    (hall : (backToKw pos (keywordEach kws X.env)).all (·.1.isSome) = true := by rfl) (hks : (backToKw pos (keywordEach kws X.env)).filterMap (·.1) = ks := by rfl)
    (hdb : (x == ("__debug__" : Str)) = false := by decide) (he : starEach (e :: es) X.env = (false, eval e X.env) :: starEach es X.env := by rfl)
    (hpl : ((backTo pos (starEach (e :: es) X.env)).any (·.1) || (backToKw pos (keywordEach kws X.env)).any (·.1.isNone)) = false := by rfl) :
    QE X (wE E) (.Call (.Name x p) (e :: es) kws pos) (mCallK np ks.length n mid m as ks') := by
  obtain ⟨f, fd, ps, mv, mV, F, hm, kp, hb, hdd⟩ := C
  obtain ⟨t, q, sa⟩ := ha
  obtain ⟨t2, q2, sa2⟩ := hw
  refine ⟨_, pe_callN (E := E) F (hr.mono hk) hg hm kp hb (passes_call tk fun _ _ _ _ z => z) q q2 hall hks hdb he hpl, ?_⟩
  intro h H0 H s σ ρ Q g S pp
  refine sa h H0 H s σ ρ _ g S (Post.bind pp fun ds s1 xs A B st g1 dx p1 => sa2 h A B s1 σ ρ _ g1 (S.step st) (Post.bind p1 fun es s2 ys A2 B2 st2 g2 dy p2 => ?_))
  by_cases c : ds.length = np ∧ es.length = ks.length ∧ (ds ++ (mid ++ es)).length = n
  · rw [if_pos c] at p2
    obtain ⟨c1, c2, c3⟩ := c
    have dz := (dx.mono st2.s0).append ((hdd h A2).append dy)
    refine ⟨dx.len.trans c1, dy.len.trans c2, dz.len.trans c3, h, A2, s2, _, g2, dz, ?_⟩
    cases hm : m (ds ++ (mid ++ es)) s2 with
    | ok d s3 =>
      rw [hm] at p2
      exact p2
    | err cc fs ρ' s3 =>
      rw [hm] at p2
      exact fun C e A3 B3 st3 g3 mc x => p2 σ C e A3 B3 st3.s0 g3 (S.step ((st.trans st2).trans st3)) mc x
    | bad =>
      rw [hm] at p2
      exact p2.elim
  · rw [if_neg c] at p2
    exact p2.elim
end
section
variable {K : Frag} {x qual : Str} {params : Arguments} {body : List Stmt} {scope : Scope} {dvs : List V} {f : Addr} {fd : FuncData} {ps : List Str}
/-- how f(e, .., k = v) binds: the first n written, the last ones by keywords, the defaults from the j-th on between -/
theorem kb_of (F : FunD K x qual params body scope dvs [] f fd) (n j c : Nat) (ks : List Str) (hd : dvs ≠ [])
    (hh : ∀ (T : Addr) (kV doc pm : Value) (an : Option Addr) (cdv ct : Value) (us its ws : List Value), us.length = n → its.length = dvs.length → ws.length = ks.length →
      ∃ k, bindArgs (PySem.W.fnOf x qual params body scope (.ref T) kV doc pm an cdv ct) ⟨us, ks.zip ws⟩ = seqItems? (.ref T) >>= k ∧ k (some its.toArray) = pure (ps.zip (us ++ ((its.drop j).take c ++ ws)))) :
    ∃ mV : List Value, KBn K fd ps n ks (fun us ws => us ++ (mV ++ ws)) (fun vs zs => vs ++ ((dvs.drop j).take c ++ zs)) := by
  obtain ⟨oc, od, dV, kV, doc, pm, an, cdv, ct, osl, rfl, lk, hcd, hD, hK⟩ := F.ex
  rcases hD with ⟨e, _⟩ | ⟨_, T, o, its, m, rfl, lT, oT, rT⟩
  · exact absurd e hd
  · refine ⟨(its.drop j).take c, ⟨fun s us ws X l1 l2 => ?_, fun r1 r2 => r1.append (((rT.drop j).take c).append r2)⟩⟩
    obtain ⟨k, e1, e2⟩ := hh T kV doc pm an cdv ct us its ws l1 rT.length.symm l2
    refine BindsTo.of_looks fun M => ?_
    rw [e1]
    exact looks_items X lT oT (.of_pure e2)
end
/-! ### while -/
def absS : Sl → Nat
  | .dat (.int i) => i.natAbs
  | _ => 0
def fuelE (ρ : Env') : Nat := (ρ.map absS).sum + 2
def mWhile (t : MT) (body : MS) : MS := fun ρ s => loopW t body (fuelE ρ) ρ s
section
variable {K : Frag} {mg : Str → Option Value} {Wx : WX} {tt : TT} {mt : MT} {tb : TS} {body : MS}
theorem ss_while (ht : ST K mg Wx tt mt) (hb : SS K mg Wx tb body) : SS K mg Wx (tWhile tt tb) (mWhile mt body) := by
  intro h H0 H s σ ρ D g S p
  refine ⟨fun n σ' H' => ∃ A s' ρ', Same H0 A ∧ G h A H' s' ∧ Slots K mg h A H' σ' ρ' ∧ PostS K mg h (loopW mt body n ρ' s') A H' Wx D, ⟨fuelE ρ, H0, s, ρ, Same.refl _, g, S, p⟩, ?_⟩
  rintro n σ' H' ⟨A, s', ρ', st, g', S', p'⟩
  cases n with
  | zero => exact p'.elim
  | succ n =>
    unfold loopW at p'
    refine ht h A H' s' σ' ρ' _ g' S' (PostS.bind p' fun b s1 b' A1 B1 st1 g1 e p1 => ?_)
    have e : b' = b := e
    subst e
    cases b' with
    | false => exact p1 σ' A1 B1 (Same.refl _) g1 (S'.step st1)
    | true =>
      refine iteT ⟨fun σ2 H2 => ∃ A2 s2 ρ2, Same H0 A2 ∧ G h A2 H2 s2 ∧ Slots K mg h A2 H2 σ2 ρ2 ∧ PostS K mg h (loopW mt body n ρ2 s2) A2 H2 Wx D, fun σ2 H2 w => ⟨n, Nat.lt_succ_self n, w⟩, hb h A1 B1 s1 σ' ρ' _ g1 (S'.step st1) ?_⟩
      rw [if_pos rfl] at p1
      cases eb : body ρ' s1 with
      | ok f s2 =>
        rw [eb] at p1
        cases f with
        | nx ρ2 => exact fun σ2 A2 B2 st2 g2 S2 => ⟨A2, s2, ρ2, (st.trans st1.s0).trans st2, g2, S2, PostS.step st2 p1⟩
        | ct ρ2 => exact fun σ2 A2 B2 st2 g2 S2 => ⟨A2, s2, ρ2, (st.trans st1.s0).trans st2, g2, S2, PostS.step st2 p1⟩
        | bk ρ2 => exact p1
        | rt d => exact p1
      | err c fs ρ2 s2 =>
        rw [eb] at p1
        exact p1
      | bad =>
        rw [eb] at p1
        exact p1
end
theorem qs_while {X : Cx} {Wx : WX} {c : Expr} {mt : MT} {sts : List Stmt} {ms : MS} {pos : Pos} (hp : PassesOwn (model X.prog X.w) X.A X.env X.xe) (hc : QT X Wx c mt) (hb : QSs X Wx sts ms) : QS X Wx (.While c sts [] pos) (mWhile mt ms) := by
  obtain ⟨t, q, s⟩ := hc
  obtain ⟨t2, q2, s2⟩ := hb
  exact ⟨_, ps_while hp q q2, ss_while s s2⟩
theorem _root_.L2.Room.units65 {k : Nat} {A : Around} (r : Room k A) : A.units + 65 < cLine := by have := r.un; omega
theorem cx_false {P : Program} {w : World} {l : List Env} {H : Hp} {s : Shared} {e : Value} {s' : Shared} (z : L2.CX P w l H s (fun _ _ _ => False) e s') : False := by
  obtain ⟨_, _, _, _, _, _, _, _, _, _, _, _, z⟩ := z
  exact z
end Mir


set_option Elab.async false
set_option linter.all false
set_option maxRecDepth 100000
/-! isinstance with two classes; math.isqrt; statements that are never reached; written couples of ratios. -/
namespace Mir
open PySem PySem.Spec PyProof.Rows L2
open PySem.W (Frag)
def fIsi2 (T U : String) (d : Dt) : Option Bool := (tyN d).bind fun n => (kitB n T).bind fun a => (kitB n U).map fun b => a || b
def mIsi2 (T U : String) (a : ME) : ME := fun ρ s => (a ρ s).bind fun d s1 => liftO ((fIsi2 T U d).map .bl) s1
section
variable {X : Cx} {Wx : WX} {a : Expr} {ma : ME} {pos p p2 p3 p4 : Pos} {T U : String} {x y : Str} {x1 : Nat}
theorem kit_any2 {K : PySem.W.Frag} {n T U : String} {a b : Bool} (ha : kitB n T = some a) (hb : kitB n U = some b) : PySem.W.kitAny K (.type n) [.type T, .type U] = some (a || b) := by
  refine kitAny_cons (b := a) (kit_ty ha) (fun e => ?_) (fun e => by rw [e]; rfl)
  rw [e, Bool.false_or]
  exact kitAny_cons (b := b) (kit_ty hb) (fun e2 => by rw [e2]; exact kitAny_nil) (fun e2 => e2)
theorem qe_isi2 (ha : QE X Wx a ma) (hg : Gl X "isinstance") (hm : X.mg "isinstance" = none) (hgT : Gl X x) (hmT : X.mg x = none) (hvT : bootBuiltins x = some (.type T)) (hgU : Gl X y) (hmU : X.mg y = none) (hvU : bootBuiltins y = some (.type U))
    (hn : x ≠ "__name__" := by decide) (hdb : (x == ("__debug__" : Str)) = false := by decide) (hn2 : y ≠ "__name__" := by decide) (hdb2 : (y == ("__debug__" : Str)) = false := by decide)
    (he : starEach [a, .Tuple [.Name x p2, .Name y p3] x1 p4] X.env = (false, eval a X.env) :: starEach [.Tuple [.Name x p2, .Name y p3] x1 p4] X.env := by rfl)
    (he2 : starEach [.Tuple [.Name x p2, .Name y p3] x1 p4] X.env = (false, eval (.Tuple [.Name x p2, .Name y p3] x1 p4) X.env) :: starEach [] X.env := by rfl)
    (he3 : starEach [.Name x p2, .Name y p3] X.env = (false, eval (.Name x p2) X.env) :: starEach [.Name y p3] X.env := by rfl)
    (he4 : starEach [.Name y p3] X.env = (false, eval (.Name y p3) X.env) :: starEach [] X.env := by rfl)
    (hpl : (backTo pos (starEach [.Tuple [.Name x p2, .Name y p3] x1 p4] X.env)).any (·.1) = false := by rfl) : QE X Wx (.Call (.Name "isinstance" p) [a, .Tuple [.Name x p2, .Name y p3] x1 p4] [] pos) (mIsi2 T U ma) := by
  obtain ⟨ta, pa, sa⟩ := ha
  refine ⟨_, pe_callB call_isiT hg hm (by decide +kernel) (pa_cons pa (pa_cons (pe_tup (pa_cons (pe_bltn (v := .ty T) hgT hmT hvT rfl hn hdb) (pa_cons (pe_bltn (v := .ty U) hgU hmU hvU rfl hn2 hdb2) pa_nil he4) he3)) pa_nil he2) he) (by decide) (by decide) he hpl, ?_⟩
  intro h H0 H s σ ρ Q g S pp
  refine sa h H0 H s σ ρ _ g S (Post.bind pp fun d s1 x A B st g1 dx p1 => ?_)
  obtain ⟨z, hz, p3⟩ := post_lift p1
  unfold fIsi2 at hz
  cases ht : tyN d with
  | none =>
    rw [ht] at hz
    cases hz
  | some n =>
    rw [ht] at hz
    have hz : ((kitB n T).bind fun a => (kitB n U).map fun b => a || b).map Dt.bl = some z := hz
    cases hb : kitB n T with
    | none =>
      rw [hb] at hz
      cases hz
    | some b =>
      rw [hb] at hz
      have hz : ((kitB n U).map fun c => b || c).map Dt.bl = some z := hz
      cases hc : kitB n U with
      | none =>
        rw [hc] at hz
        cases hz
      | some c =>
        rw [hc] at hz
        cases hz
        refine ⟨by show 2 ≤ sizeLine; decide, fun q hq => ?_⟩
        obtain ⟨g2, st2⟩ := g1.alloc (o := .tup [.ty T, .ty U]) hq
        exact ⟨x, q, _, .type n, [.type T, .type U], b || c, rfl, upd_same, .cons (.ty T) (.cons (.ty U) .nil), TyX.of ((dx.mono st2.s0).mono g2.ex) ht, kit_any2 hb hc, p3 _ _ _ st2 g2 (.bl _)⟩
end
/-! ### math.isqrt -/
def rIsqrt : List V → Hp → VK → Prop := fun vs H Q => ∃ a : Int, vs = [.int a] ∧ 0 ≤ a ∧ a < 2 ^ 64 ∧ Q (.int ((Float64.isqrt a.toNat : Nat) : Int)) H
theorem cr_isqrt {X : Cx} : CallR X (.builtin "math.isqrt") rIsqrt := by
  intro pins s σ H vs us Q I r h
  obtain ⟨a, rfl, h0, h1, q⟩ := h
  cases r with
  | cons ra rr =>
    cases rr
    obtain ⟨t, e⟩ := (show ∃ t, _ = Value.int a t from ra)
    cases e
    exact PySem.W.mg_isqrt h0 h1 ⟨.int _, H, I.tok _, ⟨_, rfl⟩, q⟩
def fIsqrt : List Dt → Option Dt
  | [.int a] => if 0 ≤ a ∧ a < 2 ^ 64 then some (.int ((Float64.isqrt a.toNat : Nat) : Int)) else none
  | _ => none
section
variable {K : Frag} {mg : Str → Option Value}
theorem cs_isqrt : CaS K mg rIsqrt fIsqrt := by
  intro h H0 H s xs ds z Q g0 hx hz q
  unfold fIsqrt at hz
  split at hz
  · split at hz
    · rename_i hh
      cases hz
      cases hx with
      | cons a r =>
        cases r
        cases a
        exact ⟨_, rfl, hh.1, hh.2, q _ H0 H (.refl _ _) g0 (.int _)⟩
    · cases hz
  · cases hz
end
/-! ### what is never reached -/
def mBad : MS := fun _ _ => .bad
theorem qs_bad {X : Cx} {Wx : WX} {st : Stmt} : QS X Wx st mBad := ⟨fun _ _ _ => False, ⟨fun _ _ _ _ _ _ z => z.elim⟩, fun _ _ _ _ _ _ _ _ _ z => z⟩
/-! ### a written couple of ratios -/
theorem two_den {K : Frag} {mg : Str → Option Value} {Z Y W : Addr} {od : Option Addr} {n : Nat} {sl : Array (Option Value)} {d e : Dt} (l : K.lookup Z = some ⟨.type "tuple", od, .seq #[.ref Y, .ref W] n, sl⟩) (h : Addr) (H : Hp) (a : Den K mg h H (.ref Y) d) (b : Den K mg h H (.ref W) e) : Den K mg h H (.ref Z) (.tup [d, e]) :=
  .tup (xs := [.ref Y, .ref W]) (.inr ⟨_, _, _, l, rfl, rfl, (by show 2 ≤ sizeLine; decide), .cons rfl (.cons rfl .nil)⟩) (.cons a (.cons b .nil))
end Mir


set_option Elab.async false
set_option linter.all false
set_option maxRecDepth 100000
/-! Lists of one's own: made, grown, changed at a place, read, handed on. -/
namespace Mir
open PySem PySem.Spec PyProof.Rows L2
open PySem.W (Frag)

section
variable (K : Frag) (mg : Str → Option Value) (Wx : WX)
def FreshTo (h : Ent) (σ : L2.St) (ρ : Env') (p : Addr) : Prop := NF h p ∧ ∀ (j : Nat) (l : Sl), ρ[j]? = some l → l.mine = true → σ[j]? ≠ some (some (.ref p))
/-- a new list, nobody's yet -/
def PostF (h : Ent) (r : R (List Dt)) (σ : L2.St) (ρ : Env') (H0 H : Hp) (Q : VK) : Prop := match r with
  | .ok ds s => ∀ p vs H0' H', Step h.a H0 H H0' H' → G h.a H0' H' s → FreshTo h σ ρ p → H0' p = none → ¬ isH h.a H' p → H' p = some (.lst vs) → DenA K mg h.a H0' vs ds → Q (.ref p) H'
  | .err c fs ρ' s => ErrP K mg h H0 c fs ρ' s Wx
  | .bad => False
def SF (te : TE) (m : MA) : Prop := ∀ (h : Ent) (H0 H : Hp) (s : Hd) (σ : L2.St) (ρ : Env') (Q : VK), G h.a H0 H s → Slots K mg h H0 H σ ρ → PostF K mg Wx h (m ρ s) σ ρ H0 H Q → te σ H Q
end
def QF (X : Cx) (Wx : WX) (e : Expr) (m : MA) : Prop := ∃ t, PE X e t ∧ SF X.K X.mg Wx t m
section
variable {K : Frag} {mg : Str → Option Value} {Wx : WX} {h : Ent} {H0 H H0' H' A B : Hp} {σ : L2.St} {ρ : Env'}
theorem fresh_to {p : Addr} (S : Slots K mg h A B σ ρ) (n : B p = none) : FreshTo h σ ρ p := by
  refine ⟨fun o e1 e2 => ?_, fun j l e m x => ?_⟩
  · by_cases c : isH h.a h.E p
    · exact c
    · have := (S.st.fr p o e1 e2 c).1
      rw [n] at this
      cases this
  · have q := S.at_ j _ l x e
    cases l with
    | no => cases m
    | dat d => cases m
    | own ds =>
      obtain ⟨p', vs, e1, e2, _⟩ := q
      cases e1
      rw [n] at e2
      cases e2
    | slf c fs =>
      obtain ⟨p', C, dx, vs, e1, _, _, e2, _⟩ := q
      cases e1
      rw [n] at e2
      cases e2
theorem PostF.step {r : R (List Dt)} {Q : VK} (st : Step h.a H0 H H0' H') (p : PostF K mg Wx h r σ ρ H0 H Q) : PostF K mg Wx h r σ ρ H0' H' Q := by
  cases r with
  | ok b s => exact fun a vs A B s2 g q => p a vs A B (st.trans s2) g q
  | err c fs ρ s => exact ErrP.step st.s0 p
  | bad => exact p
theorem PostF.bind {α β : Type} {rel : Hp → α → β → Prop} {r : R β} {k : β → Hd → R (List Dt)} {Q : VK} {Q1 : α → Hp → Prop} (p : PostF K mg Wx h (r.bind k) σ ρ H0 H Q)
    (f : ∀ b s a H0' H', Step h.a H0 H H0' H' → G h.a H0' H' s → rel H0' a b → PostF K mg Wx h (k b s) σ ρ H0' H' Q → Q1 a H') : Post K mg h rel r H0 H Wx Q1 := by
  cases r with
  | ok b s => exact fun a A B st g q => f b s a A B st g q (PostF.step st p)
  | err c fs ρ s => exact p
  | bad => exact p
end
def mLstO (as : MA) : MA := fun ρ s => (as ρ s).bind fun ds s1 => if ds.length ≤ 100000 then .ok ds s1 else .bad
def toL : R Dt → R (List Dt)
  | .ok (.lst ds) s => .ok ds s
  | .err c fs ρ s => .err c fs ρ s
  | _ => .bad
def mToL (m : ME) : MA := fun ρ s => toL (m ρ s)
def mSetO (i : Nat) (m : MA) : MS := fun ρ s => (m ρ s).bind fun ds s1 => .ok (.nx (ρ.set i (.own ds))) s1
/-- list(e) -/
def mListO (a : ME) : MA := fun ρ s => (a ρ s).bind fun d s1 => match d with
  | .tup ds => .ok ds s1
  | .lst ds => .ok ds s1
  | _ => .bad
def mCatO (a b : ME) : MA := fun ρ s => (a ρ s).bind fun d s1 => (b ρ s1).bind fun e s2 => match d, e with
  | .lst x, .lst y => if sizeOk (x.length + y.length) then .ok (x ++ y) s2 else .bad
  | _, _ => .bad
def mApp (i : Nat) (a : ME) : MS := fun ρ s => match ρ[i]? with
  | some (.own ds) => (a ρ s).bind fun d s1 => if sizeOk ds.length then .ok (.nx (ρ.set i (.own (ds ++ [d])))) s1 else .bad
  | _ => .bad
/-- x[e] = v: v first -/
def mSetI (i : Nat) (b a : ME) : MS := fun ρ s => (a ρ s).bind fun d s1 => match ρ[i]? with
  | some (.own ds) => (b ρ s1).bind fun k s2 => (match k with
    | .int k => (match ixN ds.length k with
      | some j => .ok (.nx (ρ.set i (.own (ds.set j d)))) s2
      | none => .bad)
    | _ => .bad)
  | _ => .bad
/-- x[e] = v where x is at data: for use behind which x is given up -/
def frzE (ρ : Env') (i : Nat) : Env' := match ρ[i]? with
  | some (.own ds) => ρ.set i (.dat (.lst ds))
  | _ => ρ
def mFrz (is : List Nat) (m : MS) : MS := fun ρ s => m (is.foldl frzE ρ) s
def mIxO (i : Nat) (b : ME) : ME := fun ρ s => match ρ[i]? with
  | some (.own ds) => (b ρ s).bind fun k s1 => match k with
    | .int j => liftO (atI ds j) s1
    | _ => .bad
  | some (.dat d) => (b ρ s).bind fun k s1 => liftO (fIx d k) s1
  | _ => .bad
/-! no list within -/
mutual
def lfree : Dt → Bool
  | .tup ds => lfreeA ds
  | .obj _ fs => lfreeF fs
  | .lst _ => false
  | _ => true
def lfreeA : List Dt → Bool
  | [] => true
  | d :: ds => lfree d && lfreeA ds
def lfreeF : List (Str × Dt) → Bool
  | [] => true
  | (_, d) :: ds => lfree d && lfreeF ds
end
def lfSl : Sl → Sl
  | .dat d => if lfree d = true then .dat d else .no
  | _ => .no
def mBor (i : Nat) (m : ME) : ME := fun ρ s => match ρ[i]? with
  | some (.own ds) => (match m (ρ.set i (.dat (.lst ds))) s with
    | .ok d s' => if lfree d = true then .ok d s' else .bad
    | .err c fs ρ' s' => if lfreeF fs = true then .err c fs (ρ'.map lfSl) s' else .bad
    | .bad => .bad)
  | _ => m ρ s
def mBorT (i : Nat) (m : MT) : MT := fun ρ s => match ρ[i]? with
  | some (.own ds) => (match m (ρ.set i (.dat (.lst ds))) s with
    | .ok d s' => .ok d s'
    | .err c fs ρ' s' => if lfreeF fs = true then .err c fs (ρ'.map lfSl) s' else .bad
    | .bad => .bad)
  | _ => m ρ s
theorem sqt_del {K : Frag} {H : Hp} {q a : Addr} {us xs : List V} (eq : H q = some (.lst us)) (e : SqT K H a xs) : SqT K (del H q) a xs := by
  rcases e with (e | ⟨o, e⟩) | e
  · exact .inl (.inl (by rw [del_ne fun z => by rw [z, eq] at e; cases e]; exact e))
  · exact .inl (.inr ⟨o, by rw [del_ne fun z => by rw [z, eq] at e; cases e]; exact e⟩)
  · exact .inr e
section
variable {K : Frag} {mg : Str → Option Value} {Wx : WX} {ta tb : TE} {a b : ME} {t : TA} {as : MA} {m : MA} {ts : TS} {ms : MS}
theorem sf_lst (ha : SA K mg Wx t as) : SF K mg Wx (tLst t) (mLstO as) := by
  intro h H0 H s σ ρ Q g S p
  refine ha h H0 H s σ ρ _ g S (PostF.bind p fun ds s1 xs A B st g1 dx p1 => ?_)
  by_cases c : ds.length ≤ 100000
  · rw [if_pos c] at p1
    refine ⟨by rw [dx.len]; exact sizeOk.le c, fun q hq => ?_⟩
    obtain ⟨g2, st2⟩ := g1.side (o := .lst xs) hq
    obtain ⟨gl, a1, a2, a3, a4⟩ := g1.gl
    exact p1 q xs A _ st2 g2 (fresh_to (S.step st) hq) (g1.ex.free hq) (notH g1 hq) upd_same dx
  · rw [if_neg c] at p1
    exact p1.elim
where
  notH {h : Addr} {A B : Hp} {s : Hd} {q : Addr} {u : HO} (g : G h A B s) (hq : B q = none) : ¬ isH h (upd B q u) q := by
    obtain ⟨gl, a1, a2, a3, a4⟩ := g.gl
    have n1 : h ≠ q := ne_of_none a3 hq
    intro z
    rcases z with z | ⟨r, z⟩
    · exact n1 z.symm
    · rw [upd_ne n1, a3] at z
      cases z
      rw [hq] at a4
      cases a4
theorem sf_lc {wi : TI} {mi : MA} (I : SI K mg Wx wi mi) {js vs : List Nat} {g : TG} {gm : GM} {tt : TT} {mt : MT} (hg : SG K mg js g gm) (hv : ∀ j ∈ js, j ∈ vs) (ht : ST K mg WF tt mt) (ha : SE K mg WF ta a) : SF K mg Wx (tLc wi g tt ta vs) (mToL (mLc gm mi mt a vs)) := by
  intro h H0 H s σ ρ Q g0 S p
  refine I.lcF hg hv ht ha h H0 H s σ ρ Q (fun r => PostF K mg Wx h (toL r) σ ρ H0 H Q) (fun z => z.elim) (fun c fs ρ s z => z) (fun A B st => ?_) g0 S p
  intro D A' B' s' acc vv hB st2 g2 hD nD eD da p2
  exact p2 D vv A' B' (st.trans st2) g2 (fresh_to (S.step st) hB) hD nD eD da
theorem sf_listc (ha : SE K mg Wx ta a) : SF K mg Wx (tCB (fun xs H Q => ∃ p ys, xs = [.ref p] ∧ (SqL K H p ys ∨ SqT K H p ys) ∧ ∀ l, H l = none → Q (.ref l) (upd H l (.lst ys))) (tCons ta tNil)) (mListO a) := by
  intro h H0 H s σ ρ Q g S p
  refine ha h H0 H s σ ρ _ g S (PostF.bind p fun d s1 x A B st g1 dx p1 => ?_)
  cases dx with
  | @lst aa xs ds qa ra =>
    refine ⟨_, _, rfl, .inl (SqL.of (g1.ex _ _ qa)), fun q hq => ?_⟩
    obtain ⟨g2, st2⟩ := g1.side (o := .lst xs) hq
    exact p1 q xs A _ st2 g2 (fresh_to (S.step st) hq) (g1.ex.free hq) (sf_lst.notH g1 hq) upd_same ra
  | @tup aa xs ds qa ra =>
    refine ⟨_, _, rfl, .inr (sqt_mono g1.ex qa), fun q hq => ?_⟩
    obtain ⟨g2, st2⟩ := g1.side (o := .lst xs) hq
    exact p1 q xs A _ st2 g2 (fresh_to (S.step st) hq) (g1.ex.free hq) (sf_lst.notH g1 hq) upd_same ra
  | _ => exact p1.elim
theorem sf_cat (ha : SE K mg Wx ta a) (hb : SE K mg Wx tb b) : SF K mg Wx (tOp (rAddA K) ta tb) (mCatO a b) := by
  intro h H0 H s σ ρ Q g S p
  refine ha h H0 H s σ ρ _ g S (PostF.bind p fun d s1 x A B st g1 dx p1 => hb h A B s1 σ ρ _ g1 (S.step st) (PostF.bind p1 fun e s2 y A2 B2 st2 g2 dy p2 => ?_))
  have dx := dx.mono st2.s0
  cases dx with
  | @lst aa xs ds qa ra =>
    cases dy with
    | @lst bb ys es qb rb =>
      by_cases c : sizeOk (ds.length + es.length)
      · simp only [c, if_true] at p2
        refine .inr (.inr (.inl ⟨_, _, _, _, rfl, rfl, g2.ex _ _ qa, g2.ex _ _ qb, ?_, fun q hq => ?_⟩))
        · rw [ra.len, rb.len]
          exact c.le
        · obtain ⟨g3, st3⟩ := g2.side (o := .lst (xs ++ ys)) hq
          exact p2 q _ A2 _ st3 g3 (fresh_to ((S.step st).step st2) hq) (g2.ex.free hq) (sf_lst.notH g2 hq) upd_same (ra.append rb)
      · simp only [c, if_false] at p2
        exact p2.elim
    | _ => exact p2.elim
  | _ => exact p2.elim
theorem ss_setO {i : Nat} (ha : SF K mg Wx ta m) : SS K mg Wx (tAsg ta (gName i)) (mSetO i m) := by
  intro h H0 H s σ ρ D g S p
  refine ha h H0 H s σ ρ _ g S ?_
  have p : PostS K mg h ((m ρ s).bind _) H0 H Wx D := p
  cases e : m ρ s with
  | ok ds s1 =>
    rw [e] at p
    exact fun q vs A B st g1 fr n0 nh eq da => p _ A B st.s0 g1 ((S.step st).put ⟨q, vs, rfl, eq, n0, nh, fr.1, da⟩ fun q2 e2 _ j l nj el ml => by
      cases e2
      exact fr.2 j l el ml)
  | err c fs ρ' s1 =>
    rw [e] at p
    exact p
  | bad =>
    rw [e] at p
    exact p
theorem isH_upd {h : Addr} {B : Hp} {q p : Addr} {u : HO} (n : p ≠ h) (nh : ¬ isH h B q) : ¬ isH h (upd B p u) q := fun z => by
  rcases z with z | ⟨r, z⟩
  · exact nh (.inl z)
  · rw [upd_ne fun y => n y.symm] at z
    exact nh (.inr ⟨r, z⟩)
theorem ss_app {i : Nat} (ha : SE K mg Wx ta a) : SS K mg Wx (tDrop (tBM K "list" rAppend (tVar i) (tCons ta tNil))) (mApp i a) := by
  intro h H0 H s σ ρ D g S p
  have p : PostS K mg h (mApp i a ρ s) H0 H Wx D := p
  unfold mApp at p
  split at p
  · rename_i ds ei
    obtain ⟨q, vs, es, eq, n0, nh, nf, da⟩ := S.own ei
    refine ⟨.ref q, es, .inl ⟨rfl, vs, SqL.of eq⟩, ha h H0 H s σ ρ _ g S (PostS.bind p fun d s1 x A B st g1 dx p1 => ?_)⟩
    obtain ⟨q2, vs2, es2, eq2, n02, nh2, nf2, da2⟩ := (S.step st).own ei
    obtain rfl : q = q2 := by
      rw [es] at es2
      cases es2
      rfl
    by_cases c : sizeOk ds.length
    · simp only [if_pos c] at p1
      refine ⟨q, vs2, x, rfl, rfl, eq2, by rw [da2.len]; exact c.lt, ?_⟩
      have nha : q ≠ h.a := fun z => nh2 (.inl z)
      exact p1 σ A _ (Same.refl _) (g1.at n02 nh2) ((S.step st).mut (u := .lst (vs2 ++ [x])) ei rfl es nh2 nf2 rfl ⟨q, vs2 ++ [x], rfl, upd_same, n02, isH_upd nha nh2, nf2, da2.append (.cons dx .nil)⟩)
    · simp only [if_neg c] at p1
      exact p1.elim
  · exact p.elim
theorem ss_setI {i : Nat} (hb : SE K mg Wx tb b) (ha : SE K mg Wx ta a) : SS K mg Wx (tAsg ta (gSub (tVar i) tb rSetL)) (mSetI i b a) := by
  intro h H0 H s σ ρ D g S p
  refine ha h H0 H s σ ρ _ g S (PostS.bind p fun d s1 x A B st g1 dx p1 => ?_)
  split at p1
  · rename_i ds ei
    obtain ⟨q, vs, es, eq, n0, nh, nf, da⟩ := (S.step st).own ei
    refine ⟨.ref q, es, hb h A B s1 σ ρ _ g1 (S.step st) (PostS.bind p1 fun k s2 y A2 B2 st2 g2 dy p2 => ?_)⟩
    obtain ⟨q2, vs2, es2, eq2, n02, nh2, nf2, da2⟩ := ((S.step st).step st2).own ei
    obtain rfl : q = q2 := by
      rw [es] at es2
      cases es2
      rfl
    cases dy with
    | int k =>
      cases ej : ixN ds.length k with
      | none =>
        simp only [ej] at p2
        exact p2.elim
      | some j =>
        simp only [ej] at p2
        refine ⟨q, vs2, k, j, rfl, rfl, eq2, by rw [da2.len]; exact ej, ?_⟩
        have nha : q ≠ h.a := fun z => nh2 (.inl z)
        exact p2 σ A2 _ (Same.refl _) (g2.at n02 nh2) (((S.step st).step st2).mut (u := .lst (vs2.set j x)) ei rfl es nh2 nf2 rfl ⟨q, vs2.set j x, rfl, upd_same, n02, isH_upd nha nh2, nf2, da2.set (dx.mono st2.s0) j⟩)
    | _ => exact p2.elim
  · exact p1.elim
/-! ### reading one's own list -/
theorem se_ixO {i : Nat} (hb : SE K mg Wx tb b) : SE K mg Wx (tOp (rIx K) (tVar i) tb) (mIxO i b) := by
  intro h H0 H s σ ρ Q g S p
  have p : Post K mg h (Den K mg h.a) (mIxO i b ρ s) H0 H Wx Q := p
  unfold mIxO at p
  split at p
  · rename_i ds ei
    obtain ⟨q, vs, es, eq, n0, nh, nf, da⟩ := S.own ei
    refine ⟨.ref q, es, hb h H0 H s σ ρ _ g S (Post.bind p fun k s2 y A2 B2 st2 g2 dy p2 => ?_)⟩
    obtain ⟨q2, vs2, es2, eq2, n02, nh2, nf2, da2⟩ := (S.step st2).own ei
    obtain rfl : q = q2 := by
      rw [es] at es2
      cases es2
      rfl
    cases dy with
    | int k =>
      obtain ⟨z, hz, p3⟩ := post_lift p2
      obtain ⟨v, e1, e2⟩ := da2.atI' hz
      exact .inl ⟨q, vs2, k, v, rfl, rfl, SqL.of eq2, e1, p3 v A2 B2 (.refl _ _) g2 e2⟩
    | _ => exact p2.elim
  · rename_i d ei
    obtain ⟨v, es, dv⟩ := S.dat ei
    refine ⟨v, es, hb h H0 H s σ ρ _ g S (Post.bind p fun k s2 y A2 B2 st2 g2 dy p2 => ?_)⟩
    obtain ⟨z, hz, p3⟩ := post_lift p2
    exact os_ix h A2 B2 s2 v y d k z Q g2 (dv.mono st2.s0) dy hz fun u A3 B3 st3 g3 du => p3 u A3 B3 st3 g3 du
  · exact p.elim
/-! ### an own list becomes data -/
theorem Slots.frz {h : Ent} {H0 H : Hp} {σ : L2.St} {ρ : Env'} {i : Nat} {ds : List Dt} {q : Addr} {vs : List V} (S : Slots K mg h H0 H σ ρ) (ei : ρ[i]? = some (.own ds)) (es : σ[i]? = some (some (.ref q))) (eq : H q = some (.lst vs)) (n0 : H0 q = none) (nh : ¬ isH h.a H q) (nf : NF h q)
    (da : DenA K mg h.a H0 vs ds) : Slots K mg h (upd H0 q (.lst vs)) H σ (ρ.set i (.dat (.lst ds))) := by
  have e0 : Same H0 (upd H0 q (.lst vs)) := same_upd' n0
  have hl : i < ρ.length := (List.getElem?_eq_some_iff.mp ei).1
  refine ⟨by rw [List.length_set]; exact S.len, fun j o l a b => ?_, fun j k p a b e1 e2 m1 m2 e3 e4 => ?_, ⟨S.st.s0.trans e0, fun p o x y z => ?_⟩⟩
  · by_cases hj : i = j
    · subst hj
      rw [List.getElem?_set_self hl] at b
      cases b
      rw [es] at a
      cases a
      exact .lst upd_same (da.mono e0)
    · rw [List.getElem?_set_ne hj] at b
      have w := S.at_ j o l a b
      cases o with
      | none =>
        cases l with
        | no => exact True.intro
        | dat d => exact w
        | own ds => exact w
        | slf c fs => exact w
      | some v =>
        cases l with
        | no => exact True.intro
        | dat d => exact Den.mono e0 w
        | own ds' =>
          obtain ⟨p', vs', rfl, a1, b1, c1, nf1, d1⟩ := w
          have ne : p' ≠ q := fun z => by
            subst z
            exact hj (S.ds i j p' _ _ ei b rfl rfl es a)
          exact ⟨p', vs', rfl, a1, by rw [upd_ne ne]; exact b1, c1, nf1, d1.mono e0⟩
        | slf c fs =>
          obtain ⟨p', C, dx, vs', rfl, ep, m, a1, b1, c1, nf1, d1⟩ := w
          have ne : p' ≠ q := fun z => by
            subst z
            exact hj (S.ds i j p' _ _ ei b rfl rfl es a)
          exact ⟨p', C, dx, vs', rfl, ep, m, a1, by rw [upd_ne ne]; exact b1, c1, nf1, d1.mono e0⟩
  · have ne : ∀ (j : Nat) (a : Sl), (ρ.set i (.dat (.lst ds)))[j]? = some a → a.mine = true → ρ[j]? = some a := fun j a e m => by
      by_cases hj : i = j
      · subst hj
        rw [List.getElem?_set_self hl] at e
        cases e
        cases m
      · rwa [List.getElem?_set_ne hj] at e
    exact S.ds j k p a b (ne j a e1 m1) (ne k b e2 m2) m1 m2 e3 e4
  · obtain ⟨a1, b1, c1⟩ := S.st.fr p o x y z
    have ne : p ≠ q := fun w => by
      subst w
      exact z (nf o x y)
    exact ⟨a1, by rw [upd_ne ne]; exact b1, c1⟩
theorem G.frz {h : Addr} {H0 H : Hp} {s : Hd} {q : Addr} {u : HO} (g : G h H0 H s) (eq : H q = some u) (nh : ¬ isH h H q) : G h (upd H0 q u) H s := by
  obtain ⟨gl, a1, a2, a3, a4⟩ := g.gl
  refine ⟨fun p o x => ?_, by rw [upd_ne fun z => nh (.inl z.symm)]; exact g.h0, gl, by rw [upd_ne fun z => nh (.inr ⟨_, by rw [← z]; exact a3⟩)]; exact a1, a2, a3, a4⟩
  by_cases e : p = q
  · subst e
    rw [upd_same] at x
    cases x
    exact eq
  · rw [upd_ne e] at x
    exact g.ex _ _ x
theorem ss_frz {i : Nat} (hs : SS K mg Wx ts ms) : SS K mg Wx ts (fun ρ s => ms (frzE ρ i) s) := by
  intro h H0 H s σ ρ D g S p
  have p : PostS K mg h (ms (frzE ρ i) s) H0 H Wx D := p
  unfold frzE at p
  split at p
  · rename_i ds ei
    obtain ⟨q, vs, es, eq, n0, nh, nf, da⟩ := S.own ei
    exact hs h _ H s σ _ D (g.frz eq nh) (S.frz ei es eq n0 nh nf da) (PostS.step (same_upd' n0) p)
  · exact hs h H0 H s σ ρ D g S p
theorem ss_frzs (hs : SS K mg Wx ts ms) : ∀ is : List Nat, SS K mg Wx ts (mFrz is ms)
  | [] => hs
  | i :: is => ss_frz (ms := mFrz is ms) (ss_frzs hs is)
/-! ### an own list lent to a reading whose result holds no list -/
mutual
theorem Den.lf {h : Addr} {H : Hp} {q : Addr} {us : List V} (eq : H q = some (.lst us)) : ∀ {v : V} {d : Dt}, Den K mg h H v d → lfree d = true → Den K mg h (del H q) v d
  | _, _, .non, _ => .non
  | _, _, .bl b, _ => .bl b
  | _, _, .int i, _ => .int i
  | _, _, .str x, _ => .str x
  | _, .tup ds, .tup e r, l => .tup (sqt_del eq e) (DenA.lf eq r (by unfold lfree at l; exact l))
  | _, .lst ds, .lst e r, l => by
    unfold lfree at l
    cases l
  | _, .obj c fs, .obj m e r, l => .obj m (by rw [del_ne fun z => by rw [z, eq] at e; cases e]; exact e) (DenF.lf eq r (by unfold lfree at l; exact l))
  | _, _, .hnd, _ => .hnd
theorem DenA.lf {h : Addr} {H : Hp} {q : Addr} {us : List V} (eq : H q = some (.lst us)) : ∀ {v : List V} {d : List Dt}, DenA K mg h H v d → lfreeA d = true → DenA K mg h (del H q) v d
  | _, _, .nil, _ => .nil
  | _, d :: ds, .cons r t, l => by
    unfold lfreeA at l
    rw [Bool.and_eq_true] at l
    exact .cons (Den.lf eq r l.1) (DenA.lf eq t l.2)
theorem DenF.lf {h : Addr} {H : Hp} {q : Addr} {us : List V} (eq : H q = some (.lst us)) : ∀ {v : List (Str × V)} {d : List (Str × Dt)}, DenF K mg h H v d → lfreeF d = true → DenF K mg h (del H q) v d
  | _, _, .nil, _ => .nil
  | _, (n, d) :: ds, .cons r t, l => by
    unfold lfreeF at l
    rw [Bool.and_eq_true] at l
    exact .cons (Den.lf eq r l.1) (DenF.lf eq t l.2)
end
/-- behind the lending: the list is one's own again -/
theorem lend_back {h : Addr} {H0 H A B : Hp} {s' : Hd} {q : Addr} {us : List V} (eq : H q = some (.lst us)) (n0 : H0 q = none) (st : Step h (upd H0 q (.lst us)) H A B) (g : G h A B s') : Step h H0 H (del A q) B ∧ G h (del A q) B s' ∧ A q = some (.lst us) ∧ ¬ isH h B q ∧ Same H0 (del A q) := by
  have aq : A q = some (.lst us) := st.s0 _ _ upd_same
  obtain ⟨gl, a1, a2, a3, a4⟩ := g.gl
  have nh : ¬ isH h B q := fun z => by
    rcases z with z | ⟨r, z⟩
    · rw [z, g.h0] at aq
      cases aq
    · rw [a3] at z
      cases z
      rw [a1] at aq
      cases aq
  have sm : Same H0 (del A q) := fun b o e => by
    have nb : b ≠ q := ne_of_none e n0
    rw [del_ne nb]
    exact st.s0 _ _ (by rw [upd_ne nb]; exact e)
  refine ⟨⟨sm, fun b o x y z => ?_⟩, ⟨fun b o x => ?_, ?_, gl, ?_, a2, a3, a4⟩, aq, nh, sm⟩
  · by_cases e : b = q
    · subst e
      rw [x] at eq
      cases eq
      exact ⟨g.ex _ _ aq, del_same, nh⟩
    · obtain ⟨w1, w2, w3⟩ := st.fr b o x (by rw [upd_ne e]; exact y) z
      exact ⟨w1, by rw [del_ne e]; exact w2, w3⟩
  · by_cases e : b = q
    · subst e
      rw [del_same] at x
      cases x
    · rw [del_ne e] at x
      exact g.ex _ _ x
  · by_cases e : h = q
    · rw [e, del_same]
    · rw [del_ne e]
      exact g.h0
  · by_cases e : gl = q
    · rw [e, del_same]
    · rw [del_ne e]
      exact a1
theorem err_lend {h : Ent} {H0 H : Hp} {σ : L2.St} {ρ ρ' : Env'} {q : Addr} {us : List V} {s' : Hd} {c : Str} {fs : List (Str × Dt)} (S : Slots K mg h H0 H σ ρ) (eq : H q = some (.lst us)) (n0 : H0 q = none) (l : lfreeF fs = true) (p : ErrP K mg h H0 c fs (ρ'.map lfSl) s' Wx) : ErrP K mg h (upd H0 q (.lst us)) c fs ρ' s' Wx := by
  intro σ' C dd A B sm g S' mc x
  have aq : A q = some (.lst us) := sm _ _ upd_same
  have sm0 : Same H0 (del A q) := fun b o e => by
    have nb : b ≠ q := ne_of_none e n0
    rw [del_ne nb]
    exact sm _ _ (by rw [upd_ne nb]; exact e)
  have g2 : G h.a (del A q) B s' := by
    obtain ⟨gl, a1, a2, a3, a4⟩ := g.gl
    refine ⟨fun b o x => ?_, ?_, gl, ?_, a2, a3, a4⟩
    · by_cases e : b = q
      · subst e
        rw [del_same] at x
        cases x
      · rw [del_ne e] at x
        exact g.ex _ _ x
    · by_cases e : h.a = q
      · rw [e, del_same]
      · rw [del_ne e]
        exact g.h0
    · by_cases e : gl = q
      · rw [e, del_same]
      · rw [del_ne e]
        exact a1
  refine p σ' C dd (del A q) B sm0 g2 ⟨by rw [List.length_map]; exact S'.len, fun j o l' a b => ?_, fun i j p a b e1 _ m1 _ _ _ => ?_, ?_⟩ mc (by cases dd with | none => exact x | some dd => obtain ⟨nz, fv, x, f⟩ := x; exact ⟨nz, fv, x, f.lf aq l⟩)
  · rw [List.getElem?_map] at b
    cases e : ρ'[j]? with
    | none =>
      rw [e] at b
      cases b
    | some l0 =>
      rw [e] at b
      cases b
      have w := S'.at_ j o l0 a e
      cases l0 with
      | dat d =>
        by_cases c : lfree d = true
        · have e2 : lfSl (.dat d) = .dat d := if_pos c
          rw [e2]
          cases o with
          | none => exact w
          | some v => exact Den.lf aq w c
        · have e2 : lfSl (.dat d) = .no := if_neg c
          rw [e2]
          cases o <;> exact True.intro
      | no => cases o <;> exact True.intro
      | own ds => cases o <;> exact True.intro
      | slf c fs => cases o <;> exact True.intro
  · rw [List.getElem?_map] at e1
    cases e : ρ'[i]? with
    | none =>
      rw [e] at e1
      cases e1
    | some l0 =>
      rw [e] at e1
      cases e1
      cases l0 with
      | dat d =>
        by_cases c : lfree d = true
        · have e2 : lfSl (.dat d) = .dat d := if_pos c
          rw [e2] at m1
          cases m1
        · have e2 : lfSl (.dat d) = .no := if_neg c
          rw [e2] at m1
          cases m1
      | no => cases m1
      | own ds => cases m1
      | slf c fs => cases m1
  · refine ⟨S.st.s0.trans sm0, fun b o x y z => ?_⟩
    obtain ⟨w1, w2, w3⟩ := S'.st.fr b o x y z
    refine ⟨w1, ?_, w3⟩
    by_cases e : b = q
    · rw [e, del_same]
    · rw [del_ne e]
      exact w2
theorem se_bor {i : Nat} (ha : SE K mg Wx ta a) : SE K mg Wx ta (mBor i a) := by
  intro h H0 H s σ ρ Q g S p
  have p : Post K mg h (Den K mg h.a) (mBor i a ρ s) H0 H Wx Q := p
  unfold mBor at p
  split at p
  · rename_i ds ei
    obtain ⟨q, vs, es, eq, n0, nh, nf, da⟩ := S.own ei
    refine ha h _ H s σ _ Q (g.frz eq nh) (S.frz ei es eq n0 nh nf da) ?_
    split at p
    · rename_i d s' e
      rw [e]
      split at p
      · rename_i l
        intro v A B st g1 dv
        obtain ⟨st2, g2, aq, _⟩ := lend_back eq n0 st g1
        exact p v _ B st2 g2 (dv.lf aq l)
      · exact p.elim
    · rename_i c fs ρ' s' e
      rw [e]
      split at p
      · rename_i l
        exact err_lend S eq n0 l p
      · exact p.elim
    · exact p.elim
  · exact ha h H0 H s σ ρ Q g S p
theorem st_bor {i : Nat} {tt : TT} {mt : MT} (ha : ST K mg Wx tt mt) : ST K mg Wx tt (mBorT i mt) := by
  intro h H0 H s σ ρ Q g S p
  have p : Post K mg h EqB (mBorT i mt ρ s) H0 H Wx Q := p
  unfold mBorT at p
  split at p
  · rename_i ds ei
    obtain ⟨q, vs, es, eq, n0, nh, nf, da⟩ := S.own ei
    refine ha h _ H s σ _ Q (g.frz eq nh) (S.frz ei es eq n0 nh nf da) ?_
    split at p
    · rename_i d s' e
      rw [e]
      intro v A B st g1 dv
      obtain ⟨st2, g2, aq, _⟩ := lend_back eq n0 st g1
      exact p v _ B st2 g2 dv
    · rename_i c fs ρ' s' e
      rw [e]
      split at p
      · rename_i l
        exact err_lend S eq n0 l p
      · exact p.elim
    · exact p.elim
  · exact ha h H0 H s σ ρ Q g S p
end
end Mir


set_option Elab.async false
set_option linter.all false
set_option maxRecDepth 100000
/-! Texts of one's own lists; objects: made, their fields, methods, len, ==. -/
namespace Mir
open PySem PySem.Spec PyProof.Rows L2
open PySem.W (Frag)

/-! ### one's own lists: texts -/
section
variable {X : Cx} {Wx : WX} {a b e e2 : Expr} {ma mb : ME} {as m : MA} {es : List Expr} {pos p p2 p3 p4 : Pos} {mt : MT} {st : Stmt} {sts : List Stmt} {ms : MS}
theorem qf_lst (h : QA X Wx es as) : QF X Wx (.List es pos) (mLstO as) := by
  obtain ⟨t, q, s⟩ := h
  exact ⟨_, pe_lst q, sf_lst s⟩
theorem qf_list (ha : QE X Wx e ma) (hg : Gl X "list") (hm : X.mg "list" = none) (he : starEach [e] X.env = (false, eval e X.env) :: starEach [] X.env := by rfl) (hpl : (backTo pos (starEach [] X.env)).any (·.1) = false := by rfl) : QF X Wx (.Call (.Name "list" p) [e] [] pos) (mListO ma) := by
  obtain ⟨t, q, s⟩ := ha
  exact ⟨_, pe_callTy call_list_of hg hm (by decide +kernel) (pa_cons q pa_nil he) (by decide) (by decide) he hpl, sf_listc s⟩
theorem qf_cat (ha : QE X Wx a ma) (hb : QE X Wx b mb) : QF X Wx (.BinOp a .Add b pos) (mCatO ma mb) := by
  obtain ⟨ta, pa, sa⟩ := ha
  obtain ⟨tb, pb, sb⟩ := hb
  exact ⟨_, pe_op op_addA pa pb, sf_cat sa sb⟩
theorem qs_setO (i : Nat) {x : Str} {pos' : Pos} (hN : X.N.Nodup) (he : QF X Wx e m) (hi : X.N[i]? = some x := by rfl) (hx : Loc X.env.scope x := by first | exact Or.inl rfl | exact Or.inr rfl) (hs : swapsWith e (some (.Name x pos')) pos.line X.env = pure false := by rfl)
    (hf : X.fn x = true ∨ X.env.scope.names.lookup x = some .local := by first | exact .inl rfl | exact .inr rfl) : QS X Wx (.Assign [.Name x pos'] e pos) (mSetO i m) := by
  obtain ⟨t, q, s⟩ := he
  exact ⟨_, ps_set hN hi hx q hs hf, ss_setO s⟩
theorem qs_app (i : Nat) {x : Str} (hN : X.N[i]? = some x) (he : QE X Wx e ma) (hv : Vis X.env.scope x := by first | exact Or.inl rfl | exact Or.inr (Or.inl rfl) | exact Or.inr (Or.inr rfl)) (hd : (x == ("__debug__" : Str)) = false := by decide)
    (hcd : (x == ("__classdict__" : Str)) = false := by decide)
    (hbase : attributeBase (.Name x p) "append" X.env (eval (.Name x p) X.env) = eval (.Name x p) X.env := by rfl)
    (hfew : ((backTo p3 (starEach [e] X.env)).all (fun x => !x.1) && (backToKw p3 (keywordEach [] X.env)).all (fun x => x.1.isSome) && decide ([e].length + ([] : List Keyword).length + (if ([] : List Keyword).isEmpty then 0 else 1) < 30)) = true := by rfl)
    (hline : (p2.endLine == p3.line) = true := by rfl) (hse : starEach [e] X.env = (false, eval e X.env) :: starEach [] X.env := by rfl) (hplain : (backTo p3 (starEach [] X.env)).any (·.1) = false := by rfl)
    (hs : swapsWith (.Call (.Attribute (.Name x p) "append" p2) [e] [] p3) none pos.line X.env = pure false := by rfl) : QS X Wx (.Expr (.Call (.Attribute (.Name x p) "append" p2) [e] [] p3) pos) (mApp i ma) := by
  obtain ⟨t, q, s⟩ := he
  exact ⟨_, ps_expr (pe_bm PySem.F.plainAttrs_list PySem.F.slot_list_append PySem.F.type_list_append mt_append (pe_var hN hv hd hcd) (pa_cons q pa_nil hse) hbase hfew hline hse hplain) hs, ss_app s⟩
theorem qs_setI (i : Nat) {x : Str} (hN : X.N[i]? = some x) (hb : QE X Wx b mb) (ha : QE X Wx a ma) (hv : Vis X.env.scope x := by first | exact Or.inl rfl | exact Or.inr (Or.inl rfl) | exact Or.inr (Or.inr rfl)) (hd : (x == ("__debug__" : Str)) = false := by decide)
    (hcd : (x == ("__classdict__" : Str)) = false := by decide)
    (hh : ∀ v, assign (.Subscript (.Name x p) b p2) X.env v = (do
      let ov ← holding [v] (eval (.Name x p) X.env)
      let iv ← holding [v, ov] (eval b X.env)
      standAt p2
      holding [v, ov, iv] (setItem ov iv v)
      release [v, ov, iv] []) := by intro _; rfl)
    (hs : swapsWithSole [.Subscript (.Name x p) b p2] a pos.line X.env = pure false := by rfl) (hw : swappedStores [.Subscript (.Name x p) b p2] a X.env = pure none := by rfl)
    (h1 : (assignEach [.Subscript (.Name x p) b p2] X.env).map (·.2) = [assign (.Subscript (.Name x p) b p2) X.env] := by rfl) : QS X Wx (.Assign [.Subscript (.Name x p) b p2] a pos) (mSetI i mb ma) := by
  obtain ⟨ta, pa, sa⟩ := ha
  obtain ⟨tb, pb, sb⟩ := hb
  exact ⟨_, ps_asg pa (pg_sub (pe_var hN hv hd hcd) pb set_list hh) hs hw h1, ss_setI sb sa⟩
theorem qe_ixO (i : Nat) {x : Str} (hN : X.N[i]? = some x) (hb : QE X Wx b mb) (hv : Vis X.env.scope x := by first | exact Or.inl rfl | exact Or.inr (Or.inl rfl) | exact Or.inr (Or.inr rfl)) (hd : (x == ("__debug__" : Str)) = false := by decide)
    (hcd : (x == ("__classdict__" : Str)) = false := by decide) (hs : PlainIx b := by exact fun _ _ => rfl) : QE X Wx (.Subscript (.Name x p) b pos) (mIxO i mb) := by
  obtain ⟨tb, pb, sb⟩ := hb
  exact ⟨_, pe_ix ix_seq (pe_var hN hv hd hcd) pb hs, se_ixO sb⟩
theorem qe_bor (i : Nat) (ha : QE X Wx a ma) : QE X Wx a (mBor i ma) := by
  obtain ⟨t, q, s⟩ := ha
  exact ⟨t, q, se_bor s⟩
theorem qt_bor (i : Nat) (ha : QT X Wx a mt) : QT X Wx a (mBorT i mt) := by
  obtain ⟨t, q, s⟩ := ha
  exact ⟨t, q, st_bor s⟩
theorem qs_frz (is : List Nat) (hs : QS X Wx st ms) : QS X Wx st (mFrz is ms) := by
  obtain ⟨t, q, s⟩ := hs
  exact ⟨t, q, ss_frzs s is⟩
end
section
variable {X : Cx} {Wx : WX} {elt tg iter : Expr} {scope : Scope} {own : List (Str × Nat)} {pos : Pos} {g : TG} {m : GM} {js : List Nat} {ifs : List Expr} {mt : MT} {ma : ME}
theorem qf_lc {mi : MA} {vs : List Nat} (hc : X.calm = true) (hN : X.N.Nodup) (hi : QI X Wx iter mi) (ok : BlkOk X.N X.env.scope scope own) (hvs : own.map (·.2) = vs) (hv : ∀ j ∈ js, j ∈ vs) (hsg : SG X.K X.mg js g m)
    (hg : ∀ (s : Shared) (H : Hp) (C : Addr) (cl : List (Str × Addr)) (fp : List Addr), PG (X.blk s H scope (compEnvC scope cl C X.env) fp) tg g)
    (ht : ∀ (s : Shared) (H : Hp) (C : Addr) (cl : List (Str × Addr)) (fp : List Addr), QTs (X.blk s H scope (compEnvC scope cl C X.env) fp) ifs mt)
    (he : ∀ (s : Shared) (H : Hp) (C : Addr) (cl : List (Str × Addr)) (fp : List Addr), QE (X.blk s H scope (compEnvC scope cl C X.env) fp) WF elt ma) :
    QF X Wx (.ListComp elt [⟨tg, iter, ifs, 0⟩] scope pos) (mToL (mLc m mi mt ma vs)) := by
  subst hvs
  obtain ⟨wi, q, s, hs⟩ := hi
  exact ⟨_, pe_lc hc hN (q _) ok hg (fun s H C cl fp => (ht s H C cl fp).can) (fun s H C cl fp => (he s H C cl fp).can) hs, sf_lc s hsg hv st_cT se_cE⟩
theorem qs_setLcO {mi : MA} {vs : List Nat} (i : Nat) {y : Str} {py spos : Pos} (hc : X.calm = true) (hN : X.N.Nodup) (hi : QI X Wx iter mi) (ok : BlkOk X.N X.env.scope scope own) (hvs : own.map (·.2) = vs) (hv : ∀ j ∈ js, j ∈ vs) (hsg : SG X.K X.mg js g m)
    (hg : ∀ (s : Shared) (H : Hp) (C : Addr) (cl : List (Str × Addr)) (fp : List Addr), PG (X.blk s H scope (compEnvC scope cl C X.env) fp) tg g)
    (ht : ∀ (s : Shared) (H : Hp) (C : Addr) (cl : List (Str × Addr)) (fp : List Addr), QTs (X.blk s H scope (compEnvC scope cl C X.env) fp) ifs mt)
    (he : ∀ (s : Shared) (H : Hp) (C : Addr) (cl : List (Str × Addr)) (fp : List Addr), QE (X.blk s H scope (compEnvC scope cl C X.env) fp) WF elt ma)
    (hy : X.N[i]? = some y := by rfl) (hyl : X.env.scope.names.lookup y = some .local := by rfl) (hsw : swapsWith (.ListComp elt [⟨tg, iter, ifs, 0⟩] scope pos) (some (.Name y py)) spos.line X.env = pure true := by exact sw_true rfl rfl rfl (by decide +kernel)) :
    QS X Wx (.Assign [.Name y py] (.ListComp elt [⟨tg, iter, ifs, 0⟩] scope pos) spos) (mSetO i (mToL (mLc m mi mt ma vs))) := by
  subst hvs
  obtain ⟨wi, q, s, hs⟩ := hi
  exact ⟨_, ps_setLc hc hN hy hyl hsw (q _) ok hg (fun s H C cl fp => (ht s H C cl fp).can) (fun s H C cl fp => (he s H C cl fp).can) hs, ss_setO (sf_lc s hsg hv st_cT se_cE)⟩
end

/-! ### fields -/
def mAttr (cs : List Str) (f : Str) (a : ME) : ME := fun ρ s => (a ρ s).bind fun d s1 => match d with
  | .obj c fs => if c ∈ cs then liftO (fs.lookup f) s1 else .bad
  | _ => .bad
/-- in the classes cs the name f is a field -/
def FldOk (K : Frag) (mg : Str → Option Value) (cs : List Str) (f : Str) : Prop := ∀ c ∈ cs, ∀ C, mg c = some (.ref C) → Cls K C ∧ NoAttr K C f
def putFD (f : Str) (v : Dt) : List (Str × Dt) → List (Str × Dt)
  | [] => [(f, v)]
  | (g, x) :: r => if g = f then (g, v) :: r else (g, x) :: putFD f v r
/-- self.f = a, self at slot i still being made -/
def mFld (i : Nat) (cs : List Str) (f : Str) (a : ME) : MS := fun ρ s => (a ρ s).bind fun d s1 => match ρ[i]? with
  | some (.slf c fs) => if c ∈ cs ∧ fs.length < 1000 then .ok (.nx (ρ.set i (.slf c (putFD f d fs)))) s1 else .bad
  | _ => .bad
section
variable {K : Frag} {mg : Str → Option Value} {Wx : WX} {ta tb : TE} {a b : ME} {cs : List Str} {f : Str}
theorem DenF.put {h : Addr} {H : Hp} {v : V} {d : Dt} (q : Den K mg h H v d) : ∀ {fv : List (Str × V)} {fs : List (Str × Dt)}, DenF K mg h H fv fs → DenF K mg h H (putF f v fv) (putFD f d fs)
  | _, _, .nil => .cons q .nil
  | _, _, @DenF.cons _ _ _ _ n x vs d' ds r t => by
    unfold putF putFD
    by_cases c : n = f
    · rw [if_pos c, if_pos c]
      exact .cons q t
    · rw [if_neg c, if_neg c]
      exact .cons r (DenF.put q t)
theorem DenF.len {h : Addr} {H : Hp} : ∀ {fv : List (Str × V)} {fs : List (Str × Dt)}, DenF K mg h H fv fs → fv.length = fs.length
  | _, _, .nil => rfl
  | _, _, .cons _ t => congrArg Nat.succ (DenF.len t)
theorem DenF.no {h : Addr} {H : Hp} : ∀ {fv : List (Str × V)} {fs : List (Str × Dt)}, DenF K mg h H fv fs → fs.lookup f = none → fv.lookup f = none
  | _, _, .nil, _ => rfl
  | _, _, @DenF.cons _ _ _ _ n x vs d' ds r t, e => by
    by_cases c : f = n
    · subst c
      simp only [List.lookup, beq_self_eq_true] at e
      cases e
    · have c' : (f == n) = false := by simpa using c
      simp only [List.lookup, c'] at e ⊢
      exact DenF.no t e
theorem se_attr (hc : FldOk K mg cs f) (ha : SE K mg Wx ta a) : SE K mg Wx (tFld K ta f) (mAttr cs f a) := by
  intro h H0 H s σ ρ Q g S p
  refine ha h H0 H s σ ρ _ g S (Post.bind p fun d s1 x A B st g1 dx p1 => ?_)
  cases dx with
  | @obj aa C dxx c fv fs m e r =>
    by_cases cc : c ∈ cs
    · simp only [if_pos cc] at p1
      obtain ⟨z, hz, p2⟩ := post_lift p1
      obtain ⟨v, e1, e2⟩ := r.look hz
      obtain ⟨k1, k2⟩ := hc c cc C m
      exact ⟨aa, C, dxx, fv, v, rfl, g1.ex _ _ e, k1, k2, e1, p2 v A B (.refl _ _) g1 e2⟩
    · simp only [if_neg cc] at p1
      exact p1.elim
  | _ => exact p1.elim
theorem ss_fld {i : Nat} (hc : FldOk K mg cs f) (ha : SE K mg Wx ta a) : SS K mg Wx (sFld K (tVar i) ta f) (mFld i cs f a) := by
  intro h H0 H s σ ρ D g S p
  refine ha h H0 H s σ ρ _ g S (PostS.bind p fun d s1 x A B st g1 dx p1 => ?_)
  split at p1
  · rename_i c fs ei
    obtain ⟨q, C, dxx, vs, es, ep, m, eq, n0, nh, nf, da⟩ := (S.step st).slf ei
    by_cases cc : c ∈ cs ∧ fs.length < 1000
    · rw [if_pos cc] at p1
      obtain ⟨k1, k2⟩ := hc c cc.1 C m
      have nha : q ≠ h.a := fun z => nh (.inl z)
      refine ⟨.ref q, es, q, C, dxx, vs, rfl, eq, k1, k2, by rw [da.len]; exact cc.2, ?_⟩
      exact p1 σ A _ (Same.refl _) (g1.at n0 nh) ((S.step st).mut (u := .ins C dxx (putF f x vs)) ei rfl es nh nf rfl ⟨q, C, dxx, _, rfl, ep, m, upd_same, n0, isH_upd nha nh, nf, da.put dx⟩)
    · rw [if_neg cc] at p1
      exact p1.elim
  · exact p1.elim
end
section
variable {X : Cx} {Wx : WX} {a e : Expr} {ma : ME} {pos p p2 : Pos} {f : Str} {cs : List Str}
theorem qe_attr (hc : FldOk X.K X.mg cs f) (ha : QE X Wx a ma) (hb : attributeBase a f X.env (eval a X.env) = eval a X.env := by rfl) : QE X Wx (.Attribute a f pos) (mAttr cs f ma) := by
  obtain ⟨t, q, s⟩ := ha
  exact ⟨_, pe_fld q hb, se_attr hc s⟩
theorem qs_fld (i : Nat) {x : Str} (hc : FldOk X.K X.mg cs f) (hN : X.N[i]? = some x) (he : QE X Wx e ma) (hv : Vis X.env.scope x := by first | exact Or.inl rfl | exact Or.inr (Or.inl rfl) | exact Or.inr (Or.inr rfl)) (hd : (x == ("__debug__" : Str)) = false := by decide)
    (hcd : (x == ("__classdict__" : Str)) = false := by decide) (hs : swapsWith e (some (.Attribute (.Name x p) f p2)) pos.line X.env = pure false := by rfl) : QS X Wx (.Assign [.Attribute (.Name x p) f p2] e pos) (mFld i cs f ma) := by
  obtain ⟨t, q, s⟩ := he
  exact ⟨_, ps_fld (pe_var hN hv hd hcd) q hs, ss_fld hc s⟩
end

/-! ### objects that are made -/
section
variable (K : Frag) (mg : Str → Option Value)
/-- what __init__ of the class c promises: the fields that m says -/
def spN (c : Str) (n : Nat) (m : List Dt → Hd → R (List (Str × Dt))) : Sp := fun vs H Q E => vs.length = n + 1 ∧ ∃ (h : Addr) (H0 : Hp) (s : Hd) (p C dx : Addr) (ws : List V) (ds : List Dt), vs = .ref p :: ws ∧ mg c = some (.ref C) ∧ H p = some (.ins C dx []) ∧ H0 p = none ∧ ¬ isH h H p ∧ G h H0 H s ∧ DenA K mg h H0 ws ds ∧
  (match m ds s with
    | .ok fs s' => ∀ (dx' : Addr) (fv : List (Str × V)) (H0' H' : Hp), Step h H0 (del H p) H0' H' → G h H0' H' s' → H' p = some (.ins C dx' fv) → H0' p = none → ¬ isH h H' p → DenF K mg h H0' fv fs → Q .non H'
    | .err c' fs _ s' => ∀ (C' : Addr) (od : Option Addr) (H0' H' : Hp), Step h H0 (del H p) H0' H' → G h H0' H' s' → mg c' = some (.ref C') → XdOk K mg h H0' H' od fs → E (.ref C') od H'
    | .bad => False)
end
def mMake (c : Str) (n : Nat) (dd : List Dt) (m : List Dt → Hd → R (List (Str × Dt))) (as : MA) : ME := fun ρ s => (as ρ s).bind fun ds s1 =>
  if (ds ++ dd).length = n then (match m (ds ++ dd) s1 with
    | .ok fs s2 => .ok (.obj c fs) s2
    | .err c' fs _ s2 => .err c' fs ρ s2
    | .bad => .bad) else .bad
/-- the function of an __init__ -/
def startI (n : Nat) (c : Str) (ds : List Dt) : Env' := .slf c [] :: (ds.map .dat ++ List.replicate (n - (ds.length + 1)) .no)
def mInit (n : Nat) (c : Str) (ms : MS) : List Dt → Hd → R (List (Str × Dt)) := fun ds s => match ms (startI n c ds) s with
  | .ok (.nx ρ) s' => (match ρ[0]? with
    | some (Sl.slf c' fs) => if c' = c then .ok fs s' else .bad
    | _ => .bad)
  | .err c fs ρ s' => .err c fs ρ s'
  | _ => .bad
/-- C(e, ..) -/
def tMakeS (C : Addr) (sp : Sp) (dvs : List V) (E : L2.St → XK) (t : TA) : TE := fun σ H Q => t σ H fun vs H1 => ∀ x dx, H1 x = none → H1 dx = none → dx ≠ x → sp (.ref x :: (vs ++ dvs)) (upd (upd H1 dx (.own x)) x (.ins C dx [])) (fun v H2 => v = .non ∧ Q (.ref x) H2) (E σ)
section
variable {K : Frag} {mg : Str → Option Value} {Wx : WX} {t : TA} {as : MA}
theorem se_make {c : Str} {n : Nat} {C : Addr} {dvs : List V} {dd : List Dt} {m : List Dt → Hd → R (List (Str × Dt))} (hC : mg c = some (.ref C)) (hd : ∀ (h : Addr) (H : Hp), DenA K mg h H dvs dd) (ha : SA K mg Wx t as) : SE K mg Wx (tMakeS C (spN K mg c n m) dvs (WE Wx) t) (mMake c n dd m as) := by
  intro h H0 H s σ ρ Q g S p
  refine ha h H0 H s σ ρ _ g S (Post.bind p fun ds s1 xs A B st g1 dx p1 => ?_)
  by_cases cc : (ds ++ dd).length = n
  · rw [if_pos cc] at p1
    have dx2 := dx.append (hd h A)
    intro x dxx nx nd ne
    obtain ⟨g2, st2⟩ := g1.side (o := .own x) nd
    have nx2 : (upd B dxx (.own x)) x = none := by rw [upd_ne (Ne.symm ne)]; exact nx
    obtain ⟨g3, st3⟩ := g2.side (o := .ins C dxx []) nx2
    have ax : A x = none := g1.ex.free nx
    have back : ∀ {H0' H' : Hp}, Step h.a A (del (upd (upd B dxx (.own x)) x (.ins C dxx [])) x) H0' H' → Step h.a A B H0' H' := fun {H0' H'} w => ⟨w.s0, fun q o e1 e2 e3 => by
      have n1 : q ≠ x := ne_of_none e1 nx
      have n2 : q ≠ dxx := ne_of_none e1 nd
      obtain ⟨gl, a1, a2, a3, a4⟩ := g1.gl
      have n3 : h.a ≠ x := ne_of_none a3 nx
      have n4 : h.a ≠ dxx := ne_of_none a3 nd
      refine w.fr q o (by rw [del_ne n1, upd_ne n1, upd_ne n2]; exact e1) e2 fun z => e3 ?_
      rcases z with z | ⟨r, z⟩
      · exact .inl z
      · rw [del_ne n3, upd_ne n3, upd_ne n4] at z
        exact .inr ⟨r, z⟩⟩
    refine ⟨by show (xs ++ dvs).length + 1 = n + 1; rw [dx2.len, cc], h, A, s1, x, C, dxx, _, _, rfl, hC, upd_same, ax, sf_lst.notH g2 nx2, g3, dx2, ?_⟩
    cases hm : m (ds ++ dd) s1 with
    | ok fs s2 =>
      rw [hm] at p1
      intro dx' fv H0' H' w g4 e1 e2 e3 df
      have w2 := back w
      have e0 : Same H0' (upd H0' x (.ins C dx' fv)) := same_upd' e2
      refine ⟨rfl, p1 (.ref x) (upd H0' x (.ins C dx' fv)) H' ⟨w2.s0.trans e0, fun q o y1 y2 y3 => ?_⟩ (g4.frz e1 e3) (.obj hC upd_same (df.mono e0))⟩
      obtain ⟨z1, z2, z3⟩ := w2.fr q o y1 y2 y3
      exact ⟨z1, by rw [upd_ne (ne_of_none y1 nx)]; exact z2, z3⟩
    | err c' fs ρ' s2 =>
      rw [hm] at p1
      exact fun C' e A2 B2 w g4 mc xx => p1 σ C' e A2 B2 w.s0 g4 (S.step (st.trans (back w))) mc xx
    | bad =>
      rw [hm] at p1
      exact p1.elim
  · rw [if_neg cc] at p1
    exact p1.elim
theorem slots_init {h : Addr} {H0 H : Hp} {N : List Str} {vs : List V} {ds : List Dt} {c : Str} {p C dx : Addr} (hN : 0 < N.length) (hc : mg c = some (.ref C)) (hp : H p = some (.ins C dx [])) (h0 : H0 p = none) (nh : ¬ isH h H p) (da : DenA K mg h H0 vs ds) :
    Slots K mg ⟨h, H0, del H p, p⟩ H0 H (L2.start N (.ref p :: vs)) (startI N.length c ds) := by
  have l := da.len
  have nf : NF ⟨h, H0, del H p, p⟩ p := fun o e _ => by
    have e : del H p p = some o := e
    rw [del_same] at e
    cases e
  have st : Step h H0 (del H p) H0 H := by
    refine ⟨Same.refl _, fun q o x y z => ?_⟩
    have nq : q ≠ p := fun w => by
      subst w
      rw [del_same] at x
      cases x
    rw [del_ne nq] at x
    refine ⟨x, y, fun w => z ?_⟩
    rcases w with w | ⟨r, w⟩
    · exact .inl w
    · by_cases e : h = p
      · exact absurd (.inl e.symm) nh
      · exact .inr ⟨r, by rw [del_ne e]; exact w⟩
  have own : ∀ (i : Nat) (b : Sl), (ds.map Sl.dat ++ List.replicate (N.length - (ds.length + 1)) Sl.no)[i]? = some b → b.mine = true → False := fun i b z m => by
    by_cases hi : i < ds.length
    · rw [List.getElem?_append_left (by rw [List.length_map]; exact hi), List.getElem?_map, List.getElem?_eq_getElem hi] at z
      cases z
      cases m
    · rw [List.getElem?_append_right (by rw [List.length_map]; omega), List.getElem?_replicate] at z
      split at z <;> cases z
      cases m
  unfold L2.start startI
  refine ⟨by simp [l], fun i o sl a b => ?_, fun i j q x y e1 e2 m1 m2 _ _ => ?_, st⟩
  · match i, a, b with
    | 0, a, b =>
      cases a
      cases b
      exact ⟨p, C, dx, [], rfl, rfl, hc, hp, h0, nh, nf, .nil⟩
    | i + 1, a, b =>
      have a : (vs.map some ++ List.replicate (N.length - (vs.length + 1)) none)[i]? = some o := a
      have b : (ds.map Sl.dat ++ List.replicate (N.length - (ds.length + 1)) Sl.no)[i]? = some sl := b
      by_cases hi : i < ds.length
      · rw [List.getElem?_append_left (by rw [List.length_map]; omega), List.getElem?_map] at a
        rw [List.getElem?_append_left (by rw [List.length_map]; exact hi), List.getElem?_map, List.getElem?_eq_getElem hi] at b
        cases b
        obtain ⟨v, e1, e2⟩ := da.get (List.getElem?_eq_getElem hi)
        rw [e1] at a
        cases a
        exact e2
      · rw [List.getElem?_append_right (by rw [List.length_map]; omega), List.getElem?_replicate] at b
        split at b
        · cases b
          cases o <;> exact True.intro
        · cases b
  · match i, j, e1, e2 with
    | 0, 0, _, _ => rfl
    | i + 1, _, e1, _ => exact (own i x e1 m1).elim
    | 0, j + 1, _, e2 => exact (own j y e2 m2).elim
end
section
variable {P : Program} {w : World} {K : Frag} {mg : Str → Option Value} {base : Heap} {x qual c : Str} {st : Stmt} {f : Addr} {fd : FuncData} {N ps : List Str} {k : Nat} {ms : MS}
theorem init_back {h p C : Addr} {H0 H : Hp} {s : Hd} {ds : List Dt} {Q : VK} {E : XK} {n : Nat} (hc : mg c = some (.ref C))
    (q : match mInit n c ms ds s with
    | .ok fs s' => ∀ (dx' : Addr) (fv : List (Str × V)) (H0' H' : Hp), Step h H0 (del H p) H0' H' → G h H0' H' s' → H' p = some (.ins C dx' fv) → H0' p = none → ¬ isH h H' p → DenF K mg h H0' fv fs → Q .non H'
    | .err c' fs _ s' => ∀ (C' : Addr) (od : Option Addr) (H0' H' : Hp), Step h H0 (del H p) H0' H' → G h H0' H' s' → mg c' = some (.ref C') → XdOk K mg h H0' H' od fs → E (.ref C') od H'
    | .bad => False) : PostS K mg ⟨h, H0, del H p, p⟩ (ms (startI n c ds) s) H0 H (fun c d _ H' => E c d H') { nx := fun _ H' => Q .non H', rt := Q } := by
  unfold mInit at q
  cases e : ms (startI n c ds) s with
  | ok fl s2 =>
    rw [e] at q
    cases fl with
    | nx ρ =>
      cases e0 : ρ[0]? with
      | none =>
        simp only [e0] at q
      | some l =>
        cases l with
        | slf c' fs =>
          by_cases cc : c' = c
          · simp only [e0, if_pos cc] at q
            subst cc
            intro σ' H0' H' sm g' S'
            obtain ⟨q2, C2, dxx, vs, es2, ep, m2, eq2, n02, nh2, nf2, df⟩ := S'.slf e0
            have ep : q2 = p := ep
            subst ep
            rw [hc] at m2
            cases m2
            exact q dxx vs H0' H' S'.st g' eq2 n02 nh2 df
          · simp only [e0, if_neg cc] at q
        | no => simp only [e0] at q
        | dat d => simp only [e0] at q
        | own ds => simp only [e0] at q
    | rt d => exact q.elim
    | bk ρ => exact q.elim
    | ct ρ => exact q.elim
  | err c' fs ρ s2 =>
    rw [e] at q
    exact fun σ' C' dd A B sm g' S' mc xx => q C' dd A B S'.st g' mc xx
  | bad =>
    rw [e] at q
    exact q
/-- an __init__ follows its function -/
theorem okI {n nn : Nat} (F : Fun K x qual st f fd) (S : FnScope N ps (defScope st)) (hn : ps.length = n + 1) (hN : N.length = nn) (hN0 : 0 < nn)
    (hb : ∀ (cdv : Value) (A : Around) (outer : List Env) (s : Shared) (H : Hp) (E : XK), Room k (A.deeper (envOfC qual (defScope st) s.heap.objs.size f cdv)) → QSs (cxD P w K mg base N qual (defScope st) f cdv A outer s H E) (wE E) (defBody st) ms) :
    FnOk P w K mg base (L2.CX P w) (k + 1) f fd ps (spN K mg c n (mInit nn c ms)) := by
  subst hN
  refine F.okX S (fun vs H Q E h => h.1.trans hn.symm) (fun cdv A outer s H vs Q E hr h => ?_)
  obtain ⟨hl, hh, H0, s', p, C, dx, ws, ds, rfl, hc, hp, h0, nh, g, da, q⟩ := h
  obtain ⟨ts, qq, ss⟩ := hb cdv A outer s H E hr
  exact ⟨ts, qq, ss ⟨hh, H0, del H p, p⟩ H0 H s' _ _ _ g (slots_init hN0 hc hp h0 nh da) (init_back hc q)⟩
theorem okID {n nn : Nat} {params : Arguments} {body : List Stmt} {scope : Scope} {dvs : List V} (F : FunD K x qual params body scope dvs [] f fd) (S : FnScope N ps scope) (hn : ps.length = n + 1) (hN : N.length = nn) (hN0 : 0 < nn)
    (hb : ∀ (cdv : Value) (A : Around) (outer : List Env) (s : Shared) (H : Hp) (E : XK), Room k (A.deeper (envOfC qual scope s.heap.objs.size f cdv)) → QSs (cxD P w K mg base N qual scope f cdv A outer s H E) (wE E) body ms) :
    FnOk P w K mg base (L2.CX P w) (k + 1) f fd ps (spN K mg c n (mInit nn c ms)) := by
  subst hN
  refine F.ok S (fun vs H Q E h => h.1.trans hn.symm) (fun cdv A outer s H vs Q E hr h => ?_)
  obtain ⟨hl, hh, H0, s', p, C, dx, ws, ds, rfl, hc, hp, h0, nh, g, da, q⟩ := h
  obtain ⟨ts, qq, ss⟩ := hb cdv A outer s H E hr
  exact ⟨ts, qq, ss ⟨hh, H0, del H p, p⟩ H0 H s' _ _ _ g (slots_init hN0 hc hp h0 nh da) (init_back hc q)⟩
end
end Mir


set_option Elab.async false
set_option linter.all false
set_option maxRecDepth 100000
/-! Objects: made and asked by calls; len, ==, isinstance of them; errors without fields; except without a name. -/
namespace Mir
open PySem PySem.Spec PyProof.Rows L2
open PySem.W (Frag)

/-! ### C(e, ..), o.m(e, ..) -/
def tMethS (C : Addr) (m : Str) (sp : Sp) (dvs : List V) (E : L2.St → XK) (ta : TE) (t : TA) : TE := fun σ H Q => ta σ H fun x H1 => ∃ a dx fs, x = .ref a ∧ H1 a = some (.ins C dx fs) ∧ fs.lookup m = none ∧ t σ H1 fun vs H2 => sp (x :: (vs ++ dvs)) H2 Q (E σ)
section
variable {X : Cx} {k : Nat} {f C : Addr} {fd : FuncData} {ps : List Str} {sp : Sp} {dvs : List V} {dV : List Value} {E : L2.St → XK} {x m : Str} {p pos apos : Pos} {e o : Expr} {es : List Expr} {ta : TE} {t : TA}
theorem made_run {CX : CXT} {pins : List (Addr × Obj)} {σ : L2.St} {H : Hp} {s : Shared} {Q : VK} {us : List Value} {vs : List V} (M : Mk X.K C f) (F : FnOk X.prog X.w X.K X.mg X.base CX k f fd ps sp) (hr : Room (k + 1) X.A) (hb : Binds X.K fd ps dV) (hd : Vals dvs dV) (hx : PassesAt CX X σ (E σ)) (I : Inv X pins σ H s) (r : Vals vs us)
    (hh : ∀ y dx, H y = none → H dx = none → dx ≠ y → sp (.ref y :: (vs ++ dvs)) (upd (upd H dx (.own y)) y (.ins C dx [])) (fun v H2 => v = .non ∧ Q (.ref y) H2) (E σ)) : wpAny (model X.prog X.w) X.A (call (.ref C) us) (EP X pins σ Q) X.xe s := by
  have z := hh (s.heap.objs.size + 1) s.heap.objs.size (I.hok.fresh (by omega)) (I.hok.fresh (by omega)) (Nat.ne_of_lt (Nat.lt_succ_self _))
  have J := Inv.made (C := C) I
  have rr : Vals (V.ref (s.heap.objs.size + 1) :: (vs ++ dvs)) (Value.ref (s.heap.objs.size + 1) :: (us ++ dV)) := .cons rfl (r.append hd)
  have ln : (Value.ref (s.heap.objs.size + 1) :: us ++ dV).length = ps.length := by
    have q := F.len _ _ _ _ z
    rw [rr.length] at q
    exact q
  refine wpAny_call (make_map (f := f) I.kIn M.makes M.init (beq_iff_eq.mp M.fn) ?_)
  refine codeAny_mono (F.run _ X.stack _ _ ⟨Value.ref (s.heap.objs.size + 1) :: us, []⟩ (Value.ref (s.heap.objs.size + 1) :: (us ++ dV)) _ _ (E σ) (hr.make C us []) (J.env0.make C us []) (hb _ (Value.ref (s.heap.objs.size + 1) :: us) J.kIn ln) rr z) fun res s' w => ?_
  match res, w with
  | .error e, w => exact hx pins _ _ e s' J w
  | .ok (.ret u), w =>
    obtain ⟨v, H', J3, rv, ev, q3⟩ := J.after w
    subst ev
    exact ⟨rv, V.ref (s.heap.objs.size + 1), H', J3, rfl, q3⟩
  | .ok .next, w => exact w.elim
  | .ok .brk, w => exact w.elim
  | .ok .cont, w => exact w.elim
theorem pe_makeS {CX : CXT} (M : Mk X.K C f) (F : FnOk X.prog X.w X.K X.mg X.base CX k f fd ps sp) (hr : Room (k + 1) X.A) (hg : Gl X x) (hm : X.mg x = some (.ref C)) (hb : Binds X.K fd ps dV) (hd : Vals dvs dV) (hx : ∀ σ, PassesAt CX X σ (E σ)) (ha : PA X (e :: es) t)
    (hdb : (x == ("__debug__" : Str)) = false := by decide) (he : starEach (e :: es) X.env = (false, eval e X.env) :: starEach es X.env := by rfl) (hpl : (backTo pos (starEach es X.env)).any (·.1) = false := by rfl) : PE X (.Call (.Name x p) (e :: es) [] pos) (tMakeS C sp dvs E t) := by
  refine ⟨fun pins s σ H Q I z => wpAny_Call_Name_kw (ld_glob I hg hm ?_ hdb)⟩
  refine PySem.W.callWith_K (h₀ := X.base) I.ok.mod.kin M.kp (thn (ha.run pos pins s σ H _ I z) fun us s1 w => ?_) he hpl
  obtain ⟨vs, H1, I1, r, q⟩ := w
  exact ⟨I1.kIn, made_run M F hr hb hd (hx σ) I1 r q⟩
theorem pe_methS {CX : CXT} {pl : Sem Bool} (he : PE X o ta) (c : Cls X.K C) (hm : Meth X.K C m f) (F : FnOk X.prog X.w X.K X.mg X.base CX k f fd ps sp) (hr : Room k X.A) (hb : Binds X.K fd ps dV) (hd : Vals dvs dV) (hx : ∀ σ, PassesAt CX X σ (E σ)) (ha : PA X (e :: es) t)
    (hst : starEach (e :: es) X.env = (false, eval e X.env) :: starEach es X.env := by rfl) (hpl : (backTo pos (starEach es X.env)).any (·.1) = false := by rfl)
    (ht : eval (.Call (.Attribute o m apos) (e :: es) [] pos) X.env = (do
      let ov ← eval o X.env
      standAt apos.atName
      let (f, first) ← holding [ov] (getMethod ov m pl)
      callWith pos f first (backTo pos (starEach (e :: es) X.env)) (backToKw pos (keywordEach [] X.env))) := by rfl) : PE X (.Call (.Attribute o m apos) (e :: es) [] pos) (tMethS C m sp dvs E ta t) := by
  refine ⟨fun pins s σ H Q I z => PySem.W.methodCall_KW (pl := pl) (thn (he.run pins s σ H _ I z) fun u s1 w => ?_) ht⟩
  obtain ⟨y, H1, I1, rx, a, dx, fs, ex, ea, l, q⟩ := w
  subst ex
  cases (show u = Value.ref a from rx)
  refine getmeth_ok I1 ea c hm l (PySem.W.callWith_K (first := [.ref a]) (h₀ := X.base) I.ok.mod.kin hm.kp (thn (ha.run pos pins s1 σ H1 _ I1 q) fun us s2 w => ?_) hst hpl)
  obtain ⟨vs, H2, I2, r, q2⟩ := w
  exact ⟨I2.kIn, run_fnSD (us := .ref a :: us) (vs := .ref a :: vs) F hr hb hd (hx σ) I2 (.cons rfl r) q2⟩
theorem pe_methS0 {CX : CXT} {pl : Sem Bool} (he : PE X o ta) (c : Cls X.K C) (hm : Meth X.K C m f) (F : FnOk X.prog X.w X.K X.mg X.base CX k f fd ps sp) (hr : Room k X.A) (hb : Binds X.K fd ps dV) (hd : Vals dvs dV) (hx : ∀ σ, PassesAt CX X σ (E σ))
    (ht : eval (.Call (.Attribute o m apos) [] [] pos) X.env = (do
      let ov ← eval o X.env
      standAt apos.atName
      let (f, first) ← holding [ov] (getMethod ov m pl)
      callWith pos f first (backTo pos (starEach [] X.env)) (backToKw pos (keywordEach [] X.env))) := by rfl) : PE X (.Call (.Attribute o m apos) [] [] pos) (tMethS C m sp dvs E ta tNil) := by
  refine ⟨fun pins s σ H Q I z => PySem.W.methodCall_KW (pl := pl) (thn (he.run pins s σ H _ I z) fun u s1 w => ?_) ht⟩
  obtain ⟨y, H1, I1, rx, a, dx, fs, ex, ea, l, q⟩ := w
  subst ex
  cases (show u = Value.ref a from rx)
  exact getmeth_ok I1 ea c hm l (PySem.W.callWith_K0 (first := [.ref a]) I1.kIn hm.kp (run_fnSD (us := [.ref a]) (vs := [.ref a]) F hr hb hd (hx σ) I1 (.cons rfl .nil) q))
end
def mMeth (c : Str) (x : Str) (n : Nat) (dd : List Dt) (m : List Dt → Hd → R Dt) (a : ME) (as : MA) : ME := fun ρ s => (a ρ s).bind fun d s1 => match d with
  | .obj c' fs => if c' = c ∧ fs.lookup x = none then (as ρ s1).bind fun ds s2 => if (ds ++ dd).length + 1 = n then (match m (.obj c' fs :: (ds ++ dd)) s2 with
      | .ok d s3 => .ok d s3
      | .err c2 fs2 _ s3 => .err c2 fs2 ρ s3
      | .bad => .bad) else .bad
    else .bad
  | _ => .bad
section
variable {K : Frag} {mg : Str → Option Value} {Wx : WX} {t : TA} {as : MA} {ta : TE} {a : ME}
theorem se_meth {c x : Str} {n : Nat} {C : Addr} {dvs : List V} {dd : List Dt} {m : List Dt → Hd → R Dt} (hC : mg c = some (.ref C)) (hd : ∀ (h : Addr) (H : Hp), DenA K mg h H dvs dd) (he : SE K mg Wx ta a) (ha : SA K mg Wx t as) : SE K mg Wx (tMethS C x (spM K mg n m) dvs (WE Wx) ta t) (mMeth c x n dd m a as) := by
  intro h H0 H s σ ρ Q g S p
  refine he h H0 H s σ ρ _ g S (Post.bind p fun d s1 y A B st g1 dy p1 => ?_)
  cases dy with
  | @obj aa C' dxx c' fv fs mc e r =>
    by_cases cc : c' = c ∧ fs.lookup x = none
    · simp only [if_pos cc] at p1
      obtain ⟨rfl, nl⟩ := cc
      obtain rfl : C = C' := by
        rw [hC] at mc
        cases mc
        rfl
      refine ⟨aa, dxx, fv, rfl, g1.ex _ _ e, r.no nl, ha h A B s1 σ ρ _ g1 (S.step st) (Post.bind p1 fun ds s2 xs A2 B2 st2 g2 dx p2 => ?_)⟩
      by_cases c2 : (ds ++ dd).length + 1 = n
      · rw [if_pos c2] at p2
        have dx2 : DenA K mg h.a A2 (.ref aa :: (xs ++ dvs)) (.obj c' fs :: (ds ++ dd)) := .cons (.obj mc (st2.s0 _ _ e) (r.mono st2.s0)) (dx.append (hd h A2))
        refine ⟨by rw [dx2.len]; exact c2, h, A2, s2, _, g2, dx2, ?_⟩
        cases hm : m (.obj c' fs :: (ds ++ dd)) s2 with
        | ok d s3 =>
          rw [hm] at p2
          exact p2
        | err cc fs ρ' s3 =>
          rw [hm] at p2
          exact fun C e A3 B3 st3 g3 mc x => p2 σ C e A3 B3 st3.s0 g3 (S.step ((st.trans st2).trans st3)) mc x
        | bad =>
          rw [hm] at p2
          exact p2.elim
      · rw [if_neg c2] at p2
        exact p2.elim
    · simp only [if_neg cc] at p1
      exact p1.elim
  | _ => exact p1.elim
end
/-- what the text knows of a class whose objects it makes -/
structure ClsT (K : Frag) (mg : Str → Option Value) (c : Str) (C : Addr) : Prop where
  m : mg c = some (.ref C)
  cl : Cls K C
  ha : PySem.W.findIn K (.ref C) "__class__" = some (some (.builtin "object.__class__"))
  hn : PySem.W.specialIn K (.builtin "object.__class__") "__get__" = some (some (.builtin "getset_descriptor.__get__"))
  htk : PySem.W.takesIn K (.builtin "object.__class__") = some true
  hm : PySem.W.mroIn K C (.type "object") = some true
/-- a class that is made by calls -/
def Maker (P : Program) (w : World) (K : Frag) (mg : Str → Option Value) (base : Heap) (k : Nat) (c : Str) (n : Nat) (dd : List Dt) (m : List Dt → Hd → R (List (Str × Dt))) : Prop :=
  ∃ (C f : Addr) (fd : FuncData) (ps : List Str) (dvs : List V) (dsV : List Value), mg c = some (.ref C) ∧ Mk K C f ∧ FnOk P w K mg base (L2.CX P w) k f fd ps (spN K mg c n m) ∧ Binds K fd ps dsV ∧ Vals dvs dsV ∧ ∀ (h : Addr) (H : Hp), DenA K mg h H dvs dd
/-- a method -/
def Method (P : Program) (w : World) (K : Frag) (mg : Str → Option Value) (base : Heap) (k : Nat) (c x : Str) (n : Nat) (dd : List Dt) (m : List Dt → Hd → R Dt) : Prop :=
  ∃ (C f : Addr) (fd : FuncData) (ps : List Str) (dvs : List V) (dsV : List Value), mg c = some (.ref C) ∧ Cls K C ∧ Meth K C x f ∧ FnOk P w K mg base (L2.CX P w) k f fd ps (spM K mg n m) ∧ Binds K fd ps dsV ∧ Vals dvs dsV ∧ ∀ (h : Addr) (H : Hp), DenA K mg h H dvs dd
section
variable {X : Cx} {Wx : WX} {e o : Expr} {es : List Expr} {c x : Str} {p pos apos : Pos} {as : MA} {ma : ME} {k j n : Nat} {dd : List Dt} {m : List Dt → Hd → R Dt} {mi : List Dt → Hd → R (List (Str × Dt))}
theorem qe_make (M : Maker X.prog X.w X.K X.mg X.base k c n dd mi) (hr : Room j X.A) (hk : k + 1 ≤ j) (tk : Takes X Wx) (ha : QA X Wx (e :: es) as) (hg : Gl X c := by rfl)
    (hdb : (c == ("__debug__" : Str)) = false := by decide) (he : starEach (e :: es) X.env = (false, eval e X.env) :: starEach es X.env := by rfl) (hpl : (backTo pos (starEach es X.env)).any (·.1) = false := by rfl) : QE X Wx (.Call (.Name c p) (e :: es) [] pos) (mMake c n dd mi as) := by
  obtain ⟨C, f, fd, ps, dvs, dsV, hm, mk, F, hb, hd, hdd⟩ := M
  obtain ⟨t, q, s⟩ := ha
  exact ⟨_, pe_makeS mk F (hr.mono hk) hg hm hb hd (fun σ => passAt tk σ) q hdb he hpl, se_make hm hdd s⟩
theorem qe_meth {pl : Sem Bool} (M : Method X.prog X.w X.K X.mg X.base k c x n dd m) (hr : Room j X.A) (hk : k ≤ j) (tk : Takes X Wx) (ho : QE X Wx o ma) (ha : QA X Wx (e :: es) as)
    (hst : starEach (e :: es) X.env = (false, eval e X.env) :: starEach es X.env := by rfl) (hpl : (backTo pos (starEach es X.env)).any (·.1) = false := by rfl)
    (ht : eval (.Call (.Attribute o x apos) (e :: es) [] pos) X.env = (do
      let ov ← eval o X.env
      standAt apos.atName
      let (f, first) ← holding [ov] (getMethod ov x pl)
      callWith pos f first (backTo pos (starEach (e :: es) X.env)) (backToKw pos (keywordEach [] X.env))) := by rfl) : QE X Wx (.Call (.Attribute o x apos) (e :: es) [] pos) (mMeth c x n dd m ma as) := by
  obtain ⟨C, f, fd, ps, dvs, dsV, hm, cl, mt, F, hb, hd, hdd⟩ := M
  obtain ⟨to, po, so⟩ := ho
  obtain ⟨t, q, s⟩ := ha
  exact ⟨_, pe_methS (pl := pl) po cl mt F (hr.mono hk) hb hd (fun σ => passAt tk σ) q hst hpl ht, se_meth hm hdd so s⟩
theorem qe_meth0 {pl : Sem Bool} (M : Method X.prog X.w X.K X.mg X.base k c x n dd m) (hr : Room j X.A) (hk : k ≤ j) (tk : Takes X Wx) (ho : QE X Wx o ma)
    (ht : eval (.Call (.Attribute o x apos) [] [] pos) X.env = (do
      let ov ← eval o X.env
      standAt apos.atName
      let (f, first) ← holding [ov] (getMethod ov x pl)
      callWith pos f first (backTo pos (starEach [] X.env)) (backToKw pos (keywordEach [] X.env))) := by rfl) : QE X Wx (.Call (.Attribute o x apos) [] [] pos) (mMeth c x n dd m ma mNil) := by
  obtain ⟨C, f, fd, ps, dvs, dsV, hm, cl, mt, F, hb, hd, hdd⟩ := M
  obtain ⟨to, po, so⟩ := ho
  exact ⟨_, pe_methS0 (pl := pl) po cl mt F (hr.mono hk) hb hd (fun σ => passAt tk σ) ht, se_meth hm hdd so sa_nil⟩
end
/-- one of two readings -/
theorem qe_alt {X : Cx} {Wx : WX} {e : Expr} {m m1 m2 : ME} (h1 : QE X Wx e m1) (h2 : QE X Wx e m2) (hm : ∀ ρ s, m ρ s = m1 ρ s ∨ m ρ s = m2 ρ s) : QE X Wx e m := by
  obtain ⟨t1, p1, s1⟩ := h1
  obtain ⟨t2, p2, s2⟩ := h2
  refine ⟨fun σ H Q => t1 σ H Q ∨ t2 σ H Q, ⟨fun pins s σ H Q I z => z.elim (p1.run pins s σ H Q I) (p2.run pins s σ H Q I)⟩, fun h H0 H s σ ρ Q g S p => ?_⟩
  rcases hm ρ s with e | e
  · exact .inl (s1 h H0 H s σ ρ Q g S (e ▸ p))
  · exact .inr (s2 h H0 H s σ ρ Q g S (e ▸ p))

/-! ### len of an object whose class has __len__ -/
def rLenOwn (C : Addr) (sp : Sp) : List V → Hp → VK → Prop := fun xs H Q => ∃ a dx fs, xs = [.ref a] ∧ H a = some (.ins C dx fs) ∧ sp [.ref a] H (fun v H' => ∃ n : Int, v = .int n ∧ 0 ≤ n ∧ n < 2 ^ 63 ∧ Q (.int n) H') (fun _ _ _ => False)
section
variable {X : Cx} {k : Nat} {f C : Addr} {fd : FuncData} {ps : List Str} {sp : Sp}
theorem call_lenOwn (hs : PySem.W.findIn X.K (.ref C) "__len__" = some (some (.ref f))) (hf : PySem.W.isFn X.K (.ref f) = true) (F : FnOk X.prog X.w X.K X.mg X.base (L2.CX X.prog X.w) k f fd ps sp) (hr : Room (k + 1) X.A) (hb : Binds X.K fd ps []) : CallR X (.builtin "len") (rLenOwn C sp) := by
  intro pins s σ H xs us Q I r h
  obtain ⟨a, dx, fs, rfl, ha, hsp⟩ := h
  obtain ⟨u, rfl, ru⟩ := r.one
  cases (show u = Value.ref a from ru)
  obtain ⟨mA, J, _⟩ := ins_get I.hok ha
  obtain ⟨od, J, _⟩ := J.look
  obtain ⟨m, hF⟩ := I.fr
  refine PySem.W.len_K hF I.ok.mod.kin J hs hf ?_
  have rr : Vals [V.ref a] [Value.ref a] := .cons rfl .nil
  have ln := F.len _ _ _ _ hsp
  have bd : BindsTo s fd ⟨[.ref a], []⟩ (ps.zip [.ref a]) := by
    have q := hb s [.ref a] I.kIn (by simpa using ln)
    simpa using q
  refine wpAny_call (codeAny_mono (F.run X.A.in1 X.stack s H ⟨[.ref a], []⟩ [.ref a] [.ref a] _ _ hr.in1 I.env0.in1 bd rr hsp) fun res s' w => ?_)
  match res, w with
  | .error e, w => exact (cx_none w).elim
  | .ok (.ret u), w =>
    obtain ⟨v, H', I', rv, n, ev, h0, h1, q⟩ := I.after w
    subst ev
    obtain ⟨t, rfl⟩ := rv
    exact ⟨⟨h0, h1⟩, .int n, H', I'.tok _, ⟨_, rfl⟩, q⟩
  | .ok .next, w => exact w.elim
  | .ok .brk, w => exact w.elim
  | .ok .cont, w => exact w.elim
where
  cx_none {P : Program} {w : World} {l : List Env} {H : Hp} {s : Shared} {e : Value} {s' : Shared} (z : L2.CX P w l H s (fun _ _ _ => False) e s') : False := by
    obtain ⟨_, _, _, _, _, _, _, _, _, _, _, _, z⟩ := z
    exact z
end
end Mir


set_option Elab.async false
set_option linter.all false
set_option maxRecDepth 100000
/-! Defs that ask for repr: what stands around them holds no repr. -/
namespace Mir
open PySem PySem.Spec PyProof.Rows L2
open PySem.W (Frag)
/-- FnOk where no repr runs around -/
structure FnG (P : Program) (w : World) (K : Frag) (mg : Str → Option Value) (base : Heap) (k : Nat) (f : Addr) (fd : FuncData) (ps : List Str) (sp : Sp) : Prop where
  len : ∀ vs H Q E, sp vs H Q E → vs.length = ps.length
  run : ∀ (A : Around) (outer : List Env) (s : Shared) (H : Hp) (args : Args) (us : List Value) (vs : List V) (Q : VK) (E : XK), A.guards = some [] → Room k A → Env0 P w K mg base A outer s H → BindsTo s fd args (ps.zip us) → Vals vs us → sp vs H Q E →
    codeAny (model P w) A (.call (.ref f) args) (CR (L2.CX P w) outer P w H s Q E) s
section
variable {P : Program} {w : World} {K : Frag} {mg : Str → Option Value} {base : Heap} {x qual : Str} {st : Stmt} {f : Addr} {fd : FuncData} {N ps : List Str} {k : Nat} {ms : MS} {sp : Sp}
theorem FnG.of (F : Fun K x qual st f fd) (S : FnScope N ps (defScope st)) (len : ∀ vs H Q E, sp vs H Q E → vs.length = ps.length)
    (hb : ∀ (cdv : Value) (A : Around) (outer : List Env) (s : Shared) (H : Hp) (vs : List V) (Q : VK) (E : XK), A.guards = some [] → Room k (A.deeper (envOfC qual (defScope st) s.heap.objs.size f cdv)) → sp vs H Q E →
      ∃ t, PSs (cxD P w K mg base N qual (defScope st) f cdv A outer s H E) (defBody st) t ∧ t { nx := fun _ H' => Q .non H', rt := Q } (L2.start N vs) H) : FnG P w K mg base (k + 1) f fd ps sp := by
  obtain ⟨oc, od, kV, doc, pm, an, cdv, ct, osl, rfl, lk, hcd⟩ := F.ex
  constructor
  · exact len
  intro A outer s H args us vs Q E gd hr e0 hbi r hsp
  have ln := len _ _ _ _ hsp
  have kin : K.In s.heap := e0.mod.kin.keeps fun b o e => (e0.bs b o e).1
  have nol : s.heap.NoLimit := e0.mod.nolimit.keeps fun b o e => (e0.bs b o e).1
  have kinds : ∀ y ∈ ps.zip us, (defScope st).names.lookup y.1 = some .local ∨ ((defScope st).names.lookup y.1 = some .cell ∧ ((cellsFrom (s.heap.objs.size + 1) (defScope st).names []).lookup y.1).isSome = true) := by
    rintro ⟨n, v⟩ hy
    exact (S.par n (List.of_mem_zip hy).1).imp id fun q => ⟨q, PySem.W.cellsFrom_some _ _ _ (.inl q)⟩
  refine codeAny_call_function hr.depth (kin _ _ lk) rfl S.co S.gen rfl (PySem.W.codeRec_of kin hcd) (hbi _ _ _ _ (wpAny_newFunctionEnv_cells S.kind kinds fun env he s1 y => ?_))
  subst he
  refine ⟨nol.keeps y.toInCall.keep, codeAny_func ?_⟩
  obtain ⟨t, ht, hq⟩ := hb cdv A outer s H vs Q E gd (hr.deeper _) hsp
  have I := inv_start (CX := L2.CX P w) (E := E) S hr.hd e0 ln r y
  refine wpAny_mono (ht.run [] s1 (L2.start N vs) H _ I hq) (fun fl s' z => ?_) fun e s' z => z
  match fl, z with
  | .ret u, ⟨v, σ', H', J, rv, q⟩ => exact ⟨v, H', J.os, J.bare, J.base, J.hok, rv, q⟩
  | .next, ⟨σ', H', J, q⟩ => exact ⟨V.non, H', J.os, J.bare, J.base, J.hok, rfl, q⟩
  | .brk, ⟨_, _, _, q⟩ => exact q.elim
  | .cont, ⟨_, _, _, q⟩ => exact q.elim
/-- a def follows its function, no repr around -/
theorem okG {n nn : Nat} (F : Fun K x qual st f fd) (S : FnScope N ps (defScope st)) (hn : ps.length = n) (hN : N.length = nn)
    (hb : ∀ (cdv : Value) (A : Around) (outer : List Env) (s : Shared) (H : Hp) (E : XK), A.guards = some [] → Room k (A.deeper (envOfC qual (defScope st) s.heap.objs.size f cdv)) → QSs (cxD P w K mg base N qual (defScope st) f cdv A outer s H E) (wE E) (defBody st) ms) :
    FnG P w K mg base (k + 1) f fd ps (spM K mg n (mDef nn ms)) := by
  subst hn
  subst hN
  refine FnG.of F S (fun vs H Q E h => h.1) (fun cdv A outer s H vs Q E gd hr h => ?_)
  obtain ⟨hl, hh, H0, s', ds, g, da, p⟩ := h
  obtain ⟨ts, q, ss⟩ := hb cdv A outer s H E gd hr
  exact ⟨ts, q, ss ⟨hh, H0, H, hh⟩ H0 H s' _ _ _ g (slots_start (.refl _ _) da) (postS_of (h := ⟨hh, H0, H, hh⟩) p)⟩
end
/-! ### the law -/
section
variable {P : Program} {w : World} {K : Frag} {mg mb : Str → Option Value} {k : Nat} {fa a : Addr} {fd : FuncData} {x : Str} {sp : Sp} {s₁ : Shared} {vs : List Value} {ns : List Int}
theorem law_callG (KX : K.In s₁.heap) (hns : s₁.heap.Ns mainGlobals mg) (hb : s₁.heap.Ns builtinsNs mb) (hbb : ∀ x : Str, x ≠ "__name__" → mb x = bootBuiltins x) (hlim : s₁.heap.NoLimit) (hg : s₁.gens = #[])
    (ha : s₁.heap.get? a = some { cls := .type "list", data := .seq vs.toArray }) (hi : IntsAre vs ns) (hl : ns.length ≤ sizeLine) (hr : Room k callerA)
    (F : ∀ base : Heap, K.In base → base.Ns mainGlobals mg → FnG P w K mg base k fa fd [x] sp) (hbind : ∀ (s : Shared) (u : Value), BindsTo s fd ⟨[u], []⟩ [(x, u)])
    (hsp : ∀ H : Hp, Only H → SqL K H a (ns.map V.int) → sp [.ref a] H (fun v _ => v = .bl true) fun _ _ _ => False) :
    codeAny (model P w) callerA (.call (.ref fa) ⟨[.ref a], []⟩) (fun r s' => r = .ok (.ret (.bool true)) ∧ OldK s₁.heap s'.heap ∧ s'.os = s₁.os ∧ AllBare s'.gens) s₁ := by
  have rv := vals_ints hi
  have lv := hi.length
  have main : ∀ H : Hp, Only H → SqL K H a (ns.map V.int) → HOk P w H s₁.heap → (∀ b, H b ≠ none → b = a) → (H a ≠ none → K.lookup a = none) →
      codeAny (model P w) callerA (.call (.ref fa) ⟨[.ref a], []⟩) (fun r s' => r = .ok (.ret (.bool true)) ∧ OldK s₁.heap s'.heap ∧ s'.os = s₁.os ∧ AllBare s'.gens) s₁ := by
    intro H only hS hok at_a no_a
    have low : ∀ {b : Addr} {o : Obj}, s₁.heap.get? b = some o → H b = none → (hidT s₁.heap H).get? b = some o := fun e n => hidT_get e n
    have dict : ∀ {b : Addr} {o : Obj} {es : Array DictEntry} {ep : Nat}, s₁.heap.get? b = some o → o.data = .dict es ep → H b = none := by
      intro b o es ep e d
      by_cases q : H b = none
      · exact q
      · have eb := at_a b q
        subst eb
        rw [ha] at e
        cases e
        cases (show Data.seq vs.toArray _ = Data.dict es ep from d)
    have names : ∀ {b : Addr} {m : Str → Option Value}, s₁.heap.Ns b m → (hidT s₁.heap H).Ns b m := by
      rintro b m ⟨o, es, ep, e, d, r⟩
      exact ⟨o, es, ep, low e (dict e d), d, r⟩
    have kin : K.In (hidT s₁.heap H) := by
      intro b o e
      refine low (KX b o e) ?_
      by_cases q : H b = none
      · exact q
      · have eb := at_a b q
        subst eb
        rw [no_a q] at e
        cases e
    have md : Mod K mg (hidT s₁.heap H) := by
      refine ⟨kin, names hns, ⟨mb, names hb, hbb⟩, ?_⟩
      obtain ⟨mc, h1, h2⟩ := hlim
      exact ⟨mc, names h1, h2⟩
    have e0 : Env0 P w K mg (hidT s₁.heap H) callerA [] s₁ H :=
      { frames := rfl, mod := md, bs := fun b o e => of_hidT e, bsz := Nat.le_of_eq (hidT_size _ _), funs := True.intro, frf := fun b hb => absurd (show b ∈ ([] : List Addr) from hb) (by simp), hok := hok, bare := .of_eq hg }
    have run := (F _ kin (names hns)).run callerA [] s₁ H ⟨[.ref a], []⟩ [.ref a] [.ref a] _ _ rfl hr e0 (hbind s₁ (.ref a)) (.cons rfl .nil) (hsp H only hS)
    refine codeAny_mono run fun r s' z => ?_
    match r, z with
    | .error e, z => exact (cx_false z).elim
    | .ok .next, z => exact z.elim
    | .ok .brk, z => exact z.elim
    | .ok .cont, z => exact z.elim
    | .ok (.ret u), z =>
      obtain ⟨v, H', os, bare, un, hok', r', q⟩ := z
      cases (show v = .bl true from q)
      cases (show u = Value.bool true from r')
      refine ⟨rfl, OldK.of_keep fun b o e => ?_, os, bare⟩
      rcases only b with q | ⟨ob, xs, q⟩
      · exact un.keep b o e q (fun y => absurd (show b ∈ ([] : List Addr) from y) (by simp)) (by simp)
      · have q2 := un.frzs b ob _ q
        obtain ⟨e1, _⟩ := hok b _ q
        obtain ⟨e2, _⟩ := hok' b _ q2
        rw [e] at e1
        cases e1
        exact e2
  by_cases hk : ∃ o, K.lookup a = some o
  · obtain ⟨o, hk⟩ := hk
    have e := KX a o hk
    rw [ha] at e
    cases e
    exact main (fun _ => none) (fun _ => .inl rfl) (.inr ⟨_, vs.toArray, _, hk, rfl, rfl, rfl, by rw [List.size_toArray, lv]; exact hl, by simpa using rv⟩) (fun b u z => by cases (show (none : Option HO) = some u from z)) (fun b z => absurd rfl z) fun z => absurd rfl z
  · have hk : K.lookup a = none := by
      cases q : K.lookup a with
      | none => rfl
      | some o => exact absurd ⟨o, q⟩ hk
    refine main (fun b => if b = a then some (.frz { cls := .type "list", data := .seq vs.toArray } (.lst (ns.map V.int))) else none) (fun b => ?_) (.inl (.inr ⟨{ cls := .type "list", data := .seq vs.toArray }, if_pos rfl⟩)) (fun b u z => ?_) (fun b z => ?_) fun _ => hk
    · by_cases eb : b = a
      · exact .inr ⟨_, _, if_pos eb⟩
      · exact .inl (if_neg eb)
    · by_cases eb : b = a
      · have z2 := (if_pos eb).symm.trans z
        cases z2
        subst eb
        exact ⟨ha, by rw [List.length_map]; exact hl, vs, _, rv, ha⟩
      · have z2 := (if_neg eb).symm.trans z
        cases z2
    · by_cases eb : b = a
      · exact eb
      · exact absurd (if_neg eb) z
end
/-- the head's goal, from the law's promise where no repr runs around -/
theorem walk_ofG {l : PySem.W.OpenLaw} {n k : Nat} {q : Program} {loose : List Str} {XP : (Str → Option Value) → Heap → Prop} {YP : World → Heap → Prop} {d : DefRec} {K : Params → Frag} {sp : World → Sp} {x : Str}
    (hn : l.most = some n) (hn2 : n ≤ sizeLine) (hdf : d.params.defaults = []) (hr : Room k callerA) (hY : ∀ (w : World) (h : Heap), YP w h → (K w.params).In h)
    (F : ∀ (w : World) (mg : Str → Option Value) (fa : Addr) (h : Heap), (K w.params).In h → h.Ns mainGlobals mg → mg d.name = some (.ref fa) → ∃ fd : FuncData, (∀ (s : Shared) (u : Value), BindsTo s fd ⟨[u], []⟩ [(x, u)]) ∧
        ∀ base : Heap, (K w.params).In base → base.Ns mainGlobals mg → FnG l.prog w (K w.params) mg base k fa fd [x] (sp w))
    (hsp : ∀ (w : World) (H : Hp) (a : Addr) (ns : List Int), ns.length ≤ n → Only H → SqL (K w.params) H a (ns.map V.int) → sp w [.ref a] H (fun v _ => v = .bl true) fun _ _ _ => False) :
    PySem.W.WalkO q loose XP YP l.row.toRowW d [] (fun f vs => PySem.call f vs) := by
  refine Att.attach_call hn hdf fun w s₀ s₁ mg mb fa o pm cd doc a vs ns G Y ho hd hcd hmg hobj hi hle hgn => ?_
  obtain ⟨fd, hbi, hF⟩ := F w mg fa _ (hY w _ Y) G.T.g hmg
  exact law_callG (hY w _ Y) G.T.g G.T.b G.T.builtins G.T.nolimit hgn hobj hi (Nat.le_trans hle hn2) hr hF hbi (fun H only hS => hsp w H a ns hle only hS)
/-! ### repr -/
def fRepr : List Dt → Option Dt
  | [.lst ds] => (toPyA ds).bind fun ps => if (PyData.list ps).showable = true ∧ (PyData.list ps).hasDict = false ∧ (PyData.list ps).depth ≤ 60 ∧ (PyData.list ps).shown.length ≤ sizeLine then some (.str (PyData.list ps).shown) else none
  | _ => none
def rReprL (K : Frag) : List V → Hp → VK → Prop := fun xs H Q => ∃ (a : Addr) (p : PyData), xs = [.ref a] ∧ Dp K H (.ref a) p ∧ p.showable = true ∧ p.hasDict = false ∧ p.depth ≤ 60 ∧ p.shown.length ≤ sizeLine ∧ Q (.str p.shown) H
theorem cr_repr {X : Cx} (hg : X.A.guards = some []) (hu : X.A.units + 65 < cLine) : CallR X (.builtin "repr") (rReprL X.K) := by
  intro pins s σ H xs us Q I r h
  obtain ⟨a, p, rfl, dp, h1, h2, h3, h4, q⟩ := h
  obtain ⟨u, rfl, ru⟩ := r.one
  cases (show u = Value.ref a from ru)
  obtain ⟨as, rd⟩ := Dp.reads I p _ _ dp rfl
  exact repr_of_reads' rd h1 (PyData.noDict_hsm h2) hg (by omega) (fun _ _ e => e) (fun h' t tk hk => ⟨.str p.shown, H, I.kept hk, ⟨_, rfl⟩, q⟩) h4
theorem cs_repr {K : Frag} {mg : Str → Option Value} : CaS K mg (rReprL K) fRepr := by
  intro h H0 H s xs ds z Q g0 hx hz q
  unfold fRepr at hz
  split at hz
  · rename_i es
    cases hp : toPyA es with
    | none =>
      rw [hp] at hz
      cases hz
    | some ps =>
      rw [hp] at hz
      have hz : (if (PyData.list ps).showable = true ∧ (PyData.list ps).hasDict = false ∧ (PyData.list ps).depth ≤ 60 ∧ (PyData.list ps).shown.length ≤ sizeLine then some (Dt.str (PyData.list ps).shown) else none) = some z := hz
      split at hz
      · rename_i c
        cases hz
        cases hx with
        | cons a r =>
          cases r
          cases a with
          | lst qa ra => exact ⟨_, .list ps, rfl, .lst (SqL.of (g0.ex _ _ qa)) (DenA.dp (ra.mono g0.ex) hp), c.1, c.2.1, c.2.2.1, c.2.2.2, q _ H0 H (.refl _ _) g0 (.str _)⟩
      · cases hz
  · cases hz
end Mir


set_option Elab.async false
set_option linter.all false
set_option maxRecDepth 100000
/-! try with any clauses, each with a name or without; errors without fields. -/
namespace Mir
open PySem PySem.Spec PyProof.Rows L2
open PySem.W (Frag)
abbrev Cl := Value × Option Nat × (Addr → Value → Option Addr → TS)
def clEnds : Option Nat → Ends → Ends
  | none, D => D
  | some i, D => { nx := fun σ H => D.nx (σ.set i none) H, rt := D.rt, bk := fun σ H => D.bk (σ.set i none) H, ct := fun σ H => D.ct (σ.set i none) H }
def clStart : Option Nat → Addr → L2.St → L2.St
  | none, _, σ => σ
  | some i, a, σ => σ.set i (some (.ref a))
/-- what the clauses wish of a raised error, from the first on -/
def wCl (K : Frag) (Wout : WX) (D : Ends) : List Cl → WX
  | [] => Wout
  | (c, oi, ts) :: r => fun cls d σ H => ∃ b, PySem.W.exmOne K cls c = some b ∧ (b = true → ∀ a, H a = none → ts a cls d (clEnds oi D) (clStart oi a σ) H) ∧ (b = false → wCl K Wout D r cls d σ H)
def SuiteOk (X : Cx) (b₀ : Stmt) (rest : List Stmt) (ts : Addr → Value → Option Addr → TS) : Prop :=
  ∀ (a : Addr) (oe : Obj) (cls : Value) (d : Option Addr) (pn : List (Addr × Obj)), Zc cls d oe → (∃ vs, oe.data = .fields vs) → PSs (X.suite a ((a, oe) :: pn)) (b₀ :: rest) (ts a cls d)
inductive ClsOk (X : Cx) : List ExceptHandler → List Cl → Prop
  | nil : ClsOk X [] []
  | bare {x : Str} {c : Value} {ts : Addr → Value → Option Addr → TS} {b₀ : Stmt} {rest : List Stmt} {np p : Pos} {hs : List ExceptHandler} {l : List Cl} (hc : Names X x c) (hsu : SuiteOk X b₀ rest ts) (r : ClsOk X hs l) :
      ClsOk X (.ExceptHandler (some (.Name x np)) none (b₀ :: rest) p :: hs) ((c, none, ts) :: l)
  | name {x n : Str} {i : Nat} {c : Value} {ts : Addr → Value → Option Addr → TS} {b₀ : Stmt} {rest : List Stmt} {np p : Pos} {hs : List ExceptHandler} {l : List Cl} (hi : X.N[i]? = some n) (hln : X.env.kindOf n = some .local) (hc : Names X x c) (hsu : SuiteOk X b₀ rest ts) (r : ClsOk X hs l) :
      ClsOk X (.ExceptHandler (some (.Name x np)) (some n) (b₀ :: rest) p :: hs) ((c, some i, ts) :: l)
section
variable {X : Cx} {body : List Stmt} {h₁ : ExceptHandler} {hs : List ExceptHandler} {l : List Cl} {pos : Pos} {tb : WX → TS} {Wout : WX}
theorem ps_try_cl (hst : X.stack = X.env :: X.outer) (hfr : X.env.frame = some X.env.locals) (hN : X.N.Nodup) (tk : Takes X Wout)
    (hb : ∀ (W : WX) (pn : List (Addr × Obj)) (xe : Value → Shared → Prop), Takes (X.tr pn xe) W → PassesOwn (model X.prog X.w) X.A X.env xe → PSs (X.tr pn xe) body (tb W))
    (hh : ClsOk X (h₁ :: hs) l) : PS X (.Try body (h₁ :: hs) [] [] pos) (fun D σ H => tb (wCl X.K Wout D l) D σ H) := by
  refine ⟨fun pins s σ H D I hw => wpAny_Try_except ?_⟩
  have ok := I.ok
  have fr : X.A.frames = some (X.env :: X.outer) := ok.frames.trans (by rw [hst])
  have run := (hb (wCl X.K Wout D l) (X.pn ++ pins) (fun e t1 => wpAny (model X.prog X.w) X.A (noteFrame e X.env) (fun _ t2 => wpAny (model X.prog X.w) X.A (setFlight e none) (fun _ t3 =>
      wpAny (model X.prog X.w) X.A (handleBy e X.env (h₁ :: hs)) (SP X pins D) X.xe t3) X.xe t2) X.xe t1) (fun u sx xx => ?_) PassesOwn.looking).run [] s σ H D (I.toTry _) hw
  · refine wpAny_mono run (fun f t1 z => ?_) fun e t1 z => z
    match f, z with
    | .next, ⟨σ1, H1, J1, q⟩ => exact wpAny_execs_nil ⟨σ1, H1, J1.ofTry ok, q⟩
    | .brk, ⟨σ1, H1, J1, q⟩ => exact ⟨σ1, H1, J1.ofTry ok, q⟩
    | .cont, ⟨σ1, H1, J1, q⟩ => exact ⟨σ1, H1, J1.ofTry ok, q⟩
    | .ret u, ⟨v, σ1, H1, J1, r, q⟩ => exact ⟨v, σ1, H1, J1.ofTry ok, r, q⟩
  · obtain ⟨a, B, sI, pins1, σ1, H1, cls, d, rfl, J1, nb, up, sky, na, os, ag, w⟩ := xx
    have J := J1.ofTry ok
    have sky1 : Sky B (X.env :: X.outer) a (Zc cls d) X.env.locals sx.heap := by rw [← hst]; exact sky
    show wpAny (model X.prog X.w) X.A (noteFrame (.ref a) X.env) _ _ _
    refine Sky.land Zc.steady fr hfr sky1 fun g3 land3 up3 => ?_
    have K3 : Inv X pins σ1 H1 { sx with heap := g3 } := J.landed nb land3.1 (up.trans up3) os ag
    obtain ⟨ob3, vs3, at3, z3, dat3⟩ := land3.there
    have off : ∀ {g : Heap} {o : Obj} {vs : Array Value}, g.FunFrames B (X.env :: X.outer) → g.get? a = some o → o.data = .fields vs → a ∉ frs (X.env :: X.outer) := by
      intro g o vs ff e dd hm
      obtain ⟨_, o2, e2, n2⟩ := ff.mem hm
      have eo := e.symm.trans e2
      cases eo
      exact n2 _ dd
    have away := off land3.2.2.1 at3 dat3
    have nL : a ≠ X.env.locals := fun z => away (List.mem_filterMap.mpr ⟨X.env, List.mem_cons_self, by rw [hfr, z]⟩)
    have nF : a ∉ X.fs := by
      intro hm
      obtain ⟨e, he, q⟩ := List.mem_filterMap.mp hm
      exact away (List.mem_filterMap.mpr ⟨e, List.mem_cons_of_mem _ he, q⟩)
    have S3 := K3.suite at3 dat3 na nL nF
    have looks : PySem.W.Looks (model X.prog X.w) g3 (typeOf (.ref a)) cls := fun A Q E t k q => wpAny_typeOf_ref (k _ _ at3) (by rw [z3.1]; exact q)
    have test : ∀ {x : Str} {c : Value} {np : Pos} (hc : Names X x c) {Q : Value → Shared → Prop} {E : Value → Shared → Prop}, Q c { sx with heap := g3 } → wpAny (model X.prog X.w) (X.A.mark (some (.ref a))) (eval (.Name x np) X.env) Q E { sx with heap := g3 } := by
      intro x c np hc Q E q
      obtain ⟨hg, hdb, hm⟩ := hc
      rcases hm with hm | ⟨hm, hv, hn⟩
      · exact ld_glob (X := X.suite a ((a, ob3) :: (X.pn ++ pins))) S3 hg hm q hdb
      · exact ld_blt (X := X.suite a ((a, ob3) :: (X.pn ++ pins))) S3 hg hm hv q hn hdb
    have go : ∀ {hs2 : List ExceptHandler} {l2 : List Cl}, ClsOk X hs2 l2 → wCl X.K Wout D l2 cls d σ1 H1 → wpAny (model X.prog X.w) X.A (handleBy (.ref a) X.env hs2) (SP X pins D) X.xe { sx with heap := g3 } := by
      intro hs2 l2 hk
      induction hk with
      | nil =>
        intro w
        obtain ⟨k1, k2, k3, oe, vs, T, oT, ts', he, hz, hd, h1, hr⟩ := id land3
        refine wpAny_handleBy_nil ?_
        unfold PySem.passOn
        refine wpAny_bind (wpAny_field he hd h1 ?_)
        rw [if_neg (show ¬ ((Value.ref T == Value.none) = true) from by simp)]
        have out : wpAny (model X.prog X.w) X.A (setFlight (.ref a) X.env.frame) (fun _ t4 => wpAny (model X.prog X.w) X.A (throw (.ref a) : Sem Flow) (SP X pins D) X.xe t4) X.xe { sx with heap := g3 } := by
          rw [hfr]
          refine HandSPX.setFlight_upZ land3 fun g4 hg4 up4 => wpAny_throw (tk _ _ ⟨a, B, sI, pins, σ1, H1, cls, d, rfl, J, nb, (up.trans up3).trans up4, .inr (.inr ?_), na, os, ag, w⟩)
          rw [hst]
          exact hg4
        first | exact wpAny_bind (wpAny_pure (wpAny_bind out)) | exact wpAny_bind out
      | @bare x c ts b₀ rest np p hs3 l3 hc hsu r ih =>
        rintro ⟨b, hb1, yes, no⟩
        have LM := PySem.W.exm_one (M := model X.prog X.w) (K3.kIn) looks hb1
        refine wpAny_handleBy_cons (codeAny_handlers_test (test hc (LM.here ?_))) (by intro q; cases q)
        cases b with
        | false => exact ih (no rfl)
        | true =>
          refine codeAny_handlers_suite (HandSPX.lands_againZ land3 fun g4 land4 up4 => ?_)
          have K4 : Inv X pins σ1 H1 { sx with heap := g4 } := J.landed nb land4.1 ((up.trans up3).trans up4) os ag
          obtain ⟨ob4, vs4, at4, z4, dat4⟩ := land4.there
          refine wpAny_mono ((hsu a ob4 cls d (X.pn ++ pins) z4 ⟨_, dat4⟩).run [] _ _ H1 _ (K4.suite at4 dat4 na nL nF) (yes rfl a na)) (fun f t6 z => ?_) (fun _ _ z => z.elim)
          match f, z with
          | .next, ⟨_, _, S6, q6⟩ => exact ⟨_, _, S6.unsuite ok, q6⟩
          | .brk, ⟨_, _, S6, q6⟩ => exact ⟨_, _, S6.unsuite ok, q6⟩
          | .cont, ⟨_, _, S6, q6⟩ => exact ⟨_, _, S6.unsuite ok, q6⟩
          | .ret u, ⟨_, _, _, S6, r6, q6⟩ => exact ⟨_, _, _, S6.unsuite ok, r6, q6⟩
      | @name x n i c ts b₀ rest np p hs3 l3 hi hln hc hsu r ih =>
        rintro ⟨b, hb1, yes, no⟩
        have LM := PySem.W.exm_one (M := model X.prog X.w) (K3.kIn) looks hb1
        refine wpAny_handleBy_cons (codeAny_handlers_test (test hc (LM.here ?_))) (by intro q; cases q)
        cases b with
        | false => exact ih (no rfl)
        | true =>
          refine codeAny_handlers_suite_as (HandSPX.lands_againZ land3 fun g4 land4 up4 => ?_)
          have K4 : Inv X pins σ1 H1 { sx with heap := g4 } := J.landed nb land4.1 ((up.trans up3).trans up4) os ag
          obtain ⟨ob4, vs4, at4, z4, dat4⟩ := land4.there
          have S4 := K4.suite at4 dat4 na nL nF
          refine store_ok (X := X.suite a ((a, ob4) :: (X.pn ++ pins))) (v := .ref a) S4 hN hi (.inl hln) rfl (fun t5 S5 => ?_) (.inr hln)
          refine wpAny_mono ((hsu a ob4 cls d (X.pn ++ pins) z4 ⟨_, dat4⟩).run [] t5 _ H1 _ S5 (yes rfl a na)) (fun f t6 z => ?_) (fun _ _ z => z.elim)
          match f, z with
          | .next, ⟨_, _, S6, q6⟩ => exact gone_ok (S6.unsuite ok) hN hi hln fun t7 J7 => ⟨_, _, J7, q6⟩
          | .brk, ⟨_, _, S6, q6⟩ => exact gone_ok (S6.unsuite ok) hN hi hln fun t7 J7 => ⟨_, _, J7, q6⟩
          | .cont, ⟨_, _, S6, q6⟩ => exact gone_ok (S6.unsuite ok) hN hi hln fun t7 J7 => ⟨_, _, J7, q6⟩
          | .ret u, ⟨_, _, _, S6, r6, q6⟩ => exact gone_ok (S6.unsuite ok) hN hi hln fun t7 J7 => ⟨_, _, _, J7, r6, q6⟩
    exact go hh w
end
/-! ### the clauses by functions -/
/-- a clause: its class, its name's slot, its suite -/
abbrev MC := Str × Option Nat × MX
def clIn : Option Nat → Env' → Env'
  | none, ρ => ρ
  | some i, ρ => ρ.set i .no
def clOut : Option Nat → R Fl → R Fl
  | none, .err _ _ _ _ => .bad
  | none, r => r
  | some i, .ok (.nx ρ) s => .ok (.nx (ρ.set i .no)) s
  | some _, .ok (.rt d) s => .ok (.rt d) s
  | some i, .ok (.bk ρ) s => .ok (.bk (ρ.set i .no)) s
  | some i, .ok (.ct ρ) s => .ok (.ct (ρ.set i .no)) s
  | some _, _ => .bad
def clLt : Option Nat → Nat → Bool
  | none, _ => true
  | some i, n => decide (i < n)
/-- the first clause of the error's own class -/
def runCl (c : Str) (fs : List (Str × Dt)) (ρ : Env') (s : Hd) : List MC → R Fl
  | [] => .err c fs ρ s
  | (c', oi, m) :: r => if c' = c then (if clLt oi ρ.length = true then clOut oi (m fs (clIn oi ρ) s) else .bad) else runCl c fs ρ s r
def mTryCl (body : MS) (cls : List MC) : MS := fun ρ s => match body ρ s with
  | .err c fs ρ' s' => runCl c fs ρ' s' cls
  | r => r
/-- a suite, its name at slot i (or none), as text and as function -/
structure QXo (X : Cx) (oi : Option Nat) (C : Addr) (b₀ : Stmt) (rest : List Stmt) (ts : Addr → Value → Option Addr → TS) (m : MX) : Prop where
  text : SuiteOk X b₀ rest ts
  read : ∀ (a : Addr) (dd : Option Addr), match oi with
    | some i => XS' X.K X.mg i a dd (ts a (.ref C) dd) m
    | none => ∀ fs, SS X.K X.mg WF (ts a (.ref C) dd) (m fs)
/-- the classes' order: which error is caught by which clause -/
def Catch (K : Frag) (mg : Str → Option Value) (c c' : Str) : Prop := ∀ C C', mg c = some (.ref C) → mg c' = some (.ref C') → PySem.W.exmOne K (.ref C) (.ref C') = some (decide (c' = c))
inductive QCl (X : Cx) (all : List Str) : List ExceptHandler → List Cl → List MC → Prop
  | nil : QCl X all [] [] []
  | bare {c : Str} {C : Addr} {ts : Addr → Value → Option Addr → TS} {b₀ : Stmt} {rest : List Stmt} {np p : Pos} {hs : List ExceptHandler} {l : List Cl} {m : MX} {ml : List MC} (hm : X.mg c = some (.ref C)) (hg : Gl X c) (hdb : (c == ("__debug__" : Str)) = false) (hx : QXo X none C b₀ rest ts m)
      (hk : ∀ c' ∈ all, Catch X.K X.mg c' c) (r : QCl X all hs l ml) : QCl X all (.ExceptHandler (some (.Name c np)) none (b₀ :: rest) p :: hs) ((.ref C, none, ts) :: l) ((c, none, m) :: ml)
  | name {c n : Str} {i : Nat} {C : Addr} {ts : Addr → Value → Option Addr → TS} {b₀ : Stmt} {rest : List Stmt} {np p : Pos} {hs : List ExceptHandler} {l : List Cl} {m : MX} {ml : List MC} (hi : X.N[i]? = some n) (hln : X.env.kindOf n = some .local) (hm : X.mg c = some (.ref C)) (hg : Gl X c) (hdb : (c == ("__debug__" : Str)) = false)
      (hx : QXo X (some i) C b₀ rest ts m) (hk : ∀ c' ∈ all, Catch X.K X.mg c' c) (r : QCl X all hs l ml) : QCl X all (.ExceptHandler (some (.Name c np)) (some n) (b₀ :: rest) p :: hs) ((.ref C, some i, ts) :: l) ((c, some i, m) :: ml)
/-- errors of the classes all alone may come -/
def onlyOf (all : List Str) : R Fl → R Fl
  | .err c fs ρ s => if c ∈ all then .err c fs ρ s else .bad
  | r => r
def mTryQ (all : List Str) (body : MS) (cls : List MC) : MS := mTryCl (fun ρ s => onlyOf all (body ρ s)) cls
section
variable {X : Cx} {Wx : WX} {all : List Str}
theorem QCl.ok {hs : List ExceptHandler} {l : List Cl} {ml : List MC} (q : QCl X all hs l ml) : ClsOk X hs l := by
  induction q with
  | nil => exact .nil
  | bare hm hg hdb hx hk r ih => exact .bare ⟨hg, hdb, .inl hm⟩ hx.text ih
  | name hi hln hm hg hdb hx hk r ih => exact .name hi hln ⟨hg, hdb, .inl hm⟩ hx.text ih
theorem QCl.run {hs : List ExceptHandler} {l : List Cl} {ml : List MC} (q : QCl X all hs l ml) {h : Ent} {A B : Hp} {D : Ends} {c : Str} {C : Addr} {fs : List (Str × Dt)} {s : Hd} {σ : L2.St} {ρ : Env'} {od : Option Addr} (ca : c ∈ all) (mc : X.mg c = some (.ref C)) (g : G h.a A B s) (S : Slots X.K X.mg h A B σ ρ) (x : XdOk X.K X.mg h.a A B od fs)
    (p : PostS X.K X.mg h (runCl c fs ρ s ml) A B Wx D) : wCl X.K Wx D l (.ref C) od σ B := by
  induction q with
  | nil => exact p σ C od A B (Same.refl _) g S mc x
  | @bare c' C' ts b₀ rest np pp hs l m ml hm hg hdb hx hk r ih =>
    refine ⟨_, hk c ca C C' mc hm, fun e a na => ?_, fun e => ih ?_⟩
    · have e : c' = c := by simpa using e
      subst e
      obtain rfl : C' = C := by
        rw [hm] at mc
        cases mc
        rfl
      have p : PostS X.K X.mg h (if c' = c' then (if clLt none ρ.length = true then clOut none (m fs (clIn none ρ) s) else .bad) else runCl c' fs ρ s ml) A B Wx D := p
      rw [if_pos rfl, if_pos (show clLt none ρ.length = true from rfl)] at p
      refine (hx.read a od) fs h A B s σ ρ D g S ?_
      cases em : m fs ρ s with
      | ok f s2 =>
        rw [show clIn none ρ = ρ from rfl, em] at p
        cases f <;> exact p
      | err c2 fs2 ρ2 s2 =>
        rw [show clIn none ρ = ρ from rfl, em] at p
        exact p.elim
      | bad =>
        rw [show clIn none ρ = ρ from rfl, em] at p
        exact p.elim
    · have e : ¬ c' = c := by simpa using e
      have p : PostS X.K X.mg h (if c' = c then _ else runCl c fs ρ s ml) A B Wx D := p
      rw [if_neg e] at p
      exact p
  | @name c' n i C' ts b₀ rest np pp hs l m ml hi hln hm hg hdb hx hk r ih =>
    refine ⟨_, hk c ca C C' mc hm, fun e a na => ?_, fun e => ih ?_⟩
    · have e : c' = c := by simpa using e
      subst e
      obtain rfl : C' = C := by
        rw [hm] at mc
        cases mc
        rfl
      have p : PostS X.K X.mg h (if c' = c' then (if clLt (some i) ρ.length = true then clOut (some i) (m fs (clIn (some i) ρ) s) else .bad) else runCl c' fs ρ s ml) A B Wx D := p
      rw [if_pos rfl] at p
      by_cases hl : i < ρ.length
      · rw [if_pos (show clLt (some i) ρ.length = true from decide_eq_true hl)] at p
        refine (hx.read a od) h A B s (σ.set i (some (.ref a))) (ρ.set i .no) _ fs g (S.forget _) (List.getElem?_set_self (by rw [S.len]; exact hl)) x ?_
        cases em : m fs (ρ.set i .no) s with
        | ok f s2 =>
          rw [show clIn (some i) ρ = ρ.set i .no from rfl, em] at p
          cases f with
          | nx ρ2 => exact fun σ2 A2 B2 st2 g2 S2 => p (σ2.set i none) A2 B2 st2 g2 (S2.forget none)
          | rt d => exact p
          | bk ρ2 => exact fun σ2 A2 B2 st2 g2 S2 => p (σ2.set i none) A2 B2 st2 g2 (S2.forget none)
          | ct ρ2 => exact fun σ2 A2 B2 st2 g2 S2 => p (σ2.set i none) A2 B2 st2 g2 (S2.forget none)
        | err c2 fs2 ρ2 s2 =>
          rw [show clIn (some i) ρ = ρ.set i .no from rfl, em] at p
          exact p.elim
        | bad =>
          rw [show clIn (some i) ρ = ρ.set i .no from rfl, em] at p
          exact p.elim
      · rw [if_neg (show ¬ clLt (some i) ρ.length = true from by simpa [clLt] using hl)] at p
        exact p.elim
    · have e : ¬ c' = c := by simpa using e
      have p : PostS X.K X.mg h (if c' = c then _ else runCl c fs ρ s ml) A B Wx D := p
      rw [if_neg e] at p
      exact p
theorem qs_tryCl {body : List Stmt} {h₁ : ExceptHandler} {hs : List ExceptHandler} {l : List Cl} {ml : List MC} {pos : Pos} {mb : MS} (hst : X.stack = X.env :: X.outer) (hfr : X.env.frame = some X.env.locals) (hN : X.N.Nodup) (tk : Takes X Wx)
    (hb : ∀ (W : WX) (pn : List (Addr × Obj)) (xe : Value → Shared → Prop), Takes (X.tr pn xe) W → PassesOwn (model X.prog X.w) X.A X.env xe → QSs (X.tr pn xe) W body mb) (q : QCl X all (h₁ :: hs) l ml) : QS X Wx (.Try body (h₁ :: hs) [] [] pos) (mTryQ all mb ml) := by
  refine ⟨_, ps_try_cl (tb := fun W => cS X.K X.mg W mb) hst hfr hN tk (fun W pn xe t p => (hb W pn xe t p).can) q.ok, fun h H0 H s σ ρ D g S p => ⟨h, H0, s, ρ, g, S, ?_⟩⟩
  have p : PostS X.K X.mg h (mTryCl (fun ρ s => onlyOf all (mb ρ s)) ml ρ s) H0 H Wx D := p
  unfold mTryCl at p
  cases e : mb ρ s with
  | ok f s2 =>
    simp only [e, onlyOf] at p
    cases f <;> exact p
  | bad =>
    simp only [e, onlyOf] at p
    exact p
  | err c fs ρ' s' =>
    simp only [e] at p
    by_cases ca : c ∈ all
    · simp only [onlyOf, if_pos ca] at p
      exact fun σ' C od A B sm g' S' mc x => q.run ca mc g' S' x (PostS.step sm p)
    · simp only [onlyOf, if_neg ca] at p
      exact p.elim
end
inductive QClE (X : Cx) (all : List Str) : List ExceptHandler → List MC → Prop
  | nil : QClE X all [] []
  | bare {c : Str} {C : Addr} {b₀ : Stmt} {rest : List Stmt} {np p : Pos} {hs : List ExceptHandler} {m : MX} {ml : List MC} (hm : X.mg c = some (.ref C)) (hg : Gl X c) (hdb : (c == ("__debug__" : Str)) = false) (hx : ∃ ts, QXo X none C b₀ rest ts m)
      (hk : ∀ c' ∈ all, Catch X.K X.mg c' c) (r : QClE X all hs ml) : QClE X all (.ExceptHandler (some (.Name c np)) none (b₀ :: rest) p :: hs) ((c, none, m) :: ml)
  | name {c n : Str} {i : Nat} {C : Addr} {b₀ : Stmt} {rest : List Stmt} {np p : Pos} {hs : List ExceptHandler} {m : MX} {ml : List MC} (hi : X.N[i]? = some n) (hln : X.env.kindOf n = some .local) (hm : X.mg c = some (.ref C)) (hg : Gl X c) (hdb : (c == ("__debug__" : Str)) = false)
      (hx : ∃ ts, QXo X (some i) C b₀ rest ts m) (hk : ∀ c' ∈ all, Catch X.K X.mg c' c) (r : QClE X all hs ml) : QClE X all (.ExceptHandler (some (.Name c np)) (some n) (b₀ :: rest) p :: hs) ((c, some i, m) :: ml)
theorem QClE.ex {X : Cx} {all : List Str} {hs : List ExceptHandler} {ml : List MC} (q : QClE X all hs ml) : ∃ l, QCl X all hs l ml := by
  induction q with
  | nil => exact ⟨_, .nil⟩
  | bare hm hg hdb hx hk r ih =>
    obtain ⟨l, ih⟩ := ih
    obtain ⟨ts, hx⟩ := hx
    exact ⟨_, .bare hm hg hdb hx hk ih⟩
  | name hi hln hm hg hdb hx hk r ih =>
    obtain ⟨l, ih⟩ := ih
    obtain ⟨ts, hx⟩ := hx
    exact ⟨_, .name hi hln hm hg hdb hx hk ih⟩
theorem qs_tryE {X : Cx} {Wx : WX} {all : List Str} {body : List Stmt} {h₁ : ExceptHandler} {hs : List ExceptHandler} {ml : List MC} {pos : Pos} {mb : MS} (hst : X.stack = X.env :: X.outer) (hfr : X.env.frame = some X.env.locals) (hN : X.N.Nodup) (tk : Takes X Wx)
    (hb : ∀ (W : WX) (pn : List (Addr × Obj)) (xe : Value → Shared → Prop), Takes (X.tr pn xe) W → PassesOwn (model X.prog X.w) X.A X.env xe → QSs (X.tr pn xe) W body mb) (q : QClE X all (h₁ :: hs) ml) : QS X Wx (.Try body (h₁ :: hs) [] [] pos) (mTryQ all mb ml) := by
  obtain ⟨l, q⟩ := q.ex
  exact qs_tryCl hst hfr hN tk hb q
theorem qx_bare {X : Cx} {C : Addr} {b₀ : Stmt} {rest : List Stmt} {ms : MS} (hq : ∀ (a : Addr) (oe : Obj) (pn : List (Addr × Obj)), QSs (X.suite a ((a, oe) :: pn)) WF (b₀ :: rest) ms) : ∃ ts, QXo X none C b₀ rest ts (fun _ => ms) :=
  ⟨fun _ _ _ => cS X.K X.mg WF ms, ⟨fun a oe cls d pn _ _ => (hq a oe pn).can, fun a dd fs => ss_cS⟩⟩
/-! ### the suite  x = A if isinstance(e, C1) and isinstance(e, T2) else B,  e the caught error, which is both -/
def xIsSet (j : Nat) (x : Str) : MX := fun fs => if fs = [] then mSet j (mC (.str x)) else mBad
/-- isinstance of the class D's errors says yes for the class at C1 and for the built-in class T2 -/
structure IsBoth (K : Frag) (mg : Str → Option Value) (D : Addr) (c1 : Str) (T2 : String) : Prop where
  ex : ExcC K D
  one : ∃ C1, mg c1 = some (.ref C1) ∧ PySem.W.kitOne K (.ref D) (.ref C1) = some true
  two : PySem.W.kitOne K (.ref D) (.type T2) = some true
section
variable {X : Cx} {i j : Nat} {n y c1 t2 : Str} {T2 : String} {C : Addr} {p1 p2 p3 p4 p5 p6 p7 p8 p9 pa pb pc pd pe : Pos} {A B : Str} {ja jb : Nat}
open Classical in
theorem qx_is (hB : IsBoth X.K X.mg C c1 T2) (hN : X.N.Nodup) (hi : X.N[i]? = some n) (hj : X.N[j]? = some y) (hvi : Vis X.env.scope n) (hlj : Loc X.env.scope y) (hg : Gl X "isinstance") (hm : X.mg "isinstance" = none) (hg1 : Gl X c1) (hg2 : Gl X t2) (hm2 : X.mg t2 = none) (hv2 : bootBuiltins t2 = some (.type T2))
    (hdn : (n == ("__debug__" : Str)) = false) (hcn : (n == ("__classdict__" : Str)) = false) (hd1 : (c1 == ("__debug__" : Str)) = false) (hn2 : t2 ≠ "__name__") (hd2 : (t2 == ("__debug__" : Str)) = false)
    (hlp : ∀ (a : Addr) (oe : Obj) (pn : List (Addr × Obj)), swapsWith (.IfExp (.BoolOp .And [.Call (.Name "isinstance" p1) [.Name n p2, .Name c1 p3] [] p4, .Call (.Name "isinstance" p5) [.Name n p6, .Name t2 p7] [] p8] p9) (.Constant (.str A) ja pa) (.Constant (.str B) jb pb) pc) (some (.Name y pd)) pe.line (X.suite a ((a, oe) :: pn)).env = pure false)
    (hf : ∀ (a : Addr) (oe : Obj) (pn : List (Addr × Obj)), (X.suite a ((a, oe) :: pn)).fn y = true ∨ (X.suite a ((a, oe) :: pn)).env.scope.names.lookup y = some .local)
    (h1 : ∀ (a : Addr) (oe : Obj) (pn : List (Addr × Obj)), starEach [.Name n p2, .Name c1 p3] (X.suite a ((a, oe) :: pn)).env = (false, eval (.Name n p2) (X.suite a ((a, oe) :: pn)).env) :: starEach [.Name c1 p3] (X.suite a ((a, oe) :: pn)).env)
    (h2 : ∀ (a : Addr) (oe : Obj) (pn : List (Addr × Obj)), starEach [.Name c1 p3] (X.suite a ((a, oe) :: pn)).env = (false, eval (.Name c1 p3) (X.suite a ((a, oe) :: pn)).env) :: starEach [] (X.suite a ((a, oe) :: pn)).env)
    (h3 : ∀ (a : Addr) (oe : Obj) (pn : List (Addr × Obj)), starEach [.Name n p6, .Name t2 p7] (X.suite a ((a, oe) :: pn)).env = (false, eval (.Name n p6) (X.suite a ((a, oe) :: pn)).env) :: starEach [.Name t2 p7] (X.suite a ((a, oe) :: pn)).env)
    (h4 : ∀ (a : Addr) (oe : Obj) (pn : List (Addr × Obj)), starEach [.Name t2 p7] (X.suite a ((a, oe) :: pn)).env = (false, eval (.Name t2 p7) (X.suite a ((a, oe) :: pn)).env) :: starEach [] (X.suite a ((a, oe) :: pn)).env)
    (h5 : ∀ (a : Addr) (oe : Obj) (pn : List (Addr × Obj)), (backTo p4 (starEach [.Name c1 p3] (X.suite a ((a, oe) :: pn)).env)).any (·.1) = false) (h6 : ∀ (a : Addr) (oe : Obj) (pn : List (Addr × Obj)), (backTo p8 (starEach [.Name t2 p7] (X.suite a ((a, oe) :: pn)).env)).any (·.1) = false) :
    ∃ ts, QXo X (some i) C (.Assign [.Name y pd] (.IfExp (.BoolOp .And [.Call (.Name "isinstance" p1) [.Name n p2, .Name c1 p3] [] p4, .Call (.Name "isinstance" p5) [.Name n p6, .Name t2 p7] [] p8] p9) (.Constant (.str A) ja pa) (.Constant (.str B) jb pb) pc) pe) [] ts (xIsSet j A) := by
  obtain ⟨C1, hm1, k1⟩ := hB.one
  let te (a : Addr) (v : V) : TE := tCB (rIsE X.K C a) (tCons (tVar i) (tCons (tC v) tNil))
  let real (a : Addr) : TS := tAsg (tIf (tAnd (tB (te a (.ref C1))) (tB (te a (.ty T2)))) (tC (.str A)) (tC (.str B))) (gName j)
  refine ⟨fun a cls d => if cls = .ref C ∧ d = none then real a else fun _ _ _ => False, ⟨fun a oe cls d pn hz hv => ?_, fun a dd => ?_⟩⟩
  · by_cases c : cls = .ref C ∧ d = none
    · obtain ⟨rfl, rfl⟩ := c
      rw [if_pos ⟨rfl, rfl⟩]
      have e1 : PE (X.suite a ((a, oe) :: pn)) (.Name n p2) (tVar i) := pe_var hi hvi hdn hcn
      have e2 : PE (X.suite a ((a, oe) :: pn)) (.Name n p6) (tVar i) := pe_var hi hvi hdn hcn
      have c1 := pe_callB (X := X.suite a ((a, oe) :: pn)) (p := p1) (pos := p4) (call_isE (pn := pn) hB.ex hz hv) hg hm (by decide +kernel) (pa_cons e1 (pa_cons (pe_glob (v := .ref C1) (pos := p3) hg1 hm1 rfl hd1) pa_nil (h2 a oe pn)) (h1 a oe pn)) (by decide) (by decide) (h1 a oe pn) (h5 a oe pn)
      have c2 := pe_callB (X := X.suite a ((a, oe) :: pn)) (p := p5) (pos := p8) (call_isE (pn := pn) hB.ex hz hv) hg hm (by decide +kernel) (pa_cons e2 (pa_cons (pe_bltn (v := .ty T2) (pos := p7) hg2 hm2 hv2 rfl hn2 hd2) pa_nil (h4 a oe pn)) (h3 a oe pn)) (by decide) (by decide) (h3 a oe pn) (h6 a oe pn)
      exact pss_one (ps_set hN hj hlj (pe_ifExp (PW.pt (pw_and (pt_val c1) (pw_and1 (pt_val c2)))) pe_str pe_str) (hlp a oe pn) (hf a oe pn))
    · rw [if_neg c]
      exact ⟨fun _ _ _ _ _ _ z => z.elim⟩
  · show XS' X.K X.mg i a dd (if Value.ref C = .ref C ∧ dd = none then real a else fun _ _ _ => False) (xIsSet j A)
    intro h H0 H s σ ρ D fs g S ei ed p
    unfold xIsSet at p
    by_cases c : fs = []
    · rw [if_pos c] at p
      have dn : dd = none := by
        cases dd with
        | none => rfl
        | some dd => exact absurd c ed.1
      rw [if_pos ⟨rfl, dn⟩]
      have p : ∀ σ' H0' H', Same H0 H0' → G h.a H0' H' s → Slots X.K X.mg h H0' H' σ' (ρ.set j (.dat (.str A))) → D.nx σ' H' := p
      refine ⟨.ref a, ei, _, .ref C1, true, rfl, fun u r => r, k1, true, rfl, ?_⟩
      refine iteT ⟨.ref a, ei, _, .type T2, true, rfl, fun u r => r, hB.two, true, rfl, ?_⟩
      exact iteT (p _ H0 H (Same.refl _) g (S.set (.str A)))
    · rw [if_neg c] at p
      exact p.elim
end
/-! ### raise C() -/
def mRaise0 (c : Str) : MS := fun ρ s => .err c [] ρ s
/-- a class of errors without __init__ of its own -/
def Thrown0 (K : Frag) (mg : Str → Option Value) (c : Str) : Prop := ∃ (C : Addr) (B newId initId : String) (bmB : List Value), mg c = some (.ref C) ∧ ExcBaseFacts B newId initId bmB ∧ PySem.W.excIn K C bmB newId = true ∧ PySem.W.keepIn K (.ref C) = true ∧ PySem.W.subIn K (.ref C) (.type "BaseException") = some true ∧ PySem.W.typeIn K (.ref C) = some (.type "type")
theorem pmk_none {X : Cx} {C : Addr} {bmB : List Value} {B newId initId : String} {x : Str} {p pos : Pos} (F : ExcBaseFacts B newId initId bmB) (q : PySem.W.excIn X.K C bmB newId = true) (gC : X.mg x = some (.ref C)) (kC : PySem.W.keepIn X.K (.ref C) = true) (r : Raises X (.ref C)) (hg : Gl X x)
    (hdb : (x == ("__debug__" : Str)) = false := by decide) : PMk X (.Call (.Name x p) [] [] pos) (fun _ H Q => Q (.ref C) none H) := by
  intro pins s σ H Q I h
  refine wpAny_Call_Name_kw (ld_glob I hg gC (PySem.W.callWith_K0 I.kIn kC ?_) hdb)
  show wpAny _ _ (call (.ref C) []) _ _ _
  obtain ⟨bm, N, nm, qn, bs, hdct, sn, sub, ab, col, dd, k0, k1, k2, k3, k5, mN, hC, hN, hni, T⟩ := exc_obj I.kIn q
  exact wpAny_call_exc_subT F T hC hN hni (fun h' e hm => mk_of I hm r h (I.hok.gone hm.new)) (Nat.zero_le _)
theorem qs_throw0 {X : Cx} {Wx : WX} {c : Str} {p pos pos2 : Pos} (T : Thrown0 X.K X.mg c) (hc : X.calm = true) (tk : Takes X Wx) (hg : Gl X c := by rfl) (hdb : (c == ("__debug__" : Str)) = false := by decide) : QS X Wx (.Raise (some (.Call (.Name c p) [] [] pos)) none pos2) (mRaise0 c) := by
  obtain ⟨C, B, newId, initId, bmB, hm, F, q, kC, h1, h2⟩ := T
  refine ⟨_, ps_raise hc tk (pmk_none F q hm kC (raises_own h1 h2) hg hdb), ?_⟩
  intro h H0 H s σ ρ D g S p
  exact p σ C none H0 H (Same.refl _) g S hm rfl
end Mir


set_option Elab.async false
set_option linter.all false
set_option maxRecDepth 100000
/-! Texts: str of an int, int of a text, divmod, methods of texts, text * int, a list backwards. -/
namespace Mir
open PySem PySem.Spec PyProof.Rows L2
open PySem.W (Frag)
/-! ### str(int), int(text), divmod -/
def fStr : List Dt → Option Dt
  | [.int i] => if i.natAbs.log2 < 1920 then some (.str (toString i)) else none
  | _ => none
def fIntS : List Dt → Option Dt
  | [.str a] => if a.length ≤ 640 then (PySem.intText? a).map .int else none
  | _ => none
def fIntT : List Dt → Option Dt
  | [.str a] => if a.length ≤ 640 then (PySem.intText? a).map .int else none
  | ds => fIntC ds
def fDivmod : List Dt → Option Dt
  | [.int i, .int j] => if DivOk j then some (.tup [.int (i.fdiv j), .int (i.fmod j)]) else none
  | _ => none
section
variable {K : Frag} {mg : Str → Option Value}
theorem cs_str : CaS K mg (fun xs H Q => ∃ i, xs = [.int i] ∧ i.natAbs.log2 < 1920 ∧ Q (.str (toString i)) H) fStr := by
  intro h H0 H s xs ds z Q g0 hx hz q
  unfold fStr at hz
  split at hz
  · split at hz
    · rename_i c
      cases hz
      cases hx with
      | cons a r =>
        cases r
        cases a
        exact ⟨_, rfl, c, q _ H0 H (.refl _ _) g0 (.str _)⟩
    · cases hz
  · cases hz
theorem cs_intS : CaS K mg (fun xs H Q => ∃ a n, xs = [.str a] ∧ PySem.intText? a = some n ∧ a.length ≤ 640 ∧ Q (.int n) H) fIntS := by
  intro h H0 H s xs ds z Q g0 hx hz q
  unfold fIntS at hz
  split at hz
  · rename_i a
    split at hz
    · rename_i c
      cases e : PySem.intText? a with
      | none =>
        rw [e] at hz
        cases hz
      | some n =>
        rw [e] at hz
        cases hz
        cases hx with
        | cons a r =>
          cases r
          cases a
          exact ⟨_, _, rfl, e, c, q _ H0 H (.refl _ _) g0 (.int _)⟩
    · cases hz
  · cases hz
theorem cs_intT : CaS K mg (fun xs H Q => ((∃ i, xs = [.int i] ∧ Q (.int i) H) ∨ ∃ k, xs = [.bl k] ∧ Q (.int (if k then 1 else 0)) H) ∨ ∃ a n, xs = [.str a] ∧ PySem.intText? a = some n ∧ a.length ≤ 640 ∧ Q (.int n) H) fIntT :=
  CaS.or cs_int cs_intS fun d z e => by
    unfold fIntT at e
    split at e
    · exact .inr e
    · exact .inl e
def rDivmod : List V → Hp → VK → Prop := fun xs H Q => ∃ i j, xs = [.int i, .int j] ∧ DivOk j ∧ ∀ p, H p = none → Q (.ref p) (upd H p (.tup [.int (i.fdiv j), .int (i.fmod j)]))
theorem cs_divmod : CaS K mg rDivmod fDivmod := by
  intro h H0 H s xs ds z Q g0 hx hz q
  unfold fDivmod at hz
  split at hz
  · split at hz
    · rename_i c
      cases hz
      cases hx with
      | cons a r =>
        cases r with
        | cons b r =>
          cases r
          cases a
          cases b
          refine ⟨_, _, rfl, c, fun p hp => ?_⟩
          obtain ⟨g1, st⟩ := g0.alloc (o := .tup _) hp
          exact q _ _ _ st g1 (.tup (SqT.of upd_same) (.cons (.int _) (.cons (.int _) .nil)))
    · cases hz
  · cases hz
end
section
variable {X : Cx}
theorem call_divmodW : CallR X (.builtin "divmod") rDivmod := by
  intro pins s σ H xs us Q I r h
  obtain ⟨i, j, rfl, ⟨h1, h2⟩, q⟩ := h
  obtain ⟨u, w', rfl, ⟨t, rfl⟩, ⟨t', rfl⟩⟩ := vals2 r
  refine divmod_int h1 ?_ (.inl (PyProof.noPylong_of_log2 h2))
  have hn : H s.heap.objs.size = none := I.hok.fresh (Nat.le_refl _)
  refine ⟨.ref s.heap.objs.size, _, ?_, rfl, q _ hn⟩
  refine I.laid (fun b o e => Heap.get?_push_of_some _ e) (Nat.le_refl _) ⟨by simp only [List.length_cons, List.length_nil]; rw [sizeLine_eq]; decide, [.int (i.fdiv j) s.toks, .int (i.fmod j) (s.toks + 1)], .cons ⟨_, rfl⟩ (.cons ⟨_, rfl⟩ .nil), ?_⟩
  exact ⟨_, Heap.get?_push_size s.heap rfl, rfl, 0, rfl⟩
theorem call_intAny : CallR X (.type "int") (fun xs H Q => ((∃ i, xs = [.int i] ∧ Q (.int i) H) ∨ ∃ k, xs = [.bl k] ∧ Q (.int (if k then 1 else 0)) H) ∨ ∃ a n, xs = [.str a] ∧ PySem.intText? a = some n ∧ a.length ≤ 640 ∧ Q (.int n) H) := CallR.or call_int1 call_int_str
end
/-! ### methods of texts -/
def MtS (K : Frag) (mg : Str → Option Value) (r : V → List V → Hp → VK → Prop) (f : Str → List Dt → Option Dt) : Prop := ∀ (h : Addr) (H0 H : Hp) (s : Hd) (x : Str) (xs : List V) (ds : List Dt) (z : Dt) (Q : VK), G h H0 H s → DenA K mg h H0 xs ds → f x ds = some z →
  (∀ u H0' H', Step h H0 H H0' H' → G h H0' H' s → Den K mg h H0' u z → Q u H') → r (.str x) xs H Q
def mMt (f : Str → List Dt → Option Dt) (a : ME) (as : MA) : ME := fun ρ s => (a ρ s).bind fun d s1 => match d with
  | .str x => (as ρ s1).bind fun ds s2 => liftO (f x ds) s2
  | _ => .bad
section
variable {X : Cx} {Wx : WX} {K : Frag} {mg : Str → Option Value} {to : TE} {ta : TA} {o e : Expr} {es : List Expr} {mo : ME} {as : MA} {r : V → List V → Hp → VK → Prop} {f : Str → List Dt → Option Dt} {name : Str} {id : String} {apos cpos : Pos}
theorem se_mt (hr : MtS K mg r f) (hb : SE K mg Wx to mo) (ha : SA K mg Wx ta as) : SE K mg Wx (tBM K "str" r to ta) (mMt f mo as) := by
  intro h H0 H s σ ρ Q g S p
  refine hb h H0 H s σ ρ _ g S (Post.bind p fun d s1 x A B st g1 dx p1 => ?_)
  cases dx with
  | str y =>
    refine ⟨rfl, ha h A B s1 σ ρ _ g1 (S.step st) (Post.bind p1 fun ds s2 xs A2 B2 st2 g2 dxs p2 => ?_)⟩
    obtain ⟨z, hz, p3⟩ := post_lift p2
    exact hr h A2 B2 s2 y xs ds z Q g2 dxs hz fun u A3 B3 st3 g3 du => p3 u A3 B3 st3 g3 du
  | _ => exact p1.elim
theorem se_mt0 (hr : MtS K mg r f) (hb : SE K mg Wx to mo) : SE K mg Wx (tBM0 K "str" r to) (mMt f mo mNil) := by
  intro h H0 H s σ ρ Q g S p
  refine hb h H0 H s σ ρ _ g S (Post.bind p fun d s1 x A B st g1 dx p1 => ?_)
  cases dx with
  | str y =>
    refine ⟨rfl, ?_⟩
    obtain ⟨z, hz, p3⟩ := post_lift p1
    exact hr h A B s1 y [] [] z Q g1 .nil hz fun u A3 B3 st3 g3 du => p3 u A3 B3 st3 g3 du
  | _ => exact p1.elim
theorem qe_mt (slot : Slot "str" name id) (hty : typeOf (.builtin id) = pure (.type "method_descriptor")) (hm : MtR X id r) (hr : MtS X.K X.mg r f) (ho : QE X Wx o mo) (ha : QA X Wx (e :: es) as)
    (hbase : attributeBase o name X.env (eval o X.env) = eval o X.env := by rfl)
    (hfew : ((backTo cpos (starEach (e :: es) X.env)).all (fun x => !x.1) && (backToKw cpos (keywordEach [] X.env)).all (fun x => x.1.isSome)
      && decide ((e :: es).length + ([] : List Keyword).length + (if ([] : List Keyword).isEmpty then 0 else 1) < 30)) = true := by rfl)
    (hline : (apos.endLine == cpos.line) = true := by rfl) (hs : starEach (e :: es) X.env = (false, eval e X.env) :: starEach es X.env := by rfl) (hplain : (backTo cpos (starEach es X.env)).any (·.1) = false := by rfl) :
    QE X Wx (.Call (.Attribute o name apos) (e :: es) [] cpos) (mMt f mo as) := by
  obtain ⟨t, p, so⟩ := ho
  obtain ⟨t2, p2, sa⟩ := ha
  exact ⟨_, pe_bm PySem.F.plainAttrs_str slot hty hm p p2 hbase hfew hline hs hplain, se_mt hr so sa⟩
theorem qe_mt0 (slot : Slot "str" name id) (hty : typeOf (.builtin id) = pure (.type "method_descriptor")) (hm : MtR X id r) (hr : MtS X.K X.mg r f) (ho : QE X Wx o mo)
    (hbase : attributeBase o name X.env (eval o X.env) = eval o X.env := by rfl) (hline : (apos.endLine == cpos.line) = true := by rfl) : QE X Wx (.Call (.Attribute o name apos) [] [] cpos) (mMt f mo mNil) := by
  obtain ⟨t, p, so⟩ := ho
  exact ⟨_, pe_bm0 PySem.F.plainAttrs_str slot hty hm p hbase hline, se_mt0 hr so⟩
end
def fZfill (x : Str) : List Dt → Option Dt
  | [.int i] => if PadOk i = true then some (.str (Txt.zfill x i)) else none
  | _ => none
def fRemovePre (x : Str) : List Dt → Option Dt
  | [.str b] => if sizeOk x.length then some (.str (Txt.removeprefix x b)) else none
  | _ => none
def fIsAscii (x : Str) : List Dt → Option Dt
  | [] => some (.bl (Txt.isascii x))
  | _ => none
def fIsDigit (x : Str) : List Dt → Option Dt
  | [] => some (.bl (Txt.isdigit x))
  | _ => none
def fPartition (x : Str) : List Dt → Option Dt
  | [.str b] => if (b.length == 0) = false ∧ sizeOk x.length then some (.tup [.str (Txt.partition x b).1, .str (Txt.partition x b).2.1, .str (Txt.partition x b).2.2]) else none
  | _ => none
def strsD : List Dt → Option (List Str)
  | [] => some []
  | .str x :: ds => (strsD ds).map fun l => x :: l
  | _ => none
def fJoin (x : Str) : List Dt → Option Dt
  | [.lst ds] => (strsD ds).bind fun ys => if (ys.map (·.length)).sum + ys.length * x.length ≤ 16777216 then some (.str (Txt.join x ys)) else none
  | _ => none
section
variable {K : Frag} {mg : Str → Option Value}
theorem ms_zfill : MtS K mg (fun x xs H Q => ∃ (a : Str) (i : Int), x = .str a ∧ xs = [.int i] ∧ PadOk i = true ∧ Q (.str (Txt.zfill a i)) H) fZfill := by
  intro h H0 H s x xs ds z Q g0 hx hz q
  unfold fZfill at hz
  split at hz
  · split at hz
    · rename_i c
      cases hz
      cases hx with
      | cons a r =>
        cases r
        cases a
        exact ⟨_, _, rfl, rfl, c, q _ H0 H (.refl _ _) g0 (.str _)⟩
    · cases hz
  · cases hz
theorem ms_removepre : MtS K mg (fun x xs H Q => ∃ a b, x = .str a ∧ xs = [.str b] ∧ a.length ≤ sizeLine ∧ Q (.str (Txt.removeprefix a b)) H) fRemovePre := by
  intro h H0 H s x xs ds z Q g0 hx hz q
  unfold fRemovePre at hz
  split at hz
  · split at hz
    · rename_i c
      cases hz
      cases hx with
      | cons a r =>
        cases r
        cases a
        exact ⟨_, _, rfl, rfl, c.le, q _ H0 H (.refl _ _) g0 (.str _)⟩
    · cases hz
  · cases hz
theorem ms_isascii : MtS K mg (fun x xs H Q => ∃ a, x = .str a ∧ xs = [] ∧ True ∧ Q (.bl (Txt.isascii a)) H) fIsAscii := by
  intro h H0 H s x xs ds z Q g0 hx hz q
  unfold fIsAscii at hz
  split at hz
  · cases hz
    cases hx
    exact ⟨_, rfl, rfl, trivial, q _ H0 H (.refl _ _) g0 (.bl _)⟩
  · cases hz
theorem ms_isdigit : MtS K mg (fun x xs H Q => ∃ a, x = .str a ∧ xs = [] ∧ True ∧ Q (.bl (Txt.isdigit a)) H) fIsDigit := by
  intro h H0 H s x xs ds z Q g0 hx hz q
  unfold fIsDigit at hz
  split at hz
  · cases hz
    cases hx
    exact ⟨_, rfl, rfl, trivial, q _ H0 H (.refl _ _) g0 (.bl _)⟩
  · cases hz
theorem ms_partition : MtS K mg (fun x xs H Q => ∃ a b, x = .str a ∧ xs = [.str b] ∧ (b.length == 0) = false ∧ a.length ≤ sizeLine ∧
    ∀ p, H p = none → Q (.ref p) (upd H p (.tup [.str (Txt.partition a b).1, .str (Txt.partition a b).2.1, .str (Txt.partition a b).2.2]))) fPartition := by
  intro h H0 H s x xs ds z Q g0 hx hz q
  unfold fPartition at hz
  split at hz
  · split at hz
    · rename_i c
      cases hz
      cases hx with
      | cons a r =>
        cases r
        cases a
        refine ⟨_, _, rfl, rfl, c.1, c.2.le, fun p hp => ?_⟩
        obtain ⟨g1, st⟩ := g0.alloc (o := .tup _) hp
        exact q _ _ _ st g1 (.tup (SqT.of upd_same) (.cons (.str _) (.cons (.str _) (.cons (.str _) .nil))))
    · cases hz
  · cases hz
theorem strsD_vals {h : Addr} {H : Hp} : ∀ {ds : List Dt} {vs : List V} {ys : List Str}, DenA K mg h H vs ds → strsD ds = some ys → vs = ys.map V.str
  | [], _, ys, .nil, e => by
    cases e
    rfl
  | d :: ds, _, ys, .cons (v := v) (vs := vs) dv da, e => by
    cases dv with
    | str x =>
      cases e2 : strsD ds with
      | none =>
        simp [strsD, e2] at e
      | some l =>
        simp [strsD, e2] at e
        subst e
        rw [strsD_vals da e2]
        rfl
    | _ => cases e
theorem ms_join : MtS K mg (fun x xs H Q => ∃ a p, ∃ ys : List Str, x = .str a ∧ xs = [.ref p] ∧ (SqL K H p (ys.map V.str) ∨ SqT K H p (ys.map V.str)) ∧
    (ys.map (·.length)).sum + ys.length * a.length ≤ 16777216 ∧ Q (.str (Txt.join a ys)) H) fJoin := by
  intro h H0 H s x xs ds z Q g0 hx hz q
  unfold fJoin at hz
  split at hz
  · rename_i es
    cases e : strsD es with
    | none =>
      rw [e] at hz
      cases hz
    | some ys =>
      rw [e] at hz
      have hz : (if (ys.map (·.length)).sum + ys.length * x.length ≤ 16777216 then some (Dt.str (Txt.join x ys)) else none) = some z := hz
      split at hz
      · rename_i c
        cases hz
        cases hx with
        | cons a r =>
          cases r
          cases a with
          | lst qa ra =>
            have ev := strsD_vals ra e
            subst ev
            exact ⟨_, _, _, rfl, rfl, .inl (SqL.of (g0.ex _ _ qa)), c, q _ H0 H (.refl _ _) g0 (.str _)⟩
      · cases hz
  · cases hz
end
/-! ### xs[::-1] -/
def mRev (a : ME) : ME := fun ρ s => (a ρ s).bind fun d s1 => match d with
  | .lst ds => .ok (.lst ds.reverse) s1
  | _ => .bad
section
variable {X : Cx} {Wx : WX} {K : Frag} {mg : Str → Option Value} {te : TE} {ma : ME} {e : Expr} {k : Nat} {p1 p2 p3 pos : Pos}
theorem DenA.rev {h : Addr} {H : Hp} {vs : List V} {ds : List Dt} (d : DenA K mg h H vs ds) : DenA K mg h H vs.reverse ds.reverse := by
  induction ds generalizing vs with
  | nil =>
    cases d
    exact .nil
  | cons x ds ih =>
    cases d with
    | cons a r =>
      rw [List.reverse_cons, List.reverse_cons]
      exact (ih r).append (.cons a .nil)
theorem se_rev (ha : SE K mg Wx te ma) : SE K mg Wx (tRevL K te) (mRev ma) := by
  intro h H0 H s σ ρ Q g S p
  refine ha h H0 H s σ ρ _ g S (Post.bind p fun d s1 x A B st g1 dx p1 => ?_)
  cases dx with
  | lst qa ra =>
    refine ⟨_, _, rfl, SqL.of (g1.ex _ _ qa), fun p hp => ?_⟩
    obtain ⟨g2, st2⟩ := g1.alloc (o := .lst _) hp
    exact p1 _ _ _ st2 g2 (.lst upd_same (ra.rev.mono st2.s0))
  | _ => exact p1.elim
theorem qe_rev (ha : QE X Wx e ma) : QE X Wx (.Subscript e (.Slice none none (some (.UnaryOp .USub (.Constant (.int 1) k p1) p2)) p3) pos) (mRev ma) := by
  obtain ⟨t, p, s⟩ := ha
  exact ⟨_, pe_revL p, se_rev s⟩
end
/-! ### text * int -/
def fRep : Dt → Dt → Option Dt
  | .str a, .int j => if 1 ≤ j ∧ j ≤ 10000 ∧ a.length ≤ 9 ∧ a.length ≠ 0 ∧ j ≠ 1 then some (.str ⟨(List.replicate j.toNat a.cps).foldl (· ++ ·) #[]⟩) else none
  | _, _ => none
def rRepS : R2 := fun x y H Q => ∃ a j, x = .str a ∧ y = .int j ∧ (1 ≤ j ∧ j ≤ 10000 ∧ a.length ≤ 9 ∧ a.length ≠ 0 ∧ j ≠ 1) ∧ Q (.str ⟨(List.replicate j.toNat a.cps).foldl (· ++ ·) #[]⟩) H
section
variable {X : Cx} {K : Frag} {mg : Str → Option Value}
theorem op_repS : OpR X (binaryOp .Mult) rRepS := by
  intro pins s σ H x y v u Q I rx ry h
  obtain ⟨a, j, rfl, rfl, ⟨h1, h2, h3, h4, h5⟩, q⟩ := h
  obtain ⟨t, rfl⟩ := rx
  obtain ⟨t', rfl⟩ := ry
  have b1 : (j == 1) = false := beq_eq_false_iff_ne.mpr h5
  have b2 : (a.length == 0) = false := beq_eq_false_iff_ne.mpr h4
  have ok : PySem.MulOk a j := by
    refine ⟨by simp; omega, fun _ _ => ?_, fun _ _ => ?_⟩
    · have m : (a.length : Int) * j ≤ 9 * 10000 := Int.mul_le_mul (by omega) (by omega) (by omega) (by omega)
      have := Int.le_ediv_of_mul_le (a := (a.length : Int)) (b := 2 ^ 63 - 1) (c := j) (by omega) (by omega)
      omega
    · have m : a.length * j.toNat ≤ 9 * 10000 := Nat.mul_le_mul h3 (by omega)
      unfold PySem.Builtin.Str.tooLong
      have e : sizeLine = 16777216 := rfl
      exact decide_eq_false (by omega)
  refine PySem.SB.mul ok fun t2 k => ?_
  have em : Txt.mul a j = ⟨(List.replicate j.toNat a.cps).foldl (· ++ ·) #[]⟩ := by
    unfold Txt.mul
    rw [if_neg (by omega), b1, b2]
    rfl
  rw [em]
  exact ⟨.str _, H, I.tok _, ⟨_, rfl⟩, q⟩
theorem os_rep : OpS K mg rRepS fRep := by
  intro h H0 H s x y d e z Q g0 hx hy hz q
  unfold fRep at hz
  split at hz
  · split at hz
    · rename_i c
      cases hz
      cases hx
      cases hy
      exact ⟨_, _, rfl, rfl, c, q _ H0 H (.refl _ _) g0 (.str _)⟩
    · cases hz
  · cases hz
end
end Mir


set_option Elab.async false
set_option linter.all false
set_option maxRecDepth 100000
/-! Walks that give pairs: zip, enumerate. -/
namespace Mir
open PySem PySem.Spec PyProof.Rows L2
open PySem.W (Frag)
section
variable {K : Frag} {mg : Str → Option Value} {Wx : WX} {ta : TE} {tb : TS} {a : ME} {body : MS} {tt : TT} {mt : MT} {js vs : List Nat} {g : TG} {m : GM}
theorem cw_turnX {h : Ent} {A B A' B' : Hp} {s' : Hd} {acc : List Dt} {vv : List V} {σ : L2.St} {ρ : Env'} {D : Addr} {PF : R Dt → Prop} (hbad : PF .bad → False) {x : V} {d : Dt} {ds : List Dt} (hg : SG K mg js g m) (hv : ∀ j ∈ js, j ∈ vs) (ht : ST K mg WF tt mt) (ha : SE K mg WF ta a) (S : Slots K mg h A B σ ρ)
    (st : Step h A B A' B') (g0 : G h A' B' s') (hB : B D = none) (hD : A' D = none) (nD : ¬ isH h B' D) (eD : B' D = some (.lst vv)) (da : DenA K mg h A' vv acc) (p : PF (loopC m mt a vs (d :: ds) acc ρ s')) (dx : Den K mg h A' x d) :
    g x (L2.wipe σ vs) B' fun σ2 H2 => L2.wipe σ2 vs = L2.wipe σ vs ∧ tt σ2 H2 fun b H3 =>
      if b = true then ta σ2 H3 fun y H4 => ∃ acc, H4 D = some (.lst acc) ∧ acc.length < sizeLine ∧ CW K mg PF m mt a vs h A B ρ D ds (upd H4 D (.lst (acc ++ [y]))) else CW K mg PF m mt a vs h A B ρ D ds H3 := by
  unfold loopC at p
  cases e : m d (wipeE ρ vs) with
  | none =>
    rw [e] at p
    exact (hbad p).elim
  | some ρ1 =>
    simp only [e] at p
    refine hg h A' B' s' x d _ _ ρ1 _ g0 ((S.step st).wipe vs) dx e fun σ1 o1 S1 => ⟨wipe_off hv o1, ht h A' B' s' σ1 ρ1 _ g0 S1 (Post.noErr hbad p fun c s1 c' A2 B2 st2 g2 ec p2 => ?_)⟩
    have ec : c' = c := ec
    subst ec
    have f2 := st2.fr D _ eD hD nD
    cases c' with
    | false => exact ⟨A2, s1, acc, vv, st.trans st2, g2, hB, f2.2.1, f2.2.2, f2.1, da.mono st2.s0, p2⟩
    | true =>
      show ta σ1 B2 _
      rw [if_pos rfl] at p2
      refine ha h A2 B2 s1 σ1 ρ1 _ g2 (S1.step st2) (Post.noErr hbad p2 fun z s3 y A3 B3 st3 g3 dy p3 => ?_)
      have f3 := st3.fr D _ f2.1 f2.2.1 f2.2.2
      by_cases c : sizeOk acc.length
      · rw [if_pos c] at p3
        refine ⟨vv, f3.1, by rw [da.len]; exact c.lt, ?_⟩
        obtain ⟨gl, a1, a2, a3, a4⟩ := g3.gl
        have n1 : h ≠ D := fun z => f3.2.2 (.inl z.symm)
        have n2 : gl ≠ D := fun z => f3.2.2 (.inr ⟨_, by rw [← z]; exact a3⟩)
        have nH : ∀ q, isH h (upd B3 D (.lst (vv ++ [y]))) q → isH h B3 q := fun q w => by
          rcases w with w | ⟨r, w⟩
          · exact .inl w
          · rw [upd_ne n1] at w
            exact .inr ⟨r, w⟩
        have st4 : Step h A B A3 (upd B3 D (.lst (vv ++ [y]))) := ⟨(st.trans (st2.trans st3)).s0, fun q u x1 x2 x3 => by
          have nq : q ≠ D := ne_of_none x1 hB
          obtain ⟨y1, y2, y3⟩ := (st.trans (st2.trans st3)).fr q u x1 x2 x3
          exact ⟨by rw [upd_ne nq]; exact y1, y2, fun w => y3 (nH q w)⟩⟩
        refine ⟨A3, s3, acc ++ [z], vv ++ [y], st4, ⟨fun q u w => ?_, g3.h0, gl, a1, a2, by rw [upd_ne n1]; exact a3, by rw [upd_ne n2]; exact a4⟩, hB, f3.2.1, fun w => f3.2.2 (nH D w), upd_same, ((da.mono st2.s0).mono st3.s0).append (.cons dy .nil), p3⟩
        rw [upd_ne fun z => by rw [z, f3.2.1] at w; cases w]
        exact g3.ex _ _ w
      · rw [if_neg c] at p3
        exact (hbad p3).elim
/-- an iterator whose turns give new couples -/
structure PairW (J : It) (Ok : Hp → Prop) (n : Nat) (px : Nat → V × V) : Prop where
  go : ∀ {i H}, Ok H → i < n → J.go i H
  yld : ∀ {i H v H'}, Ok H → i < n → J.yld i H v H' → ∃ T, v = .ref T ∧ H T = none ∧ H' = upd H T (.tup [(px i).1, (px i).2])
  stop : ∀ {H}, Ok H → J.stop n H
theorem for_pairs {h : Ent} {A B : Hp} {s : Hd} {σ : L2.St} {ρ : Env'} {D : Ends} {J : It} {Ok : Hp → Prop} {n : Nat} {px : Nat → V × V} {ds : List Dt} (P : PairW J Ok n px) (hok : ∀ A' B' s', Same A A' → G h A' B' s' → Ok B') (hl : ds.length = n)
    (hd : ∀ i, i < n → ∃ d e, ds[i]? = some (.tup [d, e]) ∧ Den K mg h A (px i).1 d ∧ Den K mg h A (px i).2 e) (hg : SG K mg js g m) (hb : SS K mg Wx tb body) (g1 : G h A B s) (S1 : Slots K mg h A B σ ρ) (p1 : PostS K mg h (loopF m body ds ρ s) A B Wx D) :
    ∃ W : Nat → Nat → L2.St → Hp → Prop, (∃ m, W 0 m σ B) ∧ ∀ i m σ H, W i m σ H →
      (J.stop i H ∧ D.nx σ H) ∨ (J.go i H ∧ ∃ N : L2.St → Hp → Prop, (∀ σ' H', N σ' H' → ∃ m', m' < m ∧ W (i + 1) m' σ' H') ∧ ∀ v H', J.yld i H v H' → g v σ H' fun σ2 H2 => tb { D with nx := N, ct := N, bk := D.nx } σ2 H2) := by
  let Pv : Nat → L2.St → Hp → Prop := fun i σ' H' => ∃ A' s' ρ', Same A A' ∧ G h A' H' s' ∧ Slots K mg h A' H' σ' ρ' ∧ PostS K mg h (loopF m body (ds.drop i) ρ' s') A' H' Wx D
  refine ⟨fun i m σ' H' => m = n - i ∧ i ≤ n ∧ Pv i σ' H', ⟨n, rfl, Nat.zero_le _, A, s, ρ, Same.refl _, g1, S1, p1⟩, ?_⟩
  rintro i m0 σ' H' ⟨rfl, hi, A', s', ρ', st', g', S', p'⟩
  have ok := hok A' H' s' st' g'
  by_cases hlt : i < n
  · obtain ⟨d, e, h1, h2, h3⟩ := hd i hlt
    refine .inr ⟨P.go ok hlt, Pv (i + 1), fun σ2 H2 q => ⟨n - (i + 1), by omega, rfl, hlt, q⟩, fun v H2 y => ?_⟩
    obtain ⟨T, rfl, hT, rfl⟩ := P.yld ok hlt y
    obtain ⟨g2, st2⟩ := g'.alloc (o := .tup [(px i).1, (px i).2]) hT
    have dx : Den K mg h (upd A' T (.tup [(px i).1, (px i).2])) (.ref T) (.tup [d, e]) := .tup (SqT.of upd_same) (.cons ((h2.mono st').mono st2.s0) (.cons ((h3.mono st').mono st2.s0) .nil))
    rw [drop_cons h1] at p'
    exact turn_ok hg hb g2 (S'.step st2) dx (PostS.step st2.s0 p') fun σ3 A3 B3 s3 ρ3 st3 g3 S3 p3 => ⟨A3, s3, ρ3, st'.trans (st2.s0.trans st3), g3, S3, p3⟩
  · have e : i = n := by omega
    subst e
    have ed : ds.drop i = [] := List.drop_eq_nil_of_le (Nat.le_of_eq hl)
    rw [ed] at p'
    exact .inl ⟨P.stop ok, p' σ' A' H' (Same.refl _) g' S'⟩
theorem lc_pairs {h : Ent} {A B : Hp} {s : Hd} {σ : L2.St} {ρ : Env'} {Q : VK} {PF : R Dt → Prop} {J : It} {Ok : Hp → Prop} {n : Nat} {px : Nat → V × V} {ds : List Dt} (P : PairW J Ok n px) (hok : ∀ A' B' s', Same A A' → G h A' B' s' → Ok B') (hl : ds.length = n)
    (hd : ∀ i, i < n → ∃ d e, ds[i]? = some (.tup [d, e]) ∧ Den K mg h A (px i).1 d ∧ Den K mg h A (px i).2 e) (hbad : PF .bad → False) (fin : CWFin K mg PF h A B Q) (hg : SG K mg js g m) (hv : ∀ j ∈ js, j ∈ vs) (ht : ST K mg WF tt mt) (ha : SE K mg WF ta a) (g1 : G h A B s) (S1 : Slots K mg h A B σ ρ)
    (p1 : PF (loopC m mt a vs ds [] ρ s)) (D : Addr) (hD : B D = none) :
    ∃ W : Nat → Nat → Hp → Prop, (∃ m, W 0 m (upd B D (.lst []))) ∧ ∀ i m H, W i m H →
      (J.stop i H ∧ Q (.ref D) H) ∨ (J.go i H ∧ ∃ Nx : Hp → Prop, (∀ H', Nx H' → ∃ m', m' < m ∧ W (i + 1) m' H') ∧ ∀ x H', J.yld i H x H' → g x (L2.wipe σ vs) H' fun σ2 H2 => L2.wipe σ2 vs = L2.wipe σ vs ∧ tt σ2 H2 fun b H3 =>
        if b = true then ta σ2 H3 fun y H4 => ∃ acc, H4 D = some (.lst acc) ∧ acc.length < sizeLine ∧ Nx (upd H4 D (.lst (acc ++ [y]))) else Nx H3) := by
  refine ⟨fun i m0 H' => m0 = n - i ∧ i ≤ n ∧ CW K mg PF m mt a vs h A B ρ D (ds.drop i) H', ⟨n, rfl, Nat.zero_le _, cw_start g1 hD p1⟩, ?_⟩
  rintro i m0 H' ⟨rfl, hi, w⟩
  obtain ⟨A', s', acc, vv, st, g0, hB, hD', nD, eD, da, p⟩ := id w
  have ok := hok A' H' s' st.s0 g0
  by_cases hlt : i < n
  · obtain ⟨d, e, h1, h2, h3⟩ := hd i hlt
    refine .inr ⟨P.go ok hlt, fun H2 => CW K mg PF m mt a vs h A B ρ D (ds.drop (i + 1)) H2, fun H2 q => ⟨n - (i + 1), by omega, rfl, hlt, q⟩, fun v H2 y => ?_⟩
    obtain ⟨T, rfl, hT, rfl⟩ := P.yld ok hlt y
    obtain ⟨g2, st2⟩ := g0.alloc (o := .tup [(px i).1, (px i).2]) hT
    have dx : Den K mg h (upd A' T (.tup [(px i).1, (px i).2])) (.ref T) (.tup [d, e]) := .tup (SqT.of upd_same) (.cons ((h2.mono st.s0).mono st2.s0) (.cons ((h3.mono st.s0).mono st2.s0) .nil))
    have f2 := st2.fr D _ eD hD' nD
    rw [drop_cons h1] at p
    exact cw_turnX hbad hg hv ht ha S1 (st.trans st2) g2 hB f2.2.1 f2.2.2 f2.1 (da.mono st2.s0) p dx
  · have e : i = n := by omega
    subst e
    have ed : ds.drop i = [] := List.drop_eq_nil_of_le (Nat.le_of_eq hl)
    rw [ed] at w
    exact .inl ⟨P.stop ok, cw_end fin w⟩
end
end Mir


set_option Elab.async false
set_option linter.all false
set_option maxRecDepth 100000
/-! zip of two lists or of two tuples, enumerate of a list: loops and comprehensions over them. -/
namespace Mir
open PySem PySem.Spec PyProof.Rows L2
open PySem.W (Frag)
def zipD (xs ys : List Dt) : List Dt := List.zipWith (fun x y => Dt.tup [x, y]) xs ys
def enumD : Nat → List Dt → List Dt
  | _, [] => []
  | k, d :: ds => .tup [.int (k : Int), d] :: enumD (k + 1) ds
theorem enumD_get : ∀ (ds : List Dt) (k i : Nat), (enumD k ds)[i]? = ds[i]?.map fun d => .tup [.int ((k + i : Nat) : Int), d]
  | [], k, i => by simp [enumD]
  | d :: ds, k, 0 => by simp [enumD]
  | d :: ds, k, i + 1 => by
    show (enumD (k + 1) ds)[i]? = ds[i]?.map _
    rw [enumD_get ds (k + 1) i]
    have : k + 1 + i = k + (i + 1) := by omega
    rw [this]
theorem enumD_len : ∀ (ds : List Dt) (k : Nat), (enumD k ds).length = ds.length
  | [], _ => rfl
  | d :: ds, k => by
    show (enumD (k + 1) ds).length + 1 = _
    rw [enumD_len ds (k + 1)]
    rfl
section
variable {K : Frag} {mg : Str → Option Value} {Wx : WX} {tl tl2 : TE} {b b2 : ME}
def pxZ (vx vy : List V) (i : Nat) : V × V := (vx.getD i .non, vy.getD i .non)
def pxE (vx : List V) (i : Nat) : V × V := (.int (i : Nat), vx.getD i .non)
theorem getD_of {vx : List V} {i : Nat} (h : i < vx.length) : vx[i]? = some (vx.getD i .non) := by
  rw [List.getD_eq_getElem?_getD, List.getElem?_eq_getElem h]
  rfl
theorem den_at {h : Addr} {H : Hp} {vs : List V} {ds : List Dt} {i : Nat} (da : DenA K mg h H vs ds) (hi : i < vs.length) : ∃ d, ds[i]? = some d ∧ Den K mg h H (vs.getD i .non) d := da.getV (getD_of hi)
theorem zip_den {h : Addr} {H : Hp} {vx vy : List V} {xs ys : List Dt} (da : DenA K mg h H vx xs) (db : DenA K mg h H vy ys) : (zipD xs ys).length = min vx.length vy.length ∧ ∀ i, i < min vx.length vy.length → ∃ d e, (zipD xs ys)[i]? = some (.tup [d, e]) ∧ Den K mg h H (pxZ vx vy i).1 d ∧ Den K mg h H (pxZ vx vy i).2 e := by
  refine ⟨by rw [da.len, db.len]; exact List.length_zipWith, fun i hi => ?_⟩
  obtain ⟨d, h1, h2⟩ := den_at da (i := i) (by omega)
  obtain ⟨e, h3, h4⟩ := den_at db (i := i) (by omega)
  refine ⟨d, e, ?_, h2, h4⟩
  unfold zipD
  rw [List.getElem?_zipWith, h1, h3]
theorem enum_den {h : Addr} {H : Hp} {vx : List V} {xs : List Dt} (da : DenA K mg h H vx xs) : (enumD 0 xs).length = vx.length ∧ ∀ i, i < vx.length → ∃ d e, (enumD 0 xs)[i]? = some (.tup [d, e]) ∧ Den K mg h H (pxE vx i).1 d ∧ Den K mg h H (pxE vx i).2 e := by
  refine ⟨by rw [enumD_len, da.len], fun i hi => ?_⟩
  obtain ⟨d, h1, h2⟩ := den_at da hi
  refine ⟨_, d, ?_, .int _, h2⟩
  rw [enumD_get, h1]
  simp
end
end Mir


set_option Elab.async false
set_option linter.all false
set_option maxRecDepth 100000
/-! Loops and comprehensions over what gives couples, and over ranges with a step. -/
namespace Mir
open PySem PySem.Spec PyProof.Rows L2
open PySem.W (Frag)
section
variable {X : Cx} {Wx : WX} {e e2 e3 elt tg iter : Expr} {elts : List Expr} {kk : Nat} {tpos : Pos} {scope : Scope} {own : List (Str × Nat)} {pos p : Pos} {g : TG} {m : GM} {js : List Nat} {ifs body' : List Expr} {body : List Stmt} {mt : MT} {ma ma2 ma3 : ME} {mb : MS}
/-- what is walked, for one target -/
def QIp (X : Cx) (Wx : WX) (tg iter : Expr) (mi : MA) : Prop := ∃ wi, PI X tg iter wi ∧ SI X.K X.mg Wx wi mi ∧ ∀ x, foldedSetIterable iter X.env x = pure x
theorem qs_forp {mi : MA} (hp : PassesOwn (model X.prog X.w) X.A X.env X.xe) (hc : X.calm = true) (hi : QIp X Wx tg iter mi) (hg : QG X js tg g m) (hb : QSs X Wx body mb) : QS X Wx (.For tg iter body [] pos) (mFor m mi mb) := by
  obtain ⟨wi, q, s, hs⟩ := hi
  obtain ⟨tb, qb, sb⟩ := hb
  exact ⟨_, ps_for hp hc q hg.1 qb hs, s.for_ hg.2 sb⟩
theorem qe_lcp {mi : MA} {vs : List Nat} (hc : X.calm = true) (hN : X.N.Nodup) (hi : QIp X Wx tg iter mi) (ok : BlkOk X.N X.env.scope scope own) (hvs : own.map (·.2) = vs) (hv : ∀ j ∈ js, j ∈ vs) (hsg : SG X.K X.mg js g m)
    (hg : ∀ (s : Shared) (H : Hp) (C : Addr) (cl : List (Str × Addr)) (fp : List Addr), PG (X.blk s H scope (compEnvC scope cl C X.env) fp) tg g)
    (ht : ∀ (s : Shared) (H : Hp) (C : Addr) (cl : List (Str × Addr)) (fp : List Addr), QTs (X.blk s H scope (compEnvC scope cl C X.env) fp) ifs mt)
    (he : ∀ (s : Shared) (H : Hp) (C : Addr) (cl : List (Str × Addr)) (fp : List Addr), QE (X.blk s H scope (compEnvC scope cl C X.env) fp) WF elt ma) :
    QE X Wx (.ListComp elt [⟨tg, iter, ifs, 0⟩] scope pos) (mLc m mi mt ma vs) := by
  subst hvs
  obtain ⟨wi, q, s, hs⟩ := hi
  exact ⟨_, pe_lc hc hN q ok hg (fun s H C cl fp => (ht s H C cl fp).can) (fun s H C cl fp => (he s H C cl fp).can) hs, s.lc hsg hv st_cT se_cE⟩
theorem qs_setLcp {mi : MA} {vs : List Nat} (i : Nat) {y : Str} {py spos : Pos} (hc : X.calm = true) (hN : X.N.Nodup) (hi : QIp X Wx tg iter mi) (ok : BlkOk X.N X.env.scope scope own) (hvs : own.map (·.2) = vs) (hv : ∀ j ∈ js, j ∈ vs) (hsg : SG X.K X.mg js g m)
    (hg : ∀ (s : Shared) (H : Hp) (C : Addr) (cl : List (Str × Addr)) (fp : List Addr), PG (X.blk s H scope (compEnvC scope cl C X.env) fp) tg g)
    (ht : ∀ (s : Shared) (H : Hp) (C : Addr) (cl : List (Str × Addr)) (fp : List Addr), QTs (X.blk s H scope (compEnvC scope cl C X.env) fp) ifs mt)
    (he : ∀ (s : Shared) (H : Hp) (C : Addr) (cl : List (Str × Addr)) (fp : List Addr), QE (X.blk s H scope (compEnvC scope cl C X.env) fp) WF elt ma)
    (hy : X.N[i]? = some y := by rfl) (hyl : X.env.scope.names.lookup y = some .local := by rfl) (hsw : swapsWith (.ListComp elt [⟨tg, iter, ifs, 0⟩] scope pos) (some (.Name y py)) spos.line X.env = pure true := by exact sw_true rfl rfl rfl (by decide +kernel)) :
    QS X Wx (.Assign [.Name y py] (.ListComp elt [⟨tg, iter, ifs, 0⟩] scope pos) spos) (mSet i (mLc m mi mt ma vs)) := by
  subst hvs
  obtain ⟨wi, q, s, hs⟩ := hi
  exact ⟨_, ps_setLc hc hN hy hyl hsw q ok hg (fun s H C cl fp => (ht s H C cl fp).can) (fun s H C cl fp => (he s H C cl fp).can) hs, ss_set (s.lc hsg hv st_cT se_cE)⟩
theorem qf_lcp {mi : MA} {vs : List Nat} (hc : X.calm = true) (hN : X.N.Nodup) (hi : QIp X Wx tg iter mi) (ok : BlkOk X.N X.env.scope scope own) (hvs : own.map (·.2) = vs) (hv : ∀ j ∈ js, j ∈ vs) (hsg : SG X.K X.mg js g m)
    (hg : ∀ (s : Shared) (H : Hp) (C : Addr) (cl : List (Str × Addr)) (fp : List Addr), PG (X.blk s H scope (compEnvC scope cl C X.env) fp) tg g)
    (ht : ∀ (s : Shared) (H : Hp) (C : Addr) (cl : List (Str × Addr)) (fp : List Addr), QTs (X.blk s H scope (compEnvC scope cl C X.env) fp) ifs mt)
    (he : ∀ (s : Shared) (H : Hp) (C : Addr) (cl : List (Str × Addr)) (fp : List Addr), QE (X.blk s H scope (compEnvC scope cl C X.env) fp) WF elt ma) :
    QF X Wx (.ListComp elt [⟨tg, iter, ifs, 0⟩] scope pos) (mToL (mLc m mi mt ma vs)) := by
  subst hvs
  obtain ⟨wi, q, s, hs⟩ := hi
  exact ⟨_, pe_lc hc hN q ok hg (fun s H C cl fp => (ht s H C cl fp).can) (fun s H C cl fp => (he s H C cl fp).can) hs, sf_lc s hsg hv st_cT se_cE⟩
theorem qs_setLcOp {mi : MA} {vs : List Nat} (i : Nat) {y : Str} {py spos : Pos} (hc : X.calm = true) (hN : X.N.Nodup) (hi : QIp X Wx tg iter mi) (ok : BlkOk X.N X.env.scope scope own) (hvs : own.map (·.2) = vs) (hv : ∀ j ∈ js, j ∈ vs) (hsg : SG X.K X.mg js g m)
    (hg : ∀ (s : Shared) (H : Hp) (C : Addr) (cl : List (Str × Addr)) (fp : List Addr), PG (X.blk s H scope (compEnvC scope cl C X.env) fp) tg g)
    (ht : ∀ (s : Shared) (H : Hp) (C : Addr) (cl : List (Str × Addr)) (fp : List Addr), QTs (X.blk s H scope (compEnvC scope cl C X.env) fp) ifs mt)
    (he : ∀ (s : Shared) (H : Hp) (C : Addr) (cl : List (Str × Addr)) (fp : List Addr), QE (X.blk s H scope (compEnvC scope cl C X.env) fp) WF elt ma)
    (hy : X.N[i]? = some y := by rfl) (hyl : X.env.scope.names.lookup y = some .local := by rfl) (hsw : swapsWith (.ListComp elt [⟨tg, iter, ifs, 0⟩] scope pos) (some (.Name y py)) spos.line X.env = pure true := by exact sw_true rfl rfl rfl (by decide +kernel)) :
    QS X Wx (.Assign [.Name y py] (.ListComp elt [⟨tg, iter, ifs, 0⟩] scope pos) spos) (mSetO i (mToL (mLc m mi mt ma vs))) := by
  subst hvs
  obtain ⟨wi, q, s, hs⟩ := hi
  exact ⟨_, ps_setLc hc hN hy hyl hsw q ok hg (fun s H C cl fp => (ht s H C cl fp).can) (fun s H C cl fp => (he s H C cl fp).can) hs, ss_setO (sf_lc s hsg hv st_cT se_cE)⟩
end
end Mir


set_option Elab.async false
set_option linter.all false
set_option maxRecDepth 100000
/-! range(i, j, -1). -/
namespace Mir
open PySem PySem.Spec PyProof.Rows L2
open PySem.W (Frag)
/-- range downwards -/
def downD (i : Int) (n : Nat) : List Dt := (List.range n).map fun (k : Nat) => Dt.int (i + (k : Int) * -1)
theorem downD_len (i : Int) (n : Nat) : (downD i n).length = n := by
  unfold downD
  rw [List.length_map, List.length_range]
theorem downD_get {i : Int} {n k : Nat} (h : k < n) : (downD i n)[k]? = some (.int (i + (k : Int) * -1)) := by
  unfold downD
  rw [List.getElem?_map, List.getElem?_range h]
  rfl
def mRngD (a b : ME) : MA := fun ρ s => (a ρ s).bind fun d s1 => (b ρ s1).bind fun e s2 => match d, e with
  | .int i, .int j => if rngOk i ∧ rngOk j then .ok (downD i (i - j).toNat) s2 else .bad
  | _, _ => .bad
section
variable {K : Frag} {mg : Str → Option Value} {Wx : WX} {ta tl tl2 : TE} {tb : TS} {a b b2 : ME} {body : MS} {tt : TT} {mt : MT} {js vs : List Nat} {g : TG} {m : GM}
theorem for_down {h : Ent} {A B : Hp} {s : Hd} {σ : L2.St} {ρ : Env'} {D : Ends} {i0 : Int} {n : Nat} (hg : SG K mg js g m) (hb : SS K mg Wx tb body) (g1 : G h A B s) (S1 : Slots K mg h A B σ ρ) (p1 : PostS K mg h (loopF m body (downD i0 n) ρ s) A B Wx D) :
    ∃ W : Nat → Nat → L2.St → Hp → Prop, (∃ m, W 0 m σ B) ∧ ∀ i m σ H, W i m σ H →
      ((Itc i0 (-1) n).stop i H ∧ D.nx σ H) ∨ ((Itc i0 (-1) n).go i H ∧ ∃ N : L2.St → Hp → Prop, (∀ σ' H', N σ' H' → ∃ m', m' < m ∧ W (i + 1) m' σ' H') ∧ ∀ v H', (Itc i0 (-1) n).yld i H v H' → g v σ H' fun σ2 H2 => tb { D with nx := N, ct := N, bk := D.nx } σ2 H2) := by
  let Pv : Nat → L2.St → Hp → Prop := fun i σ' H' => ∃ A' s' ρ', Same A A' ∧ G h A' H' s' ∧ Slots K mg h A' H' σ' ρ' ∧ PostS K mg h (loopF m body ((downD i0 n).drop i) ρ' s') A' H' Wx D
  refine ⟨fun i m σ' H' => m = n - i ∧ i ≤ n ∧ Pv i σ' H', ⟨n, rfl, Nat.zero_le _, A, s, ρ, Same.refl _, g1, S1, p1⟩, ?_⟩
  rintro i m0 σ' H' ⟨rfl, hi, A', s', ρ', st', g', S', p'⟩
  by_cases hlt : i < n
  · refine .inr ⟨hlt, Pv (i + 1), fun σ2 H2 q => ⟨n - (i + 1), by omega, rfl, hlt, q⟩, fun v H2 y => ?_⟩
    obtain ⟨rfl, rfl⟩ := y
    rw [drop_cons (downD_get hlt)] at p'
    exact turn_ok hg hb g' S' (.int _) p' fun σ3 A3 B3 s3 ρ3 st3 g3 S3 p3 => ⟨A3, s3, ρ3, st'.trans st3, g3, S3, p3⟩
  · have e : i = n := by omega
    subst e
    have ed : (downD i0 i).drop i = [] := List.drop_eq_nil_of_le (Nat.le_of_eq (downD_len _ _))
    rw [ed] at p'
    exact .inl ⟨Nat.le_refl _, p' σ' A' H' (Same.refl _) g' S'⟩
theorem lc_down {h : Ent} {A B : Hp} {s : Hd} {σ : L2.St} {ρ : Env'} {Q : VK} {PF : R Dt → Prop} {i0 : Int} {n : Nat} (hbad : PF .bad → False) (fin : CWFin K mg PF h A B Q) (hg : SG K mg js g m) (hv : ∀ j ∈ js, j ∈ vs) (ht : ST K mg WF tt mt) (ha : SE K mg WF ta a) (g1 : G h A B s) (S1 : Slots K mg h A B σ ρ)
    (p1 : PF (loopC m mt a vs (downD i0 n) [] ρ s)) (D : Addr) (hD : B D = none) :
    ∃ W : Nat → Nat → Hp → Prop, (∃ m, W 0 m (upd B D (.lst []))) ∧ ∀ i m H, W i m H →
      ((Itc i0 (-1) n).stop i H ∧ Q (.ref D) H) ∨ ((Itc i0 (-1) n).go i H ∧ ∃ Nx : Hp → Prop, (∀ H', Nx H' → ∃ m', m' < m ∧ W (i + 1) m' H') ∧ ∀ x H', (Itc i0 (-1) n).yld i H x H' → g x (L2.wipe σ vs) H' fun σ2 H2 => L2.wipe σ2 vs = L2.wipe σ vs ∧ tt σ2 H2 fun b H3 =>
        if b = true then ta σ2 H3 fun y H4 => ∃ acc, H4 D = some (.lst acc) ∧ acc.length < sizeLine ∧ Nx (upd H4 D (.lst (acc ++ [y]))) else Nx H3) := by
  refine ⟨fun i m0 H' => m0 = n - i ∧ i ≤ n ∧ CW K mg PF m mt a vs h A B ρ D ((downD i0 n).drop i) H', ⟨n, rfl, Nat.zero_le _, cw_start g1 hD p1⟩, ?_⟩
  rintro i m0 H' ⟨rfl, hi, w⟩
  by_cases hlt : i < n
  · refine .inr ⟨hlt, fun H2 => CW K mg PF m mt a vs h A B ρ D ((downD i0 n).drop (i + 1)) H2, fun H2 q => ⟨n - (i + 1), by omega, rfl, hlt, q⟩, fun v H2 y => ?_⟩
    obtain ⟨rfl, rfl⟩ := y
    rw [drop_cons (downD_get hlt)] at w
    exact cw_turn hbad hg hv ht ha S1 w fun A' e => .int _
  · have e : i = n := by omega
    subst e
    have ed : (downD i0 i).drop i = [] := List.drop_eq_nil_of_le (Nat.le_of_eq (downD_len _ _))
    rw [ed] at w
    exact .inl ⟨Nat.le_refl _, cw_end fin w⟩
theorem se_m1 : SE K mg Wx (tUn (rU fun i => .int (-i)) (tC (.int 1))) (mUn fNeg (mC (.int 1))) := se_un us_neg (se_c fun _ _ => .int _)
theorem rng_neg {i j : Int} (c : rngOk i ∧ rngOk j) : RgC i j (-1) (i - j).toNat := by
  obtain ⟨⟨c1, c2⟩, c3, c4⟩ := c
  exact RgC.neg (by omega) (by omega) (by omega) (by omega)
theorem si_rngD {tm : TE} (hm : SE K mg Wx tm (mUn fNeg (mC (.int 1)))) (hb : SE K mg Wx tl b) (hb2 : SE K mg Wx tl2 b2) : SI K mg Wx (iRng3 (tCons tl (tCons tl2 (tCons tm tNil)))) (mRngD b b2) where
  for_ := by
    intro js g m tb body hg hbb h H0 H s σ ρ D g0 S p
    have p : PostS K mg h (((b ρ s).bind _).bind _) H0 H Wx D := p
    rw [R.bind_assoc] at p
    refine hb h H0 H s σ ρ _ g0 S (PostS.bind p fun d s1 x A B st g1 dx p1 => ?_)
    rw [R.bind_assoc] at p1
    refine hb2 h A B s1 σ ρ _ g1 (S.step st) (PostS.bind p1 fun d2 s2 x2 A2 B2 st2 g2 dx2 p2 => ?_)
    have S2 := S.step (st.trans st2)
    cases dx with
    | int i =>
      cases dx2 with
      | int j =>
        by_cases c : rngOk i ∧ rngOk j
        · simp only [if_pos c] at p2
          refine hm h A2 B2 s2 σ ρ _ g2 S2 ?_
          show Post K mg h (Den K mg h.a) (R.ok (.int (-1)) s2) A2 B2 Wx _
          intro v A3 B3 st3 g3 dv
          cases dv
          exact ⟨i, j, -1, (i - j).toNat, rfl, rng_neg c, for_down hg hbb g3 (S2.step st3) (PostS.step st3.s0 p2)⟩
        · simp only [if_neg c] at p2
          exact p2.elim
      | _ => exact p2.elim
    | _ => cases dx2 <;> exact p2.elim
  lcF := by
    intro js g m tt mt ta a vs hg hv ht ha h H0 H s σ ρ Q PF hbad herr fin0 g0 S p
    have p : PF (((b ρ s).bind _).bind _) := p
    rw [R.bind_assoc] at p
    refine hb h H0 H s σ ρ _ g0 S (Post.bindF hbad herr p fun d s1 x A B st g1 dx p1 => ?_)
    rw [R.bind_assoc] at p1
    refine hb2 h A B s1 σ ρ _ g1 (S.step st) (Post.bindF hbad (fun c fs ρ s z => ErrP.step st.s0 (herr c fs ρ s z)) p1 fun d2 s2 x2 A2 B2 st2 g2 dx2 p2 => ?_)
    have S2 := S.step (st.trans st2)
    cases dx with
    | int i =>
      cases dx2 with
      | int j =>
        by_cases c : rngOk i ∧ rngOk j
        · simp only [if_pos c] at p2
          refine hm h A2 B2 s2 σ ρ _ g2 S2 ?_
          show Post K mg h (Den K mg h.a) (R.ok (.int (-1)) s2) A2 B2 Wx _
          intro v A3 B3 st3 g3 dv
          cases dv
          exact ⟨i, j, -1, (i - j).toNat, rfl, rng_neg c, fun D hD => lc_down hbad (fin0 A3 B3 ((st.trans st2).trans st3)) hg hv ht ha g3 (S2.step st3) p2 D hD⟩
        · simp only [if_neg c] at p2
          exact (hbad p2).elim
      | _ => exact (hbad p2).elim
    | _ => cases dx2 <;> exact (hbad p2).elim
end
section
variable {X : Cx} {Wx : WX} {e e2 : Expr} {k : Nat} {p p1 p2 pos : Pos} {ma ma2 : ME}
theorem qi_rngD (hgr : Gl X "range") (hm : X.mg "range" = none) (hi : QE X Wx e ma) (hi2 : QE X Wx e2 ma2)
    (hs : starEach [e, e2, .UnaryOp .USub (.Constant (.int 1) k p1) p2] X.env = (false, eval e X.env) :: starEach [e2, .UnaryOp .USub (.Constant (.int 1) k p1) p2] X.env := by rfl)
    (hs2 : starEach [e2, .UnaryOp .USub (.Constant (.int 1) k p1) p2] X.env = (false, eval e2 X.env) :: starEach [.UnaryOp .USub (.Constant (.int 1) k p1) p2] X.env := by rfl)
    (hs3 : starEach [.UnaryOp .USub (.Constant (.int 1) k p1) p2] X.env = (false, eval (.UnaryOp .USub (.Constant (.int 1) k p1) p2) X.env) :: starEach [] X.env := by rfl)
    (hpl : (backTo pos (starEach [e2, .UnaryOp .USub (.Constant (.int 1) k p1) p2] X.env)).any (·.1) = false := by rfl)
    (hf : ∀ x, foldedSetIterable (.Call (.Name "range" p) [e, e2, .UnaryOp .USub (.Constant (.int 1) k p1) p2] [] pos) X.env x = pure x := by intro _; rfl) : QI X Wx (.Call (.Name "range" p) [e, e2, .UnaryOp .USub (.Constant (.int 1) k p1) p2] [] pos) (mRngD ma ma2) := by
  obtain ⟨t, q, s⟩ := hi
  obtain ⟨t2, q2, s2⟩ := hi2
  exact ⟨_, fun _ => pi_range3 hgr hm (pa_cons q (pa_cons q2 (pa_cons (pe_un un_neg pe_int) pa_nil hs3) hs2) hs) hs hpl, si_rngD se_m1 s s2, hf⟩
end
end Mir


set_option Elab.async false
set_option linter.all false
set_option maxRecDepth 100000
/-! zip and enumerate of lists and of tuples, mixed too. -/
namespace Mir
open PySem PySem.Spec PyProof.Rows L2
open PySem.W (Frag)
/-- a sequence of one kind: true a list, false a tuple -/
def SqK (k : Bool) (K : Frag) (H : Hp) (a : Addr) (xs : List V) : Prop := if k = true then SqL K H a xs else SqT K H a xs
def SrK (k : Bool) (h : Heap) (a : Addr) (its : Array Value) : Prop := if k = true then h.IsList a its else h.IsTuple a its
def ItK (k : Bool) (h : Heap) (it a : Addr) (i : Nat) : Prop := if k = true then h.IsListIter it a i else h.IsTupleIter it a i
def obK (k : Bool) (a : Addr) : Obj := if k = true then { cls := .type "list_iterator", data := .fields #[.ref a, .int 0 0] } else { cls := .type "tuple_iterator", data := .fields #[.ref a, .int 0 0] }
theorem begK (k : Bool) (a : Addr) (its : Array Value) : Begins (.ref a) (obK k a) fun h => SrK k h a its := by
  cases k with
  | true => exact begins_list a its
  | false => exact begins_tuple a its
theorem itK_of {k : Bool} {h : Heap} {it a : Addr} (e : h.get? it = some (obK k a)) : ItK k h it a 0 := by
  cases k with
  | true => exact ⟨_, e, rfl, rfl⟩
  | false => exact ⟨_, e, rfl, rfl⟩
theorem itK_get {k : Bool} {h : Heap} {it a : Addr} {i : Nat} (e : ItK k h it a i) : ∃ o, h.get? it = some o ∧ ∀ v, o.data ≠ .cell v := by
  cases k with
  | true =>
    obtain ⟨o, e1, _, d⟩ := e
    exact ⟨o, e1, fun v q => by rw [d] at q; cases q⟩
  | false =>
    obtain ⟨o, e1, _, d⟩ := e
    exact ⟨o, e1, fun v q => by rw [d] at q; cases q⟩
theorem itK_at {k : Bool} {h h' : Heap} {it a : Addr} {i : Nat} (e : ItK k h it a i) (q : ∀ o, h.get? it = some o → h'.get? it = some o) : ItK k h' it a i := by
  cases k with
  | true => exact Heap.IsListIter.at e q
  | false => exact Heap.IsTupleIter.at e q
theorem drawK {P : Program} {w : World} {A : Around} (hh : A.handled = none) (k : Bool) (it a : Addr) (hne : a ≠ it) (its : Array Value) : Draws P w A it [it, a] its.size (fun i v => its[i]? = some v) (fun i h => ItK k h it a i ∧ SrK k h a its) := by
  cases k with
  | true => exact Draws.list hh it a hne its
  | false => exact Draws.tuple hh it a hne its
section
variable {X : Cx} {pins : List (Addr × Obj)} {σ : L2.St} {H : Hp} {s : Shared} {a : Addr} {xs ys : List V}
theorem invK (I : Inv X pins σ H s) {k : Bool} (h : SqK k X.K H a xs) : ∃ its : List Value, Vals xs its ∧ SrK k s.heap a its.toArray ∧ a < s.heap.objs.size := by
  cases k with
  | true =>
    obtain ⟨its, r, p, _⟩ := I.list h
    exact ⟨its, r, p.isList, p.lt⟩
  | false =>
    obtain ⟨its, r, p, _⟩ := I.tuple h
    obtain ⟨o, e, _⟩ := id p
    exact ⟨its, r, p, Heap.lt_size e⟩
theorem injK (I : Inv X pins σ H s) {k : Bool} (h : SqK k X.K H a xs) (h' : SqK k X.K H a ys) : xs = ys := by
  cases k with
  | true => exact I.list_inj h h'
  | false => exact I.tuple_inj h h'
end
/-- the turns of zip: both sequences as they stand, the items in new couples -/
def ItZ (k1 k2 : Bool) (K : Frag) (a b : Addr) : It where
  go := fun i H => ∃ (xs ys : List V) (x y : V), SqK k1 K H a xs ∧ SqK k2 K H b ys ∧ xs[i]? = some x ∧ ys[i]? = some y
  yld := fun i H v H' => ∃ T x y, v = .ref T ∧ H T = none ∧ H' = upd H T (.tup [x, y]) ∧ (∀ xs, SqK k1 K H a xs → xs[i]? = some x) ∧ ∀ ys, SqK k2 K H b ys → ys[i]? = some y
  stop := fun i H => ∃ xs ys : List V, SqK k1 K H a xs ∧ SqK k2 K H b ys ∧ i = min xs.length ys.length
def tnZ (k1 k2 : Bool) (a b z TI TO i1 i2 : Addr) (i : Nat) (h : Heap) : Prop := IsZip h z TI TO .none ∧ IsTupOf2 h TI (.ref i1) (.ref i2) ∧ (∃ u v, IsTupOf2 h TO u v) ∧ ItK k1 h i1 a i ∧ ItK k2 h i2 b i
theorem turnZ {P : Program} {w : World} {K : Frag} {elts : List Expr} {kk : Nat} {tpos : Pos} {k1 k2 : Bool} {a b z TI TO i1 i2 : Addr} (S : ZipSep2 z TI TO i1 i2 [i1, a] [i2, b]) (na : a ≠ i1) (nb : b ≠ i2) :
    Turn P w K (.Tuple elts kk tpos) (ItZ k1 k2 K a b) [z, TI, TO, i1, i2] z (tnZ k1 k2 a b z TI TO i1 i2) where
  mem := by simp
  obj := fun i h st c hc => by
    obtain ⟨hz, hTI, ⟨u, v, hTO⟩, s1, s2⟩ := st
    have cs : c = z ∨ c = TI ∨ c = TO ∨ c = i1 ∨ c = i2 := by simpa using hc
    rcases cs with rfl | rfl | rfl | rfl | rfl
    · exact ⟨_, hz, fun v q => nomatch q⟩
    · exact ⟨_, hTI, fun v q => nomatch q⟩
    · exact ⟨_, hTO, fun v q => nomatch q⟩
    · exact itK_get s1
    · exact itK_get s2
  keep := fun i h h' st q => by
    obtain ⟨hz, hTI, ⟨u, v, hTO⟩, s1, s2⟩ := st
    exact ⟨q z (by simp) _ hz, q TI (by simp) _ hTI, ⟨u, v, q TO (by simp) _ hTO⟩, itK_at s1 fun o e => q i1 (by simp) o e, itK_at s2 fun o e => q i2 (by simp) o e⟩
  item := by
    intro X hP hw hK hc i pins s σ H E I hf st hg
    subst hP hw hK
    obtain ⟨hz, hTI, hTO, s1, s2⟩ := id st
    obtain ⟨xs, ys, x, y, qx, qy, hx, hy⟩ := hg
    obtain ⟨its, rv, p1, _⟩ := invK I qx
    obtain ⟨its2, rv2, p2, _⟩ := invK I qy
    obtain ⟨u, hu, ru⟩ := rv.get hx
    obtain ⟨u2, hu2, ru2⟩ := rv2.get hy
    have hh : (X.A.in1).handled = none := I.ok.hd hc
    have W := WalksT.zipD2 (prog := X.prog) (w := X.w) (A := X.A) S (drawK hh k1 i1 a na its.toArray) (drawK hh k2 i2 b nb its2.toArray)
    have li : i < its.length := (List.getElem?_eq_some_iff.mp hu).1
    have li2 : i < its2.length := (List.getElem?_eq_some_iff.mp hu2).1
    refine W.item i s _ _ (by rw [List.size_toArray, List.size_toArray]; omega) ⟨hz, hTI, hTO, ⟨s1, p1⟩, ⟨s2, p2⟩⟩ fun T vals h1 tk pt hT tT mid kp => ⟨_, rfl, ?_⟩
    refine W.go elts kk tpos i T { s with heap := h1, toks := tk } _ _ mid fun h2 st2 kp2 => ?_
    obtain ⟨v1, v2, e1, e2, rfl⟩ := pt
    have e1 : v1 = u := by
      have : its[i]? = some v1 := by simpa using e1
      rw [hu] at this
      cases this
      rfl
    have e2 : v2 = u2 := by
      have : its2[i]? = some v2 := by simpa using e2
      rw [hu2] at this
      cases this
      rfl
    subst e1 e2
    have nT : T ∉ [z, TO, i1, i2] := W.apart i T _ mid
    have tT2 : h2.IsTuple T #[v1, v2] := by
      obtain ⟨o, g1, g2⟩ := tT
      exact ⟨o, kp2 T o nT g1, g2⟩
    have hff : ∀ c ∈ [z, TO, i1, i2], FpOk X pins H c := fun c hcm => hf c (by
      have cs : c = z ∨ c = TO ∨ c = i1 ∨ c = i2 := by simpa using hcm
      rcases cs with rfl | rfl | rfl | rfl <;> simp)
    have I1 : Inv X pins σ (upd H T (.tup [x, y])) { s with heap := h2, toks := tk } :=
      I.turnedNew (ch := [z, TO, i1, i2]) (fun c o hb q => kp2 c o hb (kp c o hb q)) hff hT ⟨by show 2 ≤ sizeLine; decide, [v1, v2], .cons ru (.cons ru2 .nil), tT2⟩
    obtain ⟨hz', hTI', hTO', ⟨s1', _⟩, ⟨s2', _⟩⟩ := st2
    refine ⟨.ref T, _, I1, rfl, ⟨T, x, y, rfl, I.hok.fresh hT, rfl, fun l hl => by rw [injK I hl qx]; exact hx, fun l hl => by rw [injK I hl qy]; exact hy⟩, ⟨hz', hTI', hTO', s1', s2'⟩, fun c hcm => ?_⟩
    have lt : c < s.heap.objs.size := by
      have cs : c = z ∨ c = TI ∨ c = TO ∨ c = i1 ∨ c = i2 := by simpa using hcm
      obtain ⟨u', v', hTO⟩ := hTO
      rcases cs with rfl | rfl | rfl | rfl | rfl
      · exact Heap.lt_size hz
      · exact Heap.lt_size hTI
      · exact Heap.lt_size hTO
      · obtain ⟨_, q, _⟩ := itK_get s1
        exact Heap.lt_size q
      · obtain ⟨_, q, _⟩ := itK_get s2
        exact Heap.lt_size q
    rw [upd_ne (Nat.ne_of_lt (Nat.lt_of_lt_of_le lt hT))]
    exact (hf c hcm).1
  done := by
    intro X hP hw hK hc i pins s σ H E I hf st hg
    subst hP hw hK
    obtain ⟨hz, hTI, hTO, s1, s2⟩ := id st
    obtain ⟨xs, ys, qx, qy, hend⟩ := hg
    obtain ⟨its, rv, p1, _⟩ := invK I qx
    obtain ⟨its2, rv2, p2, _⟩ := invK I qy
    have l1 := rv.length
    have l2 := rv2.length
    have hh : (X.A.in1).handled = none := I.ok.hd hc
    have W := WalksT.zipD2 (prog := X.prog) (w := X.w) (A := X.A) S (drawK hh k1 i1 a na its.toArray) (drawK hh k2 i2 b nb its2.toArray)
    have hn : i = min its.toArray.size its2.toArray.size := by
      rw [List.size_toArray, List.size_toArray]
      omega
    subst hn
    refine W.done s _ _ ⟨hz, hTI, hTO, ⟨s1, p1⟩, ⟨s2, p2⟩⟩ fun h' tk kp => ⟨rfl, I.turnedL (t' := tk) (ch := [z, TI, TO, i1, i2]) (fun c o hb q => kp c o (fun m => hb (by
      have cs : c = z ∨ c = TO ∨ c = i1 ∨ c = i2 := by simpa using m
      rcases cs with rfl | rfl | rfl | rfl <;> simp)) q) hf⟩
  self := fun A i s Q E st h => wpAny_pyIter_zip st.1 h
def iZipK (K : Frag) (ta : TA) : TI := fun σ H R => ta σ H fun vs H1 => ∃ (k1 k2 : Bool) (a b : Addr) (xs ys : List V), vs = [.ref a, .ref b] ∧ SqK k1 K H1 a xs ∧ SqK k2 K H1 b ys ∧ R (ItZ k1 k2 K a b) H1
theorem pi_zipK {X : Cx} {e e2 : Expr} {ta : TA} {p pos tpos : Pos} {elts : List Expr} {kk : Nat} (hg : Gl X "zip") (hm : X.mg "zip" = none) (ha : PA X [e, e2] ta)
    (hs : starEach [e, e2] X.env = (false, eval e X.env) :: starEach [e2] X.env := by rfl) (hpl : (backTo pos (starEach [e2] X.env)).any (·.1) = false := by rfl) : PI X (.Tuple elts kk tpos) (.Call (.Name "zip" p) [e, e2] [] pos) (iZipK X.K ta) := by
  refine ⟨fun pins s σ H R I h => Call_ (ld_blt I hg hm PyProof.Rows.boot_zip (PyProof.Rows.callWith_type1 (thn (ha.run pos pins s σ H _ I h) fun us s1 ⟨vs, H1, I1, r1, q1⟩ => ?_) hs hpl))⟩
  obtain ⟨k1, k2, a, b, xs, ys, rfl, qx, qy, q⟩ := q1
  obtain ⟨u1, u2, rfl, hr1, hr2⟩ := vals2 r1
  cases hr1
  cases hr2
  obtain ⟨its, rv, p1, la⟩ := invK I1 qx
  obtain ⟨its2, rv2, p2, lb⟩ := invK I1 qy
  refine zip_begins2 (begK k1 a its.toArray) (begK k2 b its2.toArray) p1 p2 fun h' hz hTI hTO g1 g2 hsz hk => wpAny_pyIter_zip hz ?_
  have I2 : Inv X pins σ H1 { s1 with heap := h' } := I1.kept (t' := s1.toks) hk
  have S := zip_sep2 (N := s1.heap.objs.size) (fp1 := [a]) (fp2 := [b]) (fun c hc => by rw [List.mem_singleton.mp hc]; exact la) (fun c hc => by rw [List.mem_singleton.mp hc]; exact lb)
  refine ⟨_, [s1.heap.objs.size + 4, s1.heap.objs.size + 2, s1.heap.objs.size + 3, s1.heap.objs.size, s1.heap.objs.size + 1], _, _, H1, rfl, I2, turnZ (k1 := k1) (k2 := k2) S (Nat.ne_of_lt la) (Nat.ne_of_lt (Nat.lt_succ_of_lt lb)), ⟨hz, hTI, ⟨_, _, hTO⟩, itK_of g1, itK_of g2⟩, fun c hcm => ?_, q⟩
  have hle : s1.heap.objs.size ≤ c := by
    have cs : c = s1.heap.objs.size + 4 ∨ c = s1.heap.objs.size + 2 ∨ c = s1.heap.objs.size + 3 ∨ c = s1.heap.objs.size ∨ c = s1.heap.objs.size + 1 := by simpa using hcm
    rcases cs with z | z | z | z | z <;> rw [z]
    · exact Nat.le_add_right _ _
    · exact Nat.le_add_right _ _
    · exact Nat.le_add_right _ _
    · exact Nat.le_refl _
    · exact Nat.le_add_right _ _
  exact I1.fpOk hle (I1.hok.fresh hle)
end Mir


set_option Elab.async false
set_option linter.all false
set_option maxRecDepth 100000
/-! enumerate of lists and of tuples; the loops over zip and enumerate. -/
namespace Mir
open PySem PySem.Spec PyProof.Rows L2
open PySem.W (Frag)
set_option maxHeartbeats 2000000 in
theorem meets_enumK {v : Value} {o : Obj} {H : Heap → Prop} (B : Begins v o H) : Meets (Builtin.«enumerate.__new__» ⟨[.type "enumerate", v], []⟩) (fun _ R s => H s.heap ∧ R (.ok (.ret (.ref (s.heap.push o).objs.size))) { s with heap := (s.heap.push o).push { cls := .type "enumerate", data := .fields #[.none, .bool false, .ref s.heap.objs.size, rawInt 0, .none, .none] } }) := by
  refine .of_wp fun prog w A R s h => ?_
  obtain ⟨hp, g, d, tk, os⟩ := s
  obtain ⟨h1, h⟩ := h
  have hsub := sub_enumerate
  have q1 : ∀ {A' : Around} {E : Value → Shared → Prop} {Q : Value → Shared → Prop}, Q (.ref hp.objs.size) ⟨hp.push o, g, d, tk, os⟩ → wpAny (model prog w) A' (pyIter v) Q E ⟨hp, g, d, tk, os⟩ := fun q => B.iter prog w _ _ _ _ h1 q
  wp_walk using q1; refine wpAny_stack_any fun st => wpAny_pure ?_; split
  · rename_i c _ _ _ _ _; cases (c == Value.type "enumerate") <;> (wp_walk using q1; exact ⟨_, rfl, h⟩)
  · wp_walk using q1; exact ⟨_, rfl, h⟩
section
variable {prog : Program} {w : World} {A : Around} {E : Value → Shared → Prop} {s : Shared}
theorem call_enumK {v : Value} {o : Obj} {H : Heap → Prop} {Q : Value → Shared → Prop} (B : Begins v o H) (h1 : H s.heap)
    (h : ∀ h', IsEnum h' (s.heap.objs.size + 1) s.heap.objs.size 0 .none → h'.get? s.heap.objs.size = some o → (∀ b o, s.heap.get? b = some o → h'.get? b = some o) → Q (.ref (s.heap.objs.size + 1)) { s with heap := h' }) : wpAny (model prog w) A (call (.type "enumerate") [v]) Q E s := by
  refine callType_new F.called_enumerate (by decide) (F.typeCall_enumerate_1 _) (F.newCall_enumerate_1 _) (fun obj => F.args_object_init_2 obj _) F.entry_enumerate_new (meets_enumK B) ⟨h1, ?_⟩
  have hz : (s.heap.push o).objs.size = s.heap.objs.size + 1 := Heap.size_push ..
  have he := Heap.get?_push_size (s.heap.push o) (o := { cls := .type "enumerate", data := .fields #[.none, .bool false, .ref s.heap.objs.size, rawInt 0, .none, .none] }) rfl
  show _ ∧ _
  rw [hz] at he ⊢
  exact ⟨⟨_, he, rfl⟩, h _ he (Heap.get?_push_of_some _ (Heap.get?_push_size _ B.free)) fun b o x => Heap.get?_push_of_some _ (Heap.get?_push_of_some _ x)⟩
end
/-- the turns of enumerate -/
def ItE (k : Bool) (K : Frag) (a : Addr) : It where
  go := fun i H => ∃ (xs : List V) (x : V), SqK k K H a xs ∧ xs[i]? = some x
  yld := fun i H v H' => ∃ T x, v = .ref T ∧ H T = none ∧ H' = upd H T (.tup [.int (i : Nat), x]) ∧ ∀ xs, SqK k K H a xs → xs[i]? = some x
  stop := fun i H => ∃ xs : List V, SqK k K H a xs ∧ i = xs.length
def tnE (k : Bool) (a e it : Addr) (i : Nat) (h : Heap) : Prop := (∃ old, IsEnum h e it ((i : Nat) : Int) old) ∧ ItK k h it a i
theorem turnE {P : Program} {w : World} {K : Frag} {elts : List Expr} {kk : Nat} {tpos : Pos} {k : Bool} {a e it : Addr} (na : a ≠ it) (ne : e ≠ it) (nea : e ≠ a) : Turn P w K (.Tuple elts kk tpos) (ItE k K a) [e, it] e (tnE k a e it) where
  mem := by simp
  obj := fun i h st c hc => by
    obtain ⟨⟨old, he⟩, s1⟩ := st
    have cs : c = e ∨ c = it := by simpa using hc
    rcases cs with rfl | rfl
    · exact ⟨_, he, fun v q => nomatch q⟩
    · exact itK_get s1
  keep := fun i h h' st q => by
    obtain ⟨⟨old, he⟩, s1⟩ := st
    exact ⟨⟨old, q e (by simp) _ he⟩, itK_at s1 fun o w => q it (by simp) o w⟩
  item := by
    intro X hP hw hK hc i pins s σ H E I hf st hg
    subst hP hw hK
    obtain ⟨he, s1⟩ := id st
    obtain ⟨xs, x, qx, hx⟩ := hg
    obtain ⟨its, rv, p1, _⟩ := invK I qx
    obtain ⟨u, hu, ru⟩ := rv.get hx
    have hh : (X.A.in1).handled = none := I.ok.hd hc
    have W := WalksT.enumerateD (drawK (P := X.prog) (w := X.w) hh k it a na its.toArray) e ne (by simp [ne, nea]) (by simp)
    have li : i < its.length := (List.getElem?_eq_some_iff.mp hu).1
    refine W.item i s _ _ (by rw [List.size_toArray]; exact li) ⟨he, s1, p1⟩ fun T vals h1 tk pt hT tT mid kp => ⟨_, rfl, ?_⟩
    refine W.go elts kk tpos i T { s with heap := h1, toks := tk } _ _ mid fun h2 st2 kp2 => ?_
    obtain ⟨t, v1, e1, rfl⟩ := pt
    have e1 : v1 = u := by
      have : its[i]? = some v1 := by simpa using e1
      rw [hu] at this
      cases this
      rfl
    subst e1
    have nT : T ∉ [e, it] := W.apart i T _ mid
    have tT2 : h2.IsTuple T #[.int i t, v1] := by
      obtain ⟨o, g1, g2⟩ := tT
      exact ⟨o, kp2 T o nT g1, g2⟩
    have I1 : Inv X pins σ (upd H T (.tup [.int (i : Nat), x])) { s with heap := h2, toks := tk } :=
      I.turnedNew (ch := [e, it]) (fun c o hb q => kp2 c o hb (kp c o hb q)) hf hT ⟨by show 2 ≤ sizeLine; decide, [.int i t, v1], .cons ⟨_, rfl⟩ (.cons ru .nil), tT2⟩
    obtain ⟨⟨old2, he2⟩, s1', _⟩ := st2
    refine ⟨.ref T, _, I1, rfl, ⟨T, x, rfl, I.hok.fresh hT, rfl, fun l hl => by rw [injK I hl qx]; exact hx⟩, ⟨⟨old2, he2⟩, s1'⟩, fun c hcm => ?_⟩
    have lt : c < s.heap.objs.size := by
      have cs : c = e ∨ c = it := by simpa using hcm
      obtain ⟨old, he⟩ := he
      rcases cs with rfl | rfl
      · exact Heap.lt_size he
      · obtain ⟨_, q, _⟩ := itK_get s1
        exact Heap.lt_size q
    rw [upd_ne (Nat.ne_of_lt (Nat.lt_of_lt_of_le lt hT))]
    exact (hf c hcm).1
  done := by
    intro X hP hw hK hc i pins s σ H E I hf st hg
    subst hP hw hK
    obtain ⟨he, s1⟩ := id st
    obtain ⟨xs, qx, hend⟩ := hg
    obtain ⟨its, rv, p1, _⟩ := invK I qx
    have hh : (X.A.in1).handled = none := I.ok.hd hc
    have W := WalksT.enumerateD (drawK (P := X.prog) (w := X.w) hh k it a na its.toArray) e ne (by simp [ne, nea]) (by simp)
    have hn : i = its.toArray.size := by
      rw [List.size_toArray, hend]
      exact rv.length
    subst hn
    exact W.done s _ _ ⟨he, s1, p1⟩ fun h' tk kp => ⟨rfl, I.turnedL (t' := tk) (ch := [e, it]) (fun c o hb q => kp c o hb q) hf⟩
  self := fun A i s Q E st h => by
    obtain ⟨⟨_, he⟩, _⟩ := st
    exact wpAny_pyIter_enum he h
def iEnumK (K : Frag) (ta : TA) : TI := fun σ H R => ta σ H fun vs H1 => ∃ (k : Bool) (a : Addr) (xs : List V), vs = [.ref a] ∧ SqK k K H1 a xs ∧ R (ItE k K a) H1
theorem pi_enumK {X : Cx} {e : Expr} {ta : TA} {p pos tpos : Pos} {elts : List Expr} {kk : Nat} (hg : Gl X "enumerate") (hm : X.mg "enumerate" = none) (ha : PA X [e] ta) (hs : starEach [e] X.env = [(false, eval e X.env)] := by rfl) : PI X (.Tuple elts kk tpos) (.Call (.Name "enumerate" p) [e] [] pos) (iEnumK X.K ta) := by
  refine ⟨fun pins s σ H R I h => Call_ (ld_blt I hg hm boot_enumerate (PyProof.Rows.callWith_type1 (thn (ha.run pos pins s σ H _ I h) fun us s1 ⟨vs, H1, I1, r1, q1⟩ => ?_) hs rfl))⟩
  obtain ⟨k, a, xs, rfl, qx, q⟩ := q1
  obtain ⟨u1, rfl, hr1⟩ := vals1 r1
  cases hr1
  obtain ⟨its, rv, p1, la⟩ := invK I1 qx
  refine call_enumK (begK k a its.toArray) p1 fun h' he g1 hk => wpAny_pyIter_enum he ?_
  refine ⟨_, [s1.heap.objs.size + 1, s1.heap.objs.size], _, _, H1, rfl, I1.kept (t' := s1.toks) hk, turnE (k := k) (Nat.ne_of_lt la) (Nat.succ_ne_self _) (Nat.ne_of_gt (Nat.lt_succ_of_lt la)), ⟨⟨_, he⟩, itK_of g1⟩, fun c hcm => ?_, q⟩
  have hle : s1.heap.objs.size ≤ c := by
    have cs : c = s1.heap.objs.size + 1 ∨ c = s1.heap.objs.size := by simpa using hcm
    rcases cs with z | z <;> rw [z]
    · exact Nat.le_add_right _ _
    · exact Nat.le_refl _
  exact I1.fpOk hle (I1.hok.fresh hle)
end Mir


set_option Elab.async false
set_option linter.all false
set_option maxRecDepth 100000
/-! zip and enumerate: what a loop and a comprehension over them say. -/
namespace Mir
open PySem PySem.Spec PyProof.Rows L2
open PySem.W (Frag)
def seqD : Dt → Option (List Dt)
  | .lst xs => some xs
  | .tup xs => some xs
  | _ => none
def mZip (a b : ME) : MA := fun ρ s => (a ρ s).bind fun d s1 => (b ρ s1).bind fun e s2 => match seqD d, seqD e with
  | some xs, some ys => .ok (zipD xs ys) s2
  | _, _ => .bad
def mEnum (a : ME) : MA := fun ρ s => (a ρ s).bind fun d s1 => match seqD d with
  | some xs => .ok (enumD 0 xs) s1
  | _ => .bad
section
variable {K : Frag} {mg : Str → Option Value} {Wx : WX} {tl tl2 : TE} {b b2 : ME}
theorem sqK_mono {k : Bool} {H H' : Hp} {a : Addr} {xs : List V} (e : ∀ b o, H b = some o → H' b = some o) (q : SqK k K H a xs) (hl : k = true → H a = some (.lst xs)) : SqK k K H' a xs := by
  cases k with
  | true => exact SqL.of (e _ _ (hl rfl))
  | false => exact sqt_mono e q
/-- a sequence among the data -/
structure SeqAt' (K : Frag) (mg : Str → Option Value) (h : Addr) (H : Hp) (x : V) (xs : List Dt) (k : Bool) (a : Addr) (vs : List V) : Prop where
  ref : x = .ref a
  da : DenA K mg h H vs xs
  at' : ∀ H', (∀ b o, H b = some o → H' b = some o) → SqK k K H' a vs
theorem seq_at {h : Addr} {H : Hp} {x : V} {d : Dt} {xs : List Dt} (dx : Den K mg h H x d) (e : seqD d = some xs) : ∃ k a vs, SeqAt' K mg h H x xs k a vs := by
  cases dx with
  | @lst a vs ds qa ra =>
    cases e
    exact ⟨true, a, vs, rfl, ra, fun H' q => SqL.of (q _ _ qa)⟩
  | @tup a vs ds qa ra =>
    cases e
    exact ⟨false, a, vs, rfl, ra, fun H' q => sqt_mono q qa⟩
  | _ => cases e
theorem pw_zip {k1 k2 : Bool} {a c : Addr} {vx vy : List V} : PairW (ItZ k1 k2 K a c) (fun H => SqK k1 K H a vx ∧ SqK k2 K H c vy) (min vx.length vy.length) (pxZ vx vy) where
  go := fun ok hi => ⟨vx, vy, _, _, ok.1, ok.2, getD_of (by omega), getD_of (by omega)⟩
  yld := fun {i H v H'} ok hi y => by
    obtain ⟨T, x, z, rfl, hT, rfl, f1, f2⟩ := y
    have e1 := f1 vx ok.1
    have e2 := f2 vy ok.2
    rw [getD_of (show i < vx.length by omega)] at e1
    rw [getD_of (show i < vy.length by omega)] at e2
    cases e1
    cases e2
    exact ⟨T, rfl, hT, rfl⟩
  stop := fun ok => ⟨vx, vy, ok.1, ok.2, rfl⟩
theorem pw_enum {k : Bool} {a : Addr} {vx : List V} : PairW (ItE k K a) (fun H => SqK k K H a vx) vx.length (pxE vx) where
  go := fun ok hi => ⟨vx, _, ok, getD_of hi⟩
  yld := fun {i H v H'} ok hi y => by
    obtain ⟨T, x, rfl, hT, rfl, f1⟩ := y
    have e1 := f1 vx ok
    rw [getD_of hi] at e1
    cases e1
    exact ⟨T, rfl, hT, rfl⟩
  stop := fun ok => ⟨vx, ok, rfl⟩
theorem si_zip (hb : SE K mg Wx tl b) (hb2 : SE K mg Wx tl2 b2) : SI K mg Wx (iZipK K (tCons tl (tCons tl2 tNil))) (mZip b b2) where
  for_ := by
    intro js g m tb body hg hbb h H0 H s σ ρ D g0 S p
    have p : PostS K mg h (((b ρ s).bind _).bind _) H0 H Wx D := p
    rw [R.bind_assoc] at p
    refine hb h H0 H s σ ρ _ g0 S (PostS.bind p fun d s1 x A B st g1 dx p1 => ?_)
    rw [R.bind_assoc] at p1
    refine hb2 h A B s1 σ ρ _ g1 (S.step st) (PostS.bind p1 fun d2 s2 x2 A2 B2 st2 g2 dx2 p2 => ?_)
    cases e1 : seqD d with
    | none =>
      simp only [e1] at p2
      exact p2.elim
    | some xs =>
      cases e2 : seqD d2 with
      | none =>
        simp only [e1, e2] at p2
        exact p2.elim
      | some ys =>
        simp only [e1, e2] at p2
        obtain ⟨k1, a, vx, q1⟩ := seq_at (dx.mono st2.s0) e1
        obtain ⟨k2, c, vy, q2⟩ := seq_at dx2 e2
        obtain ⟨z1, z2⟩ := zip_den q1.da q2.da
        exact ⟨k1, k2, a, c, vx, vy, by rw [q1.ref, q2.ref], q1.at' _ g2.ex, q2.at' _ g2.ex, for_pairs pw_zip (fun A' B' s' e g' => ⟨q1.at' _ fun b o w => g'.ex _ _ (e _ _ w), q2.at' _ fun b o w => g'.ex _ _ (e _ _ w)⟩) z1 z2 hg hbb g2 (S.step (st.trans st2)) p2⟩
  lcF := by
    intro js g m tt mt ta a vs hg hv ht ha h H0 H s σ ρ Q PF hbad herr fin0 g0 S p
    have p : PF (((b ρ s).bind _).bind _) := p
    rw [R.bind_assoc] at p
    refine hb h H0 H s σ ρ _ g0 S (Post.bindF hbad herr p fun d s1 x A B st g1 dx p1 => ?_)
    rw [R.bind_assoc] at p1
    refine hb2 h A B s1 σ ρ _ g1 (S.step st) (Post.bindF hbad (fun c fs ρ s z => ErrP.step st.s0 (herr c fs ρ s z)) p1 fun d2 s2 x2 A2 B2 st2 g2 dx2 p2 => ?_)
    cases e1 : seqD d with
    | none =>
      simp only [e1] at p2
      exact (hbad p2).elim
    | some xs =>
      cases e2 : seqD d2 with
      | none =>
        simp only [e1, e2] at p2
        exact (hbad p2).elim
      | some ys =>
        simp only [e1, e2] at p2
        obtain ⟨k1, aa, vx, q1⟩ := seq_at (dx.mono st2.s0) e1
        obtain ⟨k2, c, vy, q2⟩ := seq_at dx2 e2
        obtain ⟨z1, z2⟩ := zip_den q1.da q2.da
        exact ⟨k1, k2, aa, c, vx, vy, by rw [q1.ref, q2.ref], q1.at' _ g2.ex, q2.at' _ g2.ex, fun D hD => lc_pairs pw_zip (fun A' B' s' e g' => ⟨q1.at' _ fun b o w => g'.ex _ _ (e _ _ w), q2.at' _ fun b o w => g'.ex _ _ (e _ _ w)⟩) z1 z2 hbad (fin0 A2 B2 (st.trans st2)) hg hv ht ha g2 (S.step (st.trans st2)) p2 D hD⟩
theorem si_enum (hb : SE K mg Wx tl b) : SI K mg Wx (iEnumK K (tCons tl tNil)) (mEnum b) where
  for_ := by
    intro js g m tb body hg hbb h H0 H s σ ρ D g0 S p
    have p : PostS K mg h (((b ρ s).bind _).bind _) H0 H Wx D := p
    rw [R.bind_assoc] at p
    refine hb h H0 H s σ ρ _ g0 S (PostS.bind p fun d s1 x A B st g1 dx p1 => ?_)
    cases e1 : seqD d with
    | none =>
      simp only [e1] at p1
      exact p1.elim
    | some xs =>
      simp only [e1] at p1
      obtain ⟨k, a, vx, q1⟩ := seq_at dx e1
      obtain ⟨z1, z2⟩ := enum_den q1.da
      exact ⟨k, a, vx, by rw [q1.ref], q1.at' _ g1.ex, for_pairs pw_enum (fun A' B' s' e g' => q1.at' _ fun b o w => g'.ex _ _ (e _ _ w)) z1 z2 hg hbb g1 (S.step st) p1⟩
  lcF := by
    intro js g m tt mt ta a vs hg hv ht ha h H0 H s σ ρ Q PF hbad herr fin0 g0 S p
    have p : PF (((b ρ s).bind _).bind _) := p
    rw [R.bind_assoc] at p
    refine hb h H0 H s σ ρ _ g0 S (Post.bindF hbad herr p fun d s1 x A B st g1 dx p1 => ?_)
    cases e1 : seqD d with
    | none =>
      simp only [e1] at p1
      exact (hbad p1).elim
    | some xs =>
      simp only [e1] at p1
      obtain ⟨k, aa, vx, q1⟩ := seq_at dx e1
      obtain ⟨z1, z2⟩ := enum_den q1.da
      exact ⟨k, aa, vx, by rw [q1.ref], q1.at' _ g1.ex, fun D hD => lc_pairs pw_enum (fun A' B' s' e g' => q1.at' _ fun b o w => g'.ex _ _ (e _ _ w)) z1 z2 hbad (fin0 A B st) hg hv ht ha g1 (S.step st) p1 D hD⟩
end
section
variable {X : Cx} {Wx : WX} {e e2 : Expr} {elts : List Expr} {kk : Nat} {tpos p pos : Pos} {ma ma2 : ME}
theorem qip_zip (hgr : Gl X "zip") (hm : X.mg "zip" = none) (hi : QE X Wx e ma) (hi2 : QE X Wx e2 ma2) (hs : starEach [e, e2] X.env = (false, eval e X.env) :: starEach [e2] X.env := by rfl) (hs2 : starEach [e2] X.env = (false, eval e2 X.env) :: starEach [] X.env := by rfl) (hpl : (backTo pos (starEach [e2] X.env)).any (·.1) = false := by rfl)
    (hf : ∀ x, foldedSetIterable (.Call (.Name "zip" p) [e, e2] [] pos) X.env x = pure x := by intro _; rfl) : QIp X Wx (.Tuple elts kk tpos) (.Call (.Name "zip" p) [e, e2] [] pos) (mZip ma ma2) := by
  obtain ⟨t, q, s⟩ := hi
  obtain ⟨t2, q2, s2⟩ := hi2
  exact ⟨_, pi_zipK hgr hm (pa_cons q (pa_cons q2 pa_nil hs2) hs) hs hpl, si_zip s s2, hf⟩
theorem qip_enum (hgr : Gl X "enumerate") (hm : X.mg "enumerate" = none) (hi : QE X Wx e ma) (hs : starEach [e] X.env = [(false, eval e X.env)] := by rfl)
    (hf : ∀ x, foldedSetIterable (.Call (.Name "enumerate" p) [e] [] pos) X.env x = pure x := by intro _; rfl) : QIp X Wx (.Tuple elts kk tpos) (.Call (.Name "enumerate" p) [e] [] pos) (mEnum ma) := by
  obtain ⟨t, q, s⟩ := hi
  exact ⟨_, pi_enumK hgr hm (pa_cons q pa_nil hs) hs, si_enum s, hf⟩
end
end Mir


set_option Elab.async false
set_option linter.all false
set_option maxRecDepth 100000
/-! slices of lists and tuples; max, min, sum, any, all. -/
namespace Mir
open PySem PySem.Spec PyProof.Rows L2
open PySem.W (Frag)
/-! ### slices -/
def cutD (xs : List Dt) (lo hi : Option Int) : List Dt := (xs.drop (HT.sIx xs.length 0 lo)).take (HT.sIx xs.length xs.length hi - HT.sIx xs.length 0 lo)
abbrev MO := Env' → Hd → R (Option Int)
def mPartN : MO := fun _ s => .ok none s
def mPart (a : ME) : MO := fun ρ s => (a ρ s).bind fun d s1 => match d with
  | .int i => .ok (some i) s1
  | _ => .bad
def fSl (d : Dt) (lo hi : Option Int) : Option Dt := match d with
  | .lst xs => some (.lst (cutD xs lo hi))
  | .tup xs => some (.tup (cutD xs lo hi))
  | _ => none
def mSl (a : ME) (l u : MO) : ME := fun ρ s => (a ρ s).bind fun d s1 => (l ρ s1).bind fun lo s2 => (u ρ s2).bind fun hi s3 => liftO (fSl d lo hi) s3
def EqO : Hp → Option Int → Option Int → Prop := fun _ a b => a = b
section
variable {K : Frag} {mg : Str → Option Value} {Wx : WX} {ta : TE} {tl th : TO} {a : ME} {l u : MO}
def SO (K : Frag) (mg : Str → Option Value) (Wx : WX) (t : TO) (m : MO) : Prop := ∀ (h : Ent) (H0 H : Hp) (s : Hd) (σ : L2.St) (ρ : Env') (Q : Option Int → Hp → Prop), G h.a H0 H s → Slots K mg h H0 H σ ρ → Post K mg h EqO (m ρ s) H0 H Wx Q → t σ H Q
theorem so_none : SO K mg Wx tNoPart mPartN := fun h H0 H s σ ρ Q g S p => p none H0 H (.refl _ _) g rfl
theorem so_some (ha : SE K mg Wx ta a) : SO K mg Wx (tPart ta) (mPart a) := by
  intro h H0 H s σ ρ Q g S p
  refine ha h H0 H s σ ρ _ g S (Post.bind p fun d s1 x A B st g1 dx p1 => ?_)
  cases dx with
  | int i => exact ⟨i, rfl, p1 (some i) A B (.refl _ _) g1 rfl⟩
  | _ => exact p1.elim
theorem cut_len {h : Addr} {H : Hp} {vs : List V} {ds : List Dt} (d : DenA K mg h H vs ds) (lo hi : Option Int) : DenA K mg h H (cutV vs lo hi) (cutD ds lo hi) := by
  have drop : ∀ (n : Nat) {vs : List V} {ds : List Dt}, DenA K mg h H vs ds → DenA K mg h H (vs.drop n) (ds.drop n) := by
    intro n
    induction n with
    | zero => exact fun d => d
    | succ n ih =>
      intro vs ds d
      cases d with
      | nil => exact .nil
      | cons a r => exact ih r
  have take : ∀ (n : Nat) {vs : List V} {ds : List Dt}, DenA K mg h H vs ds → DenA K mg h H (vs.take n) (ds.take n) := by
    intro n
    induction n with
    | zero => exact fun _ => .nil
    | succ n ih =>
      intro vs ds d
      cases d with
      | nil => exact .nil
      | cons a r => exact .cons a (ih r)
  unfold cutV cutD
  rw [d.len]
  exact take _ (drop _ d)
def rSlD (K : Frag) : V → Option Int → Option Int → Hp → VK → Prop := fun x lo hi H Q => rSlL K x lo hi H Q ∨ rSlA K x lo hi H Q
theorem se_sl (ha : SE K mg Wx ta a) (hl : SO K mg Wx tl l) (hu : SO K mg Wx th u) : SE K mg Wx (tSl (rSlD K) ta tl th) (mSl a l u) := by
  intro h H0 H s σ ρ Q g S p
  refine ha h H0 H s σ ρ _ g S (Post.bind p fun d s1 x A B st g1 dx p1 => ?_)
  refine hl h A B s1 σ ρ _ g1 (S.step st) (Post.bind p1 fun lo s2 lo' A2 B2 st2 g2 el p2 => ?_)
  refine hu h A2 B2 s2 σ ρ _ g2 (S.step (st.trans st2)) (Post.bind p2 fun hi s3 hi' A3 B3 st3 g3 eh p3 => ?_)
  have el : lo' = lo := el
  have eh : hi' = hi := eh
  subst el eh
  obtain ⟨z, hz, p4⟩ := post_lift p3
  have dx3 := (dx.mono st2.s0).mono st3.s0
  unfold fSl at hz
  cases dx3 with
  | lst qa ra =>
    cases hz
    refine .inl ⟨_, _, rfl, SqL.of (g3.ex _ _ qa), fun q hq => ?_⟩
    obtain ⟨g4, st4⟩ := g3.alloc (o := .lst _) hq
    exact p4 _ _ _ st4 g4 (.lst upd_same ((cut_len ra _ _).mono st4.s0))
  | @tup aa xs ds qa ra =>
    cases hz
    refine .inr ⟨_, _, rfl, sqt_mono g3.ex qa, fun w => ?_, fun w q hq => ?_⟩
    · have e : cutD ds lo' hi' = ds := by
        unfold cutD
        have l := ra.len
        rw [← l, w.1, w.2]
        rw [List.drop_zero, Nat.sub_zero, l, List.take_length]
      rw [e] at p4
      exact p4 _ _ _ (.refl _ _) g3 (.tup qa ra)
    · obtain ⟨g4, st4⟩ := g3.alloc (o := .tup _) hq
      exact p4 _ _ _ st4 g4 (.tup (SqT.of upd_same) ((cut_len ra _ _).mono st4.s0))
  | _ => cases hz
end
section
variable {X : Cx} {Wx : WX} {e e1 e2 : Expr} {p2 pos : Pos} {ma m1 m2 : ME} {lo hi : Option Expr} {l u : MO}
def QO (X : Cx) (Wx : WX) (e : Option Expr) (m : MO) : Prop := ∃ t, PO X e t ∧ SO X.K X.mg Wx t m
theorem qo_none : QO X Wx none mPartN := ⟨_, po_none, so_none⟩
theorem qo_some (h : QE X Wx e ma) : QO X Wx (some e) (mPart ma) := by
  obtain ⟨t, p, s⟩ := h
  exact ⟨_, po_some p, so_some s⟩
theorem qe_sl (h : QE X Wx e ma) (hl : QO X Wx lo l) (hu : QO X Wx hi u) : QE X Wx (.Subscript e (.Slice lo hi none p2) pos) (mSl ma l u) := by
  obtain ⟨t, p, s⟩ := h
  obtain ⟨tl, pl, sl⟩ := hl
  obtain ⟨tu, pu, su⟩ := hu
  exact ⟨_, pe_slice (SlR.or sl_list sl_tupA) p pl pu, se_sl s sl su⟩
end
/-! ### max, min, sum, any, all -/
def intsD : List Dt → Option (List Int)
  | [] => some []
  | .int i :: ds => (intsD ds).map fun l => i :: l
  | _ => none
def boolsD : List Dt → Option (List Bool)
  | [] => some []
  | .bl i :: ds => (boolsD ds).map fun l => i :: l
  | _ => none
def maxI : Int → List Int → Int
  | m, [] => m
  | m, i :: l => maxI (if m < i then i else m) l
def minI : Int → List Int → Int
  | m, [] => m
  | m, i :: l => minI (if i < m then i else m) l
theorem maxI_ge : ∀ (l : List Int) (m : Int), m ≤ maxI m l ∧ ∀ i ∈ l, i ≤ maxI m l
  | [], m => ⟨Int.le_refl _, fun i h => nomatch h⟩
  | j :: l, m => by
    have e : maxI m (j :: l) = maxI (if m < j then j else m) l := rfl
    rw [e]
    by_cases c : m < j
    · rw [if_pos c]
      obtain ⟨h1, h2⟩ := maxI_ge l j
      refine ⟨by omega, fun i hi => ?_⟩
      rcases List.mem_cons.mp hi with rfl | hi
      · exact h1
      · exact h2 i hi
    · rw [if_neg c]
      obtain ⟨h1, h2⟩ := maxI_ge l m
      refine ⟨h1, fun i hi => ?_⟩
      rcases List.mem_cons.mp hi with rfl | hi
      · omega
      · exact h2 i hi
theorem maxI_mem : ∀ (l : List Int) (m : Int), maxI m l = m ∨ maxI m l ∈ l
  | [], m => .inl rfl
  | j :: l, m => by
    show maxI (if m < j then j else m) l = m ∨ _
    rcases maxI_mem l (if m < j then j else m) with h | h
    · by_cases c : m < j
      · rw [if_pos c] at h ⊢
        exact .inr (by show maxI _ l ∈ _; simp only [if_pos c]; rw [h]; exact List.mem_cons_self ..)
      · rw [if_neg c] at h ⊢
        exact .inl h
    · exact .inr (List.mem_cons_of_mem _ h)
theorem minI_le : ∀ (l : List Int) (m : Int), minI m l ≤ m ∧ ∀ i ∈ l, minI m l ≤ i
  | [], m => ⟨Int.le_refl _, fun i h => nomatch h⟩
  | j :: l, m => by
    have e : minI m (j :: l) = minI (if j < m then j else m) l := rfl
    rw [e]
    by_cases c : j < m
    · rw [if_pos c]
      obtain ⟨h1, h2⟩ := minI_le l j
      refine ⟨by omega, fun i hi => ?_⟩
      rcases List.mem_cons.mp hi with rfl | hi
      · exact h1
      · exact h2 i hi
    · rw [if_neg c]
      obtain ⟨h1, h2⟩ := minI_le l m
      refine ⟨h1, fun i hi => ?_⟩
      rcases List.mem_cons.mp hi with rfl | hi
      · omega
      · exact h2 i hi
theorem minI_mem : ∀ (l : List Int) (m : Int), minI m l = m ∨ minI m l ∈ l
  | [], m => .inl rfl
  | j :: l, m => by
    show minI (if j < m then j else m) l = m ∨ _
    rcases minI_mem l (if j < m then j else m) with h | h
    · by_cases c : j < m
      · rw [if_pos c] at h ⊢
        exact .inr (by show minI _ l ∈ _; simp only [if_pos c]; rw [h]; exact List.mem_cons_self ..)
      · rw [if_neg c] at h ⊢
        exact .inl h
    · exact .inr (List.mem_cons_of_mem _ h)
def fMax : List Dt → Option Dt
  | [.int i, .int j] => some (.int (if j > i then j else i))
  | [.lst ds] => match intsD ds with
    | some (i :: l) => some (.int (maxI i l))
    | _ => none
  | _ => none
def fMin : List Dt → Option Dt
  | [.int i, .int j] => some (.int (if j < i then j else i))
  | [.lst ds] => match intsD ds with
    | some (i :: l) => some (.int (minI i l))
    | _ => none
  | _ => none
def fSum : List Dt → Option Dt
  | [.lst ds] => (intsD ds).map fun l => .int l.sum
  | _ => none
def fAny : List Dt → Option Dt
  | [.lst ds] => (boolsD ds).map fun l => .bl (l.any id)
  | _ => none
def fAll : List Dt → Option Dt
  | [.lst ds] => (boolsD ds).map fun l => .bl (l.all id)
  | _ => none
section
variable {K : Frag} {mg : Str → Option Value}
theorem intsD_vals {h : Addr} {H : Hp} : ∀ {ds : List Dt} {vs : List V} {ys : List Int}, DenA K mg h H vs ds → intsD ds = some ys → vs = ys.map V.int
  | [], _, ys, .nil, e => by
    cases e
    rfl
  | d :: ds, _, ys, .cons (v := v) (vs := vs) dv da, e => by
    cases dv with
    | int x =>
      cases e2 : intsD ds with
      | none => simp [intsD, e2] at e
      | some l =>
        simp [intsD, e2] at e
        subst e
        rw [intsD_vals da e2]
        rfl
    | _ => cases e
theorem boolsD_vals {h : Addr} {H : Hp} : ∀ {ds : List Dt} {vs : List V} {ys : List Bool}, DenA K mg h H vs ds → boolsD ds = some ys → vs = ys.map V.bl
  | [], _, ys, .nil, e => by
    cases e
    rfl
  | d :: ds, _, ys, .cons (v := v) (vs := vs) dv da, e => by
    cases dv with
    | bl x =>
      cases e2 : boolsD ds with
      | none => simp [boolsD, e2] at e
      | some l =>
        simp [boolsD, e2] at e
        subst e
        rw [boolsD_vals da e2]
        rfl
    | _ => cases e
theorem lst_ints {h : Addr} {H0 H : Hp} {s : Hd} {xs : List V} {es : List Dt} {l : List Int} (g0 : G h H0 H s) (hx : DenA K mg h H0 xs [.lst es]) (e : intsD es = some l) : ∃ a, xs = [.ref a] ∧ SqL K H a (l.map V.int) := by
  cases hx with
  | cons a r =>
    cases r
    cases a with
    | lst qa ra =>
      have ev := intsD_vals ra e
      subst ev
      exact ⟨_, rfl, SqL.of (g0.ex _ _ qa)⟩
theorem lst_bools {h : Addr} {H0 H : Hp} {s : Hd} {xs : List V} {es : List Dt} {l : List Bool} (g0 : G h H0 H s) (hx : DenA K mg h H0 xs [.lst es]) (e : boolsD es = some l) : ∃ a, xs = [.ref a] ∧ SqL K H a (l.map V.bl) := by
  cases hx with
  | cons a r =>
    cases r
    cases a with
    | lst qa ra =>
      have ev := boolsD_vals ra e
      subst ev
      exact ⟨_, rfl, SqL.of (g0.ex _ _ qa)⟩
theorem cs_max : CaS K mg (fun xs H Q => (∃ i j, xs = [.int i, .int j] ∧ Q (.int (if j > i then j else i)) H) ∨ rMax K xs H Q) fMax := by
  intro h H0 H s xs ds z Q g0 hx hz q
  unfold fMax at hz
  split at hz
  · cases hz
    cases hx with
    | cons a r =>
      cases r with
      | cons b r =>
        cases r
        cases a
        cases b
        exact .inl ⟨_, _, rfl, q _ H0 H (.refl _ _) g0 (.int _)⟩
  · split at hz
    · rename_i es i l e
      cases hz
      obtain ⟨a, rfl, w⟩ := lst_ints g0 hx e
      refine .inr ⟨a, i :: l, rfl, w, Nat.succ_pos _, fun m hm hall => ?_⟩
      have e1 : m = maxI i l := by
        obtain ⟨g1, g2⟩ := maxI_ge l i
        have a1 : m ≤ maxI i l := by
          rcases List.mem_cons.mp hm with rfl | hm
          · exact g1
          · exact g2 m hm
        have a2 : maxI i l ≤ m := by
          rcases maxI_mem l i with h | h
          · rw [h]
            exact hall i (List.mem_cons_self ..)
          · exact hall _ (List.mem_cons_of_mem _ h)
        omega
      rw [e1]
      exact q _ H0 H (.refl _ _) g0 (.int _)
    · cases hz
  · cases hz
theorem cs_min : CaS K mg (fun xs H Q => (∃ i j, xs = [.int i, .int j] ∧ Q (.int (if j < i then j else i)) H) ∨ rMin K xs H Q) fMin := by
  intro h H0 H s xs ds z Q g0 hx hz q
  unfold fMin at hz
  split at hz
  · cases hz
    cases hx with
    | cons a r =>
      cases r with
      | cons b r =>
        cases r
        cases a
        cases b
        exact .inl ⟨_, _, rfl, q _ H0 H (.refl _ _) g0 (.int _)⟩
  · split at hz
    · rename_i es i l e
      cases hz
      obtain ⟨a, rfl, w⟩ := lst_ints g0 hx e
      refine .inr ⟨a, i :: l, rfl, w, Nat.succ_pos _, fun m hm hall => ?_⟩
      have e1 : m = minI i l := by
        obtain ⟨g1, g2⟩ := minI_le l i
        have a1 : minI i l ≤ m := by
          rcases List.mem_cons.mp hm with rfl | hm
          · exact g1
          · exact g2 m hm
        have a2 : m ≤ minI i l := by
          rcases minI_mem l i with h | h
          · rw [h]
            exact hall i (List.mem_cons_self ..)
          · exact hall _ (List.mem_cons_of_mem _ h)
        omega
      rw [e1]
      exact q _ H0 H (.refl _ _) g0 (.int _)
    · cases hz
  · cases hz
theorem cs_sum : CaS K mg (rSum K) fSum := by
  intro h H0 H s xs ds z Q g0 hx hz q
  unfold fSum at hz
  split at hz
  · rename_i es
    cases e : intsD es with
    | none =>
      rw [e] at hz
      cases hz
    | some l =>
      rw [e] at hz
      cases hz
      obtain ⟨a, rfl, w⟩ := lst_ints g0 hx e
      exact ⟨a, l, rfl, w, q _ H0 H (.refl _ _) g0 (.int _)⟩
  · cases hz
theorem cs_any : CaS K mg (rAny K) fAny := by
  intro h H0 H s xs ds z Q g0 hx hz q
  unfold fAny at hz
  split at hz
  · rename_i es
    cases e : boolsD es with
    | none =>
      rw [e] at hz
      cases hz
    | some l =>
      rw [e] at hz
      cases hz
      obtain ⟨a, rfl, w⟩ := lst_bools g0 hx e
      exact ⟨a, l, rfl, w, q _ H0 H (.refl _ _) g0 (.bl _)⟩
  · cases hz
theorem cs_all : CaS K mg (rAll K) fAll := by
  intro h H0 H s xs ds z Q g0 hx hz q
  unfold fAll at hz
  split at hz
  · rename_i es
    cases e : boolsD es with
    | none =>
      rw [e] at hz
      cases hz
    | some l =>
      rw [e] at hz
      cases hz
      obtain ⟨a, rfl, w⟩ := lst_bools g0 hx e
      exact ⟨a, l, rfl, w, q _ H0 H (.refl _ _) g0 (.bl _)⟩
  · cases hz
end
section
variable {X : Cx}
theorem call_maxA (hc : X.calm = true) : CallR X (.builtin "max") (fun xs H Q => (∃ i j, xs = [.int i, .int j] ∧ Q (.int (if j > i then j else i)) H) ∨ rMax X.K xs H Q) := CallR.or (call_max2 hc) (cr_max hc)
theorem call_minA (hc : X.calm = true) : CallR X (.builtin "min") (fun xs H Q => (∃ i j, xs = [.int i, .int j] ∧ Q (.int (if j < i then j else i)) H) ∨ rMin X.K xs H Q) := CallR.or (call_min2 hc) (cr_min hc)
end
end Mir


set_option Elab.async false
set_option linter.all false
set_option maxRecDepth 100000
/-! Recursion: a def that says nothing, to begin with. -/
namespace Mir
open PySem PySem.Spec PyProof.Rows L2
open PySem.W (Frag)
def mNone : List Dt → Hd → R Dt := fun _ _ => .bad
theorem none_ok {P : Program} {w : World} {K : Frag} {mg : Str → Option Value} {base : Heap} {CX : CXT} {k n : Nat} {f : Addr} {fd : FuncData} {ps : List Str} : FnOk P w K mg base CX k f fd ps (spM K mg n mNone) :=
  ⟨fun vs H Q E z => by
    obtain ⟨_, _, _, _, _, _, _, z⟩ := z
    exact z.elim, fun A outer s H args us vs Q E _ _ _ _ z => by
    obtain ⟨_, _, _, _, _, _, _, z⟩ := z
    exact z.elim⟩
/-- a method and what it takes -/
theorem method_of {P : Program} {w : World} {K : Frag} {mg : Str → Option Value} {base : Heap} {k n : Nat} {c x qual : Str} {st : Stmt} {ps : List Str} {m : List Dt → Hd → R Dt} {C f : Addr} {fd : FuncData} (hm : mg c = some (.ref C)) (cl : Cls K C) (mt : Meth K C x f) (F : FnOk P w K mg base (L2.CX P w) k f fd ps (spM K mg n m)) (hb : Binds K fd ps []) : Method P w K mg base k c x n [] m :=
  ⟨C, f, fd, ps, [], [], hm, cl, mt, F, hb, .nil, fun _ _ => .nil⟩
theorem maker_of {P : Program} {w : World} {K : Frag} {mg : Str → Option Value} {base : Heap} {k n : Nat} {c : Str} {ps : List Str} {m : List Dt → Hd → R (List (Str × Dt))} {C f : Addr} {fd : FuncData} (hm : mg c = some (.ref C)) (mk : Mk K C f) (F : FnOk P w K mg base (L2.CX P w) k f fd ps (spN K mg c n m)) (hb : Binds K fd ps []) : Maker P w K mg base k c n [] m :=
  ⟨C, f, fd, ps, [], [], hm, mk, F, hb, .nil, fun _ _ => .nil⟩
end Mir


set_option Elab.async false
set_option linter.all false
set_option maxRecDepth 100000
/-! Two places of one's own list at once. -/
namespace Mir
open PySem PySem.Spec PyProof.Rows L2
open PySem.W (Frag)
def setR (i : Nat) (b : ME) (d : Dt) (ρ : Env') (s : Hd) : R Env' := match ρ[i]? with
  | some (.own ds) => (b ρ s).bind fun k s2 => (match k with
    | .int k => (match ixN ds.length k with
      | some j => .ok (ρ.set i (.own (ds.set j d))) s2
      | none => .bad)
    | _ => .bad)
  | _ => .bad
def mSwp (i : Nat) (b1 b2 a1 a2 : ME) : MS := fun ρ s => (mTup (mCons a1 (mCons a2 mNil)) ρ s).bind fun d s2 => match d with
  | .tup [d1, d2] => (setR i b1 d1 ρ s2).bind fun ρ1 s3 => (setR i b2 d2 ρ1 s3).bind fun ρ2 s4 => .ok (.nx ρ2) s4
  | _ => .bad
section
variable {K : Frag} {mg : Str → Option Value} {Wx : WX} {ta1 ta2 tb1 tb2 tb : TE} {a1 a2 b1 b2 b : ME}
theorem set_ok {i : Nat} {h : Ent} {A B : Hp} {s : Hd} {σ : L2.St} {ρ : Env'} {D : Ends} {x : V} {d : Dt} {k : Env' → Hd → R Fl} {Qn : L2.St → Hp → Prop} (hb : SE K mg Wx tb b) (g : G h.a A B s) (S : Slots K mg h A B σ ρ) (dx : Den K mg h.a A x d) (p : PostS K mg h ((setR i b d ρ s).bind k) A B Wx D)
    (next : ∀ ρ' s' A' B', Same A A' → G h.a A' B' s' → Slots K mg h A' B' σ ρ' → PostS K mg h (k ρ' s') A' B' Wx D → Qn σ B') : gSub (tVar i) tb rSetL x σ B Qn := by
  unfold setR at p
  split at p
  · rename_i ds ei
    obtain ⟨q, vs, es, eq, n0, nh, nf, da⟩ := S.own ei
    rw [R.bind_assoc] at p
    refine ⟨.ref q, es, hb h A B s σ ρ _ g S (PostS.bind p fun k' s2 y A2 B2 st2 g2 dy p2 => ?_)⟩
    obtain ⟨q2, vs2, es2, eq2, n02, nh2, nf2, da2⟩ := (S.step st2).own ei
    obtain rfl : q = q2 := by
      rw [es] at es2
      cases es2
      rfl
    cases dy with
    | int kk =>
      cases ej : ixN ds.length kk with
      | none =>
        simp only [ej] at p2
        exact p2.elim
      | some j =>
        simp only [ej] at p2
        refine ⟨q, vs2, kk, j, rfl, rfl, eq2, by rw [da2.len]; exact ej, ?_⟩
        have nha : q ≠ h.a := fun z => nh2 (.inl z)
        exact next (ρ.set i (.own (ds.set j d))) s2 A2 _ st2.s0 (g2.at n02 nh2) ((S.step st2).mut (u := .lst (vs2.set j x)) ei rfl es nh2 nf2 rfl ⟨q, vs2.set j x, rfl, upd_same, n02, isH_upd nha nh2, nf2, da2.set (dx.mono st2.s0) j⟩) p2
    | _ => exact p2.elim
  · exact p.elim
theorem ss_swp {i : Nat} (h1 : SE K mg Wx tb1 b1) (h2 : SE K mg Wx tb2 b2) (ha1 : SE K mg Wx ta1 a1) (ha2 : SE K mg Wx ta2 a2) : SS K mg Wx (tAsg (tTup (tCons ta1 (tCons ta2 tNil))) (gSeq K 2 (gCons (gSub (tVar i) tb1 rSetL) (gCons (gSub (tVar i) tb2 rSetL) gNil)))) (mSwp i b1 b2 a1 a2) := by
  intro h H0 H s σ ρ D g S p
  refine se_tup (sa_cons ha1 (sa_cons ha2 sa_nil)) h H0 H s σ ρ _ g S (PostS.bind p fun d s1 x A B st g1 dx p1 => ?_)
  split at p1
  · rename_i d1 d2
    cases dx with
    | @tup aa xs ds qa ra =>
      cases ra with
      | cons r1 rr =>
        cases rr with
        | cons r2 rr =>
          cases rr
          refine .inl ⟨aa, _, rfl, sqt_mono g1.ex qa, rfl, _, _, rfl, set_ok h1 g1 (S.step st) r1 p1 fun ρ1 s3 A3 B3 e3 g3 S3 p3 => ⟨_, _, rfl, set_ok h2 g3 S3 (r2.mono e3) p3 fun ρ2 s4 A4 B4 e4 g4 S4 p4 => ⟨rfl, p4 σ A4 B4 (Same.refl _) g4 S4⟩⟩⟩
  · exact p1.elim
end
section
variable {X : Cx} {Wx : WX} {e1 e2 f1 f2 : Expr} {b1 b2 a1 a2 : ME} {p p' q1 q2 tp tp2 pos : Pos} {kk kk2 : Nat}
theorem qs_swp (i : Nat) {x : Str} (hc : X.calm = true) (hN : X.N[i]? = some x) (h1 : QE X Wx f1 b1) (h2 : QE X Wx f2 b2) (g1 : QE X Wx e1 a1) (g2 : QE X Wx e2 a2) (hv : Vis X.env.scope x := by first | exact Or.inl rfl | exact Or.inr (Or.inl rfl) | exact Or.inr (Or.inr rfl)) (hd : (x == ("__debug__" : Str)) = false := by decide) (hcd : (x == ("__classdict__" : Str)) = false := by decide)
    (k1 : ∀ v, assign (.Subscript (.Name x p) f1 q1) X.env v = (do
      let ov ← holding [v] (eval (.Name x p) X.env)
      let iv ← holding [v, ov] (eval f1 X.env)
      standAt q1
      holding [v, ov, iv] (setItem ov iv v)
      release [v, ov, iv] []) := by intro _; rfl)
    (k2 : ∀ v, assign (.Subscript (.Name x p') f2 q2) X.env v = (do
      let ov ← holding [v] (eval (.Name x p') X.env)
      let iv ← holding [v, ov] (eval f2 X.env)
      standAt q2
      holding [v, ov, iv] (setItem ov iv v)
      release [v, ov, iv] []) := by intro _; rfl)
    (c1 : (assignEach [.Subscript (.Name x p) f1 q1, .Subscript (.Name x p') f2 q2] X.env).map (·.2) = assign (.Subscript (.Name x p) f1 q1) X.env :: (assignEach [.Subscript (.Name x p') f2 q2] X.env).map (·.2) := by rfl)
    (c2 : (assignEach [.Subscript (.Name x p') f2 q2] X.env).map (·.2) = assign (.Subscript (.Name x p') f2 q2) X.env :: (assignEach [] X.env).map (·.2) := by rfl)
    (hn : (assignEach [.Subscript (.Name x p) f1 q1, .Subscript (.Name x p') f2 q2] X.env).length = 2 := by rfl) (hst : (assignEach [.Subscript (.Name x p) f1 q1, .Subscript (.Name x p') f2 q2] X.env).findIdx? (·.1) = none := by rfl)
    (s1 : starEach [e1, e2] X.env = (false, eval e1 X.env) :: starEach [e2] X.env := by rfl) (s2 : starEach [e2] X.env = (false, eval e2 X.env) :: starEach [] X.env := by rfl)
    (hs : swapsWithSole [.Tuple [.Subscript (.Name x p) f1 q1, .Subscript (.Name x p') f2 q2] kk tp] (.Tuple [e1, e2] kk2 tp2) pos.line X.env = pure false := by rfl) (hw : swappedStores [.Tuple [.Subscript (.Name x p) f1 q1, .Subscript (.Name x p') f2 q2] kk tp] (.Tuple [e1, e2] kk2 tp2) X.env = pure none := by rfl)
    (hz : (assignEach [.Tuple [.Subscript (.Name x p) f1 q1, .Subscript (.Name x p') f2 q2] kk tp] X.env).map (·.2) = [assign (.Tuple [.Subscript (.Name x p) f1 q1, .Subscript (.Name x p') f2 q2] kk tp) X.env] := by rfl) :
    QS X Wx (.Assign [.Tuple [.Subscript (.Name x p) f1 q1, .Subscript (.Name x p') f2 q2] kk tp] (.Tuple [e1, e2] kk2 tp2) pos) (mSwp i b1 b2 a1 a2) := by
  obtain ⟨t1, p1, r1⟩ := h1
  obtain ⟨t2, p2, r2⟩ := h2
  obtain ⟨u1, w1, v1⟩ := g1
  obtain ⟨u2, w2, v2⟩ := g2
  exact ⟨_, ps_asg (pe_tup (pa_cons w1 (pa_cons w2 pa_nil s2) s1)) (pg_seq hc (pgs_cons (pg_sub (pe_var hN hv hd hcd) p1 set_list k1) (pgs_cons (pg_sub (pe_var hN hv hd hcd) p2 set_list k2) pgs_nil c2) c1) hn hst) hs hw hz, ss_swp r1 r2 v1 v2⟩
end
end Mir


set_option Elab.async false
set_option linter.all false
/-! Mathematics for the laws: kinds of data, sizes, lowest terms. -/
namespace Mir
open PySem PySem.Spec PyProof.Rows L2

/-! ### isinstance of plain data -/
theorem kit_table : kitB "int" "int" = some true ∧ kitB "bool" "int" = some true ∧ kitB "NoneType" "int" = some false ∧ kitB "str" "int" = some false ∧ kitB "tuple" "int" = some false ∧ kitB "list" "int" = some false ∧
    kitB "int" "bool" = some false ∧ kitB "bool" "bool" = some true ∧ kitB "NoneType" "bool" = some false ∧ kitB "str" "bool" = some false ∧ kitB "tuple" "bool" = some false ∧ kitB "list" "bool" = some false ∧
    kitB "int" "tuple" = some false ∧ kitB "bool" "tuple" = some false ∧ kitB "NoneType" "tuple" = some false ∧ kitB "str" "tuple" = some false ∧ kitB "tuple" "tuple" = some true ∧ kitB "list" "tuple" = some false := by decide +kernel
theorem kit_table2 : kitB "int" "list" = some false ∧ kitB "bool" "list" = some false ∧ kitB "NoneType" "list" = some false ∧ kitB "str" "list" = some false ∧ kitB "tuple" "list" = some false ∧ kitB "list" "list" = some true ∧
    kitB "int" "str" = some false ∧ kitB "bool" "str" = some false ∧ kitB "NoneType" "str" = some false ∧ kitB "str" "str" = some true ∧ kitB "tuple" "str" = some false ∧ kitB "list" "str" = some false := by decide +kernel
@[simp] theorem isi_int (d : Dt) : fIsi "int" d = (match d with | .int _ => some true | .bl _ => some true | .obj _ _ => none | .hnd => none | _ => some false) := by
  obtain ⟨a1, a2, a3, a4, a5, a6, _⟩ := kit_table
  cases d <;> first | rfl | assumption
@[simp] theorem isi_bool (d : Dt) : fIsi "bool" d = (match d with | .bl _ => some true | .obj _ _ => none | .hnd => none | _ => some false) := by
  obtain ⟨_, _, _, _, _, _, a1, a2, a3, a4, a5, a6, _⟩ := kit_table
  cases d <;> first | rfl | assumption
@[simp] theorem isi_tuple (d : Dt) : fIsi "tuple" d = (match d with | .tup _ => some true | .obj _ _ => none | .hnd => none | _ => some false) := by
  obtain ⟨_, _, _, _, _, _, _, _, _, _, _, _, a1, a2, a3, a4, a5, a6⟩ := kit_table
  cases d <;> first | rfl | assumption
@[simp] theorem isi_list (d : Dt) : fIsi "list" d = (match d with | .lst _ => some true | .obj _ _ => none | .hnd => none | _ => some false) := by
  obtain ⟨a1, a2, a3, a4, a5, a6, _⟩ := kit_table2
  cases d <;> first | rfl | assumption
@[simp] theorem isi_str (d : Dt) : fIsi "str" d = (match d with | .str _ => some true | .obj _ _ => none | .hnd => none | _ => some false) := by
  obtain ⟨_, _, _, _, _, _, a1, a2, a3, a4, a5, a6⟩ := kit_table2
  cases d <;> first | rfl | assumption

/-! ### sizes -/
def Sz (n : Nat) (i : Int) : Prop := i.natAbs < 2 ^ n
theorem Sz.mono {m n : Nat} {i : Int} (h : Sz m i) (e : m ≤ n) : Sz n i := Nat.lt_of_lt_of_le h (Nat.pow_le_pow_right (by decide) e)
theorem Sz.mul {m n : Nat} {i j : Int} (a : Sz m i) (b : Sz n j) : Sz (m + n) (i * j) := wide_lt a b
theorem Sz.add {m : Nat} {i j : Int} (a : Sz m i) (b : Sz m j) : Sz (m + 1) (i + j) := by
  unfold Sz at *
  have := Int.natAbs_add_le i j
  rw [Nat.pow_succ]
  omega
theorem Sz.neg {m : Nat} {i : Int} (a : Sz m i) : Sz m (-i) := by
  unfold Sz at *
  rw [Int.natAbs_neg]
  exact a
theorem Sz.sub {m : Nat} {i j : Int} (a : Sz m i) (b : Sz m j) : Sz (m + 1) (i - j) := by
  rw [Int.sub_eq_add_neg]
  exact a.add b.neg
theorem Sz.le {m : Nat} {i j : Int} (a : Sz m j) (h : i.natAbs ≤ j.natAbs) : Sz m i := Nat.lt_of_le_of_lt h a
theorem MulOk.of {m n : Nat} {i j : Int} (a : Sz m i) (b : Sz n j) (h : m + n ≤ 900000) : MulOk i j := by
  have a' := a.mono (Nat.le_succ m)
  have b' := b.mono (Nat.le_succ n)
  exact wide_mul a' b' (Nat.succ_pos _) (Nat.succ_pos _) (by omega)
theorem DivOk.of {n : Nat} {j : Int} (h0 : j ≠ 0) (a : Sz n j) (h : n ≤ 8900) : DivOk j :=
  ⟨h0, Nat.lt_of_lt_of_le (PySem.Flt.log2_lt_of (Nat.succ_pos n) (a.mono (Nat.le_succ n))) (by omega)⟩

/-! ### lowest terms -/
def sgcd (t b : Int) : Int := if b < 0 then -((Nat.gcd t.natAbs b.natAbs : Nat) : Int) else ((Nat.gcd t.natAbs b.natAbs : Nat) : Int)
def lowT (t b : Int) : Int := t.fdiv (sgcd t b)
def lowB (t b : Int) : Int := b.fdiv (sgcd t b)
abbrev rat (a b : Int) : Dt := .tup [.int a, .int b]
def low (t b : Int) : Dt := rat (lowT t b) (lowB t b)
theorem gcd_pos {t b : Int} (h : b ≠ 0) : 0 < Nat.gcd t.natAbs b.natAbs := Nat.gcd_pos_of_pos_right _ (by omega)
theorem sgcd_ne {t b : Int} (h : b ≠ 0) : sgcd t b ≠ 0 := by
  have := gcd_pos (t := t) h
  unfold sgcd
  split <;> omega
theorem sgcd_abs (t b : Int) : (sgcd t b).natAbs = Nat.gcd t.natAbs b.natAbs := by
  unfold sgcd
  split <;> omega
theorem sgcd_dvd_t (t b : Int) : sgcd t b ∣ t := by
  rw [← Int.natAbs_dvd_natAbs, sgcd_abs]
  exact Nat.gcd_dvd_left _ _
theorem sgcd_dvd_b (t b : Int) : sgcd t b ∣ b := by
  rw [← Int.natAbs_dvd_natAbs, sgcd_abs]
  exact Nat.gcd_dvd_right _ _
theorem low_t {t b : Int} : lowT t b * sgcd t b = t := by
  unfold lowT
  rw [Int.fdiv_eq_ediv_of_dvd (sgcd_dvd_t t b)]
  exact Int.ediv_mul_cancel (sgcd_dvd_t t b)
theorem low_b {t b : Int} : lowB t b * sgcd t b = b := by
  unfold lowB
  rw [Int.fdiv_eq_ediv_of_dvd (sgcd_dvd_b t b)]
  exact Int.ediv_mul_cancel (sgcd_dvd_b t b)
theorem lowT_abs {t b : Int} (h : b ≠ 0) : (lowT t b).natAbs ≤ t.natAbs := by
  have e : (lowT t b).natAbs * (sgcd t b).natAbs = t.natAbs := by rw [← Int.natAbs_mul, low_t]
  have p : 0 < (sgcd t b).natAbs := by rw [sgcd_abs]; exact gcd_pos h
  rw [← e]
  exact Nat.le_mul_of_pos_right _ p
theorem lowB_abs {t b : Int} (h : b ≠ 0) : (lowB t b).natAbs ≤ b.natAbs := by
  have e : (lowB t b).natAbs * (sgcd t b).natAbs = b.natAbs := by rw [← Int.natAbs_mul, low_b]
  have p : 0 < (sgcd t b).natAbs := by rw [sgcd_abs]; exact gcd_pos h
  calc (lowB t b).natAbs ≤ (lowB t b).natAbs * (sgcd t b).natAbs := Nat.le_mul_of_pos_right _ p
    _ = b.natAbs := e
theorem lowB_pos {t b : Int} (h : b ≠ 0) : 0 < lowB t b := by
  have e := low_b (t := t) (b := b)
  have p := gcd_pos (t := t) h
  have hs : (0 < b → 0 < sgcd t b) ∧ (b < 0 → sgcd t b < 0) := by
    unfold sgcd
    constructor <;> intro z
    · rw [if_neg (by omega)]
      omega
    · rw [if_pos z]
      omega
  rcases Int.lt_trichotomy b 0 with z | z | z
  · have q := hs.2 z
    rcases (Int.lt_or_le 0 (lowB t b)) with w | w
    · exact w
    · have := Int.mul_nonneg_of_nonpos_of_nonpos w (Int.le_of_lt q)
      omega
  · exact absurd z h
  · have q := hs.1 z
    rcases (Int.lt_or_le 0 (lowB t b)) with w | w
    · exact w
    · have := Int.mul_nonpos_of_nonpos_of_nonneg w (Int.le_of_lt q)
      omega
theorem low_gcd {t b : Int} (h : b ≠ 0) : Nat.gcd (lowT t b).natAbs (lowB t b).natAbs = 1 := by
  have e1 : (lowT t b).natAbs * (sgcd t b).natAbs = t.natAbs := by rw [← Int.natAbs_mul, low_t]
  have e2 : (lowB t b).natAbs * (sgcd t b).natAbs = b.natAbs := by rw [← Int.natAbs_mul, low_b]
  have p : 0 < (sgcd t b).natAbs := by rw [sgcd_abs]; exact gcd_pos h
  have e3 : Nat.gcd t.natAbs b.natAbs = Nat.gcd (lowT t b).natAbs (lowB t b).natAbs * (sgcd t b).natAbs := by rw [← Nat.gcd_mul_right, e1, e2]
  rw [← sgcd_abs] at e3
  have e4 : 1 * (sgcd t b).natAbs = Nat.gcd (lowT t b).natAbs (lowB t b).natAbs * (sgcd t b).natAbs := by rw [Nat.one_mul]; exact e3
  exact (Nat.eq_of_mul_eq_mul_right p e4).symm
/-- a ratio in lowest terms -/
structure IsR (a b : Int) : Prop where
  pos : 0 < b
  co : Nat.gcd a.natAbs b.natAbs = 1
theorem low_is {t b : Int} (h : b ≠ 0) : IsR (lowT t b) (lowB t b) := ⟨lowB_pos h, low_gcd h⟩
/-! ### stepping -/
theorem seq_nx {a b : MS} {ρ ρ' : Env'} {s s' : Hd} (h : a ρ s = .ok (.nx ρ') s') : mSeq a b ρ s = b ρ' s' := by
  unfold mSeq
  rw [h]
theorem seq_rt {a b : MS} {ρ : Env'} {d : Dt} {s s' : Hd} (h : a ρ s = .ok (.rt d) s') : mSeq a b ρ s = .ok (.rt d) s' := by
  unfold mSeq
  rw [h]
theorem def_rt {n : Nat} {b : MS} {ds : List Dt} {d : Dt} {s s' : Hd} (h : b (startE n ds) s = .ok (.rt d) s') : mDef n b ds s = .ok d s' := by
  unfold mDef
  rw [h]
theorem for_of {g : GM} {it : MA} {body : MS} {ρ : Env'} {s s' : Hd} {ds : List Dt} (h : it ρ s = .ok ds s') : mFor g it body ρ s = loopF g body ds ρ s' := by
  unfold mFor
  rw [h]
  rfl
theorem lc_of {g : GM} {it : MA} {t : MT} {a : ME} {vs : List Nat} {ρ : Env'} {s s' : Hd} {ds : List Dt} (h : it ρ s = .ok ds s') : mLc g it t a vs ρ s = loopC g t a vs ds [] ρ s' := by
  unfold mLc
  rw [h]
  rfl
end Mir


set_option Elab.async false
set_option linter.all false
/-! Ratios in lowest terms are the core's rational numbers. -/
namespace Mir
open PySem PySem.Spec PyProof.Rows L2
abbrev tp (q : Rat) : Int := q.num
abbrev bt (q : Rat) : Int := (q.den : Int)
/-- a rational number as the program writes it -/
abbrev dq (q : Rat) : Dt := rat q.num (q.den : Int)
theorem bt_pos (q : Rat) : (0 : Int) < (q.den : Int) := by
  have := q.den_pos
  omega
theorem bt_ne (q : Rat) : (q.den : Int) ≠ 0 := Int.ne_of_gt (bt_pos q)
theorem dq_is (q : Rat) : IsR q.num (q.den : Int) := ⟨bt_pos q, by rw [Int.natAbs_natCast]; exact q.reduced⟩
theorem rat_of {a b : Int} (h : IsR a b) : ∃ q : Rat, q.num = a ∧ (q.den : Int) = b ∧ q = Rat.divInt a b := by
  have hb : (((b.natAbs : Nat)) : Int) = b := by
    have := h.pos
    omega
  have e := Rat.num_divInt_den ⟨a, b.natAbs, by have := h.pos; omega, h.co⟩
  refine ⟨⟨a, b.natAbs, by have := h.pos; omega, h.co⟩, rfl, hb, ?_⟩
  rw [← e]
  simp only
  rw [hb]
theorem low_val (t b : Int) (h : b ≠ 0) : ∃ q : Rat, q.num = lowT t b ∧ (q.den : Int) = lowB t b ∧ q = Rat.divInt t b := by
  obtain ⟨q, e1, e2, e3⟩ := rat_of (low_is (t := t) h)
  refine ⟨q, e1, e2, e3.trans ?_⟩
  rw [Rat.divInt_eq_divInt_iff (Int.ne_of_gt (lowB_pos h)) h]
  have x := low_t (t := t) (b := b)
  have y := low_b (t := t) (b := b)
  have g0 := sgcd_ne (t := t) h
  refine Int.eq_of_mul_eq_mul_right g0 ?_
  generalize lowT t b = u at *
  generalize lowB t b = v at *
  generalize sgcd t b = w at *
  grind
theorem low_dq (t b : Int) (h : b ≠ 0) : low t b = dq (Rat.divInt t b) := by
  obtain ⟨q, e1, e2, e3⟩ := low_val t b h
  unfold low
  rw [← e1, ← e2, e3]
theorem divInt_eq {t b : Int} (h : b ≠ 0) : Rat.divInt t b = (t : Rat) / (b : Rat) := Rat.divInt_eq_div t b
theorem q_eq (q : Rat) : q = (q.num : Rat) / ((q.den : Int) : Rat) := by
  rw [← Rat.divInt_eq_div]
  exact (Rat.num_divInt_den q).symm
theorem cast_ne {b : Int} (h : b ≠ 0) : (b : Rat) ≠ 0 := by
  intro e
  exact h (Rat.intCast_inj.mp (by rw [e]; rfl))
theorem low_add (p q : Rat) : low (p.num * (q.den : Int) + q.num * (p.den : Int)) ((p.den : Int) * (q.den : Int)) = dq (p + q) := by
  have h : (p.den : Int) * (q.den : Int) ≠ 0 := Int.mul_ne_zero (bt_ne p) (bt_ne q)
  rw [low_dq _ _ h, divInt_eq h]
  have e1 := q_eq p
  have e2 := q_eq q
  have n1 := cast_ne (bt_ne p)
  have n2 := cast_ne (bt_ne q)
  congr 1
  rw [Rat.intCast_add, Rat.intCast_mul, Rat.intCast_mul, Rat.intCast_mul]
  generalize hp1 : ((p.num : Int) : Rat) = a at *
  generalize hp2 : (((p.den : Int)) : Rat) = b at *
  generalize hq1 : ((q.num : Int) : Rat) = c at *
  generalize hq2 : (((q.den : Int)) : Rat) = d at *
  grind
theorem low_sub (p q : Rat) : low (p.num * (q.den : Int) - q.num * (p.den : Int)) ((p.den : Int) * (q.den : Int)) = dq (p - q) := by
  have h : (p.den : Int) * (q.den : Int) ≠ 0 := Int.mul_ne_zero (bt_ne p) (bt_ne q)
  rw [low_dq _ _ h, divInt_eq h]
  have e1 := q_eq p
  have e2 := q_eq q
  have n1 := cast_ne (bt_ne p)
  have n2 := cast_ne (bt_ne q)
  congr 1
  rw [Rat.intCast_sub, Rat.intCast_mul, Rat.intCast_mul, Rat.intCast_mul]
  generalize hp1 : ((p.num : Int) : Rat) = a at *
  generalize hp2 : (((p.den : Int)) : Rat) = b at *
  generalize hq1 : ((q.num : Int) : Rat) = c at *
  generalize hq2 : (((q.den : Int)) : Rat) = d at *
  grind
theorem low_mul' (p q : Rat) : low (p.num * q.num) ((p.den : Int) * (q.den : Int)) = dq (p * q) := by
  have h : (p.den : Int) * (q.den : Int) ≠ 0 := Int.mul_ne_zero (bt_ne p) (bt_ne q)
  rw [low_dq _ _ h, divInt_eq h]
  have e1 := q_eq p
  have e2 := q_eq q
  have n1 := cast_ne (bt_ne p)
  have n2 := cast_ne (bt_ne q)
  congr 1
  rw [Rat.intCast_mul, Rat.intCast_mul]
  generalize hp1 : ((p.num : Int) : Rat) = a at *
  generalize hp2 : (((p.den : Int)) : Rat) = b at *
  generalize hq1 : ((q.num : Int) : Rat) = c at *
  generalize hq2 : (((q.den : Int)) : Rat) = d at *
  grind
theorem num_ne {q : Rat} (h : q ≠ 0) : q.num ≠ 0 := fun e => h (Rat.num_eq_zero.mp e)
theorem low_div (p q : Rat) (hq : q ≠ 0) : low (p.num * (q.den : Int)) ((p.den : Int) * q.num) = dq (p / q) := by
  have h : (p.den : Int) * q.num ≠ 0 := Int.mul_ne_zero (bt_ne p) (num_ne hq)
  rw [low_dq _ _ h, divInt_eq h]
  have e1 := q_eq p
  have e2 := q_eq q
  have n1 := cast_ne (bt_ne p)
  have n2 := cast_ne (bt_ne q)
  have n3 := cast_ne (num_ne hq)
  congr 1
  rw [Rat.intCast_mul, Rat.intCast_mul]
  generalize hp1 : ((p.num : Int) : Rat) = a at *
  generalize hp2 : (((p.den : Int)) : Rat) = b at *
  generalize hq1 : ((q.num : Int) : Rat) = c at *
  generalize hq2 : (((q.den : Int)) : Rat) = d at *
  grind
theorem low_frac (t b : Int) (h : b ≠ 0) : low t b = dq ((t : Rat) / (b : Rat)) := by rw [low_dq _ _ h, divInt_eq h]
theorem neg_dq (q : Rat) : rat (-q.num) (q.den : Int) = dq (-q) := rfl
theorem dq_inj {p q : Rat} : dq p = dq q ↔ p = q := by
  constructor
  · intro h
    injection h with h
    injection h with h1 h2
    injection h1 with h1
    injection h2 with h2
    injection h2 with h2
    exact Rat.ext h1 (Int.ofNat_inj.mp h2)
  · intro h
    rw [h]
theorem dq_beq (p q : Rat) : ((p.num == q.num) && ((p.den : Int) == (q.den : Int))) = decide (p = q) := by
  by_cases h : p = q
  · rw [h]
    simp
  · rw [decide_eq_false h]
    by_cases c : p.num = q.num
    · by_cases c2 : p.den = q.den
      · exact absurd (Rat.ext c c2) h
      · have c3 : ¬ ((p.den : Int) = (q.den : Int)) := fun e => c2 (Int.ofNat_inj.mp e)
        have c4 : ((p.den : Int) == (q.den : Int)) = false := beq_eq_false_iff_ne.mpr c3
        rw [c4, Bool.and_false]
    · have c4 : (p.num == q.num) = false := beq_eq_false_iff_ne.mpr c
      rw [c4, Bool.false_and]
theorem lt_dq (p q : Rat) : p.num * (q.den : Int) < q.num * (p.den : Int) ↔ p < q := (Rat.lt_iff p q).symm
theorem dq_zero : dq 0 = rat 0 1 := rfl
theorem dq_one : dq 1 = rat 1 1 := rfl
theorem dq_int (i : Int) : dq (i : Rat) = rat i 1 := rfl
/-- how many figures -/
structure Bd (n : Nat) (q : Rat) : Prop where
  t : Sz n q.num
  b : Sz n (q.den : Int)
theorem Bd.mono {m n : Nat} {q : Rat} (h : Bd m q) (e : m ≤ n) : Bd n q := ⟨h.t.mono e, h.b.mono e⟩
theorem Bd.frac {n : Nat} {t b : Int} (h : b ≠ 0) (ht : Sz n t) (hb : Sz n b) : Bd n ((t : Rat) / (b : Rat)) := by
  obtain ⟨q, e1, e2, e3⟩ := low_val t b h
  rw [divInt_eq h] at e3
  rw [← e3]
  exact ⟨by rw [e1]; exact ht.le (lowT_abs h), by rw [e2]; exact hb.le (lowB_abs h)⟩
theorem Bd.of {n : Nat} {t b : Int} {q : Rat} (h : b ≠ 0) (ht : Sz n t) (hb : Sz n b) (e : low t b = dq q) : Bd n q := by
  rw [low_frac t b h] at e
  rw [← dq_inj.mp e]
  exact Bd.frac h ht hb
theorem Bd.add {m n : Nat} {p q : Rat} (a : Bd m p) (b : Bd n q) : Bd (m + n + 1) (p + q) :=
  Bd.of (Int.mul_ne_zero (bt_ne p) (bt_ne q)) ((a.t.mul b.b).add ((b.t.mul a.b).mono (by omega))) ((a.b.mul b.b).mono (by omega)) (low_add p q)
theorem Bd.sub {m n : Nat} {p q : Rat} (a : Bd m p) (b : Bd n q) : Bd (m + n + 1) (p - q) :=
  Bd.of (Int.mul_ne_zero (bt_ne p) (bt_ne q)) ((a.t.mul b.b).sub ((b.t.mul a.b).mono (by omega))) ((a.b.mul b.b).mono (by omega)) (low_sub p q)
theorem Bd.mul {m n : Nat} {p q : Rat} (a : Bd m p) (b : Bd n q) : Bd (m + n) (p * q) :=
  Bd.of (Int.mul_ne_zero (bt_ne p) (bt_ne q)) (a.t.mul b.t) (a.b.mul b.b) (low_mul' p q)
theorem Bd.div {m n : Nat} {p q : Rat} (h : q ≠ 0) (a : Bd m p) (b : Bd n q) : Bd (m + n) (p / q) :=
  Bd.of (Int.mul_ne_zero (bt_ne p) (num_ne h)) (a.t.mul b.b) (a.b.mul b.t) (low_div p q h)
theorem Bd.neg {m : Nat} {p : Rat} (a : Bd m p) : Bd m (-p) := ⟨a.t.neg, a.b⟩
end Mir


set_option Elab.async false
set_option linter.all false
namespace Mir
open PySem PySem.Spec PyProof.Rows L2
/-! Lists: comprehensions and loops that go through a list of known things -/
section
variable {α : Type} {g : GM} {t : MT} {a : ME} {vs : List Nat} {ρ : Env'} {s : Hd}
/-- a comprehension that changes no state -/
theorem lc_some (dv f : α → Dt) (c : α → Bool) : ∀ (xs : List α) (acc : List Dt), acc.length + xs.length ≤ 100000 →
    (∀ x ∈ xs, ∃ ρ1, g (dv x) (wipeE ρ vs) = some ρ1 ∧ t ρ1 s = .ok (c x) s ∧ (c x = true → a ρ1 s = .ok (f x) s)) →
    loopC g t a vs (xs.map dv) acc ρ s = .ok (.lst (acc ++ (xs.filter c).map f)) s
  | [], acc, _, _ => by simp [loopC]
  | x :: xs, acc, hl, hx => by
    obtain ⟨ρ1, e1, e2, e3⟩ := hx x List.mem_cons_self
    have hl2 : acc.length + (xs.length + 1) ≤ 100000 := hl
    rw [List.map_cons]
    unfold loopC
    rw [e1]
    simp only [e2, noErr, R.bind]
    cases hc : c x with
    | true =>
      have so : sizeOk acc.length := by unfold sizeOk; omega
      simp only [if_pos, e3 hc, noErr, R.bind, if_pos so]
      rw [lc_some dv f c xs (acc ++ [f x]) (by rw [List.length_append]; simp; omega) (fun y hy => hx y (List.mem_cons_of_mem _ hy)), List.filter_cons, if_pos hc]
      simp
    | false =>
      simp only [Bool.false_eq_true, if_false]
      rw [lc_some dv f c xs acc (by omega) (fun y hy => hx y (List.mem_cons_of_mem _ hy)), List.filter_cons, if_neg (by simp [hc])]
theorem lc_map (dv f : α → Dt) (xs : List α) (hl : xs.length ≤ 100000) (hx : ∀ x ∈ xs, ∃ ρ1, g (dv x) (wipeE ρ vs) = some ρ1 ∧ a ρ1 s = .ok (f x) s) :
    loopC g mYes a vs (xs.map dv) [] ρ s = .ok (.lst (xs.map f)) s := by
  rw [lc_some (t := mYes) dv f (fun _ => true) xs [] (by simpa using hl) (fun x h => let ⟨ρ1, e1, e2⟩ := hx x h; ⟨ρ1, e1, rfl, fun _ => e2⟩), List.filter_eq_self.2 (fun _ _ => rfl)]
  simp
theorem lc_range {lo : Int} {n : Nat} (f : Nat → Dt) (hl : n ≤ 100000) (hx : ∀ j : Nat, j < n → ∃ ρ1, g (.int (lo + j)) (wipeE ρ vs) = some ρ1 ∧ a ρ1 s = .ok (f j) s) :
    loopC g mYes a vs (rangeD lo n) [] ρ s = .ok (.lst ((List.range n).map f)) s := by
  unfold rangeD
  exact lc_map _ f (List.range n) (by rw [List.length_range]; exact hl) (fun j h => hx j (List.mem_range.1 h))
theorem rng_nat {n : Nat} (h : n ≤ 1000) : rngOk (n : Int) := ⟨by omega, by omega⟩
theorem rng1_of {b : ME} {s' : Hd} {i : Int} (n : Nat) (h : b ρ s = .ok (.int i) s') (e : i = (n : Int)) (hn : n ≤ 1000) : mRng1 b ρ s = .ok (rangeD 0 n) s' := by
  have k : rngOk i := by rw [e]; exact rng_nat hn
  have t : i.toNat = n := by omega
  clear e
  unfold mRng1
  rw [h]
  simp only [R.bind]
  rw [if_pos k, t]
theorem rng2_of {b c : ME} {s1 s' : Hd} {i j : Int} (n : Nat) (h : b ρ s = .ok (.int i) s1) (h2 : c ρ s1 = .ok (.int j) s') (e : j = i + (n : Int)) (h0 : -1000 ≤ i) (h1 : i ≤ 1000) (hn : n ≤ 1000) : mRng2 b c ρ s = .ok (rangeD i n) s' := by
  have k : rngOk i := ⟨by omega, by omega⟩
  have k2 : rngOk j := ⟨by omega, by omega⟩
  have t : (j - i).toNat = n := by omega
  clear e
  unfold mRng2
  rw [h]
  simp only [R.bind]
  rw [h2]
  simp only [R.bind]
  rw [if_pos ⟨k, k2⟩, t]
/-- these speak of any expression: the kernel never evaluates it (a range of unknown length must not be evaluated) -/
theorem ret_of {c : ME} {d : Dt} {s' : Hd} (h : c ρ s = .ok d s') : mRet c ρ s = .ok (.rt d) s' := by
  unfold mRet
  rw [h]
  rfl
theorem tup_of {c : ME} {ds : List Dt} {s' : Hd} (h : c ρ s = .ok (.lst ds) s') : mCB fTupC (mCons c mNil) ρ s = .ok (.tup ds) s' := by
  simp only [mCB, mCons, mNil, h, R.bind, fTupC, liftO]
theorem all_of {c : ME} {bs : List Bool} {s' : Hd} (h : c ρ s = .ok (.lst (bs.map Dt.bl)) s') : mCB fAll (mCons c mNil) ρ s = .ok (.bl (bs.all id)) s' := by
  have e : ∀ l : List Bool, boolsD (l.map Dt.bl) = some l := by
    intro l
    induction l with
    | nil => rfl
    | cons b l ih => simp [boolsD, ih]
  simp only [mCB, mCons, mNil, h, R.bind, fAll, e, Option.map, liftO]
/-- a comprehension of which each turn takes from the hand -/
theorem lc_hand (dv : α → Dt) (P : α → Dt → Prop) : ∀ (xs : List α) (acc : List Dt) (s : Hd), acc.length + xs.length ≤ 100000 →
    (∀ x ∈ xs, ∀ s, ∃ ρ1 d s', g (dv x) (wipeE ρ vs) = some ρ1 ∧ a ρ1 s = .ok d s' ∧ P x d) →
    ∃ ds s', loopC g mYes a vs (xs.map dv) acc ρ s = .ok (.lst (acc ++ ds)) s' ∧ ds.length = xs.length ∧ ∀ (i : Nat) (x : α) (d : Dt), xs[i]? = some x → ds[i]? = some d → P x d
  | [], acc, s, _, _ => ⟨[], s, by simp [loopC], rfl, fun i x d e => by simp at e⟩
  | x :: xs, acc, s, hl, hx => by
    obtain ⟨ρ1, d, s', e1, e2, e3⟩ := hx x List.mem_cons_self s
    have hl2 : acc.length + (xs.length + 1) ≤ 100000 := hl
    have so : sizeOk acc.length := by unfold sizeOk; omega
    obtain ⟨ds, s2, h1, h2, h3⟩ := lc_hand dv P xs (acc ++ [d]) s' (by rw [List.length_append]; simp; omega) (fun y hy => hx y (List.mem_cons_of_mem _ hy))
    refine ⟨d :: ds, s2, ?_, by simp [h2], fun i y z ey ez => ?_⟩
    · rw [List.map_cons]
      unfold loopC
      rw [e1]
      simp only [mYes, noErr, R.bind, if_pos, e2, if_pos so]
      rw [h1]
      simp
    · cases i with
      | zero => simp at ey ez; subst ey; subst ez; exact e3
      | succ i => simp at ey ez; exact h3 i y z ey ez
/-- a loop with what it keeps -/
theorem for_inv {body : MS} (dv : α → Dt) (I : List α → Env' → Hd → Prop) : ∀ (xs pre : List α) (ρ : Env') (s : Hd), I pre ρ s →
    (∀ (p : List α) (x : α) (q : List α) (ρ : Env') (s : Hd), pre ++ xs = p ++ x :: q → I p ρ s → ∃ ρ1 ρ2 s2, g (dv x) ρ = some ρ1 ∧ body ρ1 s = .ok (.nx ρ2) s2 ∧ I (p ++ [x]) ρ2 s2) →
    ∃ ρ' s', loopF g body (xs.map dv) ρ s = .ok (.nx ρ') s' ∧ I (pre ++ xs) ρ' s'
  | [], pre, ρ, s, h0, _ => ⟨ρ, s, rfl, by simpa using h0⟩
  | x :: xs, pre, ρ, s, h0, hs => by
    obtain ⟨ρ1, ρ2, s2, e1, e2, e3⟩ := hs pre x xs ρ s rfl h0
    obtain ⟨ρ', s', h1, h2⟩ := for_inv dv I xs (pre ++ [x]) ρ2 s2 e3 (fun p y q ρ s e i => hs p y q ρ s (by rw [← e]; simp) i)
    refine ⟨ρ', s', ?_, by simpa using h2⟩
    rw [List.map_cons]
    unfold loopF
    rw [e1]
    simp only [e2]
    exact h1
theorem for_range {body : MS} (dv : Nat → Dt) (I : Nat → Env' → Hd → Prop) (n : Nat) (h0 : I 0 ρ s)
    (hs : ∀ (i : Nat) (ρ : Env') (s : Hd), i < n → I i ρ s → ∃ ρ1 ρ2 s2, g (dv i) ρ = some ρ1 ∧ body ρ1 s = .ok (.nx ρ2) s2 ∧ I (i + 1) ρ2 s2) :
    ∃ ρ' s', loopF g body ((List.range n).map dv) ρ s = .ok (.nx ρ') s' ∧ I n ρ' s' := by
  obtain ⟨ρ', s', h1, h2⟩ := for_inv (g := g) (body := body) dv (fun p ρ s => I p.length ρ s) (List.range n) [] ρ s h0 (fun p x q ρ s e i => by
    rw [List.nil_append] at e
    have hx : (List.range n)[p.length]? = some x := by rw [e]; simp
    have hn : p.length < n := by
      have := congrArg List.length e
      simp at this
      omega
    rw [List.getElem?_range hn] at hx
    have ex : x = p.length := by simpa using hx.symm
    subst ex
    obtain ⟨ρ1, ρ2, s2, a1, a2, a3⟩ := hs p.length ρ s hn i
    exact ⟨ρ1, ρ2, s2, a1, a2, by simpa using a3⟩)
  exact ⟨ρ', s', h1, by simpa using h2⟩
end
end Mir


set_option Elab.async false
set_option linter.all false
/-! Steps of expressions and statements, one lemma each, and a tactic that puts them together. -/
namespace Mir
open PySem PySem.Spec PyProof.Rows L2
section
variable {ρ ρ1 ρ2 : Env'} {s s1 s2 s3 s4 : Hd} {d e r : Dt} {ds es : List Dt} {a b : ME} {as : MA} {t t2 : MT} {b1 b2 : MS} {c : Bool} {i j : Nat}
theorem ev_var (h : ρ[i]? = some (.dat d)) : mVar i ρ s = .ok d s := by unfold mVar; rw [h]
theorem ev_c : mC d ρ s = .ok d s := rfl
theorem ev_op {f : Dt → Dt → Option Dt} (h1 : a ρ s = .ok d s1) (h2 : b ρ s1 = .ok e s2) (h3 : f d e = some r) : mOp f a b ρ s = .ok r s2 := by
  unfold mOp; rw [h1]; simp only [R.bind_ok]; rw [h2]; simp only [R.bind_ok]; rw [h3]; rfl
theorem ev_un {f : Dt → Option Dt} (h1 : a ρ s = .ok d s1) (h3 : f d = some r) : mUn f a ρ s = .ok r s1 := by
  unfold mUn; rw [h1]; simp only [R.bind_ok]; rw [h3]; rfl
theorem ev_test (h : a ρ s = .ok (.bl c) s1) : mTest a ρ s = .ok c s1 := by unfold mTest; rw [h]; rfl
theorem ev_tru (h : a ρ s = .ok d s1) (h2 : fTru d = some c) : mTru a ρ s = .ok c s1 := by unfold mTru; rw [h]; simp only [R.bind_ok]; rw [h2]; rfl
theorem ev_not_f (h : t ρ s = .ok true s1) : mNot t ρ s = .ok false s1 := by unfold mNot; rw [h]; rfl
theorem ev_not_t (h : t ρ s = .ok false s1) : mNot t ρ s = .ok true s1 := by unfold mNot; rw [h]; rfl
theorem ev_or_t (h : t ρ s = .ok true s1) : mOr t t2 ρ s = .ok true s1 := by unfold mOr; rw [h]; rfl
theorem ev_or_f (h : t ρ s = .ok false s1) (h2 : t2 ρ s1 = .ok c s2) : mOr t t2 ρ s = .ok c s2 := by unfold mOr; rw [h]; exact h2
theorem ev_and_f (h : t ρ s = .ok false s1) : mAnd t t2 ρ s = .ok false s1 := by unfold mAnd; rw [h]; rfl
theorem ev_and_t (h : t ρ s = .ok true s1) (h2 : t2 ρ s1 = .ok c s2) : mAnd t t2 ρ s = .ok c s2 := by unfold mAnd; rw [h]; exact h2
theorem ev_if_t (h : t ρ s = .ok true s1) (h2 : a ρ s1 = .ok d s2) : mIf t a b ρ s = .ok d s2 := by unfold mIf; rw [h]; exact h2
theorem ev_if_f (h : t ρ s = .ok false s1) (h2 : b ρ s1 = .ok d s2) : mIf t a b ρ s = .ok d s2 := by unfold mIf; rw [h]; exact h2
theorem ev_andv_t (h : a ρ s = .ok d s1) (h1 : fTru d = some true) (h2 : b ρ s1 = .ok e s2) : mAndV a b ρ s = .ok e s2 := by
  unfold mAndV; rw [h]; simp only [R.bind_ok]; rw [h1]; exact h2
theorem ev_andv_f (h : a ρ s = .ok d s1) (h1 : fTru d = some false) : mAndV a b ρ s = .ok d s1 := by
  unfold mAndV; rw [h]; simp only [R.bind_ok]; rw [h1]; rfl
theorem ev_orv_f (h : a ρ s = .ok d s1) (h1 : fTru d = some false) (h2 : b ρ s1 = .ok e s2) : mOrV a b ρ s = .ok e s2 := by
  unfold mOrV; rw [h]; simp only [R.bind_ok]; rw [h1]; exact h2
theorem ev_orv_t (h : a ρ s = .ok d s1) (h1 : fTru d = some true) : mOrV a b ρ s = .ok d s1 := by
  unfold mOrV; rw [h]; simp only [R.bind_ok]; rw [h1]; rfl
theorem ev_notv (h : a ρ s = .ok d s1) (h1 : fTru d = some c) : mNotV a ρ s = .ok (.bl (!c)) s1 := by
  unfold mNotV; rw [h]; simp only [R.bind_ok]; rw [h1]; rfl
theorem ev_nil : mNil ρ s = .ok [] s := rfl
theorem ev_cons (h : a ρ s = .ok d s1) (h2 : as ρ s1 = .ok ds s2) : mCons a as ρ s = .ok (d :: ds) s2 := by
  unfold mCons; rw [h]; simp only [R.bind_ok]; rw [h2]; rfl
theorem ev_tup (h : as ρ s = .ok ds s1) (hl : ds.length ≤ 100000) : mTup as ρ s = .ok (.tup ds) s1 := by
  unfold mTup; rw [h]; simp only [R.bind_ok]; rw [if_pos hl]
theorem ev_lst (h : as ρ s = .ok ds s1) (hl : ds.length ≤ 100000) : mLst as ρ s = .ok (.lst ds) s1 := by
  unfold mLst; rw [h]; simp only [R.bind_ok]; rw [if_pos hl]
theorem ev_cb {f : List Dt → Option Dt} (h : as ρ s = .ok ds s1) (h1 : f ds = some r) : mCB f as ρ s = .ok r s1 := by
  unfold mCB; rw [h]; simp only [R.bind_ok]; rw [h1]; rfl
theorem ev_call {n : Nat} {dd : List Dt} {m : List Dt → Hd → R Dt} (h : as ρ s = .ok ds s1) (hl : (ds ++ dd).length = n) (hm : m (ds ++ dd) s1 = .ok r s2) : mCall n dd m as ρ s = .ok r s2 := by
  unfold mCall; rw [h]; simp only [R.bind_ok]; rw [if_pos hl, hm]
theorem ev_call0 {n : Nat} {m : List Dt → Hd → R Dt} (h : as ρ s = .ok ds s1) (hl : ds.length = n) (hm : m ds s1 = .ok r s2) : mCall n [] m as ρ s = .ok r s2 := ev_call h (by rw [List.append_nil]; exact hl) (by rw [List.append_nil]; exact hm)
theorem ev_call_err {n : Nat} {dd : List Dt} {m : List Dt → Hd → R Dt} {cl : Str} {fs : List (Str × Dt)} {ρ' : Env'} (h : as ρ s = .ok ds s1) (hl : (ds ++ dd).length = n) (hm : m (ds ++ dd) s1 = .err cl fs ρ' s2) : mCall n dd m as ρ s = .err cl fs ρ s2 := by
  unfold mCall; rw [h]; simp only [R.bind_ok]; rw [if_pos hl, hm]
theorem ev_meth {cl x : Str} {n : Nat} {dd : List Dt} {m : List Dt → Hd → R Dt} {fs : List (Str × Dt)} (h : a ρ s = .ok (.obj cl fs) s1) (hx : fs.lookup x = none) (h2 : as ρ s1 = .ok ds s2) (hl : (ds ++ dd).length + 1 = n) (hm : m (.obj cl fs :: (ds ++ dd)) s2 = .ok r s3) : mMeth cl x n dd m a as ρ s = .ok r s3 := by
  unfold mMeth; rw [h]; simp only [R.bind_ok]; simp only [hx, and_self, if_true]; rw [h2]; simp only [R.bind_ok]; rw [if_pos hl, hm]
theorem ev_meth0 {cl x : Str} {n : Nat} {m : List Dt → Hd → R Dt} {fs : List (Str × Dt)} (h : a ρ s = .ok (.obj cl fs) s1) (hx : fs.lookup x = none) (h2 : as ρ s1 = .ok ds s2) (hl : ds.length + 1 = n) (hm : m (.obj cl fs :: ds) s2 = .ok r s3) : mMeth cl x n [] m a as ρ s = .ok r s3 := ev_meth h hx h2 (by rw [List.append_nil]; exact hl) (by rw [List.append_nil]; exact hm)
theorem ev_make0 {cl : Str} {n : Nat} {m : List Dt → Hd → R (List (Str × Dt))} {fs : List (Str × Dt)} (h : as ρ s = .ok ds s1) (hl : ds.length = n) (hm : m ds s1 = .ok fs s2) : mMake cl n [] m as ρ s = .ok (.obj cl fs) s2 := by
  unfold mMake; rw [h]; simp only [R.bind_ok, List.append_nil]; rw [if_pos hl, hm]
theorem ev_meth_err {cl x : Str} {n : Nat} {dd : List Dt} {m : List Dt → Hd → R Dt} {fs : List (Str × Dt)} {c2 : Str} {f2 : List (Str × Dt)} {ρ' : Env'} (h : a ρ s = .ok (.obj cl fs) s1) (hx : fs.lookup x = none) (h2 : as ρ s1 = .ok ds s2) (hl : (ds ++ dd).length + 1 = n) (hm : m (.obj cl fs :: (ds ++ dd)) s2 = .err c2 f2 ρ' s3) : mMeth cl x n dd m a as ρ s = .err c2 f2 ρ s3 := by
  unfold mMeth; rw [h]; simp only [R.bind_ok]; simp only [hx, and_self, if_true]; rw [h2]; simp only [R.bind_ok]; rw [if_pos hl, hm]
theorem ev_attr {cs : List Str} {f cl : Str} {fs : List (Str × Dt)} (h : a ρ s = .ok (.obj cl fs) s1) (hc : cl ∈ cs) (h2 : fs.lookup f = some d) : mAttr cs f a ρ s = .ok d s1 := by
  unfold mAttr; rw [h]; simp only [R.bind_ok]; rw [if_pos hc, h2]; rfl
theorem ev_make {cl : Str} {n : Nat} {dd : List Dt} {m : List Dt → Hd → R (List (Str × Dt))} {fs : List (Str × Dt)} (h : as ρ s = .ok ds s1) (hl : (ds ++ dd).length = n) (hm : m (ds ++ dd) s1 = .ok fs s2) : mMake cl n dd m as ρ s = .ok (.obj cl fs) s2 := by
  unfold mMake; rw [h]; simp only [R.bind_ok]; rw [if_pos hl, hm]
theorem ev_isi {T : String} (h : a ρ s = .ok d s1) (h2 : fIsi T d = some c) : mIsi T a ρ s = .ok (.bl c) s1 := by
  unfold mIsi; rw [h]; simp only [R.bind_ok]; rw [h2]; rfl
theorem ev_isi2 {T U : String} (h : a ρ s = .ok d s1) (h2 : fIsi2 T U d = some c) : mIsi2 T U a ρ s = .ok (.bl c) s1 := by
  unfold mIsi2; rw [h]; simp only [R.bind_ok]; rw [h2]; rfl
theorem ev_lc {g : GM} {it : MA} {vs : List Nat} (h : it ρ s = .ok ds s1) (h2 : loopC g t a vs ds [] ρ s1 = .ok d s2) : mLc g it t a vs ρ s = .ok d s2 := (lc_of h).trans h2
theorem ev_seqI (h : a ρ s = .ok d s1) (k : seqD d = some ds) : mSeqI a ρ s = .ok ds s1 := by
  unfold mSeqI
  rw [h]
  cases d <;> simp_all [seqD, R.bind]
theorem ev_ixo_own {k : Int} (h : ρ[i]? = some (.own ds)) (h2 : b ρ s = .ok (.int k) s1) (h3 : atI ds k = some r) : mIxO i b ρ s = .ok r s1 := by
  unfold mIxO; rw [h]; simp only; rw [h2]; simp only [R.bind_ok]; rw [h3]; rfl
theorem ev_ixo_dat (h : ρ[i]? = some (.dat d)) (h2 : b ρ s = .ok e s1) (h3 : fIx d e = some r) : mIxO i b ρ s = .ok r s1 := by
  unfold mIxO; rw [h]; simp only; rw [h2]; simp only [R.bind_ok]; rw [h3]; rfl
/-! statements -/
theorem es_next : mNext ρ s = .ok (.nx ρ) s := rfl
theorem es_seq {q : R Fl} (h : b1 ρ s = .ok (.nx ρ1) s1) (h2 : b2 ρ1 s1 = q) : mSeq b1 b2 ρ s = q := (seq_nx h).trans h2
theorem es_set (h : a ρ s = .ok d s1) : mSet i a ρ s = .ok (.nx (ρ.set i (.dat d))) s1 := by unfold mSet; rw [h]; rfl
theorem es_ret (h : a ρ s = .ok d s1) : mRet a ρ s = .ok (.rt d) s1 := ret_of h
theorem es_drop (h : a ρ s = .ok d s1) : mDrop a ρ s = .ok (.nx ρ) s1 := by unfold mDrop; rw [h]; rfl
theorem es_if_t {q : R Fl} (h : t ρ s = .ok true s1) (h2 : b1 ρ s1 = q) : mIfS t b1 b2 ρ s = q := by unfold mIfS; rw [h]; exact h2
theorem es_if_f {q : R Fl} (h : t ρ s = .ok false s1) (h2 : b2 ρ s1 = q) : mIfS t b1 b2 ρ s = q := by unfold mIfS; rw [h]; exact h2
theorem es_asg {g : GM} (h : a ρ s = .ok d s1) (h2 : g d ρ = some ρ1) : mAsg g a ρ s = .ok (.nx ρ1) s1 := by
  unfold mAsg; rw [h]; simp only [R.bind_ok]; rw [h2]
theorem es_par (h : as ρ s = .ok [d, e] s1) : mPar i j as ρ s = .ok (.nx ((ρ.set i (.dat d)).set j (.dat e))) s1 := by
  unfold mPar; rw [h]; rfl
theorem es_setO {m : MA} (h : m ρ s = .ok ds s1) : mSetO i m ρ s = .ok (.nx (ρ.set i (.own ds))) s1 := by unfold mSetO; rw [h]; rfl
theorem ev_lstO (h : as ρ s = .ok ds s1) (hl : ds.length ≤ 100000) : mLstO as ρ s = .ok ds s1 := by
  unfold mLstO; rw [h]; simp only [R.bind_ok]; rw [if_pos hl]
theorem es_for {g : GM} {it : MA} {q : R Fl} (h : it ρ s = .ok ds s1) (h2 : loopF g b1 ds ρ s1 = q) : mFor g it b1 ρ s = q := (for_of h).trans h2
theorem es_def {n : Nat} {b : MS} {ρ : Env'} (hρ : startE n ds = ρ) (h : b ρ s = .ok (.rt d) s1) : mDef n b ds s = .ok d s1 := by
  subst hρ
  exact def_rt h
theorem es_def_nx {n : Nat} {b : MS} {ρ : Env'} (hρ : startE n ds = ρ) (h : b ρ s = .ok (.nx ρ1) s1) : mDef n b ds s = .ok .non s1 := by
  subst hρ
  unfold mDef
  rw [h]
theorem es_def_err {n : Nat} {b : MS} {ρ : Env'} {cl : Str} {fs : List (Str × Dt)} (hρ : startE n ds = ρ) (h : b ρ s = .err cl fs ρ1 s1) : mDef n b ds s = .err cl fs ρ1 s1 := by
  subst hρ
  unfold mDef
  rw [h]
theorem es_app (h : ρ[i]? = some (.own ds)) (h2 : a ρ s = .ok d s1) (hl : ds.length ≤ 100000) : mApp i a ρ s = .ok (.nx (ρ.set i (.own (ds ++ [d])))) s1 := by
  unfold mApp; rw [h]; simp only; rw [h2]; simp only [R.bind_ok]; rw [if_pos (show sizeOk ds.length from hl)]
theorem es_setI {k : Int} (h1 : a ρ s = .ok d s1) (h : ρ[i]? = some (.own ds)) (h2 : b ρ s1 = .ok (.int k) s2) (hj : ixN ds.length k = some j) : mSetI i b a ρ s = .ok (.nx (ρ.set i (.own (ds.set j d)))) s2 := by
  unfold mSetI; rw [h1]; simp only [R.bind_ok]; rw [h]; simp only; rw [h2]; simp only [R.bind_ok]; rw [hj]
theorem ev_bor (h : ρ[i]? = some (.own ds)) (h2 : a (ρ.set i (.dat (.lst ds))) s = .ok d s1) (hf : lfree d = true) : mBor i a ρ s = .ok d s1 := by
  unfold mBor; rw [h]; simp only; rw [h2]; simp only; rw [if_pos hf]
theorem es_fld {cl f : Str} {cs : List Str} {fs : List (Str × Dt)} (h : a ρ s = .ok d s1) (h2 : ρ[i]? = some (.slf cl fs)) (hc : cl ∈ cs) (hl : fs.length < 1000) : mFld i cs f a ρ s = .ok (.nx (ρ.set i (.slf cl (putFD f d fs)))) s1 := by
  unfold mFld; rw [h]; simp only [R.bind_ok]; rw [h2]; simp only; rw [if_pos ⟨hc, hl⟩]
theorem es_init {n : Nat} {cl : Str} {ms : MS} {fs : List (Str × Dt)} (hρ : startI n cl ds = ρ) (h : ms ρ s = .ok (.nx ρ1) s1) (h2 : ρ1[0]? = some (.slf cl fs)) : mInit n cl ms ds s = .ok fs s1 := by
  subst hρ
  unfold mInit; rw [h]; simp only; rw [h2]; simp
theorem es_frz {is : List Nat} (h : is.foldl frzE ρ = ρ1) {q : R Fl} (h2 : b1 ρ1 s = q) : mFrz is b1 ρ s = q := by
  unfold mFrz; rw [h]; exact h2
theorem loop_nx {g : GM} {q : R Fl} (h : g d ρ = some ρ1) (h2 : b1 ρ1 s = .ok (.nx ρ2) s1) (h3 : loopF g b1 ds ρ2 s1 = q) : loopF g b1 (d :: ds) ρ s = q := by
  unfold loopF; rw [h]; simp only; rw [h2]; exact h3
theorem loop_rt {g : GM} (h : g d ρ = some ρ1) (h2 : b1 ρ1 s = .ok (.rt e) s1) : loopF g b1 (d :: ds) ρ s = .ok (.rt e) s1 := by
  unfold loopF; rw [h]; simp only; rw [h2]
theorem loop_err {g : GM} {cl : Str} {fs : List (Str × Dt)} (h : g d ρ = some ρ1) (h2 : b1 ρ1 s = .err cl fs ρ2 s1) : loopF g b1 (d :: ds) ρ s = .err cl fs ρ2 s1 := by
  unfold loopF; rw [h]; simp only; rw [h2]
theorem rangeD_succ (lo : Int) (n : Nat) : rangeD lo (n + 1) = .int lo :: rangeD (lo + 1) n := by
  unfold rangeD
  rw [List.range_succ_eq_map, List.map_cons, List.map_map]
  congr 1
  · simp
  · refine List.map_congr_left fun i _ => ?_
    simp only [Function.comp, Dt.int.injEq]
    omega
section
variable {cl : Str} {fs : List (Str × Dt)} {ρ' : Env'}
theorem ev_cons_e1 (h : a ρ s = .err cl fs ρ' s1) : mCons a as ρ s = .err cl fs ρ' s1 := by unfold mCons; rw [h]; rfl
theorem ev_cons_e2 (h : a ρ s = .ok d s1) (h2 : as ρ s1 = .err cl fs ρ' s2) : mCons a as ρ s = .err cl fs ρ' s2 := by unfold mCons; rw [h]; simp only [R.bind_ok]; rw [h2]; rfl
theorem ev_call_ae {n : Nat} {dd : List Dt} {m : List Dt → Hd → R Dt} (h : as ρ s = .err cl fs ρ' s1) : mCall n dd m as ρ s = .err cl fs ρ' s1 := by unfold mCall; rw [h]; rfl
theorem ev_meth_ae {c x : Str} {n : Nat} {dd : List Dt} {m : List Dt → Hd → R Dt} {f2 : List (Str × Dt)} (h : a ρ s = .ok (.obj c f2) s1) (hx : f2.lookup x = none) (h2 : as ρ s1 = .err cl fs ρ' s2) : mMeth c x n dd m a as ρ s = .err cl fs ρ' s2 := by
  unfold mMeth; rw [h]; simp only [R.bind_ok]; simp only [hx, and_self, if_true]; rw [h2]; rfl
theorem ev_call0_e {n : Nat} {m : List Dt → Hd → R Dt} (h : as ρ s = .ok ds s1) (hl : ds.length = n) (hm : m ds s1 = .err cl fs ρ' s2) : mCall n [] m as ρ s = .err cl fs ρ s2 := by
  unfold mCall; rw [h]; simp only [R.bind_ok, List.append_nil]; rw [if_pos hl, hm]
theorem ev_meth0_e {c x : Str} {n : Nat} {m : List Dt → Hd → R Dt} {f2 : List (Str × Dt)} (h : a ρ s = .ok (.obj c f2) s1) (hx : f2.lookup x = none) (h2 : as ρ s1 = .ok ds s2) (hl : ds.length + 1 = n) (hm : m (.obj c f2 :: ds) s2 = .err cl fs ρ' s3) : mMeth c x n [] m a as ρ s = .err cl fs ρ s3 := by
  unfold mMeth; rw [h]; simp only [R.bind_ok]; simp only [hx, and_self, if_true]; rw [h2]; simp only [R.bind_ok, List.append_nil]; rw [if_pos hl, hm]
theorem ev_make0_e {c : Str} {n : Nat} {m : List Dt → Hd → R (List (Str × Dt))} (h : as ρ s = .ok ds s1) (hl : ds.length = n) (hm : m ds s1 = .err cl fs ρ' s2) : mMake c n [] m as ρ s = .err cl fs ρ s2 := by
  unfold mMake; rw [h]; simp only [R.bind_ok, List.append_nil]; rw [if_pos hl, hm]
theorem es_ret_e (h : a ρ s = .err cl fs ρ' s1) : mRet a ρ s = .err cl fs ρ' s1 := by unfold mRet; rw [h]; rfl
theorem es_drop_e (h : a ρ s = .err cl fs ρ' s1) : mDrop a ρ s = .err cl fs ρ' s1 := by unfold mDrop; rw [h]; rfl
theorem es_set_e (h : a ρ s = .err cl fs ρ' s1) : mSet i a ρ s = .err cl fs ρ' s1 := by unfold mSet; rw [h]; rfl
theorem es_asg_e {g : GM} (h : a ρ s = .err cl fs ρ' s1) : mAsg g a ρ s = .err cl fs ρ' s1 := by unfold mAsg; rw [h]; rfl
theorem es_raise0 {c : Str} : mRaise0 c ρ s = .err c [] ρ s := rfl
theorem es_raise {c : Str} {names : List Str} (h : as ρ s = .ok ds s1) (hl : ds.length = names.length ∧ names.length ≤ 100 ∧ 0 < names.length) : mRaise c names as ρ s = .err c (names.zip ds).reverse ρ s1 := by
  unfold mRaise; rw [h]; simp only [R.bind_ok]; rw [if_pos hl]
/-! try -/
theorem es_tryq {f : Fl} {all : List Str} {cls : List MC} (h : b1 ρ s = .ok f s1) : mTryQ all b1 cls ρ s = .ok f s1 := by
  have e : (fun ρ s => onlyOf all (b1 ρ s)) ρ s = .ok f s1 := by
    show onlyOf all (b1 ρ s) = _
    rw [h]
    rfl
  unfold mTryQ mTryCl
  rw [e]
theorem es_tryq_e {all : List Str} {cls : List MC} {m : MX} {q : R Fl} (h : b1 ρ s = .err cl fs ρ' s1) (ha : cl ∈ all) (hm : m fs ρ' s1 = q) : mTryQ all b1 ((cl, none, m) :: cls) ρ s = clOut none q := by
  have e : (fun ρ s => onlyOf all (b1 ρ s)) ρ s = .err cl fs ρ' s1 := by
    show onlyOf all (b1 ρ s) = _
    rw [h]
    simp only [onlyOf, if_pos ha]
  unfold mTryQ mTryCl
  rw [e]
  simp only [runCl, if_true, clLt, clIn]
  rw [hm]
theorem es_tryas {f : Fl} {c : Str} {m : MX} (h : b1 ρ s = .ok f s1) : mTryAs i c b1 m ρ s = .ok f s1 := by
  unfold mTryAs
  rw [h]
theorem es_tryas_rt {c : Str} {m : MX} (h : b1 ρ s = .err c fs ρ' s1) (hi : i < ρ'.length) (hm : m fs (ρ'.set i .no) s1 = .ok (.rt d) s2) : mTryAs i c b1 m ρ s = .ok (.rt d) s2 := by
  unfold mTryAs
  rw [h]
  simp only [hi, and_self, if_true]
  rw [hm]
end
theorem es_seq_err {cl : Str} {fs : List (Str × Dt)} (h : b1 ρ s = .err cl fs ρ1 s1) : mSeq b1 b2 ρ s = .err cl fs ρ1 s1 := by
  unfold mSeq
  rw [h]
end
end Mir
local macro_rules | `(tactic| array_get_dec) => `(tactic| with_reducible assumption)
local macro_rules | `(tactic| array_mem_dec) => `(tactic| first
  | ((with_reducible apply Mir.ev_test); sizeOf_list_dec)
  | ((with_reducible apply Mir.ev_not_t); array_mem_dec)
  | ((with_reducible apply Mir.ev_not_f); array_mem_dec)
  | ((with_reducible apply Mir.ev_or_t); array_mem_dec)
  | ((with_reducible apply Mir.ev_or_f); array_mem_dec; array_mem_dec)
  | ((with_reducible apply Mir.ev_tru); sizeOf_list_dec; array_get_dec))
local macro_rules | `(tactic| sizeOf_list_dec) => `(tactic| first
  | array_get_dec
  | ((with_reducible apply Mir.ev_var); rfl)
  | with_reducible exact Mir.ev_c
  | with_reducible exact Mir.ev_nil
  | ((with_reducible apply Mir.ev_cons); sizeOf_list_dec; sizeOf_list_dec)
  | ((with_reducible apply Mir.ev_op); sizeOf_list_dec; sizeOf_list_dec; (first | array_get_dec | rfl))
  | ((with_reducible apply Mir.ev_un); sizeOf_list_dec; (first | array_get_dec | rfl))
  | ((with_reducible apply Mir.ev_cb); sizeOf_list_dec; (first | array_get_dec | rfl))
  | ((with_reducible apply Mir.ev_call0); sizeOf_list_dec; rfl; array_get_dec)
  | ((with_reducible apply Mir.ev_call); sizeOf_list_dec; rfl; (simp only [List.append_nil, List.cons_append, List.nil_append]; array_get_dec))
  | ((with_reducible apply Mir.ev_meth0); sizeOf_list_dec; (first | array_get_dec | rfl); sizeOf_list_dec; rfl; array_get_dec)
  | ((with_reducible apply Mir.ev_make0); sizeOf_list_dec; rfl; array_get_dec)
  | ((with_reducible apply Mir.ev_attr); sizeOf_list_dec; (first | array_get_dec | decide | simp); (first | array_get_dec | rfl))
  | ((with_reducible apply Mir.ev_tup); sizeOf_list_dec; (first | array_get_dec | exact Nat.le_of_ble_eq_true rfl))
  | ((with_reducible apply Mir.ev_lst); sizeOf_list_dec; (first | array_get_dec | exact Nat.le_of_ble_eq_true rfl))
  | ((with_reducible apply Mir.ev_if_t); array_mem_dec; sizeOf_list_dec)
  | ((with_reducible apply Mir.ev_if_f); array_mem_dec; sizeOf_list_dec)
  | array_mem_dec)


set_option Elab.async false
set_option linter.all false
/-! Plain data: it equals itself. -/
namespace Mir
open PySem PySem.Spec PyProof.Rows L2
def plD : Nat → Dt → Bool
  | _, .non => true
  | _, .bl _ => true
  | _, .int _ => true
  | _, .str x => PyData.canLay0 (.str x)
  | n + 1, .tup ds => ds.all (plD n)
  | n + 1, .lst ds => ds.all (plD n)
  | _, _ => false
theorem pl_list {n : Nat} (h : ∀ d, plD n d = true → ∃ p, toPy d = some p ∧ p.canLay0 = true ∧ p.depth ≤ n ∧ PyData.eqv p p = true) : ∀ ds : List Dt, ds.all (plD n) = true → ∃ ps, toPyA ds = some ps ∧ PyData.canLayAll0 ps = true ∧ PyData.depthAll ps ≤ n ∧ PyData.eqvAll ps ps = true
  | [], _ => ⟨[], rfl, by simp [PyData.canLayAll0], by simp [PyData.depthAll], by simp [PyData.eqvAll]⟩
  | d :: ds, e => by
    rw [List.all_cons, Bool.and_eq_true] at e
    obtain ⟨p, a1, a2, a3, a4⟩ := h d e.1
    obtain ⟨ps, b1, b2, b3, b4⟩ := pl_list h ds e.2
    refine ⟨p :: ps, by simp [toPyA, a1, b1], by simp [PyData.canLayAll0, a2, b2], by simp [PyData.depthAll]; omega, by simp [PyData.eqvAll, a4, b4]⟩
theorem pl_py : ∀ (n : Nat) (d : Dt), plD n d = true → ∃ p, toPy d = some p ∧ p.canLay0 = true ∧ p.depth ≤ n ∧ PyData.eqv p p = true := by
  intro n
  induction n with
  | zero =>
    intro d h
    cases d with
    | non => exact ⟨_, rfl, by simp [PyData.canLay0], by simp [PyData.depth], by simp [PyData.eqv]⟩
    | bl b => exact ⟨_, rfl, by simp [PyData.canLay0], by simp [PyData.depth], by simp [PyData.eqv]⟩
    | int b => exact ⟨_, rfl, by simp [PyData.canLay0], by simp [PyData.depth], by simp [PyData.eqv]⟩
    | str x => exact ⟨.str x, rfl, by simpa [plD] using h, by simp [PyData.depth], by simp [PyData.eqv]⟩
    | _ => simp [plD] at h
  | succ n ih =>
    intro d h
    cases d with
    | non => exact ⟨_, rfl, by simp [PyData.canLay0], by simp [PyData.depth], by simp [PyData.eqv]⟩
    | bl b => exact ⟨_, rfl, by simp [PyData.canLay0], by simp [PyData.depth], by simp [PyData.eqv]⟩
    | int b => exact ⟨_, rfl, by simp [PyData.canLay0], by simp [PyData.depth], by simp [PyData.eqv]⟩
    | str x => exact ⟨.str x, rfl, by simpa [plD] using h, by simp [PyData.depth], by simp [PyData.eqv]⟩
    | tup ds =>
      obtain ⟨ps, b1, b2, b3, b4⟩ := pl_list ih ds (by simpa only [plD] using h)
      exact ⟨.tuple ps, by simp [toPy, b1], by simp [PyData.canLay0, b2], by simp [PyData.depth]; omega, by simp [PyData.eqv, b4]⟩
    | lst ds =>
      obtain ⟨ps, b1, b2, b3, b4⟩ := pl_list ih ds (by simpa only [plD] using h)
      exact ⟨.list ps, by simp [toPy, b1], by simp [PyData.canLay0, b2], by simp [PyData.depth]; omega, by simp [PyData.eqv, b4]⟩
    | _ => simp [plD] at h
theorem pl_ok {n : Nat} {d : Dt} (hn : n ≤ 64) (h : plD n d = true) : ∃ p, pyOk d = some p ∧ PyData.eqv p p = true := by
  obtain ⟨p, a1, a2, a3, a4⟩ := pl_py n d h
  have e : SeqAt.shaped p = true := by
    show (p.canLay0 && decide (p.depth ≤ 64)) = true
    rw [a2, decide_eq_true (by omega)]
    rfl
  refine ⟨p, ?_, a4⟩
  unfold pyOk
  rw [a1]
  simp [e]
theorem eqB_self {d : Dt} (n : Nat) (hn : n ≤ 64) (h : plD n d = true) : fEqB d d = some true := by
  obtain ⟨p, e1, e2⟩ := pl_ok hn h
  unfold fEqB
  rw [e1]
  simp [e2]
theorem eq_self {d : Dt} (n : Nat) (hn : n ≤ 64) (h : plD n d = true) : fEq d d = some (.bl true) := by
  unfold fEq
  rw [eqB_self n hn h]
  rfl
theorem ne_self {d : Dt} (n : Nat) (hn : n ≤ 64) (h : plD n d = true) : fNe d d = some (.bl false) := by
  unfold fNe
  rw [eqB_self n hn h]
  rfl
/-- a choice along a row -/
theorem choose_row {α : Type} [Inhabited α] {n : Nat} {Q : Nat → α → Prop} (h : ∀ i, i < n → ∃ a, Q i a) : ∃ f : Nat → α, ∀ i, i < n → Q i (f i) := by
  refine ⟨fun i => if c : i < n then Classical.choose (h i c) else default, fun i hi => ?_⟩
  simp only [dif_pos hi]
  exact Classical.choose_spec (h i hi)
/-- a row of data by a function -/
def fD {α : Type} (g : α → Dt) (n : Nat) (f : Nat → α) : List Dt := (List.range n).map fun i => g (f i)
theorem fD_len {α : Type} {g : α → Dt} {n : Nat} {f : Nat → α} : (fD g n f).length = n := by simp [fD]
theorem fD_get {α : Type} {g : α → Dt} {n : Nat} {f : Nat → α} {i : Nat} (h : i < n) : (fD g n f)[i]? = some (g (f i)) := by
  unfold fD
  rw [List.getElem?_map, List.getElem?_range h]
  rfl
theorem fD_at {α : Type} {g : α → Dt} {n : Nat} {f : Nat → α} {i : Int} (h0 : 0 ≤ i) (h : i < n) : atI (fD g n f) i = some (g (f i.toNat)) := by
  have e : ixN (fD g n f).length i = some i.toNat := by
    unfold ixN
    rw [if_pos h0, fD_len, if_pos h]
  unfold atI
  rw [e]
  exact fD_get (by omega)
theorem fD_set {α : Type} {g : α → Dt} {n : Nat} {f : Nat → α} {i : Nat} {a : α} (h : i < n) : (fD g n f).set i (g a) = fD g n (fun j => if j = i then a else f j) := by
  apply List.ext_getElem?
  intro j
  by_cases hj : j < n
  · rw [List.getElem?_set]
    by_cases e : i = j
    · subst e
      rw [if_pos rfl, if_pos (by rw [fD_len]; exact hj), fD_get hj, if_pos rfl]
    · rw [if_neg e, fD_get hj, fD_get hj, if_neg (fun z => e z.symm)]
  · rw [List.getElem?_eq_none (by rw [List.length_set, fD_len]; omega), List.getElem?_eq_none (by rw [fD_len]; omega)]
theorem fD_congr {α : Type} {g : α → Dt} {n : Nat} {f f2 : Nat → α} (h : ∀ i, i < n → f i = f2 i) : fD g n f = fD g n f2 := by
  unfold fD
  exact List.map_congr_left fun i hi => by rw [h i (List.mem_range.1 hi)]
theorem fD_succ {α : Type} {g : α → Dt} {n : Nat} {f : Nat → α} : fD g (n + 1) f = fD g n f ++ [g (f n)] := by simp [fD, List.range_succ]
theorem fD_of {α : Type} [Inhabited α] {g : α → Dt} {n : Nat} {ds : List Dt} {P : Nat → α → Prop} (hl : ds.length = n) (h : ∀ i, i < n → ∃ a, ds[i]? = some (g a) ∧ P i a) : ∃ f : Nat → α, ds = fD g n f ∧ ∀ i, i < n → P i (f i) := by
  obtain ⟨f, hf⟩ := choose_row h
  refine ⟨f, ?_, fun i hi => (hf i hi).2⟩
  apply List.ext_getElem?
  intro j
  by_cases hj : j < n
  · rw [fD_get hj, (hf j hj).1]
  · rw [List.getElem?_eq_none (by omega), List.getElem?_eq_none (by rw [fD_len]; omega)]
theorem fD_all {α : Type} {g : α → Dt} {n : Nat} {f : Nat → α} {P : Dt → Bool} (h : ∀ i, i < n → P (g (f i)) = true) : (fD g n f).all P = true := by
  unfold fD
  rw [List.all_map, List.all_eq_true]
  exact fun i hi => h i (List.mem_range.1 hi)
theorem lfreeA_all : ∀ ds : List Dt, lfreeA ds = ds.all lfree
  | [] => rfl
  | d :: ds => by rw [List.all_cons, ← lfreeA_all ds]; rfl
end Mir


set_option Elab.async false
set_option linter.all false
set_option maxRecDepth 100000
namespace Law
open PySem PySem.Spec PyProof.Rows L2 Mir
open PySem.W (Frag)
def m__law_take : List Dt → Hd → R Dt := mTake
def b__law_gcd : MS :=
  (mSeq (mPar 0 1 (mCons (mCB fAbs (mCons (mVar 0) mNil)) (mCons (mCB fAbs (mCons (mVar 1) mNil)) mNil)))
    (mSeq (mWhile (mTru (mVar 1)) (mPar 0 1 (mCons (mVar 1) (mCons (mOp fMod (mCB fIntC (mCons (mVar 0) mNil)) (mVar 1)) mNil))))
    (mRet (mVar 0))))
def m__law_gcd : List Dt → Hd → R Dt := mDef 2 b__law_gcd
def b__law_ratio : MS :=
  (mSeq (mSet 2 (mCall 2 [] m__law_gcd (mCons (mVar 0) (mCons (mVar 1) mNil))))
    (mSeq (mIfS (mTest (mOp fLt (mVar 1) (mC (.int 0)))) (mSet 2 (mUn fNeg (mVar 2))) mNext)
    (mRet (mTup (mCons (mOp fDiv (mVar 0) (mVar 2)) (mCons (mOp fDiv (mVar 1) (mVar 2)) mNil))))))
def m__law_ratio : List Dt → Hd → R Dt := mDef 3 b__law_ratio
def b__law_less : MS :=
  (mRet (mCall 2 [] m__law_ratio (mCons (mOp fSub (mOp fMul (mOp fIx (mVar 0) (mC (.int 0))) (mOp fIx (mVar 1) (mC (.int 1)))) (mOp fMul (mOp fIx (mVar 1) (mC (.int 0))) (mOp fIx (mVar 0) (mC (.int 1))))) (mCons (mOp fMul (mOp fIx (mVar 0) (mC (.int 1))) (mOp fIx (mVar 1) (mC (.int 1)))) mNil))))
def m__law_less : List Dt → Hd → R Dt := mDef 2 b__law_less
def b__law_over : MS :=
  (mRet (mCall 2 [] m__law_ratio (mCons (mOp fMul (mOp fIx (mVar 0) (mC (.int 0))) (mOp fIx (mVar 1) (mC (.int 1)))) (mCons (mOp fMul (mOp fIx (mVar 0) (mC (.int 1))) (mOp fIx (mVar 1) (mC (.int 0)))) mNil))))
def m__law_over : List Dt → Hd → R Dt := mDef 2 b__law_over
def b__law_plus : MS :=
  (mRet (mCall 2 [] m__law_ratio (mCons (mOp fAdd (mOp fMul (mOp fIx (mVar 0) (mC (.int 0))) (mOp fIx (mVar 1) (mC (.int 1)))) (mOp fMul (mOp fIx (mVar 1) (mC (.int 0))) (mOp fIx (mVar 0) (mC (.int 1))))) (mCons (mOp fMul (mOp fIx (mVar 0) (mC (.int 1))) (mOp fIx (mVar 1) (mC (.int 1)))) mNil))))
def m__law_plus : List Dt → Hd → R Dt := mDef 2 b__law_plus
def b__law_times : MS :=
  (mRet (mCall 2 [] m__law_ratio (mCons (mOp fMul (mOp fIx (mVar 0) (mC (.int 0))) (mOp fIx (mVar 1) (mC (.int 0)))) (mCons (mOp fMul (mOp fIx (mVar 0) (mC (.int 1))) (mOp fIx (mVar 1) (mC (.int 1)))) mNil))))
def m__law_times : List Dt → Hd → R Dt := mDef 2 b__law_times
def b__law_direction : MS :=
  (mSeq (mIfS (mTest (mOp fIs (mVar 0) (mC .non))) (mRet (mTup (mCons (mTup (mCons (mC (.int 0)) (mCons (mC (.int 1)) mNil))) (mCons (mTup (mCons (mUn fNeg (mC (.int 1))) (mCons (mC (.int 1)) mNil))) mNil)))) mNext)
    (mSeq (mSet 1 (mCall 2 [] m__law_times (mCons (mVar 0) (mCons (mVar 0) mNil))))
    (mSeq (mSet 2 (mCall 2 [] m__law_plus (mCons (mTup (mCons (mC (.int 1)) (mCons (mC (.int 1)) mNil))) (mCons (mVar 1) mNil))))
    (mRet (mTup (mCons (mCall 2 [] m__law_over (mCons (mCall 2 [] m__law_times (mCons (mTup (mCons (mUn fNeg (mC (.int 2))) (mCons (mC (.int 1)) mNil))) (mCons (mVar 0) mNil))) (mCons (mVar 2) mNil))) (mCons (mCall 2 [] m__law_over (mCons (mCall 2 [] m__law_less (mCons (mTup (mCons (mC (.int 1)) (mCons (mC (.int 1)) mNil))) (mCons (mVar 1) mNil))) (mCons (mVar 2) mNil))) mNil)))))))
def m__law_direction : List Dt → Hd → R Dt := mDef 3 b__law_direction
def b__law_form : MS :=
  (mRet (mIf (mTest (mOp fEq (mCall 2 [] m__law_take (mCons (mVar 0) (mCons (mC (.int 2)) mNil))) (mC (.int 0)))) (mCB fListC (mCons (mVar 1) mNil)) (mCB fTupC (mCons (mVar 1) mNil))))
def m__law_form : List Dt → Hd → R Dt := mDef 2 b__law_form
def b__law_half_back : MS :=
  (mSeq (mIfS (mTest (mOp fEq (mOp fIx (mVar 0) (mC (.int 1))) (mTup (mCons (mUn fNeg (mC (.int 1))) (mCons (mC (.int 1)) mNil))))) (mRet (mC .non)) mNext)
    (mRet (mCall 2 [] m__law_over (mCons (mCall 2 [] m__law_times (mCons (mTup (mCons (mUn fNeg (mC (.int 1))) (mCons (mC (.int 1)) mNil))) (mCons (mOp fIx (mVar 0) (mC (.int 0))) mNil))) (mCons (mCall 2 [] m__law_plus (mCons (mTup (mCons (mC (.int 1)) (mCons (mC (.int 1)) mNil))) (mCons (mOp fIx (mVar 0) (mC (.int 1))) mNil))) mNil)))))
def m__law_half_back : List Dt → Hd → R Dt := mDef 1 b__law_half_back
def b__law_round : MS :=
  (mSeq (mIfS (mTest (mOp fIs (mVar 0) (mC .non))) (mRet (mTup (mCons (mTup (mCons (mUn fNeg (mC (.int 1))) (mCons (mC (.int 1)) mNil))) (mCons (mTup (mCons (mC (.int 0)) (mCons (mC (.int 1)) mNil))) mNil)))) mNext)
    (mSeq (mSet 1 (mCall 2 [] m__law_plus (mCons (mTup (mCons (mC (.int 1)) (mCons (mC (.int 1)) mNil))) (mCons (mCall 2 [] m__law_times (mCons (mVar 0) (mCons (mVar 0) mNil))) mNil))))
    (mRet (mTup (mCons (mCall 2 [] m__law_over (mCons (mCall 2 [] m__law_less (mCons (mTup (mCons (mC (.int 1)) (mCons (mC (.int 1)) mNil))) (mCons (mCall 2 [] m__law_times (mCons (mVar 0) (mCons (mVar 0) mNil))) mNil))) (mCons (mVar 1) mNil))) (mCons (mCall 2 [] m__law_over (mCons (mCall 2 [] m__law_times (mCons (mTup (mCons (mC (.int 2)) (mCons (mC (.int 1)) mNil))) (mCons (mVar 0) mNil))) (mCons (mVar 1) mNil))) mNil))))))
def m__law_round : List Dt → Hd → R Dt := mDef 2 b__law_round
def b__law_same : MS :=
  (mSeq (mIfS (mOr (mNot (mTru (mIsi "tuple" (mVar 0)))) (mTest (mOp fNe (mCB fLen (mCons (mVar 0) mNil)) (mC (.int 2))))) (mRet (mC (.bl false))) mNext)
    (mSeq (mFor (gmName 2) (mSeqI (mVar 0))
      (mIfS (mOr (mNot (mTru (mIsi "int" (mVar 2)))) (mTru (mIsi "bool" (mVar 2)))) (mRet (mC (.bl false))) mNext))
    (mRet (mAndV (mOp fEq (mOp fIx (mVar 0) (mC (.int 0))) (mOp fIx (mVar 1) (mC (.int 0)))) (mOp fEq (mOp fIx (mVar 0) (mC (.int 1))) (mOp fIx (mVar 1) (mC (.int 1))))))))
def m__law_same : List Dt → Hd → R Dt := mDef 3 b__law_same
def b__law_same_half : MS :=
  (mSeq (mIfS (mTest (mOp fIs (mVar 1) (mC .non))) (mRet (mOp fIs (mVar 0) (mC .non))) mNext)
    (mRet (mAndV (mOp fIsNot (mVar 0) (mC .non)) (mCall 2 [] m__law_same (mCons (mVar 0) (mCons (mVar 1) mNil))))))
def m__law_same_half : List Dt → Hd → R Dt := mDef 2 b__law_same_half
def b__law_same_row : MS :=
  (mSeq (mIfS (mOr (mNot (mTru (mIsi "tuple" (mVar 0)))) (mTest (mOp fNe (mCB fLen (mCons (mVar 0) mNil)) (mCB fLen (mCons (mVar 1) mNil))))) (mRet (mC (.bl false))) mNext)
    (mRet (mOp fEq (mLc (gmName 2) (mRng1 (mCB fLen (mCons (mVar 1) mNil))) (mNot (mTru (mCall 2 [] m__law_same (mCons (mOp fIx (mVar 0) (mVar 2)) (mCons (mOp fIx (mVar 1) (mVar 2)) mNil))))) (mVar 2) [2]) (mLst mNil))))
def m__law_same_row : List Dt → Hd → R Dt := mDef 3 b__law_same_row
def b__law_turned : MS :=
  (mSeq (mAsg (gmSeq 2 (gmCons (gmName 2) (gmCons (gmName 3) gmNil))) (mCall 1 [] m__law_round (mCons (mVar 1) mNil)))
    (mSeq (mAsg (gmSeq 2 (gmCons (gmName 4) (gmCons (gmName 5) gmNil))) (mVar 0))
    (mRet (mTup (mCons (mCall 2 [] m__law_less (mCons (mCall 2 [] m__law_times (mCons (mVar 4) (mCons (mVar 2) mNil))) (mCons (mCall 2 [] m__law_times (mCons (mVar 5) (mCons (mVar 3) mNil))) mNil))) (mCons (mCall 2 [] m__law_plus (mCons (mCall 2 [] m__law_times (mCons (mVar 4) (mCons (mVar 3) mNil))) (mCons (mCall 2 [] m__law_times (mCons (mVar 5) (mCons (mVar 2) mNil))) mNil))) mNil))))))
def m__law_turned : List Dt → Hd → R Dt := mDef 6 b__law_turned
def b_lowest_terms : MS :=
  (mSeq (mSet 2 (mCB fGcd (mCons (mVar 0) (mCons (mVar 1) mNil))))
    (mSeq (mIfS (mTest (mOp fLt (mVar 1) (mC (.int 0)))) (mSet 2 (mUn fNeg (mVar 2))) mNext)
    (mRet (mTup (mCons (mOp fDiv (mVar 0) (mVar 2)) (mCons (mOp fDiv (mVar 1) (mVar 2)) mNil))))))
def m_lowest_terms : List Dt → Hd → R Dt := mDef 3 b_lowest_terms
def b_over : MS :=
  (mSeq (mIfS (mTest (mOp fEq (mVar 1) (mC (.tup [.int 0, .int 1])))) mBad mNext)
    (mRet (mCall 2 [] m_lowest_terms (mCons (mOp fMul (mOp fIx (mVar 0) (mC (.int 0))) (mOp fIx (mVar 1) (mC (.int 1)))) (mCons (mOp fMul (mOp fIx (mVar 0) (mC (.int 1))) (mOp fIx (mVar 1) (mC (.int 0)))) mNil)))))
def m_over : List Dt → Hd → R Dt := mDef 2 b_over
def b__add_end : MS :=
  (mRet (mIf (mTest (mOp fEq (mVar 0) (mC (.tup [.int 0, .int 1])))) (mC .non) (mCall 2 [] m_over (mCons (mTup (mCons (mUn fNeg (mC (.int 1))) (mCons (mC (.int 1)) mNil))) (mCons (mVar 0) mNil)))))
def m__add_end : List Dt → Hd → R Dt := mDef 1 b__add_end
def b_is_whole : MS :=
  (mSeq (mIfS (mOr (mNot (mTru (mIsi "int" (mVar 0)))) (mTru (mIsi "bool" (mVar 0)))) (mRet (mC (.bl false))) mNext)
    (mRet (mAndV (mOrV (mOp fIs (mVar 1) (mC .non)) (mOp fGe (mVar 0) (mVar 1))) (mOrV (mOp fIs (mVar 2) (mC .non)) (mOp fLe (mVar 0) (mVar 2))))))
def m_is_whole : List Dt → Hd → R Dt := mDef 3 b_is_whole
def b_is_ratio : MS :=
  (mSeq (mIfS (mOr (mNot (mTru (mIsi "tuple" (mVar 0)))) (mTest (mOp fNe (mCB fLen (mCons (mVar 0) mNil)) (mC (.int 2))))) (mRet (mC (.bl false))) mNext)
    (mSeq (mAsg (gmSeq 2 (gmCons (gmName 1) (gmCons (gmName 2) gmNil))) (mVar 0))
    (mRet (mAndV (mCall 3 [.non, .non] m_is_whole (mCons (mVar 1) mNil)) (mAndV (mCall 3 [.non] m_is_whole (mCons (mVar 2) (mCons (mC (.int 1)) mNil))) (mOp fEq (mCB fGcd (mCons (mVar 1) (mCons (mVar 2) mNil))) (mC (.int 1))))))))
def m_is_ratio : List Dt → Hd → R Dt := mDef 3 b_is_ratio
def b_is_half : MS :=
  (mRet (mOrV (mOp fIs (mVar 0) (mC .non)) (mCall 1 [] m_is_ratio (mCons (mVar 0) mNil))))
def m_is_half : List Dt → Hd → R Dt := mDef 1 b_is_half
def b_check_half : MS :=
  (mIfS (mNot (mTru (mCall 1 [] m_is_half (mCons (mVar 0) mNil)))) mBad mNext)
def m_check_half : List Dt → Hd → R Dt := mDef 1 b_check_half
def b_minus : MS :=
  (mRet (mCall 2 [] m_lowest_terms (mCons (mOp fSub (mOp fMul (mOp fIx (mVar 0) (mC (.int 0))) (mOp fIx (mVar 1) (mC (.int 1)))) (mOp fMul (mOp fIx (mVar 1) (mC (.int 0))) (mOp fIx (mVar 0) (mC (.int 1))))) (mCons (mOp fMul (mOp fIx (mVar 0) (mC (.int 1))) (mOp fIx (mVar 1) (mC (.int 1)))) mNil))))
def m_minus : List Dt → Hd → R Dt := mDef 2 b_minus
def b_plus : MS :=
  (mRet (mCall 2 [] m_lowest_terms (mCons (mOp fAdd (mOp fMul (mOp fIx (mVar 0) (mC (.int 0))) (mOp fIx (mVar 1) (mC (.int 1)))) (mOp fMul (mOp fIx (mVar 1) (mC (.int 0))) (mOp fIx (mVar 0) (mC (.int 1))))) (mCons (mOp fMul (mOp fIx (mVar 0) (mC (.int 1))) (mOp fIx (mVar 1) (mC (.int 1)))) mNil))))
def m_plus : List Dt → Hd → R Dt := mDef 2 b_plus
def b_times : MS :=
  (mRet (mCall 2 [] m_lowest_terms (mCons (mOp fMul (mOp fIx (mVar 0) (mC (.int 0))) (mOp fIx (mVar 1) (mC (.int 0)))) (mCons (mOp fMul (mOp fIx (mVar 0) (mC (.int 1))) (mOp fIx (mVar 1) (mC (.int 1)))) mNil))))
def m_times : List Dt → Hd → R Dt := mDef 2 b_times
def b_add_halves : MS :=
  (mSeq (mDrop (mCall 1 [] m_check_half (mCons (mVar 0) mNil)))
    (mSeq (mDrop (mCall 1 [] m_check_half (mCons (mVar 1) mNil)))
    (mSeq (mIfS (mAnd (mTest (mOp fIs (mVar 0) (mC .non))) (mTest (mOp fIs (mVar 1) (mC .non)))) (mRet (mC (.tup [.int 0, .int 1]))) mNext)
    (mSeq (mIfS (mOr (mTest (mOp fIs (mVar 0) (mC .non))) (mTest (mOp fIs (mVar 1) (mC .non)))) (mRet (mCall 1 [] m__add_end (mCons (mIf (mTest (mOp fIs (mVar 0) (mC .non))) (mVar 1) (mVar 0)) mNil))) mNext)
    (mSeq (mSet 2 (mCall 2 [] m_minus (mCons (mC (.tup [.int 1, .int 1])) (mCons (mCall 2 [] m_times (mCons (mVar 0) (mCons (mVar 1) mNil))) mNil))))
    (mRet (mIf (mTest (mOp fEq (mVar 2) (mC (.tup [.int 0, .int 1])))) (mC .non) (mCall 2 [] m_over (mCons (mCall 2 [] m_plus (mCons (mVar 0) (mCons (mVar 1) mNil))) (mCons (mVar 2) mNil))))))))))
def m_add_halves : List Dt → Hd → R Dt := mDef 3 b_add_halves
def b_dot_of : MS :=
  (mRet (mCall 2 [] m_plus (mCons (mCall 2 [] m_times (mCons (mOp fIx (mVar 0) (mC (.int 0))) (mCons (mOp fIx (mVar 1) (mC (.int 0))) mNil))) (mCons (mCall 2 [] m_times (mCons (mOp fIx (mVar 0) (mC (.int 1))) (mCons (mOp fIx (mVar 1) (mC (.int 1))) mNil))) mNil))))
def m_dot_of : List Dt → Hd → R Dt := mDef 2 b_dot_of
def b_is_row : MS :=
  (mSeq (mIfS (mNot (mTru (mIsi2 "list" "tuple" (mVar 0)))) (mRet (mC (.bl false))) mNext)
    (mRet (mAndV (mOp fGe (mCB fLen (mCons (mVar 0) mNil)) (mVar 1)) (mOrV (mOp fIs (mVar 2) (mC .non)) (mOp fLe (mCB fLen (mCons (mVar 0) mNil)) (mVar 2))))))
def m_is_row : List Dt → Hd → R Dt := mDef 3 b_is_row
def b_is_spot : MS :=
  (mRet (mAndV (mCall 3 [] m_is_row (mCons (mVar 0) (mCons (mC (.int 2)) (mCons (mC (.int 2)) mNil)))) (mAndV (mCall 1 [] m_is_ratio (mCons (mOp fIx (mVar 0) (mC (.int 0))) mNil)) (mCall 1 [] m_is_ratio (mCons (mOp fIx (mVar 0) (mC (.int 1))) mNil)))))
def m_is_spot : List Dt → Hd → R Dt := mDef 1 b_is_spot
def b_is_direction : MS :=
  (mRet (mAndV (mCall 1 [] m_is_spot (mCons (mVar 0) mNil)) (mOp fEq (mCall 2 [] m_dot_of (mCons (mVar 0) (mCons (mVar 0) mNil))) (mC (.tup [.int 1, .int 1])))))
def m_is_direction : List Dt → Hd → R Dt := mDef 1 b_is_direction
def b_check_direction : MS :=
  (mSeq (mIfS (mNot (mTru (mCall 1 [] m_is_direction (mCons (mVar 0) mNil)))) mBad mNext)
    (mRet (mCB fTupC (mCons (mVar 0) mNil))))
def m_check_direction : List Dt → Hd → R Dt := mDef 1 b_check_direction
def b_cosine_between : MS :=
  (mRet (mCall 2 [] m_dot_of (mCons (mCall 1 [] m_check_direction (mCons (mVar 0) mNil)) (mCons (mCall 1 [] m_check_direction (mCons (mVar 1) mNil)) mNil))))
def m_cosine_between : List Dt → Hd → R Dt := mDef 2 b_cosine_between
def b_direction_by : MS :=
  (mSeq (mDrop (mCall 1 [] m_check_half (mCons (mVar 0) mNil)))
    (mSeq (mIfS (mTest (mOp fIs (mVar 0) (mC .non))) (mRet (mC (.tup [.tup [.int 0, .int 1], .tup [.int (-1), .int 1]]))) mNext)
    (mSeq (mAsg (gmSeq 2 (gmCons (gmName 1) (gmCons (gmName 2) gmNil))) (mVar 0))
    (mSeq (mSet 3 (mOp fAdd (mOp fMul (mVar 2) (mVar 2)) (mOp fMul (mVar 1) (mVar 1))))
    (mRet (mTup (mCons (mCall 2 [] m_lowest_terms (mCons (mOp fMul (mOp fMul (mUn fNeg (mC (.int 2))) (mVar 1)) (mVar 2)) (mCons (mVar 3) mNil))) (mCons (mCall 2 [] m_lowest_terms (mCons (mOp fSub (mOp fMul (mVar 2) (mVar 2)) (mOp fMul (mVar 1) (mVar 1))) (mCons (mVar 3) mNil))) mNil))))))))
def m_direction_by : List Dt → Hd → R Dt := mDef 4 b_direction_by
def b_negative : MS :=
  (mRet (mTup (mCons (mUn fNeg (mOp fIx (mVar 0) (mC (.int 0)))) (mCons (mOp fIx (mVar 0) (mC (.int 1))) mNil))))
def m_negative : List Dt → Hd → R Dt := mDef 1 b_negative
def b_half_of : MS :=
  (mSeq (mAsg (gmSeq 2 (gmCons (gmName 1) (gmCons (gmName 2) gmNil))) (mCall 1 [] m_check_direction (mCons (mVar 0) mNil)))
    (mSeq (mIfS (mTest (mOp fEq (mTup (mCons (mVar 1) (mCons (mVar 2) mNil))) (mC (.tup [.tup [.int 0, .int 1], .tup [.int (-1), .int 1]])))) (mRet (mC .non)) mNext)
    (mRet (mCall 2 [] m_over (mCons (mCall 1 [] m_negative (mCons (mVar 1) mNil)) (mCons (mCall 2 [] m_plus (mCons (mC (.tup [.int 1, .int 1])) (mCons (mVar 2) mNil))) mNil))))))
def m_half_of : List Dt → Hd → R Dt := mDef 3 b_half_of
def b_cross_of : MS :=
  (mRet (mCall 2 [] m_minus (mCons (mCall 2 [] m_times (mCons (mOp fIx (mVar 0) (mC (.int 0))) (mCons (mOp fIx (mVar 1) (mC (.int 1))) mNil))) (mCons (mCall 2 [] m_times (mCons (mOp fIx (mVar 0) (mC (.int 1))) (mCons (mOp fIx (mVar 1) (mC (.int 0))) mNil))) mNil))))
def m_cross_of : List Dt → Hd → R Dt := mDef 2 b_cross_of
def b_sine_between : MS :=
  (mRet (mCall 2 [] m_cross_of (mCons (mCall 1 [] m_check_direction (mCons (mVar 0) mNil)) (mCons (mCall 1 [] m_check_direction (mCons (mVar 1) mNil)) mNil))))
def m_sine_between : List Dt → Hd → R Dt := mDef 2 b_sine_between
def b_mirrored_direction : MS :=
  (mSeq (mAsg (gmSeq 2 (gmCons (gmName 1) (gmCons (gmName 2) gmNil))) (mCall 1 [] m_check_direction (mCons (mVar 0) mNil)))
    (mRet (mTup (mCons (mCall 1 [] m_negative (mCons (mVar 1) mNil)) (mCons (mVar 2) mNil)))))
def m_mirrored_direction : List Dt → Hd → R Dt := mDef 3 b_mirrored_direction
def b_turned_as : MS :=
  (mSeq (mAsg (gmSeq 2 (gmCons (gmName 2) (gmCons (gmName 3) gmNil))) (mCall 1 [] m_mirrored_direction (mCons (mVar 1) mNil)))
    (mRet (mTup (mCons (mCall 2 [] m_cross_of (mCons (mVar 0) (mCons (mTup (mCons (mVar 2) (mCons (mVar 3) mNil))) mNil))) (mCons (mCall 2 [] m_dot_of (mCons (mVar 0) (mCons (mTup (mCons (mVar 2) (mCons (mVar 3) mNil))) mNil))) mNil)))))
def m_turned_as : List Dt → Hd → R Dt := mDef 4 b_turned_as
def b_turned_by : MS :=
  (mSeq (mSet 0 (mCall 1 [] m_check_direction (mCons (mVar 0) mNil)))
    (mRet (mCall 2 [] m_turned_as (mCons (mVar 0) (mCons (mCall 1 [] m_direction_by (mCons (mVar 1) mNil)) mNil)))))
def m_turned_by : List Dt → Hd → R Dt := mDef 2 b_turned_by
def b__law_added : MS :=
  (mSeq (mSet 3 (mCall 1 [] m__law_direction (mCons (mVar 1) mNil)))
    (mSeq (mSet 4 (mCall 2 [] m__law_turned (mCons (mVar 3) (mCons (mVar 2) mNil))))
    (mSeq (mIfS (mOr (mNot (mTru (mCall 2 [] m__law_same_row (mCons (mCall 1 [] m_direction_by (mCons (mVar 1) mNil)) (mCons (mVar 3) mNil))))) (mNot (mTru (mCall 2 [] m__law_same_half (mCons (mCall 1 [] m_half_of (mCons (mCall 2 [] m__law_form (mCons (mVar 0) (mCons (mVar 3) mNil))) mNil)) (mCons (mVar 1) mNil)))))) (mRet (mC (.bl false))) mNext)
    (mSeq (mIfS (mNot (mTru (mCall 2 [] m__law_same_row (mCons (mCall 2 [] m_turned_by (mCons (mCall 2 [] m__law_form (mCons (mVar 0) (mCons (mVar 3) mNil))) (mCons (mVar 2) mNil))) (mCons (mVar 4) mNil))))) (mRet (mC (.bl false))) mNext)
    (mSeq (mSet 5 (mCall 1 [] m__law_half_back (mCons (mVar 4) mNil)))
    (mSeq (mSet 6 (mCall 2 [] m_add_halves (mCons (mVar 1) (mCons (mVar 2) mNil))))
    (mSeq (mIfS (mOr (mNot (mTru (mCall 2 [] m__law_same_half (mCons (mVar 6) (mCons (mVar 5) mNil))))) (mNot (mTru (mCall 2 [] m__law_same_half (mCons (mCall 2 [] m_add_halves (mCons (mVar 2) (mCons (mVar 1) mNil))) (mCons (mVar 5) mNil)))))) (mRet (mC (.bl false))) mNext)
    (mSeq (mAsg (gmSeq 2 (gmCons (gmName 7) (gmCons (gmName 8) gmNil))) (mCall 1 [] m__law_round (mCons (mVar 2) mNil)))
    (mSeq (mIfS (mOr (mNot (mTru (mCall 2 [] m__law_same (mCons (mCall 2 [] m_cosine_between (mCons (mVar 3) (mCons (mVar 4) mNil))) (mCons (mVar 7) mNil))))) (mNot (mTru (mCall 2 [] m__law_same (mCons (mCall 2 [] m_sine_between (mCons (mVar 3) (mCons (mCall 2 [] m__law_form (mCons (mVar 0) (mCons (mVar 4) mNil))) mNil))) (mCons (mVar 8) mNil)))))) (mRet (mC (.bl false))) mNext)
    (mRet (mCall 2 [] m__law_same_row (mCons (mCall 1 [] m_direction_by (mCons (mVar 6) mNil)) (mCons (mVar 4) mNil)))))))))))))
def m__law_added : List Dt → Hd → R Dt := mDef 9 b__law_added
def b__law_half : MS :=
  (mSeq (mSet 1 (mCall 2 [] m__law_take (mCons (mVar 0) (mCons (mC (.int 14)) mNil))))
    (mSeq (mIfS (mTest (mOp fEq (mVar 1) (mC (.int 12)))) (mRet (mC .non)) mNext)
    (mSeq (mIfS (mTest (mOp fEq (mVar 1) (mC (.int 13)))) (mRet (mCall 2 [] m__law_ratio (mCons (mOp fSub (mCall 2 [] m__law_take (mCons (mVar 0) (mCons (mC (.int 41)) mNil))) (mC (.int 20))) (mCons (mOp fAdd (mC (.int 1)) (mCall 2 [] m__law_take (mCons (mVar 0) (mCons (mC (.int 9)) mNil)))) mNil)))) mNext)
    (mRet (mOp fIx (mLst (mCons (mTup (mCons (mC (.int 0)) (mCons (mC (.int 1)) mNil))) (mCons (mTup (mCons (mC (.int 1)) (mCons (mC (.int 3)) mNil))) (mCons (mTup (mCons (mC (.int 1)) (mCons (mC (.int 2)) mNil))) (mCons (mTup (mCons (mC (.int 1)) (mCons (mC (.int 1)) mNil))) (mCons (mTup (mCons (mC (.int 2)) (mCons (mC (.int 1)) mNil))) (mCons (mTup (mCons (mC (.int 3)) (mCons (mC (.int 1)) mNil))) (mCons (mTup (mCons (mUn fNeg (mC (.int 1))) (mCons (mC (.int 3)) mNil))) (mCons (mTup (mCons (mUn fNeg (mC (.int 1))) (mCons (mC (.int 2)) mNil))) (mCons (mTup (mCons (mUn fNeg (mC (.int 1))) (mCons (mC (.int 1)) mNil))) (mCons (mTup (mCons (mUn fNeg (mC (.int 2))) (mCons (mC (.int 1)) mNil))) (mCons (mTup (mCons (mUn fNeg (mC (.int 3))) (mCons (mC (.int 1)) mNil))) (mCons (mTup (mCons (mC (.int 0)) (mCons (mC (.int 1)) mNil))) mNil))))))))))))) (mVar 1))))))
def m__law_half : List Dt → Hd → R Dt := mDef 2 b__law_half
def b__law_any_half : MS :=
  (mSeq (mIfS (mTest (mOp fEq (mCall 2 [] m__law_take (mCons (mVar 0) (mCons (mC (.int 8)) mNil))) (mC (.int 0)))) (mRet (mCall 2 [] m__law_ratio (mCons (mOp fSub (mCall 2 [] m__law_take (mCons (mVar 0) (mCons (mOp fAdd (mOp fMul (mC (.int 2)) (mOp fPow (mC (.int 10)) (mC (.int 3)))) (mC (.int 1))) mNil))) (mOp fPow (mC (.int 10)) (mC (.int 3)))) (mCons (mOp fAdd (mC (.int 1)) (mCall 2 [] m__law_take (mCons (mVar 0) (mCons (mC (.int 60)) mNil)))) mNil)))) mNext)
    (mRet (mCall 1 [] m__law_half (mCons (mVar 0) mNil))))
def m__law_any_half : List Dt → Hd → R Dt := mDef 1 b__law_any_half
def b_opposite_of : MS :=
  (mSeq (mAsg (gmSeq 2 (gmCons (gmName 1) (gmCons (gmName 2) gmNil))) (mCall 1 [] m_check_direction (mCons (mVar 0) mNil)))
    (mRet (mTup (mCons (mCall 1 [] m_negative (mCons (mVar 1) mNil)) (mCons (mCall 1 [] m_negative (mCons (mVar 2) mNil)) mNil)))))
def m_opposite_of : List Dt → Hd → R Dt := mDef 3 b_opposite_of
def b_turned_quarters : MS :=
  (mSeq (mAsg (gmSeq 2 (gmCons (gmName 2) (gmCons (gmName 3) gmNil))) (mCall 1 [] m_check_direction (mCons (mVar 0) mNil)))
    (mSeq (mIfS (mNot (mTru (mCall 3 [.non, .non] m_is_whole (mCons (mVar 1) mNil)))) mBad mNext)
    (mSeq (mFor (gmName 4) (mRng1 (mOp fMod (mVar 1) (mC (.int 4))))
      (mPar 2 3 (mCons (mCall 1 [] m_negative (mCons (mVar 3) mNil)) (mCons (mVar 2) mNil))))
    (mRet (mTup (mCons (mVar 2) (mCons (mVar 3) mNil)))))))
def m_turned_quarters : List Dt → Hd → R Dt := mDef 5 b_turned_quarters
def b_quarter_direction : MS :=
  (mRet (mCall 2 [] m_turned_quarters (mCons (mC (.tup [.tup [.int 0, .int 1], .tup [.int 1, .int 1]])) (mCons (mVar 0) mNil))))
def m_quarter_direction : List Dt → Hd → R Dt := mDef 1 b_quarter_direction
def b__law_quartered : MS :=
  (mSeq (mSet 2 (mIf (mTest (mOp fEq (mCall 2 [] m__law_take (mCons (mVar 0) (mCons (mC (.int 3)) mNil))) (mC (.int 0)))) (mOp fSub (mCall 2 [] m__law_take (mCons (mVar 0) (mCons (mOp fPow (mC (.int 10)) (mC (.int 30))) mNil))) (mOp fMul (mC (.int 5)) (mOp fPow (mC (.int 10)) (mC (.int 29))))) (mOp fSub (mCall 2 [] m__law_take (mCons (mVar 0) (mCons (mC (.int 12)) mNil))) (mC (.int 6)))))
    (mSeq (mSet 3 (mLst (mCons (mTup (mCons (mTup (mCons (mC (.int 0)) (mCons (mC (.int 1)) mNil))) (mCons (mTup (mCons (mC (.int 1)) (mCons (mC (.int 1)) mNil))) mNil))) (mCons (mTup (mCons (mTup (mCons (mUn fNeg (mC (.int 1))) (mCons (mC (.int 1)) mNil))) (mCons (mTup (mCons (mC (.int 0)) (mCons (mC (.int 1)) mNil))) mNil))) (mCons (mTup (mCons (mTup (mCons (mC (.int 0)) (mCons (mC (.int 1)) mNil))) (mCons (mTup (mCons (mUn fNeg (mC (.int 1))) (mCons (mC (.int 1)) mNil))) mNil))) (mCons (mTup (mCons (mTup (mCons (mC (.int 1)) (mCons (mC (.int 1)) mNil))) (mCons (mTup (mCons (mC (.int 0)) (mCons (mC (.int 1)) mNil))) mNil))) mNil))))))
    (mSeq (mSet 4 (mVar 1))
    (mSeq (mFor (gmName 5) (mRng1 (mOp fMod (mCB fIntC (mCons (mVar 2) mNil)) (mC (.int 4))))
      (mSet 4 (mTup (mCons (mCall 2 [] m__law_times (mCons (mTup (mCons (mUn fNeg (mC (.int 1))) (mCons (mC (.int 1)) mNil))) (mCons (mOp fIx (mVar 4) (mC (.int 1))) mNil))) (mCons (mOp fIx (mVar 4) (mC (.int 0))) mNil)))))
    (mSeq (mIfS (mNot (mTru (mCall 2 [] m__law_same_row (mCons (mCall 1 [] m_quarter_direction (mCons (mVar 2) mNil)) (mCons (mOp fIx (mVar 3) (mOp fMod (mCB fIntC (mCons (mVar 2) mNil)) (mC (.int 4)))) mNil))))) (mRet (mC (.bl false))) mNext)
    (mSeq (mIfS (mNot (mTru (mCall 2 [] m__law_same_row (mCons (mCall 2 [] m_turned_quarters (mCons (mCall 2 [] m__law_form (mCons (mVar 0) (mCons (mVar 1) mNil))) (mCons (mVar 2) mNil))) (mCons (mVar 4) mNil))))) (mRet (mC (.bl false))) mNext)
    (mSeq (mAsg (gmSeq 2 (gmCons (gmName 6) (gmCons (gmName 7) gmNil))) (mVar 1))
    (mSeq (mIfS (mNot (mTru (mCall 2 [] m__law_same_row (mCons (mCall 1 [] m_opposite_of (mCons (mVar 1) mNil)) (mCons (mTup (mCons (mCall 2 [] m__law_times (mCons (mTup (mCons (mUn fNeg (mC (.int 1))) (mCons (mC (.int 1)) mNil))) (mCons (mVar 6) mNil))) (mCons (mCall 2 [] m__law_times (mCons (mTup (mCons (mUn fNeg (mC (.int 1))) (mCons (mC (.int 1)) mNil))) (mCons (mVar 7) mNil))) mNil))) mNil))))) (mRet (mC (.bl false))) mNext)
    (mRet (mCall 2 [] m__law_same_row (mCons (mCall 1 [] m_mirrored_direction (mCons (mCall 2 [] m__law_form (mCons (mVar 0) (mCons (mVar 1) mNil))) mNil)) (mCons (mTup (mCons (mCall 2 [] m__law_times (mCons (mTup (mCons (mUn fNeg (mC (.int 1))) (mCons (mC (.int 1)) mNil))) (mCons (mVar 6) mNil))) (mCons (mVar 7) mNil))) mNil))))))))))))
def m__law_quartered : List Dt → Hd → R Dt := mDef 8 b__law_quartered
def b__law_is_ratio : MS :=
  (mSeq (mIfS (mOr (mNot (mTru (mIsi "tuple" (mVar 0)))) (mTest (mOp fNe (mCB fLen (mCons (mVar 0) mNil)) (mC (.int 2))))) (mRet (mC (.bl false))) mNext)
    (mSeq (mFor (gmName 1) (mSeqI (mVar 0))
      (mIfS (mOr (mNot (mTru (mIsi "int" (mVar 1)))) (mTru (mIsi "bool" (mVar 1)))) (mRet (mC (.bl false))) mNext))
    (mRet (mAndV (mOp fGe (mOp fIx (mVar 0) (mC (.int 1))) (mC (.int 1))) (mOp fEq (mCall 2 [] m__law_gcd (mCons (mOp fIx (mVar 0) (mC (.int 0))) (mCons (mOp fIx (mVar 0) (mC (.int 1))) mNil))) (mC (.int 1)))))))
def m__law_is_ratio : List Dt → Hd → R Dt := mDef 2 b__law_is_ratio
def b__law_is_square : MS :=
  (mRet (mOp fNe (mLc (gmName 1) (mRng1 (mC (.int 21))) (mTest (mOp fEq (mOp fMul (mVar 1) (mVar 1)) (mVar 0))) (mVar 1) [1]) (mLst mNil)))
def m__law_is_square : List Dt → Hd → R Dt := mDef 2 b__law_is_square
def b__law_size : MS :=
  (mRet (mTup (mCons (mCB fAbs (mCons (mOp fIx (mVar 0) (mC (.int 0))) mNil)) (mCons (mOp fIx (mVar 0) (mC (.int 1))) mNil))))
def m__law_size : List Dt → Hd → R Dt := mDef 1 b__law_size
def b__law_mark : MS :=
  (mRet (mCall 2 [] m__law_ratio (mCons (mOp fSub (mCall 2 [] m__law_take (mCons (mVar 0) (mCons (mC (.int 13)) mNil))) (mC (.int 4))) (mCons (mC (.int 2)) mNil))))
def m__law_mark : List Dt → Hd → R Dt := mDef 1 b__law_mark
def b__law_wide : MS :=
  (mSeq (mSet 1 (mCall 2 [] m__law_take (mCons (mVar 0) (mCons (mC (.int 8)) mNil))))
    (mSeq (mIfS (mTest (mOp fEq (mVar 1) (mC (.int 0)))) (mRet (mTup (mCons (mC (.int 0)) (mCons (mC (.int 1)) mNil)))) mNext)
    (mSeq (mIfS (mTest (mOp fEq (mVar 1) (mC (.int 1)))) (mRet (mCall 2 [] m__law_ratio (mCons (mOp fSub (mCall 2 [] m__law_take (mCons (mVar 0) (mCons (mOp fAdd (mOp fMul (mC (.int 2)) (mOp fPow (mC (.int 10)) (mC (.int 6)))) (mC (.int 1))) mNil))) (mOp fPow (mC (.int 10)) (mC (.int 6)))) (mCons (mOp fAdd (mC (.int 1)) (mCall 2 [] m__law_take (mCons (mVar 0) (mCons (mC (.int 12)) mNil)))) mNil)))) mNext)
    (mRet (mCall 1 [] m__law_mark (mCons (mVar 0) mNil))))))
def m__law_wide : List Dt → Hd → R Dt := mDef 2 b__law_wide
def b_root_of : MS :=
  (mSeq (mAsg (gmSeq 2 (gmCons (gmName 1) (gmCons (gmName 2) gmNil))) (mVar 0))
    (mSeq (mIfS (mTest (mOp fLt (mVar 1) (mC (.int 0)))) (mRet (mC .non)) mNext)
    (mSeq (mSet 3 (mTup (mCons (mCB fIsqrt (mCons (mVar 1) mNil)) (mCons (mCB fIsqrt (mCons (mVar 2) mNil)) mNil))))
    (mRet (mIf (mTest (mOp fEq (mCall 2 [] m_times (mCons (mVar 3) (mCons (mVar 3) mNil))) (mVar 0))) (mVar 3) (mC .non))))))
def m_root_of : List Dt → Hd → R Dt := mDef 4 b_root_of
def b__law_rooted : MS :=
  (mSeq (mSet 1 (mCall 1 [] m__law_wide (mCons (mVar 0) mNil)))
    (mSeq (mSet 2 (mCall 2 [] m__law_times (mCons (mVar 1) (mCons (mVar 1) mNil))))
    (mSeq (mIfS (mNot (mTru (mCall 2 [] m__law_same (mCons (mCall 1 [] m_root_of (mCons (mVar 2) mNil)) (mCons (mCall 1 [] m__law_size (mCons (mVar 1) mNil)) mNil))))) (mRet (mC (.bl false))) mNext)
    (mSeq (mIfS (mAnd (mTest (mOp fNe (mOp fIx (mVar 1) (mC (.int 0))) (mC (.int 0)))) (mOr (mTest (mOp fIsNot (mCall 1 [] m_root_of (mCons (mCall 2 [] m__law_times (mCons (mTup (mCons (mC (.int 2)) (mCons (mC (.int 1)) mNil))) (mCons (mVar 2) mNil))) mNil)) (mC .non))) (mTest (mOp fIsNot (mCall 1 [] m_root_of (mCons (mCall 2 [] m__law_times (mCons (mTup (mCons (mUn fNeg (mC (.int 1))) (mCons (mC (.int 1)) mNil))) (mCons (mVar 2) mNil))) mNil)) (mC .non))))) (mRet (mC (.bl false))) mNext)
    (mSeq (mSet 3 (mCall 2 [] m__law_ratio (mCons (mCall 2 [] m__law_take (mCons (mVar 0) (mCons (mC (.int 401)) mNil))) (mCons (mOp fAdd (mC (.int 1)) (mCall 2 [] m__law_take (mCons (mVar 0) (mCons (mC (.int 400)) mNil)))) mNil))))
    (mSeq (mSet 4 (mCall 1 [] m_root_of (mCons (mVar 3) mNil)))
    (mSeq (mIfS (mOr (mNot (mTru (mCall 1 [] m__law_is_square (mCons (mOp fIx (mVar 3) (mC (.int 0))) mNil)))) (mNot (mTru (mCall 1 [] m__law_is_square (mCons (mOp fIx (mVar 3) (mC (.int 1))) mNil))))) (mRet (mOp fIs (mVar 4) (mC .non))) mNext)
    (mRet (mAndV (mOp fIsNot (mVar 4) (mC .non)) (mAndV (mCall 1 [] m__law_is_ratio (mCons (mVar 4) mNil)) (mAndV (mOp fGe (mOp fIx (mVar 4) (mC (.int 0))) (mC (.int 0))) (mOp fEq (mCall 2 [] m__law_times (mCons (mVar 4) (mCons (mVar 4) mNil))) (mVar 3)))))))))))))
def m__law_rooted : List Dt → Hd → R Dt := mDef 5 b__law_rooted
def b__law_same_rows : MS :=
  (mSeq (mIfS (mOr (mNot (mTru (mIsi "tuple" (mVar 0)))) (mTest (mOp fNe (mCB fLen (mCons (mVar 0) mNil)) (mCB fLen (mCons (mVar 1) mNil))))) (mRet (mC (.bl false))) mNext)
    (mRet (mOp fEq (mLc (gmName 2) (mRng1 (mCB fLen (mCons (mVar 1) mNil))) (mNot (mTru (mCall 2 [] m__law_same_row (mCons (mOp fIx (mVar 0) (mVar 2)) (mCons (mOp fIx (mVar 1) (mVar 2)) mNil))))) (mVar 2) [2]) (mLst mNil))))
def m__law_same_rows : List Dt → Hd → R Dt := mDef 3 b__law_same_rows
def b_law : MS :=
  (mSeq (mIfS (mTest (mOp fIsNot (mC .non) (mC .non))) (mRet (mC (.bl false))) mNext)
    (mSeq (mIfS (mNot (mTru (mCall 2 [] m__law_same_rows (mCons (mTup (mCons (mC (.tup [.tup [.int 0, .int 1], .tup [.int 1, .int 1]])) (mCons (mC (.tup [.tup [.int (-1), .int 1], .tup [.int 0, .int 1]])) (mCons (mC (.tup [.tup [.int 0, .int 1], .tup [.int (-1), .int 1]])) (mCons (mC (.tup [.tup [.int 1, .int 1], .tup [.int 0, .int 1]])) mNil))))) (mCons (mTup (mCons (mTup (mCons (mTup (mCons (mC (.int 0)) (mCons (mC (.int 1)) mNil))) (mCons (mTup (mCons (mC (.int 1)) (mCons (mC (.int 1)) mNil))) mNil))) (mCons (mTup (mCons (mTup (mCons (mUn fNeg (mC (.int 1))) (mCons (mC (.int 1)) mNil))) (mCons (mTup (mCons (mC (.int 0)) (mCons (mC (.int 1)) mNil))) mNil))) (mCons (mTup (mCons (mTup (mCons (mC (.int 0)) (mCons (mC (.int 1)) mNil))) (mCons (mTup (mCons (mUn fNeg (mC (.int 1))) (mCons (mC (.int 1)) mNil))) mNil))) (mCons (mTup (mCons (mTup (mCons (mC (.int 1)) (mCons (mC (.int 1)) mNil))) (mCons (mTup (mCons (mC (.int 0)) (mCons (mC (.int 1)) mNil))) mNil))) mNil))))) mNil))))) (mRet (mC (.bl false))) mNext)
    (mSeq (mFor (gmName 2) (mRng1 (mC (.int 5)))
      (mSeq (mSet 3 (mCall 1 [] m__law_any_half (mCons (mVar 1) mNil)))
    (mSeq (mSet 4 (mCall 1 [] m__law_any_half (mCons (mVar 1) mNil)))
    (mSeq (mIfS (mAnd (mTest (mOp fIsNot (mVar 3) (mC .non))) (mAnd (mTest (mOp fNe (mOp fIx (mVar 3) (mC (.int 0))) (mC (.int 0)))) (mTest (mOp fEq (mCall 2 [] m__law_take (mCons (mVar 1) (mCons (mC (.int 6)) mNil))) (mC (.int 0)))))) (mSet 4 (mCall 2 [] m__law_over (mCons (mTup (mCons (mC (.int 1)) (mCons (mC (.int 1)) mNil))) (mCons (mVar 3) mNil)))) mNext)
    (mIfS (mOr (mNot (mTru (mCall 3 [] m__law_added (mCons (mVar 1) (mCons (mVar 3) (mCons (mVar 4) mNil)))))) (mOr (mNot (mTru (mCall 2 [] m__law_quartered (mCons (mVar 1) (mCons (mCall 1 [] m__law_direction (mCons (mVar 3) mNil)) mNil))))) (mNot (mTru (mCall 1 [] m__law_rooted (mCons (mVar 1) mNil)))))) (mRet (mC (.bl false))) mNext)))))
    (mRet (mC (.bl true))))))
end Law


set_option Elab.async false
set_option linter.all false
set_option maxRecDepth 100000
namespace Law
open PySem PySem.Spec PyProof.Rows L2 Mir

theorem take_ok (s : Hd) {n : Int} (h : manyOk n) : m__law_take [.hnd, .int n] s = .ok (.int (takeV s n)) (takeS s n) := by
  show (if manyOk n then R.ok (Dt.int (takeV s n)) (takeS s n) else .bad) = _
  rw [if_pos h]
theorem is_whole_int (i : Int) (s : Hd) : m_is_whole [.int i, .non, .non] s = .ok (.bl true) s := by
  simp [m_is_whole, mDef, b_is_whole, startE, mSeq, mIfS, mOr, mNot, mTru, mIsi, mVar, mRet, mAndV, mOrV, mOp, mC, mNext, fTru, fIs]
theorem is_whole_bl (i : Bool) (a b : Dt) (s : Hd) : m_is_whole [.bl i, a, b] s = .ok (.bl false) s := by
  simp [m_is_whole, mDef, b_is_whole, startE, mSeq, mIfS, mOr, mNot, mTru, mIsi, mVar, mRet, mAndV, mOrV, mOp, mC, mNext, fTru, fIs]
theorem is_whole_tup (i : List Dt) (a b : Dt) (s : Hd) : m_is_whole [.tup i, a, b] s = .ok (.bl false) s := by
  simp [m_is_whole, mDef, b_is_whole, startE, mSeq, mIfS, mOr, mNot, mTru, mIsi, mVar, mRet, mAndV, mOrV, mOp, mC, mNext, fTru, fIs]
theorem is_whole_lst (i : List Dt) (a b : Dt) (s : Hd) : m_is_whole [.lst i, a, b] s = .ok (.bl false) s := by
  simp [m_is_whole, mDef, b_is_whole, startE, mSeq, mIfS, mOr, mNot, mTru, mIsi, mVar, mRet, mAndV, mOrV, mOp, mC, mNext, fTru, fIs]
theorem is_whole_non (a b : Dt) (s : Hd) : m_is_whole [.non, a, b] s = .ok (.bl false) s := by
  simp [m_is_whole, mDef, b_is_whole, startE, mSeq, mIfS, mOr, mNot, mTru, mIsi, mVar, mRet, mAndV, mOrV, mOp, mC, mNext, fTru, fIs]
theorem is_whole_str (x : Str) (a b : Dt) (s : Hd) : m_is_whole [.str x, a, b] s = .ok (.bl false) s := by
  simp [m_is_whole, mDef, b_is_whole, startE, mSeq, mIfS, mOr, mNot, mTru, mIsi, mVar, mRet, mAndV, mOrV, mOp, mC, mNext, fTru, fIs]
theorem is_whole_low (i l : Int) (s : Hd) : m_is_whole [.int i, .int l, .non] s = .ok (.bl (decide (l ≤ i))) s := by
  by_cases c : l ≤ i <;> simp [m_is_whole, mDef, b_is_whole, startE, mSeq, mIfS, mOr, mNot, mTru, mIsi, mVar, mRet, mAndV, mOrV, mOp, mC, mNext, fTru, fIs, fI, c]
theorem is_whole_high (i l : Int) (s : Hd) : m_is_whole [.int i, .non, .int l] s = .ok (.bl (decide (i ≤ l))) s := by
  by_cases c : i ≤ l <;> simp [m_is_whole, mDef, b_is_whole, startE, mSeq, mIfS, mOr, mNot, mTru, mIsi, mVar, mRet, mAndV, mOrV, mOp, mC, mNext, fTru, fIs, fI, c]
theorem is_whole_both (i l k : Int) (s : Hd) : m_is_whole [.int i, .int l, .int k] s = .ok (.bl (decide (l ≤ i) && decide (i ≤ k))) s := by
  by_cases c : l ≤ i <;> by_cases c2 : i ≤ k <;> simp [m_is_whole, mDef, b_is_whole, startE, mSeq, mIfS, mOr, mNot, mTru, mIsi, mVar, mRet, mAndV, mOrV, mOp, mC, mNext, fTru, fIs, fI, c, c2]
theorem sgcd_sz {t b : Int} {n : Nat} (h : b ≠ 0) (hs : Sz n b) : Sz n (sgcd t b) := by
  refine hs.le ?_
  rw [sgcd_abs]
  exact Nat.le_of_dvd (by omega) (Nat.gcd_dvd_right _ _)
theorem lowest_ok {t b : Int} (h : b ≠ 0) (hs : Sz 8000 b) (s : Hd) : m_lowest_terms [.int t, .int b] s = .ok (low t b) s := by
  have hd : DivOk (sgcd t b) := DivOk.of (sgcd_ne h) (sgcd_sz h hs) (by decide)
  have e : sgcd t b = if b < 0 then -((Nat.gcd t.natAbs b.natAbs : Nat) : Int) else ((Nat.gcd t.natAbs b.natAbs : Nat) : Int) := rfl
  by_cases c : b < 0
  · rw [if_pos c] at e
    rw [e] at hd
    simp [m_lowest_terms, mDef, b_lowest_terms, startE, mSeq, mSet, mCB, mCons, mVar, mNil, fGcd, mIfS, mTest, mOp, fI, mC, mUn, fNeg, mNext, mRet, mTup, c, hd, low, lowT, lowB, e]
  · rw [if_neg c] at e
    rw [e] at hd
    simp [m_lowest_terms, mDef, b_lowest_terms, startE, mSeq, mSet, mCB, mCons, mVar, mNil, fGcd, mIfS, mTest, mOp, fI, mC, mUn, fNeg, mNext, mRet, mTup, c, hd, low, lowT, lowB, e]
/-- the law's own greatest divisor -/
def gcdBody : MS := mPar 0 1 (mCons (mVar 1) (mCons (mOp fMod (mCB fIntC (mCons (mVar 0) mNil)) (mVar 1)) mNil))
theorem gcd_loop (s : Hd) : ∀ (n x y : Nat), y < n → loopW (mTru (mVar 1)) gcdBody n [.dat (.int x), .dat (.int y)] s = .ok (.nx [.dat (.int (Nat.gcd x y : Nat)), .dat (.int 0)]) s
  | 0, x, y, h => by omega
  | n + 1, x, y, h => by
    unfold loopW
    by_cases c : y = 0
    · subst c
      simp [mTru, mVar, fTru]
    · have c' : ((y : Int) != 0) = true := by
        simp
        omega
      have c2 : (y : Int) ≠ 0 := by omega
      have ih := gcd_loop s n y (x % y) (by have := Nat.mod_lt x (show 0 < y by omega); omega)
      have e : Int.fmod (x : Int) (y : Int) = ((x % y : Nat) : Int) := by
        rw [Int.fmod_eq_emod_of_nonneg _ (by omega)]
        rfl
      have eb : gcdBody [.dat (.int x), .dat (.int y)] s = .ok (.nx [.dat (.int y), .dat (.int ((x % y : Nat) : Int))]) s := by
        simp [gcdBody, mPar, mCons, mVar, mOp, mCB, mNil, fIntC, fI, c2, c, e]
      have eg : Nat.gcd y (x % y) = Nat.gcd x y := by rw [Nat.gcd_comm y, ← Nat.gcd_rec, Nat.gcd_comm]
      simp only [mTru, mVar, fTru, List.getElem?_cons_succ, List.getElem?_cons_zero, R.bind_ok, liftO_some, c', if_true, eb]
      rw [ih, eg]
theorem gcd_ok (a b : Int) (s : Hd) : m__law_gcd [.int a, .int b] s = .ok (.int (Nat.gcd a.natAbs b.natAbs : Nat)) s := by
  have ea : ∀ i : Int, (if i < 0 then -i else i) = ((i.natAbs : Nat) : Int) := fun i => by split <;> omega
  have h1 : mPar 0 1 (mCons (mCB fAbs (mCons (mVar 0) mNil)) (mCons (mCB fAbs (mCons (mVar 1) mNil)) mNil)) (startE 2 [.int a, .int b]) s = .ok (.nx [.dat (.int a.natAbs), .dat (.int b.natAbs)]) s := by
    simp [mPar, mCons, mCB, mVar, mNil, fAbs, startE, ea]
  have h2 := gcd_loop s (fuelE [.dat (.int a.natAbs), .dat (.int b.natAbs)]) a.natAbs b.natAbs (by simp [fuelE, absS]; omega)
  have h3 : mWhile (mTru (mVar 1)) gcdBody [.dat (.int a.natAbs), .dat (.int b.natAbs)] s = _ := h2
  show mDef 2 (mSeq _ (mSeq (mWhile (mTru (mVar 1)) gcdBody) _)) _ _ = _
  unfold mDef mSeq
  rw [h1]
  simp only [h3]
  simp [mRet, mVar]
theorem ratio_ok {t b : Int} (h : b ≠ 0) (hs : Sz 8000 b) (s : Hd) : m__law_ratio [.int t, .int b] s = .ok (low t b) s := by
  have hd : DivOk (sgcd t b) := DivOk.of (sgcd_ne h) (sgcd_sz h hs) (by decide)
  have e : sgcd t b = if b < 0 then -((Nat.gcd t.natAbs b.natAbs : Nat) : Int) else ((Nat.gcd t.natAbs b.natAbs : Nat) : Int) := rfl
  by_cases c : b < 0
  · rw [if_pos c] at e
    rw [e] at hd
    simp [m__law_ratio, mDef, b__law_ratio, startE, mSeq, mSet, mCall, mCons, mVar, mNil, gcd_ok, mIfS, mTest, mOp, fI, mC, mUn, fNeg, mNext, mRet, mTup, c, hd, low, lowT, lowB, e]
  · rw [if_neg c] at e
    rw [e] at hd
    simp [m__law_ratio, mDef, b__law_ratio, startE, mSeq, mSet, mCall, mCons, mVar, mNil, gcd_ok, mIfS, mTest, mOp, fI, mC, mUn, fNeg, mNext, mRet, mTup, c, hd, low, lowT, lowB, e]
/-! ### ratios -/
theorem sz_ok {a b c d : Int} {n : Nat} (hn : n ≤ 3000) (h1 : Sz n a) (h2 : Sz n b) (h3 : Sz n c) (h4 : Sz n d) : MulOk a d ∧ MulOk c b ∧ MulOk b d ∧ MulOk a c ∧ MulOk b c ∧ MulOk d a :=
  ⟨MulOk.of h1 h4 (by omega), MulOk.of h3 h2 (by omega), MulOk.of h2 h4 (by omega), MulOk.of h1 h3 (by omega), MulOk.of h2 h3 (by omega), MulOk.of h4 h1 (by omega)⟩
theorem at0 (a b : Int) : atI [Dt.int a, Dt.int b] 0 = some (.int a) := rfl
theorem at1 (a b : Int) : atI [Dt.int a, Dt.int b] 1 = some (.int b) := rfl
/-- two ratios whose numbers are small enough -/
structure Rs (n : Nat) (a b c d : Int) : Prop where
  hn : n ≤ 3000
  sa : Sz n a
  sb : Sz n b
  sc : Sz n c
  sd : Sz n d
  b0 : b ≠ 0
  d0 : d ≠ 0
theorem Rs.bd {n : Nat} {a b c d : Int} (r : Rs n a b c d) : b * d ≠ 0 ∧ Sz 8000 (b * d) := ⟨Int.mul_ne_zero r.b0 r.d0, (r.sb.mul r.sd).mono (by have := r.hn; omega)⟩
theorem plus_ok {n : Nat} {a b c d : Int} (r : Rs n a b c d) (s : Hd) : m_plus [rat a b, rat c d] s = .ok (low (a * d + c * b) (b * d)) s := by
  obtain ⟨m1, m2, m3, m4, m5, m6⟩ := sz_ok r.hn r.sa r.sb r.sc r.sd
  have l := lowest_ok (t := a * d + c * b) r.bd.1 r.bd.2 s
  simp [m_plus, mDef, b_plus, startE, mRet, mCall, mCons, mNil, mOp, mVar, mC, fIx, at0, at1, fMul, fAdd, m1, m2, m3, l]
theorem lplus_ok {n : Nat} {a b c d : Int} (r : Rs n a b c d) (s : Hd) : m__law_plus [rat a b, rat c d] s = .ok (low (a * d + c * b) (b * d)) s := by
  obtain ⟨m1, m2, m3, m4, m5, m6⟩ := sz_ok r.hn r.sa r.sb r.sc r.sd
  have l := ratio_ok (t := a * d + c * b) r.bd.1 r.bd.2 s
  simp [m__law_plus, mDef, b__law_plus, startE, mRet, mCall, mCons, mNil, mOp, mVar, mC, fIx, at0, at1, fMul, fAdd, m1, m2, m3, l]
theorem minus_ok {n : Nat} {a b c d : Int} (r : Rs n a b c d) (s : Hd) : m_minus [rat a b, rat c d] s = .ok (low (a * d - c * b) (b * d)) s := by
  obtain ⟨m1, m2, m3, m4, m5, m6⟩ := sz_ok r.hn r.sa r.sb r.sc r.sd
  have l := lowest_ok (t := a * d - c * b) r.bd.1 r.bd.2 s
  simp [m_minus, mDef, b_minus, startE, mRet, mCall, mCons, mNil, mOp, mVar, mC, fIx, at0, at1, fMul, fI, m1, m2, m3, l]
theorem lless_ok {n : Nat} {a b c d : Int} (r : Rs n a b c d) (s : Hd) : m__law_less [rat a b, rat c d] s = .ok (low (a * d - c * b) (b * d)) s := by
  obtain ⟨m1, m2, m3, m4, m5, m6⟩ := sz_ok r.hn r.sa r.sb r.sc r.sd
  have l := ratio_ok (t := a * d - c * b) r.bd.1 r.bd.2 s
  simp [m__law_less, mDef, b__law_less, startE, mRet, mCall, mCons, mNil, mOp, mVar, mC, fIx, at0, at1, fMul, fI, m1, m2, m3, l]
theorem times_ok {n : Nat} {a b c d : Int} (r : Rs n a b c d) (s : Hd) : m_times [rat a b, rat c d] s = .ok (low (a * c) (b * d)) s := by
  obtain ⟨m1, m2, m3, m4, m5, m6⟩ := sz_ok r.hn r.sa r.sb r.sc r.sd
  have l := lowest_ok (t := a * c) r.bd.1 r.bd.2 s
  simp [m_times, mDef, b_times, startE, mRet, mCall, mCons, mNil, mOp, mVar, mC, fIx, at0, at1, fMul, m3, m4, l]
theorem ltimes_ok {n : Nat} {a b c d : Int} (r : Rs n a b c d) (s : Hd) : m__law_times [rat a b, rat c d] s = .ok (low (a * c) (b * d)) s := by
  obtain ⟨m1, m2, m3, m4, m5, m6⟩ := sz_ok r.hn r.sa r.sb r.sc r.sd
  have l := ratio_ok (t := a * c) r.bd.1 r.bd.2 s
  simp [m__law_times, mDef, b__law_times, startE, mRet, mCall, mCons, mNil, mOp, mVar, mC, fIx, at0, at1, fMul, m3, m4, l]
theorem neg_ok (a b : Int) (s : Hd) : m_negative [rat a b] s = .ok (rat (-a) b) s := by
  simp [m_negative, mDef, b_negative, startE, mRet, mTup, mCons, mNil, mOp, mVar, mC, fIx, at0, at1, mUn, fNeg]
theorem py_int (i : Int) : pyOk (.int i) = some (.int i) := by
  have e : SeqAt.shaped (.int i) = true := rfl
  simp [pyOk, toPy, e]
theorem py_str (x : Str) (h : SeqAt.shaped (.str x) = true) : pyOk (.str x) = some (.str x) := by simp [pyOk, toPy, h]
theorem py_rat (a b : Int) : pyOk (rat a b) = some (.tuple [.int a, .int b]) := by
  have e : SeqAt.shaped (.tuple [.int a, .int b]) = true := rfl
  simp [pyOk, toPy, toPyA, e]
theorem eq_int (i j : Int) : fEqB (.int i) (.int j) = some (i == j) := by simp [fEqB, py_int, PyData.eqv]
theorem eq_rat (a b c d : Int) : fEqB (rat a b) (rat c d) = some ((a == c) && (b == d)) := by simp [fEqB, py_rat, PyData.eqv, PyData.eqvAll]
end Law


set_option Elab.async false
set_option linter.all false
set_option maxRecDepth 100000
namespace Law
open PySem PySem.Spec PyProof.Rows L2 Mir
theorem over_ok {n : Nat} {a b c d : Int} (r : Rs n a b c d) (hc : c ≠ 0) (s : Hd) : m_over [rat a b, rat c d] s = .ok (low (a * d) (b * c)) s := by
  obtain ⟨m1, m2, m3, m4, m5, m6⟩ := sz_ok r.hn r.sa r.sb r.sc r.sd
  have l := lowest_ok (t := a * d) (Int.mul_ne_zero r.b0 hc) ((r.sb.mul r.sc).mono (by have := r.hn; omega)) s
  have e : fEqB (rat c d) (rat 0 1) = some false := by
    rw [eq_rat]
    simp [hc]
  simp [m_over, mDef, b_over, startE, mSeq, mIfS, mTest, mRet, mCall, mCons, mNil, mOp, mVar, mC, fIx, at0, at1, fMul, m1, m5, mNext, fEq, e, l]
theorem lover_ok {n : Nat} {a b c d : Int} (r : Rs n a b c d) (hc : c ≠ 0) (s : Hd) : m__law_over [rat a b, rat c d] s = .ok (low (a * d) (b * c)) s := by
  obtain ⟨m1, m2, m3, m4, m5, m6⟩ := sz_ok r.hn r.sa r.sb r.sc r.sd
  have l := ratio_ok (t := a * d) (Int.mul_ne_zero r.b0 hc) ((r.sb.mul r.sc).mono (by have := r.hn; omega)) s
  simp [m__law_over, mDef, b__law_over, startE, mRet, mCall, mCons, mNil, mOp, mVar, mC, fIx, at0, at1, fMul, m1, m5, l]
theorem isr_tup (a b : Int) (s : Hd) : m_is_ratio [rat a b] s = .ok (.bl (decide (1 ≤ b) && decide (Nat.gcd a.natAbs b.natAbs = 1))) s := by
  have e1 : fEqB (.int 2) (.int 2) = some true := by rw [eq_int]; rfl
  by_cases c : 1 ≤ b
  · by_cases c2 : Nat.gcd a.natAbs b.natAbs = 1
    · simp [m_is_ratio, mDef, b_is_ratio, startE, mSeq, mIfS, mOr, mNot, mTru, mIsi, mVar, fTru, mTest, mOp, mCB, mCons, mNil, fLen, fNe, e1, mC, mNext, mAsg, gmSeq, gmCons, gmName, gmNil, mRet, mAndV, mCall, is_whole_int, is_whole_low, c, fGcd, fEq, eq_int, c2]
    · have c3 : ((Nat.gcd a.natAbs b.natAbs : Nat) : Int) ≠ 1 := by omega
      simp [m_is_ratio, mDef, b_is_ratio, startE, mSeq, mIfS, mOr, mNot, mTru, mIsi, mVar, fTru, mTest, mOp, mCB, mCons, mNil, fLen, fNe, e1, mC, mNext, mAsg, gmSeq, gmCons, gmName, gmNil, mRet, mAndV, mCall, is_whole_int, is_whole_low, c, fGcd, fEq, eq_int, c2, c3]
  · simp [m_is_ratio, mDef, b_is_ratio, startE, mSeq, mIfS, mOr, mNot, mTru, mIsi, mVar, fTru, mTest, mOp, mCB, mCons, mNil, fLen, fNe, e1, mC, mNext, mAsg, gmSeq, gmCons, gmName, gmNil, mRet, mAndV, mCall, is_whole_int, is_whole_low, c]
end Law


set_option Elab.async false
set_option linter.all false
set_option maxRecDepth 100000
namespace Law
open PySem PySem.Spec PyProof.Rows L2 Mir
section
variable {n : Nat} {p q : Rat}
theorem rs_of (hn : n ≤ 3000) (a : Bd n p) (b : Bd n q) : Rs n p.num (p.den : Int) q.num (q.den : Int) := ⟨hn, a.t, a.b, b.t, b.b, bt_ne p, bt_ne q⟩
theorem plus_q (hn : n ≤ 3000) (a : Bd n p) (b : Bd n q) (s : Hd) : m_plus [dq p, dq q] s = .ok (dq (p + q)) s := by
  rw [plus_ok (rs_of hn a b) s, low_add]
theorem lplus_q (hn : n ≤ 3000) (a : Bd n p) (b : Bd n q) (s : Hd) : m__law_plus [dq p, dq q] s = .ok (dq (p + q)) s := by
  rw [lplus_ok (rs_of hn a b) s, low_add]
theorem minus_q (hn : n ≤ 3000) (a : Bd n p) (b : Bd n q) (s : Hd) : m_minus [dq p, dq q] s = .ok (dq (p - q)) s := by
  rw [minus_ok (rs_of hn a b) s, low_sub]
theorem lless_q (hn : n ≤ 3000) (a : Bd n p) (b : Bd n q) (s : Hd) : m__law_less [dq p, dq q] s = .ok (dq (p - q)) s := by
  rw [lless_ok (rs_of hn a b) s, low_sub]
theorem times_q (hn : n ≤ 3000) (a : Bd n p) (b : Bd n q) (s : Hd) : m_times [dq p, dq q] s = .ok (dq (p * q)) s := by
  rw [times_ok (rs_of hn a b) s, low_mul']
theorem ltimes_q (hn : n ≤ 3000) (a : Bd n p) (b : Bd n q) (s : Hd) : m__law_times [dq p, dq q] s = .ok (dq (p * q)) s := by
  rw [ltimes_ok (rs_of hn a b) s, low_mul']
theorem over_q (hn : n ≤ 3000) (a : Bd n p) (b : Bd n q) (h : q ≠ 0) (s : Hd) : m_over [dq p, dq q] s = .ok (dq (p / q)) s := by
  rw [over_ok (rs_of hn a b) (num_ne h) s, low_div p q h]
theorem lover_q (hn : n ≤ 3000) (a : Bd n p) (b : Bd n q) (h : q ≠ 0) (s : Hd) : m__law_over [dq p, dq q] s = .ok (dq (p / q)) s := by
  rw [lover_ok (rs_of hn a b) (num_ne h) s, low_div p q h]
theorem neg_q (s : Hd) : m_negative [dq p] s = .ok (dq (-p)) s := neg_ok _ _ s
theorem isr_q (s : Hd) : m_is_ratio [dq p] s = .ok (.bl true) s := by
  have h := dq_is p
  rw [isr_tup, decide_eq_true (show 1 ≤ (p.den : Int) from h.pos), decide_eq_true (show Nat.gcd p.num.natAbs ((p.den : Int)).natAbs = 1 from h.co), Bool.and_self]
theorem eq_q : fEqB (dq p) (dq q) = some (decide (p = q)) := by
  rw [eq_rat, dq_beq]
theorem same_q (s : Hd) : m__law_same [dq p, dq p] s = .ok (.bl true) s := by
  have e1 : fEqB (.int 2) (.int 2) = some true := by rw [eq_int]; rfl
  have e2 (i : Int) : fEqB (.int i) (.int i) = some true := by rw [eq_int]; simp
  simp [m__law_same, mDef, b__law_same, startE, mSeq, mIfS, mOr, mNot, mTru, mIsi, mVar, fTru, mTest, mOp, mCB, mCons, mNil, fLen, fNe, e1, mC, mNext, mFor, mSeqI, loopF, gmName, mRet, mAndV, fEq, fIx, at0, at1, e2]
end
/-- small numbers -/
theorem bd1 : Bd 1 (1 : Rat) := ⟨by unfold Sz; decide, by unfold Sz; decide⟩
theorem bdm1 : Bd 1 (-1 : Rat) := ⟨by unfold Sz; decide, by unfold Sz; decide⟩
theorem bd0 : Bd 1 (0 : Rat) := ⟨by unfold Sz; decide, by unfold Sz; decide⟩
theorem bd2 : Bd 2 (2 : Rat) := ⟨by unfold Sz; decide, by unfold Sz; decide⟩
theorem bdm2 : Bd 2 (-2 : Rat) := ⟨by unfold Sz; decide, by unfold Sz; decide⟩
/-- halves and directions -/
def hd : Option Rat → Dt
  | none => .non
  | some h => dq h
def dr (d : Rat × Rat) : Dt := .tup [dq d.1, dq d.2]
def dirOf : Option Rat → Rat × Rat
  | none => (0, -1)
  | some h => (-2 * h / (1 + h * h), (1 - h * h) / (1 + h * h))
def roundOf : Option Rat → Rat × Rat
  | none => (-1, 0)
  | some h => ((1 - h * h) / (1 + h * h), 2 * h / (1 + h * h))
def turnedOf (d : Rat × Rat) (o : Option Rat) : Rat × Rat := (d.1 * (roundOf o).1 - d.2 * (roundOf o).2, d.1 * (roundOf o).2 + d.2 * (roundOf o).1)
def halfBack (d : Rat × Rat) : Option Rat := if d.2 = -1 then none else some (-1 * d.1 / (1 + d.2))
def Unit1 (d : Rat × Rat) : Prop := d.1 * d.1 + d.2 * d.2 = 1
theorem sq_nn (h : Rat) : 0 ≤ h * h := by
  rcases Rat.le_total (a := 0) (b := h) with c | c
  · exact Rat.mul_nonneg c c
  · have c2 : 0 ≤ -h := by grind
    have := Rat.mul_nonneg c2 c2
    grind
theorem den_ne (h : Rat) : 1 + h * h ≠ 0 := by
  have := sq_nn h
  intro e
  have : (0 : Rat) < 1 + h * h := by grind
  grind
theorem dir_unit (o : Option Rat) : Unit1 (dirOf o) := by
  cases o with
  | none =>
    show (0 : Rat) * 0 + -1 * -1 = 1
    grind
  | some h =>
    have := den_ne h
    unfold Unit1 dirOf
    simp only
    grind
theorem round_unit (o : Option Rat) : (roundOf o).1 * (roundOf o).1 + (roundOf o).2 * (roundOf o).2 = 1 := by
  cases o with
  | none =>
    show (-1 : Rat) * -1 + 0 * 0 = 1
    grind
  | some h =>
    have := den_ne h
    unfold roundOf
    simp only
    grind
theorem turn_unit (d : Rat × Rat) (o : Option Rat) (u : Unit1 d) : Unit1 (turnedOf d o) := by
  have r := round_unit o
  unfold Unit1 turnedOf at *
  simp only
  generalize (roundOf o).1 = c at *
  generalize (roundOf o).2 = t at *
  grind
theorem back_dir (o : Option Rat) : halfBack (dirOf o) = o := by
  cases o with
  | none => rfl
  | some h =>
    have e := den_ne h
    unfold halfBack dirOf
    simp only
    have c : ¬ (1 - h * h) / (1 + h * h) = -1 := by
      intro z
      grind
    rw [if_neg c]
    congr 1
    have c2 : 1 + (1 - h * h) / (1 + h * h) ≠ 0 := by
      intro z
      apply c
      grind
    grind
theorem dir_back (d : Rat × Rat) (u : Unit1 d) : dirOf (halfBack d) = d := by
  obtain ⟨x, y⟩ := d
  unfold Unit1 at u
  simp only at u
  unfold halfBack
  simp only
  by_cases c : y = -1
  · rw [if_pos c]
    have : x = 0 := by
      have : x * x = 0 := by grind
      grind
    unfold dirOf
    rw [c, this]
  · rw [if_neg c]
    have c2 : 1 + y ≠ 0 := by grind
    have c3 := den_ne (-1 * x / (1 + y))
    unfold dirOf
    simp only
    congr 1
    · grind
    · grind
end Law


set_option Elab.async false
set_option linter.all false
set_option maxRecDepth 100000
namespace Law
open PySem PySem.Spec PyProof.Rows L2 Mir
def BdO (n : Nat) (o : Option Rat) : Prop := ∀ h, o = some h → Bd n h
def BdD (n : Nat) (d : Rat × Rat) : Prop := Bd n d.1 ∧ Bd n d.2
theorem BdO.some {n : Nat} {h : Rat} (b : BdO n (some h)) : Bd n h := b h rfl
theorem dir_bd {n : Nat} {o : Option Rat} (b : BdO n o) : BdD (4 * n + 8) (dirOf o) := by
  cases o with
  | none => exact ⟨bd0.mono (by omega), bdm1.mono (by omega)⟩
  | some h =>
    have b := b.some
    have d : Bd (1 + (n + n) + 1) (1 + h * h) := bd1.add (b.mul b)
    exact ⟨(Bd.div (den_ne h) (bdm2.mul b) d).mono (by omega), (Bd.div (den_ne h) (bd1.sub (b.mul b)) d).mono (by omega)⟩
theorem round_bd {n : Nat} {o : Option Rat} (b : BdO n o) : BdD (4 * n + 8) (roundOf o) := by
  cases o with
  | none => exact ⟨bdm1.mono (by omega), bd0.mono (by omega)⟩
  | some h =>
    have b := b.some
    have d : Bd (1 + (n + n) + 1) (1 + h * h) := bd1.add (b.mul b)
    exact ⟨(Bd.div (den_ne h) (bd1.sub (b.mul b)) d).mono (by omega), (Bd.div (den_ne h) (bd2.mul b) d).mono (by omega)⟩
theorem turn_bd {m n : Nat} {d : Rat × Rat} {o : Option Rat} (a : BdD m d) (b : BdO n o) : BdD (2 * m + 8 * n + 20) (turnedOf d o) := by
  have r := round_bd b
  exact ⟨((a.1.mul r.1).sub (a.2.mul r.2)).mono (by omega), ((a.1.mul r.2).add (a.2.mul r.1)).mono (by omega)⟩
theorem back_bd {n : Nat} {d : Rat × Rat} (a : BdD n d) : BdO (2 * n + 4) (halfBack d) := by
  intro h e
  unfold halfBack at e
  by_cases c : d.2 = -1
  · rw [if_pos c] at e
    cases e
  · rw [if_neg c] at e
    cases e
    have c2 : 1 + d.2 ≠ 0 := by grind
    exact (Bd.div c2 (bdm1.mul a.1) (bd1.add a.2)).mono (by omega)
theorem ne_non {q : Rat} : fIs (dq q) .non = some (.bl false) := rfl
theorem direction_ok {n : Nat} (hn : n ≤ 500) {o : Option Rat} (b : BdO n o) (s : Hd) : m__law_direction [hd o] s = .ok (dr (dirOf o)) s := by
  cases o with
  | none => rfl
  | some h =>
    have b := b.some
    have l1 : m__law_times [dq h, dq h] s = _ := ltimes_q (n := n) (by omega) b b s
    have b2 : Bd (2 * n) (h * h) := (b.mul b).mono (by omega)
    have l2 : m__law_plus [rat 1 1, dq (h * h)] s = _ := lplus_q (n := 2 * n + 1) (p := 1) (by omega) (bd1.mono (by omega)) (b2.mono (by omega)) s
    have l3 : m__law_less [rat 1 1, dq (h * h)] s = _ := lless_q (n := 2 * n + 1) (p := 1) (by omega) (bd1.mono (by omega)) (b2.mono (by omega)) s
    have l4 : m__law_times [rat (-2) 1, dq h] s = _ := ltimes_q (n := n + 2) (p := -2) (by omega) (bdm2.mono (by omega)) (b.mono (by omega)) s
    have b3 : Bd (2 * n + 2) (1 + h * h) := (bd1.add b2).mono (by omega)
    have b4 : Bd (2 * n + 2) (1 - h * h) := (bd1.sub b2).mono (by omega)
    have b5 : Bd (2 * n + 2) (-2 * h) := (bdm2.mul b).mono (by omega)
    have l5 := lover_q (by omega) b5 b3 (den_ne h) s
    have l6 := lover_q (by omega) b4 b3 (den_ne h) s
    show _ = R.ok (Dt.tup [dq (-2 * h / (1 + h * h)), dq ((1 - h * h) / (1 + h * h))]) s
    generalize h * h = u at *
    generalize 1 + u = v at *
    generalize 1 - u = w at *
    generalize -2 * h = x at *
    generalize x / v = y at *
    generalize w / v = z at *
    simp [m__law_direction, mDef, b__law_direction, hd, startE, mSeq, mIfS, mTest, mOp, mVar, mC, fIs, mNext, mSet, mCall, mCons, mNil, l1, l2, l3, l4, l5, l6, mRet, mTup, mUn, fNeg]
theorem round_ok {n : Nat} (hn : n ≤ 500) {o : Option Rat} (b : BdO n o) (s : Hd) : m__law_round [hd o] s = .ok (dr (roundOf o)) s := by
  cases o with
  | none => rfl
  | some h =>
    have b := b.some
    have l1 : m__law_times [dq h, dq h] s = _ := ltimes_q (n := n) (by omega) b b s
    have b2 : Bd (2 * n) (h * h) := (b.mul b).mono (by omega)
    have l2 : m__law_plus [rat 1 1, dq (h * h)] s = _ := lplus_q (n := 2 * n + 1) (p := 1) (by omega) (bd1.mono (by omega)) (b2.mono (by omega)) s
    have l3 : m__law_less [rat 1 1, dq (h * h)] s = _ := lless_q (n := 2 * n + 1) (p := 1) (by omega) (bd1.mono (by omega)) (b2.mono (by omega)) s
    have l4 : m__law_times [rat 2 1, dq h] s = _ := ltimes_q (n := n + 2) (p := 2) (by omega) (bd2.mono (by omega)) (b.mono (by omega)) s
    have b3 : Bd (2 * n + 2) (1 + h * h) := (bd1.add b2).mono (by omega)
    have b4 : Bd (2 * n + 2) (1 - h * h) := (bd1.sub b2).mono (by omega)
    have b5 : Bd (2 * n + 2) (2 * h) := (bd2.mul b).mono (by omega)
    have l5 := lover_q (by omega) b5 b3 (den_ne h) s
    have l6 := lover_q (by omega) b4 b3 (den_ne h) s
    show _ = R.ok (Dt.tup [dq ((1 - h * h) / (1 + h * h)), dq (2 * h / (1 + h * h))]) s
    generalize h * h = u at *
    generalize 1 + u = v at *
    generalize 1 - u = w at *
    generalize 2 * h = x at *
    generalize x / v = y at *
    generalize w / v = z at *
    simp [m__law_round, mDef, b__law_round, hd, startE, mSeq, mIfS, mTest, mOp, mVar, mC, fIs, mNext, mSet, mCall, mCons, mNil, l1, l2, l3, l4, l5, l6, mRet, mTup, mUn, fNeg]
theorem turned_ok {m n : Nat} (hm : m ≤ 1000) (hn : n ≤ 200) {d : Rat × Rat} {o : Option Rat} (a : BdD m d) (b : BdO n o) (s : Hd) : m__law_turned [dr d, hd o] s = .ok (dr (turnedOf d o)) s := by
  have r := round_bd b
  have l0 := round_ok (by omega) b s
  obtain ⟨x, y⟩ := d
  unfold turnedOf
  generalize roundOf o = cs at *
  obtain ⟨c, t⟩ := cs
  have a1 : Bd (m + 808) x := a.1.mono (by omega)
  have a2 : Bd (m + 808) y := a.2.mono (by omega)
  have r1 : Bd (m + 808) c := r.1.mono (by omega)
  have r2 : Bd (m + 808) t := r.2.mono (by omega)
  have l1 := ltimes_q (by omega) a1 r1 s
  have l2 := ltimes_q (by omega) a2 r2 s
  have l3 := ltimes_q (by omega) a1 r2 s
  have l4 := ltimes_q (by omega) a2 r1 s
  have n1 : Bd (m + 4 * n + 8) (x * c) := (a.1.mul r.1).mono (by omega)
  have n2 : Bd (m + 4 * n + 8) (y * t) := (a.2.mul r.2).mono (by omega)
  have n3 : Bd (m + 4 * n + 8) (x * t) := (a.1.mul r.2).mono (by omega)
  have n4 : Bd (m + 4 * n + 8) (y * c) := (a.2.mul r.1).mono (by omega)
  have l5 := lless_q (by omega) n1 n2 s
  have l6 := lplus_q (by omega) n3 n4 s
  show _ = R.ok (Dt.tup [dq (x * c - y * t), dq (x * t + y * c)]) s
  have l0' : m__law_round [hd o] s = .ok (.tup [dq c, dq t]) s := l0
  show m__law_turned [.tup [dq x, dq y], hd o] s = _
  generalize hd o = O at *
  generalize x * c = u1 at *
  generalize y * t = u2 at *
  generalize x * t = u3 at *
  generalize y * c = u4 at *
  generalize u1 - u2 = w1 at *
  generalize u3 + u4 = w2 at *
  simp [m__law_turned, mDef, b__law_turned, startE, mSeq, mAsg, gmSeq, gmCons, gmNil, gmName, mVar, mCall, mCons, mNil, l0', l1, l2, l3, l4, l5, l6, mRet, mTup]
theorem half_back_ok {n : Nat} (hn : n ≤ 1000) {d : Rat × Rat} (a : BdD n d) (s : Hd) : m__law_half_back [dr d] s = .ok (hd (halfBack d)) s := by
  obtain ⟨x, y⟩ := d
  have a1 : Bd (n + 1) x := a.1.mono (by omega)
  have a2 : Bd (n + 1) y := a.2.mono (by omega)
  have e1 : fEqB (dq y) (rat (-1) 1) = some (decide (y = -1)) := eq_q (q := -1)
  show m__law_half_back [.tup [dq x, dq y]] s = _
  have i0 : atI [dq x, dq y] 0 = some (dq x) := rfl
  have i1 : atI [dq x, dq y] 1 = some (dq y) := rfl
  unfold halfBack
  by_cases c : y = -1
  · rw [decide_eq_true c] at e1
    rw [if_pos (show (x, y).2 = -1 from c)]
    simp [m__law_half_back, mDef, b__law_half_back, startE, mSeq, mIfS, mTest, mOp, mVar, mC, fIx, i1, mTup, mUn, fNeg, mCons, mNil, fEq, e1, mRet, hd]
  · rw [decide_eq_false c] at e1
    rw [if_neg (show ¬ (x, y).2 = -1 from c)]
    have c2 : 1 + y ≠ 0 := by grind
    have l1 : m__law_times [rat (-1) 1, dq x] s = _ := ltimes_q (p := -1) (by omega) (bdm1.mono (by omega)) a1 s
    have l2 : m__law_plus [rat 1 1, dq y] s = _ := lplus_q (p := 1) (by omega) (bd1.mono (by omega)) a2 s
    have n1 : Bd (n + 2) (-1 * x) := (bdm1.mul a.1).mono (by omega)
    have n2 : Bd (n + 2) (1 + y) := (bd1.add a.2).mono (by omega)
    have l3 := lover_q (by omega) n1 n2 c2 s
    show _ = R.ok (dq (-1 * x / (1 + y))) s
    generalize -1 * x = u at *
    generalize 1 + y = v at *
    generalize u / v = w at *
    simp [m__law_half_back, mDef, b__law_half_back, startE, mSeq, mIfS, mTest, mOp, mVar, mC, fIx, i0, i1, mTup, mUn, fNeg, mCons, mNil, fEq, e1, mRet, mNext, mCall, l1, l2, l3]
end Law


set_option Elab.async false
set_option linter.all false
set_option maxRecDepth 100000
namespace Law
open PySem PySem.Spec PyProof.Rows L2 Mir
def frm (k : Bool) (d : Rat × Rat) : Dt := if k then .lst [dq d.1, dq d.2] else .tup [dq d.1, dq d.2]
theorem check_half_ok (o : Option Rat) (s : Hd) : m_check_half [hd o] s = .ok .non s := by
  cases o with
  | none => rfl
  | some h =>
    have l := isr_q (p := h) s
    simp [m_check_half, mDef, b_check_half, startE, mIfS, mNot, mTru, mCall, mCons, mNil, mVar, m_is_half, b_is_half, hd, mRet, mOrV, mOp, mC, fIs, fTru, l, mNext]
theorem mul_ok2 {m n : Nat} {a b : Int} (h1 : Sz m a) (h2 : Sz n b) (h : m + n ≤ 900000) : Mir.MulOk a b := MulOk.of h1 h2 h
theorem dir_low (h : Rat) : low (-2 * h.num * (h.den : Int)) ((h.den : Int) * (h.den : Int) + h.num * h.num) = dq (-2 * h / (1 + h * h)) ∧ low ((h.den : Int) * (h.den : Int) - h.num * h.num) ((h.den : Int) * (h.den : Int) + h.num * h.num) = dq ((1 - h * h) / (1 + h * h)) ∧ (h.den : Int) * (h.den : Int) + h.num * h.num ≠ 0 := by
  have n1 := cast_ne (bt_ne h)
  have n0 : (h.den : Int) * (h.den : Int) + h.num * h.num ≠ 0 := by
    have p := bt_pos h
    have a : 0 < (h.den : Int) * (h.den : Int) := Int.mul_pos p p
    have b : 0 ≤ h.num * h.num := by
      rcases Int.le_total 0 h.num with c | c
      · exact Int.mul_nonneg c c
      · exact Int.mul_nonneg_of_nonpos_of_nonpos c c
    omega
  have e := q_eq h
  have dn := den_ne h
  rw [low_frac _ _ n0, low_frac _ _ n0]
  refine ⟨?_, ?_, n0⟩
  · congr 1
    rw [Rat.intCast_mul, Rat.intCast_mul, Rat.intCast_add, Rat.intCast_mul, Rat.intCast_mul]
    have m2 : ((-2 : Int) : Rat) = -2 := rfl
    rw [m2]
    generalize ((h.num : Int) : Rat) = t at *
    generalize (((h.den : Int)) : Rat) = b at *
    have k : b * b + t * t ≠ 0 := by
      intro z
      apply dn
      grind
    grind
  · congr 1
    rw [Rat.intCast_sub, Rat.intCast_add, Rat.intCast_mul, Rat.intCast_mul]
    generalize ((h.num : Int) : Rat) = t at *
    generalize (((h.den : Int)) : Rat) = b at *
    have k : b * b + t * t ≠ 0 := by
      intro z
      apply dn
      grind
    grind
theorem direction_by_ok {n : Nat} (hn : n ≤ 2000) {o : Option Rat} (b : BdO n o) (s : Hd) : m_direction_by [hd o] s = .ok (dr (dirOf o)) s := by
  cases o with
  | none => rfl
  | some h =>
    have b := b.some
    obtain ⟨e1, e2, n0⟩ := dir_low h
    have c := check_half_ok (some h) s
    have s2 : Sz 2 (-2) := by unfold Sz; decide
    have m1 : Mir.MulOk (-2) h.num := MulOk.of s2 b.t (by omega)
    have m2 : Mir.MulOk (-2 * h.num) (h.den : Int) := MulOk.of (s2.mul b.t) b.b (by omega)
    have m3 : Mir.MulOk (h.den : Int) (h.den : Int) := MulOk.of b.b b.b (by omega)
    have m4 : Mir.MulOk h.num h.num := MulOk.of b.t b.t (by omega)
    have z : Sz 8000 ((h.den : Int) * (h.den : Int) + h.num * h.num) := ((b.b.mul b.b).add (b.t.mul b.t)).mono (by omega)
    have l1 := lowest_ok (t := -2 * h.num * (h.den : Int)) n0 z s
    have l2 := lowest_ok (t := (h.den : Int) * (h.den : Int) - h.num * h.num) n0 z s
    rw [e1] at l1
    rw [e2] at l2
    show _ = R.ok (Dt.tup [dq (-2 * h / (1 + h * h)), dq ((1 - h * h) / (1 + h * h))]) s
    have c : m_check_half [dq h] s = .ok .non s := c
    generalize -2 * h / (1 + h * h) = x at *
    generalize (1 - h * h) / (1 + h * h) = y at *
    simp [m_direction_by, mDef, b_direction_by, startE, hd, mSeq, mDrop, mCall, mCons, mNil, mVar, c, mIfS, mTest, mOp, mC, fIs, mNext, mAsg, gmSeq, gmCons, gmNil, gmName, mSet, fMul, fAdd, fSub, fI, m1, m2, m3, m4, mUn, fNeg, mRet, mTup, l1, l2]
theorem dot_ok {n : Nat} (hn : n ≤ 1400) {d e : Rat × Rat} (a : BdD n d) (b : BdD n e) (k j : Bool) (s : Hd) : m_dot_of [frm k d, frm j e] s = .ok (dq (d.1 * e.1 + d.2 * e.2)) s := by
  obtain ⟨x, y⟩ := d
  obtain ⟨u, v⟩ := e
  have l1 := times_q (by omega) a.1 b.1 s
  have l2 := times_q (by omega) a.2 b.2 s
  have n1 : Bd (2 * n) (x * u) := (a.1.mul b.1).mono (by omega)
  have n2 : Bd (2 * n) (y * v) := (a.2.mul b.2).mono (by omega)
  have l3 := plus_q (by omega) n1 n2 s
  have i0 : atI [dq x, dq y] 0 = some (dq x) := rfl
  have i1 : atI [dq x, dq y] 1 = some (dq y) := rfl
  have j0 : atI [dq u, dq v] 0 = some (dq u) := rfl
  have j1 : atI [dq u, dq v] 1 = some (dq v) := rfl
  simp only at l1 l2
  show _ = R.ok (dq (x * u + y * v)) s
  generalize x * u = p at *
  generalize y * v = q at *
  generalize p + q = r at *
  cases k <;> cases j <;> simp [m_dot_of, mDef, b_dot_of, frm, startE, mRet, mCall, mCons, mNil, mOp, mVar, mC, fIx, i0, i1, j0, j1, l1, l2, l3]
theorem cross_ok {n : Nat} (hn : n ≤ 1400) {d e : Rat × Rat} (a : BdD n d) (b : BdD n e) (k j : Bool) (s : Hd) : m_cross_of [frm k d, frm j e] s = .ok (dq (d.1 * e.2 - d.2 * e.1)) s := by
  obtain ⟨x, y⟩ := d
  obtain ⟨u, v⟩ := e
  have l1 := times_q (by omega) a.1 b.2 s
  have l2 := times_q (by omega) a.2 b.1 s
  have n1 : Bd (2 * n) (x * v) := (a.1.mul b.2).mono (by omega)
  have n2 : Bd (2 * n) (y * u) := (a.2.mul b.1).mono (by omega)
  have l3 := minus_q (by omega) n1 n2 s
  have i0 : atI [dq x, dq y] 0 = some (dq x) := rfl
  have i1 : atI [dq x, dq y] 1 = some (dq y) := rfl
  have j0 : atI [dq u, dq v] 0 = some (dq u) := rfl
  have j1 : atI [dq u, dq v] 1 = some (dq v) := rfl
  simp only at l1 l2
  show _ = R.ok (dq (x * v - y * u)) s
  generalize x * v = p at *
  generalize y * u = q at *
  generalize p - q = r at *
  cases k <;> cases j <;> simp [m_cross_of, mDef, b_cross_of, frm, startE, mRet, mCall, mCons, mNil, mOp, mVar, mC, fIx, i0, i1, j0, j1, l1, l2, l3]
@[simp] theorem isi2_lt (d : Dt) : fIsi2 "list" "tuple" d = (match d with | .lst _ => some true | .tup _ => some true | .obj _ _ => none | .hnd => none | _ => some false) := by
  have k1 := isi_list
  have k2 := isi_tuple
  unfold fIsi at k1 k2
  cases d with
  | obj _ _ => rfl
  | hnd => rfl
  | non => have a := k1 .non; have b := k2 .non; simp [tyN] at a b; simp [fIsi2, tyN, a, b]
  | bl x => have a := k1 (.bl x); have b := k2 (.bl x); simp [tyN] at a b; simp [fIsi2, tyN, a, b]
  | int x => have a := k1 (.int x); have b := k2 (.int x); simp [tyN] at a b; simp [fIsi2, tyN, a, b]
  | str x => have a := k1 (.str x); have b := k2 (.str x); simp [tyN] at a b; simp [fIsi2, tyN, a, b]
  | tup x => have a := k1 (.tup x); have b := k2 (.tup x); simp [tyN] at a b; simp [fIsi2, tyN, a, b]
  | lst x => have a := k1 (.lst x); have b := k2 (.lst x); simp [tyN] at a b; simp [fIsi2, tyN, a, b]
theorem check_ok {n : Nat} (hn : n ≤ 1400) {d : Rat × Rat} (a : BdD n d) (u : Unit1 d) (k : Bool) (s : Hd) : m_check_direction [frm k d] s = .ok (dr d) s := by
  have l := dot_ok hn a a k k s
  rw [show d.1 * d.1 + d.2 * d.2 = 1 from u] at l
  obtain ⟨x, y⟩ := d
  have i0 : atI [dq x, dq y] 0 = some (dq x) := rfl
  have i1 : atI [dq x, dq y] 1 = some (dq y) := rfl
  have r0 := isr_q (p := x) s
  have r1 := isr_q (p := y) s
  have e1 : fEqB (dq 1) (rat 1 1) = some true := by
    have := eq_q (p := 1) (q := 1)
    rw [decide_eq_true rfl] at this
    exact this
  have row : m_is_row [frm k (x, y), .int 2, .int 2] s = .ok (.bl true) s := by
    cases k <;> simp [m_is_row, mDef, b_is_row, frm, startE, mSeq, mIfS, mNot, mTru, mIsi2, mVar, fTru, mNext, mRet, mAndV, mOrV, mOp, mCB, mCons, mNil, fLen, fGe, fLe, fI, fIs, mC]
  have spot : m_is_spot [frm k (x, y)] s = .ok (.bl true) s := by
    cases k <;> simp [frm] at row <;> simp [m_is_spot, mDef, b_is_spot, frm, startE, mRet, mAndV, mCall, mCons, mNil, mVar, mC, row, fTru, mOp, fIx, i0, i1, r0, r1]
  have dir : m_is_direction [frm k (x, y)] s = .ok (.bl true) s := by
    simp [m_is_direction, mDef, b_is_direction, startE, mRet, mAndV, mCall, mCons, mNil, mVar, mC, spot, fTru, mOp, l, fEq, e1]
  cases k <;> simp [frm] at dir <;> simp [m_check_direction, mDef, b_check_direction, frm, dr, startE, mSeq, mIfS, mNot, mTru, mCall, mCons, mNil, mVar, dir, fTru, mNext, mRet, mCB, fTupC]
end Law


set_option Elab.async false
set_option linter.all false
set_option maxRecDepth 100000
namespace Law
open PySem PySem.Spec PyProof.Rows L2 Mir
theorem round_dir (o : Option Rat) : roundOf o = ((dirOf o).2, -(dirOf o).1) := by
  cases o with
  | none =>
    show ((-1 : Rat), (0 : Rat)) = (-1, -0)
    congr 1
  | some h =>
    have := den_ne h
    unfold roundOf dirOf
    simp only
    congr 1
    grind
theorem dr_frm (d : Rat × Rat) : dr d = frm false d := rfl
theorem mirrored_ok {n : Nat} (hn : n ≤ 1400) {d : Rat × Rat} (a : BdD n d) (u : Unit1 d) (k : Bool) (s : Hd) : m_mirrored_direction [frm k d] s = .ok (dr (-d.1, d.2)) s := by
  have l := check_ok hn a u k s
  obtain ⟨x, y⟩ := d
  have r := neg_q (p := x) s
  have l : m_check_direction [frm k (x, y)] s = .ok (.tup [dq x, dq y]) s := l
  show _ = R.ok (Dt.tup [dq (-x), dq y]) s
  generalize -x = z at *
  simp [m_mirrored_direction, mDef, b_mirrored_direction, startE, mSeq, mAsg, gmSeq, gmCons, gmNil, gmName, mCall, mCons, mNil, mVar, l, mRet, mTup, r]
theorem opposite_ok {n : Nat} (hn : n ≤ 1400) {d : Rat × Rat} (a : BdD n d) (u : Unit1 d) (k : Bool) (s : Hd) : m_opposite_of [frm k d] s = .ok (dr (-d.1, -d.2)) s := by
  have l := check_ok hn a u k s
  obtain ⟨x, y⟩ := d
  have r := neg_q (p := x) s
  have r2 := neg_q (p := y) s
  have l : m_check_direction [frm k (x, y)] s = .ok (.tup [dq x, dq y]) s := l
  show _ = R.ok (Dt.tup [dq (-x), dq (-y)]) s
  generalize -x = z at *
  generalize -y = z2 at *
  simp [m_opposite_of, mDef, b_opposite_of, startE, mSeq, mAsg, gmSeq, gmCons, gmNil, gmName, mCall, mCons, mNil, mVar, l, mRet, mTup, r, r2]
theorem turned_by_ok {m n : Nat} (hm : m ≤ 600) (hn : n ≤ 200) {d : Rat × Rat} (a : BdD m d) (u : Unit1 d) {o : Option Rat} (b : BdO n o) (k : Bool) (s : Hd) : m_turned_by [frm k d, hd o] s = .ok (dr (turnedOf d o)) s := by
  have c := check_ok (by omega) a u k s
  have l1 := direction_by_ok (by omega) b s
  have db := dir_bd b
  have l2 := mirrored_ok (by omega) db (dir_unit o) false s
  rw [← dr_frm] at l2
  have a' : BdD 1400 d := ⟨a.1.mono (by omega), a.2.mono (by omega)⟩
  have e' : BdD 1400 (-(dirOf o).1, (dirOf o).2) := ⟨(db.1.neg).mono (by omega), db.2.mono (by omega)⟩
  have l3 := cross_ok (by omega) a' e' false false s
  have l4 := dot_ok (by omega) a' e' false false s
  unfold turnedOf
  rw [round_dir]
  generalize dirOf o = D at *
  obtain ⟨p, q⟩ := D
  obtain ⟨x, y⟩ := d
  simp only at l3 l4 ⊢
  have l2 : m_mirrored_direction [dr (p, q)] s = .ok (.tup [dq (-p), dq q]) s := l2
  have l3 : m_cross_of [dr (x, y), .tup [dq (-p), dq q]] s = .ok (dq (x * q - y * -p)) s := l3
  have l4 : m_dot_of [dr (x, y), .tup [dq (-p), dq q]] s = .ok (dq (x * -p + y * q)) s := l4
  show _ = R.ok (Dt.tup [dq (x * q - y * -p), dq (x * -p + y * q)]) s
  generalize x * q - y * -p = z1 at *
  generalize x * -p + y * q = z2 at *
  generalize -p = mp at *
  generalize dr (x, y) = A at *
  generalize frm k (x, y) = F at *
  generalize dr (p, q) = B at *
  generalize hd o = O at *
  have t1 : m_turned_as [A, B] s = .ok (.tup [dq z1, dq z2]) s := by
    simp [m_turned_as, mDef, b_turned_as, startE, mSeq, mSet, mAsg, gmSeq, gmCons, gmNil, gmName, mCall, mCons, mNil, mVar, l2, l3, l4, mRet, mTup]
  simp [m_turned_by, mDef, b_turned_by, startE, mSeq, mSet, mAsg, gmSeq, gmCons, gmNil, gmName, mCall, mCons, mNil, mVar, c, l1, t1, mRet, mTup]
theorem py_dr (d : Rat × Rat) : pyOk (.tup [dq d.1, dq d.2]) = some (.tuple [.tuple [.int d.1.num, .int (d.1.den : Int)], .tuple [.int d.2.num, .int (d.2.den : Int)]]) := by
  have e : SeqAt.shaped (.tuple [.tuple [.int d.1.num, .int (d.1.den : Int)], .tuple [.int d.2.num, .int (d.2.den : Int)]]) = true := rfl
  simp [pyOk, toPy, toPyA, e]
theorem eq_dr (d e : Rat × Rat) : fEqB (.tup [dq d.1, dq d.2]) (.tup [dq e.1, dq e.2]) = some (decide (d.1 = e.1) && decide (d.2 = e.2)) := by
  rw [← dq_beq, ← dq_beq]
  simp [fEqB, py_dr, PyData.eqv, PyData.eqvAll]
theorem half_of_ok {n : Nat} (hn : n ≤ 1000) {d : Rat × Rat} (a : BdD n d) (u : Unit1 d) (k : Bool) (s : Hd) : m_half_of [frm k d] s = .ok (hd (halfBack d)) s := by
  have l := check_ok (by omega) a u k s
  have q := eq_dr d (0, -1)
  obtain ⟨x, y⟩ := d
  have l : m_check_direction [frm k (x, y)] s = .ok (.tup [dq x, dq y]) s := l
  have q : fEqB (.tup [dq x, dq y]) (.tup [rat 0 1, rat (-1) 1]) = some (decide (x = 0) && decide (y = -1)) := q
  unfold Unit1 at u
  simp only at u
  unfold halfBack
  simp only
  generalize frm k (x, y) = F at *
  by_cases c : y = -1
  · have x0 : x = 0 := by
      have : x * x = 0 := by grind
      grind
    rw [decide_eq_true c, decide_eq_true x0, Bool.and_self] at q
    rw [if_pos c]
    simp [m_half_of, mDef, b_half_of, startE, mSeq, mAsg, gmSeq, gmCons, gmNil, gmName, mCall, mCons, mNil, mVar, l, mIfS, mTest, mOp, mTup, mC, fEq, q, mRet, hd]
  · rw [decide_eq_false c, Bool.and_false] at q
    rw [if_neg c]
    have c2 : 1 + y ≠ 0 := by grind
    have r := neg_q (p := x) s
    have l2 : m_plus [rat 1 1, dq y] s = _ := plus_q (n := n + 1) (p := 1) (by omega) (bd1.mono (by omega)) (a.2.mono (by omega)) s
    have n1 : Bd (n + 2) (-x) := a.1.neg.mono (by omega)
    have n2 : Bd (n + 2) (1 + y) := (bd1.add a.2).mono (by omega)
    have l3 := over_q (by omega) n1 n2 c2 s
    have e : -1 * x / (1 + y) = -x / (1 + y) := by grind
    rw [e]
    show _ = R.ok (dq (-x / (1 + y))) s
    generalize -x = v at *
    generalize 1 + y = w at *
    generalize v / w = z at *
    simp [m_half_of, mDef, b_half_of, startE, mSeq, mAsg, gmSeq, gmCons, gmNil, gmName, mCall, mCons, mNil, mVar, l, mIfS, mTest, mOp, mTup, mC, fEq, q, mRet, mNext, r, l2, l3]
theorem form_ok (s : Hd) (d : Rat × Rat) : m__law_form [.hnd, dr d] s = .ok (frm (decide (takeV s 2 = 0)) d) (takeS s 2) := by
  have mo2 : manyOk 2 := by decide +kernel
  by_cases c : takeV s 2 = 0
  · have e : fEqB (.int (takeV s 2)) (.int 0) = some true := by rw [eq_int, c]; rfl
    rw [decide_eq_true c]
    simp [m__law_form, mDef, b__law_form, startE, mRet, mIf, mTest, mOp, mCall, mCons, mNil, mVar, mC, take_ok _ mo2, fEq, e, mCB, fListC, dr, frm]
  · have e : fEqB (.int (takeV s 2)) (.int 0) = some false := by rw [eq_int]; simp [c]
    rw [decide_eq_false c]
    simp [m__law_form, mDef, b__law_form, startE, mRet, mIf, mTest, mOp, mCall, mCons, mNil, mVar, mC, take_ok _ mo2, fEq, e, mCB, fTupC, dr, frm]
theorem same_half_ok (o : Option Rat) (s : Hd) : m__law_same_half [hd o, hd o] s = .ok (.bl true) s := by
  cases o with
  | none => rfl
  | some h =>
    have l := same_q (p := h) s
    simp [m__law_same_half, mDef, b__law_same_half, startE, hd, mSeq, mIfS, mTest, mOp, mVar, mC, fIs, mNext, mRet, mAndV, fIsNot, fTru, mCall, mCons, mNil, l]
theorem same_row_ok (d : Rat × Rat) (s : Hd) : m__law_same_row [dr d, dr d] s = .ok (.bl true) s := by
  obtain ⟨x, y⟩ := d
  have l1 := same_q (p := x) s
  have l2 := same_q (p := y) s
  have i0 : atI [dq x, dq y] 0 = some (dq x) := rfl
  have i1 : atI [dq x, dq y] 1 = some (dq y) := rfl
  have e1 : fEqB (.int 2) (.int 2) = some true := by rw [eq_int]; rfl
  have e2 : fEqB (.lst []) (.lst []) = some true := rfl
  have rg : rangeD 0 2 = [.int 0, .int 1] := rfl
  have rk : rngOk 2 := by decide
  simp [m__law_same_row, mDef, b__law_same_row, dr, startE, mSeq, mIfS, mOr, mNot, mTru, mIsi, mVar, fTru, mTest, mOp, mCB, mCons, mNil, fLen, fNe, e1, mNext, mRet, mLc, mRng1, rk, rg, loopC, gmName, wipeE, noErr, mCall, fIx, i0, i1, l1, l2, mLst, fEq, e2]
end Law


set_option Elab.async false
set_option linter.all false
set_option maxRecDepth 100000
namespace Law
open PySem PySem.Spec PyProof.Rows L2 Mir
def addH : Option Rat → Option Rat → Option Rat
  | none, none => some 0
  | none, some h => if h = 0 then none else some (-1 / h)
  | some h, none => if h = 0 then none else some (-1 / h)
  | some a, some b => if 1 - a * b = 0 then none else some ((a + b) / (1 - a * b))
theorem addH_comm (a b : Option Rat) : addH a b = addH b a := by
  cases a with
  | none => cases b <;> rfl
  | some a =>
    cases b with
    | none => rfl
    | some b =>
      show (if 1 - a * b = 0 then none else some ((a + b) / (1 - a * b))) = (if 1 - b * a = 0 then none else some ((b + a) / (1 - b * a)))
      rw [Rat.mul_comm a b, Rat.add_comm a b]
theorem back_of {d : Rat × Rat} {x y : Rat} (e1 : d.1 = x) (e2 : d.2 = y) : halfBack d = if y = -1 then none else some (-1 * x / (1 + y)) := by
  unfold halfBack
  rw [e1, e2]
theorem add_eq (a b : Option Rat) : addH a b = halfBack (turnedOf (dirOf a) b) := by
  match a, b with
  | none, none =>
    have e1 : (turnedOf (dirOf none) none).1 = 0 := by
      show (0 : Rat) * -1 - -1 * 0 = 0
      grind
    have e2 : (turnedOf (dirOf none) none).2 = 1 := by
      show (0 : Rat) * 0 + -1 * -1 = 1
      grind
    rw [back_of e1 e2, if_neg (by decide)]
    show some (0 : Rat) = some (-1 * 0 / (1 + 1))
    congr 1
    grind
  | none, some h =>
    have n := den_ne h
    have e1 : (turnedOf (dirOf none) (some h)).1 = 2 * h / (1 + h * h) := by
      show (0 : Rat) * ((1 - h * h) / (1 + h * h)) - -1 * (2 * h / (1 + h * h)) = _
      grind
    have e2 : (turnedOf (dirOf none) (some h)).2 = -((1 - h * h) / (1 + h * h)) := by
      show (0 : Rat) * (2 * h / (1 + h * h)) + -1 * ((1 - h * h) / (1 + h * h)) = _
      grind
    rw [back_of e1 e2]
    show (if h = 0 then none else some (-1 / h)) = _
    by_cases c : h = 0
    · rw [if_pos c, if_pos (by rw [c]; grind)]
    · have c1 : ¬ -((1 - h * h) / (1 + h * h)) = -1 := by
        intro z
        have z2 : (1 - h * h) / (1 + h * h) = 1 := by grind
        have z3 : 1 - h * h = 1 + h * h := by grind
        have z4 : h * h = 0 := by grind
        grind
      have c2 : 1 + -((1 - h * h) / (1 + h * h)) ≠ 0 := by
        intro z
        apply c1
        grind
      rw [if_neg c, if_neg c1]
      congr 1
      grind
  | some h, none =>
    have n := den_ne h
    have e1 : (turnedOf (dirOf (some h)) none).1 = 2 * h / (1 + h * h) := by
      show (-2 * h / (1 + h * h)) * (-1 : Rat) - ((1 - h * h) / (1 + h * h)) * 0 = _
      grind
    have e2 : (turnedOf (dirOf (some h)) none).2 = -((1 - h * h) / (1 + h * h)) := by
      show (-2 * h / (1 + h * h)) * (0 : Rat) + ((1 - h * h) / (1 + h * h)) * -1 = _
      grind
    rw [back_of e1 e2]
    show (if h = 0 then none else some (-1 / h)) = _
    by_cases c : h = 0
    · rw [if_pos c, if_pos (by rw [c]; grind)]
    · have c1 : ¬ -((1 - h * h) / (1 + h * h)) = -1 := by
        intro z
        have z2 : (1 - h * h) / (1 + h * h) = 1 := by grind
        have z3 : 1 - h * h = 1 + h * h := by grind
        have z4 : h * h = 0 := by grind
        grind
      have c2 : 1 + -((1 - h * h) / (1 + h * h)) ≠ 0 := by
        intro z
        apply c1
        grind
      rw [if_neg c, if_neg c1]
      congr 1
      grind
  | some h, some g =>
    have n := den_ne h
    have m := den_ne g
    have nm : (1 + h * h) * (1 + g * g) ≠ 0 := fun z => by
      rcases Rat.mul_eq_zero.mp z with y | y
      · exact n y
      · exact m y
    have e1 : (turnedOf (dirOf (some h)) (some g)).1 = -2 * (h + g) * (1 - h * g) / ((1 + h * h) * (1 + g * g)) := by
      show (-2 * h / (1 + h * h)) * ((1 - g * g) / (1 + g * g)) - ((1 - h * h) / (1 + h * h)) * (2 * g / (1 + g * g)) = _
      grind
    have e2 : (turnedOf (dirOf (some h)) (some g)).2 = 2 * (1 - h * g) * (1 - h * g) / ((1 + h * h) * (1 + g * g)) - 1 := by
      show (-2 * h / (1 + h * h)) * (2 * g / (1 + g * g)) + ((1 - h * h) / (1 + h * h)) * ((1 - g * g) / (1 + g * g)) = _
      grind
    rw [back_of e1 e2]
    show (if 1 - h * g = 0 then none else some ((h + g) / (1 - h * g))) = _
    by_cases c : 1 - h * g = 0
    · rw [if_pos c, if_pos (by rw [c]; grind)]
    · generalize hw : (1 + h * h) * (1 + g * g) = w at *
      generalize hu : 1 - h * g = u at *
      generalize hv : h + g = v at *
      have c1 : ¬ 2 * u * u / w - 1 = -1 := by
        intro z
        have z2 : 2 * u * u / w = 0 := by grind
        have z3 : 2 * u * u = 0 := by grind
        grind
      rw [if_neg c, if_neg c1]
      congr 1
      have c2 : 1 + (2 * u * u / w - 1) ≠ 0 := by
        intro z
        apply c1
        grind
      grind
end Law


set_option Elab.async false
set_option linter.all false
set_option maxRecDepth 100000
namespace Law
open PySem PySem.Spec PyProof.Rows L2 Mir
theorem add_end_ok {n : Nat} (hn : n ≤ 1000) {h : Rat} (b : Bd n h) (s : Hd) : m__add_end [dq h] s = .ok (hd (if h = 0 then none else some (-1 / h))) s := by
  have e1 : fEqB (dq h) (rat 0 1) = some (decide (h = 0)) := eq_q (q := 0)
  by_cases c : h = 0
  · rw [decide_eq_true c] at e1
    rw [if_pos c]
    simp [m__add_end, mDef, b__add_end, startE, mRet, mIf, mTest, mOp, mVar, mC, fEq, e1, hd]
  · rw [decide_eq_false c] at e1
    rw [if_neg c]
    have l : m_over [rat (-1) 1, dq h] s = _ := over_q (n := n + 1) (p := -1) (by omega) (bdm1.mono (by omega)) (b.mono (by omega)) c s
    show _ = R.ok (dq (-1 / h)) s
    generalize -1 / h = z at *
    simp [m__add_end, mDef, b__add_end, startE, mRet, mIf, mTest, mOp, mVar, mC, fEq, e1, mCall, mCons, mNil, mTup, mUn, fNeg, l]
theorem add_halves_ok {n : Nat} (hn : n ≤ 200) {a b : Option Rat} (ha : BdO n a) (hb : BdO n b) (s : Hd) : m_add_halves [hd a, hd b] s = .ok (hd (addH a b)) s := by
  have c1 := check_half_ok a s
  have c2 := check_half_ok b s
  match a, b, ha, hb with
  | none, none, _, _ =>
    have c1 : m_check_half [.non] s = .ok .non s := c1
    show m_add_halves [.non, .non] s = .ok (rat 0 1) s
    simp [m_add_halves, mDef, b_add_halves, startE, mSeq, mDrop, mCall, mCons, mNil, mVar, c1, mIfS, mAnd, mTest, mOp, mC, fIs, mRet]
  | none, some h, _, hb =>
    have l := add_end_ok (by omega) hb.some s
    have c1 : m_check_half [.non] s = .ok .non s := c1
    have c2 : m_check_half [dq h] s = .ok .non s := c2
    show m_add_halves [.non, dq h] s = .ok (hd (if h = 0 then none else some (-1 / h))) s
    generalize hd (if h = 0 then none else some (-1 / h)) = z at *
    simp [m_add_halves, mDef, b_add_halves, startE, mSeq, mDrop, mCall, mCons, mNil, mVar, c1, c2, mIfS, mAnd, mOr, mTest, mOp, mC, fIs, mRet, mNext, mIf, l]
  | some h, none, ha, _ =>
    have l := add_end_ok (by omega) ha.some s
    have c1 : m_check_half [dq h] s = .ok .non s := c1
    have c2 : m_check_half [.non] s = .ok .non s := c2
    show m_add_halves [dq h, .non] s = .ok (hd (if h = 0 then none else some (-1 / h))) s
    generalize hd (if h = 0 then none else some (-1 / h)) = z at *
    simp [m_add_halves, mDef, b_add_halves, startE, mSeq, mDrop, mCall, mCons, mNil, mVar, c1, c2, mIfS, mAnd, mOr, mTest, mOp, mC, fIs, mRet, mNext, mIf, l]
  | some h, some g, ha, hb =>
    have ha := ha.some
    have hb := hb.some
    have c1 : m_check_half [dq h] s = .ok .non s := c1
    have c2 : m_check_half [dq g] s = .ok .non s := c2
    have l1 := times_q (by omega) ha hb s
    have n1 : Bd (2 * n + 2) (h * g) := (ha.mul hb).mono (by omega)
    have l2 : m_minus [rat 1 1, dq (h * g)] s = _ := minus_q (p := 1) (by omega) (bd1.mono (by omega)) n1 s
    have l3 := plus_q (by omega) ha hb s
    have n2 : Bd (2 * n + 4) (1 - h * g) := (bd1.sub (ha.mul hb)).mono (by omega)
    have n3 : Bd (2 * n + 4) (h + g) := (ha.add hb).mono (by omega)
    have e1 : fEqB (dq (1 - h * g)) (rat 0 1) = some (decide (1 - h * g = 0)) := eq_q (q := 0)
    by_cases c : 1 - h * g = 0
    · show _ = R.ok (hd (if 1 - h * g = 0 then none else some ((h + g) / (1 - h * g)))) s
      rw [if_pos c]
      rw [decide_eq_true c] at e1
      show m_add_halves [dq h, dq g] s = _
      generalize h * g = u at *
      generalize 1 - u = v at *
      simp [m_add_halves, mDef, b_add_halves, startE, mSeq, mDrop, mCall, mCons, mNil, mVar, c1, c2, mIfS, mAnd, mOr, mTest, mOp, mC, fIs, mRet, mNext, mIf, mSet, l1, l2, fEq, e1, hd]
    · show _ = R.ok (hd (if 1 - h * g = 0 then none else some ((h + g) / (1 - h * g)))) s
      rw [if_neg c]
      rw [decide_eq_false c] at e1
      have l4 := over_q (by omega) n3 n2 c s
      show m_add_halves [dq h, dq g] s = .ok (dq ((h + g) / (1 - h * g))) s
      generalize h * g = u at *
      generalize h + g = w at *
      generalize 1 - u = v at *
      generalize w / v = z at *
      simp [m_add_halves, mDef, b_add_halves, startE, mSeq, mDrop, mCall, mCons, mNil, mVar, c1, c2, mIfS, mAnd, mOr, mTest, mOp, mC, fIs, mRet, mNext, mIf, mSet, l1, l2, l3, l4, fEq, e1]
end Law


set_option Elab.async false
set_option linter.all false
set_option maxRecDepth 100000
namespace Law
open PySem PySem.Spec PyProof.Rows L2 Mir
theorem cosine_ok {m n : Nat} (hm : m ≤ 1400) {d e : Rat × Rat} (a : BdD m d) (u : Unit1 d) (b : BdD m e) (v : Unit1 e) (k j : Bool) (s : Hd) : m_cosine_between [frm k d, frm j e] s = .ok (dq (d.1 * e.1 + d.2 * e.2)) s := by
  have l1 := check_ok hm a u k s
  have l2 := check_ok hm b v j s
  have l3 : m_dot_of [dr d, dr e] s = _ := dot_ok hm a b false false s
  generalize d.1 * e.1 + d.2 * e.2 = z at *
  generalize frm k d = F at *
  generalize frm j e = G at *
  generalize dr d = D at *
  generalize dr e = E at *
  simp [m_cosine_between, mDef, b_cosine_between, startE, mRet, mCall, mCons, mNil, mVar, l1, l2, l3]
theorem sine_ok {m n : Nat} (hm : m ≤ 1400) {d e : Rat × Rat} (a : BdD m d) (u : Unit1 d) (b : BdD m e) (v : Unit1 e) (k j : Bool) (s : Hd) : m_sine_between [frm k d, frm j e] s = .ok (dq (d.1 * e.2 - d.2 * e.1)) s := by
  have l1 := check_ok hm a u k s
  have l2 := check_ok hm b v j s
  have l3 : m_cross_of [dr d, dr e] s = _ := cross_ok hm a b false false s
  generalize d.1 * e.2 - d.2 * e.1 = z at *
  generalize frm k d = F at *
  generalize frm j e = G at *
  generalize dr d = D at *
  generalize dr e = E at *
  simp [m_sine_between, mDef, b_sine_between, startE, mRet, mCall, mCons, mNil, mVar, l1, l2, l3]
theorem turn_cos (d : Rat × Rat) (o : Option Rat) (u : Unit1 d) : d.1 * (turnedOf d o).1 + d.2 * (turnedOf d o).2 = (roundOf o).1 ∧ d.1 * (turnedOf d o).2 - d.2 * (turnedOf d o).1 = (roundOf o).2 := by
  unfold Unit1 at u
  unfold turnedOf
  simp only
  generalize (roundOf o).1 = c at *
  generalize (roundOf o).2 = t at *
  constructor <;> grind
theorem added_ok {a b : Option Rat} (ha : BdO 20 a) (hb : BdO 20 b) (s : Hd) : ∃ s' : Hd, m__law_added [.hnd, hd a, hd b] s = .ok (.bl true) s' := by
  have f1 := fun s => direction_ok (by omega) ha s
  have f2 := fun s => direction_by_ok (by omega) ha s
  have uF := dir_unit a
  have bF : BdD 88 (dirOf a) := dir_bd ha
  have kF := back_dir a
  have add := add_eq a b
  have comm := addH_comm b a
  have x1 := fun s => add_halves_ok (by omega) ha hb s
  have x2 := fun s => add_halves_ok (by omega) hb ha s
  rw [comm] at x2
  rw [add] at x1 x2
  clear add comm
  generalize dirOf a = F at *
  have uT := turn_unit F b uF
  have bT : BdD 356 (turnedOf F b) := turn_bd bF hb
  have bH : BdO 716 (halfBack (turnedOf F b)) := back_bd bT
  have f3 := fun s => turned_ok (by omega) (by omega) bF hb s
  have f4 := fun k s => half_of_ok (by omega) bF uF k s
  rw [kF] at f4
  have f5 := fun k s => turned_by_ok (by omega) (by omega) bF uF hb k s
  have f6 := fun s => half_back_ok (by omega) bT s
  have f7 := fun s => direction_by_ok (by omega) bH s
  rw [dir_back _ uT] at f7
  have f8 := fun s => round_ok (by omega) hb s
  have bF' : BdD 400 F := ⟨bF.1.mono (by omega), bF.2.mono (by omega)⟩
  have bT' : BdD 400 (turnedOf F b) := ⟨bT.1.mono (by omega), bT.2.mono (by omega)⟩
  have f9 : ∀ s, m_cosine_between [dr F, dr (turnedOf F b)] s = _ := fun s => cosine_ok (n := 0) (by omega) bF' uF bT' uT false false s
  have f10 : ∀ k s, m_sine_between [dr F, frm k (turnedOf F b)] s = _ := fun k s => sine_ok (n := 0) (by omega) bF' uF bT' uT false k s
  obtain ⟨c1, c2⟩ := turn_cos F b uF
  rw [c1] at f9
  rw [c2] at f10
  generalize turnedOf F b = T at *
  generalize roundOf b = cs at *
  obtain ⟨c, t⟩ := cs
  have f8 : ∀ s, m__law_round [hd b] s = .ok (.tup [dq c, dq t]) s := f8
  have f9 : ∀ s, m_cosine_between [dr F, dr T] s = .ok (dq c) s := f9
  have f10 : ∀ k s, m_sine_between [dr F, frm k T] s = .ok (dq t) s := f10
  have g1 := fun s => form_ok s F
  have g2 := fun s => form_ok s T
  have h1 := fun s => same_row_ok F s
  have h2 := fun s => same_row_ok T s
  have h3 := fun s => same_half_ok a s
  have h4 := fun s => same_half_ok (halfBack T) s
  have h5 := fun s => same_q (p := c) s
  have h6 := fun s => same_q (p := t) s
  generalize hd (halfBack T) = W at *
  generalize dr T = DT at *
  generalize dr F = DF at *
  generalize hd a = A at *
  generalize hd b = B at *
  refine ⟨takeS (takeS (takeS s 2) 2) 2, ?_⟩
  simp [m__law_added, mDef, b__law_added, startE, mSeq, mSet, mCall, mCons, mNil, mVar, f1, f2, f3, f4, f5, f6, f7, f8, f9, f10, g1, g2, h1, h2, h3, h4, h5, h6, x1, x2, mIfS, mOr, mNot, mTru, fTru, mNext, mAsg, gmSeq, gmCons, gmNil, gmName, mRet]
end Law


set_option Elab.async false
set_option linter.all false
set_option maxRecDepth 100000
namespace Law
open PySem PySem.Spec PyProof.Rows L2 Mir
def rot (d : Rat × Rat) : Rat × Rat := (-d.2, d.1)
def rotN : Nat → Rat × Rat → Rat × Rat
  | 0, d => d
  | n + 1, d => rotN n (rot d)
theorem rot_bd {n : Nat} {d : Rat × Rat} (a : BdD n d) : BdD n (rot d) := ⟨a.2.neg, a.1⟩
theorem tq_loop (A V : Dt) : ∀ (ds : List Dt) (d : Rat × Rat) (z : Sl) (s : Hd), ∃ z' : Sl, loopF (gmName 4) (mPar 2 3 (mCons (mCall 1 [] m_negative (mCons (mVar 3) mNil)) (mCons (mVar 2) mNil))) ds [.dat A, .dat V, .dat (dq d.1), .dat (dq d.2), z] s = .ok (.nx [.dat A, .dat V, .dat (dq (rotN ds.length d).1), .dat (dq (rotN ds.length d).2), z']) s
  | [], d, z, s => ⟨z, rfl⟩
  | x :: ds, d, z, s => by
    obtain ⟨z', e⟩ := tq_loop A V ds (rot d) (.dat x) s
    refine ⟨z', ?_⟩
    have l := neg_q (p := d.2) s
    obtain ⟨u, v⟩ := d
    have e : loopF (gmName 4) (mPar 2 3 (mCons (mCall 1 [] m_negative (mCons (mVar 3) mNil)) (mCons (mVar 2) mNil))) ds [.dat A, .dat V, .dat (dq (-v)), .dat (dq u), .dat x] s = .ok (.nx [.dat A, .dat V, .dat (dq (rotN (x :: ds).length (u, v)).1), .dat (dq (rotN (x :: ds).length (u, v)).2), z']) s := e
    generalize rotN (x :: ds).length (u, v) = w at *
    simp only at l
    unfold loopF
    generalize -v = nv at *
    simp [gmName, mPar, mCons, mNil, mCall, mVar, l]
    exact e
def k4 (v : Int) : Nat := (v.fmod 4).toNat
theorem k4_lt (v : Int) : 0 ≤ v.fmod 4 ∧ v.fmod 4 < 4 := ⟨Int.fmod_nonneg_of_pos v (by decide), Int.fmod_lt_of_pos v (by decide)⟩
theorem dv4 : DivOk 4 := DivOk.of (n := 3) (by decide) (by unfold Sz; decide) (by decide)
theorem rng4 (v : Int) : rngOk (v.fmod 4) := by
  have := k4_lt v
  unfold rngOk
  omega
theorem rd_len (n : Nat) : (rangeD 0 n).length = n := by
  unfold rangeD
  rw [List.length_map, List.length_range]
theorem turned_quarters_ok {n : Nat} (hn : n ≤ 1400) {d : Rat × Rat} (a : BdD n d) (u : Unit1 d) (k : Bool) (v : Int) (s : Hd) : m_turned_quarters [frm k d, .int v] s = .ok (dr (rotN (k4 v) d)) s := by
  have l := check_ok hn a u k s
  obtain ⟨z', e⟩ := tq_loop (frm k d) (.int v) (rangeD 0 (v.fmod 4).toNat) d .no s
  rw [rd_len] at e
  obtain ⟨x, y⟩ := d
  have l : m_check_direction [frm k (x, y)] s = .ok (.tup [dq x, dq y]) s := l
  have w := is_whole_int v s
  show _ = R.ok (Dt.tup [dq (rotN (v.fmod 4).toNat (x, y)).1, dq (rotN (v.fmod 4).toNat (x, y)).2]) s
  generalize rotN (v.fmod 4).toNat (x, y) = r at *
  generalize frm k (x, y) = F at *
  simp [m_turned_quarters, mDef, b_turned_quarters, startE, mSeq, mAsg, gmSeq, gmCons, gmNil, gmName, mCall, mCons, mNil, mVar, l, mIfS, mNot, mTru, w, fTru, mNext, mFor, mRng1, mOp, mC, fMod, fI, rng4 v, mRet, mTup]
  simp only [gmName] at e
  simp [e]
theorem lq_loop {n : Nat} (hn : n ≤ 1400) (H A V R : Dt) : ∀ (ds : List Dt) (d : Rat × Rat) (z : Sl) (s : Hd), BdD n d → ∃ z' : Sl, loopF (gmName 5) (mSet 4 (mTup (mCons (mCall 2 [] m__law_times (mCons (mTup (mCons (mUn fNeg (mC (.int 1))) (mCons (mC (.int 1)) mNil))) (mCons (mOp fIx (mVar 4) (mC (.int 1))) mNil))) (mCons (mOp fIx (mVar 4) (mC (.int 0))) mNil)))) ds [.dat H, .dat A, .dat V, .dat R, .dat (dr d), z, .no, .no] s = .ok (.nx [.dat H, .dat A, .dat V, .dat R, .dat (dr (rotN ds.length d)), z', .no, .no]) s
  | [], d, z, s, _ => ⟨z, rfl⟩
  | x :: ds, d, z, s, b => by
    obtain ⟨z', e⟩ := lq_loop hn H A V R ds (rot d) (.dat x) s (rot_bd b)
    refine ⟨z', ?_⟩
    have l : m__law_times [rat (-1) 1, dq d.2] s = _ := ltimes_q (n := n + 1) (p := -1) (by omega) (bdm1.mono (by omega)) (b.2.mono (by omega)) s
    have ng : -1 * d.2 = -d.2 := by grind
    rw [ng] at l
    obtain ⟨u, v⟩ := d
    have i0 : atI [dq u, dq v] 0 = some (dq u) := rfl
    have i1 : atI [dq u, dq v] 1 = some (dq v) := rfl
    have e' : loopF (gmName 5) (mSet 4 (mTup (mCons (mCall 2 [] m__law_times (mCons (mTup (mCons (mUn fNeg (mC (.int 1))) (mCons (mC (.int 1)) mNil))) (mCons (mOp fIx (mVar 4) (mC (.int 1))) mNil))) (mCons (mOp fIx (mVar 4) (mC (.int 0))) mNil)))) ds [.dat H, .dat A, .dat V, .dat R, .dat (.tup [dq (-v), dq u]), .dat x, .no, .no] s = .ok (.nx [.dat H, .dat A, .dat V, .dat R, .dat (dr (rotN (x :: ds).length (u, v))), z', .no, .no]) s := e
    generalize dr (rotN (x :: ds).length (u, v)) = w at *
    simp only at l
    show loopF _ _ (x :: ds) [.dat H, .dat A, .dat V, .dat R, .dat (.tup [dq u, dq v]), z, .no, .no] s = _
    unfold loopF
    generalize -v = nv at *
    simp [gmName, mSet, mTup, mCons, mNil, mCall, mVar, mUn, mC, fNeg, mOp, fIx, i0, i1, l]
    exact e'
theorem up_unit : Unit1 ((0 : Rat), (1 : Rat)) := by
  show (0 : Rat) * 0 + 1 * 1 = 1
  grind
theorem quarter_ok (v : Int) (s : Hd) : m_quarter_direction [.int v] s = .ok (dr (rotN (k4 v) (0, 1))) s := by
  have l : m_turned_quarters [.tup [rat 0 1, rat 1 1], .int v] s = _ := turned_quarters_ok (n := 1) (d := (0, 1)) (by omega) ⟨bd0, bd1⟩ up_unit false v s
  generalize dr (rotN (k4 v) (0, 1)) = w at *
  simp [m_quarter_direction, mDef, b_quarter_direction, startE, mRet, mCall, mCons, mNil, mC, mVar, l]
theorem rows4 : dr (rotN 0 (0, 1)) = .tup [rat 0 1, rat 1 1] ∧ dr (rotN 1 (0, 1)) = .tup [rat (-1) 1, rat 0 1] ∧ dr (rotN 2 (0, 1)) = .tup [rat 0 1, rat (-1) 1] ∧ dr (rotN 3 (0, 1)) = .tup [rat 1 1, rat 0 1] := ⟨rfl, rfl, rfl, rfl⟩
end Law


set_option Elab.async false
set_option linter.all false
set_option maxRecDepth 100000
namespace Law
open PySem PySem.Spec PyProof.Rows L2 Mir
theorem mo3 : manyOk 3 := by decide +kernel
theorem mo12 : manyOk 12 := by decide +kernel
theorem moX : manyOk 1000000000000000000000000000000 := by decide +kernel
theorem cp30 : CPow 10 30 := ⟨by decide, by decide, by decide⟩
theorem cp29 : CPow 10 29 := ⟨by decide, by decide, by decide⟩
theorem p30 : (10 : Int) ^ (30 : Int).toNat = 1000000000000000000000000000000 := by decide
theorem p29 : (10 : Int) ^ (29 : Int).toNat = 100000000000000000000000000000 := by decide
theorem m529 : Mir.MulOk 5 100000000000000000000000000000 := MulOk.of (m := 3) (n := 97) (by unfold Sz; decide) (by unfold Sz; decide) (by decide)
theorem number_ok (d : Rat × Rat) (s : Hd) : ∃ (v : Int) (s' : Hd), (mIf (mTest (mOp fEq (mCall 2 [] m__law_take (mCons (mVar 0) (mCons (mC (.int 3)) mNil))) (mC (.int 0)))) (mOp fSub (mCall 2 [] m__law_take (mCons (mVar 0) (mCons (mOp fPow (mC (.int 10)) (mC (.int 30))) mNil))) (mOp fMul (mC (.int 5)) (mOp fPow (mC (.int 10)) (mC (.int 29))))) (mOp fSub (mCall 2 [] m__law_take (mCons (mVar 0) (mCons (mC (.int 12)) mNil))) (mC (.int 6)))) [.dat .hnd, .dat (dr d), .no, .no, .no, .no, .no, .no] s = .ok (.int v) s' := by
  by_cases c : takeV s 3 = 0
  · have e : fEqB (.int (takeV s 3)) (.int 0) = some true := by rw [eq_int, c]; rfl
    have t := take_ok (takeS s 3) moX
    exact ⟨_, _, by
      simp only [mIf, mTest, mOp, mCall, mCons, mNil, mVar, mC, List.getElem?_cons_zero, R.bind_ok, List.append_nil, List.length_cons, List.length_nil, if_true, take_ok _ mo3, fEq, e, Option.map_some, liftO, fPow, fI, cp30, cp29, p30, p29, t, fMul, m529, fSub]
      rfl⟩
  · have e : fEqB (.int (takeV s 3)) (.int 0) = some false := by rw [eq_int]; simp [c]
    have t := take_ok (takeS s 3) mo12
    exact ⟨_, _, by
      simp only [mIf, mTest, mOp, mCall, mCons, mNil, mVar, mC, List.getElem?_cons_zero, R.bind_ok, List.append_nil, List.length_cons, List.length_nil, if_true, take_ok _ mo3, fEq, e, Option.map_some, liftO, fI, t, fSub]
      rfl⟩
def rows : List Dt := [.tup [rat 0 1, rat 1 1], .tup [rat (-1) 1, rat 0 1], .tup [rat 0 1, rat (-1) 1], .tup [rat 1 1, rat 0 1]]
theorem rows_at (v : Int) : atI rows (v.fmod 4) = some (dr (rotN (k4 v) (0, 1))) := by
  obtain ⟨a, b⟩ := k4_lt v
  obtain ⟨r0, r1, r2, r3⟩ := rows4
  unfold k4
  generalize v.fmod 4 = k at *
  have hk : k = 0 ∨ k = 1 ∨ k = 2 ∨ k = 3 := by omega
  rcases hk with e | e | e | e <;> subst e
  · exact (atI_nat (j := 0) rfl).trans (congrArg some r0.symm)
  · exact (atI_nat (j := 1) rfl).trans (congrArg some r1.symm)
  · exact (atI_nat (j := 2) rfl).trans (congrArg some r2.symm)
  · exact (atI_nat (j := 3) rfl).trans (congrArg some r3.symm)
theorem rotN_bd {n : Nat} : ∀ (k : Nat) {d : Rat × Rat}, BdD n d → BdD n (rotN k d)
  | 0, _, h => h
  | k + 1, _, h => rotN_bd k (rot_bd h)
theorem quartered_ok {d : Rat × Rat} (a : BdD 100 d) (u : Unit1 d) (s : Hd) : ∃ s' : Hd, m__law_quartered [.hnd, dr d] s = .ok (.bl true) s' := by
  obtain ⟨v, s1, e1⟩ := number_ok d s
  obtain ⟨z, e4⟩ := lq_loop (n := 100) (by decide) .hnd (dr d) (.int v) (.lst rows) (rangeD 0 (k4 v)) d .no s1 a
  rw [rd_len] at e4
  have q1 := quarter_ok v s1
  have q2 := same_row_ok (rotN (k4 v) (0, 1)) s1
  have q3 := form_ok s1 d
  have q4 := fun k s => turned_quarters_ok (by decide) a u k v s
  have q5 := fun s => same_row_ok (rotN (k4 v) d) s
  have q6 : ∀ s, m_opposite_of [dr d] s = _ := fun s => opposite_ok (by decide) a u false s
  have q7 := fun k s => mirrored_ok (by decide) a u k s
  have q8 := fun s => same_row_ok (-d.1, -d.2) s
  have q9 := fun s => same_row_ok (-d.1, d.2) s
  have q10 := fun s => form_ok s d
  have t1 : ∀ s, m__law_times [rat (-1) 1, dq d.1] s = .ok (dq (-d.1)) s := fun s => by
    have l : m__law_times [rat (-1) 1, dq d.1] s = _ := ltimes_q (n := 100) (p := -1) (by decide) (bdm1.mono (by decide)) a.1 s
    have ng : -1 * d.1 = -d.1 := by grind
    rw [ng] at l
    exact l
  have t2 : ∀ s, m__law_times [rat (-1) 1, dq d.2] s = .ok (dq (-d.2)) s := fun s => by
    have l : m__law_times [rat (-1) 1, dq d.2] s = _ := ltimes_q (n := 100) (p := -1) (by decide) (bdm1.mono (by decide)) a.2 s
    have ng : -1 * d.2 = -d.2 := by grind
    rw [ng] at l
    exact l
  have ra := rows_at v
  have rg := rng4 v
  refine ⟨takeS (takeS s1 2) 2, ?_⟩
  refine def_rt ((seq_nx (ρ' := [.dat .hnd, .dat (dr d), .dat (.int v), .no, .no, .no, .no, .no]) (s' := s1) ?_).trans ((seq_nx (ρ' := [.dat .hnd, .dat (dr d), .dat (.int v), .dat (.lst rows), .no, .no, .no, .no]) (s' := s1) ?_).trans ((seq_nx (ρ' := [.dat .hnd, .dat (dr d), .dat (.int v), .dat (.lst rows), .dat (dr d), .no, .no, .no]) (s' := s1) ?_).trans ((seq_nx (ρ' := [.dat .hnd, .dat (dr d), .dat (.int v), .dat (.lst rows), .dat (dr (rotN (k4 v) d)), z, .no, .no]) (s' := s1) ?_).trans ?_))))
  · show mSet 2 _ [.dat .hnd, .dat (dr d), .no, .no, .no, .no, .no, .no] s = _
    unfold mSet
    rw [e1]
    rfl
  · rfl
  · rfl
  · rw [for_of (ds := rangeD 0 (k4 v)) (s' := s1) (by simp [mRng1, mOp, mCB, mCons, mNil, mVar, mC, fIntC, fMod, fI, rg, k4])]
    exact e4
  refine (seq_nx (ρ' := [.dat .hnd, .dat (dr d), .dat (.int v), .dat (.lst rows), .dat (dr (rotN (k4 v) d)), z, .no, .no]) (s' := s1) ?_).trans ((seq_nx (ρ' := [.dat .hnd, .dat (dr d), .dat (.int v), .dat (.lst rows), .dat (dr (rotN (k4 v) d)), z, .no, .no]) (s' := takeS s1 2) ?_).trans ?_)
  · generalize dr (rotN (k4 v) (0, 1)) = w at *
    simp [mIfS, mNot, mTru, mCall, mCons, mNil, mVar, q1, mOp, mCB, mC, fIntC, fMod, fI, fIx, ra, q2, fTru, mNext]
  · generalize dr (rotN (k4 v) d) = w at *
    simp [mIfS, mNot, mTru, mCall, mCons, mNil, mVar, q3, q4, q5, fTru, mNext]
  generalize dr (rotN (k4 v) d) = w at *
  generalize takeS s1 2 = s2 at *
  generalize hb : decide (takeV s2 2 = 0) = b at *
  have q11 := q10 s2
  rw [hb] at q11
  obtain ⟨x, y⟩ := d
  simp only at t1 t2 q6 q7 q8 q9
  have o1 : ∀ s, m_opposite_of [.tup [dq x, dq y]] s = .ok (.tup [dq (-x), dq (-y)]) s := q6
  have o2 : ∀ k s, m_mirrored_direction [frm k (x, y)] s = .ok (.tup [dq (-x), dq y]) s := q7
  have o3 : ∀ s, m__law_same_row [.tup [dq (-x), dq (-y)], .tup [dq (-x), dq (-y)]] s = .ok (.bl true) s := q8
  have o4 : ∀ s, m__law_same_row [.tup [dq (-x), dq y], .tup [dq (-x), dq y]] s = .ok (.bl true) s := q9
  have o5 : m__law_form [.hnd, .tup [dq x, dq y]] s2 = .ok (frm b (x, y)) (takeS s2 2) := q11
  generalize -x = nx at *
  generalize -y = ny at *
  have hF := o2 b (takeS s2 2)
  clear o2
  generalize frm b (x, y) = F at *
  show mSeq _ _ [.dat .hnd, .dat (.tup [dq x, dq y]), .dat (.int v), .dat (.lst rows), .dat w, z, .no, .no] s2 = _
  simp [mSeq, mAsg, gmSeq, gmCons, gmNil, gmName, mVar, mIfS, mNot, mTru, mCall, mCons, mNil, o1, o3, o4, o5, hF, t1, t2, mTup, mUn, mC, fNeg, fTru, mNext, mRet]
end Law


set_option Elab.async false
set_option linter.all false
set_option maxRecDepth 100000
namespace Law
open PySem PySem.Spec PyProof.Rows L2 Mir
theorem low_self {a b : Int} (h : IsR a b) : low a b = rat a b := by
  obtain ⟨p, g⟩ := h
  have e : sgcd a b = 1 := by
    unfold sgcd
    rw [if_neg (by omega), g]
    rfl
  have x := low_t (t := a) (b := b)
  have y := low_b (t := a) (b := b)
  rw [e, Int.mul_one] at x y
  unfold low
  rw [x, y]
theorem rat_inj {a b c d : Int} (h : rat a b = rat c d) : a = c ∧ b = d := by
  injection h with h
  injection h with h1 h2
  injection h1 with h1
  injection h2 with h2
  injection h2 with h2
  exact ⟨h1, h2⟩
theorem sq_is {a b : Int} (h : IsR a b) : IsR (a * a) (b * b) := by
  refine ⟨Int.mul_pos h.pos h.pos, ?_⟩
  rw [Int.natAbs_mul, Int.natAbs_mul]
  have c : Nat.Coprime a.natAbs b.natAbs := h.co
  exact Nat.Coprime.mul_right (Nat.Coprime.mul_left c c) (Nat.Coprime.mul_left c c)
theorem num_sq (r : Rat) : (r * r).num = r.num * r.num ∧ ((r * r).den : Int) = (r.den : Int) * (r.den : Int) := by
  have e := low_mul' r r
  rw [low_self (sq_is (dq_is r))] at e
  obtain ⟨a, b⟩ := rat_inj e
  exact ⟨a.symm, b.symm⟩
theorem isqrt_sq (m : Nat) : Float64.isqrt (m * m) = m := by
  obtain ⟨a, b⟩ := PySem.Float64.isqrt_spec (m * m)
  generalize Float64.isqrt (m * m) = k at *
  have h1 : k ≤ m := Nat.mul_self_le_mul_self_iff.mp a
  have h2 : m < k + 1 := Nat.mul_self_lt_mul_self_iff.mp b
  omega
theorem same_rat (a b : Int) (s : Hd) : m__law_same [rat a b, rat a b] s = .ok (.bl true) s := by
  have e1 : fEqB (.int 2) (.int 2) = some true := by rw [eq_int]; rfl
  have e2 (i : Int) : fEqB (.int i) (.int i) = some true := by rw [eq_int]; simp
  simp [m__law_same, mDef, b__law_same, startE, mSeq, mIfS, mOr, mNot, mTru, mIsi, mVar, fTru, mTest, mOp, mCB, mCons, mNil, fLen, fNe, e1, mC, mNext, mFor, mSeqI, loopF, gmName, mRet, mAndV, fEq, fIx, at0, at1, e2]
end Law


set_option Elab.async false
set_option linter.all false
set_option maxRecDepth 100000
namespace Law
open PySem PySem.Spec PyProof.Rows L2 Mir
theorem isq_of {N : Int} {k : Nat} (h0 : 0 ≤ N) (h1 : N < 18446744073709551616) (h : Float64.isqrt N.toNat = k) : fIsqrt [.int N] = some (.int (k : Nat)) := by
  have e : (2 : Int) ^ 64 = 18446744073709551616 := by decide
  show (if 0 ≤ N ∧ N < 2 ^ 64 then some (Dt.int ((Float64.isqrt N.toNat : Nat) : Int)) else none) = _
  rw [e, h, if_pos (And.intro h0 h1)]
theorem cb2 (f : List Dt → Option Dt) {N D M O : Int} (f1 : f [.int N] = some (.int M)) (f2 : f [.int D] = some (.int O)) (s : Hd) (x : Dt) : (mSet 3 (mTup (mCons (mCB f (mCons (mVar 1) mNil)) (mCons (mCB f (mCons (mVar 2) mNil)) mNil)))) [.dat x, .dat (.int N), .dat (.int D), .no] s = .ok (.nx [.dat x, .dat (.int N), .dat (.int D), .dat (rat M O)]) s := by
  simp [mSet, mTup, mCons, mNil, mCB, mVar, f1, f2]
/-- both are squares -/
def Sqs (q : Rat) : Prop := ∃ m n : Nat, q.num = (m : Int) * m ∧ (q.den : Int) = (n : Int) * n
theorem root_neg {q : Rat} (h : q.num < 0) (s : Hd) : m_root_of [dq q] s = .ok .non s := by
  simp [m_root_of, mDef, b_root_of, startE, mSeq, mAsg, gmSeq, gmCons, gmNil, gmName, mVar, mIfS, mTest, mOp, mC, fI, h, mRet]
theorem root_yes {q : Rat} {m n : Nat} (h1 : q.num = (m : Int) * m) (h2 : (q.den : Int) = (n : Int) * n) (b : Bd 63 q) (s : Hd) : m_root_of [dq q] s = .ok (rat m n) s := by
  have z1 : q.num < 18446744073709551616 := by
    have := b.t
    unfold Sz at this
    omega
  have z2 : (q.den : Int) < 18446744073709551616 := by
    have := b.b
    unfold Sz at this
    omega
  have p0 : 0 ≤ q.num := by
    rw [h1]
    exact Int.mul_nonneg (by omega) (by omega)
  have p1 : 0 ≤ (q.den : Int) := by omega
  have np : 0 < (n : Int) := by
    rcases Nat.eq_zero_or_pos n with z | z
    · have := bt_pos q
      rw [h2, z] at this
      simp at this
    · omega
  have i1 : Float64.isqrt q.num.toNat = m := by
    rw [h1, ← Int.natCast_mul, Int.toNat_natCast, isqrt_sq]
  have i2 : Float64.isqrt (q.den : Int).toNat = n := by
    rw [h2, ← Int.natCast_mul, Int.toNat_natCast, isqrt_sq]
  have s1 : Sz 63 (m : Int) := Sz.le b.t (by
    rw [h1, Int.natAbs_mul]
    rcases Nat.eq_zero_or_pos m with z | z
    · rw [z]; simp
    · simp only [Int.natAbs_natCast]
      exact Nat.le_mul_of_pos_right _ z)
  have s2 : Sz 63 (n : Int) := Sz.le b.b (by
    rw [h2, Int.natAbs_mul]
    simp only [Int.natAbs_natCast]
    exact Nat.le_mul_of_pos_right _ (by omega))
  have t := times_ok (n := 63) (a := m) (b := n) (c := m) (d := n) ⟨by decide, s1, s2, s1, s2, by omega, by omega⟩ s
  rw [← h1, ← h2, low_self (dq_is q)] at t
  have e : fEqB (rat q.num (q.den : Int)) (rat q.num (q.den : Int)) = some true := (eq_q (p := q) (q := q)).trans (by simp)
  have d2 : ¬ q.num < 0 := by omega
  show m_root_of [rat q.num (q.den : Int)] s = _
  generalize q.num = N at *
  generalize (q.den : Int) = D at *
  have f1 := isq_of p0 z1 i1
  have f2 := isq_of p1 z2 i2
  clear p0 z1 i1 p1 z2 i2 h1 h2
  generalize (m : Int) = M at *
  generalize (n : Int) = O at *
  have E0 : (mAsg (gmSeq 2 (gmCons (gmName 1) (gmCons (gmName 2) gmNil))) (mVar 0)) [.dat (rat N D), .no, .no, .no] s = .ok (.nx [.dat (rat N D), .dat (.int N), .dat (.int D), .no]) s := rfl
  have E1 : (mIfS (mTest (mOp fLt (mVar 1) (mC (.int 0)))) (mRet (mC .non)) mNext) [.dat (rat N D), .dat (.int N), .dat (.int D), .no] s = .ok (.nx [.dat (rat N D), .dat (.int N), .dat (.int D), .no]) s := by
    simp [mIfS, mTest, mOp, mVar, mC, fI, d2, mNext]
  have E2 : (mSet 3 (mTup (mCons (mCB fIsqrt (mCons (mVar 1) mNil)) (mCons (mCB fIsqrt (mCons (mVar 2) mNil)) mNil)))) [.dat (rat N D), .dat (.int N), .dat (.int D), .no] s = .ok (.nx [.dat (rat N D), .dat (.int N), .dat (.int D), .dat (rat M O)]) s := cb2 fIsqrt f1 f2 s _
  refine def_rt ((seq_nx E0).trans ((seq_nx E1).trans ((seq_nx E2).trans ?_)))
  simp [mRet, mIf, mTest, mOp, mCall, mCons, mNil, mVar, mC, t, fEq, e]
end Law


set_option Elab.async false
set_option linter.all false
set_option maxRecDepth 100000
namespace Law
open PySem PySem.Spec PyProof.Rows L2 Mir
theorem root_no {q : Rat} (h0 : 0 ≤ q.num) (hn : ¬ Sqs q) (b : Bd 63 q) (s : Hd) : m_root_of [dq q] s = .ok .non s := by
  have z1 : q.num < 18446744073709551616 := by
    have := b.t
    unfold Sz at this
    omega
  have z2 : (q.den : Int) < 18446744073709551616 := by
    have := b.b
    unfold Sz at this
    omega
  have p1 : 0 ≤ (q.den : Int) := by omega
  obtain ⟨sa, _⟩ := PySem.Float64.isqrt_spec q.num.toNat
  obtain ⟨sb, sc⟩ := PySem.Float64.isqrt_spec (q.den : Int).toNat
  generalize hi : Float64.isqrt q.num.toNat = m at *
  generalize hj : Float64.isqrt (q.den : Int).toNat = n at *
  have dp := bt_pos q
  have np : 0 < n := by
    rcases Nat.eq_zero_or_pos n with z | z
    · rw [z] at sc
      simp at sc
      omega
    · exact z
  have s1 : Sz 63 (m : Int) := by
    refine Sz.le b.t ?_
    have : m ≤ m * m := by
      rcases Nat.eq_zero_or_pos m with z | z
      · rw [z]; omega
      · exact Nat.le_mul_of_pos_right _ z
    simp only [Int.natAbs_natCast]
    omega
  have s2 : Sz 63 (n : Int) := by
    refine Sz.le b.b ?_
    have : n ≤ n * n := Nat.le_mul_of_pos_right _ np
    simp only [Int.natAbs_natCast]
    omega
  have n0 : (n : Int) ≠ 0 := by omega
  have t := times_ok (n := 63) (a := m) (b := n) (c := m) (d := n) ⟨by decide, s1, s2, s1, s2, n0, n0⟩ s
  have nn : (n : Int) * (n : Int) ≠ 0 := Int.mul_ne_zero n0 n0
  rw [low_frac _ _ nn] at t
  have e : fEqB (dq ((((m : Int) * (m : Int) : Int) : Rat) / (((n : Int) * (n : Int) : Int) : Rat))) (rat q.num (q.den : Int)) = some false := by
    refine (eq_q (q := q)).trans (congrArg some (decide_eq_false fun z => hn ?_))
    have c0 := cast_ne n0
    have r : ((((m : Int)) : Rat) / (((n : Int)) : Rat)) * ((((m : Int)) : Rat) / (((n : Int)) : Rat)) = q := by
      rw [← z, Rat.intCast_mul, Rat.intCast_mul]
      generalize (((m : Int)) : Rat) = u at *
      generalize (((n : Int)) : Rat) = v at *
      grind
    obtain ⟨a1, a2⟩ := num_sq ((((m : Int)) : Rat) / (((n : Int)) : Rat))
    rw [r] at a1 a2
    exact ⟨(((((m : Int)) : Rat) / (((n : Int)) : Rat))).num.natAbs, (((((m : Int)) : Rat) / (((n : Int)) : Rat))).den, by rw [a1, Int.natAbs_mul_self'], a2⟩
  have d2 : ¬ q.num < 0 := by omega
  show m_root_of [rat q.num (q.den : Int)] s = _
  generalize ((((m : Int) * (m : Int) : Int) : Rat) / (((n : Int) * (n : Int) : Int) : Rat)) = X at *
  generalize q.num = N at *
  generalize (q.den : Int) = D at *
  have f1 := isq_of h0 z1 hi
  have f2 := isq_of p1 z2 hj
  clear h0 z1 hi p1 z2 hj
  generalize (m : Int) = M at *
  generalize (n : Int) = O at *
  have E0 : (mAsg (gmSeq 2 (gmCons (gmName 1) (gmCons (gmName 2) gmNil))) (mVar 0)) [.dat (rat N D), .no, .no, .no] s = .ok (.nx [.dat (rat N D), .dat (.int N), .dat (.int D), .no]) s := rfl
  have E1 : (mIfS (mTest (mOp fLt (mVar 1) (mC (.int 0)))) (mRet (mC .non)) mNext) [.dat (rat N D), .dat (.int N), .dat (.int D), .no] s = .ok (.nx [.dat (rat N D), .dat (.int N), .dat (.int D), .no]) s := by
    simp [mIfS, mTest, mOp, mVar, mC, fI, d2, mNext]
  have E2 : (mSet 3 (mTup (mCons (mCB fIsqrt (mCons (mVar 1) mNil)) (mCons (mCB fIsqrt (mCons (mVar 2) mNil)) mNil)))) [.dat (rat N D), .dat (.int N), .dat (.int D), .no] s = .ok (.nx [.dat (rat N D), .dat (.int N), .dat (.int D), .dat (rat M O)]) s := cb2 fIsqrt f1 f2 s _
  refine def_rt ((seq_nx E0).trans ((seq_nx E1).trans ((seq_nx E2).trans ?_)))
  simp [mRet, mIf, mTest, mOp, mCall, mCons, mNil, mVar, mC, t, fEq, e]
end Law


set_option Elab.async false
set_option linter.all false
set_option maxRecDepth 100000
namespace Law
open PySem PySem.Spec PyProof.Rows L2 Mir
theorem sq_yes (w : Rat) : (w * w).num = ((w.num.natAbs : Nat) : Int) * (w.num.natAbs : Nat) ∧ ((w * w).den : Int) = ((w.den : Nat) : Int) * (w.den : Nat) := by
  obtain ⟨a, b⟩ := num_sq w
  exact ⟨by rw [a, Int.natAbs_mul_self'], b⟩
theorem two_no {w : Rat} (h : w ≠ 0) : ¬ Sqs (2 * (w * w)) := by
  intro ⟨m, n, h1, h2⟩
  have n0 : (n : Int) ≠ 0 := by
    intro z
    have p := bt_pos (2 * (w * w))
    rw [h2, z] at p
    exact absurd p (by decide)
  have c0 := cast_ne n0
  have e := q_eq (2 * (w * w))
  rw [h1, h2, Rat.intCast_mul, Rat.intCast_mul] at e
  have r : ((((m : Int)) : Rat) / ((((n : Int)) : Rat) * w)) * ((((m : Int)) : Rat) / ((((n : Int)) : Rat) * w)) = 2 := by
    have nw : (((n : Int)) : Rat) * w ≠ 0 := fun z => by
      rcases Rat.mul_eq_zero.mp z with y | y
      · exact c0 y
      · exact h y
    generalize (((m : Int)) : Rat) = u at *
    generalize (((n : Int)) : Rat) = v at *
    grind
  obtain ⟨a1, _⟩ := num_sq ((((m : Int)) : Rat) / ((((n : Int)) : Rat) * w))
  rw [r] at a1
  have a1 : (2 : Int) = _ := a1
  generalize ((((m : Int)) : Rat) / ((((n : Int)) : Rat) * w)).num = x at a1
  have : x.natAbs * x.natAbs = 2 := by
    rw [← Int.natAbs_mul, ← a1]
    rfl
  generalize x.natAbs = y at this
  match y, this with
  | 0, h => omega
  | 1, h => omega
  | k + 2, h =>
    have := Nat.mul_le_mul (Nat.le_add_left 2 k) (Nat.le_add_left 2 k)
    omega
end Law


set_option Elab.async false
set_option linter.all false
set_option maxRecDepth 100000
namespace Law
open PySem PySem.Spec PyProof.Rows L2 Mir
/-! ### squares below 441 -/
def sqL (v : Int) (ks : List Nat) : List Int := (ks.filter fun k => decide (((k : Nat) : Int) * (k : Nat) = v)).map fun k => ((k : Nat) : Int)
theorem sq_loop (v : Int) : ∀ (ks : List Nat) (acc : List Int) (s : Hd), (∀ k ∈ ks, k < 21) → acc.length + ks.length ≤ 21 →
    loopC (gmName 1) (mTest (mOp fEq (mOp fMul (mVar 1) (mVar 1)) (mVar 0))) (mVar 1) [1] (ks.map fun k => Dt.int ((k : Nat) : Int)) (acc.map Dt.int) [.dat (.int v), .no] s = .ok (.lst ((acc ++ sqL v ks).map Dt.int)) s
  | [], acc, s, _, _ => by
    unfold sqL
    simp [loopC]
  | k :: ks, acc, s, h, hl => by
    have hk := h k List.mem_cons_self
    have hr : ∀ y ∈ ks, y < 21 := fun y hy => h y (List.mem_cons_of_mem _ hy)
    simp only [List.length_cons] at hl
    have z : Sz 5 ((k : Nat) : Int) := by
      unfold Sz
      omega
    have m : Mir.MulOk (k : Int) (k : Int) := MulOk.of z z (by decide)
    have so : Mir.sizeOk (acc.map Dt.int).length := by
      rw [List.length_map]
      show acc.length ≤ 100000
      omega
    by_cases c : (k : Int) * (k : Int) = v
    · have i := sq_loop v ks (acc ++ [(k : Int)]) s hr (by rw [List.length_append]; simp only [List.length_cons, List.length_nil]; omega)
      have e : sqL v (k :: ks) = (k : Int) :: sqL v ks := by
        unfold sqL
        simp [c]
      rw [e, List.map_cons]
      unfold loopC
      rw [List.map_append] at i
      have eq : fEqB (.int ((k : Int) * (k : Int))) (.int v) = some true := by rw [eq_int]; simp [c]
      simp only [gmName, wipeE, List.set_cons_succ, List.set_cons_zero, mTest, mOp, mVar, List.getElem?_cons_zero, List.getElem?_cons_succ, R.bind_ok, fMul, m, if_true, liftO, fEq, eq, Option.map_some, noErr, so]
      rw [List.append_assoc] at i
      exact i
    · have i := sq_loop v ks acc s hr (by omega)
      have e : sqL v (k :: ks) = sqL v ks := by
        unfold sqL
        simp [c]
      rw [e, List.map_cons]
      unfold loopC
      have eq : fEqB (.int ((k : Int) * (k : Int))) (.int v) = some false := by rw [eq_int]; simp [c]
      simp only [gmName, wipeE, List.set_cons_succ, List.set_cons_zero, mTest, mOp, mVar, List.getElem?_cons_zero, List.getElem?_cons_succ, R.bind_ok, fMul, m, if_true, liftO, fEq, eq, Option.map_some, noErr, Bool.false_eq_true, if_false]
      exact i
theorem ints_py : ∀ l : List Int, toPyA (l.map Dt.int) = some (l.map PyData.int)
  | [] => rfl
  | p :: l => by
    have h := ints_py l
    simp [toPyA, toPy, h]
theorem ints_lay : ∀ l : List Int, PyData.canLayAll0 (l.map PyData.int) = true
  | [] => rfl
  | p :: l => by
    have h := ints_lay l
    simp [PyData.canLayAll0, PyData.canLay0, h]
theorem ints_deep : ∀ l : List Int, PyData.depthAll (l.map PyData.int) ≤ 0
  | [] => by simp [PyData.depthAll]
  | p :: l => Nat.max_le.mpr ⟨Nat.le_of_ble_eq_true rfl, ints_deep l⟩
theorem ints_ok (l : List Int) : pyOk (.lst (l.map Dt.int)) = some (.list (l.map PyData.int)) := by
  have d := ints_deep l
  have hd : PyData.depth (.list (l.map PyData.int)) ≤ 64 := Nat.succ_le_of_lt (Nat.lt_of_le_of_lt d (by decide))
  have e : SeqAt.shaped (.list (l.map PyData.int)) = true := Bool.and_eq_true_iff.mpr ⟨ints_lay l, decide_eq_true hd⟩
  simp only [pyOk, toPy, ints_py, Option.map_some, Option.bind_some, e, if_true]
theorem ints_ne (l : List Int) : fNe (.lst (l.map Dt.int)) (.lst []) = some (.bl (!l.isEmpty)) := by
  have e0 : pyOk (.lst []) = some (.list []) := rfl
  have e1 := ints_ok l
  cases l with
  | nil => rfl
  | cons p r =>
    have e2 : pyOk (.lst (Dt.int p :: r.map Dt.int)) = some (.list (PyData.int p :: r.map PyData.int)) := e1
    simp only [fNe, fEqB, List.map_cons, e0, e2, Option.bind_some, Option.map_some, PyData.eqv, PyData.eqvAll, List.isEmpty_cons]
theorem is_square_ok (v : Int) (s : Hd) : m__law_is_square [.int v] s = .ok (.bl (!(sqL v (List.range 21)).isEmpty)) s := by
  have l := sq_loop v (List.range 21) [] s (fun k h => List.mem_range.mp h) (by rw [List.length_range]; decide)
  rw [List.nil_append] at l
  have n := ints_ne (sqL v (List.range 21))
  have rg : rangeD 0 (21 : Int).toNat = (List.range 21).map fun k => Dt.int ((k : Nat) : Int) := rfl
  have rk : rngOk 21 := by decide
  have l : loopC (gmName 1) (mTest (mOp fEq (mOp fMul (mVar 1) (mVar 1)) (mVar 0))) (mVar 1) [1] (rangeD 0 (21 : Int).toNat) [] [.dat (.int v), .no] s = _ := l
  have e : mLc (gmName 1) (mRng1 (mC (.int 21))) (mTest (mOp fEq (mOp fMul (mVar 1) (mVar 1)) (mVar 0))) (mVar 1) [1] [.dat (.int v), .no] s = .ok (.lst ((sqL v (List.range 21)).map Dt.int)) s := by
    rw [lc_of (ds := rangeD 0 (21 : Int).toNat) (s' := s) (by simp [mRng1, mC, rk])]
    exact l
  generalize sqL v (List.range 21) = L at *
  refine def_rt ?_
  show mRet _ [.dat (.int v), .no] s = _
  unfold b__law_is_square at *
  simp only [mRet, mOp, mLst, mNil, e, R.bind_ok, List.length_nil, Nat.zero_le, if_true, n, liftO]
theorem sq_mem {v : Int} (m : Nat) (h : v = (m : Int) * m) (b : v ≤ 400) : (sqL v (List.range 21)).isEmpty = false := by
  have hm : m < 21 := by
    rcases Nat.lt_or_ge m 21 with z | z
    · exact z
    · have := Nat.mul_le_mul z z
      have e : ((m * m : Nat) : Int) = (m : Int) * m := Int.natCast_mul m m
      omega
  have i : (m : Int) ∈ sqL v (List.range 21) := by
    unfold sqL
    exact List.mem_map.mpr ⟨m, List.mem_filter.mpr ⟨List.mem_range.mpr hm, decide_eq_true h.symm⟩, rfl⟩
  cases hq : sqL v (List.range 21) with
  | nil =>
    rw [hq] at i
    exact absurd i List.not_mem_nil
  | cons _ _ => rfl
theorem sq_of {v : Int} (h : (sqL v (List.range 21)).isEmpty = false) : ∃ m : Nat, v = (m : Int) * m := by
  cases hq : sqL v (List.range 21) with
  | nil =>
    rw [hq] at h
    cases h
  | cons p r =>
    have i : p ∈ sqL v (List.range 21) := by
      rw [hq]
      exact List.mem_cons_self
    unfold sqL at i
    obtain ⟨m, hm, _⟩ := List.mem_map.mp i
    exact ⟨m, (of_decide_eq_true (List.mem_filter.mp hm).2).symm⟩
end Law


set_option Elab.async false
set_option linter.all false
set_option maxRecDepth 100000
namespace Law
open PySem PySem.Spec PyProof.Rows L2 Mir
theorem lratio_q {t b : Int} {n : Nat} (h : b ≠ 0) (hn : n ≤ 8000) (z1 : Sz n t) (z2 : Sz n b) (s : Hd) : ∃ q : Rat, m__law_ratio [.int t, .int b] s = .ok (dq q) s ∧ Bd n q ∧ q = (t : Rat) / (b : Rat) ∧ q.num = lowT t b ∧ (q.den : Int) = lowB t b := by
  have l := ratio_ok (t := t) h (z2.mono hn) s
  obtain ⟨q, e1, e2, e3⟩ := low_val t b h
  refine ⟨q, ?_, ⟨?_, ?_⟩, e3.trans (divInt_eq h), e1, e2⟩
  · rw [l]
    unfold low
    rw [← e1, ← e2]
  · rw [e1]
    exact z1.le (lowT_abs h)
  · rw [e2]
    exact z2.le (lowB_abs h)
theorem mo8 : manyOk 8 := by decide +kernel
theorem mo13 : manyOk 13 := by decide +kernel
theorem moM : manyOk 2000001 := by decide +kernel
theorem mo401 : manyOk 401 := by decide +kernel
theorem mo400 : manyOk 400 := by decide +kernel
theorem cp6 : CPow 10 6 := ⟨by decide, by decide, by decide⟩
theorem p6 : (10 : Int) ^ (6 : Int).toNat = 1000000 := by decide
theorem m26 : Mir.MulOk 2 1000000 := MulOk.of (m := 3) (n := 20) (by unfold Sz; decide) (by unfold Sz; decide) (by decide)
theorem mark_ok (s : Hd) : ∃ (q : Rat) (s' : Hd), m__law_mark [.hnd] s = .ok (dq q) s' ∧ Bd 21 q := by
  have b0 : 0 ≤ takeV s 13 := takeV_ge (by decide)
  have b1 : takeV s 13 < 13 := takeV_lt (by decide)
  obtain ⟨q, e, b, _⟩ := lratio_q (t := takeV s 13 - 4) (b := 2) (n := 21) (by decide) (by decide) (Sz.mono (m := 5) (by unfold Sz; omega) (by decide)) (by unfold Sz; decide) (takeS s 13)
  refine ⟨q, takeS s 13, ?_, b⟩
  simp [m__law_mark, mDef, b__law_mark, startE, mRet, mCall, mCons, mNil, mVar, mC, mOp, take_ok _ mo13, fI, fSub, e]
theorem wide_ok (s : Hd) : ∃ (q : Rat) (s' : Hd), m__law_wide [.hnd] s = .ok (dq q) s' ∧ Bd 21 q := by
  by_cases c0 : takeV s 8 = 0
  · have e0 : fEqB (.int (takeV s 8)) (.int 0) = some true := by rw [eq_int, c0]; rfl
    refine ⟨0, takeS s 8, ?_, bd0.mono (by decide)⟩
    show _ = R.ok (rat 0 1) _
    simp [m__law_wide, mDef, b__law_wide, startE, mSeq, mSet, mCall, mCons, mNil, mVar, mC, take_ok _ mo8, mIfS, mTest, mOp, fEq, e0, mRet, mTup]
  · have e0 : fEqB (.int (takeV s 8)) (.int 0) = some false := by rw [eq_int]; simp [c0]
    by_cases c1 : takeV s 8 = 1
    · have e1 : fEqB (.int (takeV s 8)) (.int 1) = some true := by rw [eq_int, c1]; rfl
      have b0 : 0 ≤ takeV (takeS s 8) 2000001 := takeV_ge (by decide)
      have b1 : takeV (takeS s 8) 2000001 < 2000001 := takeV_lt (by decide)
      have b2 : 0 ≤ takeV (takeS (takeS s 8) 2000001) 12 := takeV_ge (by decide)
      have b3 : takeV (takeS (takeS s 8) 2000001) 12 < 12 := takeV_lt (by decide)
      obtain ⟨q, e, b, _⟩ := lratio_q (t := takeV (takeS s 8) 2000001 - 1000000) (b := 1 + takeV (takeS (takeS s 8) 2000001) 12) (n := 21) (by omega) (by decide) (by unfold Sz; omega) (Sz.mono (m := 4) (by unfold Sz; omega) (by decide)) (takeS (takeS (takeS s 8) 2000001) 12)
      refine ⟨q, takeS (takeS (takeS s 8) 2000001) 12, ?_, b⟩
      simp [m__law_wide, mDef, b__law_wide, startE, mSeq, mSet, mCall, mCons, mNil, mVar, mC, take_ok _ mo8, mIfS, mTest, mOp, fEq, e0, e1, mNext, mRet, fPow, fI, cp6, p6, fMul, m26, fAdd, fSub, take_ok _ moM, take_ok _ mo12, e]
    · have e1 : fEqB (.int (takeV s 8)) (.int 1) = some false := by rw [eq_int]; simp [c1]
      obtain ⟨q, s', e, b⟩ := mark_ok (takeS s 8)
      refine ⟨q, s', ?_, b⟩
      simp [m__law_wide, mDef, b__law_wide, startE, mSeq, mSet, mCall, mCons, mNil, mVar, mC, take_ok _ mo8, mIfS, mTest, mOp, fEq, e0, e1, mNext, mRet, e]
theorem is_ratio_ok {a b : Int} (h : IsR a b) (s : Hd) : m__law_is_ratio [rat a b] s = .ok (.bl true) s := by
  have g := gcd_ok a b s
  rw [h.co] at g
  have p : 1 ≤ b := h.pos
  have e1 : fEqB (.int 2) (.int 2) = some true := by rw [eq_int]; rfl
  have e2 : fEqB (.int 1) (.int 1) = some true := by rw [eq_int]; rfl
  have g : m__law_gcd [.int a, .int b] s = .ok (.int 1) s := g
  simp [m__law_is_ratio, mDef, b__law_is_ratio, startE, mSeq, mIfS, mOr, mNot, mTru, mIsi, mVar, fTru, mTest, mOp, mCB, mCons, mNil, fLen, fNe, e1, mC, mNext, mFor, mSeqI, loopF, gmName, mRet, mAndV, fIx, at0, at1, fI, p, mCall, g, fEq, e2]
theorem sqs_co {q : Rat} {m n : Nat} (h1 : q.num = (m : Int) * m) (h2 : (q.den : Int) = (n : Int) * n) : IsR (m : Int) (n : Int) := by
  have i := dq_is q
  rw [h1, h2] at i
  constructor
  · rcases Nat.eq_zero_or_pos n with z | z
    · have p := i.pos
      rw [z] at p
      exact absurd p (by decide)
    · omega
  · have g := i.co
    rw [Int.natAbs_mul, Int.natAbs_mul] at g
    have d : Nat.gcd (m : Int).natAbs (n : Int).natAbs ∣ 1 := by
      rw [← g]
      exact Nat.dvd_gcd (Nat.dvd_trans (Nat.gcd_dvd_left _ _) (Nat.dvd_mul_right _ _)) (Nat.dvd_trans (Nat.gcd_dvd_right _ _) (Nat.dvd_mul_right _ _))
    exact Nat.dvd_one.mp d
/-- the first half: a square and its root -/
theorem first_half {w : Rat} (b : Bd 21 w) (s : Hd) : m_root_of [dq (w * w)] s = .ok (rat ((w.num.natAbs : Nat) : Int) ((w.den : Nat) : Int)) s ∧ m__law_size [dq w] s = .ok (rat ((w.num.natAbs : Nat) : Int) ((w.den : Nat) : Int)) s := by
  obtain ⟨h1, h2⟩ := sq_yes w
  refine ⟨root_yes h1 h2 ((b.mul b).mono (by decide)) s, ?_⟩
  have e : (if w.num < 0 then -w.num else w.num) = ((w.num.natAbs : Nat) : Int) := by split <;> omega
  rw [← e]
  simp [m__law_size, mDef, b__law_size, startE, mRet, mTup, mCons, mNil, mCB, mOp, mVar, mC, fIx, at0, at1, fAbs]
theorem second_half {w : Rat} (b : Bd 21 w) (h : w.num ≠ 0) (s : Hd) : m_root_of [dq (2 * (w * w))] s = .ok .non s ∧ m_root_of [dq (-1 * (w * w))] s = .ok .non s := by
  have w0 : w ≠ 0 := fun z => h (by rw [z]; rfl)
  obtain ⟨h1, _⟩ := num_sq w
  have p : 0 < w.num * w.num := by
    rcases Int.lt_or_gt_of_ne h with c | c
    · exact Int.mul_pos_of_neg_of_neg c c
    · exact Int.mul_pos c c
  have ww : (0 : Rat) ≤ w * w := sq_nn w
  have nn : (0 : Rat) ≤ 2 * (w * w) := by grind
  refine ⟨root_no (Rat.num_nonneg.mpr nn) (two_no w0) ((bd2.mul (b.mul b)).mono (by decide)) s, root_neg ?_ s⟩
  have e : -1 * (w * w) = -(w * w) := by grind
  rw [e]
  show -(w * w).num < 0
  rw [h1]
  omega
end Law


set_option Elab.async false
set_option linter.all false
set_option maxRecDepth 100000
namespace Law
open PySem PySem.Spec PyProof.Rows L2 Mir
theorem small_ok (s : Hd) : ∃ (q : Rat) (s' : Hd), (∀ ρ : Env', ρ[0]? = some (.dat .hnd) → (mCall 2 [] m__law_ratio (mCons (mCall 2 [] m__law_take (mCons (mVar 0) (mCons (mC (.int 401)) mNil))) (mCons (mOp fAdd (mC (.int 1)) (mCall 2 [] m__law_take (mCons (mVar 0) (mCons (mC (.int 400)) mNil)))) mNil))) ρ s = .ok (dq q) s') ∧ 0 ≤ q.num ∧ q.num ≤ 400 ∧ (q.den : Int) ≤ 400 := by
  have b0 : 0 ≤ takeV s 401 := takeV_ge (by decide)
  have b1 : takeV s 401 < 401 := takeV_lt (by decide)
  have b2 : 0 ≤ takeV (takeS s 401) 400 := takeV_ge (by decide)
  have b3 : takeV (takeS s 401) 400 < 400 := takeV_lt (by decide)
  have hb : 1 + takeV (takeS s 401) 400 ≠ 0 := by omega
  obtain ⟨q, e, b, _, e1, e2⟩ := lratio_q (t := takeV s 401) (b := 1 + takeV (takeS s 401) 400) (n := 10) hb (by decide) (by unfold Sz; omega) (by unfold Sz; omega) (takeS (takeS s 401) 400)
  refine ⟨q, takeS (takeS s 401) 400, fun ρ h => ?_, ?_, ?_, ?_⟩
  · simp [mCall, mCons, mNil, mVar, mC, h, take_ok _ mo401, take_ok _ mo400, mOp, fI, fAdd, e]
  · rw [e1]
    have g : 0 ≤ sgcd (takeV s 401) (1 + takeV (takeS s 401) 400) := by
      unfold sgcd
      rw [if_neg (by omega)]
      omega
    exact Int.fdiv_nonneg b0 g
  · have := lowT_abs (t := takeV s 401) hb
    rw [← e1] at this
    omega
  · have := lowB_abs (t := takeV s 401) hb
    rw [← e2] at this
    omega
theorem rooted_ok (s : Hd) : ∃ s' : Hd, m__law_rooted [.hnd] s = .ok (.bl true) s' := by
  obtain ⟨w, s1, ew, bw⟩ := wide_ok s
  have l2 := ltimes_q (by decide) bw bw s1
  obtain ⟨r1, r2⟩ := first_half bw s1
  have sm := same_rat ((w.num.natAbs : Nat) : Int) ((w.den : Nat) : Int) s1
  have bww : Bd 42 (w * w) := bw.mul bw
  have l3 : m__law_times [rat 2 1, dq (w * w)] s1 = _ := ltimes_q (n := 42) (p := 2) (by decide) (bd2.mono (by decide)) bww s1
  have l4 : m__law_times [rat (-1) 1, dq (w * w)] s1 = _ := ltimes_q (n := 42) (p := -1) (by decide) (bdm1.mono (by decide)) bww s1
  obtain ⟨q, s2, eq, q0, q1, q2⟩ := small_ok s1
  have qb : Bd 63 q := ⟨by unfold Sz; omega, by have := bt_pos q; unfold Sz; omega⟩
  have i1 := is_square_ok q.num s2
  have i2 := is_square_ok (q.den : Int) s2
  refine ⟨s2, ?_⟩
  have E1 : (mSet 1 (mCall 1 [] m__law_wide (mCons (mVar 0) mNil))) (startE 5 [.hnd]) s = .ok (.nx [.dat .hnd, .dat (dq w), .no, .no, .no]) s1 := by
    simp [mSet, mCall, mCons, mNil, mVar, startE, ew]
  have E2 : (mSet 2 (mCall 2 [] m__law_times (mCons (mVar 1) (mCons (mVar 1) mNil)))) [.dat .hnd, .dat (dq w), .no, .no, .no] s1 = .ok (.nx [.dat .hnd, .dat (dq w), .dat (dq (w * w)), .no, .no]) s1 := by
    generalize w * w = z at *
    simp [mSet, mCall, mCons, mNil, mVar, l2]
  have E3 : (mIfS (mNot (mTru (mCall 2 [] m__law_same (mCons (mCall 1 [] m_root_of (mCons (mVar 2) mNil)) (mCons (mCall 1 [] m__law_size (mCons (mVar 1) mNil)) mNil))))) (mRet (mC (.bl false))) mNext) [.dat .hnd, .dat (dq w), .dat (dq (w * w)), .no, .no] s1 = .ok (.nx [.dat .hnd, .dat (dq w), .dat (dq (w * w)), .no, .no]) s1 := by
    generalize w * w = z at *
    generalize ((w.num.natAbs : Nat) : Int) = A at *
    simp [mIfS, mNot, mTru, mCall, mCons, mNil, mVar, r1, r2, sm, fTru, mNext]
  have E4 : (mIfS (mAnd (mTest (mOp fNe (mOp fIx (mVar 1) (mC (.int 0))) (mC (.int 0)))) (mOr (mTest (mOp fIsNot (mCall 1 [] m_root_of (mCons (mCall 2 [] m__law_times (mCons (mTup (mCons (mC (.int 2)) (mCons (mC (.int 1)) mNil))) (mCons (mVar 2) mNil))) mNil)) (mC .non))) (mTest (mOp fIsNot (mCall 1 [] m_root_of (mCons (mCall 2 [] m__law_times (mCons (mTup (mCons (mUn fNeg (mC (.int 1))) (mCons (mC (.int 1)) mNil))) (mCons (mVar 2) mNil))) mNil)) (mC .non))))) (mRet (mC (.bl false))) mNext) [.dat .hnd, .dat (dq w), .dat (dq (w * w)), .no, .no] s1 = .ok (.nx [.dat .hnd, .dat (dq w), .dat (dq (w * w)), .no, .no]) s1 := by
    by_cases c : w.num = 0
    · have e : fEqB (.int w.num) (.int 0) = some true := by rw [eq_int, c]; rfl
      simp [mIfS, mAnd, mTest, mOp, mVar, mC, fIx, at0, fNe, e, mNext]
    · have e : fEqB (.int w.num) (.int 0) = some false := by rw [eq_int]; simp [c]
      obtain ⟨h1, h2⟩ := second_half bw c s1
      generalize 2 * (w * w) = u at *
      generalize -1 * (w * w) = v at *
      generalize w * w = z at *
      simp [mIfS, mAnd, mOr, mTest, mOp, mVar, mC, fIx, at0, fNe, e, mCall, mCons, mNil, mTup, mUn, fNeg, l3, l4, h1, h2, fIsNot, fIs, mNext]
  have E5 : ∀ z : Dt, (mSet 3 (mCall 2 [] m__law_ratio (mCons (mCall 2 [] m__law_take (mCons (mVar 0) (mCons (mC (.int 401)) mNil))) (mCons (mOp fAdd (mC (.int 1)) (mCall 2 [] m__law_take (mCons (mVar 0) (mCons (mC (.int 400)) mNil)))) mNil)))) [.dat .hnd, .dat (dq w), .dat z, .no, .no] s1 = .ok (.nx [.dat .hnd, .dat (dq w), .dat z, .dat (dq q), .no]) s2 := fun z => by
    have := eq [.dat .hnd, .dat (dq w), .dat z, .no, .no] rfl
    unfold mSet
    rw [this]
    rfl
  refine def_rt ((seq_nx E1).trans ((seq_nx E2).trans ((seq_nx E3).trans ((seq_nx E4).trans ((seq_nx (E5 _)).trans ?_)))))
  generalize dq (w * w) = W at *
  generalize dq w = V at *
  clear E1 E2 E3 E4 E5 l2 l3 l4 r1 r2 sm eq ew
  show mSeq _ _ [.dat .hnd, .dat V, .dat W, .dat (rat q.num (q.den : Int)), .no] s2 = _
  by_cases c : Sqs q
  · obtain ⟨m, n, h1, h2⟩ := c
    have ry : m_root_of [rat q.num (q.den : Int)] s2 = _ := root_yes h1 h2 qb s2
    have ir := is_ratio_ok (sqs_co h1 h2) s2
    have m1 := sq_mem m h1 q1
    have m2 := sq_mem n h2 q2
    rw [m1] at i1
    rw [m2] at i2
    have z1 : Sz 63 (m : Int) := Sz.le qb.t (by
      rw [h1, Int.natAbs_mul]
      rcases Nat.eq_zero_or_pos m with z | z
      · rw [z]; simp
      · simp only [Int.natAbs_natCast]
        exact Nat.le_mul_of_pos_right _ z)
    have np : 0 < (n : Int) := (sqs_co h1 h2).pos
    have z2 : Sz 63 (n : Int) := Sz.le qb.b (by
      rw [h2, Int.natAbs_mul]
      simp only [Int.natAbs_natCast]
      exact Nat.le_mul_of_pos_right _ (by omega))
    have t := ltimes_ok (n := 63) (a := m) (b := n) (c := m) (d := n) ⟨by decide, z1, z2, z1, z2, by omega, by omega⟩ s2
    rw [← h1, ← h2, low_self (dq_is q)] at t
    have e : fEqB (rat q.num (q.den : Int)) (rat q.num (q.den : Int)) = some true := (eq_q (p := q) (q := q)).trans (by simp)
    have g0 : (0 : Int) ≤ (m : Int) := by omega
    clear h1 h2 m1 m2 qb
    generalize (m : Int) = M at *
    generalize (n : Int) = O at *
    generalize q.num = N at *
    generalize (q.den : Int) = D at *
    simp [mSeq, mSet, mCall, mCons, mNil, mVar, ry, mIfS, mOr, mNot, mTru, mOp, mC, fIx, at0, at1, i1, i2, fTru, mNext, mRet, mAndV, fIsNot, fIs, ir, fI, g0, t, fEq, e]
  · have rn : m_root_of [rat q.num (q.den : Int)] s2 = _ := root_no q0 c qb s2
    have nb : (sqL q.num (List.range 21)).isEmpty = true ∨ (sqL (q.den : Int) (List.range 21)).isEmpty = true := by
      cases h1 : (sqL q.num (List.range 21)).isEmpty with
      | true => exact .inl rfl
      | false =>
        cases h2 : (sqL (q.den : Int) (List.range 21)).isEmpty with
        | true => exact .inr rfl
        | false =>
          obtain ⟨m, hm⟩ := sq_of h1
          obtain ⟨n, hn⟩ := sq_of h2
          exact absurd ⟨m, n, hm, hn⟩ c
    clear c qb
    generalize (sqL q.num (List.range 21)).isEmpty = A at *
    generalize (sqL (q.den : Int) (List.range 21)).isEmpty = B at *
    generalize q.num = N at *
    generalize (q.den : Int) = D at *
    rcases nb with h | h
    · subst h
      simp [mSeq, mSet, mCall, mCons, mNil, mVar, rn, mIfS, mOr, mNot, mTru, mOp, mC, fIx, at0, at1, i1, fTru, mRet, fIs]
    · subst h
      cases A <;> simp [mSeq, mSet, mCall, mCons, mNil, mVar, rn, mIfS, mOr, mNot, mTru, mOp, mC, fIx, at0, at1, i1, i2, fTru, mRet, fIs]
end Law


set_option Elab.async false
set_option linter.all false
set_option maxRecDepth 100000
namespace Law
open PySem PySem.Spec PyProof.Rows L2 Mir
theorem mo14 : manyOk 14 := by decide +kernel
theorem mo41 : manyOk 41 := by decide +kernel
theorem mo9 : manyOk 9 := by decide +kernel
theorem mo6 : manyOk 6 := by decide +kernel
theorem mo60 : manyOk 60 := by decide +kernel
theorem mo2001 : manyOk 2001 := by decide +kernel
theorem cp3 : CPow 10 3 := ⟨by decide, by decide, by decide⟩
theorem p3 : (10 : Int) ^ (3 : Int).toNat = 1000 := by decide
theorem m23 : Mir.MulOk 2 1000 := MulOk.of (m := 3) (n := 20) (by unfold Sz; decide) (by unfold Sz; decide) (by decide)
theorem half_of_rat {a b : Int} (h : IsR a b) (z1 : Sz 19 a) (z2 : Sz 19 b) : ∃ o : Option Rat, hd o = rat a b ∧ BdO 19 o := by
  obtain ⟨q, e1, e2, _⟩ := rat_of h
  refine ⟨some q, ?_, fun h e => ?_⟩
  · show rat q.num (q.den : Int) = _
    rw [e1, e2]
  · cases e
    exact ⟨by rw [e1]; exact z1, by rw [e2]; exact z2⟩
def halves : List Dt := [rat 0 1, rat 1 3, rat 1 2, rat 1 1, rat 2 1, rat 3 1, rat (-1) 3, rat (-1) 2, rat (-1) 1, rat (-2) 1, rat (-3) 1, rat 0 1]
theorem halves_at : ∀ k : Nat, k < 12 → ∃ o : Option Rat, halves[k]? = some (hd o) ∧ BdO 19 o := by
  have key : ∀ (k : Nat) (a b : Int), halves[k]? = some (rat a b) → IsR a b → Sz 19 a → Sz 19 b → ∃ o : Option Rat, halves[k]? = some (hd o) ∧ BdO 19 o := by
    intro k a b e h z1 z2
    obtain ⟨o, e2, b⟩ := half_of_rat h z1 z2
    exact ⟨o, by rw [e, e2], b⟩
  intro k hk
  match k, hk with
  | 0, _ => exact key 0 0 1 rfl ⟨by decide, by decide⟩ (by unfold Sz; decide) (by unfold Sz; decide)
  | 1, _ => exact key 1 1 3 rfl ⟨by decide, by decide⟩ (by unfold Sz; decide) (by unfold Sz; decide)
  | 2, _ => exact key 2 1 2 rfl ⟨by decide, by decide⟩ (by unfold Sz; decide) (by unfold Sz; decide)
  | 3, _ => exact key 3 1 1 rfl ⟨by decide, by decide⟩ (by unfold Sz; decide) (by unfold Sz; decide)
  | 4, _ => exact key 4 2 1 rfl ⟨by decide, by decide⟩ (by unfold Sz; decide) (by unfold Sz; decide)
  | 5, _ => exact key 5 3 1 rfl ⟨by decide, by decide⟩ (by unfold Sz; decide) (by unfold Sz; decide)
  | 6, _ => exact key 6 (-1) 3 rfl ⟨by decide, by decide⟩ (by unfold Sz; decide) (by unfold Sz; decide)
  | 7, _ => exact key 7 (-1) 2 rfl ⟨by decide, by decide⟩ (by unfold Sz; decide) (by unfold Sz; decide)
  | 8, _ => exact key 8 (-1) 1 rfl ⟨by decide, by decide⟩ (by unfold Sz; decide) (by unfold Sz; decide)
  | 9, _ => exact key 9 (-2) 1 rfl ⟨by decide, by decide⟩ (by unfold Sz; decide) (by unfold Sz; decide)
  | 10, _ => exact key 10 (-3) 1 rfl ⟨by decide, by decide⟩ (by unfold Sz; decide) (by unfold Sz; decide)
  | 11, _ => exact key 11 0 1 rfl ⟨by decide, by decide⟩ (by unfold Sz; decide) (by unfold Sz; decide)
theorem bdo_some {q : Rat} {m n : Nat} (b : Bd m q) (h : m ≤ n) : BdO n (some q) := fun h' e => by
  cases e
  exact b.mono h
theorem lhalf_ok (s : Hd) : ∃ (o : Option Rat) (s' : Hd), m__law_half [.hnd] s = .ok (hd o) s' ∧ BdO 19 o := by
  have b0 : 0 ≤ takeV s 14 := takeV_ge (by decide)
  have b1 : takeV s 14 < 14 := takeV_lt (by decide)
  by_cases c0 : takeV s 14 = 12
  · have e0 : fEqB (.int (takeV s 14)) (.int 12) = some true := by rw [eq_int, c0]; rfl
    refine ⟨none, takeS s 14, ?_, fun h e => by cases e⟩
    show _ = R.ok Dt.non _
    simp [m__law_half, mDef, b__law_half, startE, mSeq, mSet, mCall, mCons, mNil, mVar, mC, take_ok _ mo14, mIfS, mTest, mOp, fEq, e0, mRet]
  · have e0 : fEqB (.int (takeV s 14)) (.int 12) = some false := by rw [eq_int]; simp [c0]
    by_cases c1 : takeV s 14 = 13
    · have e1 : fEqB (.int (takeV s 14)) (.int 13) = some true := by rw [eq_int, c1]; rfl
      have b0 : 0 ≤ takeV (takeS s 14) 41 := takeV_ge (by decide)
      have b1 : takeV (takeS s 14) 41 < 41 := takeV_lt (by decide)
      have b2 : 0 ≤ takeV (takeS (takeS s 14) 41) 9 := takeV_ge (by decide)
      have b3 : takeV (takeS (takeS s 14) 41) 9 < 9 := takeV_lt (by decide)
      obtain ⟨q, e, b, _⟩ := lratio_q (t := takeV (takeS s 14) 41 - 20) (b := 1 + takeV (takeS (takeS s 14) 41) 9) (n := 6) (by omega) (by decide) (by unfold Sz; omega) (by unfold Sz; omega) (takeS (takeS (takeS s 14) 41) 9)
      refine ⟨some q, takeS (takeS (takeS s 14) 41) 9, ?_, bdo_some b (by decide)⟩
      show _ = R.ok (dq q) _
      simp [m__law_half, mDef, b__law_half, startE, mSeq, mSet, mCall, mCons, mNil, mVar, mC, take_ok _ mo14, mIfS, mTest, mOp, fEq, e0, e1, mNext, mRet, fI, fAdd, fSub, take_ok _ mo41, take_ok _ mo9, e]
    · have e1 : fEqB (.int (takeV s 14)) (.int 13) = some false := by rw [eq_int]; simp [c1]
      obtain ⟨o, ha, b⟩ := halves_at (takeV s 14).toNat (by omega)
      have hb : atI halves (takeV s 14) = some (hd o) := by
        have := atI_nat ha
        rwa [Int.toNat_of_nonneg b0] at this
      refine ⟨o, takeS s 14, ?_, b⟩
      unfold halves at hb
      simp [m__law_half, mDef, b__law_half, startE, mSeq, mSet, mCall, mCons, mNil, mVar, mC, take_ok _ mo14, mIfS, mTest, mOp, fEq, e0, e1, mNext, mRet, fIx, mLst, mTup, mUn, fNeg, hb]
theorem any_half_ok (s : Hd) : ∃ (o : Option Rat) (s' : Hd), m__law_any_half [.hnd] s = .ok (hd o) s' ∧ BdO 19 o := by
  by_cases c0 : takeV s 8 = 0
  · have e0 : fEqB (.int (takeV s 8)) (.int 0) = some true := by rw [eq_int, c0]; rfl
    have b0 : 0 ≤ takeV (takeS s 8) 2001 := takeV_ge (by decide)
    have b1 : takeV (takeS s 8) 2001 < 2001 := takeV_lt (by decide)
    have b2 : 0 ≤ takeV (takeS (takeS s 8) 2001) 60 := takeV_ge (by decide)
    have b3 : takeV (takeS (takeS s 8) 2001) 60 < 60 := takeV_lt (by decide)
    obtain ⟨q, e, b, _⟩ := lratio_q (t := takeV (takeS s 8) 2001 - 1000) (b := 1 + takeV (takeS (takeS s 8) 2001) 60) (n := 11) (by omega) (by decide) (by unfold Sz; omega) (by unfold Sz; omega) (takeS (takeS (takeS s 8) 2001) 60)
    refine ⟨some q, takeS (takeS (takeS s 8) 2001) 60, ?_, bdo_some b (by decide)⟩
    show _ = R.ok (dq q) _
    simp [m__law_any_half, mDef, b__law_any_half, startE, mSeq, mCall, mCons, mNil, mVar, mC, take_ok _ mo8, mIfS, mTest, mOp, fEq, e0, mRet, fPow, fI, cp3, p3, fMul, m23, fAdd, fSub, take_ok _ mo2001, take_ok _ mo60, e]
  · have e0 : fEqB (.int (takeV s 8)) (.int 0) = some false := by rw [eq_int]; simp [c0]
    obtain ⟨o, s', e, b⟩ := lhalf_ok (takeS s 8)
    refine ⟨o, s', ?_, b⟩
    simp [m__law_any_half, mDef, b__law_any_half, startE, mSeq, mCall, mCons, mNil, mVar, mC, take_ok _ mo8, mIfS, mTest, mOp, fEq, e0, mNext, mRet, e]
theorem same_rows_ok (a b c d : Rat × Rat) (s : Hd) : m__law_same_rows [.tup [dr a, dr b, dr c, dr d], .tup [dr a, dr b, dr c, dr d]] s = .ok (.bl true) s := by
  have l1 := same_row_ok a s
  have l2 := same_row_ok b s
  have l3 := same_row_ok c s
  have l4 := same_row_ok d s
  generalize dr a = A at *
  generalize dr b = B at *
  generalize dr c = C at *
  generalize dr d = D at *
  have i0 : atI [A, B, C, D] 0 = some A := rfl
  have i1 : atI [A, B, C, D] 1 = some B := rfl
  have i2 : atI [A, B, C, D] 2 = some C := rfl
  have i3 : atI [A, B, C, D] 3 = some D := rfl
  have e1 : fEqB (.int 4) (.int 4) = some true := by rw [eq_int]; rfl
  have e2 : fEqB (.lst []) (.lst []) = some true := rfl
  have rg : rangeD 0 4 = [.int 0, .int 1, .int 2, .int 3] := rfl
  have rk : rngOk 4 := by decide
  simp [m__law_same_rows, mDef, b__law_same_rows, startE, mSeq, mIfS, mOr, mNot, mTru, mIsi, mVar, fTru, mTest, mOp, mCB, mCons, mNil, fLen, fNe, e1, mNext, mRet, mLc, mRng1, rk, rg, loopC, gmName, wipeE, noErr, mCall, fIx, i0, i1, i2, i3, l1, l2, l3, l4, mLst, fEq, e2]
/-- the second half is now and then the first one turned over -/
theorem other_ok (o p : Option Rat) (x : Sl) (ho : BdO 19 o) (hp : BdO 19 p) (s : Hd) : ∃ (r : Option Rat) (s' : Hd), BdO 20 r ∧
    (mIfS (mAnd (mTest (mOp fIsNot (mVar 3) (mC .non))) (mAnd (mTest (mOp fNe (mOp fIx (mVar 3) (mC (.int 0))) (mC (.int 0)))) (mTest (mOp fEq (mCall 2 [] m__law_take (mCons (mVar 1) (mCons (mC (.int 6)) mNil))) (mC (.int 0)))))) (mSet 4 (mCall 2 [] m__law_over (mCons (mTup (mCons (mC (.int 1)) (mCons (mC (.int 1)) mNil))) (mCons (mVar 3) mNil)))) mNext) [.no, .dat .hnd, x, .dat (hd o), .dat (hd p)] s = .ok (.nx [.no, .dat .hnd, x, .dat (hd o), .dat (hd r)]) s' := by
  have hp' : BdO 20 p := fun h e => (hp h e).mono (by decide)
  cases o with
  | none =>
    refine ⟨p, s, hp', ?_⟩
    generalize hd p = P at *
    simp [mIfS, mAnd, mTest, mOp, mVar, mC, hd, fIsNot, fIs, mNext]
  | some h =>
    have b := ho.some
    by_cases c : h.num = 0
    · have e : fEqB (.int h.num) (.int 0) = some true := by rw [eq_int, c]; rfl
      refine ⟨p, s, hp', ?_⟩
      generalize hd p = P at *
      simp [mIfS, mAnd, mTest, mOp, mVar, mC, hd, fIsNot, fIs, fIx, at0, fNe, e, mNext]
    · have e : fEqB (.int h.num) (.int 0) = some false := by rw [eq_int]; simp [c]
      have h0 : h ≠ 0 := fun z => c (by rw [z]; rfl)
      by_cases c6 : takeV s 6 = 0
      · have e6 : fEqB (.int (takeV s 6)) (.int 0) = some true := by rw [eq_int, c6]; rfl
        have l : m__law_over [rat 1 1, dq h] (takeS s 6) = _ := lover_q (n := 19) (p := 1) (by decide) (bd1.mono (by decide)) b h0 (takeS s 6)
        refine ⟨some (1 / h), takeS s 6, bdo_some (Bd.div h0 bd1 b) (by decide), ?_⟩
        show _ = R.ok (Fl.nx [.no, .dat .hnd, x, .dat (dq h), .dat (dq (1 / h))]) _
        generalize hd p = P at *
        generalize 1 / h = u at *
        simp [mIfS, mAnd, mTest, mOp, mVar, mC, hd, fIsNot, fIs, fIx, at0, fNe, e, mCall, mCons, mNil, take_ok _ mo6, fEq, e6, mSet, mTup, l]
      · have e6 : fEqB (.int (takeV s 6)) (.int 0) = some false := by rw [eq_int]; simp [c6]
        refine ⟨p, takeS s 6, hp', ?_⟩
        generalize hd p = P at *
        simp [mIfS, mAnd, mTest, mOp, mVar, mC, hd, fIsNot, fIs, fIx, at0, fNe, e, mCall, mCons, mNil, take_ok _ mo6, fEq, e6, mNext]
end Law


set_option Elab.async false
set_option linter.all false
set_option maxRecDepth 100000
namespace Law
open PySem PySem.Spec PyProof.Rows L2 Mir
def turnBody : MS := (mSeq (mSet 3 (mCall 1 [] m__law_any_half (mCons (mVar 1) mNil)))
    (mSeq (mSet 4 (mCall 1 [] m__law_any_half (mCons (mVar 1) mNil)))
    (mSeq (mIfS (mAnd (mTest (mOp fIsNot (mVar 3) (mC .non))) (mAnd (mTest (mOp fNe (mOp fIx (mVar 3) (mC (.int 0))) (mC (.int 0)))) (mTest (mOp fEq (mCall 2 [] m__law_take (mCons (mVar 1) (mCons (mC (.int 6)) mNil))) (mC (.int 0)))))) (mSet 4 (mCall 2 [] m__law_over (mCons (mTup (mCons (mC (.int 1)) (mCons (mC (.int 1)) mNil))) (mCons (mVar 3) mNil)))) mNext)
    (mIfS (mOr (mNot (mTru (mCall 3 [] m__law_added (mCons (mVar 1) (mCons (mVar 3) (mCons (mVar 4) mNil)))))) (mOr (mNot (mTru (mCall 2 [] m__law_quartered (mCons (mVar 1) (mCons (mCall 1 [] m__law_direction (mCons (mVar 3) mNil)) mNil))))) (mNot (mTru (mCall 1 [] m__law_rooted (mCons (mVar 1) mNil)))))) (mRet (mC (.bl false))) mNext))))
theorem turn_ok (x y z : Sl) (s : Hd) : ∃ (y' z' : Sl) (s' : Hd), turnBody [.no, .dat .hnd, x, y, z] s = .ok (.nx [.no, .dat .hnd, x, y', z']) s' := by
  obtain ⟨o, s1, e1, b1⟩ := any_half_ok s
  obtain ⟨p, s2, e2, b2⟩ := any_half_ok s1
  obtain ⟨r, s3, b3, e3⟩ := other_ok o p x b1 b2 s2
  have b1' : BdO 20 o := fun h e => (b1 h e).mono (by decide)
  obtain ⟨s4, e4⟩ := added_ok b1' b3 s3
  have e5 := direction_ok (by decide) b1' s4
  have db := dir_bd b1'
  obtain ⟨s5, e6⟩ := quartered_ok (d := dirOf o) ⟨db.1.mono (by decide), db.2.mono (by decide)⟩ (dir_unit o) s4
  obtain ⟨s6, e7⟩ := rooted_ok s5
  refine ⟨.dat (hd o), .dat (hd r), s6, ?_⟩
  unfold turnBody
  have E1 : (mSet 3 (mCall 1 [] m__law_any_half (mCons (mVar 1) mNil))) [.no, .dat .hnd, x, y, z] s = .ok (.nx [.no, .dat .hnd, x, .dat (hd o), z]) s1 := by
    generalize hd o = O at *
    simp [mSet, mCall, mCons, mNil, mVar, e1]
  have E2 : (mSet 4 (mCall 1 [] m__law_any_half (mCons (mVar 1) mNil))) [.no, .dat .hnd, x, .dat (hd o), z] s1 = .ok (.nx [.no, .dat .hnd, x, .dat (hd o), .dat (hd p)]) s2 := by
    generalize hd o = O at *
    generalize hd p = P at *
    simp [mSet, mCall, mCons, mNil, mVar, e2]
  refine (seq_nx E1).trans ((seq_nx E2).trans ((seq_nx e3).trans ?_))
  generalize hd o = O at *
  generalize hd r = R at *
  generalize dr (dirOf o) = D at *
  simp [mIfS, mOr, mNot, mTru, mCall, mCons, mNil, mVar, e4, e5, e6, e7, fTru, mNext]
theorem turn_loop : ∀ (ds : List Dt) (x y z : Sl) (s : Hd), ∃ (x' y' z' : Sl) (s' : Hd), loopF (gmName 2) turnBody ds [.no, .dat .hnd, x, y, z] s = .ok (.nx [.no, .dat .hnd, x', y', z']) s'
  | [], x, y, z, s => ⟨x, y, z, s, rfl⟩
  | d :: ds, x, y, z, s => by
    obtain ⟨y1, z1, s1, e1⟩ := turn_ok (.dat d) y z s
    obtain ⟨x', y', z', s', e⟩ := turn_loop ds (.dat d) y1 z1 s1
    refine ⟨x', y', z', s', ?_⟩
    unfold loopF
    simp only [gmName, List.set_cons_succ, List.set_cons_zero, e1]
    exact e
theorem law_rows (s : Hd) : m__law_same_rows [.tup [.tup [rat 0 1, rat 1 1], .tup [rat (-1) 1, rat 0 1], .tup [rat 0 1, rat (-1) 1], .tup [rat 1 1, rat 0 1]], .tup [.tup [rat 0 1, rat 1 1], .tup [rat (-1) 1, rat 0 1], .tup [rat 0 1, rat (-1) 1], .tup [rat 1 1, rat 0 1]]] s = .ok (.bl true) s := same_rows_ok (0, 1) (-1, 0) (0, -1) (1, 0) s
theorem math (s : Hd) : ∃ s' : Hd, b_law (lawE 3) s = .ok (.rt (.bl true)) s' := by
  obtain ⟨x, y, z, s', e⟩ := turn_loop (rangeD 0 (5 : Int).toNat) .no .no .no s
  have rk : rngOk 5 := by decide
  have l := law_rows s
  refine ⟨s', ?_⟩
  unfold b_law
  refine (seq_nx (ρ' := [.no, .dat .hnd, .no, .no, .no]) (s' := s) rfl).trans ((seq_nx (ρ' := [.no, .dat .hnd, .no, .no, .no]) (s' := s) ?_).trans ((seq_nx (ρ' := [.no, .dat .hnd, x, y, z]) (s' := s') ?_).trans rfl))
  · simp [mIfS, mNot, mTru, mCall, mCons, mNil, mTup, mC, mUn, fNeg, l, fTru, mNext]
  · rw [for_of (ds := rangeD 0 (5 : Int).toNat) (s' := s) (by simp [mRng1, mC, rk])]
    exact e
end Law


set_option Elab.async false
set_option linter.all false
set_option maxRecDepth 100000
set_option maxHeartbeats 4000000
namespace Law
open PySem PySem.Spec PyProof.Rows L2 Mir
open PySem.W (Frag)
def topS (i : Nat) : Stmt := PySem.Challenge.pw_stillarms_k10_whole_halves_and_quarters.main.body.getD i (.Pass ⟨0, 0, 0, 0⟩)
abbrev st__law_hand : Stmt := topS 47
theorem sc__law_hand : FnScope ["_law_script", "_law_great", "_law_mixed", "_law_cell", "_law_size_here"] ["_law_script"] (defScope st__law_hand) := ⟨rfl, rfl, rfl, by decide +kernel, rfl, by decide +kernel, by decide +kernel⟩
abbrev st__law_take : Stmt := topS 48
theorem sc__law_take : FnScope ["_law_hand_here", "_law_many", "_law_cell", "_law_once", "_law_twice"] ["_law_hand_here", "_law_many"] (defScope st__law_take) := ⟨rfl, rfl, rfl, by decide +kernel, rfl, by decide +kernel, by decide +kernel⟩
abbrev st__law_gcd : Stmt := topS 49
theorem sc__law_gcd : FnScope ["_law_one", "_law_other"] ["_law_one", "_law_other"] (defScope st__law_gcd) := ⟨rfl, rfl, rfl, by decide +kernel, rfl, by decide +kernel, by decide +kernel⟩
abbrev st__law_ratio : Stmt := topS 50
theorem sc__law_ratio : FnScope ["_law_top", "_law_bottom", "_law_part"] ["_law_top", "_law_bottom"] (defScope st__law_ratio) := ⟨rfl, rfl, rfl, by decide +kernel, rfl, by decide +kernel, by decide +kernel⟩
abbrev st__law_less : Stmt := topS 52
theorem sc__law_less : FnScope ["_law_one", "_law_other"] ["_law_one", "_law_other"] (defScope st__law_less) := ⟨rfl, rfl, rfl, by decide +kernel, rfl, by decide +kernel, by decide +kernel⟩
abbrev st__law_over : Stmt := topS 54
theorem sc__law_over : FnScope ["_law_one", "_law_other"] ["_law_one", "_law_other"] (defScope st__law_over) := ⟨rfl, rfl, rfl, by decide +kernel, rfl, by decide +kernel, by decide +kernel⟩
abbrev st__law_plus : Stmt := topS 51
theorem sc__law_plus : FnScope ["_law_one", "_law_other"] ["_law_one", "_law_other"] (defScope st__law_plus) := ⟨rfl, rfl, rfl, by decide +kernel, rfl, by decide +kernel, by decide +kernel⟩
abbrev st__law_times : Stmt := topS 53
theorem sc__law_times : FnScope ["_law_one", "_law_other"] ["_law_one", "_law_other"] (defScope st__law_times) := ⟨rfl, rfl, rfl, by decide +kernel, rfl, by decide +kernel, by decide +kernel⟩
abbrev st__law_direction : Stmt := topS 58
theorem sc__law_direction : FnScope ["_law_half_here", "_law_square", "_law_bottom"] ["_law_half_here"] (defScope st__law_direction) := ⟨rfl, rfl, rfl, by decide +kernel, rfl, by decide +kernel, by decide +kernel⟩
abbrev st__law_form : Stmt := topS 65
theorem sc__law_form : FnScope ["_law_hand_here", "_law_row"] ["_law_hand_here", "_law_row"] (defScope st__law_form) := ⟨rfl, rfl, rfl, by decide +kernel, rfl, by decide +kernel, by decide +kernel⟩
abbrev st__law_half_back : Stmt := topS 68
theorem sc__law_half_back : FnScope ["_law_direction_here"] ["_law_direction_here"] (defScope st__law_half_back) := ⟨rfl, rfl, rfl, by decide +kernel, rfl, by decide +kernel, by decide +kernel⟩
abbrev st__law_round : Stmt := topS 67
theorem sc__law_round : FnScope ["_law_half_here", "_law_bottom"] ["_law_half_here"] (defScope st__law_round) := ⟨rfl, rfl, rfl, by decide +kernel, rfl, by decide +kernel, by decide +kernel⟩
abbrev st__law_same : Stmt := topS 62
theorem sc__law_same : FnScope ["_law_told", "_law_due", "_law_number"] ["_law_told", "_law_due"] (defScope st__law_same) := ⟨rfl, rfl, rfl, by decide +kernel, rfl, by decide +kernel, by decide +kernel⟩
abbrev st__law_same_half : Stmt := topS 69
theorem sc__law_same_half : FnScope ["_law_told", "_law_due"] ["_law_told", "_law_due"] (defScope st__law_same_half) := ⟨rfl, rfl, rfl, by decide +kernel, rfl, by decide +kernel, by decide +kernel⟩
abbrev st__law_same_row : Stmt := topS 63
theorem sc__law_same_row : FnScope ["_law_told", "_law_due", "_law_k"] ["_law_told", "_law_due"] (defScope st__law_same_row) := ⟨rfl, rfl, rfl, by decide +kernel, rfl, by decide +kernel, by decide +kernel⟩
abbrev st__law_turned : Stmt := topS 66
theorem sc__law_turned : FnScope ["_law_direction_here", "_law_half_here", "_law_cosine", "_law_sine", "_law_x", "_law_y"] ["_law_direction_here", "_law_half_here"] (defScope st__law_turned) := ⟨rfl, rfl, rfl, by decide +kernel, rfl, by decide +kernel, by decide +kernel⟩
abbrev st_lowest_terms : Stmt := topS 12
theorem sc_lowest_terms : FnScope ["top", "bottom", "part"] ["top", "bottom"] (defScope st_lowest_terms) := ⟨rfl, rfl, rfl, by decide +kernel, rfl, by decide +kernel, by decide +kernel⟩
abbrev st_over : Stmt := topS 16
theorem sc_over : FnScope ["one", "other"] ["one", "other"] (defScope st_over) := ⟨rfl, rfl, rfl, by decide +kernel, rfl, by decide +kernel, by decide +kernel⟩
abbrev st__add_end : Stmt := topS 37
theorem sc__add_end : FnScope ["half"] ["half"] (defScope st__add_end) := ⟨rfl, rfl, rfl, by decide +kernel, rfl, by decide +kernel, by decide +kernel⟩
abbrev st_is_whole : Stmt := topS 10
theorem sc_is_whole : FnScope ["thing", "low", "high"] ["thing", "low", "high"] (defScope st_is_whole) := ⟨rfl, rfl, rfl, by decide +kernel, rfl, by decide +kernel, by decide +kernel⟩
abbrev st_is_ratio : Stmt := topS 11
theorem sc_is_ratio : FnScope ["thing", "top", "bottom"] ["thing"] (defScope st_is_ratio) := ⟨rfl, rfl, rfl, by decide +kernel, rfl, by decide +kernel, by decide +kernel⟩
abbrev st_is_half : Stmt := topS 32
theorem sc_is_half : FnScope ["thing"] ["thing"] (defScope st_is_half) := ⟨rfl, rfl, rfl, by decide +kernel, rfl, by decide +kernel, by decide +kernel⟩
abbrev st_check_half : Stmt := topS 33
theorem sc_check_half : FnScope ["half"] ["half"] (defScope st_check_half) := ⟨rfl, rfl, rfl, by decide +kernel, rfl, by decide +kernel, by decide +kernel⟩
abbrev st_minus : Stmt := topS 14
theorem sc_minus : FnScope ["one", "other"] ["one", "other"] (defScope st_minus) := ⟨rfl, rfl, rfl, by decide +kernel, rfl, by decide +kernel, by decide +kernel⟩
abbrev st_plus : Stmt := topS 13
theorem sc_plus : FnScope ["one", "other"] ["one", "other"] (defScope st_plus) := ⟨rfl, rfl, rfl, by decide +kernel, rfl, by decide +kernel, by decide +kernel⟩
abbrev st_times : Stmt := topS 15
theorem sc_times : FnScope ["one", "other"] ["one", "other"] (defScope st_times) := ⟨rfl, rfl, rfl, by decide +kernel, rfl, by decide +kernel, by decide +kernel⟩
abbrev st_add_halves : Stmt := topS 36
theorem sc_add_halves : FnScope ["one", "other", "rest"] ["one", "other"] (defScope st_add_halves) := ⟨rfl, rfl, rfl, by decide +kernel, rfl, by decide +kernel, by decide +kernel⟩
abbrev st_dot_of : Stmt := topS 29
theorem sc_dot_of : FnScope ["one", "other"] ["one", "other"] (defScope st_dot_of) := ⟨rfl, rfl, rfl, by decide +kernel, rfl, by decide +kernel, by decide +kernel⟩
abbrev st_is_row : Stmt := topS 19
theorem sc_is_row : FnScope ["thing", "least", "most"] ["thing", "least", "most"] (defScope st_is_row) := ⟨rfl, rfl, rfl, by decide +kernel, rfl, by decide +kernel, by decide +kernel⟩
abbrev st_is_spot : Stmt := topS 26
theorem sc_is_spot : FnScope ["thing"] ["thing"] (defScope st_is_spot) := ⟨rfl, rfl, rfl, by decide +kernel, rfl, by decide +kernel, by decide +kernel⟩
abbrev st_is_direction : Stmt := topS 27
theorem sc_is_direction : FnScope ["thing"] ["thing"] (defScope st_is_direction) := ⟨rfl, rfl, rfl, by decide +kernel, rfl, by decide +kernel, by decide +kernel⟩
abbrev st_check_direction : Stmt := topS 28
theorem sc_check_direction : FnScope ["direction"] ["direction"] (defScope st_check_direction) := ⟨rfl, rfl, rfl, by decide +kernel, rfl, by decide +kernel, by decide +kernel⟩
abbrev st_cosine_between : Stmt := topS 44
theorem sc_cosine_between : FnScope ["one", "other"] ["one", "other"] (defScope st_cosine_between) := ⟨rfl, rfl, rfl, by decide +kernel, rfl, by decide +kernel, by decide +kernel⟩
abbrev st_direction_by : Stmt := topS 34
theorem sc_direction_by : FnScope ["half", "top", "bottom", "whole"] ["half"] (defScope st_direction_by) := ⟨rfl, rfl, rfl, by decide +kernel, rfl, by decide +kernel, by decide +kernel⟩
abbrev st_negative : Stmt := topS 17
theorem sc_negative : FnScope ["one"] ["one"] (defScope st_negative) := ⟨rfl, rfl, rfl, by decide +kernel, rfl, by decide +kernel, by decide +kernel⟩
abbrev st_half_of : Stmt := topS 35
theorem sc_half_of : FnScope ["direction", "x", "y"] ["direction"] (defScope st_half_of) := ⟨rfl, rfl, rfl, by decide +kernel, rfl, by decide +kernel, by decide +kernel⟩
abbrev st_cross_of : Stmt := topS 30
theorem sc_cross_of : FnScope ["one", "other"] ["one", "other"] (defScope st_cross_of) := ⟨rfl, rfl, rfl, by decide +kernel, rfl, by decide +kernel, by decide +kernel⟩
abbrev st_sine_between : Stmt := topS 45
theorem sc_sine_between : FnScope ["one", "other"] ["one", "other"] (defScope st_sine_between) := ⟨rfl, rfl, rfl, by decide +kernel, rfl, by decide +kernel, by decide +kernel⟩
abbrev st_mirrored_direction : Stmt := topS 43
theorem sc_mirrored_direction : FnScope ["direction", "x", "y"] ["direction"] (defScope st_mirrored_direction) := ⟨rfl, rfl, rfl, by decide +kernel, rfl, by decide +kernel, by decide +kernel⟩
abbrev st_turned_as : Stmt := topS 39
theorem sc_turned_as : FnScope ["direction", "turn", "sine", "cosine"] ["direction", "turn"] (defScope st_turned_as) := ⟨rfl, rfl, rfl, by decide +kernel, rfl, by decide +kernel, by decide +kernel⟩
abbrev st_turned_by : Stmt := topS 38
theorem sc_turned_by : FnScope ["direction", "half"] ["direction", "half"] (defScope st_turned_by) := ⟨rfl, rfl, rfl, by decide +kernel, rfl, by decide +kernel, by decide +kernel⟩
abbrev st__law_added : Stmt := topS 70
theorem sc__law_added : FnScope ["_law_hand_here", "_law_one", "_law_other", "_law_first", "_law_both", "_law_due", "_law_told", "_law_cosine", "_law_sine"] ["_law_hand_here", "_law_one", "_law_other"] (defScope st__law_added) := ⟨rfl, rfl, rfl, by decide +kernel, rfl, by decide +kernel, by decide +kernel⟩
abbrev st__law_half : Stmt := topS 59
theorem sc__law_half : FnScope ["_law_hand_here", "_law_turn"] ["_law_hand_here"] (defScope st__law_half) := ⟨rfl, rfl, rfl, by decide +kernel, rfl, by decide +kernel, by decide +kernel⟩
abbrev st__law_any_half : Stmt := topS 61
theorem sc__law_any_half : FnScope ["_law_hand_here"] ["_law_hand_here"] (defScope st__law_any_half) := ⟨rfl, rfl, rfl, by decide +kernel, rfl, by decide +kernel, by decide +kernel⟩
abbrev st_opposite_of : Stmt := topS 42
theorem sc_opposite_of : FnScope ["direction", "x", "y"] ["direction"] (defScope st_opposite_of) := ⟨rfl, rfl, rfl, by decide +kernel, rfl, by decide +kernel, by decide +kernel⟩
abbrev st_turned_quarters : Stmt := topS 40
theorem sc_turned_quarters : FnScope ["direction", "quarters", "x", "y", "_"] ["direction", "quarters"] (defScope st_turned_quarters) := ⟨rfl, rfl, rfl, by decide +kernel, rfl, by decide +kernel, by decide +kernel⟩
abbrev st_quarter_direction : Stmt := topS 41
theorem sc_quarter_direction : FnScope ["quarters"] ["quarters"] (defScope st_quarter_direction) := ⟨rfl, rfl, rfl, by decide +kernel, rfl, by decide +kernel, by decide +kernel⟩
abbrev st__law_quartered : Stmt := topS 71
theorem sc__law_quartered : FnScope ["_law_hand_here", "_law_direction_here", "_law_number", "_law_rows", "_law_due", "_law_turn", "_law_x", "_law_y"] ["_law_hand_here", "_law_direction_here"] (defScope st__law_quartered) := ⟨rfl, rfl, rfl, by decide +kernel, rfl, by decide +kernel, by decide +kernel⟩
abbrev st__law_is_ratio : Stmt := topS 56
theorem sc__law_is_ratio : FnScope ["_law_thing", "_law_part"] ["_law_thing"] (defScope st__law_is_ratio) := ⟨rfl, rfl, rfl, by decide +kernel, rfl, by decide +kernel, by decide +kernel⟩
abbrev st__law_is_square : Stmt := topS 72
theorem sc__law_is_square : FnScope ["_law_number", "_law_k"] ["_law_number"] (defScope st__law_is_square) := ⟨rfl, rfl, rfl, by decide +kernel, rfl, by decide +kernel, by decide +kernel⟩
abbrev st__law_size : Stmt := topS 55
theorem sc__law_size : FnScope ["_law_one"] ["_law_one"] (defScope st__law_size) := ⟨rfl, rfl, rfl, by decide +kernel, rfl, by decide +kernel, by decide +kernel⟩
abbrev st__law_mark : Stmt := topS 57
theorem sc__law_mark : FnScope ["_law_hand_here"] ["_law_hand_here"] (defScope st__law_mark) := ⟨rfl, rfl, rfl, by decide +kernel, rfl, by decide +kernel, by decide +kernel⟩
abbrev st__law_wide : Stmt := topS 60
theorem sc__law_wide : FnScope ["_law_hand_here", "_law_way"] ["_law_hand_here"] (defScope st__law_wide) := ⟨rfl, rfl, rfl, by decide +kernel, rfl, by decide +kernel, by decide +kernel⟩
abbrev st_root_of : Stmt := topS 31
theorem sc_root_of : FnScope ["ratio", "top", "bottom", "root"] ["ratio"] (defScope st_root_of) := ⟨rfl, rfl, rfl, by decide +kernel, rfl, by decide +kernel, by decide +kernel⟩
abbrev st__law_rooted : Stmt := topS 73
theorem sc__law_rooted : FnScope ["_law_hand_here", "_law_one", "_law_square", "_law_small", "_law_told"] ["_law_hand_here"] (defScope st__law_rooted) := ⟨rfl, rfl, rfl, by decide +kernel, rfl, by decide +kernel, by decide +kernel⟩
abbrev st__law_same_rows : Stmt := topS 64
theorem sc__law_same_rows : FnScope ["_law_told", "_law_due", "_law_k"] ["_law_told", "_law_due"] (defScope st__law_same_rows) := ⟨rfl, rfl, rfl, by decide +kernel, rfl, by decide +kernel, by decide +kernel⟩
abbrev st_law : Stmt := topS 74
theorem sc_law : FnScope ["_law_script", "_law_hand_here", "_law_turn", "_law_one", "_law_other"] ["_law_script"] (defScope st_law) := ⟨rfl, rfl, rfl, by decide +kernel, rfl, by decide +kernel, by decide +kernel⟩
/-- what the top has written -/
structure Txt (K : Frag) (mg : Str → Option Value) : Prop where
  F__law_hand : ∃ (f : Addr) (fd : FuncData), Fun K "_law_hand" "_law_hand" st__law_hand f fd ∧ mg "_law_hand" = some (.ref f)
  F__law_take : ∃ (f : Addr) (fd : FuncData), Fun K "_law_take" "_law_take" st__law_take f fd ∧ mg "_law_take" = some (.ref f)
  F__law_gcd : ∃ (f : Addr) (fd : FuncData), Fun K "_law_gcd" "_law_gcd" st__law_gcd f fd ∧ mg "_law_gcd" = some (.ref f)
  F__law_ratio : ∃ (f : Addr) (fd : FuncData), Fun K "_law_ratio" "_law_ratio" st__law_ratio f fd ∧ mg "_law_ratio" = some (.ref f)
  F__law_less : ∃ (f : Addr) (fd : FuncData), Fun K "_law_less" "_law_less" st__law_less f fd ∧ mg "_law_less" = some (.ref f)
  F__law_over : ∃ (f : Addr) (fd : FuncData), Fun K "_law_over" "_law_over" st__law_over f fd ∧ mg "_law_over" = some (.ref f)
  F__law_plus : ∃ (f : Addr) (fd : FuncData), Fun K "_law_plus" "_law_plus" st__law_plus f fd ∧ mg "_law_plus" = some (.ref f)
  F__law_times : ∃ (f : Addr) (fd : FuncData), Fun K "_law_times" "_law_times" st__law_times f fd ∧ mg "_law_times" = some (.ref f)
  F__law_direction : ∃ (f : Addr) (fd : FuncData), Fun K "_law_direction" "_law_direction" st__law_direction f fd ∧ mg "_law_direction" = some (.ref f)
  F__law_form : ∃ (f : Addr) (fd : FuncData), Fun K "_law_form" "_law_form" st__law_form f fd ∧ mg "_law_form" = some (.ref f)
  F__law_half_back : ∃ (f : Addr) (fd : FuncData), Fun K "_law_half_back" "_law_half_back" st__law_half_back f fd ∧ mg "_law_half_back" = some (.ref f)
  F__law_round : ∃ (f : Addr) (fd : FuncData), Fun K "_law_round" "_law_round" st__law_round f fd ∧ mg "_law_round" = some (.ref f)
  F__law_same : ∃ (f : Addr) (fd : FuncData), Fun K "_law_same" "_law_same" st__law_same f fd ∧ mg "_law_same" = some (.ref f)
  F__law_same_half : ∃ (f : Addr) (fd : FuncData), Fun K "_law_same_half" "_law_same_half" st__law_same_half f fd ∧ mg "_law_same_half" = some (.ref f)
  F__law_same_row : ∃ (f : Addr) (fd : FuncData), Fun K "_law_same_row" "_law_same_row" st__law_same_row f fd ∧ mg "_law_same_row" = some (.ref f)
  F__law_turned : ∃ (f : Addr) (fd : FuncData), Fun K "_law_turned" "_law_turned" st__law_turned f fd ∧ mg "_law_turned" = some (.ref f)
  F_lowest_terms : ∃ (f : Addr) (fd : FuncData), Fun K "lowest_terms" "lowest_terms" st_lowest_terms f fd ∧ mg "lowest_terms" = some (.ref f)
  F_over : ∃ (f : Addr) (fd : FuncData), Fun K "over" "over" st_over f fd ∧ mg "over" = some (.ref f)
  F__add_end : ∃ (f : Addr) (fd : FuncData), Fun K "_add_end" "_add_end" st__add_end f fd ∧ mg "_add_end" = some (.ref f)
  F_is_whole : ∃ (f : Addr) (fd : FuncData), FunD K "is_whole" "is_whole" (defArgs st_is_whole) (defBody st_is_whole) (defScope st_is_whole) [.non, .non] [] f fd ∧ mg "is_whole" = some (.ref f)
  F_is_ratio : ∃ (f : Addr) (fd : FuncData), Fun K "is_ratio" "is_ratio" st_is_ratio f fd ∧ mg "is_ratio" = some (.ref f)
  F_is_half : ∃ (f : Addr) (fd : FuncData), Fun K "is_half" "is_half" st_is_half f fd ∧ mg "is_half" = some (.ref f)
  F_check_half : ∃ (f : Addr) (fd : FuncData), Fun K "check_half" "check_half" st_check_half f fd ∧ mg "check_half" = some (.ref f)
  F_minus : ∃ (f : Addr) (fd : FuncData), Fun K "minus" "minus" st_minus f fd ∧ mg "minus" = some (.ref f)
  F_plus : ∃ (f : Addr) (fd : FuncData), Fun K "plus" "plus" st_plus f fd ∧ mg "plus" = some (.ref f)
  F_times : ∃ (f : Addr) (fd : FuncData), Fun K "times" "times" st_times f fd ∧ mg "times" = some (.ref f)
  F_add_halves : ∃ (f : Addr) (fd : FuncData), Fun K "add_halves" "add_halves" st_add_halves f fd ∧ mg "add_halves" = some (.ref f)
  F_dot_of : ∃ (f : Addr) (fd : FuncData), Fun K "dot_of" "dot_of" st_dot_of f fd ∧ mg "dot_of" = some (.ref f)
  F_is_row : ∃ (f : Addr) (fd : FuncData), FunD K "is_row" "is_row" (defArgs st_is_row) (defBody st_is_row) (defScope st_is_row) [.int 0, .non] [] f fd ∧ mg "is_row" = some (.ref f)
  F_is_spot : ∃ (f : Addr) (fd : FuncData), Fun K "is_spot" "is_spot" st_is_spot f fd ∧ mg "is_spot" = some (.ref f)
  F_is_direction : ∃ (f : Addr) (fd : FuncData), Fun K "is_direction" "is_direction" st_is_direction f fd ∧ mg "is_direction" = some (.ref f)
  F_check_direction : ∃ (f : Addr) (fd : FuncData), Fun K "check_direction" "check_direction" st_check_direction f fd ∧ mg "check_direction" = some (.ref f)
  F_cosine_between : ∃ (f : Addr) (fd : FuncData), Fun K "cosine_between" "cosine_between" st_cosine_between f fd ∧ mg "cosine_between" = some (.ref f)
  F_direction_by : ∃ (f : Addr) (fd : FuncData), Fun K "direction_by" "direction_by" st_direction_by f fd ∧ mg "direction_by" = some (.ref f)
  F_negative : ∃ (f : Addr) (fd : FuncData), Fun K "negative" "negative" st_negative f fd ∧ mg "negative" = some (.ref f)
  F_half_of : ∃ (f : Addr) (fd : FuncData), Fun K "half_of" "half_of" st_half_of f fd ∧ mg "half_of" = some (.ref f)
  F_cross_of : ∃ (f : Addr) (fd : FuncData), Fun K "cross_of" "cross_of" st_cross_of f fd ∧ mg "cross_of" = some (.ref f)
  F_sine_between : ∃ (f : Addr) (fd : FuncData), Fun K "sine_between" "sine_between" st_sine_between f fd ∧ mg "sine_between" = some (.ref f)
  F_mirrored_direction : ∃ (f : Addr) (fd : FuncData), Fun K "mirrored_direction" "mirrored_direction" st_mirrored_direction f fd ∧ mg "mirrored_direction" = some (.ref f)
  F_turned_as : ∃ (f : Addr) (fd : FuncData), Fun K "turned_as" "turned_as" st_turned_as f fd ∧ mg "turned_as" = some (.ref f)
  F_turned_by : ∃ (f : Addr) (fd : FuncData), Fun K "turned_by" "turned_by" st_turned_by f fd ∧ mg "turned_by" = some (.ref f)
  F__law_added : ∃ (f : Addr) (fd : FuncData), Fun K "_law_added" "_law_added" st__law_added f fd ∧ mg "_law_added" = some (.ref f)
  F__law_half : ∃ (f : Addr) (fd : FuncData), Fun K "_law_half" "_law_half" st__law_half f fd ∧ mg "_law_half" = some (.ref f)
  F__law_any_half : ∃ (f : Addr) (fd : FuncData), Fun K "_law_any_half" "_law_any_half" st__law_any_half f fd ∧ mg "_law_any_half" = some (.ref f)
  F_opposite_of : ∃ (f : Addr) (fd : FuncData), Fun K "opposite_of" "opposite_of" st_opposite_of f fd ∧ mg "opposite_of" = some (.ref f)
  F_turned_quarters : ∃ (f : Addr) (fd : FuncData), Fun K "turned_quarters" "turned_quarters" st_turned_quarters f fd ∧ mg "turned_quarters" = some (.ref f)
  F_quarter_direction : ∃ (f : Addr) (fd : FuncData), Fun K "quarter_direction" "quarter_direction" st_quarter_direction f fd ∧ mg "quarter_direction" = some (.ref f)
  F__law_quartered : ∃ (f : Addr) (fd : FuncData), Fun K "_law_quartered" "_law_quartered" st__law_quartered f fd ∧ mg "_law_quartered" = some (.ref f)
  F__law_is_ratio : ∃ (f : Addr) (fd : FuncData), Fun K "_law_is_ratio" "_law_is_ratio" st__law_is_ratio f fd ∧ mg "_law_is_ratio" = some (.ref f)
  F__law_is_square : ∃ (f : Addr) (fd : FuncData), Fun K "_law_is_square" "_law_is_square" st__law_is_square f fd ∧ mg "_law_is_square" = some (.ref f)
  F__law_size : ∃ (f : Addr) (fd : FuncData), Fun K "_law_size" "_law_size" st__law_size f fd ∧ mg "_law_size" = some (.ref f)
  F__law_mark : ∃ (f : Addr) (fd : FuncData), Fun K "_law_mark" "_law_mark" st__law_mark f fd ∧ mg "_law_mark" = some (.ref f)
  F__law_wide : ∃ (f : Addr) (fd : FuncData), Fun K "_law_wide" "_law_wide" st__law_wide f fd ∧ mg "_law_wide" = some (.ref f)
  F_root_of : ∃ (f : Addr) (fd : FuncData), Fun K "root_of" "root_of" st_root_of f fd ∧ mg "root_of" = some (.ref f)
  F__law_rooted : ∃ (f : Addr) (fd : FuncData), Fun K "_law_rooted" "_law_rooted" st__law_rooted f fd ∧ mg "_law_rooted" = some (.ref f)
  F__law_same_rows : ∃ (f : Addr) (fd : FuncData), Fun K "_law_same_rows" "_law_same_rows" st__law_same_rows f fd ∧ mg "_law_same_rows" = some (.ref f)
  F_law : ∃ (f : Addr) (fd : FuncData), Fun K "law" "law" st_law f fd ∧ mg "law" = some (.ref f)
  g_DOWN : ∃ Z : Addr, mg "DOWN" = some (.ref Z) ∧ ∀ (h : Addr) (H : Hp), Den K mg h H (.ref Z) (.tup [.tup [.int 0, .int 1], .tup [.int (-1), .int 1]])
  g_END : mg "END" = some .none
  g_LEFT : ∃ Z : Addr, mg "LEFT" = some (.ref Z) ∧ ∀ (h : Addr) (H : Hp), Den K mg h H (.ref Z) (.tup [.tup [.int (-1), .int 1], .tup [.int 0, .int 1]])
  g_ONE : ∃ Z : Addr, mg "ONE" = some (.ref Z) ∧ ∀ (h : Addr) (H : Hp), Den K mg h H (.ref Z) (.tup [.int 1, .int 1])
  g_RIGHT : ∃ Z : Addr, mg "RIGHT" = some (.ref Z) ∧ ∀ (h : Addr) (H : Hp), Den K mg h H (.ref Z) (.tup [.tup [.int 1, .int 1], .tup [.int 0, .int 1]])
  g_UP : ∃ Z : Addr, mg "UP" = some (.ref Z) ∧ ∀ (h : Addr) (H : Hp), Den K mg h H (.ref Z) (.tup [.tup [.int 0, .int 1], .tup [.int 1, .int 1]])
  g_ZERO : ∃ Z : Addr, mg "ZERO" = some (.ref Z) ∧ ∀ (h : Addr) (H : Hp), Den K mg h H (.ref Z) (.tup [.int 0, .int 1])
  i_gcd : mg "gcd" = some (.builtin "math.gcd")
  i_isqrt : mg "isqrt" = some (.builtin "math.isqrt")
  z_abs : mg "abs" = none
  z_bool : mg "bool" = none
  z_int : mg "int" = none
  z_isinstance : mg "isinstance" = none
  z_len : mg "len" = none
  z_list : mg "list" = none
  z_range : mg "range" = none
  z_tuple : mg "tuple" = none
section
variable {P : Program} {w : World} {K : Frag} {mg : Str → Option Value} {base : Heap}
theorem f__law_hand (T : Txt K mg) {f : Addr} {fd : FuncData} (F : Fun K "_law_hand" "_law_hand" st__law_hand f fd) : FnOk P w K mg base (L2.CX P w) 1 f fd ["_law_script"] (spHand K) := by
  refine F.okX (k := 0) sc__law_hand (fun vs H Q E h => ?_) (fun cdv A outer s H vs Q E hr h => ⟨tHand K, ?_, ?_⟩)
  · obtain ⟨a, ns, rfl, _⟩ := h
    rfl
  · exact pss_cons (ps_set (i := 1) sc__law_hand.nd rfl (.inl rfl) (pe_lst pa_nil)) (pss_cons (ps_set (i := 2) sc__law_hand.nd rfl (.inl rfl) (pe_op op_add (pe_callB call_lenA (by rfl) T.z_len (by decide +kernel) (pa_cons (pv 0) pa_nil)) pe_int)) (pss_cons (ps_for (passes_of rfl) rfl (pi_list (pv 0)) (pg_name (i := 3) sc__law_hand.nd rfl (.inl rfl)) (pss_cons (ps_set (i := 4) sc__law_hand.nd rfl (.inl rfl) (pe_callB call_abs (by rfl) T.z_abs (by decide +kernel) (pa_cons (pe_callTy call_int1 (by rfl) T.z_int (by decide +kernel) (pa_cons (pv 3) pa_nil)) pa_nil))) (pss_cons (ps_set (i := 2) sc__law_hand.nd rfl (.inl rfl) (pe_op op_add (pe_op op_mod (pe_callTy call_int1 (by rfl) T.z_int (by decide +kernel) (pa_cons (pe_op op_add (pe_op op_mul (pv 2) pe_int) (pv 4)) pa_nil)) pe_int) pe_int)) (pss_one (ps_if (pt_cmpR op_ge (pv 4) (pe_op op_pow pe_int pe_int) (nomark _)) (pss_one (ps_expr (pe_bm PySem.F.plainAttrs_list PySem.F.slot_list_append PySem.F.type_list_append mt_append (pv 1) (pa_cons (pv 4) pa_nil)))) pss_nil))))) (pss_one (ps_ret (pe_lst (pa_cons (pv 1) (pa_cons (pv 2) (pa_cons pe_int pa_nil))))))))
  · have h' := h
    obtain ⟨a, ns, rfl, _⟩ := h'
    exact hand_run h
theorem f__law_take (T : Txt K mg) {f : Addr} {fd : FuncData} (F : Fun K "_law_take" "_law_take" st__law_take f fd) : FnOk P w K mg base (L2.CX P w) 1 f fd ["_law_hand_here", "_law_many"] (spM K mg 2 m__law_take) := by
  refine F.okX (k := 0) sc__law_take (fun vs H Q E h => h.1) (fun cdv A outer s H vs Q E hr h => ⟨tTake K, ?_, ?_⟩)
  · exact pss_cons (ps_while (passes_of rfl) (pw_and (pt_truth (pe_ix ix_list (pv 0) pe_int (fun _ _ => rfl)) (fun _ => rfl)) (pw_and1 (pt_cmpR op_eq (pe_ix ix_list (pe_ix ix_list (pv 0) pe_int (fun _ _ => rfl)) pe_int (fun _ _ => rfl)) pe_int (nomark _)))).pt (pss_one (ps_asg (pe_slice sl_list (pe_ix ix_list (pv 0) pe_int (fun _ _ => rfl)) (po_some pe_int) po_none) (pg_sub (pv 0) pe_int set_list)))) (pss_cons (ps_if (pt_truth (pe_ix ix_list (pv 0) pe_int (fun _ _ => rfl)) (fun _ => rfl)) (pss_cons (ps_set (i := 2) sc__law_take.nd rfl (.inl rfl) (pe_ix ix_list (pe_ix ix_list (pv 0) pe_int (fun _ _ => rfl)) pe_int (fun _ _ => rfl))) (pss_cons (ps_asg (pe_op op_fdivW (pe_callTy call_int1 (by rfl) T.z_int (by decide +kernel) (pa_cons (pv 2) pa_nil)) (pv 1)) (pg_sub (pe_ix ix_list (pv 0) pe_int (fun _ _ => rfl)) pe_int set_list)) (pss_one (ps_ret (pe_op op_mod (pe_callTy call_int1 (by rfl) T.z_int (by decide +kernel) (pa_cons (pv 2) pa_nil)) (pv 1)))))) pss_nil) (pss_cons (ps_asg (pe_op op_add (pe_ix ix_list (pv 0) pe_int (fun _ _ => rfl)) pe_int) (pg_sub (pv 0) pe_int set_list)) (pss_cons (ps_asg (pe_op op_mod (pe_callTy call_int1 (by rfl) T.z_int (by decide +kernel) (pa_cons (pe_op op_add (pe_op op_mul (pe_ix ix_list (pv 0) pe_int (fun _ _ => rfl)) pe_int) pe_int) pa_nil)) pe_int) (pg_sub (pv 0) pe_int set_list)) (pss_cons (ps_set (i := 3) sc__law_take.nd rfl (.inl rfl) (pe_op op_mod (pe_callTy call_int1 (by rfl) T.z_int (by decide +kernel) (pa_cons (pe_op op_add (pe_op op_mul (pe_ix ix_list (pv 0) pe_int (fun _ _ => rfl)) pe_int) (pe_op op_mul (pe_ix ix_list (pv 0) pe_int (fun _ _ => rfl)) pe_int)) pa_nil)) pe_int)) (pss_cons (ps_set (i := 4) sc__law_take.nd rfl (.inl rfl) (pe_op op_mod (pe_callTy call_int1 (by rfl) T.z_int (by decide +kernel) (pa_cons (pe_op op_add (pe_op op_add (pe_op op_mul (pv 3) (pv 3)) (pe_op op_mul (pe_ix ix_list (pv 0) pe_int (fun _ _ => rfl)) pe_int)) (pe_op op_fdiv (pv 3) pe_int)) pa_nil)) pe_int)) (pss_one (ps_ret (pe_op op_mod (pe_callTy call_int1 (by rfl) T.z_int (by decide +kernel) (pa_cons (pe_op op_fdiv (pv 4) pe_int) pa_nil)) (pv 1)))))))))
  · have h' := h
    obtain ⟨hl, _⟩ := h'
    obtain ⟨a, b, rfl⟩ : ∃ a b, vs = [a, b] := by
      match vs, hl with
      | [a, b], _ => exact ⟨a, b, rfl⟩
    exact take_run h
theorem c__law_take (T : Txt K mg) : Callee P w K mg base 1 "_law_take" 2 [] m__law_take := by
  obtain ⟨f, fd, F, hm⟩ := T.F__law_take
  exact ⟨f, fd, ["_law_hand_here", "_law_many"], [], [], f__law_take T F, hm, F.kp, F.binds (ps := ["_law_hand_here", "_law_many"]) (fun _ _ _ _ _ _ us hl => match us, hl with | [_, _], _ => rfl), .nil, fun _ _ => .nil⟩
theorem f__law_gcd (T : Txt K mg) {f : Addr} {fd : FuncData} (F : Fun K "_law_gcd" "_law_gcd" st__law_gcd f fd) : FnOk P w K mg base (L2.CX P w) 1 f fd ["_law_one", "_law_other"] (spM K mg 2 m__law_gcd) := by
  have z_abs := T.z_abs
  have z_int := T.z_int
  show FnOk P w K mg base (L2.CX P w) (0 + 1) f fd ["_law_one", "_law_other"] (spM K mg 2 (mDef 2 b__law_gcd))
  refine okM F sc__law_gcd rfl rfl (fun cdv A outer s H E hr => ?_)
  exact (qss_cons (qs_par 0 1 rfl sc__law_gcd.nd (by decide) (qa_cons (qe_callB call_abs cs_abs (by rfl) z_abs (by decide +kernel) (qa_cons (qe_var 0) qa_nil)) (qa_cons (qe_callB call_abs cs_abs (by rfl) z_abs (by decide +kernel) (qa_cons (qe_var 1) qa_nil)) qa_nil))) (qss_cons (qs_while cx_pass (qt_tru (qe_var 1)) (qss_one (qs_par 0 1 rfl sc__law_gcd.nd (by decide) (qa_cons (qe_var 1) (qa_cons (qe_op op_modN os_mod (qe_callTy call_int1 cs_int (by rfl) z_int (by decide +kernel) (qa_cons (qe_var 0) qa_nil)) (qe_var 1)) qa_nil))))) (qss_one (qs_ret (qe_var 0)))))
theorem c__law_gcd (T : Txt K mg) : Callee P w K mg base 1 "_law_gcd" 2 [] m__law_gcd := by
  obtain ⟨f, fd, F, hm⟩ := T.F__law_gcd
  exact ⟨f, fd, ["_law_one", "_law_other"], [], [], f__law_gcd T  F, hm, F.kp, F.binds (ps := ["_law_one", "_law_other"]) (fun _ _ _ _ _ _ us hl => match us, hl with | [_, _], _ => rfl), .nil, fun _ _ => .nil⟩
theorem f__law_ratio (T : Txt K mg) (C__law_gcd : Callee P w K mg base 1 "_law_gcd" 2 [] m__law_gcd) {f : Addr} {fd : FuncData} (F : Fun K "_law_ratio" "_law_ratio" st__law_ratio f fd) : FnOk P w K mg base (L2.CX P w) 2 f fd ["_law_top", "_law_bottom"] (spM K mg 2 m__law_ratio) := by
  show FnOk P w K mg base (L2.CX P w) (1 + 1) f fd ["_law_top", "_law_bottom"] (spM K mg 2 (mDef 3 b__law_ratio))
  refine okM F sc__law_ratio rfl rfl (fun cdv A outer s H E hr => ?_)
  exact (qss_cons (qs_set 2 sc__law_ratio.nd (qe_c C__law_gcd hr (by decide) cx_takes (qa_cons (qe_var 0) (qa_cons (qe_var 1) qa_nil)))) (qss_cons (qs_if (qt_cmp op_lt os_lt (qe_var 1) qe_int (nomark _)) (qss_one (qs_set 2 sc__law_ratio.nd (qe_un un_neg us_neg (qe_var 2)))) qss_nil) (qss_one (qs_ret (qe_tup (qa_cons (qe_op op_divA os_div (qe_var 0) (qe_var 2)) (qa_cons (qe_op op_divA os_div (qe_var 1) (qe_var 2)) qa_nil)))))))
theorem c__law_ratio (T : Txt K mg) (C__law_gcd : Callee P w K mg base 1 "_law_gcd" 2 [] m__law_gcd) : Callee P w K mg base 2 "_law_ratio" 2 [] m__law_ratio := by
  obtain ⟨f, fd, F, hm⟩ := T.F__law_ratio
  exact ⟨f, fd, ["_law_top", "_law_bottom"], [], [], f__law_ratio T C__law_gcd F, hm, F.kp, F.binds (ps := ["_law_top", "_law_bottom"]) (fun _ _ _ _ _ _ us hl => match us, hl with | [_, _], _ => rfl), .nil, fun _ _ => .nil⟩
theorem f__law_less (T : Txt K mg) (C__law_ratio : Callee P w K mg base 2 "_law_ratio" 2 [] m__law_ratio) {f : Addr} {fd : FuncData} (F : Fun K "_law_less" "_law_less" st__law_less f fd) : FnOk P w K mg base (L2.CX P w) 3 f fd ["_law_one", "_law_other"] (spM K mg 2 m__law_less) := by
  show FnOk P w K mg base (L2.CX P w) (2 + 1) f fd ["_law_one", "_law_other"] (spM K mg 2 (mDef 2 b__law_less))
  refine okM F sc__law_less rfl rfl (fun cdv A outer s H E hr => ?_)
  exact (qss_one (qs_ret (qe_c C__law_ratio hr (by decide) cx_takes (qa_cons (qe_op op_sub os_sub (qe_op op_mulA os_mul (qe_ix (qe_var 0) qe_int) (qe_ix (qe_var 1) qe_int)) (qe_op op_mulA os_mul (qe_ix (qe_var 1) qe_int) (qe_ix (qe_var 0) qe_int))) (qa_cons (qe_op op_mulA os_mul (qe_ix (qe_var 0) qe_int) (qe_ix (qe_var 1) qe_int)) qa_nil)))))
theorem c__law_less (T : Txt K mg) (C__law_ratio : Callee P w K mg base 2 "_law_ratio" 2 [] m__law_ratio) : Callee P w K mg base 3 "_law_less" 2 [] m__law_less := by
  obtain ⟨f, fd, F, hm⟩ := T.F__law_less
  exact ⟨f, fd, ["_law_one", "_law_other"], [], [], f__law_less T C__law_ratio F, hm, F.kp, F.binds (ps := ["_law_one", "_law_other"]) (fun _ _ _ _ _ _ us hl => match us, hl with | [_, _], _ => rfl), .nil, fun _ _ => .nil⟩
theorem f__law_over (T : Txt K mg) (C__law_ratio : Callee P w K mg base 2 "_law_ratio" 2 [] m__law_ratio) {f : Addr} {fd : FuncData} (F : Fun K "_law_over" "_law_over" st__law_over f fd) : FnOk P w K mg base (L2.CX P w) 3 f fd ["_law_one", "_law_other"] (spM K mg 2 m__law_over) := by
  show FnOk P w K mg base (L2.CX P w) (2 + 1) f fd ["_law_one", "_law_other"] (spM K mg 2 (mDef 2 b__law_over))
  refine okM F sc__law_over rfl rfl (fun cdv A outer s H E hr => ?_)
  exact (qss_one (qs_ret (qe_c C__law_ratio hr (by decide) cx_takes (qa_cons (qe_op op_mulA os_mul (qe_ix (qe_var 0) qe_int) (qe_ix (qe_var 1) qe_int)) (qa_cons (qe_op op_mulA os_mul (qe_ix (qe_var 0) qe_int) (qe_ix (qe_var 1) qe_int)) qa_nil)))))
theorem c__law_over (T : Txt K mg) (C__law_ratio : Callee P w K mg base 2 "_law_ratio" 2 [] m__law_ratio) : Callee P w K mg base 3 "_law_over" 2 [] m__law_over := by
  obtain ⟨f, fd, F, hm⟩ := T.F__law_over
  exact ⟨f, fd, ["_law_one", "_law_other"], [], [], f__law_over T C__law_ratio F, hm, F.kp, F.binds (ps := ["_law_one", "_law_other"]) (fun _ _ _ _ _ _ us hl => match us, hl with | [_, _], _ => rfl), .nil, fun _ _ => .nil⟩
theorem f__law_plus (T : Txt K mg) (C__law_ratio : Callee P w K mg base 2 "_law_ratio" 2 [] m__law_ratio) {f : Addr} {fd : FuncData} (F : Fun K "_law_plus" "_law_plus" st__law_plus f fd) : FnOk P w K mg base (L2.CX P w) 3 f fd ["_law_one", "_law_other"] (spM K mg 2 m__law_plus) := by
  show FnOk P w K mg base (L2.CX P w) (2 + 1) f fd ["_law_one", "_law_other"] (spM K mg 2 (mDef 2 b__law_plus))
  refine okM F sc__law_plus rfl rfl (fun cdv A outer s H E hr => ?_)
  exact (qss_one (qs_ret (qe_c C__law_ratio hr (by decide) cx_takes (qa_cons (qe_op op_addA os_add (qe_op op_mulA os_mul (qe_ix (qe_var 0) qe_int) (qe_ix (qe_var 1) qe_int)) (qe_op op_mulA os_mul (qe_ix (qe_var 1) qe_int) (qe_ix (qe_var 0) qe_int))) (qa_cons (qe_op op_mulA os_mul (qe_ix (qe_var 0) qe_int) (qe_ix (qe_var 1) qe_int)) qa_nil)))))
theorem c__law_plus (T : Txt K mg) (C__law_ratio : Callee P w K mg base 2 "_law_ratio" 2 [] m__law_ratio) : Callee P w K mg base 3 "_law_plus" 2 [] m__law_plus := by
  obtain ⟨f, fd, F, hm⟩ := T.F__law_plus
  exact ⟨f, fd, ["_law_one", "_law_other"], [], [], f__law_plus T C__law_ratio F, hm, F.kp, F.binds (ps := ["_law_one", "_law_other"]) (fun _ _ _ _ _ _ us hl => match us, hl with | [_, _], _ => rfl), .nil, fun _ _ => .nil⟩
theorem f__law_times (T : Txt K mg) (C__law_ratio : Callee P w K mg base 2 "_law_ratio" 2 [] m__law_ratio) {f : Addr} {fd : FuncData} (F : Fun K "_law_times" "_law_times" st__law_times f fd) : FnOk P w K mg base (L2.CX P w) 3 f fd ["_law_one", "_law_other"] (spM K mg 2 m__law_times) := by
  show FnOk P w K mg base (L2.CX P w) (2 + 1) f fd ["_law_one", "_law_other"] (spM K mg 2 (mDef 2 b__law_times))
  refine okM F sc__law_times rfl rfl (fun cdv A outer s H E hr => ?_)
  exact (qss_one (qs_ret (qe_c C__law_ratio hr (by decide) cx_takes (qa_cons (qe_op op_mulA os_mul (qe_ix (qe_var 0) qe_int) (qe_ix (qe_var 1) qe_int)) (qa_cons (qe_op op_mulA os_mul (qe_ix (qe_var 0) qe_int) (qe_ix (qe_var 1) qe_int)) qa_nil)))))
theorem c__law_times (T : Txt K mg) (C__law_ratio : Callee P w K mg base 2 "_law_ratio" 2 [] m__law_ratio) : Callee P w K mg base 3 "_law_times" 2 [] m__law_times := by
  obtain ⟨f, fd, F, hm⟩ := T.F__law_times
  exact ⟨f, fd, ["_law_one", "_law_other"], [], [], f__law_times T C__law_ratio F, hm, F.kp, F.binds (ps := ["_law_one", "_law_other"]) (fun _ _ _ _ _ _ us hl => match us, hl with | [_, _], _ => rfl), .nil, fun _ _ => .nil⟩
theorem f__law_direction (T : Txt K mg) (C__law_less : Callee P w K mg base 3 "_law_less" 2 [] m__law_less) (C__law_over : Callee P w K mg base 3 "_law_over" 2 [] m__law_over) (C__law_plus : Callee P w K mg base 3 "_law_plus" 2 [] m__law_plus) (C__law_times : Callee P w K mg base 3 "_law_times" 2 [] m__law_times) {f : Addr} {fd : FuncData} (F : Fun K "_law_direction" "_law_direction" st__law_direction f fd) : FnOk P w K mg base (L2.CX P w) 4 f fd ["_law_half_here"] (spM K mg 1 m__law_direction) := by
  show FnOk P w K mg base (L2.CX P w) (3 + 1) f fd ["_law_half_here"] (spM K mg 1 (mDef 3 b__law_direction))
  refine okM F sc__law_direction rfl rfl (fun cdv A outer s H E hr => ?_)
  exact (qss_cons (qs_if (qt_cmp op_isA os_is (qe_var 0) qe_non (nomark _)) (qss_one (qs_ret (qe_tup (qa_cons (qe_tup (qa_cons qe_int (qa_cons qe_int qa_nil))) (qa_cons (qe_tup (qa_cons (qe_un un_neg us_neg qe_int) (qa_cons qe_int qa_nil))) qa_nil))))) qss_nil) (qss_cons (qs_set 1 sc__law_direction.nd (qe_c C__law_times hr (by decide) cx_takes (qa_cons (qe_var 0) (qa_cons (qe_var 0) qa_nil)))) (qss_cons (qs_set 2 sc__law_direction.nd (qe_c C__law_plus hr (by decide) cx_takes (qa_cons (qe_tup (qa_cons qe_int (qa_cons qe_int qa_nil))) (qa_cons (qe_var 1) qa_nil)))) (qss_one (qs_ret (qe_tup (qa_cons (qe_c C__law_over hr (by decide) cx_takes (qa_cons (qe_c C__law_times hr (by decide) cx_takes (qa_cons (qe_tup (qa_cons (qe_un un_neg us_neg qe_int) (qa_cons qe_int qa_nil))) (qa_cons (qe_var 0) qa_nil))) (qa_cons (qe_var 2) qa_nil))) (qa_cons (qe_c C__law_over hr (by decide) cx_takes (qa_cons (qe_c C__law_less hr (by decide) cx_takes (qa_cons (qe_tup (qa_cons qe_int (qa_cons qe_int qa_nil))) (qa_cons (qe_var 1) qa_nil))) (qa_cons (qe_var 2) qa_nil))) qa_nil))))))))
theorem c__law_direction (T : Txt K mg) (C__law_less : Callee P w K mg base 3 "_law_less" 2 [] m__law_less) (C__law_over : Callee P w K mg base 3 "_law_over" 2 [] m__law_over) (C__law_plus : Callee P w K mg base 3 "_law_plus" 2 [] m__law_plus) (C__law_times : Callee P w K mg base 3 "_law_times" 2 [] m__law_times) : Callee P w K mg base 4 "_law_direction" 1 [] m__law_direction := by
  obtain ⟨f, fd, F, hm⟩ := T.F__law_direction
  exact ⟨f, fd, ["_law_half_here"], [], [], f__law_direction T C__law_less C__law_over C__law_plus C__law_times F, hm, F.kp, F.binds (ps := ["_law_half_here"]) (fun _ _ _ _ _ _ us hl => match us, hl with | [_], _ => rfl), .nil, fun _ _ => .nil⟩
theorem f__law_form (T : Txt K mg) (C__law_take : Callee P w K mg base 1 "_law_take" 2 [] m__law_take) {f : Addr} {fd : FuncData} (F : Fun K "_law_form" "_law_form" st__law_form f fd) : FnOk P w K mg base (L2.CX P w) 2 f fd ["_law_hand_here", "_law_row"] (spM K mg 2 m__law_form) := by
  have z_list := T.z_list
  have z_tuple := T.z_tuple
  show FnOk P w K mg base (L2.CX P w) (1 + 1) f fd ["_law_hand_here", "_law_row"] (spM K mg 2 (mDef 2 b__law_form))
  refine okM F sc__law_form rfl rfl (fun cdv A outer s H E hr => ?_)
  exact (qss_one (qs_ret (qe_if (qt_cmp (op_eqD hr.units) os_eq (qe_c C__law_take hr (by decide) cx_takes (qa_cons (qe_var 0) (qa_cons qe_int qa_nil))) qe_int (nomark _)) (qe_callTy call_list_of cs_list (by rfl) z_list (by decide +kernel) (qa_cons (qe_var 1) qa_nil)) (qe_callTy call_tuple_of cs_tuple (by rfl) z_tuple (by decide +kernel) (qa_cons (qe_var 1) qa_nil)))))
theorem c__law_form (T : Txt K mg) (C__law_take : Callee P w K mg base 1 "_law_take" 2 [] m__law_take) : Callee P w K mg base 2 "_law_form" 2 [] m__law_form := by
  obtain ⟨f, fd, F, hm⟩ := T.F__law_form
  exact ⟨f, fd, ["_law_hand_here", "_law_row"], [], [], f__law_form T C__law_take F, hm, F.kp, F.binds (ps := ["_law_hand_here", "_law_row"]) (fun _ _ _ _ _ _ us hl => match us, hl with | [_, _], _ => rfl), .nil, fun _ _ => .nil⟩
theorem f__law_half_back (T : Txt K mg) (C__law_over : Callee P w K mg base 3 "_law_over" 2 [] m__law_over) (C__law_plus : Callee P w K mg base 3 "_law_plus" 2 [] m__law_plus) (C__law_times : Callee P w K mg base 3 "_law_times" 2 [] m__law_times) {f : Addr} {fd : FuncData} (F : Fun K "_law_half_back" "_law_half_back" st__law_half_back f fd) : FnOk P w K mg base (L2.CX P w) 4 f fd ["_law_direction_here"] (spM K mg 1 m__law_half_back) := by
  show FnOk P w K mg base (L2.CX P w) (3 + 1) f fd ["_law_direction_here"] (spM K mg 1 (mDef 1 b__law_half_back))
  refine okM F sc__law_half_back rfl rfl (fun cdv A outer s H E hr => ?_)
  exact (qss_cons (qs_if (qt_cmp (op_eqD hr.units) os_eq (qe_ix (qe_var 0) qe_int) (qe_tup (qa_cons (qe_un un_neg us_neg qe_int) (qa_cons qe_int qa_nil))) (nomark _)) (qss_one (qs_ret qe_non)) qss_nil) (qss_one (qs_ret (qe_c C__law_over hr (by decide) cx_takes (qa_cons (qe_c C__law_times hr (by decide) cx_takes (qa_cons (qe_tup (qa_cons (qe_un un_neg us_neg qe_int) (qa_cons qe_int qa_nil))) (qa_cons (qe_ix (qe_var 0) qe_int) qa_nil))) (qa_cons (qe_c C__law_plus hr (by decide) cx_takes (qa_cons (qe_tup (qa_cons qe_int (qa_cons qe_int qa_nil))) (qa_cons (qe_ix (qe_var 0) qe_int) qa_nil))) qa_nil))))))
theorem c__law_half_back (T : Txt K mg) (C__law_over : Callee P w K mg base 3 "_law_over" 2 [] m__law_over) (C__law_plus : Callee P w K mg base 3 "_law_plus" 2 [] m__law_plus) (C__law_times : Callee P w K mg base 3 "_law_times" 2 [] m__law_times) : Callee P w K mg base 4 "_law_half_back" 1 [] m__law_half_back := by
  obtain ⟨f, fd, F, hm⟩ := T.F__law_half_back
  exact ⟨f, fd, ["_law_direction_here"], [], [], f__law_half_back T C__law_over C__law_plus C__law_times F, hm, F.kp, F.binds (ps := ["_law_direction_here"]) (fun _ _ _ _ _ _ us hl => match us, hl with | [_], _ => rfl), .nil, fun _ _ => .nil⟩
theorem f__law_round (T : Txt K mg) (C__law_less : Callee P w K mg base 3 "_law_less" 2 [] m__law_less) (C__law_over : Callee P w K mg base 3 "_law_over" 2 [] m__law_over) (C__law_plus : Callee P w K mg base 3 "_law_plus" 2 [] m__law_plus) (C__law_times : Callee P w K mg base 3 "_law_times" 2 [] m__law_times) {f : Addr} {fd : FuncData} (F : Fun K "_law_round" "_law_round" st__law_round f fd) : FnOk P w K mg base (L2.CX P w) 4 f fd ["_law_half_here"] (spM K mg 1 m__law_round) := by
  show FnOk P w K mg base (L2.CX P w) (3 + 1) f fd ["_law_half_here"] (spM K mg 1 (mDef 2 b__law_round))
  refine okM F sc__law_round rfl rfl (fun cdv A outer s H E hr => ?_)
  exact (qss_cons (qs_if (qt_cmp op_isA os_is (qe_var 0) qe_non (nomark _)) (qss_one (qs_ret (qe_tup (qa_cons (qe_tup (qa_cons (qe_un un_neg us_neg qe_int) (qa_cons qe_int qa_nil))) (qa_cons (qe_tup (qa_cons qe_int (qa_cons qe_int qa_nil))) qa_nil))))) qss_nil) (qss_cons (qs_set 1 sc__law_round.nd (qe_c C__law_plus hr (by decide) cx_takes (qa_cons (qe_tup (qa_cons qe_int (qa_cons qe_int qa_nil))) (qa_cons (qe_c C__law_times hr (by decide) cx_takes (qa_cons (qe_var 0) (qa_cons (qe_var 0) qa_nil))) qa_nil)))) (qss_one (qs_ret (qe_tup (qa_cons (qe_c C__law_over hr (by decide) cx_takes (qa_cons (qe_c C__law_less hr (by decide) cx_takes (qa_cons (qe_tup (qa_cons qe_int (qa_cons qe_int qa_nil))) (qa_cons (qe_c C__law_times hr (by decide) cx_takes (qa_cons (qe_var 0) (qa_cons (qe_var 0) qa_nil))) qa_nil))) (qa_cons (qe_var 1) qa_nil))) (qa_cons (qe_c C__law_over hr (by decide) cx_takes (qa_cons (qe_c C__law_times hr (by decide) cx_takes (qa_cons (qe_tup (qa_cons qe_int (qa_cons qe_int qa_nil))) (qa_cons (qe_var 0) qa_nil))) (qa_cons (qe_var 1) qa_nil))) qa_nil)))))))
theorem c__law_round (T : Txt K mg) (C__law_less : Callee P w K mg base 3 "_law_less" 2 [] m__law_less) (C__law_over : Callee P w K mg base 3 "_law_over" 2 [] m__law_over) (C__law_plus : Callee P w K mg base 3 "_law_plus" 2 [] m__law_plus) (C__law_times : Callee P w K mg base 3 "_law_times" 2 [] m__law_times) : Callee P w K mg base 4 "_law_round" 1 [] m__law_round := by
  obtain ⟨f, fd, F, hm⟩ := T.F__law_round
  exact ⟨f, fd, ["_law_half_here"], [], [], f__law_round T C__law_less C__law_over C__law_plus C__law_times F, hm, F.kp, F.binds (ps := ["_law_half_here"]) (fun _ _ _ _ _ _ us hl => match us, hl with | [_], _ => rfl), .nil, fun _ _ => .nil⟩
theorem f__law_same (T : Txt K mg) {f : Addr} {fd : FuncData} (F : Fun K "_law_same" "_law_same" st__law_same f fd) : FnOk P w K mg base (L2.CX P w) 1 f fd ["_law_told", "_law_due"] (spM K mg 2 m__law_same) := by
  have z_bool := T.z_bool
  have z_int := T.z_int
  have z_isinstance := T.z_isinstance
  have z_len := T.z_len
  have z_tuple := T.z_tuple
  show FnOk P w K mg base (L2.CX P w) (0 + 1) f fd ["_law_told", "_law_due"] (spM K mg 2 (mDef 3 b__law_same))
  refine okM F sc__law_same rfl rfl (fun cdv A outer s H E hr => ?_)
  exact (qss_cons (qs_if (qt_w (qw_or (qt_not (qt_tru (qe_isi (qe_var 0) (by rfl) z_isinstance (by rfl) z_tuple (by decide +kernel)))) (qw_or1 (qt_cmp (op_neD hr.units) os_ne (qe_callB call_lenA cs_len (by rfl) z_len (by decide +kernel) (qa_cons (qe_var 0) qa_nil)) qe_int (nomark _))))) (qss_one (qs_ret qe_bl)) qss_nil) (qss_cons (qs_for cx_pass rfl (qi_seq (qe_var 0)) (qg_name 2 sc__law_same.nd) (qss_one (qs_if (qt_w (qw_or (qt_not (qt_tru (qe_isi (qe_var 2) (by rfl) z_isinstance (by rfl) z_int (by decide +kernel)))) (qw_or1 (qt_tru (qe_isi (qe_var 2) (by rfl) z_isinstance (by rfl) z_bool (by decide +kernel)))))) (qss_one (qs_ret qe_bl)) qss_nil))) (qss_one (qs_ret (qe_and (qe_cmp (op_eqD hr.units) os_eq (qe_ix (qe_var 0) qe_int) (qe_ix (qe_var 1) qe_int) (nomark _)) (qe_one (qe_cmp (op_eqD hr.units) os_eq (qe_ix (qe_var 0) qe_int) (qe_ix (qe_var 1) qe_int) (nomark _))))))))
theorem c__law_same (T : Txt K mg) : Callee P w K mg base 1 "_law_same" 2 [] m__law_same := by
  obtain ⟨f, fd, F, hm⟩ := T.F__law_same
  exact ⟨f, fd, ["_law_told", "_law_due"], [], [], f__law_same T  F, hm, F.kp, F.binds (ps := ["_law_told", "_law_due"]) (fun _ _ _ _ _ _ us hl => match us, hl with | [_, _], _ => rfl), .nil, fun _ _ => .nil⟩
theorem f__law_same_half (T : Txt K mg) (C__law_same : Callee P w K mg base 1 "_law_same" 2 [] m__law_same) {f : Addr} {fd : FuncData} (F : Fun K "_law_same_half" "_law_same_half" st__law_same_half f fd) : FnOk P w K mg base (L2.CX P w) 2 f fd ["_law_told", "_law_due"] (spM K mg 2 m__law_same_half) := by
  show FnOk P w K mg base (L2.CX P w) (1 + 1) f fd ["_law_told", "_law_due"] (spM K mg 2 (mDef 2 b__law_same_half))
  refine okM F sc__law_same_half rfl rfl (fun cdv A outer s H E hr => ?_)
  exact (qss_cons (qs_if (qt_cmp op_isA os_is (qe_var 1) qe_non (nomark _)) (qss_one (qs_ret (qe_cmp op_isA os_is (qe_var 0) qe_non (nomark _)))) qss_nil) (qss_one (qs_ret (qe_and (qe_cmp op_isNotA os_isNot (qe_var 0) qe_non (nomark _)) (qe_one (qe_c C__law_same hr (by decide) cx_takes (qa_cons (qe_var 0) (qa_cons (qe_var 1) qa_nil))))))))
theorem c__law_same_half (T : Txt K mg) (C__law_same : Callee P w K mg base 1 "_law_same" 2 [] m__law_same) : Callee P w K mg base 2 "_law_same_half" 2 [] m__law_same_half := by
  obtain ⟨f, fd, F, hm⟩ := T.F__law_same_half
  exact ⟨f, fd, ["_law_told", "_law_due"], [], [], f__law_same_half T C__law_same F, hm, F.kp, F.binds (ps := ["_law_told", "_law_due"]) (fun _ _ _ _ _ _ us hl => match us, hl with | [_, _], _ => rfl), .nil, fun _ _ => .nil⟩
theorem f__law_same_row (T : Txt K mg) (C__law_same : Callee P w K mg base 1 "_law_same" 2 [] m__law_same) {f : Addr} {fd : FuncData} (F : Fun K "_law_same_row" "_law_same_row" st__law_same_row f fd) : FnOk P w K mg base (L2.CX P w) 2 f fd ["_law_told", "_law_due"] (spM K mg 2 m__law_same_row) := by
  have z_isinstance := T.z_isinstance
  have z_len := T.z_len
  have z_range := T.z_range
  have z_tuple := T.z_tuple
  show FnOk P w K mg base (L2.CX P w) (1 + 1) f fd ["_law_told", "_law_due"] (spM K mg 2 (mDef 3 b__law_same_row))
  refine okM F sc__law_same_row rfl rfl (fun cdv A outer s H E hr => ?_)
  exact (qss_cons (qs_if (qt_w (qw_or (qt_not (qt_tru (qe_isi (qe_var 0) (by rfl) z_isinstance (by rfl) z_tuple (by decide +kernel)))) (qw_or1 (qt_cmp (op_neD hr.units) os_ne (qe_callB call_lenA cs_len (by rfl) z_len (by decide +kernel) (qa_cons (qe_var 0) qa_nil)) (qe_callB call_lenA cs_len (by rfl) z_len (by decide +kernel) (qa_cons (qe_var 1) qa_nil)) (nomark _))))) (qss_one (qs_ret qe_bl)) qss_nil) (qss_one (qs_ret (qe_cmp (op_eqD hr.units) os_eq (qe_lc rfl sc__law_same_row.nd (qi_rng1 (by rfl) z_range (qe_callB call_lenA cs_len (by rfl) z_len (by decide +kernel) (qa_cons (qe_var 1) qa_nil))) (blkOk_by (N := ["_law_told", "_law_due", "_law_k"]) (sc := defScope st__law_same_row) (own := [("_law_k", 2)]) (by decide +kernel)) rfl (by decide) sg_name (g := gName 2) (fun _ _ _ _ _ => (qg_name 2 sc__law_same_row.nd).1) (fun _ _ _ _ _ => (qts_one (qt_not (qt_tru (qe_c C__law_same hr (by decide) takes0 (qa_cons (qe_ix (qe_var 0) (qe_var 2)) (qa_cons (qe_ix (qe_var 1) (qe_var 2)) qa_nil))))))) (fun _ _ _ _ _ => (qe_var 2))) (qe_lst qa_nil) (nomark _)))))
theorem c__law_same_row (T : Txt K mg) (C__law_same : Callee P w K mg base 1 "_law_same" 2 [] m__law_same) : Callee P w K mg base 2 "_law_same_row" 2 [] m__law_same_row := by
  obtain ⟨f, fd, F, hm⟩ := T.F__law_same_row
  exact ⟨f, fd, ["_law_told", "_law_due"], [], [], f__law_same_row T C__law_same F, hm, F.kp, F.binds (ps := ["_law_told", "_law_due"]) (fun _ _ _ _ _ _ us hl => match us, hl with | [_, _], _ => rfl), .nil, fun _ _ => .nil⟩
theorem f__law_turned (T : Txt K mg) (C__law_less : Callee P w K mg base 3 "_law_less" 2 [] m__law_less) (C__law_plus : Callee P w K mg base 3 "_law_plus" 2 [] m__law_plus) (C__law_round : Callee P w K mg base 4 "_law_round" 1 [] m__law_round) (C__law_times : Callee P w K mg base 3 "_law_times" 2 [] m__law_times) {f : Addr} {fd : FuncData} (F : Fun K "_law_turned" "_law_turned" st__law_turned f fd) : FnOk P w K mg base (L2.CX P w) 5 f fd ["_law_direction_here", "_law_half_here"] (spM K mg 2 m__law_turned) := by
  show FnOk P w K mg base (L2.CX P w) (4 + 1) f fd ["_law_direction_here", "_law_half_here"] (spM K mg 2 (mDef 6 b__law_turned))
  refine okM F sc__law_turned rfl rfl (fun cdv A outer s H E hr => ?_)
  exact (qss_cons (qs_asg (qe_c C__law_round hr (by decide) cx_takes (qa_cons (qe_var 1) qa_nil)) (qg_seq 2 rfl (qgs_cons (qg_name 2 sc__law_turned.nd) (qgs_cons (qg_name 3 sc__law_turned.nd) qgs_nil)))) (qss_cons (qs_asg (qe_var 0) (qg_seq 2 rfl (qgs_cons (qg_name 4 sc__law_turned.nd) (qgs_cons (qg_name 5 sc__law_turned.nd) qgs_nil)))) (qss_one (qs_ret (qe_tup (qa_cons (qe_c C__law_less hr (by decide) cx_takes (qa_cons (qe_c C__law_times hr (by decide) cx_takes (qa_cons (qe_var 4) (qa_cons (qe_var 2) qa_nil))) (qa_cons (qe_c C__law_times hr (by decide) cx_takes (qa_cons (qe_var 5) (qa_cons (qe_var 3) qa_nil))) qa_nil))) (qa_cons (qe_c C__law_plus hr (by decide) cx_takes (qa_cons (qe_c C__law_times hr (by decide) cx_takes (qa_cons (qe_var 4) (qa_cons (qe_var 3) qa_nil))) (qa_cons (qe_c C__law_times hr (by decide) cx_takes (qa_cons (qe_var 5) (qa_cons (qe_var 2) qa_nil))) qa_nil))) qa_nil)))))))
theorem c__law_turned (T : Txt K mg) (C__law_less : Callee P w K mg base 3 "_law_less" 2 [] m__law_less) (C__law_plus : Callee P w K mg base 3 "_law_plus" 2 [] m__law_plus) (C__law_round : Callee P w K mg base 4 "_law_round" 1 [] m__law_round) (C__law_times : Callee P w K mg base 3 "_law_times" 2 [] m__law_times) : Callee P w K mg base 5 "_law_turned" 2 [] m__law_turned := by
  obtain ⟨f, fd, F, hm⟩ := T.F__law_turned
  exact ⟨f, fd, ["_law_direction_here", "_law_half_here"], [], [], f__law_turned T C__law_less C__law_plus C__law_round C__law_times F, hm, F.kp, F.binds (ps := ["_law_direction_here", "_law_half_here"]) (fun _ _ _ _ _ _ us hl => match us, hl with | [_, _], _ => rfl), .nil, fun _ _ => .nil⟩
theorem f_lowest_terms (T : Txt K mg) {f : Addr} {fd : FuncData} (F : Fun K "lowest_terms" "lowest_terms" st_lowest_terms f fd) : FnOk P w K mg base (L2.CX P w) 1 f fd ["top", "bottom"] (spM K mg 2 m_lowest_terms) := by
  have i_gcd := T.i_gcd
  show FnOk P w K mg base (L2.CX P w) (0 + 1) f fd ["top", "bottom"] (spM K mg 2 (mDef 3 b_lowest_terms))
  refine okM F sc_lowest_terms rfl rfl (fun cdv A outer s H E hr => ?_)
  exact (qss_cons (qs_set 2 sc_lowest_terms.nd (qe_callBfun cr_gcd cs_gcd (by rfl) i_gcd (qa_cons (qe_var 0) (qa_cons (qe_var 1) qa_nil)))) (qss_cons (qs_if (qt_cmp op_lt os_lt (qe_var 1) qe_int (nomark _)) (qss_one (qs_set 2 sc_lowest_terms.nd (qe_un un_neg us_neg (qe_var 2)))) qss_nil) (qss_one (qs_ret (qe_tup (qa_cons (qe_op op_divA os_div (qe_var 0) (qe_var 2)) (qa_cons (qe_op op_divA os_div (qe_var 1) (qe_var 2)) qa_nil)))))))
theorem c_lowest_terms (T : Txt K mg) : Callee P w K mg base 1 "lowest_terms" 2 [] m_lowest_terms := by
  obtain ⟨f, fd, F, hm⟩ := T.F_lowest_terms
  exact ⟨f, fd, ["top", "bottom"], [], [], f_lowest_terms T  F, hm, F.kp, F.binds (ps := ["top", "bottom"]) (fun _ _ _ _ _ _ us hl => match us, hl with | [_, _], _ => rfl), .nil, fun _ _ => .nil⟩
theorem f_over (T : Txt K mg) (C_lowest_terms : Callee P w K mg base 1 "lowest_terms" 2 [] m_lowest_terms) {f : Addr} {fd : FuncData} (F : Fun K "over" "over" st_over f fd) : FnOk P w K mg base (L2.CX P w) 2 f fd ["one", "other"] (spM K mg 2 m_over) := by
  obtain ⟨_, g_ZERO⟩ := T.g_ZERO
  show FnOk P w K mg base (L2.CX P w) (1 + 1) f fd ["one", "other"] (spM K mg 2 (mDef 2 b_over))
  refine okM F sc_over rfl rfl (fun cdv A outer s H E hr => ?_)
  exact (qss_cons (qs_if (qt_cmp (op_eqD hr.units) os_eq (qe_var 1) (qe_glob (v := .ref _) (by rfl) g_ZERO.1 rfl g_ZERO.2) (nomark _)) (qss_one qs_bad) qss_nil) (qss_one (qs_ret (qe_c C_lowest_terms hr (by decide) cx_takes (qa_cons (qe_op op_mulA os_mul (qe_ix (qe_var 0) qe_int) (qe_ix (qe_var 1) qe_int)) (qa_cons (qe_op op_mulA os_mul (qe_ix (qe_var 0) qe_int) (qe_ix (qe_var 1) qe_int)) qa_nil))))))
theorem c_over (T : Txt K mg) (C_lowest_terms : Callee P w K mg base 1 "lowest_terms" 2 [] m_lowest_terms) : Callee P w K mg base 2 "over" 2 [] m_over := by
  obtain ⟨f, fd, F, hm⟩ := T.F_over
  exact ⟨f, fd, ["one", "other"], [], [], f_over T C_lowest_terms F, hm, F.kp, F.binds (ps := ["one", "other"]) (fun _ _ _ _ _ _ us hl => match us, hl with | [_, _], _ => rfl), .nil, fun _ _ => .nil⟩
theorem f__add_end (T : Txt K mg) (C_over : Callee P w K mg base 2 "over" 2 [] m_over) {f : Addr} {fd : FuncData} (F : Fun K "_add_end" "_add_end" st__add_end f fd) : FnOk P w K mg base (L2.CX P w) 3 f fd ["half"] (spM K mg 1 m__add_end) := by
  have g_END := T.g_END
  obtain ⟨_, g_ZERO⟩ := T.g_ZERO
  show FnOk P w K mg base (L2.CX P w) (2 + 1) f fd ["half"] (spM K mg 1 (mDef 1 b__add_end))
  refine okM F sc__add_end rfl rfl (fun cdv A outer s H E hr => ?_)
  exact (qss_one (qs_ret (qe_if (qt_cmp (op_eqD hr.units) os_eq (qe_var 0) (qe_glob (v := .ref _) (by rfl) g_ZERO.1 rfl g_ZERO.2) (nomark _)) (qe_glob (v := .non) (by rfl) g_END rfl fun _ _ => .non) (qe_c C_over hr (by decide) cx_takes (qa_cons (qe_tup (qa_cons (qe_un un_neg us_neg qe_int) (qa_cons qe_int qa_nil))) (qa_cons (qe_var 0) qa_nil))))))
theorem c__add_end (T : Txt K mg) (C_over : Callee P w K mg base 2 "over" 2 [] m_over) : Callee P w K mg base 3 "_add_end" 1 [] m__add_end := by
  obtain ⟨f, fd, F, hm⟩ := T.F__add_end
  exact ⟨f, fd, ["half"], [], [], f__add_end T C_over F, hm, F.kp, F.binds (ps := ["half"]) (fun _ _ _ _ _ _ us hl => match us, hl with | [_], _ => rfl), .nil, fun _ _ => .nil⟩
theorem f_is_whole (T : Txt K mg) {f : Addr} {fd : FuncData} (F : FunD K "is_whole" "is_whole" (defArgs st_is_whole) (defBody st_is_whole) (defScope st_is_whole) [.non, .non] [] f fd) : FnOk P w K mg base (L2.CX P w) 1 f fd ["thing", "low", "high"] (spM K mg 3 m_is_whole) := by
  have z_bool := T.z_bool
  have z_int := T.z_int
  have z_isinstance := T.z_isinstance
  show FnOk P w K mg base (L2.CX P w) (0 + 1) f fd ["thing", "low", "high"] (spM K mg 3 (mDef 3 b_is_whole))
  refine okMD F sc_is_whole rfl rfl (fun cdv A outer s H E hr => ?_)
  exact (qss_cons (qs_if (qt_w (qw_or (qt_not (qt_tru (qe_isi (qe_var 0) (by rfl) z_isinstance (by rfl) z_int (by decide +kernel)))) (qw_or1 (qt_tru (qe_isi (qe_var 0) (by rfl) z_isinstance (by rfl) z_bool (by decide +kernel)))))) (qss_one (qs_ret qe_bl)) qss_nil) (qss_one (qs_ret (qe_and (qe_or (qe_cmp op_isA os_is (qe_var 1) qe_non (nomark _)) (qe_one (qe_cmp op_ge os_ge (qe_var 0) (qe_var 1) (nomark _)))) (qe_one (qe_or (qe_cmp op_isA os_is (qe_var 2) qe_non (nomark _)) (qe_one (qe_cmp op_le os_le (qe_var 0) (qe_var 2) (nomark _)))))))))
theorem c_is_whole_1 (T : Txt K mg) : Callee P w K mg base 1 "is_whole" 3 [.non, .non] m_is_whole := by
  obtain ⟨f, fd, F, hm⟩ := T.F_is_whole
  obtain ⟨ds, hv, hb⟩ := FunD.binds1 (ps := ["thing", "low", "high"]) F 1 0 (by simp) rfl (fun T kV doc pm an cdv ct us its l1 l2 => match us, its, l1, l2 with | [_], [_, _], _, _ => ⟨_, rfl, rfl⟩)
  exact ⟨f, fd, ["thing", "low", "high"], _, ds, f_is_whole T  F, hm, F.kp, hb, hv, fun _ _ => .cons .non (.cons .non (.nil))⟩
theorem c_is_whole_2 (T : Txt K mg) : Callee P w K mg base 1 "is_whole" 3 [.non] m_is_whole := by
  obtain ⟨f, fd, F, hm⟩ := T.F_is_whole
  obtain ⟨ds, hv, hb⟩ := FunD.binds1 (ps := ["thing", "low", "high"]) F 2 1 (by simp) rfl (fun T kV doc pm an cdv ct us its l1 l2 => match us, its, l1, l2 with | [_, _], [_, _], _, _ => ⟨_, rfl, rfl⟩)
  exact ⟨f, fd, ["thing", "low", "high"], _, ds, f_is_whole T  F, hm, F.kp, hb, hv, fun _ _ => .cons .non (.nil)⟩
theorem f_is_ratio (T : Txt K mg) (C_is_whole_1 : Callee P w K mg base 1 "is_whole" 3 [.non, .non] m_is_whole) (C_is_whole_2 : Callee P w K mg base 1 "is_whole" 3 [.non] m_is_whole) {f : Addr} {fd : FuncData} (F : Fun K "is_ratio" "is_ratio" st_is_ratio f fd) : FnOk P w K mg base (L2.CX P w) 2 f fd ["thing"] (spM K mg 1 m_is_ratio) := by
  have i_gcd := T.i_gcd
  have z_isinstance := T.z_isinstance
  have z_len := T.z_len
  have z_tuple := T.z_tuple
  show FnOk P w K mg base (L2.CX P w) (1 + 1) f fd ["thing"] (spM K mg 1 (mDef 3 b_is_ratio))
  refine okM F sc_is_ratio rfl rfl (fun cdv A outer s H E hr => ?_)
  exact (qss_cons (qs_if (qt_w (qw_or (qt_not (qt_tru (qe_isi (qe_var 0) (by rfl) z_isinstance (by rfl) z_tuple (by decide +kernel)))) (qw_or1 (qt_cmp (op_neD hr.units) os_ne (qe_callB call_lenA cs_len (by rfl) z_len (by decide +kernel) (qa_cons (qe_var 0) qa_nil)) qe_int (nomark _))))) (qss_one (qs_ret qe_bl)) qss_nil) (qss_cons (qs_asg (qe_var 0) (qg_seq 2 rfl (qgs_cons (qg_name 1 sc_is_ratio.nd) (qgs_cons (qg_name 2 sc_is_ratio.nd) qgs_nil)))) (qss_one (qs_ret (qe_and (qe_c C_is_whole_1 hr (by decide) cx_takes (qa_cons (qe_var 1) qa_nil)) (qe_and (qe_c C_is_whole_2 hr (by decide) cx_takes (qa_cons (qe_var 2) (qa_cons qe_int qa_nil))) (qe_one (qe_cmp (op_eqD hr.units) os_eq (qe_callBfun cr_gcd cs_gcd (by rfl) i_gcd (qa_cons (qe_var 1) (qa_cons (qe_var 2) qa_nil))) qe_int (nomark _)))))))))
theorem c_is_ratio (T : Txt K mg) (C_is_whole_1 : Callee P w K mg base 1 "is_whole" 3 [.non, .non] m_is_whole) (C_is_whole_2 : Callee P w K mg base 1 "is_whole" 3 [.non] m_is_whole) : Callee P w K mg base 2 "is_ratio" 1 [] m_is_ratio := by
  obtain ⟨f, fd, F, hm⟩ := T.F_is_ratio
  exact ⟨f, fd, ["thing"], [], [], f_is_ratio T C_is_whole_1 C_is_whole_2 F, hm, F.kp, F.binds (ps := ["thing"]) (fun _ _ _ _ _ _ us hl => match us, hl with | [_], _ => rfl), .nil, fun _ _ => .nil⟩
theorem f_is_half (T : Txt K mg) (C_is_ratio : Callee P w K mg base 2 "is_ratio" 1 [] m_is_ratio) {f : Addr} {fd : FuncData} (F : Fun K "is_half" "is_half" st_is_half f fd) : FnOk P w K mg base (L2.CX P w) 3 f fd ["thing"] (spM K mg 1 m_is_half) := by
  show FnOk P w K mg base (L2.CX P w) (2 + 1) f fd ["thing"] (spM K mg 1 (mDef 1 b_is_half))
  refine okM F sc_is_half rfl rfl (fun cdv A outer s H E hr => ?_)
  exact (qss_one (qs_ret (qe_or (qe_cmp op_isA os_is (qe_var 0) qe_non (nomark _)) (qe_one (qe_c C_is_ratio hr (by decide) cx_takes (qa_cons (qe_var 0) qa_nil))))))
theorem c_is_half (T : Txt K mg) (C_is_ratio : Callee P w K mg base 2 "is_ratio" 1 [] m_is_ratio) : Callee P w K mg base 3 "is_half" 1 [] m_is_half := by
  obtain ⟨f, fd, F, hm⟩ := T.F_is_half
  exact ⟨f, fd, ["thing"], [], [], f_is_half T C_is_ratio F, hm, F.kp, F.binds (ps := ["thing"]) (fun _ _ _ _ _ _ us hl => match us, hl with | [_], _ => rfl), .nil, fun _ _ => .nil⟩
theorem f_check_half (T : Txt K mg) (C_is_half : Callee P w K mg base 3 "is_half" 1 [] m_is_half) {f : Addr} {fd : FuncData} (F : Fun K "check_half" "check_half" st_check_half f fd) : FnOk P w K mg base (L2.CX P w) 4 f fd ["half"] (spM K mg 1 m_check_half) := by
  show FnOk P w K mg base (L2.CX P w) (3 + 1) f fd ["half"] (spM K mg 1 (mDef 1 b_check_half))
  refine okM F sc_check_half rfl rfl (fun cdv A outer s H E hr => ?_)
  exact (qss_one (qs_if (qt_not (qt_tru (qe_c C_is_half hr (by decide) cx_takes (qa_cons (qe_var 0) qa_nil)))) (qss_one qs_bad) qss_nil))
theorem c_check_half (T : Txt K mg) (C_is_half : Callee P w K mg base 3 "is_half" 1 [] m_is_half) : Callee P w K mg base 4 "check_half" 1 [] m_check_half := by
  obtain ⟨f, fd, F, hm⟩ := T.F_check_half
  exact ⟨f, fd, ["half"], [], [], f_check_half T C_is_half F, hm, F.kp, F.binds (ps := ["half"]) (fun _ _ _ _ _ _ us hl => match us, hl with | [_], _ => rfl), .nil, fun _ _ => .nil⟩
theorem f_minus (T : Txt K mg) (C_lowest_terms : Callee P w K mg base 1 "lowest_terms" 2 [] m_lowest_terms) {f : Addr} {fd : FuncData} (F : Fun K "minus" "minus" st_minus f fd) : FnOk P w K mg base (L2.CX P w) 2 f fd ["one", "other"] (spM K mg 2 m_minus) := by
  show FnOk P w K mg base (L2.CX P w) (1 + 1) f fd ["one", "other"] (spM K mg 2 (mDef 2 b_minus))
  refine okM F sc_minus rfl rfl (fun cdv A outer s H E hr => ?_)
  exact (qss_one (qs_ret (qe_c C_lowest_terms hr (by decide) cx_takes (qa_cons (qe_op op_sub os_sub (qe_op op_mulA os_mul (qe_ix (qe_var 0) qe_int) (qe_ix (qe_var 1) qe_int)) (qe_op op_mulA os_mul (qe_ix (qe_var 1) qe_int) (qe_ix (qe_var 0) qe_int))) (qa_cons (qe_op op_mulA os_mul (qe_ix (qe_var 0) qe_int) (qe_ix (qe_var 1) qe_int)) qa_nil)))))
theorem c_minus (T : Txt K mg) (C_lowest_terms : Callee P w K mg base 1 "lowest_terms" 2 [] m_lowest_terms) : Callee P w K mg base 2 "minus" 2 [] m_minus := by
  obtain ⟨f, fd, F, hm⟩ := T.F_minus
  exact ⟨f, fd, ["one", "other"], [], [], f_minus T C_lowest_terms F, hm, F.kp, F.binds (ps := ["one", "other"]) (fun _ _ _ _ _ _ us hl => match us, hl with | [_, _], _ => rfl), .nil, fun _ _ => .nil⟩
theorem f_plus (T : Txt K mg) (C_lowest_terms : Callee P w K mg base 1 "lowest_terms" 2 [] m_lowest_terms) {f : Addr} {fd : FuncData} (F : Fun K "plus" "plus" st_plus f fd) : FnOk P w K mg base (L2.CX P w) 2 f fd ["one", "other"] (spM K mg 2 m_plus) := by
  show FnOk P w K mg base (L2.CX P w) (1 + 1) f fd ["one", "other"] (spM K mg 2 (mDef 2 b_plus))
  refine okM F sc_plus rfl rfl (fun cdv A outer s H E hr => ?_)
  exact (qss_one (qs_ret (qe_c C_lowest_terms hr (by decide) cx_takes (qa_cons (qe_op op_addA os_add (qe_op op_mulA os_mul (qe_ix (qe_var 0) qe_int) (qe_ix (qe_var 1) qe_int)) (qe_op op_mulA os_mul (qe_ix (qe_var 1) qe_int) (qe_ix (qe_var 0) qe_int))) (qa_cons (qe_op op_mulA os_mul (qe_ix (qe_var 0) qe_int) (qe_ix (qe_var 1) qe_int)) qa_nil)))))
theorem c_plus (T : Txt K mg) (C_lowest_terms : Callee P w K mg base 1 "lowest_terms" 2 [] m_lowest_terms) : Callee P w K mg base 2 "plus" 2 [] m_plus := by
  obtain ⟨f, fd, F, hm⟩ := T.F_plus
  exact ⟨f, fd, ["one", "other"], [], [], f_plus T C_lowest_terms F, hm, F.kp, F.binds (ps := ["one", "other"]) (fun _ _ _ _ _ _ us hl => match us, hl with | [_, _], _ => rfl), .nil, fun _ _ => .nil⟩
theorem f_times (T : Txt K mg) (C_lowest_terms : Callee P w K mg base 1 "lowest_terms" 2 [] m_lowest_terms) {f : Addr} {fd : FuncData} (F : Fun K "times" "times" st_times f fd) : FnOk P w K mg base (L2.CX P w) 2 f fd ["one", "other"] (spM K mg 2 m_times) := by
  show FnOk P w K mg base (L2.CX P w) (1 + 1) f fd ["one", "other"] (spM K mg 2 (mDef 2 b_times))
  refine okM F sc_times rfl rfl (fun cdv A outer s H E hr => ?_)
  exact (qss_one (qs_ret (qe_c C_lowest_terms hr (by decide) cx_takes (qa_cons (qe_op op_mulA os_mul (qe_ix (qe_var 0) qe_int) (qe_ix (qe_var 1) qe_int)) (qa_cons (qe_op op_mulA os_mul (qe_ix (qe_var 0) qe_int) (qe_ix (qe_var 1) qe_int)) qa_nil)))))
theorem c_times (T : Txt K mg) (C_lowest_terms : Callee P w K mg base 1 "lowest_terms" 2 [] m_lowest_terms) : Callee P w K mg base 2 "times" 2 [] m_times := by
  obtain ⟨f, fd, F, hm⟩ := T.F_times
  exact ⟨f, fd, ["one", "other"], [], [], f_times T C_lowest_terms F, hm, F.kp, F.binds (ps := ["one", "other"]) (fun _ _ _ _ _ _ us hl => match us, hl with | [_, _], _ => rfl), .nil, fun _ _ => .nil⟩
theorem f_add_halves (T : Txt K mg) (C__add_end : Callee P w K mg base 3 "_add_end" 1 [] m__add_end) (C_check_half : Callee P w K mg base 4 "check_half" 1 [] m_check_half) (C_minus : Callee P w K mg base 2 "minus" 2 [] m_minus) (C_over : Callee P w K mg base 2 "over" 2 [] m_over) (C_plus : Callee P w K mg base 2 "plus" 2 [] m_plus) (C_times : Callee P w K mg base 2 "times" 2 [] m_times) {f : Addr} {fd : FuncData} (F : Fun K "add_halves" "add_halves" st_add_halves f fd) : FnOk P w K mg base (L2.CX P w) 5 f fd ["one", "other"] (spM K mg 2 m_add_halves) := by
  have g_END := T.g_END
  obtain ⟨_, g_ONE⟩ := T.g_ONE
  obtain ⟨_, g_ZERO⟩ := T.g_ZERO
  show FnOk P w K mg base (L2.CX P w) (4 + 1) f fd ["one", "other"] (spM K mg 2 (mDef 3 b_add_halves))
  refine okM F sc_add_halves rfl rfl (fun cdv A outer s H E hr => ?_)
  exact (qss_cons (qs_expr (qe_c C_check_half hr (by decide) cx_takes (qa_cons (qe_var 0) qa_nil))) (qss_cons (qs_expr (qe_c C_check_half hr (by decide) cx_takes (qa_cons (qe_var 1) qa_nil))) (qss_cons (qs_if (qt_w (qw_and (qt_cmp op_isA os_is (qe_var 0) qe_non (nomark _)) (qw_and1 (qt_cmp op_isA os_is (qe_var 1) qe_non (nomark _))))) (qss_one (qs_ret (qe_glob (v := .ref _) (by rfl) g_ZERO.1 rfl g_ZERO.2))) qss_nil) (qss_cons (qs_if (qt_w (qw_or (qt_cmp op_isA os_is (qe_var 0) qe_non (nomark _)) (qw_or1 (qt_cmp op_isA os_is (qe_var 1) qe_non (nomark _))))) (qss_one (qs_ret (qe_c C__add_end hr (by decide) cx_takes (qa_cons (qe_if (qt_cmp op_isA os_is (qe_var 0) qe_non (nomark _)) (qe_var 1) (qe_var 0)) qa_nil)))) qss_nil) (qss_cons (qs_set 2 sc_add_halves.nd (qe_c C_minus hr (by decide) cx_takes (qa_cons (qe_glob (v := .ref _) (by rfl) g_ONE.1 rfl g_ONE.2) (qa_cons (qe_c C_times hr (by decide) cx_takes (qa_cons (qe_var 0) (qa_cons (qe_var 1) qa_nil))) qa_nil)))) (qss_one (qs_ret (qe_if (qt_cmp (op_eqD hr.units) os_eq (qe_var 2) (qe_glob (v := .ref _) (by rfl) g_ZERO.1 rfl g_ZERO.2) (nomark _)) (qe_glob (v := .non) (by rfl) g_END rfl fun _ _ => .non) (qe_c C_over hr (by decide) cx_takes (qa_cons (qe_c C_plus hr (by decide) cx_takes (qa_cons (qe_var 0) (qa_cons (qe_var 1) qa_nil))) (qa_cons (qe_var 2) qa_nil)))))))))))
theorem c_add_halves (T : Txt K mg) (C__add_end : Callee P w K mg base 3 "_add_end" 1 [] m__add_end) (C_check_half : Callee P w K mg base 4 "check_half" 1 [] m_check_half) (C_minus : Callee P w K mg base 2 "minus" 2 [] m_minus) (C_over : Callee P w K mg base 2 "over" 2 [] m_over) (C_plus : Callee P w K mg base 2 "plus" 2 [] m_plus) (C_times : Callee P w K mg base 2 "times" 2 [] m_times) : Callee P w K mg base 5 "add_halves" 2 [] m_add_halves := by
  obtain ⟨f, fd, F, hm⟩ := T.F_add_halves
  exact ⟨f, fd, ["one", "other"], [], [], f_add_halves T C__add_end C_check_half C_minus C_over C_plus C_times F, hm, F.kp, F.binds (ps := ["one", "other"]) (fun _ _ _ _ _ _ us hl => match us, hl with | [_, _], _ => rfl), .nil, fun _ _ => .nil⟩
theorem f_dot_of (T : Txt K mg) (C_plus : Callee P w K mg base 2 "plus" 2 [] m_plus) (C_times : Callee P w K mg base 2 "times" 2 [] m_times) {f : Addr} {fd : FuncData} (F : Fun K "dot_of" "dot_of" st_dot_of f fd) : FnOk P w K mg base (L2.CX P w) 3 f fd ["one", "other"] (spM K mg 2 m_dot_of) := by
  show FnOk P w K mg base (L2.CX P w) (2 + 1) f fd ["one", "other"] (spM K mg 2 (mDef 2 b_dot_of))
  refine okM F sc_dot_of rfl rfl (fun cdv A outer s H E hr => ?_)
  exact (qss_one (qs_ret (qe_c C_plus hr (by decide) cx_takes (qa_cons (qe_c C_times hr (by decide) cx_takes (qa_cons (qe_ix (qe_var 0) qe_int) (qa_cons (qe_ix (qe_var 1) qe_int) qa_nil))) (qa_cons (qe_c C_times hr (by decide) cx_takes (qa_cons (qe_ix (qe_var 0) qe_int) (qa_cons (qe_ix (qe_var 1) qe_int) qa_nil))) qa_nil)))))
theorem c_dot_of (T : Txt K mg) (C_plus : Callee P w K mg base 2 "plus" 2 [] m_plus) (C_times : Callee P w K mg base 2 "times" 2 [] m_times) : Callee P w K mg base 3 "dot_of" 2 [] m_dot_of := by
  obtain ⟨f, fd, F, hm⟩ := T.F_dot_of
  exact ⟨f, fd, ["one", "other"], [], [], f_dot_of T C_plus C_times F, hm, F.kp, F.binds (ps := ["one", "other"]) (fun _ _ _ _ _ _ us hl => match us, hl with | [_, _], _ => rfl), .nil, fun _ _ => .nil⟩
theorem f_is_row (T : Txt K mg) {f : Addr} {fd : FuncData} (F : FunD K "is_row" "is_row" (defArgs st_is_row) (defBody st_is_row) (defScope st_is_row) [.int 0, .non] [] f fd) : FnOk P w K mg base (L2.CX P w) 1 f fd ["thing", "least", "most"] (spM K mg 3 m_is_row) := by
  have z_isinstance := T.z_isinstance
  have z_len := T.z_len
  have z_list := T.z_list
  have z_tuple := T.z_tuple
  show FnOk P w K mg base (L2.CX P w) (0 + 1) f fd ["thing", "least", "most"] (spM K mg 3 (mDef 3 b_is_row))
  refine okMD F sc_is_row rfl rfl (fun cdv A outer s H E hr => ?_)
  exact (qss_cons (qs_if (qt_not (qt_tru (qe_isi2 (qe_var 0) (by rfl) z_isinstance (by rfl) z_list (by decide +kernel) (by rfl) z_tuple (by decide +kernel)))) (qss_one (qs_ret qe_bl)) qss_nil) (qss_one (qs_ret (qe_and (qe_cmp op_ge os_ge (qe_callB call_lenA cs_len (by rfl) z_len (by decide +kernel) (qa_cons (qe_var 0) qa_nil)) (qe_var 1) (nomark _)) (qe_one (qe_or (qe_cmp op_isA os_is (qe_var 2) qe_non (nomark _)) (qe_one (qe_cmp op_le os_le (qe_callB call_lenA cs_len (by rfl) z_len (by decide +kernel) (qa_cons (qe_var 0) qa_nil)) (qe_var 2) (nomark _)))))))))
theorem c_is_row (T : Txt K mg) : Callee P w K mg base 1 "is_row" 3 [] m_is_row := by
  obtain ⟨f, fd, F, hm⟩ := T.F_is_row
  obtain ⟨ds, hv, hb⟩ := FunD.binds1 (ps := ["thing", "least", "most"]) F 3 2 (by simp) rfl (fun T kV doc pm an cdv ct us its l1 l2 => match us, its, l1, l2 with | [_, _, _], [_, _], _, _ => ⟨_, rfl, rfl⟩)
  exact ⟨f, fd, ["thing", "least", "most"], _, ds, f_is_row T  F, hm, F.kp, hb, hv, fun _ _ => .nil⟩
theorem f_is_spot (T : Txt K mg) (C_is_ratio : Callee P w K mg base 2 "is_ratio" 1 [] m_is_ratio) (C_is_row : Callee P w K mg base 1 "is_row" 3 [] m_is_row) {f : Addr} {fd : FuncData} (F : Fun K "is_spot" "is_spot" st_is_spot f fd) : FnOk P w K mg base (L2.CX P w) 3 f fd ["thing"] (spM K mg 1 m_is_spot) := by
  show FnOk P w K mg base (L2.CX P w) (2 + 1) f fd ["thing"] (spM K mg 1 (mDef 1 b_is_spot))
  refine okM F sc_is_spot rfl rfl (fun cdv A outer s H E hr => ?_)
  exact (qss_one (qs_ret (qe_and (qe_c C_is_row hr (by decide) cx_takes (qa_cons (qe_var 0) (qa_cons qe_int (qa_cons qe_int qa_nil)))) (qe_and (qe_c C_is_ratio hr (by decide) cx_takes (qa_cons (qe_ix (qe_var 0) qe_int) qa_nil)) (qe_one (qe_c C_is_ratio hr (by decide) cx_takes (qa_cons (qe_ix (qe_var 0) qe_int) qa_nil)))))))
theorem c_is_spot (T : Txt K mg) (C_is_ratio : Callee P w K mg base 2 "is_ratio" 1 [] m_is_ratio) (C_is_row : Callee P w K mg base 1 "is_row" 3 [] m_is_row) : Callee P w K mg base 3 "is_spot" 1 [] m_is_spot := by
  obtain ⟨f, fd, F, hm⟩ := T.F_is_spot
  exact ⟨f, fd, ["thing"], [], [], f_is_spot T C_is_ratio C_is_row F, hm, F.kp, F.binds (ps := ["thing"]) (fun _ _ _ _ _ _ us hl => match us, hl with | [_], _ => rfl), .nil, fun _ _ => .nil⟩
theorem f_is_direction (T : Txt K mg) (C_dot_of : Callee P w K mg base 3 "dot_of" 2 [] m_dot_of) (C_is_spot : Callee P w K mg base 3 "is_spot" 1 [] m_is_spot) {f : Addr} {fd : FuncData} (F : Fun K "is_direction" "is_direction" st_is_direction f fd) : FnOk P w K mg base (L2.CX P w) 4 f fd ["thing"] (spM K mg 1 m_is_direction) := by
  obtain ⟨_, g_ONE⟩ := T.g_ONE
  show FnOk P w K mg base (L2.CX P w) (3 + 1) f fd ["thing"] (spM K mg 1 (mDef 1 b_is_direction))
  refine okM F sc_is_direction rfl rfl (fun cdv A outer s H E hr => ?_)
  exact (qss_one (qs_ret (qe_and (qe_c C_is_spot hr (by decide) cx_takes (qa_cons (qe_var 0) qa_nil)) (qe_one (qe_cmp (op_eqD hr.units) os_eq (qe_c C_dot_of hr (by decide) cx_takes (qa_cons (qe_var 0) (qa_cons (qe_var 0) qa_nil))) (qe_glob (v := .ref _) (by rfl) g_ONE.1 rfl g_ONE.2) (nomark _))))))
theorem c_is_direction (T : Txt K mg) (C_dot_of : Callee P w K mg base 3 "dot_of" 2 [] m_dot_of) (C_is_spot : Callee P w K mg base 3 "is_spot" 1 [] m_is_spot) : Callee P w K mg base 4 "is_direction" 1 [] m_is_direction := by
  obtain ⟨f, fd, F, hm⟩ := T.F_is_direction
  exact ⟨f, fd, ["thing"], [], [], f_is_direction T C_dot_of C_is_spot F, hm, F.kp, F.binds (ps := ["thing"]) (fun _ _ _ _ _ _ us hl => match us, hl with | [_], _ => rfl), .nil, fun _ _ => .nil⟩
theorem f_check_direction (T : Txt K mg) (C_is_direction : Callee P w K mg base 4 "is_direction" 1 [] m_is_direction) {f : Addr} {fd : FuncData} (F : Fun K "check_direction" "check_direction" st_check_direction f fd) : FnOk P w K mg base (L2.CX P w) 5 f fd ["direction"] (spM K mg 1 m_check_direction) := by
  have z_tuple := T.z_tuple
  show FnOk P w K mg base (L2.CX P w) (4 + 1) f fd ["direction"] (spM K mg 1 (mDef 1 b_check_direction))
  refine okM F sc_check_direction rfl rfl (fun cdv A outer s H E hr => ?_)
  exact (qss_cons (qs_if (qt_not (qt_tru (qe_c C_is_direction hr (by decide) cx_takes (qa_cons (qe_var 0) qa_nil)))) (qss_one qs_bad) qss_nil) (qss_one (qs_ret (qe_callTy call_tuple_of cs_tuple (by rfl) z_tuple (by decide +kernel) (qa_cons (qe_var 0) qa_nil)))))
theorem c_check_direction (T : Txt K mg) (C_is_direction : Callee P w K mg base 4 "is_direction" 1 [] m_is_direction) : Callee P w K mg base 5 "check_direction" 1 [] m_check_direction := by
  obtain ⟨f, fd, F, hm⟩ := T.F_check_direction
  exact ⟨f, fd, ["direction"], [], [], f_check_direction T C_is_direction F, hm, F.kp, F.binds (ps := ["direction"]) (fun _ _ _ _ _ _ us hl => match us, hl with | [_], _ => rfl), .nil, fun _ _ => .nil⟩
theorem f_cosine_between (T : Txt K mg) (C_check_direction : Callee P w K mg base 5 "check_direction" 1 [] m_check_direction) (C_dot_of : Callee P w K mg base 3 "dot_of" 2 [] m_dot_of) {f : Addr} {fd : FuncData} (F : Fun K "cosine_between" "cosine_between" st_cosine_between f fd) : FnOk P w K mg base (L2.CX P w) 6 f fd ["one", "other"] (spM K mg 2 m_cosine_between) := by
  show FnOk P w K mg base (L2.CX P w) (5 + 1) f fd ["one", "other"] (spM K mg 2 (mDef 2 b_cosine_between))
  refine okM F sc_cosine_between rfl rfl (fun cdv A outer s H E hr => ?_)
  exact (qss_one (qs_ret (qe_c C_dot_of hr (by decide) cx_takes (qa_cons (qe_c C_check_direction hr (by decide) cx_takes (qa_cons (qe_var 0) qa_nil)) (qa_cons (qe_c C_check_direction hr (by decide) cx_takes (qa_cons (qe_var 1) qa_nil)) qa_nil)))))
theorem c_cosine_between (T : Txt K mg) (C_check_direction : Callee P w K mg base 5 "check_direction" 1 [] m_check_direction) (C_dot_of : Callee P w K mg base 3 "dot_of" 2 [] m_dot_of) : Callee P w K mg base 6 "cosine_between" 2 [] m_cosine_between := by
  obtain ⟨f, fd, F, hm⟩ := T.F_cosine_between
  exact ⟨f, fd, ["one", "other"], [], [], f_cosine_between T C_check_direction C_dot_of F, hm, F.kp, F.binds (ps := ["one", "other"]) (fun _ _ _ _ _ _ us hl => match us, hl with | [_, _], _ => rfl), .nil, fun _ _ => .nil⟩
theorem f_direction_by (T : Txt K mg) (C_check_half : Callee P w K mg base 4 "check_half" 1 [] m_check_half) (C_lowest_terms : Callee P w K mg base 1 "lowest_terms" 2 [] m_lowest_terms) {f : Addr} {fd : FuncData} (F : Fun K "direction_by" "direction_by" st_direction_by f fd) : FnOk P w K mg base (L2.CX P w) 5 f fd ["half"] (spM K mg 1 m_direction_by) := by
  obtain ⟨_, g_DOWN⟩ := T.g_DOWN
  show FnOk P w K mg base (L2.CX P w) (4 + 1) f fd ["half"] (spM K mg 1 (mDef 4 b_direction_by))
  refine okM F sc_direction_by rfl rfl (fun cdv A outer s H E hr => ?_)
  exact (qss_cons (qs_expr (qe_c C_check_half hr (by decide) cx_takes (qa_cons (qe_var 0) qa_nil))) (qss_cons (qs_if (qt_cmp op_isA os_is (qe_var 0) qe_non (nomark _)) (qss_one (qs_ret (qe_glob (v := .ref _) (by rfl) g_DOWN.1 rfl g_DOWN.2))) qss_nil) (qss_cons (qs_asg (qe_var 0) (qg_seq 2 rfl (qgs_cons (qg_name 1 sc_direction_by.nd) (qgs_cons (qg_name 2 sc_direction_by.nd) qgs_nil)))) (qss_cons (qs_set 3 sc_direction_by.nd (qe_op op_addA os_add (qe_op op_mulA os_mul (qe_var 2) (qe_var 2)) (qe_op op_mulA os_mul (qe_var 1) (qe_var 1)))) (qss_one (qs_ret (qe_tup (qa_cons (qe_c C_lowest_terms hr (by decide) cx_takes (qa_cons (qe_op op_mulA os_mul (qe_op op_mulA os_mul (qe_un un_neg us_neg qe_int) (qe_var 1)) (qe_var 2)) (qa_cons (qe_var 3) qa_nil))) (qa_cons (qe_c C_lowest_terms hr (by decide) cx_takes (qa_cons (qe_op op_sub os_sub (qe_op op_mulA os_mul (qe_var 2) (qe_var 2)) (qe_op op_mulA os_mul (qe_var 1) (qe_var 1))) (qa_cons (qe_var 3) qa_nil))) qa_nil)))))))))
theorem c_direction_by (T : Txt K mg) (C_check_half : Callee P w K mg base 4 "check_half" 1 [] m_check_half) (C_lowest_terms : Callee P w K mg base 1 "lowest_terms" 2 [] m_lowest_terms) : Callee P w K mg base 5 "direction_by" 1 [] m_direction_by := by
  obtain ⟨f, fd, F, hm⟩ := T.F_direction_by
  exact ⟨f, fd, ["half"], [], [], f_direction_by T C_check_half C_lowest_terms F, hm, F.kp, F.binds (ps := ["half"]) (fun _ _ _ _ _ _ us hl => match us, hl with | [_], _ => rfl), .nil, fun _ _ => .nil⟩
theorem f_negative (T : Txt K mg) {f : Addr} {fd : FuncData} (F : Fun K "negative" "negative" st_negative f fd) : FnOk P w K mg base (L2.CX P w) 1 f fd ["one"] (spM K mg 1 m_negative) := by
  show FnOk P w K mg base (L2.CX P w) (0 + 1) f fd ["one"] (spM K mg 1 (mDef 1 b_negative))
  refine okM F sc_negative rfl rfl (fun cdv A outer s H E hr => ?_)
  exact (qss_one (qs_ret (qe_tup (qa_cons (qe_un un_neg us_neg (qe_ix (qe_var 0) qe_int)) (qa_cons (qe_ix (qe_var 0) qe_int) qa_nil)))))
theorem c_negative (T : Txt K mg) : Callee P w K mg base 1 "negative" 1 [] m_negative := by
  obtain ⟨f, fd, F, hm⟩ := T.F_negative
  exact ⟨f, fd, ["one"], [], [], f_negative T  F, hm, F.kp, F.binds (ps := ["one"]) (fun _ _ _ _ _ _ us hl => match us, hl with | [_], _ => rfl), .nil, fun _ _ => .nil⟩
theorem f_half_of (T : Txt K mg) (C_check_direction : Callee P w K mg base 5 "check_direction" 1 [] m_check_direction) (C_negative : Callee P w K mg base 1 "negative" 1 [] m_negative) (C_over : Callee P w K mg base 2 "over" 2 [] m_over) (C_plus : Callee P w K mg base 2 "plus" 2 [] m_plus) {f : Addr} {fd : FuncData} (F : Fun K "half_of" "half_of" st_half_of f fd) : FnOk P w K mg base (L2.CX P w) 6 f fd ["direction"] (spM K mg 1 m_half_of) := by
  obtain ⟨_, g_DOWN⟩ := T.g_DOWN
  have g_END := T.g_END
  obtain ⟨_, g_ONE⟩ := T.g_ONE
  show FnOk P w K mg base (L2.CX P w) (5 + 1) f fd ["direction"] (spM K mg 1 (mDef 3 b_half_of))
  refine okM F sc_half_of rfl rfl (fun cdv A outer s H E hr => ?_)
  exact (qss_cons (qs_asg (qe_c C_check_direction hr (by decide) cx_takes (qa_cons (qe_var 0) qa_nil)) (qg_seq 2 rfl (qgs_cons (qg_name 1 sc_half_of.nd) (qgs_cons (qg_name 2 sc_half_of.nd) qgs_nil)))) (qss_cons (qs_if (qt_cmp (op_eqD hr.units) os_eq (qe_tup (qa_cons (qe_var 1) (qa_cons (qe_var 2) qa_nil))) (qe_glob (v := .ref _) (by rfl) g_DOWN.1 rfl g_DOWN.2) (nomark _)) (qss_one (qs_ret (qe_glob (v := .non) (by rfl) g_END rfl fun _ _ => .non))) qss_nil) (qss_one (qs_ret (qe_c C_over hr (by decide) cx_takes (qa_cons (qe_c C_negative hr (by decide) cx_takes (qa_cons (qe_var 1) qa_nil)) (qa_cons (qe_c C_plus hr (by decide) cx_takes (qa_cons (qe_glob (v := .ref _) (by rfl) g_ONE.1 rfl g_ONE.2) (qa_cons (qe_var 2) qa_nil))) qa_nil)))))))
theorem c_half_of (T : Txt K mg) (C_check_direction : Callee P w K mg base 5 "check_direction" 1 [] m_check_direction) (C_negative : Callee P w K mg base 1 "negative" 1 [] m_negative) (C_over : Callee P w K mg base 2 "over" 2 [] m_over) (C_plus : Callee P w K mg base 2 "plus" 2 [] m_plus) : Callee P w K mg base 6 "half_of" 1 [] m_half_of := by
  obtain ⟨f, fd, F, hm⟩ := T.F_half_of
  exact ⟨f, fd, ["direction"], [], [], f_half_of T C_check_direction C_negative C_over C_plus F, hm, F.kp, F.binds (ps := ["direction"]) (fun _ _ _ _ _ _ us hl => match us, hl with | [_], _ => rfl), .nil, fun _ _ => .nil⟩
theorem f_cross_of (T : Txt K mg) (C_minus : Callee P w K mg base 2 "minus" 2 [] m_minus) (C_times : Callee P w K mg base 2 "times" 2 [] m_times) {f : Addr} {fd : FuncData} (F : Fun K "cross_of" "cross_of" st_cross_of f fd) : FnOk P w K mg base (L2.CX P w) 3 f fd ["one", "other"] (spM K mg 2 m_cross_of) := by
  show FnOk P w K mg base (L2.CX P w) (2 + 1) f fd ["one", "other"] (spM K mg 2 (mDef 2 b_cross_of))
  refine okM F sc_cross_of rfl rfl (fun cdv A outer s H E hr => ?_)
  exact (qss_one (qs_ret (qe_c C_minus hr (by decide) cx_takes (qa_cons (qe_c C_times hr (by decide) cx_takes (qa_cons (qe_ix (qe_var 0) qe_int) (qa_cons (qe_ix (qe_var 1) qe_int) qa_nil))) (qa_cons (qe_c C_times hr (by decide) cx_takes (qa_cons (qe_ix (qe_var 0) qe_int) (qa_cons (qe_ix (qe_var 1) qe_int) qa_nil))) qa_nil)))))
theorem c_cross_of (T : Txt K mg) (C_minus : Callee P w K mg base 2 "minus" 2 [] m_minus) (C_times : Callee P w K mg base 2 "times" 2 [] m_times) : Callee P w K mg base 3 "cross_of" 2 [] m_cross_of := by
  obtain ⟨f, fd, F, hm⟩ := T.F_cross_of
  exact ⟨f, fd, ["one", "other"], [], [], f_cross_of T C_minus C_times F, hm, F.kp, F.binds (ps := ["one", "other"]) (fun _ _ _ _ _ _ us hl => match us, hl with | [_, _], _ => rfl), .nil, fun _ _ => .nil⟩
theorem f_sine_between (T : Txt K mg) (C_check_direction : Callee P w K mg base 5 "check_direction" 1 [] m_check_direction) (C_cross_of : Callee P w K mg base 3 "cross_of" 2 [] m_cross_of) {f : Addr} {fd : FuncData} (F : Fun K "sine_between" "sine_between" st_sine_between f fd) : FnOk P w K mg base (L2.CX P w) 6 f fd ["one", "other"] (spM K mg 2 m_sine_between) := by
  show FnOk P w K mg base (L2.CX P w) (5 + 1) f fd ["one", "other"] (spM K mg 2 (mDef 2 b_sine_between))
  refine okM F sc_sine_between rfl rfl (fun cdv A outer s H E hr => ?_)
  exact (qss_one (qs_ret (qe_c C_cross_of hr (by decide) cx_takes (qa_cons (qe_c C_check_direction hr (by decide) cx_takes (qa_cons (qe_var 0) qa_nil)) (qa_cons (qe_c C_check_direction hr (by decide) cx_takes (qa_cons (qe_var 1) qa_nil)) qa_nil)))))
theorem c_sine_between (T : Txt K mg) (C_check_direction : Callee P w K mg base 5 "check_direction" 1 [] m_check_direction) (C_cross_of : Callee P w K mg base 3 "cross_of" 2 [] m_cross_of) : Callee P w K mg base 6 "sine_between" 2 [] m_sine_between := by
  obtain ⟨f, fd, F, hm⟩ := T.F_sine_between
  exact ⟨f, fd, ["one", "other"], [], [], f_sine_between T C_check_direction C_cross_of F, hm, F.kp, F.binds (ps := ["one", "other"]) (fun _ _ _ _ _ _ us hl => match us, hl with | [_, _], _ => rfl), .nil, fun _ _ => .nil⟩
theorem f_mirrored_direction (T : Txt K mg) (C_check_direction : Callee P w K mg base 5 "check_direction" 1 [] m_check_direction) (C_negative : Callee P w K mg base 1 "negative" 1 [] m_negative) {f : Addr} {fd : FuncData} (F : Fun K "mirrored_direction" "mirrored_direction" st_mirrored_direction f fd) : FnOk P w K mg base (L2.CX P w) 6 f fd ["direction"] (spM K mg 1 m_mirrored_direction) := by
  show FnOk P w K mg base (L2.CX P w) (5 + 1) f fd ["direction"] (spM K mg 1 (mDef 3 b_mirrored_direction))
  refine okM F sc_mirrored_direction rfl rfl (fun cdv A outer s H E hr => ?_)
  exact (qss_cons (qs_asg (qe_c C_check_direction hr (by decide) cx_takes (qa_cons (qe_var 0) qa_nil)) (qg_seq 2 rfl (qgs_cons (qg_name 1 sc_mirrored_direction.nd) (qgs_cons (qg_name 2 sc_mirrored_direction.nd) qgs_nil)))) (qss_one (qs_ret (qe_tup (qa_cons (qe_c C_negative hr (by decide) cx_takes (qa_cons (qe_var 1) qa_nil)) (qa_cons (qe_var 2) qa_nil))))))
theorem c_mirrored_direction (T : Txt K mg) (C_check_direction : Callee P w K mg base 5 "check_direction" 1 [] m_check_direction) (C_negative : Callee P w K mg base 1 "negative" 1 [] m_negative) : Callee P w K mg base 6 "mirrored_direction" 1 [] m_mirrored_direction := by
  obtain ⟨f, fd, F, hm⟩ := T.F_mirrored_direction
  exact ⟨f, fd, ["direction"], [], [], f_mirrored_direction T C_check_direction C_negative F, hm, F.kp, F.binds (ps := ["direction"]) (fun _ _ _ _ _ _ us hl => match us, hl with | [_], _ => rfl), .nil, fun _ _ => .nil⟩
theorem f_turned_as (T : Txt K mg) (C_cross_of : Callee P w K mg base 3 "cross_of" 2 [] m_cross_of) (C_dot_of : Callee P w K mg base 3 "dot_of" 2 [] m_dot_of) (C_mirrored_direction : Callee P w K mg base 6 "mirrored_direction" 1 [] m_mirrored_direction) {f : Addr} {fd : FuncData} (F : Fun K "turned_as" "turned_as" st_turned_as f fd) : FnOk P w K mg base (L2.CX P w) 7 f fd ["direction", "turn"] (spM K mg 2 m_turned_as) := by
  show FnOk P w K mg base (L2.CX P w) (6 + 1) f fd ["direction", "turn"] (spM K mg 2 (mDef 4 b_turned_as))
  refine okM F sc_turned_as rfl rfl (fun cdv A outer s H E hr => ?_)
  exact (qss_cons (qs_asg (qe_c C_mirrored_direction hr (by decide) cx_takes (qa_cons (qe_var 1) qa_nil)) (qg_seq 2 rfl (qgs_cons (qg_name 2 sc_turned_as.nd) (qgs_cons (qg_name 3 sc_turned_as.nd) qgs_nil)))) (qss_one (qs_ret (qe_tup (qa_cons (qe_c C_cross_of hr (by decide) cx_takes (qa_cons (qe_var 0) (qa_cons (qe_tup (qa_cons (qe_var 2) (qa_cons (qe_var 3) qa_nil))) qa_nil))) (qa_cons (qe_c C_dot_of hr (by decide) cx_takes (qa_cons (qe_var 0) (qa_cons (qe_tup (qa_cons (qe_var 2) (qa_cons (qe_var 3) qa_nil))) qa_nil))) qa_nil))))))
theorem c_turned_as (T : Txt K mg) (C_cross_of : Callee P w K mg base 3 "cross_of" 2 [] m_cross_of) (C_dot_of : Callee P w K mg base 3 "dot_of" 2 [] m_dot_of) (C_mirrored_direction : Callee P w K mg base 6 "mirrored_direction" 1 [] m_mirrored_direction) : Callee P w K mg base 7 "turned_as" 2 [] m_turned_as := by
  obtain ⟨f, fd, F, hm⟩ := T.F_turned_as
  exact ⟨f, fd, ["direction", "turn"], [], [], f_turned_as T C_cross_of C_dot_of C_mirrored_direction F, hm, F.kp, F.binds (ps := ["direction", "turn"]) (fun _ _ _ _ _ _ us hl => match us, hl with | [_, _], _ => rfl), .nil, fun _ _ => .nil⟩
theorem f_turned_by (T : Txt K mg) (C_check_direction : Callee P w K mg base 5 "check_direction" 1 [] m_check_direction) (C_direction_by : Callee P w K mg base 5 "direction_by" 1 [] m_direction_by) (C_turned_as : Callee P w K mg base 7 "turned_as" 2 [] m_turned_as) {f : Addr} {fd : FuncData} (F : Fun K "turned_by" "turned_by" st_turned_by f fd) : FnOk P w K mg base (L2.CX P w) 8 f fd ["direction", "half"] (spM K mg 2 m_turned_by) := by
  show FnOk P w K mg base (L2.CX P w) (7 + 1) f fd ["direction", "half"] (spM K mg 2 (mDef 2 b_turned_by))
  refine okM F sc_turned_by rfl rfl (fun cdv A outer s H E hr => ?_)
  exact (qss_cons (qs_set 0 sc_turned_by.nd (qe_c C_check_direction hr (by decide) cx_takes (qa_cons (qe_var 0) qa_nil))) (qss_one (qs_ret (qe_c C_turned_as hr (by decide) cx_takes (qa_cons (qe_var 0) (qa_cons (qe_c C_direction_by hr (by decide) cx_takes (qa_cons (qe_var 1) qa_nil)) qa_nil))))))
theorem c_turned_by (T : Txt K mg) (C_check_direction : Callee P w K mg base 5 "check_direction" 1 [] m_check_direction) (C_direction_by : Callee P w K mg base 5 "direction_by" 1 [] m_direction_by) (C_turned_as : Callee P w K mg base 7 "turned_as" 2 [] m_turned_as) : Callee P w K mg base 8 "turned_by" 2 [] m_turned_by := by
  obtain ⟨f, fd, F, hm⟩ := T.F_turned_by
  exact ⟨f, fd, ["direction", "half"], [], [], f_turned_by T C_check_direction C_direction_by C_turned_as F, hm, F.kp, F.binds (ps := ["direction", "half"]) (fun _ _ _ _ _ _ us hl => match us, hl with | [_, _], _ => rfl), .nil, fun _ _ => .nil⟩
theorem f__law_added (T : Txt K mg) (C__law_direction : Callee P w K mg base 4 "_law_direction" 1 [] m__law_direction) (C__law_form : Callee P w K mg base 2 "_law_form" 2 [] m__law_form) (C__law_half_back : Callee P w K mg base 4 "_law_half_back" 1 [] m__law_half_back) (C__law_round : Callee P w K mg base 4 "_law_round" 1 [] m__law_round) (C__law_same : Callee P w K mg base 1 "_law_same" 2 [] m__law_same) (C__law_same_half : Callee P w K mg base 2 "_law_same_half" 2 [] m__law_same_half) (C__law_same_row : Callee P w K mg base 2 "_law_same_row" 2 [] m__law_same_row) (C__law_turned : Callee P w K mg base 5 "_law_turned" 2 [] m__law_turned) (C_add_halves : Callee P w K mg base 5 "add_halves" 2 [] m_add_halves) (C_cosine_between : Callee P w K mg base 6 "cosine_between" 2 [] m_cosine_between) (C_direction_by : Callee P w K mg base 5 "direction_by" 1 [] m_direction_by) (C_half_of : Callee P w K mg base 6 "half_of" 1 [] m_half_of) (C_sine_between : Callee P w K mg base 6 "sine_between" 2 [] m_sine_between) (C_turned_by : Callee P w K mg base 8 "turned_by" 2 [] m_turned_by) {f : Addr} {fd : FuncData} (F : Fun K "_law_added" "_law_added" st__law_added f fd) : FnOk P w K mg base (L2.CX P w) 9 f fd ["_law_hand_here", "_law_one", "_law_other"] (spM K mg 3 m__law_added) := by
  show FnOk P w K mg base (L2.CX P w) (8 + 1) f fd ["_law_hand_here", "_law_one", "_law_other"] (spM K mg 3 (mDef 9 b__law_added))
  refine okM F sc__law_added rfl rfl (fun cdv A outer s H E hr => ?_)
  exact (qss_cons (qs_set 3 sc__law_added.nd (qe_c C__law_direction hr (by decide) cx_takes (qa_cons (qe_var 1) qa_nil))) (qss_cons (qs_set 4 sc__law_added.nd (qe_c C__law_turned hr (by decide) cx_takes (qa_cons (qe_var 3) (qa_cons (qe_var 2) qa_nil)))) (qss_cons (qs_if (qt_w (qw_or (qt_not (qt_tru (qe_c C__law_same_row hr (by decide) cx_takes (qa_cons (qe_c C_direction_by hr (by decide) cx_takes (qa_cons (qe_var 1) qa_nil)) (qa_cons (qe_var 3) qa_nil))))) (qw_or1 (qt_not (qt_tru (qe_c C__law_same_half hr (by decide) cx_takes (qa_cons (qe_c C_half_of hr (by decide) cx_takes (qa_cons (qe_c C__law_form hr (by decide) cx_takes (qa_cons (qe_var 0) (qa_cons (qe_var 3) qa_nil))) qa_nil)) (qa_cons (qe_var 1) qa_nil)))))))) (qss_one (qs_ret qe_bl)) qss_nil) (qss_cons (qs_if (qt_not (qt_tru (qe_c C__law_same_row hr (by decide) cx_takes (qa_cons (qe_c C_turned_by hr (by decide) cx_takes (qa_cons (qe_c C__law_form hr (by decide) cx_takes (qa_cons (qe_var 0) (qa_cons (qe_var 3) qa_nil))) (qa_cons (qe_var 2) qa_nil))) (qa_cons (qe_var 4) qa_nil))))) (qss_one (qs_ret qe_bl)) qss_nil) (qss_cons (qs_set 5 sc__law_added.nd (qe_c C__law_half_back hr (by decide) cx_takes (qa_cons (qe_var 4) qa_nil))) (qss_cons (qs_set 6 sc__law_added.nd (qe_c C_add_halves hr (by decide) cx_takes (qa_cons (qe_var 1) (qa_cons (qe_var 2) qa_nil)))) (qss_cons (qs_if (qt_w (qw_or (qt_not (qt_tru (qe_c C__law_same_half hr (by decide) cx_takes (qa_cons (qe_var 6) (qa_cons (qe_var 5) qa_nil))))) (qw_or1 (qt_not (qt_tru (qe_c C__law_same_half hr (by decide) cx_takes (qa_cons (qe_c C_add_halves hr (by decide) cx_takes (qa_cons (qe_var 2) (qa_cons (qe_var 1) qa_nil))) (qa_cons (qe_var 5) qa_nil)))))))) (qss_one (qs_ret qe_bl)) qss_nil) (qss_cons (qs_asg (qe_c C__law_round hr (by decide) cx_takes (qa_cons (qe_var 2) qa_nil)) (qg_seq 2 rfl (qgs_cons (qg_name 7 sc__law_added.nd) (qgs_cons (qg_name 8 sc__law_added.nd) qgs_nil)))) (qss_cons (qs_if (qt_w (qw_or (qt_not (qt_tru (qe_c C__law_same hr (by decide) cx_takes (qa_cons (qe_c C_cosine_between hr (by decide) cx_takes (qa_cons (qe_var 3) (qa_cons (qe_var 4) qa_nil))) (qa_cons (qe_var 7) qa_nil))))) (qw_or1 (qt_not (qt_tru (qe_c C__law_same hr (by decide) cx_takes (qa_cons (qe_c C_sine_between hr (by decide) cx_takes (qa_cons (qe_var 3) (qa_cons (qe_c C__law_form hr (by decide) cx_takes (qa_cons (qe_var 0) (qa_cons (qe_var 4) qa_nil))) qa_nil))) (qa_cons (qe_var 8) qa_nil)))))))) (qss_one (qs_ret qe_bl)) qss_nil) (qss_one (qs_ret (qe_c C__law_same_row hr (by decide) cx_takes (qa_cons (qe_c C_direction_by hr (by decide) cx_takes (qa_cons (qe_var 6) qa_nil)) (qa_cons (qe_var 4) qa_nil))))))))))))))
theorem c__law_added (T : Txt K mg) (C__law_direction : Callee P w K mg base 4 "_law_direction" 1 [] m__law_direction) (C__law_form : Callee P w K mg base 2 "_law_form" 2 [] m__law_form) (C__law_half_back : Callee P w K mg base 4 "_law_half_back" 1 [] m__law_half_back) (C__law_round : Callee P w K mg base 4 "_law_round" 1 [] m__law_round) (C__law_same : Callee P w K mg base 1 "_law_same" 2 [] m__law_same) (C__law_same_half : Callee P w K mg base 2 "_law_same_half" 2 [] m__law_same_half) (C__law_same_row : Callee P w K mg base 2 "_law_same_row" 2 [] m__law_same_row) (C__law_turned : Callee P w K mg base 5 "_law_turned" 2 [] m__law_turned) (C_add_halves : Callee P w K mg base 5 "add_halves" 2 [] m_add_halves) (C_cosine_between : Callee P w K mg base 6 "cosine_between" 2 [] m_cosine_between) (C_direction_by : Callee P w K mg base 5 "direction_by" 1 [] m_direction_by) (C_half_of : Callee P w K mg base 6 "half_of" 1 [] m_half_of) (C_sine_between : Callee P w K mg base 6 "sine_between" 2 [] m_sine_between) (C_turned_by : Callee P w K mg base 8 "turned_by" 2 [] m_turned_by) : Callee P w K mg base 9 "_law_added" 3 [] m__law_added := by
  obtain ⟨f, fd, F, hm⟩ := T.F__law_added
  exact ⟨f, fd, ["_law_hand_here", "_law_one", "_law_other"], [], [], f__law_added T C__law_direction C__law_form C__law_half_back C__law_round C__law_same C__law_same_half C__law_same_row C__law_turned C_add_halves C_cosine_between C_direction_by C_half_of C_sine_between C_turned_by F, hm, F.kp, F.binds (ps := ["_law_hand_here", "_law_one", "_law_other"]) (fun _ _ _ _ _ _ us hl => match us, hl with | [_, _, _], _ => rfl), .nil, fun _ _ => .nil⟩
theorem f__law_half (T : Txt K mg) (C__law_ratio : Callee P w K mg base 2 "_law_ratio" 2 [] m__law_ratio) (C__law_take : Callee P w K mg base 1 "_law_take" 2 [] m__law_take) {f : Addr} {fd : FuncData} (F : Fun K "_law_half" "_law_half" st__law_half f fd) : FnOk P w K mg base (L2.CX P w) 3 f fd ["_law_hand_here"] (spM K mg 1 m__law_half) := by
  show FnOk P w K mg base (L2.CX P w) (2 + 1) f fd ["_law_hand_here"] (spM K mg 1 (mDef 2 b__law_half))
  refine okM F sc__law_half rfl rfl (fun cdv A outer s H E hr => ?_)
  exact (qss_cons (qs_set 1 sc__law_half.nd (qe_c C__law_take hr (by decide) cx_takes (qa_cons (qe_var 0) (qa_cons qe_int qa_nil)))) (qss_cons (qs_if (qt_cmp (op_eqD hr.units) os_eq (qe_var 1) qe_int (nomark _)) (qss_one (qs_ret qe_non)) qss_nil) (qss_cons (qs_if (qt_cmp (op_eqD hr.units) os_eq (qe_var 1) qe_int (nomark _)) (qss_one (qs_ret (qe_c C__law_ratio hr (by decide) cx_takes (qa_cons (qe_op op_sub os_sub (qe_c C__law_take hr (by decide) cx_takes (qa_cons (qe_var 0) (qa_cons qe_int qa_nil))) qe_int) (qa_cons (qe_op op_addA os_add qe_int (qe_c C__law_take hr (by decide) cx_takes (qa_cons (qe_var 0) (qa_cons qe_int qa_nil)))) qa_nil))))) qss_nil) (qss_one (qs_ret (qe_ix (qe_lst (qa_cons (qe_tup (qa_cons qe_int (qa_cons qe_int qa_nil))) (qa_cons (qe_tup (qa_cons qe_int (qa_cons qe_int qa_nil))) (qa_cons (qe_tup (qa_cons qe_int (qa_cons qe_int qa_nil))) (qa_cons (qe_tup (qa_cons qe_int (qa_cons qe_int qa_nil))) (qa_cons (qe_tup (qa_cons qe_int (qa_cons qe_int qa_nil))) (qa_cons (qe_tup (qa_cons qe_int (qa_cons qe_int qa_nil))) (qa_cons (qe_tup (qa_cons (qe_un un_neg us_neg qe_int) (qa_cons qe_int qa_nil))) (qa_cons (qe_tup (qa_cons (qe_un un_neg us_neg qe_int) (qa_cons qe_int qa_nil))) (qa_cons (qe_tup (qa_cons (qe_un un_neg us_neg qe_int) (qa_cons qe_int qa_nil))) (qa_cons (qe_tup (qa_cons (qe_un un_neg us_neg qe_int) (qa_cons qe_int qa_nil))) (qa_cons (qe_tup (qa_cons (qe_un un_neg us_neg qe_int) (qa_cons qe_int qa_nil))) (qa_cons (qe_tup (qa_cons qe_int (qa_cons qe_int qa_nil))) qa_nil))))))))))))) (qe_var 1)))))))
theorem c__law_half (T : Txt K mg) (C__law_ratio : Callee P w K mg base 2 "_law_ratio" 2 [] m__law_ratio) (C__law_take : Callee P w K mg base 1 "_law_take" 2 [] m__law_take) : Callee P w K mg base 3 "_law_half" 1 [] m__law_half := by
  obtain ⟨f, fd, F, hm⟩ := T.F__law_half
  exact ⟨f, fd, ["_law_hand_here"], [], [], f__law_half T C__law_ratio C__law_take F, hm, F.kp, F.binds (ps := ["_law_hand_here"]) (fun _ _ _ _ _ _ us hl => match us, hl with | [_], _ => rfl), .nil, fun _ _ => .nil⟩
theorem f__law_any_half (T : Txt K mg) (C__law_half : Callee P w K mg base 3 "_law_half" 1 [] m__law_half) (C__law_ratio : Callee P w K mg base 2 "_law_ratio" 2 [] m__law_ratio) (C__law_take : Callee P w K mg base 1 "_law_take" 2 [] m__law_take) {f : Addr} {fd : FuncData} (F : Fun K "_law_any_half" "_law_any_half" st__law_any_half f fd) : FnOk P w K mg base (L2.CX P w) 4 f fd ["_law_hand_here"] (spM K mg 1 m__law_any_half) := by
  show FnOk P w K mg base (L2.CX P w) (3 + 1) f fd ["_law_hand_here"] (spM K mg 1 (mDef 1 b__law_any_half))
  refine okM F sc__law_any_half rfl rfl (fun cdv A outer s H E hr => ?_)
  exact (qss_cons (qs_if (qt_cmp (op_eqD hr.units) os_eq (qe_c C__law_take hr (by decide) cx_takes (qa_cons (qe_var 0) (qa_cons qe_int qa_nil))) qe_int (nomark _)) (qss_one (qs_ret (qe_c C__law_ratio hr (by decide) cx_takes (qa_cons (qe_op op_sub os_sub (qe_c C__law_take hr (by decide) cx_takes (qa_cons (qe_var 0) (qa_cons (qe_op op_addA os_add (qe_op op_mulA os_mul qe_int (qe_op op_pow os_pow qe_int qe_int)) qe_int) qa_nil))) (qe_op op_pow os_pow qe_int qe_int)) (qa_cons (qe_op op_addA os_add qe_int (qe_c C__law_take hr (by decide) cx_takes (qa_cons (qe_var 0) (qa_cons qe_int qa_nil)))) qa_nil))))) qss_nil) (qss_one (qs_ret (qe_c C__law_half hr (by decide) cx_takes (qa_cons (qe_var 0) qa_nil)))))
theorem c__law_any_half (T : Txt K mg) (C__law_half : Callee P w K mg base 3 "_law_half" 1 [] m__law_half) (C__law_ratio : Callee P w K mg base 2 "_law_ratio" 2 [] m__law_ratio) (C__law_take : Callee P w K mg base 1 "_law_take" 2 [] m__law_take) : Callee P w K mg base 4 "_law_any_half" 1 [] m__law_any_half := by
  obtain ⟨f, fd, F, hm⟩ := T.F__law_any_half
  exact ⟨f, fd, ["_law_hand_here"], [], [], f__law_any_half T C__law_half C__law_ratio C__law_take F, hm, F.kp, F.binds (ps := ["_law_hand_here"]) (fun _ _ _ _ _ _ us hl => match us, hl with | [_], _ => rfl), .nil, fun _ _ => .nil⟩
theorem f_opposite_of (T : Txt K mg) (C_check_direction : Callee P w K mg base 5 "check_direction" 1 [] m_check_direction) (C_negative : Callee P w K mg base 1 "negative" 1 [] m_negative) {f : Addr} {fd : FuncData} (F : Fun K "opposite_of" "opposite_of" st_opposite_of f fd) : FnOk P w K mg base (L2.CX P w) 6 f fd ["direction"] (spM K mg 1 m_opposite_of) := by
  show FnOk P w K mg base (L2.CX P w) (5 + 1) f fd ["direction"] (spM K mg 1 (mDef 3 b_opposite_of))
  refine okM F sc_opposite_of rfl rfl (fun cdv A outer s H E hr => ?_)
  exact (qss_cons (qs_asg (qe_c C_check_direction hr (by decide) cx_takes (qa_cons (qe_var 0) qa_nil)) (qg_seq 2 rfl (qgs_cons (qg_name 1 sc_opposite_of.nd) (qgs_cons (qg_name 2 sc_opposite_of.nd) qgs_nil)))) (qss_one (qs_ret (qe_tup (qa_cons (qe_c C_negative hr (by decide) cx_takes (qa_cons (qe_var 1) qa_nil)) (qa_cons (qe_c C_negative hr (by decide) cx_takes (qa_cons (qe_var 2) qa_nil)) qa_nil))))))
theorem c_opposite_of (T : Txt K mg) (C_check_direction : Callee P w K mg base 5 "check_direction" 1 [] m_check_direction) (C_negative : Callee P w K mg base 1 "negative" 1 [] m_negative) : Callee P w K mg base 6 "opposite_of" 1 [] m_opposite_of := by
  obtain ⟨f, fd, F, hm⟩ := T.F_opposite_of
  exact ⟨f, fd, ["direction"], [], [], f_opposite_of T C_check_direction C_negative F, hm, F.kp, F.binds (ps := ["direction"]) (fun _ _ _ _ _ _ us hl => match us, hl with | [_], _ => rfl), .nil, fun _ _ => .nil⟩
theorem f_turned_quarters (T : Txt K mg) (C_check_direction : Callee P w K mg base 5 "check_direction" 1 [] m_check_direction) (C_is_whole_1 : Callee P w K mg base 1 "is_whole" 3 [.non, .non] m_is_whole) (C_negative : Callee P w K mg base 1 "negative" 1 [] m_negative) {f : Addr} {fd : FuncData} (F : Fun K "turned_quarters" "turned_quarters" st_turned_quarters f fd) : FnOk P w K mg base (L2.CX P w) 6 f fd ["direction", "quarters"] (spM K mg 2 m_turned_quarters) := by
  have z_range := T.z_range
  show FnOk P w K mg base (L2.CX P w) (5 + 1) f fd ["direction", "quarters"] (spM K mg 2 (mDef 5 b_turned_quarters))
  refine okM F sc_turned_quarters rfl rfl (fun cdv A outer s H E hr => ?_)
  exact (qss_cons (qs_asg (qe_c C_check_direction hr (by decide) cx_takes (qa_cons (qe_var 0) qa_nil)) (qg_seq 2 rfl (qgs_cons (qg_name 2 sc_turned_quarters.nd) (qgs_cons (qg_name 3 sc_turned_quarters.nd) qgs_nil)))) (qss_cons (qs_if (qt_not (qt_tru (qe_c C_is_whole_1 hr (by decide) cx_takes (qa_cons (qe_var 1) qa_nil)))) (qss_one qs_bad) qss_nil) (qss_cons (qs_for cx_pass rfl (qi_rng1 (by rfl) z_range (qe_op op_modN os_mod (qe_var 1) qe_int)) (qg_name 4 sc_turned_quarters.nd) (qss_one (qs_par 2 3 rfl sc_turned_quarters.nd (by decide) (qa_cons (qe_c C_negative hr (by decide) cx_takes (qa_cons (qe_var 3) qa_nil)) (qa_cons (qe_var 2) qa_nil))))) (qss_one (qs_ret (qe_tup (qa_cons (qe_var 2) (qa_cons (qe_var 3) qa_nil))))))))
theorem c_turned_quarters (T : Txt K mg) (C_check_direction : Callee P w K mg base 5 "check_direction" 1 [] m_check_direction) (C_is_whole_1 : Callee P w K mg base 1 "is_whole" 3 [.non, .non] m_is_whole) (C_negative : Callee P w K mg base 1 "negative" 1 [] m_negative) : Callee P w K mg base 6 "turned_quarters" 2 [] m_turned_quarters := by
  obtain ⟨f, fd, F, hm⟩ := T.F_turned_quarters
  exact ⟨f, fd, ["direction", "quarters"], [], [], f_turned_quarters T C_check_direction C_is_whole_1 C_negative F, hm, F.kp, F.binds (ps := ["direction", "quarters"]) (fun _ _ _ _ _ _ us hl => match us, hl with | [_, _], _ => rfl), .nil, fun _ _ => .nil⟩
theorem f_quarter_direction (T : Txt K mg) (C_turned_quarters : Callee P w K mg base 6 "turned_quarters" 2 [] m_turned_quarters) {f : Addr} {fd : FuncData} (F : Fun K "quarter_direction" "quarter_direction" st_quarter_direction f fd) : FnOk P w K mg base (L2.CX P w) 7 f fd ["quarters"] (spM K mg 1 m_quarter_direction) := by
  obtain ⟨_, g_UP⟩ := T.g_UP
  show FnOk P w K mg base (L2.CX P w) (6 + 1) f fd ["quarters"] (spM K mg 1 (mDef 1 b_quarter_direction))
  refine okM F sc_quarter_direction rfl rfl (fun cdv A outer s H E hr => ?_)
  exact (qss_one (qs_ret (qe_c C_turned_quarters hr (by decide) cx_takes (qa_cons (qe_glob (v := .ref _) (by rfl) g_UP.1 rfl g_UP.2) (qa_cons (qe_var 0) qa_nil)))))
theorem c_quarter_direction (T : Txt K mg) (C_turned_quarters : Callee P w K mg base 6 "turned_quarters" 2 [] m_turned_quarters) : Callee P w K mg base 7 "quarter_direction" 1 [] m_quarter_direction := by
  obtain ⟨f, fd, F, hm⟩ := T.F_quarter_direction
  exact ⟨f, fd, ["quarters"], [], [], f_quarter_direction T C_turned_quarters F, hm, F.kp, F.binds (ps := ["quarters"]) (fun _ _ _ _ _ _ us hl => match us, hl with | [_], _ => rfl), .nil, fun _ _ => .nil⟩
theorem f__law_quartered (T : Txt K mg) (C__law_form : Callee P w K mg base 2 "_law_form" 2 [] m__law_form) (C__law_same_row : Callee P w K mg base 2 "_law_same_row" 2 [] m__law_same_row) (C__law_take : Callee P w K mg base 1 "_law_take" 2 [] m__law_take) (C__law_times : Callee P w K mg base 3 "_law_times" 2 [] m__law_times) (C_mirrored_direction : Callee P w K mg base 6 "mirrored_direction" 1 [] m_mirrored_direction) (C_opposite_of : Callee P w K mg base 6 "opposite_of" 1 [] m_opposite_of) (C_quarter_direction : Callee P w K mg base 7 "quarter_direction" 1 [] m_quarter_direction) (C_turned_quarters : Callee P w K mg base 6 "turned_quarters" 2 [] m_turned_quarters) {f : Addr} {fd : FuncData} (F : Fun K "_law_quartered" "_law_quartered" st__law_quartered f fd) : FnOk P w K mg base (L2.CX P w) 8 f fd ["_law_hand_here", "_law_direction_here"] (spM K mg 2 m__law_quartered) := by
  have z_int := T.z_int
  have z_range := T.z_range
  show FnOk P w K mg base (L2.CX P w) (7 + 1) f fd ["_law_hand_here", "_law_direction_here"] (spM K mg 2 (mDef 8 b__law_quartered))
  refine okM F sc__law_quartered rfl rfl (fun cdv A outer s H E hr => ?_)
  exact (qss_cons (qs_set 2 sc__law_quartered.nd (qe_if (qt_cmp (op_eqD hr.units) os_eq (qe_c C__law_take hr (by decide) cx_takes (qa_cons (qe_var 0) (qa_cons qe_int qa_nil))) qe_int (nomark _)) (qe_op op_sub os_sub (qe_c C__law_take hr (by decide) cx_takes (qa_cons (qe_var 0) (qa_cons (qe_op op_pow os_pow qe_int qe_int) qa_nil))) (qe_op op_mulA os_mul qe_int (qe_op op_pow os_pow qe_int qe_int))) (qe_op op_sub os_sub (qe_c C__law_take hr (by decide) cx_takes (qa_cons (qe_var 0) (qa_cons qe_int qa_nil))) qe_int))) (qss_cons (qs_set 3 sc__law_quartered.nd (qe_lst (qa_cons (qe_tup (qa_cons (qe_tup (qa_cons qe_int (qa_cons qe_int qa_nil))) (qa_cons (qe_tup (qa_cons qe_int (qa_cons qe_int qa_nil))) qa_nil))) (qa_cons (qe_tup (qa_cons (qe_tup (qa_cons (qe_un un_neg us_neg qe_int) (qa_cons qe_int qa_nil))) (qa_cons (qe_tup (qa_cons qe_int (qa_cons qe_int qa_nil))) qa_nil))) (qa_cons (qe_tup (qa_cons (qe_tup (qa_cons qe_int (qa_cons qe_int qa_nil))) (qa_cons (qe_tup (qa_cons (qe_un un_neg us_neg qe_int) (qa_cons qe_int qa_nil))) qa_nil))) (qa_cons (qe_tup (qa_cons (qe_tup (qa_cons qe_int (qa_cons qe_int qa_nil))) (qa_cons (qe_tup (qa_cons qe_int (qa_cons qe_int qa_nil))) qa_nil))) qa_nil)))))) (qss_cons (qs_set 4 sc__law_quartered.nd (qe_var 1)) (qss_cons (qs_for cx_pass rfl (qi_rng1 (by rfl) z_range (qe_op op_modN os_mod (qe_callTy call_int1 cs_int (by rfl) z_int (by decide +kernel) (qa_cons (qe_var 2) qa_nil)) qe_int)) (qg_name 5 sc__law_quartered.nd) (qss_one (qs_set 4 sc__law_quartered.nd (qe_tup (qa_cons (qe_c C__law_times hr (by decide) cx_takes (qa_cons (qe_tup (qa_cons (qe_un un_neg us_neg qe_int) (qa_cons qe_int qa_nil))) (qa_cons (qe_ix (qe_var 4) qe_int) qa_nil))) (qa_cons (qe_ix (qe_var 4) qe_int) qa_nil)))))) (qss_cons (qs_if (qt_not (qt_tru (qe_c C__law_same_row hr (by decide) cx_takes (qa_cons (qe_c C_quarter_direction hr (by decide) cx_takes (qa_cons (qe_var 2) qa_nil)) (qa_cons (qe_ix (qe_var 3) (qe_op op_modN os_mod (qe_callTy call_int1 cs_int (by rfl) z_int (by decide +kernel) (qa_cons (qe_var 2) qa_nil)) qe_int)) qa_nil))))) (qss_one (qs_ret qe_bl)) qss_nil) (qss_cons (qs_if (qt_not (qt_tru (qe_c C__law_same_row hr (by decide) cx_takes (qa_cons (qe_c C_turned_quarters hr (by decide) cx_takes (qa_cons (qe_c C__law_form hr (by decide) cx_takes (qa_cons (qe_var 0) (qa_cons (qe_var 1) qa_nil))) (qa_cons (qe_var 2) qa_nil))) (qa_cons (qe_var 4) qa_nil))))) (qss_one (qs_ret qe_bl)) qss_nil) (qss_cons (qs_asg (qe_var 1) (qg_seq 2 rfl (qgs_cons (qg_name 6 sc__law_quartered.nd) (qgs_cons (qg_name 7 sc__law_quartered.nd) qgs_nil)))) (qss_cons (qs_if (qt_not (qt_tru (qe_c C__law_same_row hr (by decide) cx_takes (qa_cons (qe_c C_opposite_of hr (by decide) cx_takes (qa_cons (qe_var 1) qa_nil)) (qa_cons (qe_tup (qa_cons (qe_c C__law_times hr (by decide) cx_takes (qa_cons (qe_tup (qa_cons (qe_un un_neg us_neg qe_int) (qa_cons qe_int qa_nil))) (qa_cons (qe_var 6) qa_nil))) (qa_cons (qe_c C__law_times hr (by decide) cx_takes (qa_cons (qe_tup (qa_cons (qe_un un_neg us_neg qe_int) (qa_cons qe_int qa_nil))) (qa_cons (qe_var 7) qa_nil))) qa_nil))) qa_nil))))) (qss_one (qs_ret qe_bl)) qss_nil) (qss_one (qs_ret (qe_c C__law_same_row hr (by decide) cx_takes (qa_cons (qe_c C_mirrored_direction hr (by decide) cx_takes (qa_cons (qe_c C__law_form hr (by decide) cx_takes (qa_cons (qe_var 0) (qa_cons (qe_var 1) qa_nil))) qa_nil)) (qa_cons (qe_tup (qa_cons (qe_c C__law_times hr (by decide) cx_takes (qa_cons (qe_tup (qa_cons (qe_un un_neg us_neg qe_int) (qa_cons qe_int qa_nil))) (qa_cons (qe_var 6) qa_nil))) (qa_cons (qe_var 7) qa_nil))) qa_nil)))))))))))))
theorem c__law_quartered (T : Txt K mg) (C__law_form : Callee P w K mg base 2 "_law_form" 2 [] m__law_form) (C__law_same_row : Callee P w K mg base 2 "_law_same_row" 2 [] m__law_same_row) (C__law_take : Callee P w K mg base 1 "_law_take" 2 [] m__law_take) (C__law_times : Callee P w K mg base 3 "_law_times" 2 [] m__law_times) (C_mirrored_direction : Callee P w K mg base 6 "mirrored_direction" 1 [] m_mirrored_direction) (C_opposite_of : Callee P w K mg base 6 "opposite_of" 1 [] m_opposite_of) (C_quarter_direction : Callee P w K mg base 7 "quarter_direction" 1 [] m_quarter_direction) (C_turned_quarters : Callee P w K mg base 6 "turned_quarters" 2 [] m_turned_quarters) : Callee P w K mg base 8 "_law_quartered" 2 [] m__law_quartered := by
  obtain ⟨f, fd, F, hm⟩ := T.F__law_quartered
  exact ⟨f, fd, ["_law_hand_here", "_law_direction_here"], [], [], f__law_quartered T C__law_form C__law_same_row C__law_take C__law_times C_mirrored_direction C_opposite_of C_quarter_direction C_turned_quarters F, hm, F.kp, F.binds (ps := ["_law_hand_here", "_law_direction_here"]) (fun _ _ _ _ _ _ us hl => match us, hl with | [_, _], _ => rfl), .nil, fun _ _ => .nil⟩
theorem f__law_is_ratio (T : Txt K mg) (C__law_gcd : Callee P w K mg base 1 "_law_gcd" 2 [] m__law_gcd) {f : Addr} {fd : FuncData} (F : Fun K "_law_is_ratio" "_law_is_ratio" st__law_is_ratio f fd) : FnOk P w K mg base (L2.CX P w) 2 f fd ["_law_thing"] (spM K mg 1 m__law_is_ratio) := by
  have z_bool := T.z_bool
  have z_int := T.z_int
  have z_isinstance := T.z_isinstance
  have z_len := T.z_len
  have z_tuple := T.z_tuple
  show FnOk P w K mg base (L2.CX P w) (1 + 1) f fd ["_law_thing"] (spM K mg 1 (mDef 2 b__law_is_ratio))
  refine okM F sc__law_is_ratio rfl rfl (fun cdv A outer s H E hr => ?_)
  exact (qss_cons (qs_if (qt_w (qw_or (qt_not (qt_tru (qe_isi (qe_var 0) (by rfl) z_isinstance (by rfl) z_tuple (by decide +kernel)))) (qw_or1 (qt_cmp (op_neD hr.units) os_ne (qe_callB call_lenA cs_len (by rfl) z_len (by decide +kernel) (qa_cons (qe_var 0) qa_nil)) qe_int (nomark _))))) (qss_one (qs_ret qe_bl)) qss_nil) (qss_cons (qs_for cx_pass rfl (qi_seq (qe_var 0)) (qg_name 1 sc__law_is_ratio.nd) (qss_one (qs_if (qt_w (qw_or (qt_not (qt_tru (qe_isi (qe_var 1) (by rfl) z_isinstance (by rfl) z_int (by decide +kernel)))) (qw_or1 (qt_tru (qe_isi (qe_var 1) (by rfl) z_isinstance (by rfl) z_bool (by decide +kernel)))))) (qss_one (qs_ret qe_bl)) qss_nil))) (qss_one (qs_ret (qe_and (qe_cmp op_ge os_ge (qe_ix (qe_var 0) qe_int) qe_int (nomark _)) (qe_one (qe_cmp (op_eqD hr.units) os_eq (qe_c C__law_gcd hr (by decide) cx_takes (qa_cons (qe_ix (qe_var 0) qe_int) (qa_cons (qe_ix (qe_var 0) qe_int) qa_nil))) qe_int (nomark _))))))))
theorem c__law_is_ratio (T : Txt K mg) (C__law_gcd : Callee P w K mg base 1 "_law_gcd" 2 [] m__law_gcd) : Callee P w K mg base 2 "_law_is_ratio" 1 [] m__law_is_ratio := by
  obtain ⟨f, fd, F, hm⟩ := T.F__law_is_ratio
  exact ⟨f, fd, ["_law_thing"], [], [], f__law_is_ratio T C__law_gcd F, hm, F.kp, F.binds (ps := ["_law_thing"]) (fun _ _ _ _ _ _ us hl => match us, hl with | [_], _ => rfl), .nil, fun _ _ => .nil⟩
theorem f__law_is_square (T : Txt K mg) {f : Addr} {fd : FuncData} (F : Fun K "_law_is_square" "_law_is_square" st__law_is_square f fd) : FnOk P w K mg base (L2.CX P w) 1 f fd ["_law_number"] (spM K mg 1 m__law_is_square) := by
  have z_range := T.z_range
  show FnOk P w K mg base (L2.CX P w) (0 + 1) f fd ["_law_number"] (spM K mg 1 (mDef 2 b__law_is_square))
  refine okM F sc__law_is_square rfl rfl (fun cdv A outer s H E hr => ?_)
  exact (qss_one (qs_ret (qe_cmp (op_neD hr.units) os_ne (qe_lc rfl sc__law_is_square.nd (qi_rng1 (by rfl) z_range qe_int) (blkOk_by (N := ["_law_number", "_law_k"]) (sc := defScope st__law_is_square) (own := [("_law_k", 1)]) (by decide +kernel)) rfl (by decide) sg_name (g := gName 1) (fun _ _ _ _ _ => (qg_name 1 sc__law_is_square.nd).1) (fun _ _ _ _ _ => (qts_one (qt_cmp (op_eqD hr.units) os_eq (qe_op op_mulA os_mul (qe_var 1) (qe_var 1)) (qe_var 0) (nomark _)))) (fun _ _ _ _ _ => (qe_var 1))) (qe_lst qa_nil) (nomark _))))
theorem c__law_is_square (T : Txt K mg) : Callee P w K mg base 1 "_law_is_square" 1 [] m__law_is_square := by
  obtain ⟨f, fd, F, hm⟩ := T.F__law_is_square
  exact ⟨f, fd, ["_law_number"], [], [], f__law_is_square T  F, hm, F.kp, F.binds (ps := ["_law_number"]) (fun _ _ _ _ _ _ us hl => match us, hl with | [_], _ => rfl), .nil, fun _ _ => .nil⟩
theorem f__law_size (T : Txt K mg) {f : Addr} {fd : FuncData} (F : Fun K "_law_size" "_law_size" st__law_size f fd) : FnOk P w K mg base (L2.CX P w) 1 f fd ["_law_one"] (spM K mg 1 m__law_size) := by
  have z_abs := T.z_abs
  show FnOk P w K mg base (L2.CX P w) (0 + 1) f fd ["_law_one"] (spM K mg 1 (mDef 1 b__law_size))
  refine okM F sc__law_size rfl rfl (fun cdv A outer s H E hr => ?_)
  exact (qss_one (qs_ret (qe_tup (qa_cons (qe_callB call_abs cs_abs (by rfl) z_abs (by decide +kernel) (qa_cons (qe_ix (qe_var 0) qe_int) qa_nil)) (qa_cons (qe_ix (qe_var 0) qe_int) qa_nil)))))
theorem c__law_size (T : Txt K mg) : Callee P w K mg base 1 "_law_size" 1 [] m__law_size := by
  obtain ⟨f, fd, F, hm⟩ := T.F__law_size
  exact ⟨f, fd, ["_law_one"], [], [], f__law_size T  F, hm, F.kp, F.binds (ps := ["_law_one"]) (fun _ _ _ _ _ _ us hl => match us, hl with | [_], _ => rfl), .nil, fun _ _ => .nil⟩
theorem f__law_mark (T : Txt K mg) (C__law_ratio : Callee P w K mg base 2 "_law_ratio" 2 [] m__law_ratio) (C__law_take : Callee P w K mg base 1 "_law_take" 2 [] m__law_take) {f : Addr} {fd : FuncData} (F : Fun K "_law_mark" "_law_mark" st__law_mark f fd) : FnOk P w K mg base (L2.CX P w) 3 f fd ["_law_hand_here"] (spM K mg 1 m__law_mark) := by
  show FnOk P w K mg base (L2.CX P w) (2 + 1) f fd ["_law_hand_here"] (spM K mg 1 (mDef 1 b__law_mark))
  refine okM F sc__law_mark rfl rfl (fun cdv A outer s H E hr => ?_)
  exact (qss_one (qs_ret (qe_c C__law_ratio hr (by decide) cx_takes (qa_cons (qe_op op_sub os_sub (qe_c C__law_take hr (by decide) cx_takes (qa_cons (qe_var 0) (qa_cons qe_int qa_nil))) qe_int) (qa_cons qe_int qa_nil)))))
theorem c__law_mark (T : Txt K mg) (C__law_ratio : Callee P w K mg base 2 "_law_ratio" 2 [] m__law_ratio) (C__law_take : Callee P w K mg base 1 "_law_take" 2 [] m__law_take) : Callee P w K mg base 3 "_law_mark" 1 [] m__law_mark := by
  obtain ⟨f, fd, F, hm⟩ := T.F__law_mark
  exact ⟨f, fd, ["_law_hand_here"], [], [], f__law_mark T C__law_ratio C__law_take F, hm, F.kp, F.binds (ps := ["_law_hand_here"]) (fun _ _ _ _ _ _ us hl => match us, hl with | [_], _ => rfl), .nil, fun _ _ => .nil⟩
theorem f__law_wide (T : Txt K mg) (C__law_mark : Callee P w K mg base 3 "_law_mark" 1 [] m__law_mark) (C__law_ratio : Callee P w K mg base 2 "_law_ratio" 2 [] m__law_ratio) (C__law_take : Callee P w K mg base 1 "_law_take" 2 [] m__law_take) {f : Addr} {fd : FuncData} (F : Fun K "_law_wide" "_law_wide" st__law_wide f fd) : FnOk P w K mg base (L2.CX P w) 4 f fd ["_law_hand_here"] (spM K mg 1 m__law_wide) := by
  show FnOk P w K mg base (L2.CX P w) (3 + 1) f fd ["_law_hand_here"] (spM K mg 1 (mDef 2 b__law_wide))
  refine okM F sc__law_wide rfl rfl (fun cdv A outer s H E hr => ?_)
  exact (qss_cons (qs_set 1 sc__law_wide.nd (qe_c C__law_take hr (by decide) cx_takes (qa_cons (qe_var 0) (qa_cons qe_int qa_nil)))) (qss_cons (qs_if (qt_cmp (op_eqD hr.units) os_eq (qe_var 1) qe_int (nomark _)) (qss_one (qs_ret (qe_tup (qa_cons qe_int (qa_cons qe_int qa_nil))))) qss_nil) (qss_cons (qs_if (qt_cmp (op_eqD hr.units) os_eq (qe_var 1) qe_int (nomark _)) (qss_one (qs_ret (qe_c C__law_ratio hr (by decide) cx_takes (qa_cons (qe_op op_sub os_sub (qe_c C__law_take hr (by decide) cx_takes (qa_cons (qe_var 0) (qa_cons (qe_op op_addA os_add (qe_op op_mulA os_mul qe_int (qe_op op_pow os_pow qe_int qe_int)) qe_int) qa_nil))) (qe_op op_pow os_pow qe_int qe_int)) (qa_cons (qe_op op_addA os_add qe_int (qe_c C__law_take hr (by decide) cx_takes (qa_cons (qe_var 0) (qa_cons qe_int qa_nil)))) qa_nil))))) qss_nil) (qss_one (qs_ret (qe_c C__law_mark hr (by decide) cx_takes (qa_cons (qe_var 0) qa_nil)))))))
theorem c__law_wide (T : Txt K mg) (C__law_mark : Callee P w K mg base 3 "_law_mark" 1 [] m__law_mark) (C__law_ratio : Callee P w K mg base 2 "_law_ratio" 2 [] m__law_ratio) (C__law_take : Callee P w K mg base 1 "_law_take" 2 [] m__law_take) : Callee P w K mg base 4 "_law_wide" 1 [] m__law_wide := by
  obtain ⟨f, fd, F, hm⟩ := T.F__law_wide
  exact ⟨f, fd, ["_law_hand_here"], [], [], f__law_wide T C__law_mark C__law_ratio C__law_take F, hm, F.kp, F.binds (ps := ["_law_hand_here"]) (fun _ _ _ _ _ _ us hl => match us, hl with | [_], _ => rfl), .nil, fun _ _ => .nil⟩
theorem f_root_of (T : Txt K mg) (C_times : Callee P w K mg base 2 "times" 2 [] m_times) {f : Addr} {fd : FuncData} (F : Fun K "root_of" "root_of" st_root_of f fd) : FnOk P w K mg base (L2.CX P w) 3 f fd ["ratio"] (spM K mg 1 m_root_of) := by
  have i_isqrt := T.i_isqrt
  show FnOk P w K mg base (L2.CX P w) (2 + 1) f fd ["ratio"] (spM K mg 1 (mDef 4 b_root_of))
  refine okM F sc_root_of rfl rfl (fun cdv A outer s H E hr => ?_)
  exact (qss_cons (qs_asg (qe_var 0) (qg_seq 2 rfl (qgs_cons (qg_name 1 sc_root_of.nd) (qgs_cons (qg_name 2 sc_root_of.nd) qgs_nil)))) (qss_cons (qs_if (qt_cmp op_lt os_lt (qe_var 1) qe_int (nomark _)) (qss_one (qs_ret qe_non)) qss_nil) (qss_cons (qs_set 3 sc_root_of.nd (qe_tup (qa_cons (qe_callBfun cr_isqrt cs_isqrt (by rfl) i_isqrt (qa_cons (qe_var 1) qa_nil)) (qa_cons (qe_callBfun cr_isqrt cs_isqrt (by rfl) i_isqrt (qa_cons (qe_var 2) qa_nil)) qa_nil)))) (qss_one (qs_ret (qe_if (qt_cmp (op_eqD hr.units) os_eq (qe_c C_times hr (by decide) cx_takes (qa_cons (qe_var 3) (qa_cons (qe_var 3) qa_nil))) (qe_var 0) (nomark _)) (qe_var 3) qe_non))))))
theorem c_root_of (T : Txt K mg) (C_times : Callee P w K mg base 2 "times" 2 [] m_times) : Callee P w K mg base 3 "root_of" 1 [] m_root_of := by
  obtain ⟨f, fd, F, hm⟩ := T.F_root_of
  exact ⟨f, fd, ["ratio"], [], [], f_root_of T C_times F, hm, F.kp, F.binds (ps := ["ratio"]) (fun _ _ _ _ _ _ us hl => match us, hl with | [_], _ => rfl), .nil, fun _ _ => .nil⟩
theorem f__law_rooted (T : Txt K mg) (C__law_is_ratio : Callee P w K mg base 2 "_law_is_ratio" 1 [] m__law_is_ratio) (C__law_is_square : Callee P w K mg base 1 "_law_is_square" 1 [] m__law_is_square) (C__law_ratio : Callee P w K mg base 2 "_law_ratio" 2 [] m__law_ratio) (C__law_same : Callee P w K mg base 1 "_law_same" 2 [] m__law_same) (C__law_size : Callee P w K mg base 1 "_law_size" 1 [] m__law_size) (C__law_take : Callee P w K mg base 1 "_law_take" 2 [] m__law_take) (C__law_times : Callee P w K mg base 3 "_law_times" 2 [] m__law_times) (C__law_wide : Callee P w K mg base 4 "_law_wide" 1 [] m__law_wide) (C_root_of : Callee P w K mg base 3 "root_of" 1 [] m_root_of) {f : Addr} {fd : FuncData} (F : Fun K "_law_rooted" "_law_rooted" st__law_rooted f fd) : FnOk P w K mg base (L2.CX P w) 5 f fd ["_law_hand_here"] (spM K mg 1 m__law_rooted) := by
  show FnOk P w K mg base (L2.CX P w) (4 + 1) f fd ["_law_hand_here"] (spM K mg 1 (mDef 5 b__law_rooted))
  refine okM F sc__law_rooted rfl rfl (fun cdv A outer s H E hr => ?_)
  exact (qss_cons (qs_set 1 sc__law_rooted.nd (qe_c C__law_wide hr (by decide) cx_takes (qa_cons (qe_var 0) qa_nil))) (qss_cons (qs_set 2 sc__law_rooted.nd (qe_c C__law_times hr (by decide) cx_takes (qa_cons (qe_var 1) (qa_cons (qe_var 1) qa_nil)))) (qss_cons (qs_if (qt_not (qt_tru (qe_c C__law_same hr (by decide) cx_takes (qa_cons (qe_c C_root_of hr (by decide) cx_takes (qa_cons (qe_var 2) qa_nil)) (qa_cons (qe_c C__law_size hr (by decide) cx_takes (qa_cons (qe_var 1) qa_nil)) qa_nil))))) (qss_one (qs_ret qe_bl)) qss_nil) (qss_cons (qs_if (qt_w (qw_and (qt_cmp (op_neD hr.units) os_ne (qe_ix (qe_var 1) qe_int) qe_int (nomark _)) (qw_and1 (qt_w (qw_or (qt_cmp op_isNotA os_isNot (qe_c C_root_of hr (by decide) cx_takes (qa_cons (qe_c C__law_times hr (by decide) cx_takes (qa_cons (qe_tup (qa_cons qe_int (qa_cons qe_int qa_nil))) (qa_cons (qe_var 2) qa_nil))) qa_nil)) qe_non (nomark _)) (qw_or1 (qt_cmp op_isNotA os_isNot (qe_c C_root_of hr (by decide) cx_takes (qa_cons (qe_c C__law_times hr (by decide) cx_takes (qa_cons (qe_tup (qa_cons (qe_un un_neg us_neg qe_int) (qa_cons qe_int qa_nil))) (qa_cons (qe_var 2) qa_nil))) qa_nil)) qe_non (nomark _)))))))) (qss_one (qs_ret qe_bl)) qss_nil) (qss_cons (qs_set 3 sc__law_rooted.nd (qe_c C__law_ratio hr (by decide) cx_takes (qa_cons (qe_c C__law_take hr (by decide) cx_takes (qa_cons (qe_var 0) (qa_cons qe_int qa_nil))) (qa_cons (qe_op op_addA os_add qe_int (qe_c C__law_take hr (by decide) cx_takes (qa_cons (qe_var 0) (qa_cons qe_int qa_nil)))) qa_nil)))) (qss_cons (qs_set 4 sc__law_rooted.nd (qe_c C_root_of hr (by decide) cx_takes (qa_cons (qe_var 3) qa_nil))) (qss_cons (qs_if (qt_w (qw_or (qt_not (qt_tru (qe_c C__law_is_square hr (by decide) cx_takes (qa_cons (qe_ix (qe_var 3) qe_int) qa_nil)))) (qw_or1 (qt_not (qt_tru (qe_c C__law_is_square hr (by decide) cx_takes (qa_cons (qe_ix (qe_var 3) qe_int) qa_nil))))))) (qss_one (qs_ret (qe_cmp op_isA os_is (qe_var 4) qe_non (nomark _)))) qss_nil) (qss_one (qs_ret (qe_and (qe_cmp op_isNotA os_isNot (qe_var 4) qe_non (nomark _)) (qe_and (qe_c C__law_is_ratio hr (by decide) cx_takes (qa_cons (qe_var 4) qa_nil)) (qe_and (qe_cmp op_ge os_ge (qe_ix (qe_var 4) qe_int) qe_int (nomark _)) (qe_one (qe_cmp (op_eqD hr.units) os_eq (qe_c C__law_times hr (by decide) cx_takes (qa_cons (qe_var 4) (qa_cons (qe_var 4) qa_nil))) (qe_var 3) (nomark _)))))))))))))))
theorem c__law_rooted (T : Txt K mg) (C__law_is_ratio : Callee P w K mg base 2 "_law_is_ratio" 1 [] m__law_is_ratio) (C__law_is_square : Callee P w K mg base 1 "_law_is_square" 1 [] m__law_is_square) (C__law_ratio : Callee P w K mg base 2 "_law_ratio" 2 [] m__law_ratio) (C__law_same : Callee P w K mg base 1 "_law_same" 2 [] m__law_same) (C__law_size : Callee P w K mg base 1 "_law_size" 1 [] m__law_size) (C__law_take : Callee P w K mg base 1 "_law_take" 2 [] m__law_take) (C__law_times : Callee P w K mg base 3 "_law_times" 2 [] m__law_times) (C__law_wide : Callee P w K mg base 4 "_law_wide" 1 [] m__law_wide) (C_root_of : Callee P w K mg base 3 "root_of" 1 [] m_root_of) : Callee P w K mg base 5 "_law_rooted" 1 [] m__law_rooted := by
  obtain ⟨f, fd, F, hm⟩ := T.F__law_rooted
  exact ⟨f, fd, ["_law_hand_here"], [], [], f__law_rooted T C__law_is_ratio C__law_is_square C__law_ratio C__law_same C__law_size C__law_take C__law_times C__law_wide C_root_of F, hm, F.kp, F.binds (ps := ["_law_hand_here"]) (fun _ _ _ _ _ _ us hl => match us, hl with | [_], _ => rfl), .nil, fun _ _ => .nil⟩
theorem f__law_same_rows (T : Txt K mg) (C__law_same_row : Callee P w K mg base 2 "_law_same_row" 2 [] m__law_same_row) {f : Addr} {fd : FuncData} (F : Fun K "_law_same_rows" "_law_same_rows" st__law_same_rows f fd) : FnOk P w K mg base (L2.CX P w) 3 f fd ["_law_told", "_law_due"] (spM K mg 2 m__law_same_rows) := by
  have z_isinstance := T.z_isinstance
  have z_len := T.z_len
  have z_range := T.z_range
  have z_tuple := T.z_tuple
  show FnOk P w K mg base (L2.CX P w) (2 + 1) f fd ["_law_told", "_law_due"] (spM K mg 2 (mDef 3 b__law_same_rows))
  refine okM F sc__law_same_rows rfl rfl (fun cdv A outer s H E hr => ?_)
  exact (qss_cons (qs_if (qt_w (qw_or (qt_not (qt_tru (qe_isi (qe_var 0) (by rfl) z_isinstance (by rfl) z_tuple (by decide +kernel)))) (qw_or1 (qt_cmp (op_neD hr.units) os_ne (qe_callB call_lenA cs_len (by rfl) z_len (by decide +kernel) (qa_cons (qe_var 0) qa_nil)) (qe_callB call_lenA cs_len (by rfl) z_len (by decide +kernel) (qa_cons (qe_var 1) qa_nil)) (nomark _))))) (qss_one (qs_ret qe_bl)) qss_nil) (qss_one (qs_ret (qe_cmp (op_eqD hr.units) os_eq (qe_lc rfl sc__law_same_rows.nd (qi_rng1 (by rfl) z_range (qe_callB call_lenA cs_len (by rfl) z_len (by decide +kernel) (qa_cons (qe_var 1) qa_nil))) (blkOk_by (N := ["_law_told", "_law_due", "_law_k"]) (sc := defScope st__law_same_rows) (own := [("_law_k", 2)]) (by decide +kernel)) rfl (by decide) sg_name (g := gName 2) (fun _ _ _ _ _ => (qg_name 2 sc__law_same_rows.nd).1) (fun _ _ _ _ _ => (qts_one (qt_not (qt_tru (qe_c C__law_same_row hr (by decide) takes0 (qa_cons (qe_ix (qe_var 0) (qe_var 2)) (qa_cons (qe_ix (qe_var 1) (qe_var 2)) qa_nil))))))) (fun _ _ _ _ _ => (qe_var 2))) (qe_lst qa_nil) (nomark _)))))
theorem c__law_same_rows (T : Txt K mg) (C__law_same_row : Callee P w K mg base 2 "_law_same_row" 2 [] m__law_same_row) : Callee P w K mg base 3 "_law_same_rows" 2 [] m__law_same_rows := by
  obtain ⟨f, fd, F, hm⟩ := T.F__law_same_rows
  exact ⟨f, fd, ["_law_told", "_law_due"], [], [], f__law_same_rows T C__law_same_row F, hm, F.kp, F.binds (ps := ["_law_told", "_law_due"]) (fun _ _ _ _ _ _ us hl => match us, hl with | [_, _], _ => rfl), .nil, fun _ _ => .nil⟩
theorem f_law (T : Txt K mg) (C__law_added : Callee P w K mg base 9 "_law_added" 3 [] m__law_added) (C__law_any_half : Callee P w K mg base 4 "_law_any_half" 1 [] m__law_any_half) (C__law_direction : Callee P w K mg base 4 "_law_direction" 1 [] m__law_direction) (C__law_over : Callee P w K mg base 3 "_law_over" 2 [] m__law_over) (C__law_quartered : Callee P w K mg base 8 "_law_quartered" 2 [] m__law_quartered) (C__law_rooted : Callee P w K mg base 5 "_law_rooted" 1 [] m__law_rooted) (C__law_same_rows : Callee P w K mg base 3 "_law_same_rows" 2 [] m__law_same_rows) (C__law_take : Callee P w K mg base 1 "_law_take" 2 [] m__law_take) (M : ∀ s : Hd, ∃ s' : Hd, b_law (lawE 3) s = .ok (.rt (.bl true)) s') {f : Addr} {fd : FuncData} (F : Fun K "law" "law" st_law f fd) : FnOk P w K mg base (L2.CX P w) 10 f fd ["_law_script"] (spLaw K) := by
  obtain ⟨_, g_DOWN⟩ := T.g_DOWN
  have g_END := T.g_END
  obtain ⟨_, g_LEFT⟩ := T.g_LEFT
  obtain ⟨_, g_RIGHT⟩ := T.g_RIGHT
  obtain ⟨_, g_UP⟩ := T.g_UP
  have z_range := T.z_range
  obtain ⟨fh, fdh, Fh, hmh⟩ := T.F__law_hand
  have Gh : FnOk P w K mg base (L2.CX P w) 1 fh fdh ["_law_script"] (spHand K) := f__law_hand T Fh
  have bh : Binds K fdh ["_law_script"] [] := Fh.binds (ps := ["_law_script"]) (fun _ _ _ _ _ _ us hl => match us, hl with | [_], _ => rfl)
  refine F.okX (k := 9) sc_law (fun vs H Q E h => ?_) (fun cdv A outer s H vs Q E hr h => ?_)
  · obtain ⟨a, ns, rfl, _⟩ := h
    rfl
  · have h' := h
    obtain ⟨a, ns, rfl, _⟩ := h'
    obtain ⟨ts, q, ss⟩ : QSs (cxD P w K mg base ["_law_script", "_law_hand_here", "_law_turn", "_law_one", "_law_other"] "law" (defScope st_law) f cdv A outer s H E) (wE E) ((defBody st_law).drop 1) b_law := by
      exact (qss_cons (qs_if (qt_cmp op_isNotA os_isNot (qe_glob (v := .non) (by rfl) g_END rfl fun _ _ => .non) qe_non (nomark _)) (qss_one (qs_ret qe_bl)) qss_nil) (qss_cons (qs_if (qt_not (qt_tru (qe_c C__law_same_rows hr (by decide) cx_takes (qa_cons (qe_tup (qa_cons (qe_glob (v := .ref _) (by rfl) g_UP.1 rfl g_UP.2) (qa_cons (qe_glob (v := .ref _) (by rfl) g_LEFT.1 rfl g_LEFT.2) (qa_cons (qe_glob (v := .ref _) (by rfl) g_DOWN.1 rfl g_DOWN.2) (qa_cons (qe_glob (v := .ref _) (by rfl) g_RIGHT.1 rfl g_RIGHT.2) qa_nil))))) (qa_cons (qe_tup (qa_cons (qe_tup (qa_cons (qe_tup (qa_cons qe_int (qa_cons qe_int qa_nil))) (qa_cons (qe_tup (qa_cons qe_int (qa_cons qe_int qa_nil))) qa_nil))) (qa_cons (qe_tup (qa_cons (qe_tup (qa_cons (qe_un un_neg us_neg qe_int) (qa_cons qe_int qa_nil))) (qa_cons (qe_tup (qa_cons qe_int (qa_cons qe_int qa_nil))) qa_nil))) (qa_cons (qe_tup (qa_cons (qe_tup (qa_cons qe_int (qa_cons qe_int qa_nil))) (qa_cons (qe_tup (qa_cons (qe_un un_neg us_neg qe_int) (qa_cons qe_int qa_nil))) qa_nil))) (qa_cons (qe_tup (qa_cons (qe_tup (qa_cons qe_int (qa_cons qe_int qa_nil))) (qa_cons (qe_tup (qa_cons qe_int (qa_cons qe_int qa_nil))) qa_nil))) qa_nil))))) qa_nil))))) (qss_one (qs_ret qe_bl)) qss_nil) (qss_cons (qs_for cx_pass rfl (qi_rng1 (by rfl) z_range qe_int) (qg_name 2 sc_law.nd) (qss_cons (qs_set 3 sc_law.nd (qe_c C__law_any_half hr (by decide) cx_takes (qa_cons (qe_var 1) qa_nil))) (qss_cons (qs_set 4 sc_law.nd (qe_c C__law_any_half hr (by decide) cx_takes (qa_cons (qe_var 1) qa_nil))) (qss_cons (qs_if (qt_w (qw_and (qt_cmp op_isNotA os_isNot (qe_var 3) qe_non (nomark _)) (qw_and (qt_cmp (op_neD hr.units) os_ne (qe_ix (qe_var 3) qe_int) qe_int (nomark _)) (qw_and1 (qt_cmp (op_eqD hr.units) os_eq (qe_c C__law_take hr (by decide) cx_takes (qa_cons (qe_var 1) (qa_cons qe_int qa_nil))) qe_int (nomark _)))))) (qss_one (qs_set 4 sc_law.nd (qe_c C__law_over hr (by decide) cx_takes (qa_cons (qe_tup (qa_cons qe_int (qa_cons qe_int qa_nil))) (qa_cons (qe_var 3) qa_nil))))) qss_nil) (qss_one (qs_if (qt_w (qw_or (qt_not (qt_tru (qe_c C__law_added hr (by decide) cx_takes (qa_cons (qe_var 1) (qa_cons (qe_var 3) (qa_cons (qe_var 4) qa_nil)))))) (qw_or (qt_not (qt_tru (qe_c C__law_quartered hr (by decide) cx_takes (qa_cons (qe_var 1) (qa_cons (qe_c C__law_direction hr (by decide) cx_takes (qa_cons (qe_var 3) qa_nil)) qa_nil))))) (qw_or1 (qt_not (qt_tru (qe_c C__law_rooted hr (by decide) cx_takes (qa_cons (qe_var 1) qa_nil)))))))) (qss_one (qs_ret qe_bl)) qss_nil)))))) (qss_one (qs_ret qe_bl)))))
    exact ⟨_, pss_cons (ps_set (i := 1) sc_law.nd rfl (.inl rfl) (pe_callSD Gh (hr.mono (by decide)) (by rfl) hmh Fh.kp bh .nil (fun σ => passAt (W := wE E) cx_takes σ) (pa_cons (pv 0) pa_nil))) q, law_run h ss M⟩
end
end Law


set_option Elab.async false
set_option linter.all false
set_option maxRecDepth 100000
namespace Law
open PySem PySem.Spec PyProof.Rows L2 Mir
open PySem.W (Frag)
theorem txt_mk {K : Frag} {h : Heap} {mg : Str → Option Value} (X : K.In h) (G : h.Ns mainGlobals mg)
    {f__law_hand : Addr} {od__law_hand an__law_hand : Option Addr} {sl__law_hand : Array (Option Value)} {oc__law_hand kV__law_hand dc__law_hand pm__law_hand cd__law_hand ct__law_hand : Value}
    (a__law_hand : PySem.W.nsIn K mainGlobals "_law_hand" = some (some (.ref f__law_hand)))
    (l__law_hand : K.lookup f__law_hand = some ⟨oc__law_hand, od__law_hand, .func (PySem.W.fnOf "_law_hand" "_law_hand" (defArgs st__law_hand) (defBody st__law_hand) (defScope st__law_hand) .none kV__law_hand dc__law_hand pm__law_hand an__law_hand cd__law_hand ct__law_hand), sl__law_hand⟩)
    (c__law_hand : PySem.W.codeIn K cd__law_hand "_law_hand" = true)
    (k__law_hand : PySem.W.keepIn K (.ref f__law_hand) = true)
    {f__law_take : Addr} {od__law_take an__law_take : Option Addr} {sl__law_take : Array (Option Value)} {oc__law_take kV__law_take dc__law_take pm__law_take cd__law_take ct__law_take : Value}
    (a__law_take : PySem.W.nsIn K mainGlobals "_law_take" = some (some (.ref f__law_take)))
    (l__law_take : K.lookup f__law_take = some ⟨oc__law_take, od__law_take, .func (PySem.W.fnOf "_law_take" "_law_take" (defArgs st__law_take) (defBody st__law_take) (defScope st__law_take) .none kV__law_take dc__law_take pm__law_take an__law_take cd__law_take ct__law_take), sl__law_take⟩)
    (c__law_take : PySem.W.codeIn K cd__law_take "_law_take" = true)
    (k__law_take : PySem.W.keepIn K (.ref f__law_take) = true)
    {f__law_gcd : Addr} {od__law_gcd an__law_gcd : Option Addr} {sl__law_gcd : Array (Option Value)} {oc__law_gcd kV__law_gcd dc__law_gcd pm__law_gcd cd__law_gcd ct__law_gcd : Value}
    (a__law_gcd : PySem.W.nsIn K mainGlobals "_law_gcd" = some (some (.ref f__law_gcd)))
    (l__law_gcd : K.lookup f__law_gcd = some ⟨oc__law_gcd, od__law_gcd, .func (PySem.W.fnOf "_law_gcd" "_law_gcd" (defArgs st__law_gcd) (defBody st__law_gcd) (defScope st__law_gcd) .none kV__law_gcd dc__law_gcd pm__law_gcd an__law_gcd cd__law_gcd ct__law_gcd), sl__law_gcd⟩)
    (c__law_gcd : PySem.W.codeIn K cd__law_gcd "_law_gcd" = true)
    (k__law_gcd : PySem.W.keepIn K (.ref f__law_gcd) = true)
    {f__law_ratio : Addr} {od__law_ratio an__law_ratio : Option Addr} {sl__law_ratio : Array (Option Value)} {oc__law_ratio kV__law_ratio dc__law_ratio pm__law_ratio cd__law_ratio ct__law_ratio : Value}
    (a__law_ratio : PySem.W.nsIn K mainGlobals "_law_ratio" = some (some (.ref f__law_ratio)))
    (l__law_ratio : K.lookup f__law_ratio = some ⟨oc__law_ratio, od__law_ratio, .func (PySem.W.fnOf "_law_ratio" "_law_ratio" (defArgs st__law_ratio) (defBody st__law_ratio) (defScope st__law_ratio) .none kV__law_ratio dc__law_ratio pm__law_ratio an__law_ratio cd__law_ratio ct__law_ratio), sl__law_ratio⟩)
    (c__law_ratio : PySem.W.codeIn K cd__law_ratio "_law_ratio" = true)
    (k__law_ratio : PySem.W.keepIn K (.ref f__law_ratio) = true)
    {f__law_less : Addr} {od__law_less an__law_less : Option Addr} {sl__law_less : Array (Option Value)} {oc__law_less kV__law_less dc__law_less pm__law_less cd__law_less ct__law_less : Value}
    (a__law_less : PySem.W.nsIn K mainGlobals "_law_less" = some (some (.ref f__law_less)))
    (l__law_less : K.lookup f__law_less = some ⟨oc__law_less, od__law_less, .func (PySem.W.fnOf "_law_less" "_law_less" (defArgs st__law_less) (defBody st__law_less) (defScope st__law_less) .none kV__law_less dc__law_less pm__law_less an__law_less cd__law_less ct__law_less), sl__law_less⟩)
    (c__law_less : PySem.W.codeIn K cd__law_less "_law_less" = true)
    (k__law_less : PySem.W.keepIn K (.ref f__law_less) = true)
    {f__law_over : Addr} {od__law_over an__law_over : Option Addr} {sl__law_over : Array (Option Value)} {oc__law_over kV__law_over dc__law_over pm__law_over cd__law_over ct__law_over : Value}
    (a__law_over : PySem.W.nsIn K mainGlobals "_law_over" = some (some (.ref f__law_over)))
    (l__law_over : K.lookup f__law_over = some ⟨oc__law_over, od__law_over, .func (PySem.W.fnOf "_law_over" "_law_over" (defArgs st__law_over) (defBody st__law_over) (defScope st__law_over) .none kV__law_over dc__law_over pm__law_over an__law_over cd__law_over ct__law_over), sl__law_over⟩)
    (c__law_over : PySem.W.codeIn K cd__law_over "_law_over" = true)
    (k__law_over : PySem.W.keepIn K (.ref f__law_over) = true)
    {f__law_plus : Addr} {od__law_plus an__law_plus : Option Addr} {sl__law_plus : Array (Option Value)} {oc__law_plus kV__law_plus dc__law_plus pm__law_plus cd__law_plus ct__law_plus : Value}
    (a__law_plus : PySem.W.nsIn K mainGlobals "_law_plus" = some (some (.ref f__law_plus)))
    (l__law_plus : K.lookup f__law_plus = some ⟨oc__law_plus, od__law_plus, .func (PySem.W.fnOf "_law_plus" "_law_plus" (defArgs st__law_plus) (defBody st__law_plus) (defScope st__law_plus) .none kV__law_plus dc__law_plus pm__law_plus an__law_plus cd__law_plus ct__law_plus), sl__law_plus⟩)
    (c__law_plus : PySem.W.codeIn K cd__law_plus "_law_plus" = true)
    (k__law_plus : PySem.W.keepIn K (.ref f__law_plus) = true)
    {f__law_times : Addr} {od__law_times an__law_times : Option Addr} {sl__law_times : Array (Option Value)} {oc__law_times kV__law_times dc__law_times pm__law_times cd__law_times ct__law_times : Value}
    (a__law_times : PySem.W.nsIn K mainGlobals "_law_times" = some (some (.ref f__law_times)))
    (l__law_times : K.lookup f__law_times = some ⟨oc__law_times, od__law_times, .func (PySem.W.fnOf "_law_times" "_law_times" (defArgs st__law_times) (defBody st__law_times) (defScope st__law_times) .none kV__law_times dc__law_times pm__law_times an__law_times cd__law_times ct__law_times), sl__law_times⟩)
    (c__law_times : PySem.W.codeIn K cd__law_times "_law_times" = true)
    (k__law_times : PySem.W.keepIn K (.ref f__law_times) = true)
    {f__law_direction : Addr} {od__law_direction an__law_direction : Option Addr} {sl__law_direction : Array (Option Value)} {oc__law_direction kV__law_direction dc__law_direction pm__law_direction cd__law_direction ct__law_direction : Value}
    (a__law_direction : PySem.W.nsIn K mainGlobals "_law_direction" = some (some (.ref f__law_direction)))
    (l__law_direction : K.lookup f__law_direction = some ⟨oc__law_direction, od__law_direction, .func (PySem.W.fnOf "_law_direction" "_law_direction" (defArgs st__law_direction) (defBody st__law_direction) (defScope st__law_direction) .none kV__law_direction dc__law_direction pm__law_direction an__law_direction cd__law_direction ct__law_direction), sl__law_direction⟩)
    (c__law_direction : PySem.W.codeIn K cd__law_direction "_law_direction" = true)
    (k__law_direction : PySem.W.keepIn K (.ref f__law_direction) = true)
    {f__law_form : Addr} {od__law_form an__law_form : Option Addr} {sl__law_form : Array (Option Value)} {oc__law_form kV__law_form dc__law_form pm__law_form cd__law_form ct__law_form : Value}
    (a__law_form : PySem.W.nsIn K mainGlobals "_law_form" = some (some (.ref f__law_form)))
    (l__law_form : K.lookup f__law_form = some ⟨oc__law_form, od__law_form, .func (PySem.W.fnOf "_law_form" "_law_form" (defArgs st__law_form) (defBody st__law_form) (defScope st__law_form) .none kV__law_form dc__law_form pm__law_form an__law_form cd__law_form ct__law_form), sl__law_form⟩)
    (c__law_form : PySem.W.codeIn K cd__law_form "_law_form" = true)
    (k__law_form : PySem.W.keepIn K (.ref f__law_form) = true)
    {f__law_half_back : Addr} {od__law_half_back an__law_half_back : Option Addr} {sl__law_half_back : Array (Option Value)} {oc__law_half_back kV__law_half_back dc__law_half_back pm__law_half_back cd__law_half_back ct__law_half_back : Value}
    (a__law_half_back : PySem.W.nsIn K mainGlobals "_law_half_back" = some (some (.ref f__law_half_back)))
    (l__law_half_back : K.lookup f__law_half_back = some ⟨oc__law_half_back, od__law_half_back, .func (PySem.W.fnOf "_law_half_back" "_law_half_back" (defArgs st__law_half_back) (defBody st__law_half_back) (defScope st__law_half_back) .none kV__law_half_back dc__law_half_back pm__law_half_back an__law_half_back cd__law_half_back ct__law_half_back), sl__law_half_back⟩)
    (c__law_half_back : PySem.W.codeIn K cd__law_half_back "_law_half_back" = true)
    (k__law_half_back : PySem.W.keepIn K (.ref f__law_half_back) = true)
    {f__law_round : Addr} {od__law_round an__law_round : Option Addr} {sl__law_round : Array (Option Value)} {oc__law_round kV__law_round dc__law_round pm__law_round cd__law_round ct__law_round : Value}
    (a__law_round : PySem.W.nsIn K mainGlobals "_law_round" = some (some (.ref f__law_round)))
    (l__law_round : K.lookup f__law_round = some ⟨oc__law_round, od__law_round, .func (PySem.W.fnOf "_law_round" "_law_round" (defArgs st__law_round) (defBody st__law_round) (defScope st__law_round) .none kV__law_round dc__law_round pm__law_round an__law_round cd__law_round ct__law_round), sl__law_round⟩)
    (c__law_round : PySem.W.codeIn K cd__law_round "_law_round" = true)
    (k__law_round : PySem.W.keepIn K (.ref f__law_round) = true)
    {f__law_same : Addr} {od__law_same an__law_same : Option Addr} {sl__law_same : Array (Option Value)} {oc__law_same kV__law_same dc__law_same pm__law_same cd__law_same ct__law_same : Value}
    (a__law_same : PySem.W.nsIn K mainGlobals "_law_same" = some (some (.ref f__law_same)))
    (l__law_same : K.lookup f__law_same = some ⟨oc__law_same, od__law_same, .func (PySem.W.fnOf "_law_same" "_law_same" (defArgs st__law_same) (defBody st__law_same) (defScope st__law_same) .none kV__law_same dc__law_same pm__law_same an__law_same cd__law_same ct__law_same), sl__law_same⟩)
    (c__law_same : PySem.W.codeIn K cd__law_same "_law_same" = true)
    (k__law_same : PySem.W.keepIn K (.ref f__law_same) = true)
    {f__law_same_half : Addr} {od__law_same_half an__law_same_half : Option Addr} {sl__law_same_half : Array (Option Value)} {oc__law_same_half kV__law_same_half dc__law_same_half pm__law_same_half cd__law_same_half ct__law_same_half : Value}
    (a__law_same_half : PySem.W.nsIn K mainGlobals "_law_same_half" = some (some (.ref f__law_same_half)))
    (l__law_same_half : K.lookup f__law_same_half = some ⟨oc__law_same_half, od__law_same_half, .func (PySem.W.fnOf "_law_same_half" "_law_same_half" (defArgs st__law_same_half) (defBody st__law_same_half) (defScope st__law_same_half) .none kV__law_same_half dc__law_same_half pm__law_same_half an__law_same_half cd__law_same_half ct__law_same_half), sl__law_same_half⟩)
    (c__law_same_half : PySem.W.codeIn K cd__law_same_half "_law_same_half" = true)
    (k__law_same_half : PySem.W.keepIn K (.ref f__law_same_half) = true)
    {f__law_same_row : Addr} {od__law_same_row an__law_same_row : Option Addr} {sl__law_same_row : Array (Option Value)} {oc__law_same_row kV__law_same_row dc__law_same_row pm__law_same_row cd__law_same_row ct__law_same_row : Value}
    (a__law_same_row : PySem.W.nsIn K mainGlobals "_law_same_row" = some (some (.ref f__law_same_row)))
    (l__law_same_row : K.lookup f__law_same_row = some ⟨oc__law_same_row, od__law_same_row, .func (PySem.W.fnOf "_law_same_row" "_law_same_row" (defArgs st__law_same_row) (defBody st__law_same_row) (defScope st__law_same_row) .none kV__law_same_row dc__law_same_row pm__law_same_row an__law_same_row cd__law_same_row ct__law_same_row), sl__law_same_row⟩)
    (c__law_same_row : PySem.W.codeIn K cd__law_same_row "_law_same_row" = true)
    (k__law_same_row : PySem.W.keepIn K (.ref f__law_same_row) = true)
    {f__law_turned : Addr} {od__law_turned an__law_turned : Option Addr} {sl__law_turned : Array (Option Value)} {oc__law_turned kV__law_turned dc__law_turned pm__law_turned cd__law_turned ct__law_turned : Value}
    (a__law_turned : PySem.W.nsIn K mainGlobals "_law_turned" = some (some (.ref f__law_turned)))
    (l__law_turned : K.lookup f__law_turned = some ⟨oc__law_turned, od__law_turned, .func (PySem.W.fnOf "_law_turned" "_law_turned" (defArgs st__law_turned) (defBody st__law_turned) (defScope st__law_turned) .none kV__law_turned dc__law_turned pm__law_turned an__law_turned cd__law_turned ct__law_turned), sl__law_turned⟩)
    (c__law_turned : PySem.W.codeIn K cd__law_turned "_law_turned" = true)
    (k__law_turned : PySem.W.keepIn K (.ref f__law_turned) = true)
    {f_lowest_terms : Addr} {od_lowest_terms an_lowest_terms : Option Addr} {sl_lowest_terms : Array (Option Value)} {oc_lowest_terms kV_lowest_terms dc_lowest_terms pm_lowest_terms cd_lowest_terms ct_lowest_terms : Value}
    (a_lowest_terms : PySem.W.nsIn K mainGlobals "lowest_terms" = some (some (.ref f_lowest_terms)))
    (l_lowest_terms : K.lookup f_lowest_terms = some ⟨oc_lowest_terms, od_lowest_terms, .func (PySem.W.fnOf "lowest_terms" "lowest_terms" (defArgs st_lowest_terms) (defBody st_lowest_terms) (defScope st_lowest_terms) .none kV_lowest_terms dc_lowest_terms pm_lowest_terms an_lowest_terms cd_lowest_terms ct_lowest_terms), sl_lowest_terms⟩)
    (c_lowest_terms : PySem.W.codeIn K cd_lowest_terms "lowest_terms" = true)
    (k_lowest_terms : PySem.W.keepIn K (.ref f_lowest_terms) = true)
    {f_over : Addr} {od_over an_over : Option Addr} {sl_over : Array (Option Value)} {oc_over kV_over dc_over pm_over cd_over ct_over : Value}
    (a_over : PySem.W.nsIn K mainGlobals "over" = some (some (.ref f_over)))
    (l_over : K.lookup f_over = some ⟨oc_over, od_over, .func (PySem.W.fnOf "over" "over" (defArgs st_over) (defBody st_over) (defScope st_over) .none kV_over dc_over pm_over an_over cd_over ct_over), sl_over⟩)
    (c_over : PySem.W.codeIn K cd_over "over" = true)
    (k_over : PySem.W.keepIn K (.ref f_over) = true)
    {f__add_end : Addr} {od__add_end an__add_end : Option Addr} {sl__add_end : Array (Option Value)} {oc__add_end kV__add_end dc__add_end pm__add_end cd__add_end ct__add_end : Value}
    (a__add_end : PySem.W.nsIn K mainGlobals "_add_end" = some (some (.ref f__add_end)))
    (l__add_end : K.lookup f__add_end = some ⟨oc__add_end, od__add_end, .func (PySem.W.fnOf "_add_end" "_add_end" (defArgs st__add_end) (defBody st__add_end) (defScope st__add_end) .none kV__add_end dc__add_end pm__add_end an__add_end cd__add_end ct__add_end), sl__add_end⟩)
    (c__add_end : PySem.W.codeIn K cd__add_end "_add_end" = true)
    (k__add_end : PySem.W.keepIn K (.ref f__add_end) = true)
    {f_is_whole : Addr} {od_is_whole an_is_whole : Option Addr} {sl_is_whole : Array (Option Value)} {oc_is_whole kV_is_whole dc_is_whole pm_is_whole cd_is_whole ct_is_whole : Value}
    {t_is_whole : Addr} {td_is_whole : Option Addr} {tn_is_whole : Nat} {tl_is_whole : Array (Option Value)}
    (a_is_whole : PySem.W.nsIn K mainGlobals "is_whole" = some (some (.ref f_is_whole)))
    (l_is_whole : K.lookup f_is_whole = some ⟨oc_is_whole, od_is_whole, .func (PySem.W.fnOf "is_whole" "is_whole" (defArgs st_is_whole) (defBody st_is_whole) (defScope st_is_whole) (.ref t_is_whole) kV_is_whole dc_is_whole pm_is_whole an_is_whole cd_is_whole ct_is_whole), sl_is_whole⟩)
    (c_is_whole : PySem.W.codeIn K cd_is_whole "is_whole" = true)
    (k_is_whole : PySem.W.keepIn K (.ref f_is_whole) = true)
    (e_is_whole : K.lookup t_is_whole = some ⟨.type "tuple", td_is_whole, .seq #[Value.none, Value.none] tn_is_whole, tl_is_whole⟩)
    {f_is_ratio : Addr} {od_is_ratio an_is_ratio : Option Addr} {sl_is_ratio : Array (Option Value)} {oc_is_ratio kV_is_ratio dc_is_ratio pm_is_ratio cd_is_ratio ct_is_ratio : Value}
    (a_is_ratio : PySem.W.nsIn K mainGlobals "is_ratio" = some (some (.ref f_is_ratio)))
    (l_is_ratio : K.lookup f_is_ratio = some ⟨oc_is_ratio, od_is_ratio, .func (PySem.W.fnOf "is_ratio" "is_ratio" (defArgs st_is_ratio) (defBody st_is_ratio) (defScope st_is_ratio) .none kV_is_ratio dc_is_ratio pm_is_ratio an_is_ratio cd_is_ratio ct_is_ratio), sl_is_ratio⟩)
    (c_is_ratio : PySem.W.codeIn K cd_is_ratio "is_ratio" = true)
    (k_is_ratio : PySem.W.keepIn K (.ref f_is_ratio) = true)
    {f_is_half : Addr} {od_is_half an_is_half : Option Addr} {sl_is_half : Array (Option Value)} {oc_is_half kV_is_half dc_is_half pm_is_half cd_is_half ct_is_half : Value}
    (a_is_half : PySem.W.nsIn K mainGlobals "is_half" = some (some (.ref f_is_half)))
    (l_is_half : K.lookup f_is_half = some ⟨oc_is_half, od_is_half, .func (PySem.W.fnOf "is_half" "is_half" (defArgs st_is_half) (defBody st_is_half) (defScope st_is_half) .none kV_is_half dc_is_half pm_is_half an_is_half cd_is_half ct_is_half), sl_is_half⟩)
    (c_is_half : PySem.W.codeIn K cd_is_half "is_half" = true)
    (k_is_half : PySem.W.keepIn K (.ref f_is_half) = true)
    {f_check_half : Addr} {od_check_half an_check_half : Option Addr} {sl_check_half : Array (Option Value)} {oc_check_half kV_check_half dc_check_half pm_check_half cd_check_half ct_check_half : Value}
    (a_check_half : PySem.W.nsIn K mainGlobals "check_half" = some (some (.ref f_check_half)))
    (l_check_half : K.lookup f_check_half = some ⟨oc_check_half, od_check_half, .func (PySem.W.fnOf "check_half" "check_half" (defArgs st_check_half) (defBody st_check_half) (defScope st_check_half) .none kV_check_half dc_check_half pm_check_half an_check_half cd_check_half ct_check_half), sl_check_half⟩)
    (c_check_half : PySem.W.codeIn K cd_check_half "check_half" = true)
    (k_check_half : PySem.W.keepIn K (.ref f_check_half) = true)
    {f_minus : Addr} {od_minus an_minus : Option Addr} {sl_minus : Array (Option Value)} {oc_minus kV_minus dc_minus pm_minus cd_minus ct_minus : Value}
    (a_minus : PySem.W.nsIn K mainGlobals "minus" = some (some (.ref f_minus)))
    (l_minus : K.lookup f_minus = some ⟨oc_minus, od_minus, .func (PySem.W.fnOf "minus" "minus" (defArgs st_minus) (defBody st_minus) (defScope st_minus) .none kV_minus dc_minus pm_minus an_minus cd_minus ct_minus), sl_minus⟩)
    (c_minus : PySem.W.codeIn K cd_minus "minus" = true)
    (k_minus : PySem.W.keepIn K (.ref f_minus) = true)
    {f_plus : Addr} {od_plus an_plus : Option Addr} {sl_plus : Array (Option Value)} {oc_plus kV_plus dc_plus pm_plus cd_plus ct_plus : Value}
    (a_plus : PySem.W.nsIn K mainGlobals "plus" = some (some (.ref f_plus)))
    (l_plus : K.lookup f_plus = some ⟨oc_plus, od_plus, .func (PySem.W.fnOf "plus" "plus" (defArgs st_plus) (defBody st_plus) (defScope st_plus) .none kV_plus dc_plus pm_plus an_plus cd_plus ct_plus), sl_plus⟩)
    (c_plus : PySem.W.codeIn K cd_plus "plus" = true)
    (k_plus : PySem.W.keepIn K (.ref f_plus) = true)
    {f_times : Addr} {od_times an_times : Option Addr} {sl_times : Array (Option Value)} {oc_times kV_times dc_times pm_times cd_times ct_times : Value}
    (a_times : PySem.W.nsIn K mainGlobals "times" = some (some (.ref f_times)))
    (l_times : K.lookup f_times = some ⟨oc_times, od_times, .func (PySem.W.fnOf "times" "times" (defArgs st_times) (defBody st_times) (defScope st_times) .none kV_times dc_times pm_times an_times cd_times ct_times), sl_times⟩)
    (c_times : PySem.W.codeIn K cd_times "times" = true)
    (k_times : PySem.W.keepIn K (.ref f_times) = true)
    {f_add_halves : Addr} {od_add_halves an_add_halves : Option Addr} {sl_add_halves : Array (Option Value)} {oc_add_halves kV_add_halves dc_add_halves pm_add_halves cd_add_halves ct_add_halves : Value}
    (a_add_halves : PySem.W.nsIn K mainGlobals "add_halves" = some (some (.ref f_add_halves)))
    (l_add_halves : K.lookup f_add_halves = some ⟨oc_add_halves, od_add_halves, .func (PySem.W.fnOf "add_halves" "add_halves" (defArgs st_add_halves) (defBody st_add_halves) (defScope st_add_halves) .none kV_add_halves dc_add_halves pm_add_halves an_add_halves cd_add_halves ct_add_halves), sl_add_halves⟩)
    (c_add_halves : PySem.W.codeIn K cd_add_halves "add_halves" = true)
    (k_add_halves : PySem.W.keepIn K (.ref f_add_halves) = true)
    {f_dot_of : Addr} {od_dot_of an_dot_of : Option Addr} {sl_dot_of : Array (Option Value)} {oc_dot_of kV_dot_of dc_dot_of pm_dot_of cd_dot_of ct_dot_of : Value}
    (a_dot_of : PySem.W.nsIn K mainGlobals "dot_of" = some (some (.ref f_dot_of)))
    (l_dot_of : K.lookup f_dot_of = some ⟨oc_dot_of, od_dot_of, .func (PySem.W.fnOf "dot_of" "dot_of" (defArgs st_dot_of) (defBody st_dot_of) (defScope st_dot_of) .none kV_dot_of dc_dot_of pm_dot_of an_dot_of cd_dot_of ct_dot_of), sl_dot_of⟩)
    (c_dot_of : PySem.W.codeIn K cd_dot_of "dot_of" = true)
    (k_dot_of : PySem.W.keepIn K (.ref f_dot_of) = true)
    {f_is_row : Addr} {od_is_row an_is_row : Option Addr} {sl_is_row : Array (Option Value)} {oc_is_row kV_is_row dc_is_row pm_is_row cd_is_row ct_is_row : Value}
    {t_is_row : Addr} {td_is_row : Option Addr} {tn_is_row : Nat} {tl_is_row : Array (Option Value)}
    (a_is_row : PySem.W.nsIn K mainGlobals "is_row" = some (some (.ref f_is_row)))
    (l_is_row : K.lookup f_is_row = some ⟨oc_is_row, od_is_row, .func (PySem.W.fnOf "is_row" "is_row" (defArgs st_is_row) (defBody st_is_row) (defScope st_is_row) (.ref t_is_row) kV_is_row dc_is_row pm_is_row an_is_row cd_is_row ct_is_row), sl_is_row⟩)
    (c_is_row : PySem.W.codeIn K cd_is_row "is_row" = true)
    (k_is_row : PySem.W.keepIn K (.ref f_is_row) = true)
    {u0_is_row : Tok}
    (e_is_row : K.lookup t_is_row = some ⟨.type "tuple", td_is_row, .seq #[Value.int 0 u0_is_row, Value.none] tn_is_row, tl_is_row⟩)
    {f_is_spot : Addr} {od_is_spot an_is_spot : Option Addr} {sl_is_spot : Array (Option Value)} {oc_is_spot kV_is_spot dc_is_spot pm_is_spot cd_is_spot ct_is_spot : Value}
    (a_is_spot : PySem.W.nsIn K mainGlobals "is_spot" = some (some (.ref f_is_spot)))
    (l_is_spot : K.lookup f_is_spot = some ⟨oc_is_spot, od_is_spot, .func (PySem.W.fnOf "is_spot" "is_spot" (defArgs st_is_spot) (defBody st_is_spot) (defScope st_is_spot) .none kV_is_spot dc_is_spot pm_is_spot an_is_spot cd_is_spot ct_is_spot), sl_is_spot⟩)
    (c_is_spot : PySem.W.codeIn K cd_is_spot "is_spot" = true)
    (k_is_spot : PySem.W.keepIn K (.ref f_is_spot) = true)
    {f_is_direction : Addr} {od_is_direction an_is_direction : Option Addr} {sl_is_direction : Array (Option Value)} {oc_is_direction kV_is_direction dc_is_direction pm_is_direction cd_is_direction ct_is_direction : Value}
    (a_is_direction : PySem.W.nsIn K mainGlobals "is_direction" = some (some (.ref f_is_direction)))
    (l_is_direction : K.lookup f_is_direction = some ⟨oc_is_direction, od_is_direction, .func (PySem.W.fnOf "is_direction" "is_direction" (defArgs st_is_direction) (defBody st_is_direction) (defScope st_is_direction) .none kV_is_direction dc_is_direction pm_is_direction an_is_direction cd_is_direction ct_is_direction), sl_is_direction⟩)
    (c_is_direction : PySem.W.codeIn K cd_is_direction "is_direction" = true)
    (k_is_direction : PySem.W.keepIn K (.ref f_is_direction) = true)
    {f_check_direction : Addr} {od_check_direction an_check_direction : Option Addr} {sl_check_direction : Array (Option Value)} {oc_check_direction kV_check_direction dc_check_direction pm_check_direction cd_check_direction ct_check_direction : Value}
    (a_check_direction : PySem.W.nsIn K mainGlobals "check_direction" = some (some (.ref f_check_direction)))
    (l_check_direction : K.lookup f_check_direction = some ⟨oc_check_direction, od_check_direction, .func (PySem.W.fnOf "check_direction" "check_direction" (defArgs st_check_direction) (defBody st_check_direction) (defScope st_check_direction) .none kV_check_direction dc_check_direction pm_check_direction an_check_direction cd_check_direction ct_check_direction), sl_check_direction⟩)
    (c_check_direction : PySem.W.codeIn K cd_check_direction "check_direction" = true)
    (k_check_direction : PySem.W.keepIn K (.ref f_check_direction) = true)
    {f_cosine_between : Addr} {od_cosine_between an_cosine_between : Option Addr} {sl_cosine_between : Array (Option Value)} {oc_cosine_between kV_cosine_between dc_cosine_between pm_cosine_between cd_cosine_between ct_cosine_between : Value}
    (a_cosine_between : PySem.W.nsIn K mainGlobals "cosine_between" = some (some (.ref f_cosine_between)))
    (l_cosine_between : K.lookup f_cosine_between = some ⟨oc_cosine_between, od_cosine_between, .func (PySem.W.fnOf "cosine_between" "cosine_between" (defArgs st_cosine_between) (defBody st_cosine_between) (defScope st_cosine_between) .none kV_cosine_between dc_cosine_between pm_cosine_between an_cosine_between cd_cosine_between ct_cosine_between), sl_cosine_between⟩)
    (c_cosine_between : PySem.W.codeIn K cd_cosine_between "cosine_between" = true)
    (k_cosine_between : PySem.W.keepIn K (.ref f_cosine_between) = true)
    {f_direction_by : Addr} {od_direction_by an_direction_by : Option Addr} {sl_direction_by : Array (Option Value)} {oc_direction_by kV_direction_by dc_direction_by pm_direction_by cd_direction_by ct_direction_by : Value}
    (a_direction_by : PySem.W.nsIn K mainGlobals "direction_by" = some (some (.ref f_direction_by)))
    (l_direction_by : K.lookup f_direction_by = some ⟨oc_direction_by, od_direction_by, .func (PySem.W.fnOf "direction_by" "direction_by" (defArgs st_direction_by) (defBody st_direction_by) (defScope st_direction_by) .none kV_direction_by dc_direction_by pm_direction_by an_direction_by cd_direction_by ct_direction_by), sl_direction_by⟩)
    (c_direction_by : PySem.W.codeIn K cd_direction_by "direction_by" = true)
    (k_direction_by : PySem.W.keepIn K (.ref f_direction_by) = true)
    {f_negative : Addr} {od_negative an_negative : Option Addr} {sl_negative : Array (Option Value)} {oc_negative kV_negative dc_negative pm_negative cd_negative ct_negative : Value}
    (a_negative : PySem.W.nsIn K mainGlobals "negative" = some (some (.ref f_negative)))
    (l_negative : K.lookup f_negative = some ⟨oc_negative, od_negative, .func (PySem.W.fnOf "negative" "negative" (defArgs st_negative) (defBody st_negative) (defScope st_negative) .none kV_negative dc_negative pm_negative an_negative cd_negative ct_negative), sl_negative⟩)
    (c_negative : PySem.W.codeIn K cd_negative "negative" = true)
    (k_negative : PySem.W.keepIn K (.ref f_negative) = true)
    {f_half_of : Addr} {od_half_of an_half_of : Option Addr} {sl_half_of : Array (Option Value)} {oc_half_of kV_half_of dc_half_of pm_half_of cd_half_of ct_half_of : Value}
    (a_half_of : PySem.W.nsIn K mainGlobals "half_of" = some (some (.ref f_half_of)))
    (l_half_of : K.lookup f_half_of = some ⟨oc_half_of, od_half_of, .func (PySem.W.fnOf "half_of" "half_of" (defArgs st_half_of) (defBody st_half_of) (defScope st_half_of) .none kV_half_of dc_half_of pm_half_of an_half_of cd_half_of ct_half_of), sl_half_of⟩)
    (c_half_of : PySem.W.codeIn K cd_half_of "half_of" = true)
    (k_half_of : PySem.W.keepIn K (.ref f_half_of) = true)
    {f_cross_of : Addr} {od_cross_of an_cross_of : Option Addr} {sl_cross_of : Array (Option Value)} {oc_cross_of kV_cross_of dc_cross_of pm_cross_of cd_cross_of ct_cross_of : Value}
    (a_cross_of : PySem.W.nsIn K mainGlobals "cross_of" = some (some (.ref f_cross_of)))
    (l_cross_of : K.lookup f_cross_of = some ⟨oc_cross_of, od_cross_of, .func (PySem.W.fnOf "cross_of" "cross_of" (defArgs st_cross_of) (defBody st_cross_of) (defScope st_cross_of) .none kV_cross_of dc_cross_of pm_cross_of an_cross_of cd_cross_of ct_cross_of), sl_cross_of⟩)
    (c_cross_of : PySem.W.codeIn K cd_cross_of "cross_of" = true)
    (k_cross_of : PySem.W.keepIn K (.ref f_cross_of) = true)
    {f_sine_between : Addr} {od_sine_between an_sine_between : Option Addr} {sl_sine_between : Array (Option Value)} {oc_sine_between kV_sine_between dc_sine_between pm_sine_between cd_sine_between ct_sine_between : Value}
    (a_sine_between : PySem.W.nsIn K mainGlobals "sine_between" = some (some (.ref f_sine_between)))
    (l_sine_between : K.lookup f_sine_between = some ⟨oc_sine_between, od_sine_between, .func (PySem.W.fnOf "sine_between" "sine_between" (defArgs st_sine_between) (defBody st_sine_between) (defScope st_sine_between) .none kV_sine_between dc_sine_between pm_sine_between an_sine_between cd_sine_between ct_sine_between), sl_sine_between⟩)
    (c_sine_between : PySem.W.codeIn K cd_sine_between "sine_between" = true)
    (k_sine_between : PySem.W.keepIn K (.ref f_sine_between) = true)
    {f_mirrored_direction : Addr} {od_mirrored_direction an_mirrored_direction : Option Addr} {sl_mirrored_direction : Array (Option Value)} {oc_mirrored_direction kV_mirrored_direction dc_mirrored_direction pm_mirrored_direction cd_mirrored_direction ct_mirrored_direction : Value}
    (a_mirrored_direction : PySem.W.nsIn K mainGlobals "mirrored_direction" = some (some (.ref f_mirrored_direction)))
    (l_mirrored_direction : K.lookup f_mirrored_direction = some ⟨oc_mirrored_direction, od_mirrored_direction, .func (PySem.W.fnOf "mirrored_direction" "mirrored_direction" (defArgs st_mirrored_direction) (defBody st_mirrored_direction) (defScope st_mirrored_direction) .none kV_mirrored_direction dc_mirrored_direction pm_mirrored_direction an_mirrored_direction cd_mirrored_direction ct_mirrored_direction), sl_mirrored_direction⟩)
    (c_mirrored_direction : PySem.W.codeIn K cd_mirrored_direction "mirrored_direction" = true)
    (k_mirrored_direction : PySem.W.keepIn K (.ref f_mirrored_direction) = true)
    {f_turned_as : Addr} {od_turned_as an_turned_as : Option Addr} {sl_turned_as : Array (Option Value)} {oc_turned_as kV_turned_as dc_turned_as pm_turned_as cd_turned_as ct_turned_as : Value}
    (a_turned_as : PySem.W.nsIn K mainGlobals "turned_as" = some (some (.ref f_turned_as)))
    (l_turned_as : K.lookup f_turned_as = some ⟨oc_turned_as, od_turned_as, .func (PySem.W.fnOf "turned_as" "turned_as" (defArgs st_turned_as) (defBody st_turned_as) (defScope st_turned_as) .none kV_turned_as dc_turned_as pm_turned_as an_turned_as cd_turned_as ct_turned_as), sl_turned_as⟩)
    (c_turned_as : PySem.W.codeIn K cd_turned_as "turned_as" = true)
    (k_turned_as : PySem.W.keepIn K (.ref f_turned_as) = true)
    {f_turned_by : Addr} {od_turned_by an_turned_by : Option Addr} {sl_turned_by : Array (Option Value)} {oc_turned_by kV_turned_by dc_turned_by pm_turned_by cd_turned_by ct_turned_by : Value}
    (a_turned_by : PySem.W.nsIn K mainGlobals "turned_by" = some (some (.ref f_turned_by)))
    (l_turned_by : K.lookup f_turned_by = some ⟨oc_turned_by, od_turned_by, .func (PySem.W.fnOf "turned_by" "turned_by" (defArgs st_turned_by) (defBody st_turned_by) (defScope st_turned_by) .none kV_turned_by dc_turned_by pm_turned_by an_turned_by cd_turned_by ct_turned_by), sl_turned_by⟩)
    (c_turned_by : PySem.W.codeIn K cd_turned_by "turned_by" = true)
    (k_turned_by : PySem.W.keepIn K (.ref f_turned_by) = true)
    {f__law_added : Addr} {od__law_added an__law_added : Option Addr} {sl__law_added : Array (Option Value)} {oc__law_added kV__law_added dc__law_added pm__law_added cd__law_added ct__law_added : Value}
    (a__law_added : PySem.W.nsIn K mainGlobals "_law_added" = some (some (.ref f__law_added)))
    (l__law_added : K.lookup f__law_added = some ⟨oc__law_added, od__law_added, .func (PySem.W.fnOf "_law_added" "_law_added" (defArgs st__law_added) (defBody st__law_added) (defScope st__law_added) .none kV__law_added dc__law_added pm__law_added an__law_added cd__law_added ct__law_added), sl__law_added⟩)
    (c__law_added : PySem.W.codeIn K cd__law_added "_law_added" = true)
    (k__law_added : PySem.W.keepIn K (.ref f__law_added) = true)
    {f__law_half : Addr} {od__law_half an__law_half : Option Addr} {sl__law_half : Array (Option Value)} {oc__law_half kV__law_half dc__law_half pm__law_half cd__law_half ct__law_half : Value}
    (a__law_half : PySem.W.nsIn K mainGlobals "_law_half" = some (some (.ref f__law_half)))
    (l__law_half : K.lookup f__law_half = some ⟨oc__law_half, od__law_half, .func (PySem.W.fnOf "_law_half" "_law_half" (defArgs st__law_half) (defBody st__law_half) (defScope st__law_half) .none kV__law_half dc__law_half pm__law_half an__law_half cd__law_half ct__law_half), sl__law_half⟩)
    (c__law_half : PySem.W.codeIn K cd__law_half "_law_half" = true)
    (k__law_half : PySem.W.keepIn K (.ref f__law_half) = true)
    {f__law_any_half : Addr} {od__law_any_half an__law_any_half : Option Addr} {sl__law_any_half : Array (Option Value)} {oc__law_any_half kV__law_any_half dc__law_any_half pm__law_any_half cd__law_any_half ct__law_any_half : Value}
    (a__law_any_half : PySem.W.nsIn K mainGlobals "_law_any_half" = some (some (.ref f__law_any_half)))
    (l__law_any_half : K.lookup f__law_any_half = some ⟨oc__law_any_half, od__law_any_half, .func (PySem.W.fnOf "_law_any_half" "_law_any_half" (defArgs st__law_any_half) (defBody st__law_any_half) (defScope st__law_any_half) .none kV__law_any_half dc__law_any_half pm__law_any_half an__law_any_half cd__law_any_half ct__law_any_half), sl__law_any_half⟩)
    (c__law_any_half : PySem.W.codeIn K cd__law_any_half "_law_any_half" = true)
    (k__law_any_half : PySem.W.keepIn K (.ref f__law_any_half) = true)
    {f_opposite_of : Addr} {od_opposite_of an_opposite_of : Option Addr} {sl_opposite_of : Array (Option Value)} {oc_opposite_of kV_opposite_of dc_opposite_of pm_opposite_of cd_opposite_of ct_opposite_of : Value}
    (a_opposite_of : PySem.W.nsIn K mainGlobals "opposite_of" = some (some (.ref f_opposite_of)))
    (l_opposite_of : K.lookup f_opposite_of = some ⟨oc_opposite_of, od_opposite_of, .func (PySem.W.fnOf "opposite_of" "opposite_of" (defArgs st_opposite_of) (defBody st_opposite_of) (defScope st_opposite_of) .none kV_opposite_of dc_opposite_of pm_opposite_of an_opposite_of cd_opposite_of ct_opposite_of), sl_opposite_of⟩)
    (c_opposite_of : PySem.W.codeIn K cd_opposite_of "opposite_of" = true)
    (k_opposite_of : PySem.W.keepIn K (.ref f_opposite_of) = true)
    {f_turned_quarters : Addr} {od_turned_quarters an_turned_quarters : Option Addr} {sl_turned_quarters : Array (Option Value)} {oc_turned_quarters kV_turned_quarters dc_turned_quarters pm_turned_quarters cd_turned_quarters ct_turned_quarters : Value}
    (a_turned_quarters : PySem.W.nsIn K mainGlobals "turned_quarters" = some (some (.ref f_turned_quarters)))
    (l_turned_quarters : K.lookup f_turned_quarters = some ⟨oc_turned_quarters, od_turned_quarters, .func (PySem.W.fnOf "turned_quarters" "turned_quarters" (defArgs st_turned_quarters) (defBody st_turned_quarters) (defScope st_turned_quarters) .none kV_turned_quarters dc_turned_quarters pm_turned_quarters an_turned_quarters cd_turned_quarters ct_turned_quarters), sl_turned_quarters⟩)
    (c_turned_quarters : PySem.W.codeIn K cd_turned_quarters "turned_quarters" = true)
    (k_turned_quarters : PySem.W.keepIn K (.ref f_turned_quarters) = true)
    {f_quarter_direction : Addr} {od_quarter_direction an_quarter_direction : Option Addr} {sl_quarter_direction : Array (Option Value)} {oc_quarter_direction kV_quarter_direction dc_quarter_direction pm_quarter_direction cd_quarter_direction ct_quarter_direction : Value}
    (a_quarter_direction : PySem.W.nsIn K mainGlobals "quarter_direction" = some (some (.ref f_quarter_direction)))
    (l_quarter_direction : K.lookup f_quarter_direction = some ⟨oc_quarter_direction, od_quarter_direction, .func (PySem.W.fnOf "quarter_direction" "quarter_direction" (defArgs st_quarter_direction) (defBody st_quarter_direction) (defScope st_quarter_direction) .none kV_quarter_direction dc_quarter_direction pm_quarter_direction an_quarter_direction cd_quarter_direction ct_quarter_direction), sl_quarter_direction⟩)
    (c_quarter_direction : PySem.W.codeIn K cd_quarter_direction "quarter_direction" = true)
    (k_quarter_direction : PySem.W.keepIn K (.ref f_quarter_direction) = true)
    {f__law_quartered : Addr} {od__law_quartered an__law_quartered : Option Addr} {sl__law_quartered : Array (Option Value)} {oc__law_quartered kV__law_quartered dc__law_quartered pm__law_quartered cd__law_quartered ct__law_quartered : Value}
    (a__law_quartered : PySem.W.nsIn K mainGlobals "_law_quartered" = some (some (.ref f__law_quartered)))
    (l__law_quartered : K.lookup f__law_quartered = some ⟨oc__law_quartered, od__law_quartered, .func (PySem.W.fnOf "_law_quartered" "_law_quartered" (defArgs st__law_quartered) (defBody st__law_quartered) (defScope st__law_quartered) .none kV__law_quartered dc__law_quartered pm__law_quartered an__law_quartered cd__law_quartered ct__law_quartered), sl__law_quartered⟩)
    (c__law_quartered : PySem.W.codeIn K cd__law_quartered "_law_quartered" = true)
    (k__law_quartered : PySem.W.keepIn K (.ref f__law_quartered) = true)
    {f__law_is_ratio : Addr} {od__law_is_ratio an__law_is_ratio : Option Addr} {sl__law_is_ratio : Array (Option Value)} {oc__law_is_ratio kV__law_is_ratio dc__law_is_ratio pm__law_is_ratio cd__law_is_ratio ct__law_is_ratio : Value}
    (a__law_is_ratio : PySem.W.nsIn K mainGlobals "_law_is_ratio" = some (some (.ref f__law_is_ratio)))
    (l__law_is_ratio : K.lookup f__law_is_ratio = some ⟨oc__law_is_ratio, od__law_is_ratio, .func (PySem.W.fnOf "_law_is_ratio" "_law_is_ratio" (defArgs st__law_is_ratio) (defBody st__law_is_ratio) (defScope st__law_is_ratio) .none kV__law_is_ratio dc__law_is_ratio pm__law_is_ratio an__law_is_ratio cd__law_is_ratio ct__law_is_ratio), sl__law_is_ratio⟩)
    (c__law_is_ratio : PySem.W.codeIn K cd__law_is_ratio "_law_is_ratio" = true)
    (k__law_is_ratio : PySem.W.keepIn K (.ref f__law_is_ratio) = true)
    {f__law_is_square : Addr} {od__law_is_square an__law_is_square : Option Addr} {sl__law_is_square : Array (Option Value)} {oc__law_is_square kV__law_is_square dc__law_is_square pm__law_is_square cd__law_is_square ct__law_is_square : Value}
    (a__law_is_square : PySem.W.nsIn K mainGlobals "_law_is_square" = some (some (.ref f__law_is_square)))
    (l__law_is_square : K.lookup f__law_is_square = some ⟨oc__law_is_square, od__law_is_square, .func (PySem.W.fnOf "_law_is_square" "_law_is_square" (defArgs st__law_is_square) (defBody st__law_is_square) (defScope st__law_is_square) .none kV__law_is_square dc__law_is_square pm__law_is_square an__law_is_square cd__law_is_square ct__law_is_square), sl__law_is_square⟩)
    (c__law_is_square : PySem.W.codeIn K cd__law_is_square "_law_is_square" = true)
    (k__law_is_square : PySem.W.keepIn K (.ref f__law_is_square) = true)
    {f__law_size : Addr} {od__law_size an__law_size : Option Addr} {sl__law_size : Array (Option Value)} {oc__law_size kV__law_size dc__law_size pm__law_size cd__law_size ct__law_size : Value}
    (a__law_size : PySem.W.nsIn K mainGlobals "_law_size" = some (some (.ref f__law_size)))
    (l__law_size : K.lookup f__law_size = some ⟨oc__law_size, od__law_size, .func (PySem.W.fnOf "_law_size" "_law_size" (defArgs st__law_size) (defBody st__law_size) (defScope st__law_size) .none kV__law_size dc__law_size pm__law_size an__law_size cd__law_size ct__law_size), sl__law_size⟩)
    (c__law_size : PySem.W.codeIn K cd__law_size "_law_size" = true)
    (k__law_size : PySem.W.keepIn K (.ref f__law_size) = true)
    {f__law_mark : Addr} {od__law_mark an__law_mark : Option Addr} {sl__law_mark : Array (Option Value)} {oc__law_mark kV__law_mark dc__law_mark pm__law_mark cd__law_mark ct__law_mark : Value}
    (a__law_mark : PySem.W.nsIn K mainGlobals "_law_mark" = some (some (.ref f__law_mark)))
    (l__law_mark : K.lookup f__law_mark = some ⟨oc__law_mark, od__law_mark, .func (PySem.W.fnOf "_law_mark" "_law_mark" (defArgs st__law_mark) (defBody st__law_mark) (defScope st__law_mark) .none kV__law_mark dc__law_mark pm__law_mark an__law_mark cd__law_mark ct__law_mark), sl__law_mark⟩)
    (c__law_mark : PySem.W.codeIn K cd__law_mark "_law_mark" = true)
    (k__law_mark : PySem.W.keepIn K (.ref f__law_mark) = true)
    {f__law_wide : Addr} {od__law_wide an__law_wide : Option Addr} {sl__law_wide : Array (Option Value)} {oc__law_wide kV__law_wide dc__law_wide pm__law_wide cd__law_wide ct__law_wide : Value}
    (a__law_wide : PySem.W.nsIn K mainGlobals "_law_wide" = some (some (.ref f__law_wide)))
    (l__law_wide : K.lookup f__law_wide = some ⟨oc__law_wide, od__law_wide, .func (PySem.W.fnOf "_law_wide" "_law_wide" (defArgs st__law_wide) (defBody st__law_wide) (defScope st__law_wide) .none kV__law_wide dc__law_wide pm__law_wide an__law_wide cd__law_wide ct__law_wide), sl__law_wide⟩)
    (c__law_wide : PySem.W.codeIn K cd__law_wide "_law_wide" = true)
    (k__law_wide : PySem.W.keepIn K (.ref f__law_wide) = true)
    {f_root_of : Addr} {od_root_of an_root_of : Option Addr} {sl_root_of : Array (Option Value)} {oc_root_of kV_root_of dc_root_of pm_root_of cd_root_of ct_root_of : Value}
    (a_root_of : PySem.W.nsIn K mainGlobals "root_of" = some (some (.ref f_root_of)))
    (l_root_of : K.lookup f_root_of = some ⟨oc_root_of, od_root_of, .func (PySem.W.fnOf "root_of" "root_of" (defArgs st_root_of) (defBody st_root_of) (defScope st_root_of) .none kV_root_of dc_root_of pm_root_of an_root_of cd_root_of ct_root_of), sl_root_of⟩)
    (c_root_of : PySem.W.codeIn K cd_root_of "root_of" = true)
    (k_root_of : PySem.W.keepIn K (.ref f_root_of) = true)
    {f__law_rooted : Addr} {od__law_rooted an__law_rooted : Option Addr} {sl__law_rooted : Array (Option Value)} {oc__law_rooted kV__law_rooted dc__law_rooted pm__law_rooted cd__law_rooted ct__law_rooted : Value}
    (a__law_rooted : PySem.W.nsIn K mainGlobals "_law_rooted" = some (some (.ref f__law_rooted)))
    (l__law_rooted : K.lookup f__law_rooted = some ⟨oc__law_rooted, od__law_rooted, .func (PySem.W.fnOf "_law_rooted" "_law_rooted" (defArgs st__law_rooted) (defBody st__law_rooted) (defScope st__law_rooted) .none kV__law_rooted dc__law_rooted pm__law_rooted an__law_rooted cd__law_rooted ct__law_rooted), sl__law_rooted⟩)
    (c__law_rooted : PySem.W.codeIn K cd__law_rooted "_law_rooted" = true)
    (k__law_rooted : PySem.W.keepIn K (.ref f__law_rooted) = true)
    {f__law_same_rows : Addr} {od__law_same_rows an__law_same_rows : Option Addr} {sl__law_same_rows : Array (Option Value)} {oc__law_same_rows kV__law_same_rows dc__law_same_rows pm__law_same_rows cd__law_same_rows ct__law_same_rows : Value}
    (a__law_same_rows : PySem.W.nsIn K mainGlobals "_law_same_rows" = some (some (.ref f__law_same_rows)))
    (l__law_same_rows : K.lookup f__law_same_rows = some ⟨oc__law_same_rows, od__law_same_rows, .func (PySem.W.fnOf "_law_same_rows" "_law_same_rows" (defArgs st__law_same_rows) (defBody st__law_same_rows) (defScope st__law_same_rows) .none kV__law_same_rows dc__law_same_rows pm__law_same_rows an__law_same_rows cd__law_same_rows ct__law_same_rows), sl__law_same_rows⟩)
    (c__law_same_rows : PySem.W.codeIn K cd__law_same_rows "_law_same_rows" = true)
    (k__law_same_rows : PySem.W.keepIn K (.ref f__law_same_rows) = true)
    {f_law : Addr} {od_law an_law : Option Addr} {sl_law : Array (Option Value)} {oc_law kV_law dc_law pm_law cd_law ct_law : Value}
    (a_law : PySem.W.nsIn K mainGlobals "law" = some (some (.ref f_law)))
    (l_law : K.lookup f_law = some ⟨oc_law, od_law, .func (PySem.W.fnOf "law" "law" (defArgs st_law) (defBody st_law) (defScope st_law) .none kV_law dc_law pm_law an_law cd_law ct_law), sl_law⟩)
    (c_law : PySem.W.codeIn K cd_law "law" = true)
    (k_law : PySem.W.keepIn K (.ref f_law) = true)
    {Z_DOWN : Addr} {zd_DOWN : Option Addr} {zn_DOWN : Nat} {zs_DOWN : Array (Option Value)}
    {Y_DOWN : Addr} {Yd_DOWN : Option Addr} {Yn_DOWN : Nat} {Ys_DOWN : Array (Option Value)} {Ya_DOWN Yb_DOWN : Tok}
    {W_DOWN : Addr} {Wd_DOWN : Option Addr} {Wn_DOWN : Nat} {Ws_DOWN : Array (Option Value)} {Wa_DOWN Wb_DOWN : Tok}
    (g_DOWN : PySem.W.nsIn K mainGlobals "DOWN" = some (some (.ref Z_DOWN)))
    (q_DOWN : K.lookup Z_DOWN = some ⟨.type "tuple", zd_DOWN, .seq #[.ref Y_DOWN, .ref W_DOWN] zn_DOWN, zs_DOWN⟩)
    (qY_DOWN : K.lookup Y_DOWN = some ⟨.type "tuple", Yd_DOWN, .seq #[.int 0 Ya_DOWN, .int 1 Yb_DOWN] Yn_DOWN, Ys_DOWN⟩)
    (qW_DOWN : K.lookup W_DOWN = some ⟨.type "tuple", Wd_DOWN, .seq #[.int (-1) Wa_DOWN, .int 1 Wb_DOWN] Wn_DOWN, Ws_DOWN⟩)
    (g_END : PySem.W.nsIn K mainGlobals "END" = some (some .none))
    {Z_LEFT : Addr} {zd_LEFT : Option Addr} {zn_LEFT : Nat} {zs_LEFT : Array (Option Value)}
    {Y_LEFT : Addr} {Yd_LEFT : Option Addr} {Yn_LEFT : Nat} {Ys_LEFT : Array (Option Value)} {Ya_LEFT Yb_LEFT : Tok}
    {W_LEFT : Addr} {Wd_LEFT : Option Addr} {Wn_LEFT : Nat} {Ws_LEFT : Array (Option Value)} {Wa_LEFT Wb_LEFT : Tok}
    (g_LEFT : PySem.W.nsIn K mainGlobals "LEFT" = some (some (.ref Z_LEFT)))
    (q_LEFT : K.lookup Z_LEFT = some ⟨.type "tuple", zd_LEFT, .seq #[.ref Y_LEFT, .ref W_LEFT] zn_LEFT, zs_LEFT⟩)
    (qY_LEFT : K.lookup Y_LEFT = some ⟨.type "tuple", Yd_LEFT, .seq #[.int (-1) Ya_LEFT, .int 1 Yb_LEFT] Yn_LEFT, Ys_LEFT⟩)
    (qW_LEFT : K.lookup W_LEFT = some ⟨.type "tuple", Wd_LEFT, .seq #[.int 0 Wa_LEFT, .int 1 Wb_LEFT] Wn_LEFT, Ws_LEFT⟩)
    {Z_ONE : Addr} {zd_ONE : Option Addr} {zn_ONE : Nat} {zs_ONE : Array (Option Value)} {za_ONE zb_ONE : Tok}
    (g_ONE : PySem.W.nsIn K mainGlobals "ONE" = some (some (.ref Z_ONE)))
    (q_ONE : K.lookup Z_ONE = some ⟨.type "tuple", zd_ONE, .seq #[.int 1 za_ONE, .int 1 zb_ONE] zn_ONE, zs_ONE⟩)
    {Z_RIGHT : Addr} {zd_RIGHT : Option Addr} {zn_RIGHT : Nat} {zs_RIGHT : Array (Option Value)}
    {Y_RIGHT : Addr} {Yd_RIGHT : Option Addr} {Yn_RIGHT : Nat} {Ys_RIGHT : Array (Option Value)} {Ya_RIGHT Yb_RIGHT : Tok}
    {W_RIGHT : Addr} {Wd_RIGHT : Option Addr} {Wn_RIGHT : Nat} {Ws_RIGHT : Array (Option Value)} {Wa_RIGHT Wb_RIGHT : Tok}
    (g_RIGHT : PySem.W.nsIn K mainGlobals "RIGHT" = some (some (.ref Z_RIGHT)))
    (q_RIGHT : K.lookup Z_RIGHT = some ⟨.type "tuple", zd_RIGHT, .seq #[.ref Y_RIGHT, .ref W_RIGHT] zn_RIGHT, zs_RIGHT⟩)
    (qY_RIGHT : K.lookup Y_RIGHT = some ⟨.type "tuple", Yd_RIGHT, .seq #[.int 1 Ya_RIGHT, .int 1 Yb_RIGHT] Yn_RIGHT, Ys_RIGHT⟩)
    (qW_RIGHT : K.lookup W_RIGHT = some ⟨.type "tuple", Wd_RIGHT, .seq #[.int 0 Wa_RIGHT, .int 1 Wb_RIGHT] Wn_RIGHT, Ws_RIGHT⟩)
    {Z_UP : Addr} {zd_UP : Option Addr} {zn_UP : Nat} {zs_UP : Array (Option Value)}
    {Y_UP : Addr} {Yd_UP : Option Addr} {Yn_UP : Nat} {Ys_UP : Array (Option Value)} {Ya_UP Yb_UP : Tok}
    {W_UP : Addr} {Wd_UP : Option Addr} {Wn_UP : Nat} {Ws_UP : Array (Option Value)} {Wa_UP Wb_UP : Tok}
    (g_UP : PySem.W.nsIn K mainGlobals "UP" = some (some (.ref Z_UP)))
    (q_UP : K.lookup Z_UP = some ⟨.type "tuple", zd_UP, .seq #[.ref Y_UP, .ref W_UP] zn_UP, zs_UP⟩)
    (qY_UP : K.lookup Y_UP = some ⟨.type "tuple", Yd_UP, .seq #[.int 0 Ya_UP, .int 1 Yb_UP] Yn_UP, Ys_UP⟩)
    (qW_UP : K.lookup W_UP = some ⟨.type "tuple", Wd_UP, .seq #[.int 1 Wa_UP, .int 1 Wb_UP] Wn_UP, Ws_UP⟩)
    {Z_ZERO : Addr} {zd_ZERO : Option Addr} {zn_ZERO : Nat} {zs_ZERO : Array (Option Value)} {za_ZERO zb_ZERO : Tok}
    (g_ZERO : PySem.W.nsIn K mainGlobals "ZERO" = some (some (.ref Z_ZERO)))
    (q_ZERO : K.lookup Z_ZERO = some ⟨.type "tuple", zd_ZERO, .seq #[.int 0 za_ZERO, .int 1 zb_ZERO] zn_ZERO, zs_ZERO⟩)
    (i_gcd : PySem.W.nsIn K mainGlobals "gcd" = some (some (.builtin "math.gcd")))
    (i_isqrt : PySem.W.nsIn K mainGlobals "isqrt" = some (some (.builtin "math.isqrt")))
    (z_abs : PySem.W.nsIn K mainGlobals "abs" = some none)
    (z_bool : PySem.W.nsIn K mainGlobals "bool" = some none)
    (z_int : PySem.W.nsIn K mainGlobals "int" = some none)
    (z_isinstance : PySem.W.nsIn K mainGlobals "isinstance" = some none)
    (z_len : PySem.W.nsIn K mainGlobals "len" = some none)
    (z_list : PySem.W.nsIn K mainGlobals "list" = some none)
    (z_range : PySem.W.nsIn K mainGlobals "range" = some none)
    (z_tuple : PySem.W.nsIn K mainGlobals "tuple" = some none) : Txt K mg where
  F__law_hand := ⟨_, _, fun_mk (st := st__law_hand) l__law_hand c__law_hand k__law_hand, PySem.W.mg_of X G a__law_hand⟩
  F__law_take := ⟨_, _, fun_mk (st := st__law_take) l__law_take c__law_take k__law_take, PySem.W.mg_of X G a__law_take⟩
  F__law_gcd := ⟨_, _, fun_mk (st := st__law_gcd) l__law_gcd c__law_gcd k__law_gcd, PySem.W.mg_of X G a__law_gcd⟩
  F__law_ratio := ⟨_, _, fun_mk (st := st__law_ratio) l__law_ratio c__law_ratio k__law_ratio, PySem.W.mg_of X G a__law_ratio⟩
  F__law_less := ⟨_, _, fun_mk (st := st__law_less) l__law_less c__law_less k__law_less, PySem.W.mg_of X G a__law_less⟩
  F__law_over := ⟨_, _, fun_mk (st := st__law_over) l__law_over c__law_over k__law_over, PySem.W.mg_of X G a__law_over⟩
  F__law_plus := ⟨_, _, fun_mk (st := st__law_plus) l__law_plus c__law_plus k__law_plus, PySem.W.mg_of X G a__law_plus⟩
  F__law_times := ⟨_, _, fun_mk (st := st__law_times) l__law_times c__law_times k__law_times, PySem.W.mg_of X G a__law_times⟩
  F__law_direction := ⟨_, _, fun_mk (st := st__law_direction) l__law_direction c__law_direction k__law_direction, PySem.W.mg_of X G a__law_direction⟩
  F__law_form := ⟨_, _, fun_mk (st := st__law_form) l__law_form c__law_form k__law_form, PySem.W.mg_of X G a__law_form⟩
  F__law_half_back := ⟨_, _, fun_mk (st := st__law_half_back) l__law_half_back c__law_half_back k__law_half_back, PySem.W.mg_of X G a__law_half_back⟩
  F__law_round := ⟨_, _, fun_mk (st := st__law_round) l__law_round c__law_round k__law_round, PySem.W.mg_of X G a__law_round⟩
  F__law_same := ⟨_, _, fun_mk (st := st__law_same) l__law_same c__law_same k__law_same, PySem.W.mg_of X G a__law_same⟩
  F__law_same_half := ⟨_, _, fun_mk (st := st__law_same_half) l__law_same_half c__law_same_half k__law_same_half, PySem.W.mg_of X G a__law_same_half⟩
  F__law_same_row := ⟨_, _, fun_mk (st := st__law_same_row) l__law_same_row c__law_same_row k__law_same_row, PySem.W.mg_of X G a__law_same_row⟩
  F__law_turned := ⟨_, _, fun_mk (st := st__law_turned) l__law_turned c__law_turned k__law_turned, PySem.W.mg_of X G a__law_turned⟩
  F_lowest_terms := ⟨_, _, fun_mk (st := st_lowest_terms) l_lowest_terms c_lowest_terms k_lowest_terms, PySem.W.mg_of X G a_lowest_terms⟩
  F_over := ⟨_, _, fun_mk (st := st_over) l_over c_over k_over, PySem.W.mg_of X G a_over⟩
  F__add_end := ⟨_, _, fun_mk (st := st__add_end) l__add_end c__add_end k__add_end, PySem.W.mg_of X G a__add_end⟩
  F_is_whole := ⟨_, _, ⟨⟨_, _, _, _, _, _, _, _, _, _, rfl, l_is_whole, c_is_whole, .inr ⟨by simp, _, _, [Value.none, Value.none], _, rfl, e_is_whole, rfl, .cons rfl (.cons rfl (.nil))⟩, .inl rfl⟩, k_is_whole⟩, PySem.W.mg_of X G a_is_whole⟩
  F_is_ratio := ⟨_, _, fun_mk (st := st_is_ratio) l_is_ratio c_is_ratio k_is_ratio, PySem.W.mg_of X G a_is_ratio⟩
  F_is_half := ⟨_, _, fun_mk (st := st_is_half) l_is_half c_is_half k_is_half, PySem.W.mg_of X G a_is_half⟩
  F_check_half := ⟨_, _, fun_mk (st := st_check_half) l_check_half c_check_half k_check_half, PySem.W.mg_of X G a_check_half⟩
  F_minus := ⟨_, _, fun_mk (st := st_minus) l_minus c_minus k_minus, PySem.W.mg_of X G a_minus⟩
  F_plus := ⟨_, _, fun_mk (st := st_plus) l_plus c_plus k_plus, PySem.W.mg_of X G a_plus⟩
  F_times := ⟨_, _, fun_mk (st := st_times) l_times c_times k_times, PySem.W.mg_of X G a_times⟩
  F_add_halves := ⟨_, _, fun_mk (st := st_add_halves) l_add_halves c_add_halves k_add_halves, PySem.W.mg_of X G a_add_halves⟩
  F_dot_of := ⟨_, _, fun_mk (st := st_dot_of) l_dot_of c_dot_of k_dot_of, PySem.W.mg_of X G a_dot_of⟩
  F_is_row := ⟨_, _, ⟨⟨_, _, _, _, _, _, _, _, _, _, rfl, l_is_row, c_is_row, .inr ⟨by simp, _, _, [Value.int 0 u0_is_row, Value.none], _, rfl, e_is_row, rfl, .cons ⟨u0_is_row, rfl⟩ (.cons rfl (.nil))⟩, .inl rfl⟩, k_is_row⟩, PySem.W.mg_of X G a_is_row⟩
  F_is_spot := ⟨_, _, fun_mk (st := st_is_spot) l_is_spot c_is_spot k_is_spot, PySem.W.mg_of X G a_is_spot⟩
  F_is_direction := ⟨_, _, fun_mk (st := st_is_direction) l_is_direction c_is_direction k_is_direction, PySem.W.mg_of X G a_is_direction⟩
  F_check_direction := ⟨_, _, fun_mk (st := st_check_direction) l_check_direction c_check_direction k_check_direction, PySem.W.mg_of X G a_check_direction⟩
  F_cosine_between := ⟨_, _, fun_mk (st := st_cosine_between) l_cosine_between c_cosine_between k_cosine_between, PySem.W.mg_of X G a_cosine_between⟩
  F_direction_by := ⟨_, _, fun_mk (st := st_direction_by) l_direction_by c_direction_by k_direction_by, PySem.W.mg_of X G a_direction_by⟩
  F_negative := ⟨_, _, fun_mk (st := st_negative) l_negative c_negative k_negative, PySem.W.mg_of X G a_negative⟩
  F_half_of := ⟨_, _, fun_mk (st := st_half_of) l_half_of c_half_of k_half_of, PySem.W.mg_of X G a_half_of⟩
  F_cross_of := ⟨_, _, fun_mk (st := st_cross_of) l_cross_of c_cross_of k_cross_of, PySem.W.mg_of X G a_cross_of⟩
  F_sine_between := ⟨_, _, fun_mk (st := st_sine_between) l_sine_between c_sine_between k_sine_between, PySem.W.mg_of X G a_sine_between⟩
  F_mirrored_direction := ⟨_, _, fun_mk (st := st_mirrored_direction) l_mirrored_direction c_mirrored_direction k_mirrored_direction, PySem.W.mg_of X G a_mirrored_direction⟩
  F_turned_as := ⟨_, _, fun_mk (st := st_turned_as) l_turned_as c_turned_as k_turned_as, PySem.W.mg_of X G a_turned_as⟩
  F_turned_by := ⟨_, _, fun_mk (st := st_turned_by) l_turned_by c_turned_by k_turned_by, PySem.W.mg_of X G a_turned_by⟩
  F__law_added := ⟨_, _, fun_mk (st := st__law_added) l__law_added c__law_added k__law_added, PySem.W.mg_of X G a__law_added⟩
  F__law_half := ⟨_, _, fun_mk (st := st__law_half) l__law_half c__law_half k__law_half, PySem.W.mg_of X G a__law_half⟩
  F__law_any_half := ⟨_, _, fun_mk (st := st__law_any_half) l__law_any_half c__law_any_half k__law_any_half, PySem.W.mg_of X G a__law_any_half⟩
  F_opposite_of := ⟨_, _, fun_mk (st := st_opposite_of) l_opposite_of c_opposite_of k_opposite_of, PySem.W.mg_of X G a_opposite_of⟩
  F_turned_quarters := ⟨_, _, fun_mk (st := st_turned_quarters) l_turned_quarters c_turned_quarters k_turned_quarters, PySem.W.mg_of X G a_turned_quarters⟩
  F_quarter_direction := ⟨_, _, fun_mk (st := st_quarter_direction) l_quarter_direction c_quarter_direction k_quarter_direction, PySem.W.mg_of X G a_quarter_direction⟩
  F__law_quartered := ⟨_, _, fun_mk (st := st__law_quartered) l__law_quartered c__law_quartered k__law_quartered, PySem.W.mg_of X G a__law_quartered⟩
  F__law_is_ratio := ⟨_, _, fun_mk (st := st__law_is_ratio) l__law_is_ratio c__law_is_ratio k__law_is_ratio, PySem.W.mg_of X G a__law_is_ratio⟩
  F__law_is_square := ⟨_, _, fun_mk (st := st__law_is_square) l__law_is_square c__law_is_square k__law_is_square, PySem.W.mg_of X G a__law_is_square⟩
  F__law_size := ⟨_, _, fun_mk (st := st__law_size) l__law_size c__law_size k__law_size, PySem.W.mg_of X G a__law_size⟩
  F__law_mark := ⟨_, _, fun_mk (st := st__law_mark) l__law_mark c__law_mark k__law_mark, PySem.W.mg_of X G a__law_mark⟩
  F__law_wide := ⟨_, _, fun_mk (st := st__law_wide) l__law_wide c__law_wide k__law_wide, PySem.W.mg_of X G a__law_wide⟩
  F_root_of := ⟨_, _, fun_mk (st := st_root_of) l_root_of c_root_of k_root_of, PySem.W.mg_of X G a_root_of⟩
  F__law_rooted := ⟨_, _, fun_mk (st := st__law_rooted) l__law_rooted c__law_rooted k__law_rooted, PySem.W.mg_of X G a__law_rooted⟩
  F__law_same_rows := ⟨_, _, fun_mk (st := st__law_same_rows) l__law_same_rows c__law_same_rows k__law_same_rows, PySem.W.mg_of X G a__law_same_rows⟩
  F_law := ⟨_, _, fun_mk (st := st_law) l_law c_law k_law, PySem.W.mg_of X G a_law⟩
  g_DOWN := ⟨Z_DOWN, PySem.W.mg_of X G g_DOWN, fun h H => two_den q_DOWN h H (rat_den qY_DOWN h H) (rat_den qW_DOWN h H)⟩
  g_END := PySem.W.mg_of X G g_END
  g_LEFT := ⟨Z_LEFT, PySem.W.mg_of X G g_LEFT, fun h H => two_den q_LEFT h H (rat_den qY_LEFT h H) (rat_den qW_LEFT h H)⟩
  g_ONE := ⟨Z_ONE, PySem.W.mg_of X G g_ONE, rat_den q_ONE⟩
  g_RIGHT := ⟨Z_RIGHT, PySem.W.mg_of X G g_RIGHT, fun h H => two_den q_RIGHT h H (rat_den qY_RIGHT h H) (rat_den qW_RIGHT h H)⟩
  g_UP := ⟨Z_UP, PySem.W.mg_of X G g_UP, fun h H => two_den q_UP h H (rat_den qY_UP h H) (rat_den qW_UP h H)⟩
  g_ZERO := ⟨Z_ZERO, PySem.W.mg_of X G g_ZERO, rat_den q_ZERO⟩
  i_gcd := PySem.W.mg_of X G i_gcd
  i_isqrt := PySem.W.mg_of X G i_isqrt
  z_abs := PySem.W.mg_none_of X G z_abs
  z_bool := PySem.W.mg_none_of X G z_bool
  z_int := PySem.W.mg_none_of X G z_int
  z_isinstance := PySem.W.mg_none_of X G z_isinstance
  z_len := PySem.W.mg_none_of X G z_len
  z_list := PySem.W.mg_none_of X G z_list
  z_range := PySem.W.mg_none_of X G z_range
  z_tuple := PySem.W.mg_none_of X G z_tuple
theorem law_mk {l : PySem.W.OpenLaw} {w : World} {K : Frag} {mg : Str → Option Value} {fa : Addr} (T : Txt K mg) (hfa : mg "law" = some (.ref fa)) (M : ∀ s : Hd, ∃ s' : Hd, b_law (lawE 3) s = .ok (.rt (.bl true)) s') :
    ∃ fd : FuncData, (∀ (s : Shared) (v : Value), BindsTo s fd ⟨[v], []⟩ [("_law_script", v)]) ∧ ∀ base : Heap, K.In base → base.Ns mainGlobals mg → FnOk l.prog w K mg base (L2.CX l.prog w) 10 fa fd ["_law_script"] (spLaw K) := by
  obtain ⟨f, fd, F, hm⟩ := T.F_law
  have e := hfa.symm.trans hm
  cases e
  refine ⟨fd, fun s v => ?_, fun base _ _ => ?_⟩
  · obtain ⟨oc, od, kV, doc, pm, an, cdv, ct, osl, rfl, _, _⟩ := F.ex
    exact .of_eq rfl
  · have C__law_take := c__law_take (P := l.prog) (w := w) (base := base) T
    have C__law_gcd := c__law_gcd (P := l.prog) (w := w) (base := base) T 
    have C__law_ratio := c__law_ratio (P := l.prog) (w := w) (base := base) T C__law_gcd
    have C__law_less := c__law_less (P := l.prog) (w := w) (base := base) T C__law_ratio
    have C__law_over := c__law_over (P := l.prog) (w := w) (base := base) T C__law_ratio
    have C__law_plus := c__law_plus (P := l.prog) (w := w) (base := base) T C__law_ratio
    have C__law_times := c__law_times (P := l.prog) (w := w) (base := base) T C__law_ratio
    have C__law_direction := c__law_direction (P := l.prog) (w := w) (base := base) T C__law_less C__law_over C__law_plus C__law_times
    have C__law_form := c__law_form (P := l.prog) (w := w) (base := base) T C__law_take
    have C__law_half_back := c__law_half_back (P := l.prog) (w := w) (base := base) T C__law_over C__law_plus C__law_times
    have C__law_round := c__law_round (P := l.prog) (w := w) (base := base) T C__law_less C__law_over C__law_plus C__law_times
    have C__law_same := c__law_same (P := l.prog) (w := w) (base := base) T 
    have C__law_same_half := c__law_same_half (P := l.prog) (w := w) (base := base) T C__law_same
    have C__law_same_row := c__law_same_row (P := l.prog) (w := w) (base := base) T C__law_same
    have C__law_turned := c__law_turned (P := l.prog) (w := w) (base := base) T C__law_less C__law_plus C__law_round C__law_times
    have C_lowest_terms := c_lowest_terms (P := l.prog) (w := w) (base := base) T 
    have C_over := c_over (P := l.prog) (w := w) (base := base) T C_lowest_terms
    have C__add_end := c__add_end (P := l.prog) (w := w) (base := base) T C_over
    have C_is_whole_1 := c_is_whole_1 (P := l.prog) (w := w) (base := base) T 
    have C_is_whole_2 := c_is_whole_2 (P := l.prog) (w := w) (base := base) T 
    have C_is_ratio := c_is_ratio (P := l.prog) (w := w) (base := base) T C_is_whole_1 C_is_whole_2
    have C_is_half := c_is_half (P := l.prog) (w := w) (base := base) T C_is_ratio
    have C_check_half := c_check_half (P := l.prog) (w := w) (base := base) T C_is_half
    have C_minus := c_minus (P := l.prog) (w := w) (base := base) T C_lowest_terms
    have C_plus := c_plus (P := l.prog) (w := w) (base := base) T C_lowest_terms
    have C_times := c_times (P := l.prog) (w := w) (base := base) T C_lowest_terms
    have C_add_halves := c_add_halves (P := l.prog) (w := w) (base := base) T C__add_end C_check_half C_minus C_over C_plus C_times
    have C_dot_of := c_dot_of (P := l.prog) (w := w) (base := base) T C_plus C_times
    have C_is_row := c_is_row (P := l.prog) (w := w) (base := base) T 
    have C_is_spot := c_is_spot (P := l.prog) (w := w) (base := base) T C_is_ratio C_is_row
    have C_is_direction := c_is_direction (P := l.prog) (w := w) (base := base) T C_dot_of C_is_spot
    have C_check_direction := c_check_direction (P := l.prog) (w := w) (base := base) T C_is_direction
    have C_cosine_between := c_cosine_between (P := l.prog) (w := w) (base := base) T C_check_direction C_dot_of
    have C_direction_by := c_direction_by (P := l.prog) (w := w) (base := base) T C_check_half C_lowest_terms
    have C_negative := c_negative (P := l.prog) (w := w) (base := base) T 
    have C_half_of := c_half_of (P := l.prog) (w := w) (base := base) T C_check_direction C_negative C_over C_plus
    have C_cross_of := c_cross_of (P := l.prog) (w := w) (base := base) T C_minus C_times
    have C_sine_between := c_sine_between (P := l.prog) (w := w) (base := base) T C_check_direction C_cross_of
    have C_mirrored_direction := c_mirrored_direction (P := l.prog) (w := w) (base := base) T C_check_direction C_negative
    have C_turned_as := c_turned_as (P := l.prog) (w := w) (base := base) T C_cross_of C_dot_of C_mirrored_direction
    have C_turned_by := c_turned_by (P := l.prog) (w := w) (base := base) T C_check_direction C_direction_by C_turned_as
    have C__law_added := c__law_added (P := l.prog) (w := w) (base := base) T C__law_direction C__law_form C__law_half_back C__law_round C__law_same C__law_same_half C__law_same_row C__law_turned C_add_halves C_cosine_between C_direction_by C_half_of C_sine_between C_turned_by
    have C__law_half := c__law_half (P := l.prog) (w := w) (base := base) T C__law_ratio C__law_take
    have C__law_any_half := c__law_any_half (P := l.prog) (w := w) (base := base) T C__law_half C__law_ratio C__law_take
    have C_opposite_of := c_opposite_of (P := l.prog) (w := w) (base := base) T C_check_direction C_negative
    have C_turned_quarters := c_turned_quarters (P := l.prog) (w := w) (base := base) T C_check_direction C_is_whole_1 C_negative
    have C_quarter_direction := c_quarter_direction (P := l.prog) (w := w) (base := base) T C_turned_quarters
    have C__law_quartered := c__law_quartered (P := l.prog) (w := w) (base := base) T C__law_form C__law_same_row C__law_take C__law_times C_mirrored_direction C_opposite_of C_quarter_direction C_turned_quarters
    have C__law_is_ratio := c__law_is_ratio (P := l.prog) (w := w) (base := base) T C__law_gcd
    have C__law_is_square := c__law_is_square (P := l.prog) (w := w) (base := base) T 
    have C__law_size := c__law_size (P := l.prog) (w := w) (base := base) T 
    have C__law_mark := c__law_mark (P := l.prog) (w := w) (base := base) T C__law_ratio C__law_take
    have C__law_wide := c__law_wide (P := l.prog) (w := w) (base := base) T C__law_mark C__law_ratio C__law_take
    have C_root_of := c_root_of (P := l.prog) (w := w) (base := base) T C_times
    have C__law_rooted := c__law_rooted (P := l.prog) (w := w) (base := base) T C__law_is_ratio C__law_is_square C__law_ratio C__law_same C__law_size C__law_take C__law_times C__law_wide C_root_of
    have C__law_same_rows := c__law_same_rows (P := l.prog) (w := w) (base := base) T C__law_same_row
    exact f_law T C__law_added C__law_any_half C__law_direction C__law_over C__law_quartered C__law_rooted C__law_same_rows C__law_take M F
end Law
open PySem PySem.W PyProof.Rows
set_option maxRecDepth 100000 in
set_option maxHeartbeats 0 in
theorem PySem.Challenge.cw_stillarms_k10_whole_halves_and_quarters_holds : PySem.Challenge.rw_stillarms_k10_whole_halves_and_quarters.Holds := by
  w_on; o_law; k_head; (case hw => w_witness2)
  k_fill
  refine L2.walk_of (l := PySem.Challenge.rw_stillarms_k10_whole_halves_and_quarters) (n := 63) (k := 10) (x := "_law_script") (CX := fun w => L2.CX PySem.Challenge.rw_stillarms_k10_whole_halves_and_quarters.prog w) (sp := fun w => Mir.spLaw _) rfl (by decide) rfl ⟨rfl, by decide, by decide⟩ (fun w h Y => PySem.W.kIn_of Y) ?F (fun _ _ a ns hl _ hS => ⟨a, ns, rfl, hS, hl, fun _ => rfl⟩) (fun _ _ _ _ _ z => Mir.cx_false z)
  case F =>
    intro w mg fa h KX G hmg
    refine' Law.law_mk (Law.txt_mk KX G ?a__law_hand ?l__law_hand ?c__law_hand ?k__law_hand ?a__law_take ?l__law_take ?c__law_take ?k__law_take ?a__law_gcd ?l__law_gcd ?c__law_gcd ?k__law_gcd ?a__law_ratio ?l__law_ratio ?c__law_ratio ?k__law_ratio ?a__law_less ?l__law_less ?c__law_less ?k__law_less ?a__law_over ?l__law_over ?c__law_over ?k__law_over ?a__law_plus ?l__law_plus ?c__law_plus ?k__law_plus ?a__law_times ?l__law_times ?c__law_times ?k__law_times ?a__law_direction ?l__law_direction ?c__law_direction ?k__law_direction ?a__law_form ?l__law_form ?c__law_form ?k__law_form ?a__law_half_back ?l__law_half_back ?c__law_half_back ?k__law_half_back ?a__law_round ?l__law_round ?c__law_round ?k__law_round ?a__law_same ?l__law_same ?c__law_same ?k__law_same ?a__law_same_half ?l__law_same_half ?c__law_same_half ?k__law_same_half ?a__law_same_row ?l__law_same_row ?c__law_same_row ?k__law_same_row ?a__law_turned ?l__law_turned ?c__law_turned ?k__law_turned ?a_lowest_terms ?l_lowest_terms ?c_lowest_terms ?k_lowest_terms ?a_over ?l_over ?c_over ?k_over ?a__add_end ?l__add_end ?c__add_end ?k__add_end ?a_is_whole ?l_is_whole ?c_is_whole ?k_is_whole ?e_is_whole ?a_is_ratio ?l_is_ratio ?c_is_ratio ?k_is_ratio ?a_is_half ?l_is_half ?c_is_half ?k_is_half ?a_check_half ?l_check_half ?c_check_half ?k_check_half ?a_minus ?l_minus ?c_minus ?k_minus ?a_plus ?l_plus ?c_plus ?k_plus ?a_times ?l_times ?c_times ?k_times ?a_add_halves ?l_add_halves ?c_add_halves ?k_add_halves ?a_dot_of ?l_dot_of ?c_dot_of ?k_dot_of ?a_is_row ?l_is_row ?c_is_row ?k_is_row ?e_is_row ?a_is_spot ?l_is_spot ?c_is_spot ?k_is_spot ?a_is_direction ?l_is_direction ?c_is_direction ?k_is_direction ?a_check_direction ?l_check_direction ?c_check_direction ?k_check_direction ?a_cosine_between ?l_cosine_between ?c_cosine_between ?k_cosine_between ?a_direction_by ?l_direction_by ?c_direction_by ?k_direction_by ?a_negative ?l_negative ?c_negative ?k_negative ?a_half_of ?l_half_of ?c_half_of ?k_half_of ?a_cross_of ?l_cross_of ?c_cross_of ?k_cross_of ?a_sine_between ?l_sine_between ?c_sine_between ?k_sine_between ?a_mirrored_direction ?l_mirrored_direction ?c_mirrored_direction ?k_mirrored_direction ?a_turned_as ?l_turned_as ?c_turned_as ?k_turned_as ?a_turned_by ?l_turned_by ?c_turned_by ?k_turned_by ?a__law_added ?l__law_added ?c__law_added ?k__law_added ?a__law_half ?l__law_half ?c__law_half ?k__law_half ?a__law_any_half ?l__law_any_half ?c__law_any_half ?k__law_any_half ?a_opposite_of ?l_opposite_of ?c_opposite_of ?k_opposite_of ?a_turned_quarters ?l_turned_quarters ?c_turned_quarters ?k_turned_quarters ?a_quarter_direction ?l_quarter_direction ?c_quarter_direction ?k_quarter_direction ?a__law_quartered ?l__law_quartered ?c__law_quartered ?k__law_quartered ?a__law_is_ratio ?l__law_is_ratio ?c__law_is_ratio ?k__law_is_ratio ?a__law_is_square ?l__law_is_square ?c__law_is_square ?k__law_is_square ?a__law_size ?l__law_size ?c__law_size ?k__law_size ?a__law_mark ?l__law_mark ?c__law_mark ?k__law_mark ?a__law_wide ?l__law_wide ?c__law_wide ?k__law_wide ?a_root_of ?l_root_of ?c_root_of ?k_root_of ?a__law_rooted ?l__law_rooted ?c__law_rooted ?k__law_rooted ?a__law_same_rows ?l__law_same_rows ?c__law_same_rows ?k__law_same_rows ?a_law ?l_law ?c_law ?k_law ?g_DOWN ?q_DOWN ?qY_DOWN ?qW_DOWN ?g_END ?g_LEFT ?q_LEFT ?qY_LEFT ?qW_LEFT ?g_ONE ?q_ONE ?g_RIGHT ?q_RIGHT ?qY_RIGHT ?qW_RIGHT ?g_UP ?q_UP ?qY_UP ?qW_UP ?g_ZERO ?q_ZERO ?i_gcd ?i_isqrt ?z_abs ?z_bool ?z_int ?z_isinstance ?z_len ?z_list ?z_range ?z_tuple) hmg Law.math
    (case a__law_hand => k_is)
    (case l__law_hand => k_is)
    (case c__law_hand => k_is)
    (case k__law_hand => k_is)
    (case a__law_take => k_is)
    (case l__law_take => k_is)
    (case c__law_take => k_is)
    (case k__law_take => k_is)
    (case a__law_gcd => k_is)
    (case l__law_gcd => k_is)
    (case c__law_gcd => k_is)
    (case k__law_gcd => k_is)
    (case a__law_ratio => k_is)
    (case l__law_ratio => k_is)
    (case c__law_ratio => k_is)
    (case k__law_ratio => k_is)
    (case a__law_less => k_is)
    (case l__law_less => k_is)
    (case c__law_less => k_is)
    (case k__law_less => k_is)
    (case a__law_over => k_is)
    (case l__law_over => k_is)
    (case c__law_over => k_is)
    (case k__law_over => k_is)
    (case a__law_plus => k_is)
    (case l__law_plus => k_is)
    (case c__law_plus => k_is)
    (case k__law_plus => k_is)
    (case a__law_times => k_is)
    (case l__law_times => k_is)
    (case c__law_times => k_is)
    (case k__law_times => k_is)
    (case a__law_direction => k_is)
    (case l__law_direction => k_is)
    (case c__law_direction => k_is)
    (case k__law_direction => k_is)
    (case a__law_form => k_is)
    (case l__law_form => k_is)
    (case c__law_form => k_is)
    (case k__law_form => k_is)
    (case a__law_half_back => k_is)
    (case l__law_half_back => k_is)
    (case c__law_half_back => k_is)
    (case k__law_half_back => k_is)
    (case a__law_round => k_is)
    (case l__law_round => k_is)
    (case c__law_round => k_is)
    (case k__law_round => k_is)
    (case a__law_same => k_is)
    (case l__law_same => k_is)
    (case c__law_same => k_is)
    (case k__law_same => k_is)
    (case a__law_same_half => k_is)
    (case l__law_same_half => k_is)
    (case c__law_same_half => k_is)
    (case k__law_same_half => k_is)
    (case a__law_same_row => k_is)
    (case l__law_same_row => k_is)
    (case c__law_same_row => k_is)
    (case k__law_same_row => k_is)
    (case a__law_turned => k_is)
    (case l__law_turned => k_is)
    (case c__law_turned => k_is)
    (case k__law_turned => k_is)
    (case a_lowest_terms => k_is)
    (case l_lowest_terms => k_is)
    (case c_lowest_terms => k_is)
    (case k_lowest_terms => k_is)
    (case a_over => k_is)
    (case l_over => k_is)
    (case c_over => k_is)
    (case k_over => k_is)
    (case a__add_end => k_is)
    (case l__add_end => k_is)
    (case c__add_end => k_is)
    (case k__add_end => k_is)
    (case a_is_whole => k_is)
    (case l_is_whole => k_is)
    (case c_is_whole => k_is)
    (case k_is_whole => k_is)
    (case e_is_whole => k_is)
    (case a_is_ratio => k_is)
    (case l_is_ratio => k_is)
    (case c_is_ratio => k_is)
    (case k_is_ratio => k_is)
    (case a_is_half => k_is)
    (case l_is_half => k_is)
    (case c_is_half => k_is)
    (case k_is_half => k_is)
    (case a_check_half => k_is)
    (case l_check_half => k_is)
    (case c_check_half => k_is)
    (case k_check_half => k_is)
    (case a_minus => k_is)
    (case l_minus => k_is)
    (case c_minus => k_is)
    (case k_minus => k_is)
    (case a_plus => k_is)
    (case l_plus => k_is)
    (case c_plus => k_is)
    (case k_plus => k_is)
    (case a_times => k_is)
    (case l_times => k_is)
    (case c_times => k_is)
    (case k_times => k_is)
    (case a_add_halves => k_is)
    (case l_add_halves => k_is)
    (case c_add_halves => k_is)
    (case k_add_halves => k_is)
    (case a_dot_of => k_is)
    (case l_dot_of => k_is)
    (case c_dot_of => k_is)
    (case k_dot_of => k_is)
    (case a_is_row => k_is)
    (case l_is_row => k_is)
    (case c_is_row => k_is)
    (case k_is_row => k_is)
    (case e_is_row => k_is)
    (case a_is_spot => k_is)
    (case l_is_spot => k_is)
    (case c_is_spot => k_is)
    (case k_is_spot => k_is)
    (case a_is_direction => k_is)
    (case l_is_direction => k_is)
    (case c_is_direction => k_is)
    (case k_is_direction => k_is)
    (case a_check_direction => k_is)
    (case l_check_direction => k_is)
    (case c_check_direction => k_is)
    (case k_check_direction => k_is)
    (case a_cosine_between => k_is)
    (case l_cosine_between => k_is)
    (case c_cosine_between => k_is)
    (case k_cosine_between => k_is)
    (case a_direction_by => k_is)
    (case l_direction_by => k_is)
    (case c_direction_by => k_is)
    (case k_direction_by => k_is)
    (case a_negative => k_is)
    (case l_negative => k_is)
    (case c_negative => k_is)
    (case k_negative => k_is)
    (case a_half_of => k_is)
    (case l_half_of => k_is)
    (case c_half_of => k_is)
    (case k_half_of => k_is)
    (case a_cross_of => k_is)
    (case l_cross_of => k_is)
    (case c_cross_of => k_is)
    (case k_cross_of => k_is)
    (case a_sine_between => k_is)
    (case l_sine_between => k_is)
    (case c_sine_between => k_is)
    (case k_sine_between => k_is)
    (case a_mirrored_direction => k_is)
    (case l_mirrored_direction => k_is)
    (case c_mirrored_direction => k_is)
    (case k_mirrored_direction => k_is)
    (case a_turned_as => k_is)
    (case l_turned_as => k_is)
    (case c_turned_as => k_is)
    (case k_turned_as => k_is)
    (case a_turned_by => k_is)
    (case l_turned_by => k_is)
    (case c_turned_by => k_is)
    (case k_turned_by => k_is)
    (case a__law_added => k_is)
    (case l__law_added => k_is)
    (case c__law_added => k_is)
    (case k__law_added => k_is)
    (case a__law_half => k_is)
    (case l__law_half => k_is)
    (case c__law_half => k_is)
    (case k__law_half => k_is)
    (case a__law_any_half => k_is)
    (case l__law_any_half => k_is)
    (case c__law_any_half => k_is)
    (case k__law_any_half => k_is)
    (case a_opposite_of => k_is)
    (case l_opposite_of => k_is)
    (case c_opposite_of => k_is)
    (case k_opposite_of => k_is)
    (case a_turned_quarters => k_is)
    (case l_turned_quarters => k_is)
    (case c_turned_quarters => k_is)
    (case k_turned_quarters => k_is)
    (case a_quarter_direction => k_is)
    (case l_quarter_direction => k_is)
    (case c_quarter_direction => k_is)
    (case k_quarter_direction => k_is)
    (case a__law_quartered => k_is)
    (case l__law_quartered => k_is)
    (case c__law_quartered => k_is)
    (case k__law_quartered => k_is)
    (case a__law_is_ratio => k_is)
    (case l__law_is_ratio => k_is)
    (case c__law_is_ratio => k_is)
    (case k__law_is_ratio => k_is)
    (case a__law_is_square => k_is)
    (case l__law_is_square => k_is)
    (case c__law_is_square => k_is)
    (case k__law_is_square => k_is)
    (case a__law_size => k_is)
    (case l__law_size => k_is)
    (case c__law_size => k_is)
    (case k__law_size => k_is)
    (case a__law_mark => k_is)
    (case l__law_mark => k_is)
    (case c__law_mark => k_is)
    (case k__law_mark => k_is)
    (case a__law_wide => k_is)
    (case l__law_wide => k_is)
    (case c__law_wide => k_is)
    (case k__law_wide => k_is)
    (case a_root_of => k_is)
    (case l_root_of => k_is)
    (case c_root_of => k_is)
    (case k_root_of => k_is)
    (case a__law_rooted => k_is)
    (case l__law_rooted => k_is)
    (case c__law_rooted => k_is)
    (case k__law_rooted => k_is)
    (case a__law_same_rows => k_is)
    (case l__law_same_rows => k_is)
    (case c__law_same_rows => k_is)
    (case k__law_same_rows => k_is)
    (case a_law => k_is)
    (case l_law => k_is)
    (case c_law => k_is)
    (case k_law => k_is)
    (case g_DOWN => k_is)
    (case q_DOWN => k_is)
    (case qY_DOWN => k_is)
    (case qW_DOWN => k_is)
    (case g_END => k_is)
    (case g_LEFT => k_is)
    (case q_LEFT => k_is)
    (case qY_LEFT => k_is)
    (case qW_LEFT => k_is)
    (case g_ONE => k_is)
    (case q_ONE => k_is)
    (case g_RIGHT => k_is)
    (case q_RIGHT => k_is)
    (case qY_RIGHT => k_is)
    (case qW_RIGHT => k_is)
    (case g_UP => k_is)
    (case q_UP => k_is)
    (case qY_UP => k_is)
    (case qW_UP => k_is)
    (case g_ZERO => k_is)
    (case q_ZERO => k_is)
    (case i_gcd => k_is)
    (case i_isqrt => k_is)
    (case z_abs => k_is)
    (case z_bool => k_is)
    (case z_int => k_is)
    (case z_isinstance => k_is)
    (case z_len => k_is)
    (case z_list => k_is)
    (case z_range => k_is)
    (case z_tuple => k_is)


