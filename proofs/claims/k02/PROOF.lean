import PyProof.Rows.All
import Wide.All
import OpenK.AllK
import Wide.FinOn
import PyProof.EqAt
import PyProof.EqKinds
import PyProof.TupleCall
import HandS.ForMost
import HandS.ForExc
import HandS.Flow
import HandS.Gcd
import HandS.Wide
import HandS.Deep
import HandS.IsInst
import HandS.Defaults
import HandS.CallSlots
import HandS.ExcInit
import HandS.ExcField
import HandS.ExcIs
import KE.KMathG
import HandS.TupAny
import HandS.TryOnly
import HandS.Small
import OpenK.KOps
import HandS.StrMore
import HandS.Style
import HandS.Codes
import PySem.Challenge.RW_stillarms_k02_whole_ratio_texts_read
set_option Elab.async false
set_option linter.all false
set_option maxRecDepth 100000
/-! Mir: data without addresses, functions on them, and what it is that a piece of text follows such a function. -/
namespace Mir
open PySem L2
open PySem.W (Frag)

/-- data -/
inductive Dt where
  | non | bl (b : Bool) | int (i : Int) | str (x : Str) | tup (ds : List Dt) | lst (ds : List Dt) | obj (c : Str) (fs : List (Str × Dt)) | hnd
/-- the hand that a law draws from: great cells, mixed, count -/
structure Hd where
  g : List Int
  m : Int
  c : Int
/-- a slot: nothing known, data, a list of one's own that is still growing -/
inductive Sl where
  | no | dat (d : Dt) | own (ds : List Dt) | slf (c : Str) (fs : List (Str × Dt))
abbrev Env' := List Sl
inductive R (α : Type) where
  | ok (a : α) (s : Hd)
  | err (c : Str) (fs : List (Str × Dt)) (ρ : Env') (s : Hd)
  | bad
def R.bind {α β : Type} (r : R α) (k : α → Hd → R β) : R β := match r with
  | .ok a s => k a s
  | .err c fs ρ s => .err c fs ρ s
  | .bad => .bad
@[simp] theorem R.bind_ok {α β : Type} (a : α) (s : Hd) (k : α → Hd → R β) : (R.ok a s).bind k = k a s := rfl
@[simp] theorem R.bind_err {α β : Type} (c : Str) (fs : List (Str × Dt)) (ρ : Env') (s : Hd) (k : α → Hd → R β) : (R.err c fs ρ s : R α).bind k = .err c fs ρ s := rfl
@[simp] theorem R.bind_bad {α β : Type} (k : α → Hd → R β) : (R.bad : R α).bind k = .bad := rfl
inductive Fl where
  | nx (ρ : Env') | rt (d : Dt) | bk (ρ : Env') | ct (ρ : Env')

section
variable (K : Frag) (mg : Str → Option Value) (h : Addr) (H : Hp)
mutual
inductive Den : V → Dt → Prop
  | non : Den .non .non
  | bl (b : Bool) : Den (.bl b) (.bl b)
  | int (i : Int) : Den (.int i) (.int i)
  | str (x : Str) : Den (.str x) (.str x)
  | tup {a : Addr} {xs : List V} {ds : List Dt} : SqT K H a xs → DenA xs ds → Den (.ref a) (.tup ds)
  | lst {a : Addr} {xs : List V} {ds : List Dt} : H a = some (.lst xs) → DenA xs ds → Den (.ref a) (.lst ds)
  | obj {a C dx : Addr} {c : Str} {fs : List (Str × V)} {ds : List (Str × Dt)} : mg c = some (.ref C) → H a = some (.ins C dx fs) → DenF fs ds → Den (.ref a) (.obj c ds)
  | hnd : Den (.ref h) .hnd
inductive DenA : List V → List Dt → Prop
  | nil : DenA [] []
  | cons {v : V} {vs : List V} {d : Dt} {ds : List Dt} : Den v d → DenA vs ds → DenA (v :: vs) (d :: ds)
inductive DenF : List (Str × V) → List (Str × Dt) → Prop
  | nil : DenF [] []
  | cons {n : Str} {v : V} {vs : List (Str × V)} {d : Dt} {ds : List (Str × Dt)} : Den v d → DenF vs ds → DenF ((n, v) :: vs) ((n, d) :: ds)
end
end

section
variable {K : Frag} {mg : Str → Option Value} {h : Addr} {H H' : Hp}
theorem sqt_mono {a : Addr} {xs : List V} (e : Same H H') (q : SqT K H a xs) : SqT K H' a xs := by
  rcases q with (q | ⟨o, q⟩) | q
  · exact .inl (.inl (e _ _ q))
  · exact .inl (.inr ⟨o, e _ _ q⟩)
  · exact .inr q
mutual
theorem Den.mono (e : Same H H') : ∀ {v : V} {d : Dt}, Den K mg h H v d → Den K mg h H' v d
  | _, _, .non => .non
  | _, _, .bl b => .bl b
  | _, _, .int i => .int i
  | _, _, .str x => .str x
  | _, _, .tup q r => .tup (sqt_mono e q) (DenA.mono e r)
  | _, _, .lst q r => .lst (e _ _ q) (DenA.mono e r)
  | _, _, .obj c q r => .obj c (e _ _ q) (DenF.mono e r)
  | _, _, .hnd => .hnd
theorem DenA.mono (e : Same H H') : ∀ {v : List V} {d : List Dt}, DenA K mg h H v d → DenA K mg h H' v d
  | _, _, .nil => .nil
  | _, _, .cons q r => .cons (Den.mono e q) (DenA.mono e r)
theorem DenF.mono (e : Same H H') : ∀ {v : List (Str × V)} {d : List (Str × Dt)}, DenF K mg h H v d → DenF K mg h H' v d
  | _, _, .nil => .nil
  | _, _, .cons q r => .cons (Den.mono e q) (DenF.mono e r)
end
theorem DenA.len : ∀ {vs : List V} {ds : List Dt}, DenA K mg h H vs ds → vs.length = ds.length
  | _, _, .nil => rfl
  | _, _, .cons _ r => congrArg Nat.succ (DenA.len r)
theorem DenA.get : ∀ {vs : List V} {ds : List Dt} {i : Nat} {d : Dt}, DenA K mg h H vs ds → ds[i]? = some d → ∃ v, vs[i]? = some v ∧ Den K mg h H v d
  | _, _, _, _, .nil, e => by simp at e
  | _, _, 0, _, .cons r _, e => by
    simp at e
    subst e
    exact ⟨_, rfl, r⟩
  | _, _, i + 1, d, .cons _ t, e => by
    obtain ⟨u, h1, h2⟩ := DenA.get (i := i) (d := d) t (by simpa using e)
    exact ⟨u, by simpa using h1, h2⟩
theorem DenA.getV : ∀ {vs : List V} {ds : List Dt} {i : Nat} {v : V}, DenA K mg h H vs ds → vs[i]? = some v → ∃ d, ds[i]? = some d ∧ Den K mg h H v d
  | _, _, _, _, .nil, e => by simp at e
  | _, _, 0, _, .cons r _, e => by
    simp at e
    subst e
    exact ⟨_, rfl, r⟩
  | _, _, i + 1, d, .cons _ t, e => by
    obtain ⟨u, h1, h2⟩ := DenA.getV (i := i) (v := d) t (by simpa using e)
    exact ⟨u, by simpa using h1, h2⟩
theorem DenA.append : ∀ {vs ws : List V} {ds es : List Dt}, DenA K mg h H vs ds → DenA K mg h H ws es → DenA K mg h H (vs ++ ws) (ds ++ es)
  | _, _, _, _, .nil, s => s
  | _, _, _, _, .cons r t, s => .cons r (DenA.append t s)
theorem DenA.take : ∀ {vs : List V} {ds : List Dt} (n : Nat), DenA K mg h H vs ds → DenA K mg h H (vs.take n) (ds.take n)
  | _, _, 0, _ => by
    rw [List.take_zero, List.take_zero]
    exact .nil
  | _, _, _ + 1, .nil => .nil
  | _, _, n + 1, .cons r t => .cons r (DenA.take n t)
theorem DenA.drop : ∀ {vs : List V} {ds : List Dt} (n : Nat), DenA K mg h H vs ds → DenA K mg h H (vs.drop n) (ds.drop n)
  | _, _, 0, r => r
  | _, _, _ + 1, .nil => .nil
  | _, _, n + 1, .cons _ t => DenA.drop n t
theorem DenA.set {v : V} {d : Dt} (r : Den K mg h H v d) : ∀ {vs : List V} {ds : List Dt} (i : Nat), DenA K mg h H vs ds → DenA K mg h H (vs.set i v) (ds.set i d)
  | _, _, _, .nil => .nil
  | _, _, 0, .cons _ t => .cons r t
  | _, _, i + 1, .cons q t => .cons q (DenA.set r i t)
theorem DenA.ints : ∀ (ns : List Int), DenA K mg h H (ns.map V.int) (ns.map Dt.int)
  | [] => .nil
  | n :: ns => .cons (.int n) (DenA.ints ns)
theorem DenA.ofInts : ∀ {vs : List V} {ns : List Int}, DenA K mg h H vs (ns.map Dt.int) → vs = ns.map V.int
  | _, [], .nil => rfl
  | _, n :: ns, .cons (.int _) r => by
    rw [DenA.ofInts r]
    rfl
end

/-! ### heaps: the part on which data rest, the hand, the step -/
def isH (h : Addr) (H : Hp) (p : Addr) : Prop := p = h ∨ ∃ r, H h = some (.lst (.ref p :: r))
structure Step (h : Addr) (H0 H H0' H' : Hp) : Prop where
  s0 : Same H0 H0'
  fr : ∀ p o, H p = some o → H0 p = none → ¬ isH h H p → H' p = some o ∧ H0' p = none ∧ ¬ isH h H' p
structure G (h : Addr) (H0 H : Hp) (s : Hd) : Prop where
  ex : Same H0 H
  h0 : H0 h = none
  gl : ∃ gl : Addr, H0 gl = none ∧ gl ≠ h ∧ H h = some (.lst [.ref gl, .int s.m, .int s.c]) ∧ H gl = some (.lst (s.g.map V.int))
section
variable {h : Addr} {H0 H H0' H' H0'' H'' : Hp} {s : Hd} {p : Addr} {o : HO}
theorem Step.refl (H0 H : Hp) : Step h H0 H H0 H := ⟨Same.refl _, fun _ _ a b c => ⟨a, b, c⟩⟩
theorem Step.trans (a : Step h H0 H H0' H') (b : Step h H0' H' H0'' H'') : Step h H0 H H0'' H'' :=
  ⟨a.s0.trans b.s0, fun p o x y z => by
    obtain ⟨x1, y1, z1⟩ := a.fr p o x y z
    exact b.fr p o x1 y1 z1⟩
theorem G.alloc (g : G h H0 H s) (hp : H p = none) : G h (upd H0 p o) (upd H p o) s ∧ Step h H0 H (upd H0 p o) (upd H p o) := by
  obtain ⟨gl, a1, a2, a3, a4⟩ := g.gl
  have n0 : H0 p = none := g.ex.free hp
  have e1 : h ≠ p := ne_of_none a3 hp
  have e2 : gl ≠ p := ne_of_none a4 hp
  refine ⟨⟨fun b u q => ?_, by rw [upd_ne e1]; exact g.h0, gl, by rw [upd_ne e2]; exact a1, a2, by rw [upd_ne e1]; exact a3, by rw [upd_ne e2]; exact a4⟩, ⟨fun b u q => ?_, fun q u x y z => ?_⟩⟩
  · by_cases hb : b = p
    · subst hb
      rw [upd_same] at q ⊢
      exact q
    · rw [upd_ne hb] at q ⊢
      exact g.ex _ _ q
  · rw [upd_ne (ne_of_none q n0)]
    exact q
  · have nq : q ≠ p := ne_of_none x hp
    refine ⟨by rw [upd_ne nq]; exact x, by rw [upd_ne nq]; exact y, fun w => z ?_⟩
    rcases w with w | ⟨r, w⟩
    · exact .inl w
    · rw [upd_ne e1] at w
      exact .inr ⟨r, w⟩
/-- a new object that no data rest on -/
theorem G.side (g : G h H0 H s) (hp : H p = none) : G h H0 (upd H p o) s ∧ Step h H0 H H0 (upd H p o) := by
  obtain ⟨gl, a1, a2, a3, a4⟩ := g.gl
  have n0 : H0 p = none := g.ex.free hp
  have e1 : h ≠ p := ne_of_none a3 hp
  have e2 : gl ≠ p := ne_of_none a4 hp
  refine ⟨⟨fun b u q => ?_, g.h0, gl, a1, a2, by rw [upd_ne e1]; exact a3, by rw [upd_ne e2]; exact a4⟩, ⟨Same.refl _, fun q u x y z => ?_⟩⟩
  · rw [upd_ne (ne_of_none q n0)]
    exact g.ex _ _ q
  · have nq : q ≠ p := ne_of_none x hp
    refine ⟨by rw [upd_ne nq]; exact x, y, fun w => z ?_⟩
    rcases w with w | ⟨r, w⟩
    · exact .inl w
    · rw [upd_ne e1] at w
      exact .inr ⟨r, w⟩
end

/-! ### slots -/
/-- a def's run: the hand, and the heaps at its entry -/
structure Ent where
  a : Addr
  E0 : Hp
  E : Hp
  sf : Addr
instance : CoeHead Ent Addr := ⟨Ent.a⟩
/-- none of the callers' own things -/
def NF (h : Ent) (p : Addr) : Prop := ∀ o, h.E p = some o → h.E0 p = none → isH h.a h.E p
def Sl.mine : Sl → Bool
  | .own _ => true
  | .slf _ _ => true
  | _ => false
section
variable (K : Frag) (mg : Str → Option Value) (h : Ent) (H0 H : Hp)
def SlOk : Option V → Sl → Prop
  | _, .no => True
  | some v, .dat d => Den K mg h.a H0 v d
  | some v, .own ds => ∃ p vs, v = .ref p ∧ H p = some (.lst vs) ∧ H0 p = none ∧ ¬ isH h.a H p ∧ NF h p ∧ DenA K mg h.a H0 vs ds
  | some v, .slf c fs => ∃ p C dx vs, v = .ref p ∧ p = h.sf ∧ mg c = some (.ref C) ∧ H p = some (.ins C dx vs) ∧ H0 p = none ∧ ¬ isH h.a H p ∧ NF h p ∧ DenF K mg h.a H0 vs fs
  | none, _ => False
structure Slots (σ : St) (ρ : Env') : Prop where
  len : σ.length = ρ.length
  at_ : ∀ (i : Nat) (o : Option V) (l : Sl), σ[i]? = some o → ρ[i]? = some l → SlOk K mg h H0 H o l
  ds : ∀ (i j : Nat) (p : Addr) (a b : Sl), ρ[i]? = some a → ρ[j]? = some b → a.mine = true → b.mine = true → σ[i]? = some (some (.ref p)) → σ[j]? = some (some (.ref p)) → i = j
  st : Step h.a h.E0 h.E H0 H
end
section
variable {K : Frag} {mg : Str → Option Value} {h : Ent} {H0 H H0' H' : Hp} {σ : St} {ρ : Env'}
theorem SlOk.step {o : Option V} {l : Sl} (st : Step h.a H0 H H0' H') (q : SlOk K mg h H0 H o l) : SlOk K mg h H0' H' o l := by
  cases o with
  | none =>
    cases l with
    | no => exact True.intro
    | dat d => exact q
    | own ds => exact q
    | slf c fs => exact q
  | some v =>
    cases l with
    | no => exact True.intro
    | dat d => exact Den.mono st.s0 q
    | own ds =>
      obtain ⟨p, vs, e, a, b, c, n, d⟩ := q
      obtain ⟨a1, b1, c1⟩ := st.fr p _ a b c
      exact ⟨p, vs, e, a1, b1, c1, n, d.mono st.s0⟩
    | slf c fs =>
      obtain ⟨p, C, dx, vs, e, ep, m, a, b, c, n, d⟩ := q
      obtain ⟨a1, b1, c1⟩ := st.fr p _ a b c
      exact ⟨p, C, dx, vs, e, ep, m, a1, b1, c1, n, d.mono st.s0⟩
theorem Slots.step (S : Slots K mg h H0 H σ ρ) (st : Step h.a H0 H H0' H') : Slots K mg h H0' H' σ ρ :=
  ⟨S.len, fun i o l a b => (S.at_ i o l a b).step st, S.ds, S.st.trans st⟩
theorem Slots.dat {i : Nat} {d : Dt} (S : Slots K mg h H0 H σ ρ) (e : ρ[i]? = some (.dat d)) : ∃ v, σ[i]? = some (some v) ∧ Den K mg h.a H0 v d := by
  obtain ⟨hl, _⟩ := List.getElem?_eq_some_iff.mp e
  have hl2 : i < σ.length := by rw [S.len]; exact hl
  have q := S.at_ i σ[i] _ (List.getElem?_eq_getElem hl2) e
  cases hv : σ[i] with
  | none =>
    rw [hv] at q
    exact q.elim
  | some v =>
    rw [hv] at q
    exact ⟨v, by rw [List.getElem?_eq_getElem hl2, hv], q⟩
theorem Slots.own {i : Nat} {ds : List Dt} (S : Slots K mg h H0 H σ ρ) (e : ρ[i]? = some (.own ds)) : ∃ p vs, σ[i]? = some (some (.ref p)) ∧ H p = some (.lst vs) ∧ H0 p = none ∧ ¬ isH h.a H p ∧ NF h p ∧ DenA K mg h.a H0 vs ds := by
  obtain ⟨hl, _⟩ := List.getElem?_eq_some_iff.mp e
  have hl2 : i < σ.length := by rw [S.len]; exact hl
  have q := S.at_ i σ[i] _ (List.getElem?_eq_getElem hl2) e
  cases hv : σ[i] with
  | none =>
    rw [hv] at q
    exact q.elim
  | some v =>
    rw [hv] at q
    obtain ⟨p, vs, rfl, q⟩ := q
    exact ⟨p, vs, by rw [List.getElem?_eq_getElem hl2, hv], q⟩
theorem Slots.slf {i : Nat} {c : Str} {fs : List (Str × Dt)} (S : Slots K mg h H0 H σ ρ) (e : ρ[i]? = some (.slf c fs)) : ∃ p C dx vs, σ[i]? = some (some (.ref p)) ∧ p = h.sf ∧ mg c = some (.ref C) ∧ H p = some (.ins C dx vs) ∧ H0 p = none ∧ ¬ isH h.a H p ∧ NF h p ∧ DenF K mg h.a H0 vs fs := by
  obtain ⟨hl, _⟩ := List.getElem?_eq_some_iff.mp e
  have hl2 : i < σ.length := by rw [S.len]; exact hl
  have q := S.at_ i σ[i] _ (List.getElem?_eq_getElem hl2) e
  cases hv : σ[i] with
  | none =>
    rw [hv] at q
    exact q.elim
  | some v =>
    rw [hv] at q
    obtain ⟨p, C, dx, vs, rfl, q⟩ := q
    exact ⟨p, C, dx, vs, by rw [List.getElem?_eq_getElem hl2, hv], q⟩
/-- another thing in one slot; p: if it is one's own, no other slot has it -/
theorem Slots.put {i : Nat} {o : Option V} {l : Sl} (S : Slots K mg h H0 H σ ρ) (q : SlOk K mg h H0 H o l) (nd : ∀ p, o = some (.ref p) → l.mine = true → ∀ (j : Nat) (b : Sl), j ≠ i → ρ[j]? = some b → b.mine = true → σ[j]? ≠ some (some (.ref p))) : Slots K mg h H0 H (σ.set i o) (ρ.set i l) := by
  refine ⟨by rw [List.length_set, List.length_set]; exact S.len, fun j o' l' a b => ?_, fun j k p a b e1 e2 m1 m2 e3 e4 => ?_, S.st⟩
  · by_cases hj : i = j
    · subst hj
      have hl : i < σ.length := by
        obtain ⟨q, _⟩ := List.getElem?_eq_some_iff.mp a
        rwa [List.length_set] at q
      rw [List.getElem?_set_self hl] at a
      rw [List.getElem?_set_self (by rw [← S.len]; exact hl)] at b
      cases a
      cases b
      exact q
    · rw [List.getElem?_set_ne hj] at a b
      exact S.at_ j o' l' a b
  · have self : ∀ (j : Nat) (a : Sl), (ρ.set i l)[j]? = some a → (σ.set i o)[j]? = some (some (.ref p)) → i = j → a = l ∧ o = some (.ref p) := fun j a x y z => by
      subst z
      have hl : i < ρ.length := by
        obtain ⟨q, _⟩ := List.getElem?_eq_some_iff.mp x
        rwa [List.length_set] at q
      rw [List.getElem?_set_self hl] at x
      rw [List.getElem?_set_self (by rw [S.len]; exact hl)] at y
      cases x
      cases y
      exact ⟨rfl, rfl⟩
    by_cases nj : i = j
    · obtain ⟨ea, eo⟩ := self j a e1 e3 nj
      by_cases nk : i = k
      · rw [← nj, ← nk]
      · rw [List.getElem?_set_ne nk] at e2 e4
        exact absurd e4 (nd p eo (by rw [← ea]; exact m1) k b (fun z => nk z.symm) e2 m2)
    · by_cases nk : i = k
      · obtain ⟨eb, eo⟩ := self k b e2 e4 nk
        rw [List.getElem?_set_ne nj] at e1 e3
        exact absurd e3 (nd p eo (by rw [← eb]; exact m2) j a (fun z => nj z.symm) e1 m1)
      · rw [List.getElem?_set_ne nj] at e1 e3
        rw [List.getElem?_set_ne nk] at e2 e4
        exact S.ds j k p a b e1 e2 m1 m2 e3 e4
theorem Slots.set {i : Nat} {v : V} {d : Dt} (S : Slots K mg h H0 H σ ρ) (q : Den K mg h.a H0 v d) : Slots K mg h H0 H (σ.set i (some v)) (ρ.set i (.dat d)) := S.put q fun _ _ z => Bool.noConfusion z
theorem Slots.forget {i : Nat} (S : Slots K mg h H0 H σ ρ) (o : Option V) : Slots K mg h H0 H (σ.set i o) (ρ.set i .no) := S.put (by cases o <;> exact True.intro) fun _ _ z => Bool.noConfusion z
/-- p is the own thing of slot i alone: what is there changes -/
theorem SlOk.other {o : Option V} {l : Sl} {p : Addr} {u : HO} (nh : p ≠ h.a) (q : SlOk K mg h H0 H o l) (n : o = some (.ref p) → l.mine = false) : SlOk K mg h H0 (upd H p u) o l := by
  have hi : ∀ q, ¬ isH h.a H q → ¬ isH h.a (upd H p u) q := fun q w z => by
    rcases z with z | ⟨r, z⟩
    · exact w (.inl z)
    · rw [upd_ne fun y => nh y.symm] at z
      exact w (.inr ⟨r, z⟩)
  cases o with
  | none =>
    cases l with
    | no => exact True.intro
    | dat d => exact q
    | own ds => exact q
    | slf c fs => exact q
  | some v =>
    cases l with
    | no => exact True.intro
    | dat d => exact q
    | own ds =>
      obtain ⟨p', vs, rfl, a, b, c, nf, d⟩ := q
      have ne : p' ≠ p := fun z => by
        subst z
        have := n rfl
        cases this
      exact ⟨p', vs, rfl, by rw [upd_ne ne]; exact a, b, hi _ c, nf, d⟩
    | slf c fs =>
      obtain ⟨p', C, dx, vs, rfl, ep, m, a, b, c, nf, d⟩ := q
      have ne : p' ≠ p := fun z => by
        subst z
        have := n rfl
        cases this
      exact ⟨p', C, dx, vs, rfl, ep, m, by rw [upd_ne ne]; exact a, b, hi _ c, nf, d⟩
theorem G.at {h : Addr} {s : Hd} {p : Addr} {u : HO} (g : G h H0 H s) (n0 : H0 p = none) (nh : ¬ isH h H p) : G h H0 (upd H p u) s := by
  obtain ⟨gl, a1, a2, a3, a4⟩ := g.gl
  have e1 : h ≠ p := fun z => nh (.inl z.symm)
  have e2 : gl ≠ p := fun z => nh (.inr ⟨_, by rw [← z]; exact a3⟩)
  refine ⟨fun b o q => ?_, g.h0, gl, a1, a2, by rw [upd_ne e1]; exact a3, by rw [upd_ne e2]; exact a4⟩
  rw [upd_ne (ne_of_none q n0)]
  exact g.ex _ _ q
theorem Step.at {p : Addr} {u : HO} (st : Step h.a h.E0 h.E H0 H) (nh : p ≠ h.a) (nf : NF h p) : Step h.a h.E0 h.E H0 (upd H p u) := by
  refine ⟨st.s0, fun q o x y z => ?_⟩
  have ne : q ≠ p := fun w => by
    subst w
    exact z (nf o x y)
  obtain ⟨a, b, c⟩ := st.fr q o x y z
  refine ⟨by rw [upd_ne ne]; exact a, b, fun w => c ?_⟩
  rcases w with w | ⟨r, w⟩
  · exact .inl w
  · rw [upd_ne fun y => nh y.symm] at w
    exact .inr ⟨r, w⟩
/-- what stands at one's own thing changes -/
theorem Slots.mut {i : Nat} {p : Addr} {a l : Sl} {u : HO} (S : Slots K mg h H0 H σ ρ) (e : ρ[i]? = some a) (m : a.mine = true) (es : σ[i]? = some (some (.ref p))) (nh : ¬ isH h.a H p) (nf : NF h p) (ml : l.mine = true)
    (ok : SlOk K mg h H0 (upd H p u) (some (.ref p)) l) : Slots K mg h H0 (upd H p u) σ (ρ.set i l) := by
  have nha : p ≠ h.a := fun z => nh (.inl z)
  have S1 : Slots K mg h H0 (upd H p u) (σ.set i none) (ρ.set i .no) := by
    have S0 := S.forget (i := i) none
    refine ⟨S0.len, fun j o l' x y => SlOk.other nha (S0.at_ j o l' x y) fun z => ?_, S0.ds, S.st.at nha nf⟩
    subst z
    by_cases hj : i = j
    · subst hj
      have hl : i < ρ.length := by
        obtain ⟨q, _⟩ := List.getElem?_eq_some_iff.mp y
        rwa [List.length_set] at q
      rw [List.getElem?_set_self hl] at y
      cases y
      rfl
    · rw [List.getElem?_set_ne hj] at x y
      cases hm : l'.mine with
      | false => rfl
      | true => exact absurd (S.ds i j p a l' e y m hm es x) hj
  have S2 := S1.put (i := i) (o := some (.ref p)) (l := l) ok fun q eq _ j b nj y mb x => by
    cases eq
    rw [List.getElem?_set_ne (Ne.symm nj)] at x y
    exact nj (S.ds j i p b a y e mb m x es)
  rw [List.set_set, List.set_set] at S2
  have id : σ.set i (some (.ref p)) = σ := by
    apply List.ext_getElem?
    intro j
    by_cases hj : i = j
    · subst hj
      obtain ⟨hl, _⟩ := List.getElem?_eq_some_iff.mp es
      rw [List.getElem?_set_self hl, es]
    · rw [List.getElem?_set_ne hj]
  rwa [id] at S2
end

/-! ### what is wanted behind a reading, by what its function says -/
section
variable (K : Frag) (mg : Str → Option Value) (h : Ent)
/-- a raised error's fields; none: it has no dict -/
def XdOk (h : Addr) (H0 H : Hp) : Option Addr → List (Str × Dt) → Prop
  | some dd, fs => fs ≠ [] ∧ ∃ fv, H dd = some (.xd fv) ∧ DenF K mg h H0 fv fs
  | none, fs => fs = []
def ErrP (H0 : Hp) (c : Str) (fs : List (Str × Dt)) (ρ : Env') (s : Hd) (Wx : WX) : Prop := ∀ (σ' : St) (C : Addr) (od : Option Addr) (H0' H' : Hp), Same H0 H0' → G h.a H0' H' s → Slots K mg h H0' H' σ' ρ → mg c = some (.ref C) → XdOk K mg h.a H0' H' od fs → Wx (.ref C) od σ' H'
def Post {α β : Type} (rel : Hp → α → β → Prop) (r : R β) (H0 H : Hp) (Wx : WX) (Q : α → Hp → Prop) : Prop := match r with
  | .ok b s => ∀ a H0' H', Step h.a H0 H H0' H' → G h.a H0' H' s → rel H0' a b → Q a H'
  | .err c fs ρ s => ErrP K mg h H0 c fs ρ s Wx
  | .bad => False
def PostS (r : R Fl) (H0 H : Hp) (Wx : WX) (D : Ends) : Prop := match r with
  | .ok (.nx ρ) s => ∀ σ' H0' H', Same H0 H0' → G h.a H0' H' s → Slots K mg h H0' H' σ' ρ → D.nx σ' H'
  | .ok (.rt d) s => ∀ v H0' H', Step h.a h.E0 h.E H0' H' → G h.a H0' H' s → Den K mg h.a H0' v d → D.rt v H'
  | .ok (.bk ρ) s => ∀ σ' H0' H', Same H0 H0' → G h.a H0' H' s → Slots K mg h H0' H' σ' ρ → D.bk σ' H'
  | .ok (.ct ρ) s => ∀ σ' H0' H', Same H0 H0' → G h.a H0' H' s → Slots K mg h H0' H' σ' ρ → D.ct σ' H'
  | .err c fs ρ s => ErrP K mg h H0 c fs ρ s Wx
  | .bad => False
end
section
variable {K : Frag} {mg : Str → Option Value} {h : Ent} {H0 H H0' H' : Hp} {Wx : WX}
theorem ErrP.step {c : Str} {fs : List (Str × Dt)} {ρ : Env'} {s : Hd} (st : Same H0 H0') (p : ErrP K mg h H0 c fs ρ s Wx) : ErrP K mg h H0' c fs ρ s Wx :=
  fun σ' C od A B s2 g S m x => p σ' C od A B (st.trans s2) g S m x
theorem Post.step {α β : Type} {rel : Hp → α → β → Prop} {r : R β} {Q : α → Hp → Prop} (st : Step h.a H0 H H0' H') (p : Post K mg h rel r H0 H Wx Q) : Post K mg h rel r H0' H' Wx Q := by
  cases r with
  | ok b s => exact fun a A B s2 g q => p a A B (st.trans s2) g q
  | err c fs ρ s => exact ErrP.step st.s0 p
  | bad => exact p
theorem PostS.step {r : R Fl} {D : Ends} (st : Same H0 H0') (p : PostS K mg h r H0 H Wx D) : PostS K mg h r H0' H' Wx D := by
  cases r with
  | ok f s =>
    cases f with
    | nx ρ => exact fun a A B s2 g q => p a A B (st.trans s2) g q
    | rt d => exact p
    | bk ρ => exact fun a A B s2 g q => p a A B (st.trans s2) g q
    | ct ρ => exact fun a A B s2 g q => p a A B (st.trans s2) g q
  | err c fs ρ s => exact ErrP.step st p
  | bad => exact p
theorem Post.bind {α β γ δ : Type} {rel1 : Hp → α → β → Prop} {rel2 : Hp → γ → δ → Prop} {r : R β} {k : β → Hd → R δ} {Q : γ → Hp → Prop} {Q1 : α → Hp → Prop} (p : Post K mg h rel2 (r.bind k) H0 H Wx Q)
    (f : ∀ b s a H0' H', Step h.a H0 H H0' H' → G h.a H0' H' s → rel1 H0' a b → Post K mg h rel2 (k b s) H0' H' Wx Q → Q1 a H') : Post K mg h rel1 r H0 H Wx Q1 := by
  cases r with
  | ok b s => exact fun a A B st g q => f b s a A B st g q (Post.step st p)
  | err c fs ρ s => exact p
  | bad => exact p
theorem PostS.bind {α β : Type} {rel1 : Hp → α → β → Prop} {r : R β} {k : β → Hd → R Fl} {D : Ends} {Q1 : α → Hp → Prop} (p : PostS K mg h (r.bind k) H0 H Wx D)
    (f : ∀ b s a H0' H', Step h.a H0 H H0' H' → G h.a H0' H' s → rel1 H0' a b → PostS K mg h (k b s) H0' H' Wx D → Q1 a H') : Post K mg h rel1 r H0 H Wx Q1 := by
  cases r with
  | ok b s => exact fun a A B st g q => f b s a A B st g q (PostS.step st.s0 p)
  | err c fs ρ s => exact p
  | bad => exact p
end

/-! ### readings that follow a function -/
abbrev ME := Env' → Hd → R Dt
abbrev MT := Env' → Hd → R Bool
abbrev MA := Env' → Hd → R (List Dt)
abbrev MS := Env' → Hd → R Fl
abbrev EqB : Hp → Bool → Bool → Prop := fun _ a b => a = b
section
variable (K : Frag) (mg : Str → Option Value) (Wx : WX)
def SE (te : TE) (m : ME) : Prop := ∀ (h : Ent) (H0 H : Hp) (s : Hd) (σ : St) (ρ : Env') (Q : VK), G h.a H0 H s → Slots K mg h H0 H σ ρ → Post K mg h (Den K mg h.a) (m ρ s) H0 H Wx Q → te σ H Q
def SA (ta : TA) (m : MA) : Prop := ∀ (h : Ent) (H0 H : Hp) (s : Hd) (σ : St) (ρ : Env') (Q : List V → Hp → Prop), G h.a H0 H s → Slots K mg h H0 H σ ρ → Post K mg h (DenA K mg h.a) (m ρ s) H0 H Wx Q → ta σ H Q
def ST (tt : TT) (m : MT) : Prop := ∀ (h : Ent) (H0 H : Hp) (s : Hd) (σ : St) (ρ : Env') (Q : Bool → Hp → Prop), G h.a H0 H s → Slots K mg h H0 H σ ρ → Post K mg h EqB (m ρ s) H0 H Wx Q → tt σ H Q
def SS (ts : TS) (m : MS) : Prop := ∀ (h : Ent) (H0 H : Hp) (s : Hd) (σ : St) (ρ : Env') (D : Ends), G h.a H0 H s → Slots K mg h H0 H σ ρ → PostS K mg h (m ρ s) H0 H Wx D → ts D σ H
end
/-! ### texts that follow a function -/
def QE (X : Cx) (Wx : WX) (e : Expr) (m : ME) : Prop := ∃ t, PE X e t ∧ SE X.K X.mg Wx t m
def QT (X : Cx) (Wx : WX) (e : Expr) (m : MT) : Prop := ∃ t, PT X e t ∧ ST X.K X.mg Wx t m
def QW (X : Cx) (Wx : WX) (e : Expr) (m : MT) : Prop := ∃ t, PW X e t ∧ ST X.K X.mg Wx t m
def QA (X : Cx) (Wx : WX) (es : List Expr) (m : MA) : Prop := ∃ t, PA X es t ∧ SA X.K X.mg Wx t m
def QS (X : Cx) (Wx : WX) (st : Stmt) (m : MS) : Prop := ∃ t, PS X st t ∧ SS X.K X.mg Wx t m
def QSs (X : Cx) (Wx : WX) (sts : List Stmt) (m : MS) : Prop := ∃ t, PSs X sts t ∧ SS X.K X.mg Wx t m
end Mir


set_option Elab.async false
set_option linter.all false
set_option maxRecDepth 100000
namespace Mir
open PySem PySem.Spec PyProof.Rows L2
open PySem.W (Frag)

/-! ### functions on data -/
def liftO {α : Type} (o : Option α) (s : Hd) : R α := match o with
  | some a => .ok a s
  | none => .bad
@[simp] theorem liftO_some {α : Type} (a : α) (s : Hd) : liftO (some a) s = .ok a s := rfl
@[simp] theorem liftO_none {α : Type} (s : Hd) : liftO (none : Option α) s = .bad := rfl
def mVar (i : Nat) : ME := fun ρ s => match ρ[i]? with
  | some (.dat d) => .ok d s
  | _ => .bad
def mC (d : Dt) : ME := fun _ s => .ok d s
def mOp (f : Dt → Dt → Option Dt) (a b : ME) : ME := fun ρ s => (a ρ s).bind fun d s1 => (b ρ s1).bind fun e s2 => liftO (f d e) s2
def mUn (f : Dt → Option Dt) (a : ME) : ME := fun ρ s => (a ρ s).bind fun d s1 => liftO (f d) s1
def mTest (a : ME) : MT := fun ρ s => (a ρ s).bind fun d s1 => match d with
  | .bl b => .ok b s1
  | _ => .bad
def fTru : Dt → Option Bool
  | .non => some false
  | .bl b => some b
  | .int i => some (i != 0)
  | .str x => if x.length ≤ 100000 then some ((x.length : Int) != 0) else none
  | .tup ds => some (!ds.isEmpty)
  | .lst ds => some (!ds.isEmpty)
  | _ => none
def mTru (a : ME) : MT := fun ρ s => (a ρ s).bind fun d s1 => liftO (fTru d) s1
def mAnd (a b : MT) : MT := fun ρ s => (a ρ s).bind fun c s1 => if c = true then b ρ s1 else .ok false s1
def mOr (a b : MT) : MT := fun ρ s => (a ρ s).bind fun c s1 => if c = true then .ok true s1 else b ρ s1
def mNot (a : MT) : MT := fun ρ s => (a ρ s).bind fun c s1 => .ok (!c) s1
def mIf (t : MT) (a b : ME) : ME := fun ρ s => (t ρ s).bind fun c s1 => if c = true then a ρ s1 else b ρ s1
def mAndV (a b : ME) : ME := fun ρ s => (a ρ s).bind fun d s1 => (liftO (fTru d) s1).bind fun c s2 => if c = true then b ρ s2 else .ok d s2
def mOrV (a b : ME) : ME := fun ρ s => (a ρ s).bind fun d s1 => (liftO (fTru d) s1).bind fun c s2 => if c = true then .ok d s2 else b ρ s2
def mNotV (a : ME) : ME := fun ρ s => (a ρ s).bind fun d s1 => (liftO (fTru d) s1).bind fun c s2 => .ok (.bl (!c)) s2
def mNil : MA := fun _ s => .ok [] s
def mCons (a : ME) (r : MA) : MA := fun ρ s => (a ρ s).bind fun d s1 => (r ρ s1).bind fun ds s2 => .ok (d :: ds) s2
def mTup (as : MA) : ME := fun ρ s => (as ρ s).bind fun ds s1 => if ds.length ≤ 100000 then .ok (.tup ds) s1 else .bad
def mLst (as : MA) : ME := fun ρ s => (as ρ s).bind fun ds s1 => if ds.length ≤ 100000 then .ok (.lst ds) s1 else .bad
def mCB (f : List Dt → Option Dt) (as : MA) : ME := fun ρ s => (as ρ s).bind fun ds s1 => liftO (f ds) s1
/-- a def called: n parameters, the defaults dd fill up -/
def mCall (n : Nat) (dd : List Dt) (m : List Dt → Hd → R Dt) (as : MA) : ME := fun ρ s => (as ρ s).bind fun ds s1 =>
  if (ds ++ dd).length = n then (match m (ds ++ dd) s1 with
    | .ok d s2 => .ok d s2
    | .err c fs _ s2 => .err c fs ρ s2
    | .bad => .bad) else .bad

section
variable (K : Frag) (mg : Str → Option Value)
def OpS (r : R2) (f : Dt → Dt → Option Dt) : Prop := ∀ (h : Addr) (H0 H : Hp) (s : Hd) (x y : V) (d e z : Dt) (Q : VK), G h H0 H s → Den K mg h H0 x d → Den K mg h H0 y e → f d e = some z →
  (∀ u H0' H', Step h H0 H H0' H' → G h H0' H' s → Den K mg h H0' u z → Q u H') → r x y H Q
def UnS (r : V → Hp → VK → Prop) (f : Dt → Option Dt) : Prop := ∀ (h : Addr) (H0 H : Hp) (s : Hd) (x : V) (d z : Dt) (Q : VK), G h H0 H s → Den K mg h H0 x d → f d = some z →
  (∀ u H0' H', Step h H0 H H0' H' → G h H0' H' s → Den K mg h H0' u z → Q u H') → r x H Q
def CaS (r : List V → Hp → VK → Prop) (f : List Dt → Option Dt) : Prop := ∀ (h : Addr) (H0 H : Hp) (s : Hd) (xs : List V) (ds : List Dt) (z : Dt) (Q : VK), G h H0 H s → DenA K mg h H0 xs ds → f ds = some z →
  (∀ u H0' H', Step h H0 H H0' H' → G h H0' H' s → Den K mg h H0' u z → Q u H') → r xs H Q
end
section
variable {K : Frag} {mg : Str → Option Value}
theorem OpS.or {r r' : R2} {f f' g : Dt → Dt → Option Dt} (a : OpS K mg r f) (b : OpS K mg r' f') (hg : ∀ d e z, g d e = some z → f d e = some z ∨ f' d e = some z) : OpS K mg (fun x y H Q => r x y H Q ∨ r' x y H Q) g :=
  fun h H0 H s x y d e z Q g0 hx hy hz q => (hg d e z hz).elim (fun z1 => .inl (a h H0 H s x y d e z Q g0 hx hy z1 q)) fun z1 => .inr (b h H0 H s x y d e z Q g0 hx hy z1 q)
theorem CaS.or {r r' : List V → Hp → VK → Prop} {f f' g : List Dt → Option Dt} (a : CaS K mg r f) (b : CaS K mg r' f') (hg : ∀ d z, g d = some z → f d = some z ∨ f' d = some z) : CaS K mg (fun x H Q => r x H Q ∨ r' x H Q) g :=
  fun h H0 H s x d z Q g0 hx hz q => (hg d z hz).elim (fun z1 => .inl (a h H0 H s x d z Q g0 hx z1 q)) fun z1 => .inr (b h H0 H s x d z Q g0 hx z1 q)
end

/-! ### operators -/
/-- ints -/
def fI (C : Int → Int → Prop) [∀ i j, Decidable (C i j)] (g : Int → Int → Dt) : Dt → Dt → Option Dt
  | .int i, .int j => if C i j then some (g i j) else none
  | _, _ => none
abbrev fSub := fI (fun _ _ => True) fun i j => .int (i - j)
abbrev fLt := fI (fun _ _ => True) fun i j => .bl (decide (i < j))
abbrev fLe := fI (fun _ _ => True) fun i j => .bl (decide (i ≤ j))
abbrev fGt := fI (fun _ _ => True) fun i j => .bl (decide (j < i))
abbrev fGe := fI (fun _ _ => True) fun i j => .bl (decide (j ≤ i))
def sizeOk (n : Nat) : Prop := n ≤ 100000
instance (n : Nat) : Decidable (sizeOk n) := inferInstanceAs (Decidable (n ≤ 100000))
theorem sizeOk.le {n : Nat} (h : sizeOk n) : n ≤ sizeLine := Nat.le_trans h (by decide)
theorem sizeOk.lt {n : Nat} (h : sizeOk n) : n < sizeLine := Nat.lt_of_le_of_lt h (by decide)
def fAdd : Dt → Dt → Option Dt
  | .int i, .int j => some (.int (i + j))
  | .tup a, .tup b => if a ≠ [] ∧ sizeOk (a.length + b.length) then some (.tup (a ++ b)) else none
  | .lst a, .lst b => if sizeOk (a.length + b.length) then some (.lst (a ++ b)) else none
  | .str a, .str b => if sizeOk (a.length + b.length) then some (.str (a ++ b)) else none
  | _, _ => none
def MulOk (i j : Int) : Prop := i.natAbs.log2 + j.natAbs.log2 < 1000000
instance (i j : Int) : Decidable (MulOk i j) := inferInstanceAs (Decidable (_ < _))
def DivOk (j : Int) : Prop := j ≠ 0 ∧ j.natAbs.log2 < 9000
instance (j : Int) : Decidable (DivOk j) := inferInstanceAs (Decidable (_ ∧ _))
def fMul : Dt → Dt → Option Dt
  | .int i, .int j => if MulOk i j then some (.int (i * j)) else none
  | .lst a, .int j => if j ≤ 1000 ∧ -1000 ≤ j ∧ sizeOk (a.length * j.toNat) then some (.lst (List.replicate j.toNat a).flatten) else none
  | _, _ => none
abbrev fDiv := fI (fun _ j => DivOk j) fun i j => .int (i.fdiv j)
abbrev fMod := fI (fun _ j => j ≠ 0) fun i j => .int (i.fmod j)
instance (i j : Int) : Decidable (CPow i j) := inferInstanceAs (Decidable (_ ∧ _ ∧ _))
abbrev fPow := fI CPow fun i j => .int (i ^ j.toNat)
def fNeg : Dt → Option Dt
  | .int i => some (.int (-i))
  | _ => none
section
variable {X : Cx} {K : Frag} {mg : Str → Option Value}
theorem fI_some {C : Int → Int → Prop} [∀ i j, Decidable (C i j)] {g : Int → Int → Dt} {d e z : Dt} (h : fI C g d e = some z) : ∃ i j, d = .int i ∧ e = .int j ∧ C i j ∧ z = g i j := by
  unfold fI at h
  split at h
  · split at h
    · cases h
      exact ⟨_, _, rfl, rfl, by assumption, rfl⟩
    · cases h
  · cases h
theorem os_I {C C' : Int → Int → Prop} [∀ i j, Decidable (C i j)] {g : Int → Int → Dt} {gv : Int → Int → V} (hc : ∀ i j, C i j → C' i j) (hd : ∀ (h : Addr) (H : Hp) i j, Den K mg h H (gv i j) (g i j)) : OpS K mg (rI C' gv) (fI C g) := by
  intro h H0 H s x y d e z Q g0 hx hy hz q
  obtain ⟨i, j, rfl, rfl, c, rfl⟩ := fI_some hz
  cases hx
  cases hy
  exact ⟨i, j, rfl, rfl, hc i j c, q _ H0 H (.refl _ _) g0 (hd h H0 i j)⟩
theorem os_I0 {g : Int → Int → Dt} {gv : Int → Int → V} (hd : ∀ (h : Addr) (H : Hp) i j, Den K mg h H (gv i j) (g i j)) : OpS K mg (rI0 gv) (fI (fun _ _ => True) g) := by
  intro h H0 H s x y d e z Q g0 hx hy hz q
  obtain ⟨i, j, rfl, rfl, c, rfl⟩ := fI_some hz
  cases hx
  cases hy
  exact ⟨i, j, rfl, rfl, q _ H0 H (.refl _ _) g0 (hd h H0 i j)⟩
theorem os_sub : OpS K mg (rI0 fun i j => .int (i - j)) fSub := os_I0 fun _ _ _ _ => .int _
theorem os_lt : OpS K mg (rI0 fun i j => .bl (decide (i < j))) fLt := os_I0 fun _ _ _ _ => .bl _
theorem os_le : OpS K mg (rI0 fun i j => .bl (decide (i ≤ j))) fLe := os_I0 fun _ _ _ _ => .bl _
theorem os_gt : OpS K mg (rI0 fun i j => .bl (decide (j < i))) fGt := os_I0 fun _ _ _ _ => .bl _
theorem os_ge : OpS K mg (rI0 fun i j => .bl (decide (j ≤ i))) fGe := os_I0 fun _ _ _ _ => .bl _
def CDivA (_ j : Int) : Prop := j ≠ 0 ∧ j.natAbs.log2 < 9000
theorem op_divA : OpR X (binaryOp .FloorDiv) (rI CDivA fun i j => .int (i.fdiv j)) := opI fun _ _ _ _ _ _ _ hc q => floordiv_int hc.1 q (.inl (PyProof.noPylong_of_log2 hc.2))
theorem os_div : OpS K mg (rI CDivA fun i j => .int (i.fdiv j)) fDiv := os_I (fun _ _ c => c) fun _ _ _ _ => .int _
theorem os_mod : OpS K mg (rI (fun _ j => j ≠ 0) fun i j => .int (i.fmod j)) fMod := os_I (fun _ _ c => c) fun _ _ _ _ => .int _
theorem os_pow : OpS K mg (rI CPow fun i j => .int (i ^ j.toNat)) fPow := os_I (fun _ _ c => c) fun _ _ _ _ => .int _
theorem us_neg : UnS K mg (rU fun i => .int (-i)) fNeg := by
  intro h H0 H s x d z Q g0 hx hz q
  cases hx <;> first | cases hz | skip
  exact ⟨_, rfl, q _ H0 H (.refl _ _) g0 (.int _)⟩
/-- + -/
def rAddA (K : Frag) : R2 := fun x y H Q => (rI0 fun i j => V.int (i + j)) x y H Q ∨ (rCatT K x y H Q ∨ (rCat x y H Q ∨ (∃ i j, x = .str i ∧ y = .str j ∧ i.length + j.length ≤ sizeLine ∧ Q (.str (i ++ j)) H)))
theorem op_addA : OpR X (binaryOp .Add) (rAddA X.K) := op_add.or (op_catT.or (op_cat.or op_add_str))
theorem os_add : OpS K mg (rAddA K) fAdd := by
  intro h H0 H s x y d e z Q g0 hx hy hz q
  unfold fAdd at hz
  split at hz
  · cases hx
    cases hy
    cases hz
    exact .inl ⟨_, _, rfl, rfl, q _ H0 H (.refl _ _) g0 (.int _)⟩
  · split at hz
    · rename_i c
      cases hz
      cases hx with
      | tup qa ra =>
        cases hy with
        | tup qb rb =>
          have la := ra.len
          have lb := rb.len
          refine .inr (.inl ⟨_, _, _, _, rfl, rfl, sqt_mono g0.ex qa, sqt_mono g0.ex qb, fun z => c.1 ?_, ?_, fun z => ?_, fun _ p hp => ?_⟩)
          · rw [z] at la
            exact List.length_eq_zero_iff.mp la.symm
          · rw [la, lb]
            exact c.2.le
          · rw [z] at lb
            rw [List.length_eq_zero_iff.mp lb.symm, List.append_nil] at q
            exact q _ H0 H (.refl _ _) g0 (.tup qa ra)
          · obtain ⟨g1, st⟩ := g0.alloc (o := .tup _) hp
            exact q _ _ _ st g1 (.tup (SqT.of upd_same) ((ra.append rb).mono st.s0))
    · cases hz
  · split at hz
    · rename_i c
      cases hz
      cases hx with
      | lst qa ra =>
        cases hy with
        | lst qb rb =>
          have la := ra.len
          have lb := rb.len
          refine .inr (.inr (.inl ⟨_, _, _, _, rfl, rfl, g0.ex _ _ qa, g0.ex _ _ qb, ?_, fun p hp => ?_⟩))
          · rw [la, lb]
            exact c.le
          · obtain ⟨g1, st⟩ := g0.alloc (o := .lst _) hp
            exact q _ _ _ st g1 (.lst upd_same ((ra.append rb).mono st.s0))
    · cases hz
  · split at hz
    · rename_i c
      cases hz
      cases hx
      cases hy
      exact .inr (.inr (.inr ⟨_, _, rfl, rfl, c.le, q _ H0 H (.refl _ _) g0 (.str _)⟩))
    · cases hz
  · cases hz
/-- * -/
def rMulA : R2 := fun x y H Q => rI CMulW (fun i j => .int (i * j)) x y H Q ∨ rRep x y H Q
theorem op_mulA : OpR X (binaryOp .Mult) rMulA := op_mulW.or op_rep
theorem DenA.rep {h : Addr} {H : Hp} {vs : List V} {ds : List Dt} (r : DenA K mg h H vs ds) : ∀ k : Nat, DenA K mg h H (List.replicate k vs).flatten (List.replicate k ds).flatten
  | 0 => .nil
  | k + 1 => by
    rw [List.replicate_succ, List.replicate_succ, List.flatten_cons, List.flatten_cons]
    exact r.append (DenA.rep r k)
theorem os_mul : OpS K mg rMulA fMul := by
  intro h H0 H s x y d e z Q g0 hx hy hz q
  unfold fMul at hz
  split at hz
  · split at hz
    · cases hx
      cases hy
      cases hz
      exact .inl ⟨_, _, rfl, rfl, by assumption, q _ H0 H (.refl _ _) g0 (.int _)⟩
    · cases hz
  · split at hz
    · rename_i c
      cases hz
      cases hy
      cases hx with
      | lst qa ra =>
        have la := ra.len
        refine .inr ⟨_, _, _, rfl, rfl, g0.ex _ _ qa, by omega, by omega, ?_, fun p hp => ?_⟩
        · rw [la]
          exact c.2.2.le
        · obtain ⟨g1, st⟩ := g0.alloc (o := .lst _) hp
          exact q _ _ _ st g1 (.lst upd_same ((ra.rep _).mono st.s0))
    · cases hz
  · cases hz
end

/-! ### equality -/
mutual
def toPy : Dt → Option PyData
  | .non => some .none
  | .bl b => some (.bool b)
  | .int i => some (.int i)
  | .str x => some (.str x)
  | .tup ds => (toPyA ds).map .tuple
  | .lst ds => (toPyA ds).map .list
  | .obj _ _ => none
  | .hnd => none
def toPyA : List Dt → Option (List PyData)
  | [] => some []
  | d :: ds => (toPy d).bind fun p => (toPyA ds).map fun ps => p :: ps
end
section
variable {K : Frag} {mg : Str → Option Value} {h : Addr} {H : Hp}
mutual
theorem Den.dp : ∀ {v : V} {d : Dt} {p : PyData}, Den K mg h H v d → toPy d = some p → Dp K H v p
  | _, _, _, .non, e => by
    cases e
    exact .non
  | _, _, _, .bl b, e => by
    cases e
    exact .bl b
  | _, _, _, .int i, e => by
    cases e
    exact .int i
  | _, _, _, .str x, e => by
    cases e
    exact .str x
  | _, .tup ds, p, .tup q r, e => by
    unfold toPy at e
    cases hp : toPyA ds with
    | none =>
      rw [hp] at e
      cases e
    | some ps =>
      rw [hp] at e
      cases e
      exact .tup q (DenA.dp r hp)
  | _, .lst ds, p, .lst q r, e => by
    unfold toPy at e
    cases hp : toPyA ds with
    | none =>
      rw [hp] at e
      cases e
    | some ps =>
      rw [hp] at e
      cases e
      exact .lst (SqL.of q) (DenA.dp r hp)
  | _, _, _, .obj _ _ _, e => by
    unfold toPy at e
    cases e
  | _, _, _, .hnd, e => by
    unfold toPy at e
    cases e
theorem DenA.dp : ∀ {vs : List V} {ds : List Dt} {ps : List PyData}, DenA K mg h H vs ds → toPyA ds = some ps → DpAll K H vs ps
  | _, _, _, .nil, e => by
    cases e
    exact .nil
  | _, d :: ds, ps, .cons q r, e => by
    unfold toPyA at e
    cases hp : toPy d with
    | none =>
      rw [hp] at e
      cases e
    | some p =>
      rw [hp] at e
      cases hq : toPyA ds with
      | none =>
        rw [hq] at e
        cases e
      | some qs =>
        rw [hq] at e
        cases e
        exact .cons (Den.dp q hp) (DenA.dp r hq)
end
end
/-- data that may be compared -/
def pyOk (d : Dt) : Option PyData := (toPy d).bind fun p => if SeqAt.shaped p = true then some p else none
theorem pyOk_some {d : Dt} {p : PyData} (h : pyOk d = some p) : toPy d = some p ∧ SeqAt.shaped p = true := by
  unfold pyOk at h
  cases e : toPy d with
  | none =>
    rw [e] at h
    cases h
  | some q =>
    rw [e] at h
    have h' : (if SeqAt.shaped q = true then some q else none) = some p := h
    by_cases c : SeqAt.shaped q = true
    · rw [if_pos c] at h'
      cases h'
      exact ⟨rfl, c⟩
    · rw [if_neg c] at h'
      cases h'
def fEqB (d e : Dt) : Option Bool := (pyOk d).bind fun p => (pyOk e).bind fun q => some (PyData.eqv p q)
def fEq (d e : Dt) : Option Dt := (fEqB d e).map .bl
def fNe (d e : Dt) : Option Dt := (fEqB d e).map fun b => .bl (!b)
def fIs : Dt → Dt → Option Dt
  | .bl a, .bl b => some (.bl (a == b))
  | .non, .non => some (.bl true)
  | .bl _, .non => some (.bl false)
  | .int _, .non => some (.bl false)
  | .str _, .non => some (.bl false)
  | .tup _, .non => some (.bl false)
  | .lst _, .non => some (.bl false)
  | .obj _ _, .non => some (.bl false)
  | _, _ => none
def fIsNot (d e : Dt) : Option Dt := match fIs d e with
  | some (.bl b) => some (.bl (!b))
  | _ => none
/-- x in xs, a list -/
def fInB (d : Dt) : Dt → Option Bool
  | .lst es => (pyOk d).bind fun p => (pyOk (.lst es)).bind fun q => match q with
    | .list qs => some (qs.any fun z => PyData.eqv z p)
    | _ => none
  | _ => none
def fIn (d e : Dt) : Option Dt := (fInB d e).map .bl
def fNotIn (d e : Dt) : Option Dt := (fInB d e).map fun b => .bl (!b)
section
variable {X : Cx} {K : Frag} {mg : Str → Option Value}
theorem fEqB_some {d e : Dt} {b : Bool} (h : fEqB d e = some b) : ∃ p q, toPy d = some p ∧ toPy e = some q ∧ SeqAt.shaped p = true ∧ SeqAt.shaped q = true ∧ b = PyData.eqv p q := by
  unfold fEqB at h
  cases e1 : pyOk d with
  | none =>
    rw [e1] at h
    cases h
  | some p =>
    rw [e1] at h
    cases e2 : pyOk e with
    | none =>
      rw [e2] at h
      cases h
    | some q =>
      rw [e2] at h
      cases h
      exact ⟨p, q, (pyOk_some e1).1, (pyOk_some e2).1, (pyOk_some e1).2, (pyOk_some e2).2, rfl⟩
theorem os_eq : OpS K mg (rEqD K) fEq := by
  intro h H0 H s x y d e z Q g0 hx hy hz q
  unfold fEq at hz
  cases hb : fEqB d e with
  | none =>
    rw [hb] at hz
    cases hz
  | some b =>
    rw [hb] at hz
    cases hz
    obtain ⟨p, p', a1, a2, a3, a4, rfl⟩ := fEqB_some hb
    exact ⟨p, p', (hx.mono g0.ex).dp a1, (hy.mono g0.ex).dp a2, a3, a4, q _ H0 H (.refl _ _) g0 (.bl _)⟩
theorem os_ne : OpS K mg (rNeD K) fNe := by
  intro h H0 H s x y d e z Q g0 hx hy hz q
  unfold fNe at hz
  cases hb : fEqB d e with
  | none =>
    rw [hb] at hz
    cases hz
  | some b =>
    rw [hb] at hz
    cases hz
    obtain ⟨p, p', a1, a2, a3, a4, rfl⟩ := fEqB_some hb
    exact ⟨p, p', (hx.mono g0.ex).dp a1, (hy.mono g0.ex).dp a2, a3, a4, q _ H0 H (.refl _ _) g0 (.bl _)⟩
def rIsA : R2 := fun x y H Q => (y = .non ∧ Q (.bl (decide (x = .non))) H) ∨ ∃ a b, x = .bl a ∧ y = .bl b ∧ Q (.bl (a == b)) H
def rIsNotA : R2 := fun x y H Q => (y = .non ∧ Q (.bl (!decide (x = .non))) H) ∨ ∃ a b, x = .bl a ∧ y = .bl b ∧ Q (.bl (!(a == b))) H
theorem op_isB : OpR X (compareOp .Is) (fun x y H Q => ∃ a b, x = .bl a ∧ y = .bl b ∧ Q (.bl (a == b)) H) := by
  intro pins s σ H x y v u Q I rx ry hh
  obtain ⟨a, b, rfl, rfl, q⟩ := hh
  cases rx
  cases ry
  exact is_bool ⟨.bl _, H, I, rfl, q⟩
theorem op_isA : OpR X (compareOp .Is) rIsA := op_isN.or op_isB
theorem isnot_bool' {M : Model} {A : Around} {Q : Value → Shared → Prop} {E : Value → Shared → Prop} {s : Shared} {c d : Bool} (h : Q (.bool (!(c == d))) s) : wpAny M A (compareOp .IsNot (.bool c) (.bool d)) Q E s := by
  have e : isSame (.bool c) (.bool d) = pure (c == d) := by cases c <;> cases d <;> rfl
  show wpAny M A (do return Value.bool (!(← isSame (.bool c) (.bool d)))) Q E s
  rw [e]
  exact wpAny_bind (wpAny_pure (wpAny_pure h))
theorem op_isNotB : OpR X (compareOp .IsNot) (fun x y H Q => ∃ a b, x = .bl a ∧ y = .bl b ∧ Q (.bl (!(a == b))) H) := by
  intro pins s σ H x y v u Q I rx ry hh
  obtain ⟨a, b, rfl, rfl, q⟩ := hh
  cases rx
  cases ry
  exact isnot_bool' ⟨.bl _, H, I, rfl, q⟩
theorem op_isNotA : OpR X (compareOp .IsNot) rIsNotA := op_notN.or op_isNotB
theorem fIs_cases {d e : Dt} {z : Dt} (hz : fIs d e = some z) {h : Addr} {H : Hp} {x y : V} (hx : Den K mg h H x d) (hy : Den K mg h H y e) : (y = .non ∧ z = .bl (decide (x = .non))) ∨ ∃ a b, x = .bl a ∧ y = .bl b ∧ z = .bl (a == b) := by
  unfold fIs at hz
  split at hz <;> first
    | (cases hz; done)
    | (cases hz; cases hx; cases hy; exact .inr ⟨_, _, rfl, rfl, rfl⟩)
    | (cases hz; cases hx <;> cases hy; exact .inl ⟨rfl, rfl⟩)
theorem os_is : OpS K mg rIsA fIs := by
  intro h H0 H s x y d e z Q g0 hx hy hz q
  rcases fIs_cases hz hx hy with ⟨rfl, rfl⟩ | ⟨a, b, rfl, rfl, rfl⟩
  · exact .inl ⟨rfl, q _ H0 H (.refl _ _) g0 (.bl _)⟩
  · exact .inr ⟨a, b, rfl, rfl, q _ H0 H (.refl _ _) g0 (.bl _)⟩
theorem os_isNot : OpS K mg rIsNotA fIsNot := by
  intro h H0 H s x y d e z Q g0 hx hy hz q
  unfold fIsNot at hz
  split at hz
  · rename_i b hb
    cases hz
    rcases fIs_cases hb hx hy with ⟨rfl, eb⟩ | ⟨a, c, rfl, rfl, eb⟩
    · cases eb
      exact .inl ⟨rfl, q _ H0 H (.refl _ _) g0 (.bl _)⟩
    · cases eb
      exact .inr ⟨a, c, rfl, rfl, q _ H0 H (.refl _ _) g0 (.bl _)⟩
  · cases hz
theorem fInB_some {d e : Dt} {b : Bool} (h : fInB d e = some b) : ∃ es p qs, e = .lst es ∧ toPy d = some p ∧ toPy e = some (.list qs) ∧ SeqAt.shaped p = true ∧ SeqAt.shaped (.list qs) = true ∧ b = qs.any fun z => PyData.eqv z p := by
  unfold fInB at h
  split at h
  · rename_i es
    cases e1 : pyOk d with
    | none =>
      rw [e1] at h
      cases h
    | some p =>
      rw [e1] at h
      cases e2 : pyOk (.lst es) with
      | none =>
        rw [e2] at h
        cases h
      | some q =>
        rw [e2] at h
        obtain ⟨b1, b2⟩ := pyOk_some e1
        obtain ⟨c1, c2⟩ := pyOk_some e2
        cases q with
        | list qs =>
          cases h
          exact ⟨es, p, qs, rfl, b1, c1, b2, c2, rfl⟩
        | _ => cases h
  · cases h
theorem os_in : OpS K mg (rInD K) fIn := by
  intro h H0 H s x y d e z Q g0 hx hy hz q
  unfold fIn at hz
  cases hb : fInB d e with
  | none =>
    rw [hb] at hz
    cases hz
  | some b =>
    rw [hb] at hz
    cases hz
    obtain ⟨es, p, qs, rfl, a1, a2, a3, a4, rfl⟩ := fInB_some hb
    exact ⟨p, qs, (hx.mono g0.ex).dp a1, (hy.mono g0.ex).dp a2, a3, a4, q _ H0 H (.refl _ _) g0 (.bl _)⟩
theorem os_notIn : OpS K mg (rNotInD K) fNotIn := by
  intro h H0 H s x y d e z Q g0 hx hy hz q
  unfold fNotIn at hz
  cases hb : fInB d e with
  | none =>
    rw [hb] at hz
    cases hz
  | some b =>
    rw [hb] at hz
    cases hz
    obtain ⟨es, p, qs, rfl, a1, a2, a3, a4, rfl⟩ := fInB_some hb
    exact ⟨p, qs, (hx.mono g0.ex).dp a1, (hy.mono g0.ex).dp a2, a3, a4, q _ H0 H (.refl _ _) g0 (.bl _)⟩
end

/-! ### places, lengths, types -/
def fIx : Dt → Dt → Option Dt
  | .tup ds, .int i => atI ds i
  | .lst ds, .int i => atI ds i
  | .str x, .int i => if sizeOk x.length then (atI x.cps.toList i).map fun c => .str ⟨#[c]⟩ else none
  | _, _ => none
def fLen : List Dt → Option Dt
  | [.tup ds] => some (.int ds.length)
  | [.lst ds] => some (.int ds.length)
  | [.str x] => if sizeOk x.length then some (.int x.length) else none
  | _ => none
def fAbs : List Dt → Option Dt
  | [.int i] => some (.int (if i < 0 then -i else i))
  | _ => none
def fIntC : List Dt → Option Dt
  | [.int i] => some (.int i)
  | [.bl k] => some (.int (if k then 1 else 0))
  | _ => none
def fGcd : List Dt → Option Dt
  | [.int a, .int b] => some (.int ((Nat.gcd a.natAbs b.natAbs : Nat) : Int))
  | _ => none
def fListC : List Dt → Option Dt
  | [.tup ds] => some (.lst ds)
  | [.lst ds] => some (.lst ds)
  | _ => none
def fTupC : List Dt → Option Dt
  | [.tup ds] => some (.tup ds)
  | [.lst ds] => some (.tup ds)
  | _ => none
def tyN : Dt → Option String
  | .non => some "NoneType"
  | .bl _ => some "bool"
  | .int _ => some "int"
  | .str _ => some "str"
  | .tup _ => some "tuple"
  | .lst _ => some "list"
  | _ => none
def fIsi (T : String) (d : Dt) : Option Bool := (tyN d).bind fun n => kitB n T
section
variable {X : Cx} {K : Frag} {mg : Str → Option Value}
theorem DenA.atI' {h : Addr} {H : Hp} {vs : List V} {ds : List Dt} {i : Int} {z : Dt} (r : DenA K mg h H vs ds) (e : atI ds i = some z) : ∃ v, atI vs i = some v ∧ Den K mg h H v z := by
  have l := r.len
  unfold atI at e ⊢
  rw [l]
  cases hj : ixN ds.length i with
  | none =>
    rw [hj] at e
    cases e
  | some j =>
    rw [hj] at e
    exact r.get e
theorem os_ix : OpS K mg (rIx K) fIx := by
  intro h H0 H s x y d e z Q g0 hx hy hz q
  unfold fIx at hz
  split at hz
  · cases hy
    cases hx with
    | tup qa ra =>
      obtain ⟨v, a1, a2⟩ := ra.atI' hz
      exact .inr (.inl ⟨_, _, _, _, rfl, rfl, sqt_mono g0.ex qa, a1, q _ H0 H (.refl _ _) g0 a2⟩)
  · cases hy
    cases hx with
    | lst qa ra =>
      obtain ⟨v, a1, a2⟩ := ra.atI' hz
      exact .inl ⟨_, _, _, _, rfl, rfl, SqL.of (g0.ex _ _ qa), a1, q _ H0 H (.refl _ _) g0 a2⟩
  · split at hz
    · rename_i x i c
      cases hy
      cases hx
      cases ha : atI x.cps.toList i with
      | none =>
        rw [ha] at hz
        cases hz
      | some k =>
        rw [ha] at hz
        cases hz
        exact .inr (.inr ⟨_, _, _, rfl, rfl, c.le, ha, q _ H0 H (.refl _ _) g0 (.str _)⟩)
    · cases hz
  · cases hz
def rLenA (K : Frag) : List V → Hp → VK → Prop := fun xs H Q => (∃ p ys, xs = [.ref p] ∧ (SqL K H p ys ∨ SqT K H p ys) ∧ Q (.int ys.length) H) ∨ (∃ z : Str, xs = [.str z] ∧ z.length ≤ sizeLine ∧ Q (.int z.length) H)
theorem cs_len : CaS K mg (rLenA K) fLen := by
  intro h H0 H s xs ds z Q g0 hx hz q
  unfold fLen at hz
  split at hz
  · cases hz
    cases hx with
    | cons a r =>
      cases r
      cases a with
      | tup qa ra => exact .inl ⟨_, _, rfl, .inr (sqt_mono g0.ex qa), by rw [ra.len]; exact q _ H0 H (.refl _ _) g0 (.int _)⟩
  · cases hz
    cases hx with
    | cons a r =>
      cases r
      cases a with
      | lst qa ra => exact .inl ⟨_, _, rfl, .inl (SqL.of (g0.ex _ _ qa)), by rw [ra.len]; exact q _ H0 H (.refl _ _) g0 (.int _)⟩
  · split at hz
    · rename_i c
      cases hz
      cases hx with
      | cons a r =>
        cases r
        cases a
        exact .inr ⟨_, rfl, c.le, q _ H0 H (.refl _ _) g0 (.int _)⟩
    · cases hz
  · cases hz
theorem call_lenA : CallR X (.builtin "len") (rLenA X.K) := call_len_seq.or call_len_str
theorem cs_abs : CaS K mg (fun xs H Q => ∃ i, xs = [.int i] ∧ Q (.int (if i < 0 then -i else i)) H) fAbs := by
  intro h H0 H s xs ds z Q g0 hx hz q
  unfold fAbs at hz
  split at hz
  · cases hz
    cases hx with
    | cons a r =>
      cases r
      cases a
      exact ⟨_, rfl, q _ H0 H (.refl _ _) g0 (.int _)⟩
  · cases hz
theorem cs_int : CaS K mg (fun xs H Q => (∃ i, xs = [.int i] ∧ Q (.int i) H) ∨ ∃ k, xs = [.bl k] ∧ Q (.int (if k then 1 else 0)) H) fIntC := by
  intro h H0 H s xs ds z Q g0 hx hz q
  unfold fIntC at hz
  split at hz
  · cases hz
    cases hx with
    | cons a r =>
      cases r
      cases a
      exact .inl ⟨_, rfl, q _ H0 H (.refl _ _) g0 (.int _)⟩
  · cases hz
    cases hx with
    | cons a r =>
      cases r
      cases a
      exact .inr ⟨_, rfl, q _ H0 H (.refl _ _) g0 (.int _)⟩
  · cases hz
theorem cs_gcd : CaS K mg rGcd fGcd := by
  intro h H0 H s xs ds z Q g0 hx hz q
  unfold fGcd at hz
  split at hz
  · cases hz
    cases hx with
    | cons a r =>
      cases r with
      | cons b r =>
        cases r
        cases a
        cases b
        exact ⟨_, _, rfl, q _ H0 H (.refl _ _) g0 (.int _)⟩
  · cases hz
theorem cs_list : CaS K mg (fun xs H Q => ∃ p ys, xs = [.ref p] ∧ (SqL K H p ys ∨ SqT K H p ys) ∧ ∀ l, H l = none → Q (.ref l) (upd H l (.lst ys))) fListC := by
  intro h H0 H s xs ds z Q g0 hx hz q
  unfold fListC at hz
  split at hz
  · cases hz
    cases hx with
    | cons a r =>
      cases r
      cases a with
      | tup qa ra =>
        refine ⟨_, _, rfl, .inr (sqt_mono g0.ex qa), fun p hp => ?_⟩
        obtain ⟨g1, st⟩ := g0.alloc (o := .lst _) hp
        exact q _ _ _ st g1 (.lst upd_same (ra.mono st.s0))
  · cases hz
    cases hx with
    | cons a r =>
      cases r
      cases a with
      | lst qa ra =>
        refine ⟨_, _, rfl, .inl (SqL.of (g0.ex _ _ qa)), fun p hp => ?_⟩
        obtain ⟨g1, st⟩ := g0.alloc (o := .lst _) hp
        exact q _ _ _ st g1 (.lst upd_same (ra.mono st.s0))
  · cases hz
theorem cs_tuple : CaS K mg (fun xs H Q => ∃ p ys, xs = [.ref p] ∧ ((SqL K H p ys ∧ ∀ l, H l = none → Q (.ref l) (upd H l (.tup ys))) ∨ (SqT K H p ys ∧ Q (.ref p) H))) fTupC := by
  intro h H0 H s xs ds z Q g0 hx hz q
  unfold fTupC at hz
  split at hz
  · cases hz
    cases hx with
    | cons a r =>
      cases r
      cases a with
      | tup qa ra => exact ⟨_, _, rfl, .inr ⟨sqt_mono g0.ex qa, q _ H0 H (.refl _ _) g0 (.tup qa ra)⟩⟩
  · cases hz
    cases hx with
    | cons a r =>
      cases r
      cases a with
      | lst qa ra =>
        refine ⟨_, _, rfl, .inl ⟨SqL.of (g0.ex _ _ qa), fun p hp => ?_⟩⟩
        obtain ⟨g1, st⟩ := g0.alloc (o := .tup _) hp
        exact q _ _ _ st g1 (.tup (SqT.of upd_same) (ra.mono st.s0))
  · cases hz
theorem TyX.of {h : Addr} {H : Hp} {x : V} {d : Dt} {n : String} (q : Den K mg h H x d) (e : tyN d = some n) : TyX K H x (.type n) := by
  cases q with
  | non =>
    cases e
    exact .base .non
  | bl b =>
    cases e
    exact .base (.bl b)
  | int i =>
    cases e
    exact .base (.int i)
  | str x =>
    cases e
    exact .base (.str x)
  | tup q r =>
    cases e
    rcases q with (q | ⟨o, q⟩) | ⟨o, its, n, q1, q2, _⟩
    · exact .base (.tup q)
    · exact .fTuple q
    · exact .kTuple q1 q2
  | lst q r =>
    cases e
    exact .base (.lst q)
  | obj _ _ _ => cases e
  | hnd => cases e
end
end Mir


set_option Elab.async false
set_option linter.all false
set_option maxRecDepth 100000
namespace Mir
open PySem PySem.Spec PyProof.Rows L2
open PySem.W (Frag)

/-! ### expressions -/
section
variable {K : Frag} {mg : Str → Option Value} {Wx : WX} {ta tb : TE} {a b : ME} {tt tu : TT} {mt mu : MT} {t : TA} {as : MA}
theorem se_var {i : Nat} : SE K mg Wx (tVar i) (mVar i) := by
  intro h H0 H s σ ρ Q g S p
  unfold mVar at p
  split at p
  · rename_i d e
    obtain ⟨v, e1, q⟩ := S.dat e
    exact ⟨v, e1, p v H0 H (.refl _ _) g q⟩
  · exact p.elim
theorem se_c {v : V} {d : Dt} (hd : ∀ (h : Addr) (H : Hp), Den K mg h H v d) : SE K mg Wx (tC v) (mC d) := fun h H0 H s σ ρ Q g S p => p v H0 H (.refl _ _) g (hd h H0)
theorem post_lift {α : Type} {h : Ent} {H0 H : Hp} {rel : Hp → α → Dt → Prop} {o : Option Dt} {s : Hd} {Q : α → Hp → Prop} (p : Post K mg h rel (liftO o s) H0 H Wx Q) : ∃ z, o = some z ∧ Post K mg h rel (.ok z s) H0 H Wx Q := by
  cases o with
  | none => exact p.elim
  | some z => exact ⟨z, rfl, p⟩
theorem se_op {r : R2} {f : Dt → Dt → Option Dt} (hr : OpS K mg r f) (ha : SE K mg Wx ta a) (hb : SE K mg Wx tb b) : SE K mg Wx (tOp r ta tb) (mOp f a b) := by
  intro h H0 H s σ ρ Q g S p
  refine ha h H0 H s σ ρ _ g S (Post.bind p fun d s1 x A B st g1 dx p1 => hb h A B s1 σ ρ _ g1 (S.step st) (Post.bind p1 fun e s2 y A2 B2 st2 g2 dy p2 => ?_))
  obtain ⟨z, hz, p3⟩ := post_lift p2
  exact hr h A2 B2 s2 x y d e z Q g2 (dx.mono st2.s0) dy hz fun u A3 B3 st3 g3 du => p3 u A3 B3 st3 g3 du
theorem se_un {r : V → Hp → VK → Prop} {f : Dt → Option Dt} (hr : UnS K mg r f) (ha : SE K mg Wx ta a) : SE K mg Wx (tUn r ta) (mUn f a) := by
  intro h H0 H s σ ρ Q g S p
  refine ha h H0 H s σ ρ _ g S (Post.bind p fun d s1 x A B st g1 dx p1 => ?_)
  obtain ⟨z, hz, p3⟩ := post_lift p1
  exact hr h A B s1 x d z Q g1 dx hz fun u A3 B3 st3 g3 du => p3 u A3 B3 st3 g3 du
theorem st_test (ha : SE K mg Wx ta a) : ST K mg Wx (tTest ta) (mTest a) := by
  intro h H0 H s σ ρ Q g S p
  refine ha h H0 H s σ ρ _ g S (Post.bind p fun d s1 x A B st g1 dx p1 => ?_)
  cases dx with
  | bl k => exact ⟨k, rfl, p1 k A B (.refl _ _) g1 rfl⟩
  | _ => exact p1.elim
theorem truV {h : Addr} {H0 H : Hp} {x : V} {d : Dt} {k : Bool} (e : Same H0 H) (q : Den K mg h H0 x d) (hk : fTru d = some k) : TruV K x H k := by
  cases q with
  | non =>
    cases hk
    rfl
  | bl b =>
    cases hk
    rfl
  | int i =>
    cases hk
    rfl
  | str y =>
    have hk : (if y.length ≤ 100000 then some ((y.length : Int) != 0) else none) = some k := hk
    by_cases c : y.length ≤ 100000
    · rw [if_pos c] at hk
      cases hk
      exact ⟨sizeOk.le c, rfl⟩
    · rw [if_neg c] at hk
      cases hk
  | tup q r =>
    cases hk
    refine .inr (.inl ⟨_, sqt_mono e q, ?_⟩)
    cases r <;> rfl
  | lst q r =>
    cases hk
    refine .inl ⟨_, SqL.of (e _ _ q), ?_⟩
    cases r <;> rfl
  | obj _ _ _ => cases hk
  | hnd => cases hk
theorem post_liftB {h : Ent} {H0 H : Hp} {o : Option Bool} {s : Hd} {Q : Bool → Hp → Prop} (p : Post K mg h EqB (liftO o s) H0 H Wx Q) : ∃ z, o = some z ∧ Post K mg h EqB (.ok z s) H0 H Wx Q := by
  cases o with
  | none => exact p.elim
  | some z => exact ⟨z, rfl, p⟩
theorem st_tru (ha : SE K mg Wx ta a) : ST K mg Wx (fun σ H Q => ta σ H fun x H' => ∃ k, TruV K x H' k ∧ Q k H') (mTru a) := by
  intro h H0 H s σ ρ Q g S p
  refine ha h H0 H s σ ρ _ g S (Post.bind p fun d s1 x A B st g1 dx p1 => ?_)
  obtain ⟨k, hk, p2⟩ := post_liftB p1
  exact ⟨k, truV g1.ex dx hk, p2 k A B (.refl _ _) g1 rfl⟩
theorem st_and (ha : ST K mg Wx tt mt) (hb : ST K mg Wx tu mu) : ST K mg Wx (tAnd tt tu) (mAnd mt mu) := by
  intro h H0 H s σ ρ Q g S p
  refine ha h H0 H s σ ρ _ g S (Post.bind p fun d s1 x A B st g1 dx p1 => ?_)
  cases (show x = d from dx)
  cases d with
  | true => exact hb h A B s1 σ ρ Q g1 (S.step st) p1
  | false => exact p1 false A B (.refl _ _) g1 rfl
theorem st_or (ha : ST K mg Wx tt mt) (hb : ST K mg Wx tu mu) : ST K mg Wx (tOr tt tu) (mOr mt mu) := by
  intro h H0 H s σ ρ Q g S p
  refine ha h H0 H s σ ρ _ g S (Post.bind p fun d s1 x A B st g1 dx p1 => ?_)
  cases (show x = d from dx)
  cases d with
  | false => exact hb h A B s1 σ ρ Q g1 (S.step st) p1
  | true => exact p1 true A B (.refl _ _) g1 rfl
theorem st_not (ha : ST K mg Wx tt mt) : ST K mg Wx (tNot tt) (mNot mt) := by
  intro h H0 H s σ ρ Q g S p
  refine ha h H0 H s σ ρ _ g S (Post.bind p fun d s1 x A B st g1 dx p1 => ?_)
  cases (show x = d from dx)
  exact p1 _ A B (.refl _ _) g1 rfl
theorem se_if (ht : ST K mg Wx tt mt) (ha : SE K mg Wx ta a) (hb : SE K mg Wx tb b) : SE K mg Wx (tIf tt ta tb) (mIf mt a b) := by
  intro h H0 H s σ ρ Q g S p
  refine ht h H0 H s σ ρ _ g S (Post.bind p fun d s1 x A B st g1 dx p1 => ?_)
  cases (show x = d from dx)
  cases d with
  | true => exact ha h A B s1 σ ρ Q g1 (S.step st) p1
  | false => exact hb h A B s1 σ ρ Q g1 (S.step st) p1
theorem se_andV (ha : SE K mg Wx ta a) (hb : SE K mg Wx tb b) : SE K mg Wx (tAndT K ta tb) (mAndV a b) := by
  intro h H0 H s σ ρ Q g S p
  refine ha h H0 H s σ ρ _ g S (Post.bind p fun d s1 x A B st g1 dx p1 => ?_)
  cases hk : fTru d with
  | none =>
    rw [hk] at p1
    exact p1.elim
  | some k =>
    rw [hk] at p1
    refine ⟨k, truV g1.ex dx hk, ?_⟩
    cases k with
    | true => exact hb h A B s1 σ ρ Q g1 (S.step st) p1
    | false => exact p1 x A B (.refl _ _) g1 dx
theorem se_orV (ha : SE K mg Wx ta a) (hb : SE K mg Wx tb b) : SE K mg Wx (tOrT K ta tb) (mOrV a b) := by
  intro h H0 H s σ ρ Q g S p
  refine ha h H0 H s σ ρ _ g S (Post.bind p fun d s1 x A B st g1 dx p1 => ?_)
  cases hk : fTru d with
  | none =>
    rw [hk] at p1
    exact p1.elim
  | some k =>
    rw [hk] at p1
    refine ⟨k, truV g1.ex dx hk, ?_⟩
    cases k with
    | false => exact hb h A B s1 σ ρ Q g1 (S.step st) p1
    | true => exact p1 x A B (.refl _ _) g1 dx
theorem se_notV (ha : SE K mg Wx ta a) : SE K mg Wx (tNotT K ta) (mNotV a) := by
  intro h H0 H s σ ρ Q g S p
  refine ha h H0 H s σ ρ _ g S (Post.bind p fun d s1 x A B st g1 dx p1 => ?_)
  cases hk : fTru d with
  | none =>
    rw [hk] at p1
    exact p1.elim
  | some k =>
    rw [hk] at p1
    exact ⟨k, truV g1.ex dx hk, p1 _ A B (.refl _ _) g1 (.bl _)⟩
theorem sa_nil : SA K mg Wx tNil mNil := fun h H0 H s σ ρ Q g S p => p [] H0 H (.refl _ _) g .nil
theorem sa_cons (ha : SE K mg Wx ta a) (hr : SA K mg Wx t as) : SA K mg Wx (tCons ta t) (mCons a as) := by
  intro h H0 H s σ ρ Q g S p
  refine ha h H0 H s σ ρ _ g S (Post.bind p fun d s1 x A B st g1 dx p1 => hr h A B s1 σ ρ _ g1 (S.step st) (Post.bind p1 fun ds s2 xs A2 B2 st2 g2 dxs p2 => ?_))
  exact p2 (x :: xs) A2 B2 (.refl _ _) g2 (.cons (dx.mono st2.s0) dxs)
theorem se_tup (ha : SA K mg Wx t as) : SE K mg Wx (tTup t) (mTup as) := by
  intro h H0 H s σ ρ Q g S p
  refine ha h H0 H s σ ρ _ g S (Post.bind p fun ds s1 xs A B st g1 dx p1 => ?_)
  by_cases c : ds.length ≤ 100000
  · rw [if_pos c] at p1
    refine ⟨by rw [dx.len]; exact sizeOk.le c, fun q hq => ?_⟩
    obtain ⟨g2, st2⟩ := g1.alloc (o := .tup xs) hq
    exact p1 _ _ _ st2 g2 (.tup (SqT.of upd_same) (dx.mono st2.s0))
  · rw [if_neg c] at p1
    exact p1.elim
theorem se_lst (ha : SA K mg Wx t as) : SE K mg Wx (tLst t) (mLst as) := by
  intro h H0 H s σ ρ Q g S p
  refine ha h H0 H s σ ρ _ g S (Post.bind p fun ds s1 xs A B st g1 dx p1 => ?_)
  by_cases c : ds.length ≤ 100000
  · rw [if_pos c] at p1
    refine ⟨by rw [dx.len]; exact sizeOk.le c, fun q hq => ?_⟩
    obtain ⟨g2, st2⟩ := g1.alloc (o := .lst xs) hq
    exact p1 _ _ _ st2 g2 (.lst upd_same (dx.mono st2.s0))
  · rw [if_neg c] at p1
    exact p1.elim
theorem se_cb {r : List V → Hp → VK → Prop} {f : List Dt → Option Dt} (hr : CaS K mg r f) (ha : SA K mg Wx t as) : SE K mg Wx (tCB r t) (mCB f as) := by
  intro h H0 H s σ ρ Q g S p
  refine ha h H0 H s σ ρ _ g S (Post.bind p fun ds s1 xs A B st g1 dx p1 => ?_)
  obtain ⟨z, hz, p3⟩ := post_lift p1
  exact hr h A B s1 xs ds z Q g1 dx hz fun u A3 B3 st3 g3 du => p3 u A3 B3 st3 g3 du
end

/-! ### calls of defs -/
section
variable (K : Frag) (mg : Str → Option Value)
def PostC (h : Addr) (r : R Dt) (H0 H : Hp) (E : XK) (Q : VK) : Prop := match r with
  | .ok d s => ∀ v H0' H', Step h H0 H H0' H' → G h H0' H' s → Den K mg h H0' v d → Q v H'
  | .err c fs _ s => ∀ (C : Addr) (od : Option Addr) (H0' H' : Hp), Step h H0 H H0' H' → G h H0' H' s → mg c = some (.ref C) → XdOk K mg h H0' H' od fs → E (.ref C) od H'
  | .bad => False
/-- the promise: what m says -/
def spM (n : Nat) (m : List Dt → Hd → R Dt) : Sp := fun vs H Q E => vs.length = n ∧ ∃ (h : Addr) (H0 : Hp) (s : Hd) (ds : List Dt), G h H0 H s ∧ DenA K mg h H0 vs ds ∧ PostC K mg h (m ds s) H0 H E Q
end
section
variable {K : Frag} {mg : Str → Option Value} {Wx : WX} {t : TA} {as : MA}
theorem se_call {n : Nat} {dvs : List V} {dd : List Dt} {m : List Dt → Hd → R Dt} (hd : ∀ (h : Addr) (H : Hp), DenA K mg h H dvs dd) (ha : SA K mg Wx t as) : SE K mg Wx (tCallSD (spM K mg n m) dvs (WE Wx) t) (mCall n dd m as) := by
  intro h H0 H s σ ρ Q g S p
  refine ha h H0 H s σ ρ _ g S (Post.bind p fun ds s1 xs A B st g1 dx p1 => ?_)
  by_cases c : (ds ++ dd).length = n
  · rw [if_pos c] at p1
    have dx2 := dx.append (hd h A)
    refine ⟨by rw [dx2.len]; exact c, h, A, s1, ds ++ dd, g1, dx2, ?_⟩
    cases hm : m (ds ++ dd) s1 with
    | ok d s2 =>
      rw [hm] at p1
      exact p1
    | err cc fs ρ' s2 =>
      rw [hm] at p1
      exact fun C e A2 B2 st2 g2 mc x => p1 σ C e A2 B2 st2.s0 g2 (S.step (st.trans st2)) mc x
    | bad =>
      rw [hm] at p1
      exact p1.elim
  · rw [if_neg c] at p1
    exact p1.elim
end

section
variable {X : Cx} {Wx : WX} {a b c e : Expr} {ma mb mc : ME} {mt mu : MT} {as : MA} {rest es : List Expr} {pos p : Pos}
theorem qe_var (i : Nat) {x : Str} (hN : X.N[i]? = some x := by rfl) (hv : Vis X.env.scope x := by first | exact Or.inl rfl | exact Or.inr (Or.inl rfl) | exact Or.inr (Or.inr rfl)) (hd : (x == ("__debug__" : Str)) = false := by decide)
    (hcd : (x == ("__classdict__" : Str)) = false := by decide) : QE X Wx (.Name x pos) (mVar i) := ⟨_, pe_var hN hv hd hcd, se_var⟩
theorem qe_int {i j} : QE X Wx (.Constant (.int i) j pos) (mC (.int i)) := ⟨_, pe_int, se_c fun _ _ => .int i⟩
theorem qe_bl {i j} : QE X Wx (.Constant (.bool i) j pos) (mC (.bl i)) := ⟨_, pe_bl, se_c fun _ _ => .bl i⟩
theorem qe_non {j} : QE X Wx (.Constant .none j pos) (mC .non) := ⟨_, pe_non, se_c fun _ _ => .non⟩
theorem qe_str {x j} : QE X Wx (.Constant (.str x) j pos) (mC (.str x)) := ⟨_, pe_str, se_c fun _ _ => .str x⟩
/-- a module's constant -/
theorem qe_glob {x : Str} {v : V} {u : Value} {d : Dt} (hg : Gl X x) (hm : X.mg x = some u) (r : RelV v u) (hd : ∀ (h : Addr) (H : Hp), Den X.K X.mg h H v d) (hdb : (x == ("__debug__" : Str)) = false := by decide) : QE X Wx (.Name x pos) (mC d) :=
  ⟨_, pe_glob hg hm r hdb, se_c hd⟩
theorem qe_op {op : Operator} {r : R2} {f : Dt → Dt → Option Dt} (ho : OpR X (binaryOp op) r) (hs : OpS X.K X.mg r f) (ha : QE X Wx a ma) (hb : QE X Wx b mb) : QE X Wx (.BinOp a op b pos) (mOp f ma mb) := by
  obtain ⟨ta, pa, sa⟩ := ha
  obtain ⟨tb, pb, sb⟩ := hb
  exact ⟨_, pe_op ho pa pb, se_op hs sa sb⟩
theorem qe_un {op : UnaryOp} {r : V → Hp → VK → Prop} {f : Dt → Option Dt} (ho : UnR X (unaryOp op) r) (hs : UnS X.K X.mg r f) (ha : QE X Wx a ma) : QE X Wx (.UnaryOp op a pos) (mUn f ma) := by
  obtain ⟨ta, pa, sa⟩ := ha
  exact ⟨_, pe_un ho pa, se_un hs sa⟩
theorem qe_cmp {op : CmpOp} {r : R2} {f : Dt → Dt → Option Dt} (ho : OpR X (compareOp op) r) (hs : OpS X.K X.mg r f) (ha : QE X Wx a ma) (hb : QE X Wx b mb) (hm : behindInMarks op b = false) : QE X Wx (.Compare a [op] [b] pos) (mOp f ma mb) := by
  obtain ⟨ta, pa, sa⟩ := ha
  obtain ⟨tb, pb, sb⟩ := hb
  exact ⟨_, pe_cmpR ho pa pb hm, se_op hs sa sb⟩
theorem qt_cmp {op : CmpOp} {r : R2} {f : Dt → Dt → Option Dt} (ho : OpR X (compareOp op) r) (hs : OpS X.K X.mg r f) (ha : QE X Wx a ma) (hb : QE X Wx b mb) (hm : behindInMarks op b = false) : QT X Wx (.Compare a [op] [b] pos) (mTest (mOp f ma mb)) := by
  obtain ⟨ta, pa, sa⟩ := ha
  obtain ⟨tb, pb, sb⟩ := hb
  exact ⟨_, pt_cmpR ho pa pb hm, st_test (se_op hs sa sb)⟩
theorem qt_tru (ha : QE X Wx a ma) (he : ∀ whole, isTrue a X.env whole = (do let v ← whole; standAt a.pos; holding [v] (truthy v)) := by intro _; rfl) : QT X Wx a (mTru ma) := by
  obtain ⟨ta, pa, sa⟩ := ha
  exact ⟨_, pt_truth pa he, st_tru sa⟩
theorem qt_w (h : QW X Wx a mt) : QT X Wx a mt := by
  obtain ⟨t, pw, s⟩ := h
  exact ⟨t, pw.pt, s⟩
theorem qw_and1 (h : QT X Wx a mt) : QW X Wx (.BoolOp .And [a] pos) mt := by
  obtain ⟨t, pw, s⟩ := h
  exact ⟨t, pw_and1 pw, s⟩
theorem qw_or1 (h : QT X Wx a mt) : QW X Wx (.BoolOp .Or [a] pos) mt := by
  obtain ⟨t, pw, s⟩ := h
  exact ⟨t, pw_or1 pw, s⟩
theorem qw_and (h : QT X Wx a mt) (h2 : QW X Wx (.BoolOp .And (b :: rest) pos) mu) : QW X Wx (.BoolOp .And (a :: b :: rest) pos) (mAnd mt mu) := by
  obtain ⟨t, pw, s⟩ := h
  obtain ⟨t2, pw2, s2⟩ := h2
  exact ⟨_, pw_and pw pw2, st_and s s2⟩
theorem qw_or (h : QT X Wx a mt) (h2 : QW X Wx (.BoolOp .Or (b :: rest) pos) mu) : QW X Wx (.BoolOp .Or (a :: b :: rest) pos) (mOr mt mu) := by
  obtain ⟨t, pw, s⟩ := h
  obtain ⟨t2, pw2, s2⟩ := h2
  exact ⟨_, pw_or pw pw2, st_or s s2⟩
theorem qt_not (h : QT X Wx a mt) : QT X Wx (.UnaryOp .Not a pos) (mNot mt) := by
  obtain ⟨t, pw, s⟩ := h
  exact ⟨_, pt_not pw, st_not s⟩
theorem qe_one {op} (h : QE X Wx a ma) : QE X Wx (.BoolOp op [a] pos) ma := by
  obtain ⟨t, pw, s⟩ := h
  exact ⟨_, pe_one pw, s⟩
theorem qe_and (h : QE X Wx a ma) (h2 : QE X Wx (.BoolOp .And (b :: rest) pos) mb) : QE X Wx (.BoolOp .And (a :: b :: rest) pos) (mAndV ma mb) := by
  obtain ⟨t, pw, s⟩ := h
  obtain ⟨t2, pw2, s2⟩ := h2
  exact ⟨_, pe_andT pw pw2, se_andV s s2⟩
theorem qe_or (h : QE X Wx a ma) (h2 : QE X Wx (.BoolOp .Or (b :: rest) pos) mb) : QE X Wx (.BoolOp .Or (a :: b :: rest) pos) (mOrV ma mb) := by
  obtain ⟨t, pw, s⟩ := h
  obtain ⟨t2, pw2, s2⟩ := h2
  exact ⟨_, pe_orT pw pw2, se_orV s s2⟩
theorem qe_not (h : QE X Wx a ma) : QE X Wx (.UnaryOp .Not a pos) (mNotV ma) := by
  obtain ⟨t, pw, s⟩ := h
  exact ⟨_, pe_notT pw, se_notV s⟩
theorem qe_if (h : QT X Wx c mt) (ha : QE X Wx a ma) (hb : QE X Wx b mb) : QE X Wx (.IfExp c a b pos) (mIf mt ma mb) := by
  obtain ⟨t, pw, s⟩ := h
  obtain ⟨ta, pa, sa⟩ := ha
  obtain ⟨tb, pb, sb⟩ := hb
  exact ⟨_, pe_ifExp pw pa pb, se_if s sa sb⟩
theorem qa_nil : QA X Wx [] mNil := ⟨_, pa_nil, sa_nil⟩
theorem qa_cons (ha : QE X Wx e ma) (hr : QA X Wx es as) (hs : starEach (e :: es) X.env = (false, eval e X.env) :: starEach es X.env := by rfl) : QA X Wx (e :: es) (mCons ma as) := by
  obtain ⟨ta, pa, sa⟩ := ha
  obtain ⟨tr, pr, sr⟩ := hr
  exact ⟨_, pa_cons pa pr hs, sa_cons sa sr⟩
theorem qe_tup {x1} (h : QA X Wx es as) : QE X Wx (.Tuple es x1 pos) (mTup as) := by
  obtain ⟨t, q, s⟩ := h
  exact ⟨_, pe_tup q, se_tup s⟩
theorem qe_lst (h : QA X Wx es as) : QE X Wx (.List es pos) (mLst as) := by
  obtain ⟨t, q, s⟩ := h
  exact ⟨_, pe_lst q, se_lst s⟩
theorem qe_ix (ha : QE X Wx a ma) (hb : QE X Wx b mb) (hs : PlainIx b := by exact fun _ _ => rfl) : QE X Wx (.Subscript a b pos) (mOp fIx ma mb) := by
  obtain ⟨ta, pa, sa⟩ := ha
  obtain ⟨tb, pb, sb⟩ := hb
  exact ⟨_, pe_ix ix_seq pa pb hs, se_op os_ix sa sb⟩
variable {x : Str} {id T : String} {r : List V → Hp → VK → Prop} {f : List Dt → Option Dt}
theorem qe_callB (hc : CallR X (.builtin id) r) (hs : CaS X.K X.mg r f) (hg : Gl X x) (hm : X.mg x = none) (hv : bootBuiltins x = some (.builtin id)) (ha : QA X Wx (e :: es) as) (hn : x ≠ "__name__" := by decide) (hdb : (x == ("__debug__" : Str)) = false := by decide)
    (he : starEach (e :: es) X.env = (false, eval e X.env) :: starEach es X.env := by rfl) (hpl : (backTo pos (starEach es X.env)).any (·.1) = false := by rfl) : QE X Wx (.Call (.Name x p) (e :: es) [] pos) (mCB f as) := by
  obtain ⟨t, q, s⟩ := ha
  exact ⟨_, pe_callB hc hg hm hv q hn hdb he hpl, se_cb hs s⟩
theorem qe_callTy (hc : CallR X (.type T) r) (hs : CaS X.K X.mg r f) (hg : Gl X x) (hm : X.mg x = none) (hv : bootBuiltins x = some (.type T)) (ha : QA X Wx (e :: es) as) (hn : x ≠ "__name__" := by decide) (hdb : (x == ("__debug__" : Str)) = false := by decide)
    (he : starEach (e :: es) X.env = (false, eval e X.env) :: starEach es X.env := by rfl) (hpl : (backTo pos (starEach es X.env)).any (·.1) = false := by rfl) : QE X Wx (.Call (.Name x p) (e :: es) [] pos) (mCB f as) := by
  obtain ⟨t, q, s⟩ := ha
  exact ⟨_, pe_callTy hc hg hm hv q hn hdb he hpl, se_cb hs s⟩
theorem qe_callBfun (hc : CallR X (.builtin id) r) (hs : CaS X.K X.mg r f) (hg : Gl X x) (hm : X.mg x = some (.builtin id)) (ha : QA X Wx (e :: es) as) (hdb : (x == ("__debug__" : Str)) = false := by decide)
    (he : starEach (e :: es) X.env = (false, eval e X.env) :: starEach es X.env := by rfl) (hpl : (backTo pos (starEach es X.env)).any (·.1) = false := by rfl) : QE X Wx (.Call (.Name x p) (e :: es) [] pos) (mCB f as) := by
  obtain ⟨t, q, s⟩ := ha
  exact ⟨_, pe_callBfun hc hg hm q hdb he hpl, se_cb hs s⟩
/-- f(e, ..) -/
theorem qe_call {k n : Nat} {fa : Addr} {fd : FuncData} {ps : List Str} {m : List Dt → Hd → R Dt} {dvs : List V} {dd : List Dt} {dsV : List Value} (F : FnOk X.prog X.w X.K X.mg X.base (L2.CX X.prog X.w) k fa fd ps (spM X.K X.mg n m)) (hr : Room k X.A) (hg : Gl X x)
    (hm : X.mg x = some (.ref fa)) (hk : PySem.W.keepIn X.K (.ref fa) = true) (hb : Binds X.K fd ps dsV) (hd : Vals dvs dsV) (hdd : ∀ (h : Addr) (H : Hp), DenA X.K X.mg h H dvs dd) (tk : Takes X Wx) (ha : QA X Wx (e :: es) as)
    (hdb : (x == ("__debug__" : Str)) = false := by decide) (he : starEach (e :: es) X.env = (false, eval e X.env) :: starEach es X.env := by rfl) (hpl : (backTo pos (starEach es X.env)).any (·.1) = false := by rfl) :
    QE X Wx (.Call (.Name x p) (e :: es) [] pos) (mCall n dd m as) := by
  obtain ⟨t, q, s⟩ := ha
  exact ⟨_, pe_callSD F hr hg hm hk hb hd (fun σ => passAt tk σ) q hdb he hpl, se_call hdd s⟩
end
/-! ### isinstance -/
def mIsi (T : String) (a : ME) : ME := fun ρ s => (a ρ s).bind fun d s1 => liftO ((fIsi T d).map Dt.bl) s1
section
variable {X : Cx} {Wx : WX} {a : Expr} {ma : ME} {pos p p2 : Pos} {T : String} {x : Str}
theorem qe_isi (ha : QE X Wx a ma) (hg : Gl X "isinstance") (hm : X.mg "isinstance" = none) (hgT : Gl X x) (hmT : X.mg x = none) (hvT : bootBuiltins x = some (.type T)) (hn : x ≠ "__name__" := by decide) (hdb : (x == ("__debug__" : Str)) = false := by decide)
    (he : starEach [a, .Name x p2] X.env = (false, eval a X.env) :: starEach [.Name x p2] X.env := by rfl) (he2 : starEach [.Name x p2] X.env = (false, eval (.Name x p2) X.env) :: starEach [] X.env := by rfl)
    (hpl : (backTo pos (starEach [.Name x p2] X.env)).any (·.1) = false := by rfl) : QE X Wx (.Call (.Name "isinstance" p) [a, .Name x p2] [] pos) (mIsi T ma) := by
  obtain ⟨ta, pa, sa⟩ := ha
  refine ⟨_, pe_callB call_isi hg hm (by decide +kernel) (pa_cons pa (pa_cons (pe_bltn (v := .ty T) hgT hmT hvT rfl hn hdb) pa_nil he2) he) (by decide) (by decide) he hpl, ?_⟩
  intro h H0 H s σ ρ Q g S pp
  refine sa h H0 H s σ ρ _ g S (Post.bind pp fun d s1 x A B st g1 dx p1 => ?_)
  obtain ⟨z, hz, p3⟩ := post_lift p1
  unfold fIsi at hz
  cases ht : tyN d with
  | none =>
    rw [ht] at hz
    cases hz
  | some n =>
    rw [ht] at hz
    have hz : (kitB n T).map Dt.bl = some z := hz
    cases hb : kitB n T with
    | none =>
      rw [hb] at hz
      cases hz
    | some b =>
      rw [hb] at hz
      cases hz
      exact ⟨x, .ty T, .type n, .type T, b, rfl, .ty T, TyX.of (dx.mono g1.ex) ht, kit_ty hb, p3 _ A B (.refl _ _) g1 (.bl b)⟩
end
end Mir


set_option Elab.async false
set_option linter.all false
set_option maxRecDepth 100000
namespace Mir
open PySem PySem.Spec PyProof.Rows L2
open PySem.W (Frag)

/-! ### statements -/
def mNext : MS := fun ρ s => .ok (.nx ρ) s
def mSeq (a b : MS) : MS := fun ρ s => match a ρ s with
  | .ok (.nx ρ') s' => b ρ' s'
  | .ok (.rt d) s' => .ok (.rt d) s'
  | .ok (.bk ρ') s' => .ok (.bk ρ') s'
  | .ok (.ct ρ') s' => .ok (.ct ρ') s'
  | .err c fs ρ' s' => .err c fs ρ' s'
  | .bad => .bad
def mSet (i : Nat) (a : ME) : MS := fun ρ s => (a ρ s).bind fun d s1 => .ok (.nx (ρ.set i (.dat d))) s1
def mRet (a : ME) : MS := fun ρ s => (a ρ s).bind fun d s1 => .ok (.rt d) s1
def mRetN : MS := fun _ s => .ok (.rt .non) s
def mDrop (a : ME) : MS := fun ρ s => (a ρ s).bind fun _ s1 => .ok (.nx ρ) s1
def mIfS (t : MT) (a b : MS) : MS := fun ρ s => (t ρ s).bind fun c s1 => if c = true then a ρ s1 else b ρ s1
def mBreak : MS := fun ρ s => .ok (.bk ρ) s
def mCont : MS := fun ρ s => .ok (.ct ρ) s
/-- a, b = x, y -/
def mPar (i j : Nat) (as : MA) : MS := fun ρ s => (as ρ s).bind fun ds s1 => match ds with
  | [d, e] => .ok (.nx ((ρ.set i (.dat d)).set j (.dat e))) s1
  | _ => .bad
/-- targets -/
abbrev GM := Dt → Env' → Option Env'
abbrev GMs := List Dt → Env' → Option Env'
def gmName (j : Nat) : GM := fun d ρ => some (ρ.set j (.dat d))
def gmNil : GMs := fun ds ρ => match ds with
  | [] => some ρ
  | _ => none
def gmCons (g : GM) (gs : GMs) : GMs := fun ds ρ => match ds with
  | d :: r => (g d ρ).bind fun ρ1 => gs r ρ1
  | _ => none
def gmSeq (n : Nat) (gs : GMs) : GM := fun d ρ => match d with
  | .tup ds => if ds.length = n then gs ds ρ else none
  | .lst ds => if ds.length = n then gs ds ρ else none
  | _ => none
def mAsg (g : GM) (a : ME) : MS := fun ρ s => (a ρ s).bind fun d s1 => match g d ρ with
  | some ρ1 => .ok (.nx ρ1) s1
  | none => .bad
def loopF (g : GM) (body : MS) : List Dt → MS
  | [], ρ, s => .ok (.nx ρ) s
  | d :: ds, ρ, s => match g d ρ with
    | none => .bad
    | some ρ1 => match body ρ1 s with
      | .ok (.nx ρ2) s2 => loopF g body ds ρ2 s2
      | .ok (.ct ρ2) s2 => loopF g body ds ρ2 s2
      | .ok (.bk ρ2) s2 => .ok (.nx ρ2) s2
      | .ok (.rt d) s2 => .ok (.rt d) s2
      | .err c fs ρ2 s2 => .err c fs ρ2 s2
      | .bad => .bad
/-- what a for walks -/
def mFor (g : GM) (it : MA) (body : MS) : MS := fun ρ s => (it ρ s).bind fun ds s1 => loopF g body ds ρ s1
def mSeqI (a : ME) : MA := fun ρ s => (a ρ s).bind fun d s1 => match d with
  | .tup ds => .ok ds s1
  | .lst ds => .ok ds s1
  | _ => .bad
def rangeD (lo : Int) (n : Nat) : List Dt := (List.range n).map fun (i : Nat) => Dt.int (lo + i)
def rngOk (i : Int) : Prop := -1000000 ≤ i ∧ i ≤ 1000000
instance (i : Int) : Decidable (rngOk i) := inferInstanceAs (Decidable (_ ∧ _))
def mRng1 (a : ME) : MA := fun ρ s => (a ρ s).bind fun d s1 => match d with
  | .int b => if rngOk b then .ok (rangeD 0 b.toNat) s1 else .bad
  | _ => .bad
def mRng2 (a b : ME) : MA := fun ρ s => (a ρ s).bind fun d s1 => (b ρ s1).bind fun e s2 => match d, e with
  | .int i, .int j => if rngOk i ∧ rngOk j then .ok (rangeD i (j - i).toNat) s2 else .bad
  | _, _ => .bad
def loopW (t : MT) (body : MS) : Nat → MS
  | 0, _, _ => .bad
  | n + 1, ρ, s => (t ρ s).bind fun c s1 => if c = true then (match body ρ s1 with
      | .ok (.nx ρ2) s2 => loopW t body n ρ2 s2
      | .ok (.ct ρ2) s2 => loopW t body n ρ2 s2
      | .ok (.bk ρ2) s2 => .ok (.nx ρ2) s2
      | .ok (.rt d) s2 => .ok (.rt d) s2
      | .err c fs ρ2 s2 => .err c fs ρ2 s2
      | .bad => .bad) else .ok (.nx ρ) s1
/-- comprehensions -/
def wipeE (ρ : Env') : List Nat → Env'
  | [] => ρ
  | v :: vs => (wipeE ρ vs).set v .no
def noErr {α : Type} : R α → R α
  | .err _ _ _ _ => .bad
  | r => r
def mYes : MT := fun _ s => .ok true s
def loopC (g : GM) (t : MT) (a : ME) (vs : List Nat) : List Dt → List Dt → ME
  | [], acc, _, s => .ok (.lst acc) s
  | d :: ds, acc, ρ, s => match g d (wipeE ρ vs) with
    | none => .bad
    | some ρ1 => (noErr (t ρ1 s)).bind fun c s1 => if c = true then (noErr (a ρ1 s1)).bind fun e s2 => if sizeOk acc.length then loopC g t a vs ds (acc ++ [e]) ρ s2 else .bad else loopC g t a vs ds acc ρ s1
def mLc (g : GM) (it : MA) (t : MT) (a : ME) (vs : List Nat) : ME := fun ρ s => (it ρ s).bind fun ds s1 => loopC g t a vs ds [] ρ s1
theorem R.bind_assoc {α β γ : Type} (r : R α) (k : α → Hd → R β) (k2 : β → Hd → R γ) : (r.bind k).bind k2 = r.bind fun x s => (k x s).bind k2 := by cases r <;> rfl

section
variable {K : Frag} {mg : Str → Option Value} {Wx : WX} {ta : TE} {a : ME} {tt : TT} {mt : MT} {t : TA} {as : MA} {ts tu : TS} {ms mu : MS}
theorem ss_next : SS K mg Wx tNext mNext := fun h H0 H s σ ρ D g S p => p σ H0 H (Same.refl _) g S
theorem ss_seq (h1 : SS K mg Wx ts ms) (h2 : SS K mg Wx tu mu) : SS K mg Wx (tSeq ts tu) (mSeq ms mu) := by
  intro h H0 H s σ ρ D g S p
  refine h1 h H0 H s σ ρ _ g S ?_
  have p : PostS K mg h (mSeq ms mu ρ s) H0 H Wx D := p
  unfold mSeq at p
  cases e : ms ρ s with
  | ok f s2 =>
    rw [e] at p
    cases f with
    | nx ρ' => exact fun σ' A B st g' S' => h2 h A B s2 σ' ρ' D g' S' (PostS.step st p)
    | rt d => exact p
    | bk ρ' => exact p
    | ct ρ' => exact p
  | err c fs ρ' s2 =>
    rw [e] at p
    exact p
  | bad =>
    rw [e] at p
    exact p
theorem ss_set {i : Nat} (ha : SE K mg Wx ta a) : SS K mg Wx (tAsg ta (gName i)) (mSet i a) := by
  intro h H0 H s σ ρ D g S p
  refine ha h H0 H s σ ρ _ g S (PostS.bind p fun d s1 x A B st g1 dx p1 => ?_)
  exact p1 _ A B (Same.refl _) g1 ((S.step st).set dx)
theorem ss_ret (ha : SE K mg Wx ta a) : SS K mg Wx (tRet ta) (mRet a) := by
  intro h H0 H s σ ρ D g S p
  refine ha h H0 H s σ ρ _ g S (PostS.bind p fun d s1 x A B st g1 dx p1 => ?_)
  exact p1 x A B (S.step st).st g1 dx
theorem ss_retN : SS K mg Wx tRetN mRetN := fun h H0 H s σ ρ D g S p => p .non H0 H S.st g .non
theorem ss_drop (ha : SE K mg Wx ta a) : SS K mg Wx (tDrop ta) (mDrop a) := by
  intro h H0 H s σ ρ D g S p
  refine ha h H0 H s σ ρ _ g S (PostS.bind p fun d s1 x A B st g1 dx p1 => ?_)
  exact p1 σ A B (Same.refl _) g1 (S.step st)
theorem ss_if (ht : ST K mg Wx tt mt) (h1 : SS K mg Wx ts ms) (h2 : SS K mg Wx tu mu) : SS K mg Wx (tIfS tt ts tu) (mIfS mt ms mu) := by
  intro h H0 H s σ ρ D g S p
  refine ht h H0 H s σ ρ _ g S (PostS.bind p fun d s1 x A B st g1 dx p1 => ?_)
  cases (show x = d from dx)
  cases d with
  | true => exact h1 h A B s1 σ ρ D g1 (S.step st) p1
  | false => exact h2 h A B s1 σ ρ D g1 (S.step st) p1
theorem ss_break : SS K mg Wx tBreak mBreak := fun h H0 H s σ ρ D g S p => p σ H0 H (Same.refl _) g S
theorem ss_cont : SS K mg Wx tCont mCont := fun h H0 H s σ ρ D g S p => p σ H0 H (Same.refl _) g S
theorem ss_par {i j : Nat} (ha : SA K mg Wx t as) : SS K mg Wx (tPar i j t) (mPar i j as) := by
  intro h H0 H s σ ρ D g S p
  refine ha h H0 H s σ ρ _ g S (PostS.bind p fun ds s1 xs A B st g1 dx p1 => ?_)
  cases dx with
  | nil => exact p1.elim
  | cons q r =>
    cases r with
    | nil => exact p1.elim
    | cons q2 r =>
      cases r with
      | nil => exact ⟨_, _, rfl, p1 _ A B (Same.refl _) g1 (((S.step st).set q).set q2)⟩
      | cons q3 r => exact p1.elim
end

/-! ### targets -/
/-- at the slots js alone something else -/
def OffIx (js : List Nat) (σ σ1 : L2.St) : Prop := σ1.length = σ.length ∧ ∀ i : Nat, i ∉ js → σ1[i]? = σ[i]?
section
variable (K : Frag) (mg : Str → Option Value)
def SG (js : List Nat) (g : TG) (m : GM) : Prop := ∀ (h : Ent) (H0 H : Hp) (s : Hd) (x : V) (d : Dt) (σ : L2.St) (ρ ρ1 : Env') (Q : L2.St → Hp → Prop), G h H0 H s → Slots K mg h H0 H σ ρ → Den K mg h H0 x d → m d ρ = some ρ1 →
  (∀ σ1, OffIx js σ σ1 → Slots K mg h H0 H σ1 ρ1 → Q σ1 H) → g x σ H Q
def SGs (js : List Nat) (g : TGs) (m : GMs) : Prop := ∀ (h : Ent) (H0 H : Hp) (s : Hd) (xs : List V) (ds : List Dt) (σ : L2.St) (ρ ρ1 : Env') (Q : L2.St → Hp → Prop), G h H0 H s → Slots K mg h H0 H σ ρ → DenA K mg h H0 xs ds → m ds ρ = some ρ1 →
  (∀ σ1, OffIx js σ σ1 → Slots K mg h H0 H σ1 ρ1 → Q σ1 H) → g xs σ H Q
end
def gSeq (K : Frag) (n : Nat) (t : TGs) : TG := fun v σ H Q => gTup K n t v σ H Q ∨ gLst K n t v σ H Q
theorem pg_or {X : Cx} {e : Expr} {t u : TG} (h1 : PG X e t) (h2 : PG X e u) : PG X e (fun v σ H Q => t v σ H Q ∨ u v σ H Q) :=
  ⟨fun pins s σ H v w Q I r h => h.elim (fun z => h1.run pins s σ H v w Q I r z) fun z => h2.run pins s σ H v w Q I r z⟩
theorem pg_seq {X : Cx} {pos : Pos} {es : List Expr} {k : Nat} {t : TGs} {n : Nat} (hc : X.calm = true) (h : PGs X es t)
    (hn : (assignEach es X.env).length = n := by rfl) (hst : (assignEach es X.env).findIdx? (·.1) = none := by rfl) : PG X (.Tuple es k pos) (gSeq X.K n t) := pg_or (pg_tup hc h hn hst) (pg_lst hc h hn hst)
section
variable {K : Frag} {mg : Str → Option Value}
theorem sg_name {j : Nat} : SG K mg [j] (gName j) (gmName j) := by
  intro h H0 H s x d σ ρ ρ1 Q g S dx e q
  cases e
  exact q _ ⟨List.length_set, fun i hi => List.getElem?_set_ne (fun z => hi (by rw [z]; exact List.mem_singleton.mpr rfl))⟩ (S.set dx)
theorem sgs_nil : SGs K mg [] gNil gmNil := by
  intro h H0 H s xs ds σ ρ ρ1 Q g S dx e q
  cases dx with
  | nil =>
    cases e
    exact ⟨rfl, q σ ⟨rfl, fun _ _ => rfl⟩ S⟩
  | cons _ _ => cases e
theorem sgs_cons {js ks : List Nat} {g : TG} {gs : TGs} {m : GM} {ms : GMs} (h1 : SG K mg js g m) (h2 : SGs K mg ks gs ms) : SGs K mg (js ++ ks) (gCons g gs) (gmCons m ms) := by
  intro h H0 H s xs ds σ ρ ρ1 Q g0 S dx e q
  cases dx with
  | nil => cases e
  | @cons v vs d ds dv dvs =>
    have e : (m d ρ).bind (fun ρ1 => ms ds ρ1) = some ρ1 := e
    cases hm : m d ρ with
    | none =>
      rw [hm] at e
      cases e
    | some ρ2 =>
      rw [hm] at e
      refine ⟨v, vs, rfl, h1 h H0 H s v d σ ρ ρ2 _ g0 S dv hm fun σ2 o2 S2 => h2 h H0 H s vs ds σ2 ρ2 ρ1 Q g0 S2 dvs e fun σ3 o3 S3 => q σ3 ⟨o3.1.trans o2.1, fun i hi => ?_⟩ S3⟩
      rw [o3.2 i fun z => hi (List.mem_append_right _ z), o2.2 i fun z => hi (List.mem_append_left _ z)]
theorem sg_seq {js : List Nat} {n : Nat} {gs : TGs} {ms : GMs} (h1 : SGs K mg js gs ms) : SG K mg js (gSeq K n gs) (gmSeq n ms) := by
  intro h H0 H s x d σ ρ ρ1 Q g0 S dx e q
  cases dx with
  | @tup a xs ds qa ra =>
    have e : (if ds.length = n then ms ds ρ else none) = some ρ1 := e
    by_cases c : ds.length = n
    · rw [if_pos c] at e
      exact .inl ⟨_, _, rfl, sqt_mono g0.ex qa, ra.len.trans c, h1 h H0 H s _ _ σ ρ ρ1 Q g0 S ra e q⟩
    · rw [if_neg c] at e
      cases e
  | @lst a xs ds qa ra =>
    have e : (if ds.length = n then ms ds ρ else none) = some ρ1 := e
    by_cases c : ds.length = n
    · rw [if_pos c] at e
      exact .inr ⟨_, _, rfl, SqL.of (g0.ex _ _ qa), ra.len.trans c, h1 h H0 H s _ _ σ ρ ρ1 Q g0 S ra e q⟩
    · rw [if_neg c] at e
      cases e
  | _ => cases e
theorem ss_asg {Wx : WX} {ta : TE} {a : ME} {js : List Nat} {g : TG} {m : GM} (ha : SE K mg Wx ta a) (hg : SG K mg js g m) : SS K mg Wx (tAsg ta g) (mAsg m a) := by
  intro h H0 H s σ ρ D g0 S p
  refine ha h H0 H s σ ρ _ g0 S (PostS.bind p fun d s1 x A B st g1 dx p1 => ?_)
  cases e : m d ρ with
  | none =>
    rw [e] at p1
    exact p1.elim
  | some ρ1 =>
    rw [e] at p1
    exact hg h A B s1 x d σ ρ ρ1 _ g1 (S.step st) dx e fun σ1 _ S1 => p1 σ1 A B (Same.refl _) g1 S1
end

/-! ### what a for walks: a list or a tuple -/
def iSeq (K : Frag) (tl : TE) : TI := fun σ H R => tl σ H fun x H1 => (∃ a, x = .ref a ∧ (∃ xs, SqL K H1 a xs) ∧ R (Itl K a) H1) ∨ ∃ a, x = .ref a ∧ (∃ xs, SqT K H1 a xs) ∧ R (Itt K a) H1
theorem pi_seq {X : Cx} {tg l : Expr} {tl : TE} (hl : PE X l tl) : PI X tg l (iSeq X.K tl) := by
  refine ⟨fun pins s σ H R I h => ?_⟩
  refine thn (hl.run pins s σ H _ I h) fun v s1 ⟨x, H1, I1, r1, q1⟩ => ?_
  rcases q1 with ⟨a, e, ⟨xs, hq⟩, q⟩ | ⟨a, e, ⟨xs, hq⟩, q⟩
  · subst e
    cases r1
    obtain ⟨its, rv, p, hz⟩ := I1.list hq
    refine wpAny_pyIter_list p.isList ?_
    refine ⟨s1.heap.objs.size, [s1.heap.objs.size], _, _, H1, rfl, I1.kept (t' := s1.toks) fun b o e => Heap.get?_push_of_some _ e, turn_list a _, ⟨_, Heap.get?_push_size _ rfl, rfl, rfl⟩, fun b hb => ?_, q⟩
    have e : b = s1.heap.objs.size := by simpa using hb
    subst e
    exact I1.fpOk (Nat.le_refl _) (I1.hok.fresh (Nat.le_refl _))
  · subst e
    cases r1
    obtain ⟨its, rv, p, hz⟩ := I1.tuple hq
    refine wpAny_pyIter_tuple (show s1.heap.IsTuple a its.toArray from p) ?_
    refine ⟨s1.heap.objs.size, [s1.heap.objs.size], _, _, H1, rfl, I1.kept (t' := s1.toks) fun b o e => Heap.get?_push_of_some _ e, turn_tuple a _, ⟨_, Heap.get?_push_size _ rfl, rfl, rfl⟩, fun b hb => ?_, q⟩
    have e : b = s1.heap.objs.size := by simpa using hb
    subst e
    exact I1.fpOk (Nat.le_refl _) (I1.hok.fresh (Nat.le_refl _))
section
variable {K : Frag} {mg : Str → Option Value} {Wx : WX} {ta : TE} {a : ME} {t : TA} {as : MA} {tb : TS} {body : MS} {js : List Nat} {g : TG} {m : GM}
theorem drop_cons {α : Type} {ds : List α} {i : Nat} {d : α} (e : ds[i]? = some d) : ds.drop i = d :: ds.drop (i + 1) := by
  obtain ⟨hl, e2⟩ := List.getElem?_eq_some_iff.mp e
  rw [← e2]
  exact List.drop_eq_getElem_cons hl
/-- one turn -/
theorem turn_ok {h : Ent} {A B : Hp} {s : Hd} {σ : L2.St} {ρ : Env'} {x : V} {d : Dt} {ds : List Dt} {D : Ends} {Pn : L2.St → Hp → Prop} (hg : SG K mg js g m) (hb : SS K mg Wx tb body) (g0 : G h A B s) (S : Slots K mg h A B σ ρ) (dx : Den K mg h A x d)
    (p : PostS K mg h (loopF m body (d :: ds) ρ s) A B Wx D)
    (next : ∀ σ' A' B' s' ρ', Same A A' → G h A' B' s' → Slots K mg h A' B' σ' ρ' → PostS K mg h (loopF m body ds ρ' s') A' B' Wx D → Pn σ' B') :
    g x σ B fun σ2 H2 => tb { D with nx := Pn, ct := Pn, bk := D.nx } σ2 H2 := by
  unfold loopF at p
  cases e : m d ρ with
  | none =>
    rw [e] at p
    exact p.elim
  | some ρ1 =>
    rw [e] at p
    refine hg h A B s x d σ ρ ρ1 _ g0 S dx e fun σ1 _ S1 => hb h A B s σ1 ρ1 _ g0 S1 ?_
    cases eb : body ρ1 s with
    | ok f s2 =>
      cases f with
      | nx ρ2 =>
        simp only [eb] at p
        exact fun σ' A' B' st g' S' => next σ' A' B' s2 ρ2 st g' S' (PostS.step st p)
      | ct ρ2 =>
        simp only [eb] at p
        exact fun σ' A' B' st g' S' => next σ' A' B' s2 ρ2 st g' S' (PostS.step st p)
      | bk ρ2 =>
        simp only [eb] at p
        exact p
      | rt d2 =>
        simp only [eb] at p
        exact p
    | err c fs ρ2 s2 =>
      simp only [eb] at p
      exact p
    | bad =>
      simp only [eb] at p
      exact p
theorem rangeD_len (lo : Int) (n : Nat) : (rangeD lo n).length = n := by
  unfold rangeD
  rw [List.length_map, List.length_range]
theorem rangeD_get {lo : Int} {n i : Nat} (hi : i < n) : (rangeD lo n)[i]? = some (.int (lo + i)) := by
  unfold rangeD
  rw [List.getElem?_map, List.getElem?_range hi]
  rfl
theorem for_rng {h : Ent} {A B : Hp} {s : Hd} {σ : L2.St} {ρ : Env'} {D : Ends} {lo : Int} {n : Nat} (hg : SG K mg js g m) (hb : SS K mg Wx tb body) (g1 : G h A B s) (S1 : Slots K mg h A B σ ρ) (p1 : PostS K mg h (loopF m body (rangeD lo n) ρ s) A B Wx D) :
    ∃ W : Nat → Nat → L2.St → Hp → Prop, (∃ m, W 0 m σ B) ∧ ∀ i m σ H, W i m σ H →
      ((Itr lo n).stop i H ∧ D.nx σ H) ∨ ((Itr lo n).go i H ∧ ∃ N : L2.St → Hp → Prop, (∀ σ' H', N σ' H' → ∃ m', m' < m ∧ W (i + 1) m' σ' H') ∧ ∀ x H', (Itr lo n).yld i H x H' → g x σ H' fun σ2 H2 => tb { D with nx := N, ct := N, bk := D.nx } σ2 H2) := by
  refine for_range (fun i σ' H' => ∃ A' s' ρ', Same A A' ∧ G h A' H' s' ∧ Slots K mg h A' H' σ' ρ' ∧ PostS K mg h (loopF m body ((rangeD lo n).drop i) ρ' s') A' H' Wx D)
    ⟨A, s, ρ, Same.refl _, g1, S1, p1⟩ (fun i σ' H' hi ⟨A', s', ρ', st', g', S', p'⟩ => ?_) (fun σ' H' ⟨A', s', ρ', st', g', S', p'⟩ => ?_)
  · rw [drop_cons (rangeD_get hi)] at p'
    exact turn_ok hg hb g' S' (.int _) p' fun σ2 A2 B2 s2 ρ2 st2 g2 S2 p2 => ⟨A2, s2, ρ2, st'.trans st2, g2, S2, p2⟩
  · have e : (rangeD lo n).drop n = [] := List.drop_eq_nil_of_le (by rw [rangeD_len]; exact Nat.le_refl _)
    rw [e] at p'
    exact p' σ' A' H' (Same.refl _) g' S'
theorem DenA.one {h : Addr} {H : Hp} {vs : List V} {d : Dt} (r : DenA K mg h H vs [d]) : ∃ v, vs = [v] ∧ Den K mg h H v d := by
  cases r with
  | cons q r =>
    cases r
    exact ⟨_, rfl, q⟩
theorem DenA.two {h : Addr} {H : Hp} {vs : List V} {d e : Dt} (r : DenA K mg h H vs [d, e]) : ∃ v w, vs = [v, w] ∧ Den K mg h H v d ∧ Den K mg h H w e := by
  cases r with
  | cons q r =>
    obtain ⟨w, rfl, q2⟩ := r.one
    exact ⟨_, w, rfl, q, q2⟩
end
end Mir


set_option Elab.async false
set_option linter.all false
set_option maxRecDepth 100000
namespace Mir
open PySem PySem.Spec PyProof.Rows L2
open PySem.W (Frag)

/-! ### comprehensions -/
section
theorem wipeE_length (ρ : Env') : ∀ vs : List Nat, (wipeE ρ vs).length = ρ.length
  | [] => rfl
  | v :: vs => by
    unfold wipeE
    rw [List.length_set, wipeE_length ρ vs]
variable {K : Frag} {mg : Str → Option Value}
theorem Slots.wipe {h : Ent} {H0 H : Hp} {σ : L2.St} {ρ : Env'} (S : Slots K mg h H0 H σ ρ) : ∀ vs : List Nat, Slots K mg h H0 H (L2.wipe σ vs) (wipeE ρ vs)
  | [] => S
  | v :: vs => (Slots.wipe S vs).forget none
theorem wipe_in {σ : L2.St} {i : Nat} : ∀ {vs : List Nat}, i ∈ vs → i < σ.length → (L2.wipe σ vs)[i]? = some none
  | [], hi, _ => by cases hi
  | v :: vs, hi, hl => by
    show ((L2.wipe σ vs).set v none)[i]? = some none
    by_cases e : v = i
    · subst e
      exact List.getElem?_set_self (by rw [wipe_length]; exact hl)
    · rw [List.getElem?_set_ne e]
      rcases List.mem_cons.mp hi with z | z
      · exact absurd z.symm e
      · exact wipe_in z hl
theorem wipe_out' {σ : L2.St} {i : Nat} : ∀ {vs : List Nat}, i ∉ vs → (L2.wipe σ vs)[i]? = σ[i]?
  | [], _ => rfl
  | v :: vs, hi => by
    show ((L2.wipe σ vs).set v none)[i]? = σ[i]?
    rw [List.getElem?_set_ne fun z => hi (by rw [z]; exact List.mem_cons_self), wipe_out' fun z => hi (List.mem_cons_of_mem _ z)]
theorem wipe_off {σ σ2 : L2.St} {js vs : List Nat} (hs : ∀ j ∈ js, j ∈ vs) (o : OffIx js (L2.wipe σ vs) σ2) : L2.wipe σ2 vs = L2.wipe σ vs := by
  have hl : σ2.length = σ.length := by rw [o.1, wipe_length]
  apply List.ext_getElem?
  intro i
  by_cases hi : i ∈ vs
  · by_cases hb : i < σ.length
    · rw [wipe_in hi hb, wipe_in hi (by rw [hl]; exact hb)]
    · rw [List.getElem?_eq_none (by rw [wipe_length, hl]; omega), List.getElem?_eq_none (by rw [wipe_length]; omega)]
  · rw [wipe_out' hi, o.2 i fun z => hi (hs i z), wipe_out' hi]
end
theorem same_upd' {H : Hp} {p : Addr} {o : HO} (h : H p = none) : Same H (upd H p o) := fun b x e => by
  rw [upd_ne (ne_of_none e h)]
  exact e
abbrev WF : WX := fun _ _ _ _ => False
section
variable {K : Frag} {mg : Str → Option Value} {Wx : WX} {ta : TE} {a b : ME} {tt : TT} {mt : MT} {js vs : List Nat} {g : TG} {m : GM}
theorem Post.noErr {α β δ : Type} {h : Ent} {H0 H : Hp} {PF : R δ → Prop} (hbad : PF .bad → False) {rel1 : Hp → α → β → Prop} {r : R β} {k : β → Hd → R δ} {Q1 : α → Hp → Prop} (p : PF ((noErr r).bind k))
    (f : ∀ b s a H0' H', Step h.a H0 H H0' H' → G h.a H0' H' s → rel1 H0' a b → PF (k b s) → Q1 a H') : Post K mg h rel1 r H0 H WF Q1 := by
  cases r with
  | ok b s => exact fun a A B st g q => f b s a A B st g q p
  | err c fs ρ s => exact (hbad p).elim
  | bad => exact (hbad p).elim
theorem Post.bindF {α β δ : Type} {h : Ent} {H0 H : Hp} {PF : R δ → Prop} (hbad : PF .bad → False) (herr : ∀ c fs ρ s, PF (.err c fs ρ s) → ErrP K mg h H0 c fs ρ s Wx) {rel1 : Hp → α → β → Prop} {r : R β} {k : β → Hd → R δ} {Q1 : α → Hp → Prop} (p : PF (r.bind k))
    (f : ∀ b s a H0' H', Step h.a H0 H H0' H' → G h.a H0' H' s → rel1 H0' a b → PF (k b s) → Q1 a H') : Post K mg h rel1 r H0 H Wx Q1 := by
  cases r with
  | ok b s => exact fun a A B st g q => f b s a A B st g q p
  | err c fs ρ s => exact herr _ _ _ _ p
  | bad => exact (hbad p).elim
/-- the word of a comprehension's loop: D the new list, not yet among the data -/
def CW (K : Frag) (mg : Str → Option Value) (PF : R Dt → Prop) (m : GM) (mt : MT) (a : ME) (vs : List Nat) (h : Ent) (A B : Hp) (ρ : Env') (D : Addr) (ds : List Dt) (B' : Hp) : Prop :=
  ∃ (A' : Hp) (s' : Hd) (acc : List Dt) (vv : List V), Step h A B A' B' ∧ G h A' B' s' ∧ B D = none ∧ A' D = none ∧ ¬ isH h B' D ∧ B' D = some (.lst vv) ∧ DenA K mg h A' vv acc ∧ PF (loopC m mt a vs ds acc ρ s')
theorem cw_turn {h : Ent} {A B B' : Hp} {σ : L2.St} {ρ : Env'} {D : Addr} {PF : R Dt → Prop} (hbad : PF .bad → False) {x : V} {d : Dt} {ds : List Dt} (hg : SG K mg js g m) (hv : ∀ j ∈ js, j ∈ vs) (ht : ST K mg WF tt mt) (ha : SE K mg WF ta a) (S : Slots K mg h A B σ ρ)
    (w : CW K mg PF m mt a vs h A B ρ D (d :: ds) B') (dx : ∀ A', Same A A' → Den K mg h A' x d) :
    g x (L2.wipe σ vs) B' fun σ2 H2 => L2.wipe σ2 vs = L2.wipe σ vs ∧ tt σ2 H2 fun b H3 =>
      if b = true then ta σ2 H3 fun y H4 => ∃ acc, H4 D = some (.lst acc) ∧ acc.length < sizeLine ∧ CW K mg PF m mt a vs h A B ρ D ds (upd H4 D (.lst (acc ++ [y]))) else CW K mg PF m mt a vs h A B ρ D ds H3 := by
  obtain ⟨A', s', acc, vv, st, g0, hB, hD, nD, eD, da, p⟩ := w
  unfold loopC at p
  cases e : m d (wipeE ρ vs) with
  | none =>
    rw [e] at p
    exact (hbad p).elim
  | some ρ1 =>
    simp only [e] at p
    refine hg h A' B' s' x d _ _ ρ1 _ g0 ((S.step st).wipe vs) (dx A' st.s0) e fun σ1 o1 S1 => ⟨wipe_off hv o1, ht h A' B' s' σ1 ρ1 _ g0 S1 (Post.noErr hbad p fun c s1 c' A2 B2 st2 g2 ec p2 => ?_)⟩
    have ec : c' = c := ec
    subst ec
    have f2 := st2.fr D _ eD hD nD
    cases c' with
    | false => exact ⟨A2, s1, acc, vv, st.trans st2, g2, hB, f2.2.1, f2.2.2, f2.1, da.mono st2.s0, p2⟩
    | true =>
      show ta σ1 B2 _
      rw [if_pos rfl] at p2
      refine ha h A2 B2 s1 σ1 ρ1 _ g2 (S1.step st2) (Post.noErr hbad p2 fun z s3 y A3 B3 st3 g3 dy p3 => ?_)
      have f3 := st3.fr D _ f2.1 f2.2.1 f2.2.2
      by_cases c : sizeOk acc.length
      · rw [if_pos c] at p3
        refine ⟨vv, f3.1, by rw [da.len]; exact c.lt, ?_⟩
        obtain ⟨gl, a1, a2, a3, a4⟩ := g3.gl
        have n1 : h ≠ D := fun z => f3.2.2 (.inl z.symm)
        have n2 : gl ≠ D := fun z => f3.2.2 (.inr ⟨_, by rw [← z]; exact a3⟩)
        have nH : ∀ q, isH h (upd B3 D (.lst (vv ++ [y]))) q → isH h B3 q := fun q w => by
          rcases w with w | ⟨r, w⟩
          · exact .inl w
          · rw [upd_ne n1] at w
            exact .inr ⟨r, w⟩
        have st4 : Step h A B A3 (upd B3 D (.lst (vv ++ [y]))) := ⟨(st.trans (st2.trans st3)).s0, fun q u x1 x2 x3 => by
          have nq : q ≠ D := ne_of_none x1 hB
          obtain ⟨y1, y2, y3⟩ := (st.trans (st2.trans st3)).fr q u x1 x2 x3
          exact ⟨by rw [upd_ne nq]; exact y1, y2, fun w => y3 (nH q w)⟩⟩
        refine ⟨A3, s3, acc ++ [z], vv ++ [y], st4, ⟨fun q u w => ?_, g3.h0, gl, a1, a2, by rw [upd_ne n1]; exact a3, by rw [upd_ne n2]; exact a4⟩, hB, f3.2.1, fun w => f3.2.2 (nH D w), upd_same, ((da.mono st2.s0).mono st3.s0).append (.cons dy .nil), p3⟩
        rw [upd_ne fun z => by rw [z, f3.2.1] at w; cases w]
        exact g3.ex _ _ w
      · rw [if_neg c] at p3
        exact (hbad p3).elim
theorem cw_start {h : Ent} {A B : Hp} {s : Hd} {ρ : Env'} {D : Addr} {PF : R Dt → Prop} {ds : List Dt} (g0 : G h A B s) (hD : B D = none) (p : PF (loopC m mt a vs ds [] ρ s)) : CW K mg PF m mt a vs h A B ρ D ds (upd B D (.lst [])) := by
  obtain ⟨g1, st⟩ := g0.side (o := .lst []) hD
  obtain ⟨gl, a1, a2, a3, a4⟩ := g0.gl
  have n1 : h ≠ D := ne_of_none a3 hD
  have n2 : gl ≠ D := ne_of_none a4 hD
  refine ⟨A, s, [], [], st, g1, hD, g0.ex.free hD, fun w => ?_, upd_same, .nil, p⟩
  rcases w with w | ⟨r, w⟩
  · exact n1 w.symm
  · rw [upd_ne n1, a3] at w
    cases w
    exact n2 rfl
/-- behind the last turn: the new list is nobody's yet -/
def CWFin (K : Frag) (mg : Str → Option Value) (PF : R Dt → Prop) (h : Ent) (A B : Hp) (Q : VK) : Prop := ∀ (D : Addr) (A' B' : Hp) (s' : Hd) (acc : List Dt) (vv : List V), B D = none → Step h.a A B A' B' → G h.a A' B' s' → A' D = none → ¬ isH h.a B' D → B' D = some (.lst vv) → DenA K mg h.a A' vv acc → PF (.ok (.lst acc) s') → Q (.ref D) B'
theorem cw_end {h : Ent} {A B B' : Hp} {ρ : Env'} {D : Addr} {PF : R Dt → Prop} {Q : VK} (fin : CWFin K mg PF h A B Q) (w : CW K mg PF m mt a vs h A B ρ D [] B') : Q (.ref D) B' := by
  obtain ⟨A', s', acc, vv, st, g0, hB, hD, nD, eD, da, p⟩ := w
  exact fin D A' B' s' acc vv hB st g0 hD nD eD da p
/-- it becomes data -/
theorem fin_den {h : Ent} {A B : Hp} {Q : VK} : CWFin K mg (fun r => Post K mg h (Den K mg h.a) r A B Wx Q) h A B Q := by
  intro D A' B' s' acc vv hB st g0 hD nD eD da p
  have e0 : Same A' (upd A' D (.lst vv)) := same_upd' hD
  refine p (.ref D) (upd A' D (.lst vv)) B' ⟨st.s0.trans e0, fun q u x1 x2 x3 => ?_⟩ ⟨fun q u x => ?_, ?_, ?_⟩ (.lst upd_same (da.mono e0))
  · obtain ⟨y1, y2, y3⟩ := st.fr q u x1 x2 x3
    exact ⟨y1, by rw [upd_ne (ne_of_none x1 hB)]; exact y2, y3⟩
  · by_cases c : q = D
    · subst c
      rw [upd_same] at x
      rw [eD]
      exact x
    · rw [upd_ne c] at x
      exact g0.ex _ _ x
  · rw [upd_ne fun z => nD (.inl z.symm)]
    exact g0.h0
  · obtain ⟨gl, a1, a2, a3, a4⟩ := g0.gl
    exact ⟨gl, by rw [upd_ne fun z => nD (.inr ⟨_, by rw [← z]; exact a3⟩)]; exact a1, a2, a3, a4⟩
theorem lc_rng {h : Ent} {A B : Hp} {s : Hd} {σ : L2.St} {ρ : Env'} {Q : VK} {PF : R Dt → Prop} (hbad : PF .bad → False) (fin : CWFin K mg PF h A B Q) {lo : Int} {n : Nat} (hg : SG K mg js g m) (hv : ∀ j ∈ js, j ∈ vs) (ht : ST K mg WF tt mt) (ha : SE K mg WF ta a) (g1 : G h A B s) (S1 : Slots K mg h A B σ ρ)
    (p1 : PF (loopC m mt a vs (rangeD lo n) [] ρ s)) (D : Addr) (hD : B D = none) :
    ∃ W : Nat → Nat → Hp → Prop, (∃ m, W 0 m (upd B D (.lst []))) ∧ ∀ i m H, W i m H →
      ((Itr lo n).stop i H ∧ Q (.ref D) H) ∨ ((Itr lo n).go i H ∧ ∃ Nx : Hp → Prop, (∀ H', Nx H' → ∃ m', m' < m ∧ W (i + 1) m' H') ∧ ∀ x H', (Itr lo n).yld i H x H' → g x (L2.wipe σ vs) H' fun σ2 H2 => L2.wipe σ2 vs = L2.wipe σ vs ∧ tt σ2 H2 fun b H3 =>
        if b = true then ta σ2 H3 fun y H4 => ∃ acc, H4 D = some (.lst acc) ∧ acc.length < sizeLine ∧ Nx (upd H4 D (.lst (acc ++ [y]))) else Nx H3) := by
  refine lc_range (Qd := fun H => Q (.ref D) H) (fun i H' => CW K mg PF m mt a vs h A B ρ D ((rangeD lo n).drop i) H') (cw_start g1 hD p1) (fun i H' hi w => ?_) (fun H' w => ?_)
  · rw [drop_cons (rangeD_get hi)] at w
    exact cw_turn hbad hg hv ht ha S1 w fun A' e => .int _
  · have e : (rangeD lo n).drop n = [] := List.drop_eq_nil_of_le (by rw [rangeD_len]; exact Nat.le_refl _)
    rw [e] at w
    exact cw_end fin w
theorem st_yes : ST K mg Wx tYes mYes := fun h H0 H s σ ρ Q g S p => p true H0 H (.refl _ _) g rfl
end
/-- what a loop or a comprehension walks, and the data that come -/
structure SI (K : Frag) (mg : Str → Option Value) (Wx : WX) (wi : TI) (mi : MA) : Prop where
  for_ : ∀ {js : List Nat} {g : TG} {m : GM} {tb : TS} {body : MS}, SG K mg js g m → SS K mg Wx tb body → SS K mg Wx (tFor wi g tb) (mFor m mi body)
  lcF : ∀ {js : List Nat} {g : TG} {m : GM} {tt : TT} {mt : MT} {ta : TE} {a : ME} {vs : List Nat}, SG K mg js g m → (∀ j ∈ js, j ∈ vs) → ST K mg WF tt mt → SE K mg WF ta a →
    ∀ (h : Ent) (H0 H : Hp) (s : Hd) (σ : L2.St) (ρ : Env') (Q : VK) (PF : R Dt → Prop), (PF .bad → False) → (∀ c fs ρ s, PF (.err c fs ρ s) → ErrP K mg h H0 c fs ρ s Wx) → (∀ A B, Step h.a H0 H A B → CWFin K mg PF h A B Q) → G h.a H0 H s → Slots K mg h H0 H σ ρ → PF (mLc m mi mt a vs ρ s) → tLc wi g tt ta vs σ H Q
theorem SI.lc {K : Frag} {mg : Str → Option Value} {Wx : WX} {wi : TI} {mi : MA} (I : SI K mg Wx wi mi) {js : List Nat} {g : TG} {m : GM} {tt : TT} {mt : MT} {ta : TE} {a : ME} {vs : List Nat} (hg : SG K mg js g m) (hv : ∀ j ∈ js, j ∈ vs) (ht : ST K mg WF tt mt) (ha : SE K mg WF ta a) : SE K mg Wx (tLc wi g tt ta vs) (mLc m mi mt a vs) := by
  intro h H0 H s σ ρ Q g0 S p
  refine I.lcF hg hv ht ha h H0 H s σ ρ Q (fun r => Post K mg h (Den K mg h.a) r H0 H Wx Q) (fun z => z.elim) (fun c fs ρ s z => z) (fun A B st => ?_) g0 S p
  intro D A' B' s' acc vv hB st2 g2 hD nD eD da p2
  exact fin_den (Wx := Wx) D A' B' s' acc vv hB st2 g2 hD nD eD da (Post.step st p2)
section
variable {K : Frag} {mg : Str → Option Value} {Wx : WX} {tl tl2 : TE} {b b2 : ME}
theorem si_seq (hb : SE K mg Wx tl b) : SI K mg Wx (iSeq K tl) (mSeqI b) where
  for_ := by
    intro js g m tb body hg hb2 h H0 H s σ ρ D g0 S p
    have p : PostS K mg h (((b ρ s).bind _).bind _) H0 H Wx D := p
    rw [R.bind_assoc] at p
    refine hb h H0 H s σ ρ _ g0 S (PostS.bind p fun d s1 x A B st g1 dx p1 => ?_)
    have S1 := S.step st
    cases dx with
    | @lst a xs ds qa ra =>
      refine .inl ⟨a, rfl, ⟨xs, SqL.of (g1.ex _ _ qa)⟩, for_list (K := K) (a := a) (xs := xs) (fun i σ' H' => ∃ A' s' ρ', Same A A' ∧ G h A' H' s' ∧ Slots K mg h A' H' σ' ρ' ∧ PostS K mg h (loopF m body (ds.drop i) ρ' s') A' H' Wx D)
        ⟨A, s1, ρ, Same.refl _, g1, S1, p1⟩ (fun i σ' H' _ ⟨A', s', ρ', st', g', _, _⟩ => SqL.of (g'.ex _ _ (st' _ _ qa))) (fun i x σ' H' hx ⟨A', s', ρ', st', g', S', p'⟩ => ?_) (fun σ' H' ⟨A', s', ρ', st', g', S', p'⟩ => ?_)⟩
      · obtain ⟨d, hd, dx⟩ := ra.getV hx
        rw [drop_cons hd] at p'
        exact turn_ok hg hb2 g' S' (dx.mono st') p' fun σ2 A2 B2 s2 ρ2 st2 g2 S2 p2 => ⟨A2, s2, ρ2, st'.trans st2, g2, S2, p2⟩
      · rw [ra.len, List.drop_length] at p'
        exact p' σ' A' H' (Same.refl _) g' S'
    | @tup a xs ds qa ra =>
      refine .inr ⟨a, rfl, ⟨xs, sqt_mono g1.ex qa⟩, for_tup (K := K) (a := a) (xs := xs) (fun i σ' H' => ∃ A' s' ρ', Same A A' ∧ G h A' H' s' ∧ Slots K mg h A' H' σ' ρ' ∧ PostS K mg h (loopF m body (ds.drop i) ρ' s') A' H' Wx D)
        ⟨A, s1, ρ, Same.refl _, g1, S1, p1⟩ (fun i σ' H' _ ⟨A', s', ρ', st', g', _, _⟩ => sqt_mono g'.ex (sqt_mono st' qa)) (fun i x σ' H' hx ⟨A', s', ρ', st', g', S', p'⟩ => ?_) (fun σ' H' ⟨A', s', ρ', st', g', S', p'⟩ => ?_)⟩
      · obtain ⟨d, hd, dx⟩ := ra.getV hx
        rw [drop_cons hd] at p'
        exact turn_ok hg hb2 g' S' (dx.mono st') p' fun σ2 A2 B2 s2 ρ2 st2 g2 S2 p2 => ⟨A2, s2, ρ2, st'.trans st2, g2, S2, p2⟩
      · rw [ra.len, List.drop_length] at p'
        exact p' σ' A' H' (Same.refl _) g' S'
    | _ => exact p1.elim
  lcF := by
    intro js g m tt mt ta a vs hg hv ht ha h H0 H s σ ρ Q PF hbad herr fin0 g0 S p
    have p : PF (((b ρ s).bind _).bind _) := p
    rw [R.bind_assoc] at p
    refine hb h H0 H s σ ρ _ g0 S (Post.bindF hbad herr p fun d s1 x A B st g1 dx p1 => ?_)
    have S1 := S.step st
    have fin := fin0 A B st
    cases dx with
    | @lst aa xs ds qa ra =>
      refine .inl ⟨aa, rfl, ⟨xs, SqL.of (g1.ex _ _ qa)⟩, fun D hD => lc_list (K := K) (a := aa) (xs := xs) (fun i H' => CW K mg PF m mt a vs h A B ρ D (ds.drop i) H') (cw_start g1 hD p1) (fun i H' _ w => ?_) (fun i x H' hx w => ?_) (fun H' w => ?_)⟩
      · obtain ⟨A', _, _, _, st', g', _⟩ := w
        exact SqL.of (g'.ex _ _ (st'.s0 _ _ qa))
      · obtain ⟨d, hd, dx⟩ := ra.getV hx
        rw [drop_cons hd] at w
        exact cw_turn hbad hg hv ht ha S1 w fun A' e => dx.mono e
      · rw [ra.len, List.drop_length] at w
        exact cw_end fin w
    | @tup aa xs ds qa ra =>
      refine .inr ⟨aa, rfl, ⟨xs, sqt_mono g1.ex qa⟩, fun D hD => lc_tup (K := K) (a := aa) (xs := xs) (fun i H' => CW K mg PF m mt a vs h A B ρ D (ds.drop i) H') (cw_start g1 hD p1) (fun i H' _ w => ?_) (fun i x H' hx w => ?_) (fun H' w => ?_)⟩
      · obtain ⟨A', _, _, _, st', g', _⟩ := w
        exact sqt_mono g'.ex (sqt_mono st'.s0 qa)
      · obtain ⟨d, hd, dx⟩ := ra.getV hx
        rw [drop_cons hd] at w
        exact cw_turn hbad hg hv ht ha S1 w fun A' e => dx.mono e
      · rw [ra.len, List.drop_length] at w
        exact cw_end fin w
    | _ => exact (hbad p1).elim
theorem si_rng1 (hb : SE K mg Wx tl b) : SI K mg Wx (iRng1 (tCons tl tNil)) (mRng1 b) where
  for_ := by
    intro js g m tb body hg hb2 h H0 H s σ ρ D g0 S p
    have p : PostS K mg h (((b ρ s).bind _).bind _) H0 H Wx D := p
    rw [R.bind_assoc] at p
    refine hb h H0 H s σ ρ _ g0 S (PostS.bind p fun d s1 x A B st g1 dx p1 => ?_)
    cases dx with
    | int j =>
      by_cases c : rngOk j
      · simp only [if_pos c] at p1
        exact ⟨j, rfl, by have := c.1; omega, by have := c.2; omega, for_rng hg hb2 g1 (S.step st) p1⟩
      · simp only [if_neg c] at p1
        exact p1.elim
    | _ => exact p1.elim
  lcF := by
    intro js g m tt mt ta a vs hg hv ht ha h H0 H s σ ρ Q PF hbad herr fin0 g0 S p
    have p : PF (((b ρ s).bind _).bind _) := p
    rw [R.bind_assoc] at p
    refine hb h H0 H s σ ρ _ g0 S (Post.bindF hbad herr p fun d s1 x A B st g1 dx p1 => ?_)
    cases dx with
    | int j =>
      by_cases c : rngOk j
      · simp only [if_pos c] at p1
        exact ⟨j, rfl, by have := c.1; omega, by have := c.2; omega, fun D hD => lc_rng hbad (fin0 A B st) hg hv ht ha g1 (S.step st) p1 D hD⟩
      · simp only [if_neg c] at p1
        exact (hbad p1).elim
    | _ => exact (hbad p1).elim
theorem si_rng2 (hb : SE K mg Wx tl b) (hb2 : SE K mg Wx tl2 b2) : SI K mg Wx (iRng2 (tCons tl (tCons tl2 tNil))) (mRng2 b b2) where
  for_ := by
    intro js g m tb body hg hbb h H0 H s σ ρ D g0 S p
    have p : PostS K mg h (((b ρ s).bind _).bind _) H0 H Wx D := p
    rw [R.bind_assoc] at p
    refine hb h H0 H s σ ρ _ g0 S (PostS.bind p fun d s1 x A B st g1 dx p1 => ?_)
    rw [R.bind_assoc] at p1
    refine hb2 h A B s1 σ ρ _ g1 (S.step st) (PostS.bind p1 fun d2 s2 x2 A2 B2 st2 g2 dx2 p2 => ?_)
    cases dx with
    | int i =>
      cases dx2 with
      | int j =>
        by_cases c : rngOk i ∧ rngOk j
        · simp only [if_pos c] at p2
          obtain ⟨⟨c1, c2⟩, c3, c4⟩ := c
          exact ⟨i, j, rfl, ⟨by omega, by omega, by omega, by omega⟩, for_rng hg hbb g2 (S.step (st.trans st2)) p2⟩
        · simp only [if_neg c] at p2
          exact p2.elim
      | _ => exact p2.elim
    | _ => cases dx2 <;> exact p2.elim
  lcF := by
    intro js g m tt mt ta a vs hg hv ht ha h H0 H s σ ρ Q PF hbad herr fin0 g0 S p
    have p : PF (((b ρ s).bind _).bind _) := p
    rw [R.bind_assoc] at p
    refine hb h H0 H s σ ρ _ g0 S (Post.bindF hbad herr p fun d s1 x A B st g1 dx p1 => ?_)
    rw [R.bind_assoc] at p1
    refine hb2 h A B s1 σ ρ _ g1 (S.step st) (Post.bindF hbad (fun c fs ρ s z => ErrP.step st.s0 (herr c fs ρ s z)) p1 fun d2 s2 x2 A2 B2 st2 g2 dx2 p2 => ?_)
    cases dx with
    | int i =>
      cases dx2 with
      | int j =>
        by_cases c : rngOk i ∧ rngOk j
        · simp only [if_pos c] at p2
          obtain ⟨⟨c1, c2⟩, c3, c4⟩ := c
          exact ⟨i, j, rfl, ⟨by omega, by omega, by omega, by omega⟩, fun D hD => lc_rng hbad (fin0 A2 B2 (st.trans st2)) hg hv ht ha g2 (S.step (st.trans st2)) p2 D hD⟩
        · simp only [if_neg c] at p2
          exact (hbad p2).elim
      | _ => exact (hbad p2).elim
    | _ => cases dx2 <;> exact (hbad p2).elim
end
end Mir


set_option Elab.async false
set_option linter.all false
set_option maxRecDepth 100000
namespace Mir
open PySem PySem.Spec PyProof.Rows L2
open PySem.W (Frag)

/-! ### texts: statements -/
section
variable {X : Cx} {Wx : WX} {a b c e : Expr} {ma mb : ME} {mt : MT} {as : MA} {st : Stmt} {rest sts sts2 : List Stmt} {ms mu : MS} {pos p : Pos} {es : List Expr}
theorem qss_nil : QSs X Wx [] mNext := ⟨_, pss_nil, ss_next⟩
theorem qss_cons (h1 : QS X Wx st ms) (h2 : QSs X Wx rest mu) : QSs X Wx (st :: rest) (mSeq ms mu) := by
  obtain ⟨t, p, s⟩ := h1
  obtain ⟨t2, p2, s2⟩ := h2
  exact ⟨_, pss_cons p p2, ss_seq s s2⟩
theorem qss_one (h1 : QS X Wx st ms) : QSs X Wx [st] ms := by
  obtain ⟨t, p, s⟩ := h1
  exact ⟨_, pss_one p, s⟩
theorem qs_set (i : Nat) {x : Str} {pos' : Pos} (hN : X.N.Nodup) (he : QE X Wx e ma) (hi : X.N[i]? = some x := by rfl) (hx : Loc X.env.scope x := by first | exact Or.inl rfl | exact Or.inr rfl) (hs : swapsWith e (some (.Name x pos')) pos.line X.env = pure false := by rfl)
    (hf : X.fn x = true ∨ X.env.scope.names.lookup x = some .local := by first | exact .inl rfl | exact .inr rfl) : QS X Wx (.Assign [.Name x pos'] e pos) (mSet i ma) := by
  obtain ⟨t, q, s⟩ := he
  exact ⟨_, ps_set hN hi hx q hs hf, ss_set s⟩
theorem qs_ret (he : QE X Wx e ma) : QS X Wx (.Return (some e) pos) (mRet ma) := by
  obtain ⟨t, q, s⟩ := he
  exact ⟨_, ps_ret q, ss_ret s⟩
theorem qs_retN : QS X Wx (.Return none pos) mRetN := ⟨_, ps_retN, ss_retN⟩
theorem qs_pass : QS X Wx (.Pass pos) mNext := ⟨_, ps_pass, ss_next⟩
theorem qs_break : QS X Wx (.Break pos) mBreak := ⟨_, ps_break, ss_break⟩
theorem qs_continue : QS X Wx (.Continue pos) mCont := ⟨_, ps_continue, ss_cont⟩
theorem qs_expr (he : QE X Wx e ma) (hs : swapsWith e none pos.line X.env = pure false := by rfl) : QS X Wx (.Expr e pos) (mDrop ma) := by
  obtain ⟨t, q, s⟩ := he
  exact ⟨_, ps_expr q hs, ss_drop s⟩
theorem qs_if (hc : QT X Wx c mt) (h1 : QSs X Wx sts ms) (h2 : QSs X Wx sts2 mu) : QS X Wx (.If c sts sts2 pos) (mIfS mt ms mu) := by
  obtain ⟨t, q, s⟩ := hc
  obtain ⟨t1, q1, s1⟩ := h1
  obtain ⟨t2, q2, s2⟩ := h2
  exact ⟨_, ps_if q q1 q2, ss_if s s1 s2⟩
theorem qs_par (i j : Nat) {x y : Str} {px py pt : Pos} {kt k2 pt2} (hc : X.calm = true) (hN : X.N.Nodup) (hij : i ≠ j) (ha : QA X Wx [a, b] as) (hi : X.N[i]? = some x := by rfl) (hj : X.N[j]? = some y := by rfl)
    (hx : X.env.scope.names.lookup x = some .local := by rfl) (hy : X.env.scope.names.lookup y = some .local := by rfl)
    (hw : swappedStores [.Tuple [.Name x px, .Name y py] kt pt] (.Tuple [a, b] k2 pt2) X.env = pure (some [x, y]) := by rfl)
    (hs : swapsWithSole [.Tuple [.Name x px, .Name y py] kt pt] (.Tuple [a, b] k2 pt2) pos.line X.env = pure false := by rfl) :
    QS X Wx (.Assign [.Tuple [.Name x px, .Name y py] kt pt] (.Tuple [a, b] k2 pt2) pos) (mPar i j as) := by
  obtain ⟨t, q, s⟩ := ha
  exact ⟨_, ps_par hc hN hi hj hij hx hy q hw hs, ss_par s⟩
end

/-! ### targets -/
def QG (X : Cx) (js : List Nat) (tg : Expr) (g : TG) (m : GM) : Prop := PG X tg g ∧ SG X.K X.mg js g m
def QGs (X : Cx) (js : List Nat) (tgs : List Expr) (g : TGs) (m : GMs) : Prop := PGs X tgs g ∧ SGs X.K X.mg js g m
section
variable {X : Cx} {Wx : WX} {e tg : Expr} {es : List Expr} {ma : ME} {pos : Pos} {js ks : List Nat} {g : TG} {gs : TGs} {m : GM} {ms : GMs} {iter : Expr} {body : List Stmt} {mb : MS}
theorem qg_name (j : Nat) {x : Str} (hN : X.N.Nodup) (hi : X.N[j]? = some x := by rfl) (hx : Loc X.env.scope x := by first | exact Or.inl rfl | exact Or.inr rfl) (hf : X.fn x = true ∨ X.env.scope.names.lookup x = some .local := by first | exact .inl rfl | exact .inr rfl) : QG X [j] (.Name x pos) (gName j) (gmName j) :=
  ⟨pg_name hN hi hx hf, sg_name⟩
theorem qgs_nil : QGs X [] [] gNil gmNil := ⟨pgs_nil, sgs_nil⟩
theorem qgs_cons (h1 : QG X js e g m) (h2 : QGs X ks es gs ms) (hs : (assignEach (e :: es) X.env).map (·.2) = assign e X.env :: (assignEach es X.env).map (·.2) := by rfl) : QGs X (js ++ ks) (e :: es) (gCons g gs) (gmCons m ms) :=
  ⟨pgs_cons h1.1 h2.1 hs, sgs_cons h1.2 h2.2⟩
theorem qg_seq {k : Nat} (n : Nat) (hc : X.calm = true) (h : QGs X js es gs ms) (hn : (assignEach es X.env).length = n := by rfl) (hst : (assignEach es X.env).findIdx? (·.1) = none := by rfl) : QG X js (.Tuple es k pos) (gSeq X.K n gs) (gmSeq n ms) :=
  ⟨pg_seq hc h.1 hn hst, sg_seq h.2⟩
theorem qs_asg (he : QE X Wx e ma) (hg : QG X js tg g m) (hs : swapsWithSole [tg] e pos.line X.env = pure false := by rfl) (hw : swappedStores [tg] e X.env = pure none := by rfl)
    (h1 : (assignEach [tg] X.env).map (·.2) = [assign tg X.env] := by rfl) : QS X Wx (.Assign [tg] e pos) (mAsg m ma) := by
  obtain ⟨t, q, s⟩ := he
  exact ⟨_, ps_asg q hg.1 hs hw h1, ss_asg s hg.2⟩
/-- what is walked -/
def QI (X : Cx) (Wx : WX) (iter : Expr) (mi : MA) : Prop := ∃ wi, (∀ tg, PI X tg iter wi) ∧ SI X.K X.mg Wx wi mi ∧ ∀ x, foldedSetIterable iter X.env x = pure x
variable {e2 : Expr} {ma2 : ME} {mi : MA} {p : Pos}
theorem qi_seq (hi : QE X Wx iter ma) (hs : ∀ x, foldedSetIterable iter X.env x = pure x := by intro _; rfl) : QI X Wx iter (mSeqI ma) := by
  obtain ⟨t, q, s⟩ := hi
  exact ⟨_, fun _ => pi_seq q, si_seq s, hs⟩
theorem qi_rng1 (hgr : Gl X "range") (hm : X.mg "range" = none) (hi : QE X Wx e ma) (hse : starEach [e] X.env = [(false, eval e X.env)] := by rfl) (hs : ∀ x, foldedSetIterable (.Call (.Name "range" p) [e] [] pos) X.env x = pure x := by intro _; rfl) : QI X Wx (.Call (.Name "range" p) [e] [] pos) (mRng1 ma) := by
  obtain ⟨t, q, s⟩ := hi
  exact ⟨_, fun _ => pi_range1 hgr hm (pa_cons q pa_nil hse) hse, si_rng1 s, hs⟩
theorem qi_rng2 (hgr : Gl X "range") (hm : X.mg "range" = none) (hi : QE X Wx e ma) (hi2 : QE X Wx e2 ma2) (hse : starEach [e, e2] X.env = [(false, eval e X.env), (false, eval e2 X.env)] := by rfl) (hse2 : starEach [e2] X.env = [(false, eval e2 X.env)] := by rfl)
    (hs : ∀ x, foldedSetIterable (.Call (.Name "range" p) [e, e2] [] pos) X.env x = pure x := by intro _; rfl) : QI X Wx (.Call (.Name "range" p) [e, e2] [] pos) (mRng2 ma ma2) := by
  obtain ⟨t, q, s⟩ := hi
  obtain ⟨t2, q2, s2⟩ := hi2
  exact ⟨_, fun _ => pi_range2 hgr hm (pa_cons q (pa_cons q2 pa_nil hse2) (by rw [hse, hse2])) hse hse2, si_rng2 s s2, hs⟩
theorem qs_for (hp : PassesOwn (model X.prog X.w) X.A X.env X.xe) (hc : X.calm = true) (hi : QI X Wx iter mi) (hg : QG X js tg g m) (hb : QSs X Wx body mb) : QS X Wx (.For tg iter body [] pos) (mFor m mi mb) := by
  obtain ⟨wi, q, s, hs⟩ := hi
  obtain ⟨tb, qb, sb⟩ := hb
  exact ⟨_, ps_for hp hc (q _) hg.1 qb hs, s.for_ hg.2 sb⟩
end

/-! ### comprehensions: the reading that a function itself gives -/
section
variable (K : Frag) (mg : Str → Option Value) (Wx : WX)
def cE (m : ME) : TE := fun σ H Q => ∃ (h : Ent) (H0 : Hp) (s : Hd) (ρ : Env'), G h H0 H s ∧ Slots K mg h H0 H σ ρ ∧ Post K mg h (Den K mg h.a) (m ρ s) H0 H Wx Q
def cT (m : MT) : TT := fun σ H Q => ∃ (h : Ent) (H0 : Hp) (s : Hd) (ρ : Env'), G h H0 H s ∧ Slots K mg h H0 H σ ρ ∧ Post K mg h EqB (m ρ s) H0 H Wx Q
def cS (m : MS) : TS := fun D σ H => ∃ (h : Ent) (H0 : Hp) (s : Hd) (ρ : Env'), G h H0 H s ∧ Slots K mg h H0 H σ ρ ∧ PostS K mg h (m ρ s) H0 H Wx D
end
section
variable {K : Frag} {mg : Str → Option Value} {X : Cx} {Wx : WX} {e : Expr} {sts : List Stmt} {ma : ME} {mt : MT} {ms : MS}
theorem se_cE : SE K mg Wx (cE K mg Wx ma) ma := fun h H0 H s σ ρ Q g S p => ⟨h, H0, s, ρ, g, S, p⟩
theorem st_cT : ST K mg Wx (cT K mg Wx mt) mt := fun h H0 H s σ ρ Q g S p => ⟨h, H0, s, ρ, g, S, p⟩
theorem ss_cS : SS K mg Wx (cS K mg Wx ms) ms := fun h H0 H s σ ρ Q g S p => ⟨h, H0, s, ρ, g, S, p⟩
theorem QE.can (q : QE X Wx e ma) : PE X e (cE X.K X.mg Wx ma) := by
  obtain ⟨t, p, s⟩ := q
  exact ⟨fun pins sh σ H Q I ⟨h, H0, s', ρ, g, S, w⟩ => p.run pins sh σ H Q I (s h H0 H s' σ ρ Q g S w)⟩
theorem QT.can (q : QT X Wx e mt) : PT X e (cT X.K X.mg Wx mt) := by
  obtain ⟨t, p, s⟩ := q
  exact ⟨fun pins sh σ H Q I ⟨h, H0, s', ρ, g, S, w⟩ => p.run pins sh σ H Q I (s h H0 H s' σ ρ Q g S w)⟩
theorem QSs.can (q : QSs X Wx sts ms) : PSs X sts (cS X.K X.mg Wx ms) := by
  obtain ⟨t, p, s⟩ := q
  exact ⟨fun pins sh σ H D I ⟨h, H0, s', ρ, g, S, w⟩ => p.run pins sh σ H D I (s h H0 H s' σ ρ D g S w)⟩
end
section
variable {X : Cx} {Wx : WX} {elt tg iter e2 : Expr} {scope : Scope} {own : List (Str × Nat)} {pos p pos2 : Pos} {g : TG} {m : GM} {js : List Nat} {ifs : List Expr} {mt : MT} {ma mb mb2 : ME}
/-- the tests of a clause -/
def QTs (X : Cx) (ifs : List Expr) (mt : MT) : Prop := (ifs = [] ∧ mt = mYes) ∨ ∃ c, ifs = [c] ∧ QT X WF c mt
theorem qts_nil : QTs X [] mYes := .inl ⟨rfl, rfl⟩
theorem qts_one {c : Expr} (h : QT X WF c mt) : QTs X [c] mt := .inr ⟨c, rfl, h⟩
theorem QTs.can (q : QTs X ifs mt) : PTs X ifs (cT X.K X.mg WF mt) := by
  rcases q with ⟨rfl, rfl⟩ | ⟨c, rfl, q⟩
  · exact ⟨fun pins sh σ H Q I ⟨h, H0, s', ρ, g, S, w⟩ => pts_nil.run pins sh σ H Q I (w true H0 H (.refl _ _) g rfl)⟩
  · exact pts_one q.can
theorem qe_lc {mi : MA} {vs : List Nat} (hc : X.calm = true) (hN : X.N.Nodup) (hi : QI X Wx iter mi) (ok : BlkOk X.N X.env.scope scope own) (hvs : own.map (·.2) = vs) (hv : ∀ j ∈ js, j ∈ vs) (hsg : SG X.K X.mg js g m)
    (hg : ∀ (s : Shared) (H : Hp) (C : Addr) (cl : List (Str × Addr)) (fp : List Addr), PG (X.blk s H scope (compEnvC scope cl C X.env) fp) tg g)
    (ht : ∀ (s : Shared) (H : Hp) (C : Addr) (cl : List (Str × Addr)) (fp : List Addr), QTs (X.blk s H scope (compEnvC scope cl C X.env) fp) ifs mt)
    (he : ∀ (s : Shared) (H : Hp) (C : Addr) (cl : List (Str × Addr)) (fp : List Addr), QE (X.blk s H scope (compEnvC scope cl C X.env) fp) WF elt ma) :
    QE X Wx (.ListComp elt [⟨tg, iter, ifs, 0⟩] scope pos) (mLc m mi mt ma vs) := by
  subst hvs
  obtain ⟨wi, q, s, hs⟩ := hi
  exact ⟨_, pe_lc hc hN (q _) ok hg (fun s H C cl fp => (ht s H C cl fp).can) (fun s H C cl fp => (he s H C cl fp).can) hs, s.lc hsg hv st_cT se_cE⟩
/-- name = [..] -/
theorem qs_setLc {mi : MA} {vs : List Nat} (i : Nat) {y : Str} {py spos : Pos} (hc : X.calm = true) (hN : X.N.Nodup) (hi : QI X Wx iter mi) (ok : BlkOk X.N X.env.scope scope own) (hvs : own.map (·.2) = vs) (hv : ∀ j ∈ js, j ∈ vs) (hsg : SG X.K X.mg js g m)
    (hg : ∀ (s : Shared) (H : Hp) (C : Addr) (cl : List (Str × Addr)) (fp : List Addr), PG (X.blk s H scope (compEnvC scope cl C X.env) fp) tg g)
    (ht : ∀ (s : Shared) (H : Hp) (C : Addr) (cl : List (Str × Addr)) (fp : List Addr), QTs (X.blk s H scope (compEnvC scope cl C X.env) fp) ifs mt)
    (he : ∀ (s : Shared) (H : Hp) (C : Addr) (cl : List (Str × Addr)) (fp : List Addr), QE (X.blk s H scope (compEnvC scope cl C X.env) fp) WF elt ma)
    (hy : X.N[i]? = some y := by rfl) (hyl : X.env.scope.names.lookup y = some .local := by rfl) (hsw : swapsWith (.ListComp elt [⟨tg, iter, ifs, 0⟩] scope pos) (some (.Name y py)) spos.line X.env = pure true := by exact sw_true rfl rfl rfl (by decide +kernel)) :
    QS X Wx (.Assign [.Name y py] (.ListComp elt [⟨tg, iter, ifs, 0⟩] scope pos) spos) (mSet i (mLc m mi mt ma vs)) := by
  subst hvs
  obtain ⟨wi, q, s, hs⟩ := hi
  exact ⟨_, ps_setLc hc hN hy hyl hsw (q _) ok hg (fun s H C cl fp => (ht s H C cl fp).can) (fun s H C cl fp => (he s H C cl fp).can) hs, ss_set (s.lc hsg hv st_cT se_cE)⟩
end
end Mir


set_option Elab.async false
set_option linter.all false
set_option maxRecDepth 100000
namespace Mir
open PySem PySem.Spec PyProof.Rows L2
open PySem.W (Frag)

/-! ### defs -/
def startE (n : Nat) (ds : List Dt) : Env' := ds.map .dat ++ List.replicate (n - ds.length) .no
def mDef (n : Nat) (ms : MS) : List Dt → Hd → R Dt := fun ds s => match ms (startE n ds) s with
  | .ok (.nx _) s' => .ok .non s'
  | .ok (.rt d) s' => .ok d s'
  | .err c fs ρ s' => .err c fs ρ s'
  | _ => .bad
section
variable {K : Frag} {mg : Str → Option Value}
theorem slots_start {h : Ent} {H0 H : Hp} {N : List Str} {vs : List V} {ds : List Dt} (st : Step h.a h.E0 h.E H0 H) (da : DenA K mg h.a H0 vs ds) : Slots K mg h H0 H (L2.start N vs) (startE N.length ds) := by
  have l := da.len
  unfold L2.start startE
  have own : ∀ (i : Nat) (b : Sl), (ds.map Sl.dat ++ List.replicate (N.length - ds.length) Sl.no)[i]? = some b → b.mine = true → False := fun i b z m => by
    by_cases hi : i < ds.length
    · rw [List.getElem?_append_left (by rw [List.length_map]; exact hi), List.getElem?_map, List.getElem?_eq_getElem hi] at z
      cases z
      cases m
    · rw [List.getElem?_append_right (by rw [List.length_map]; omega), List.getElem?_replicate] at z
      split at z <;> cases z
      cases m
  refine ⟨by simp [l], fun i o sl a b => ?_, fun i j p x y e1 e2 m1 _ _ _ => (own i x e1 m1).elim, st⟩
  by_cases hi : i < ds.length
  · rw [List.getElem?_append_left (by rw [List.length_map]; omega), List.getElem?_map] at a
    rw [List.getElem?_append_left (by rw [List.length_map]; exact hi), List.getElem?_map, List.getElem?_eq_getElem hi] at b
    cases b
    obtain ⟨v, e1, e2⟩ := da.get (List.getElem?_eq_getElem hi)
    rw [e1] at a
    cases a
    exact e2
  · rw [List.getElem?_append_right (by rw [List.length_map]; omega), List.getElem?_replicate] at b
    split at b
    · cases b
      cases o <;> exact True.intro
    · cases b
theorem postS_of {h : Ent} {r : R Fl} {H0 H : Hp} {Q : VK} {E : XK} (p : PostC K mg h.a (match r with
    | .ok (.nx _) s' => .ok .non s'
    | .ok (.rt d) s' => .ok d s'
    | .err c fs ρ s' => .err c fs ρ s'
    | _ => .bad) h.E0 h.E E Q) : PostS K mg h r H0 H (fun c d _ H' => E c d H') { nx := fun _ H' => Q .non H', rt := Q } := by
  cases r with
  | ok f s =>
    cases f with
    | nx ρ => exact fun σ' A B st g S => p .non A B S.st g .non
    | rt d => exact p
    | bk ρ => exact p.elim
    | ct ρ => exact p.elim
  | err c fs ρ s => exact fun σ' C od A B st g S mc x => p C od A B S.st g mc x
  | bad => exact p
end
section
variable {P : Program} {w : World} {K : Frag} {mg : Str → Option Value} {base : Heap} {x qual : Str} {st : Stmt} {f : Addr} {fd : FuncData} {N ps : List Str} {k : Nat} {ms : MS}
abbrev cxD (P : Program) (w : World) (K : Frag) (mg : Str → Option Value) (base : Heap) (N : List Str) (qual : Str) (scope : Scope) (f : Addr) (cd : Value) (A : Around) (outer : List Env) (s : Shared) (H : Hp) (E : XK) : Cx := cxOf (L2.CX P w) P w K mg base N qual scope f cd A outer s H E
abbrev wE (E : XK) : WX := fun c d _ H => E c d H
theorem cx_takes {scope : Scope} {cdv : Value} {A : Around} {outer : List Env} {s : Shared} {H : Hp} {E : XK} : Takes (cxD P w K mg base N qual scope f cdv A outer s H E) (wE E) := takes_of rfl rfl rfl rfl
theorem cx_pass {scope : Scope} {cdv : Value} {A : Around} {outer : List Env} {s : Shared} {H : Hp} {E : XK} : PassesOwn (model (cxD P w K mg base N qual scope f cdv A outer s H E).prog (cxD P w K mg base N qual scope f cdv A outer s H E).w) (cxD P w K mg base N qual scope f cdv A outer s H E).A (cxD P w K mg base N qual scope f cdv A outer s H E).env (cxD P w K mg base N qual scope f cdv A outer s H E).xe := passes_of rfl
/-- a def follows its function -/
theorem okM {n nn : Nat} (F : Fun K x qual st f fd) (S : FnScope N ps (defScope st)) (hn : ps.length = n) (hN : N.length = nn)
    (hb : ∀ (cdv : Value) (A : Around) (outer : List Env) (s : Shared) (H : Hp) (E : XK), Room k (A.deeper (envOfC qual (defScope st) s.heap.objs.size f cdv)) → QSs (cxD P w K mg base N qual (defScope st) f cdv A outer s H E) (wE E) (defBody st) ms) :
    FnOk P w K mg base (L2.CX P w) (k + 1) f fd ps (spM K mg n (mDef nn ms)) := by
  subst hn
  subst hN
  refine F.okX S (fun vs H Q E h => h.1) (fun cdv A outer s H vs Q E hr h => ?_)
  obtain ⟨hl, hh, H0, s', ds, g, da, p⟩ := h
  obtain ⟨ts, q, ss⟩ := hb cdv A outer s H E hr
  exact ⟨ts, q, ss ⟨hh, H0, H, hh⟩ H0 H s' _ _ _ g (slots_start (.refl _ _) da) (postS_of (h := ⟨hh, H0, H, hh⟩) p)⟩
theorem okMD {n nn : Nat} {params : Arguments} {body : List Stmt} {scope : Scope} {dvs : List V} (F : FunD K x qual params body scope dvs [] f fd) (S : FnScope N ps scope) (hn : ps.length = n) (hN : N.length = nn)
    (hb : ∀ (cdv : Value) (A : Around) (outer : List Env) (s : Shared) (H : Hp) (E : XK), Room k (A.deeper (envOfC qual scope s.heap.objs.size f cdv)) → QSs (cxD P w K mg base N qual scope f cdv A outer s H E) (wE E) body ms) :
    FnOk P w K mg base (L2.CX P w) (k + 1) f fd ps (spM K mg n (mDef nn ms)) := by
  subst hn
  subst hN
  refine F.ok S (fun vs H Q E h => h.1) (fun cdv A outer s H vs Q E hr h => ?_)
  obtain ⟨hl, hh, H0, s', ds, g, da, p⟩ := h
  obtain ⟨ts, q, ss⟩ := hb cdv A outer s H E hr
  exact ⟨ts, q, ss ⟨hh, H0, H, hh⟩ H0 H s' _ _ _ g (slots_start (.refl _ _) da) (postS_of (h := ⟨hh, H0, H, hh⟩) p)⟩
end

/-! ### raise: an own error that keeps its arguments -/
/-- what __init__ of such a class promises -/
def spI (K : Frag) (names : List Str) : Sp := fun vs H Q E => ∃ (a C : Addr) (ws : List V), vs = .ref a :: ws ∧ ws.length = names.length ∧ H a = some (exo a C none) ∧ OexC K C ∧ (∀ f ∈ names, PySem.W.findIn K (.ref C) f = some none) ∧
  ∀ d : Addr, H d = none → d ≠ a → Q .non (upd (upd H d (exd d (names.zip ws).reverse)) a (exo a C (some d)))
/-- what the text knows of the class named c -/
structure ExC (X : Cx) (c : Str) (names : List Str) (C : Addr) : Prop where
  m : X.mg c = some (.ref C)
  ox : OexC X.K C
  no : ∀ f ∈ names, PySem.W.findIn X.K (.ref C) f = some none
def mRaise (c : Str) (names : List Str) (as : MA) : MS := fun ρ s => (as ρ s).bind fun ds s1 => if ds.length = names.length ∧ names.length ≤ 100 ∧ 0 < names.length then .err c (names.zip ds).reverse ρ s1 else .bad
section
variable {K : Frag} {mg : Str → Option Value} {h : Addr} {H : Hp}
theorem DenF.app : ∀ {a b : List (Str × V)} {c d : List (Str × Dt)}, DenF K mg h H a c → DenF K mg h H b d → DenF K mg h H (a ++ b) (c ++ d)
  | _, _, _, _, .nil, s => s
  | _, _, _, _, .cons r t, s => .cons r (DenF.app t s)
theorem DenF.zipR : ∀ {vs : List V} {ds : List Dt} (names : List Str), DenA K mg h H vs ds → DenF K mg h H (names.zip vs).reverse (names.zip ds).reverse
  | _, _, [], _ => by
    rw [List.zip_nil_left, List.zip_nil_left]
    exact .nil
  | _, _, _ :: _, .nil => .nil
  | _, _, n :: ns, .cons q r => by
    rw [List.zip_cons_cons, List.zip_cons_cons, List.reverse_cons, List.reverse_cons]
    exact DenF.app (DenF.zipR ns r) (.cons q .nil)
theorem DenF.look {f : Str} {d : Dt} : ∀ {fv : List (Str × V)} {fs : List (Str × Dt)}, DenF K mg h H fv fs → fs.lookup f = some d → ∃ v, fv.lookup f = some v ∧ Den K mg h H v d
  | _, _, .nil, e => by cases e
  | _, _, @DenF.cons _ _ _ _ n v vs d' ds q r, e => by
    by_cases c : f = n
    · subst c
      simp only [List.lookup, beq_self_eq_true] at e ⊢
      cases e
      exact ⟨v, rfl, q⟩
    · have c' : (f == n) = false := by simpa using c
      simp only [List.lookup, c'] at e ⊢
      exact DenF.look r e
end
section
variable {X : Cx} {Wx : WX} {e : Expr} {es : List Expr} {c : Str} {p pos pos2 : Pos} {as : MA}
theorem qs_raise {names : List Str} {C fI : Addr} {k : Nat} {fd : FuncData} {ps : List Str} (hc : X.calm = true) (tk : Takes X Wx) (T : ExC X c names C) (iC : PySem.W.findIn X.K (.ref C) "__init__" = some (some (.ref fI))) (tI : PySem.W.typeIn X.K (.ref fI) = some (.type "function"))
    (F1 : FnOk X.prog X.w X.K X.mg X.base (L2.CX X.prog X.w) k fI fd ps (spI X.K names)) (hr : Room (k + 1) X.A) (hb : Binds X.K fd ps []) (hg : Gl X c) (ha : QA X Wx (e :: es) as)
    (hdb : (c == ("__debug__" : Str)) = false := by decide) (he : starEach (e :: es) X.env = (false, eval e X.env) :: starEach es X.env := by rfl) (hpl : (backTo pos (starEach es X.env)).any (·.1) = false := by rfl) :
    QS X Wx (.Raise (some (.Call (.Name c p) (e :: es) [] pos)) none pos2) (mRaise c names as) := by
  obtain ⟨t, q, sa⟩ := ha
  refine ⟨_, ps_raise hc tk (pmk_oex T.ox iC tI F1 hr hb .nil passL hg T.m q hdb he hpl), ?_⟩
  intro h H0 H s σ ρ D g S pp
  show t σ H _
  refine sa h H0 H s σ ρ _ g S (PostS.bind pp fun ds s1 xs A B st g1 dx p1 => ?_)
  by_cases cc : ds.length = names.length ∧ names.length ≤ 100 ∧ 0 < names.length
  · rw [if_pos cc] at p1
    have l := dx.len
    refine ⟨by omega, fun a na => ⟨a, C, xs ++ [], rfl, by rw [List.append_nil]; omega, upd_same, T.ox, T.no, fun d hd nd => ?_⟩⟩
    rw [List.append_nil]
    have hd0 : B d = none := by rwa [upd_ne nd] at hd
    refine ⟨rfl, d, _, upd_same, by rw [upd_ne nd]; exact upd_same, hd0, ?_⟩
    have eq : upd (del (upd (upd (upd B a (exo a C none)) d (exd d (names.zip xs).reverse)) a (exo a C (some d))) a) d (.xd (names.zip xs).reverse) = upd B d (.xd (names.zip xs).reverse) := by
      funext b
      by_cases e1 : b = d
      · subst e1
        rw [upd_same, upd_same]
      · rw [upd_ne e1, upd_ne e1]
        by_cases e2 : b = a
        · subst e2
          rw [del_same, na]
        · rw [del_ne e2, upd_ne e2, upd_ne e1, upd_ne e2]
    rw [eq]
    obtain ⟨g2, st2⟩ := g1.side (o := .xd (names.zip xs).reverse) hd0
    have nz : (names.zip ds).reverse ≠ [] := fun z => by
      have z := congrArg List.length z
      rw [List.length_reverse, List.length_zip] at z
      have z : min names.length ds.length = 0 := z
      omega
    exact p1 σ C (some d) A _ st2.s0 g2 ((S.step st).step st2) T.m ⟨nz, _, upd_same, DenF.zipR names dx⟩
  · rw [if_neg cc] at p1
    exact p1.elim
end

theorem visP {N P : List Str} {sc : Scope} (S : FnScope N P sc) {x : Str} (m : x ∈ P) : Vis sc x := (S.par x m).elim .inl fun z => .inr (.inl z)
/-! ### __init__ of such a class, one and two fields -/
section
variable {P : Program} {w : World} {K : Frag} {mg : Str → Option Value} {base : Heap} {qual f1 f2 f3 : Str} {st : Stmt} {f : Addr} {fd : FuncData}
theorem init1 {p1 p2 p3 p4 : Pos} (F : Fun K "__init__" qual st f fd) (S : FnScope ["self", f1] ["self", f1] (defScope st)) (hb : defBody st = [.Assign [.Attribute (.Name "self" p1) f1 p2] (.Name f1 p3) p4])
    (hdb : (f1 == ("__debug__" : Str)) = false := by decide) (hcd : (f1 == ("__classdict__" : Str)) = false := by decide) : FnOk P w K mg base (L2.CX P w) 1 f fd ["self", f1] (spI K [f1]) := by
  refine F.okX S (fun vs H Q E h => ?_) (fun cdv A outer s H vs Q E hr h => ?_)
  · obtain ⟨a, C, ws, rfl, l, _⟩ := h
    show ws.length + 1 = 2
    rw [l]
    rfl
  · obtain ⟨a, C, ws, rfl, l, ha, T, no, q⟩ := h
    obtain ⟨y, rfl⟩ : ∃ y, ws = [y] := by
      match ws, l with
      | [y], _ => exact ⟨y, rfl⟩
    rw [hb]
    have v0 : Vis (defScope st) "self" := visP S List.mem_cons_self
    have v1 : Vis (defScope st) f1 := visP S (List.mem_cons_of_mem _ List.mem_cons_self)
    refine ⟨_, pss_one (ps_ost (pe_var (i := 0) rfl v0) (pe_var (i := 1) rfl v1 hdb hcd)), ?_⟩
    exact ⟨y, rfl, .ref a, rfl, a, C, rfl, T, no f1 List.mem_cons_self, .inl ⟨ha, fun dx hd nd => q dx hd nd⟩⟩
theorem init2 {p1 p2 p3 p4 q1 q2 q3 q4 : Pos} (F : Fun K "__init__" qual st f fd) (S : FnScope ["self", f1, f2] ["self", f1, f2] (defScope st))
    (hb : defBody st = [.Assign [.Attribute (.Name "self" p1) f1 p2] (.Name f1 p3) p4, .Assign [.Attribute (.Name "self" q1) f2 q2] (.Name f2 q3) q4])
    (hdb : (f1 == ("__debug__" : Str)) = false := by decide) (hcd : (f1 == ("__classdict__" : Str)) = false := by decide) (hdb2 : (f2 == ("__debug__" : Str)) = false := by decide) (hcd2 : (f2 == ("__classdict__" : Str)) = false := by decide) : FnOk P w K mg base (L2.CX P w) 1 f fd ["self", f1, f2] (spI K [f1, f2]) := by
  refine F.okX S (fun vs H Q E h => ?_) (fun cdv A outer s H vs Q E hr h => ?_)
  · obtain ⟨a, C, ws, rfl, l, _⟩ := h
    show ws.length + 1 = 3
    rw [l]
    rfl
  · obtain ⟨a, C, ws, rfl, l, ha, T, no, q⟩ := h
    obtain ⟨y, z, rfl⟩ : ∃ y z, ws = [y, z] := by
      match ws, l with
      | [y, z], _ => exact ⟨y, z, rfl⟩
    rw [hb]
    have v0 : Vis (defScope st) "self" := visP S List.mem_cons_self
    have v1 : Vis (defScope st) f1 := visP S (List.mem_cons_of_mem _ List.mem_cons_self)
    have v2 : Vis (defScope st) f2 := visP S (List.mem_cons_of_mem _ (List.mem_cons_of_mem _ List.mem_cons_self))
    refine ⟨_, pss_cons (ps_ost (pe_var (i := 0) rfl v0) (pe_var (i := 1) rfl v1 hdb hcd)) (pss_one (ps_ost (pe_var (i := 0) rfl v0) (pe_var (i := 2) rfl v2 hdb2 hcd2))), ?_⟩
    refine ⟨y, rfl, .ref a, rfl, a, C, rfl, T, no f1 List.mem_cons_self, .inl ⟨ha, fun dx hd nd => ?_⟩⟩
    refine ⟨z, rfl, .ref a, rfl, a, C, rfl, T, no f2 (List.mem_cons_of_mem _ List.mem_cons_self), .inr ⟨dx, [(f1, y)], upd_same, by rw [upd_ne nd]; exact upd_same, (show 1 ≤ 900 by decide), ?_⟩⟩
    have eq : upd (upd (upd H dx (exd dx [(f1, y)])) a (exo a C (some dx))) dx (exd dx [(f2, z), (f1, y)]) = upd (upd H dx (exd dx [(f2, z), (f1, y)])) a (exo a C (some dx)) := by
      funext b
      by_cases e1 : b = dx
      · subst e1
        rw [upd_same, upd_ne nd, upd_same]
      · rw [upd_ne e1]
        by_cases e2 : b = a
        · subst e2
          rw [upd_same, upd_same]
        · rw [upd_ne e2, upd_ne e2, upd_ne e1, upd_ne e1]
    show Q .non _
    rw [eq]
    exact q dx hd nd
end
end Mir


set_option Elab.async false
set_option linter.all false
set_option maxRecDepth 100000
namespace Mir
open PySem PySem.Spec PyProof.Rows L2
open PySem.W (Frag)

/-! ### the hand: how it is made -/
def hAdd : R2 := rI0 fun i j => .int (i + j)
def hMul : R2 := rI CMul fun i j => .int (i * j)
def hMod : R2 := rI (fun _ j => 0 < j) fun i j => .int (i % j)
def hDiv : R2 := rI CDiv fun i j => .int (i / j)
def hDivW : R2 := rI CDivW fun i j => .int (i / j)
def hPow : R2 := rI CPow fun i j => .int (i ^ j.toNat)
def hGe : R2 := rI0 fun i j => .bl (decide (j ≤ i))
def cInt : List V → Hp → VK → Prop := fun xs H Q => (∃ i, xs = [.int i] ∧ Q (.int i) H) ∨ ∃ k, xs = [.bl k] ∧ Q (.int (if k then 1 else 0)) H
def cAbs : List V → Hp → VK → Prop := fun xs H Q => ∃ i, xs = [.int i] ∧ Q (.int (if i < 0 then -i else i)) H
def t1 (r : List V → Hp → VK → Prop) (t : TE) : TE := tCB r (tCons t tNil)
def tI (i : Int) : TE := tC (.int i)
def tHandTurn (K : Frag) : TS :=
  tSeq (tAsg (t1 cAbs (t1 cInt (tVar 3))) (gName 4))
    (tSeq (tAsg (tOp hAdd (tOp hMod (t1 cInt (tOp hAdd (tOp hMul (tVar 2) (tI 31337)) (tVar 4))) (tI 2147483629)) (tI 1)) (gName 2))
      (tIfS (tTest (tOp hGe (tVar 4) (tOp hPow (tI 10) (tI 18)))) (tDrop (tBM K "list" rAppend (tVar 1) (tCons (tVar 4) tNil))) tNext))
def tHand (K : Frag) : TS :=
  tSeq (tAsg (tLst tNil) (gName 1)) (tSeq (tAsg (tOp hAdd (t1 (rLenA K) (tVar 0)) (tI 7)) (gName 2))
    (tSeq (tFor (iList K (tVar 0)) (gName 3) (tHandTurn K)) (tRet (tLst (tCons (tVar 1) (tCons (tVar 2) (tCons (tI 0) tNil)))))))
def spHand (K : Frag) : Sp := fun vs H Q _ => ∃ (a : Addr) (ns : List Int), vs = [.ref a] ∧ SqL K H a (ns.map V.int) ∧ ns.length ≤ 63 ∧
  ∀ (h gl : Addr) (g : List Int) (m : Int) (H' : Hp), Same H H' → H h = none → H gl = none → gl ≠ h → H' h = some (.lst [.ref gl, .int m, .int 0]) → H' gl = some (.lst (g.map V.int)) → Q (.ref h) H'
theorem pow18 : CPow 10 18 := ⟨by decide, by decide, by decide⟩
theorem hand_run {K : Frag} {vs : List V} {H : Hp} {Q : VK} {E : XK} (hh : spHand K vs H Q E) : tHand K { nx := fun _ H' => Q .non H', rt := Q } (vs.map some ++ [none, none, none, none]) H := by
  obtain ⟨a, ns, rfl, hS, hl, q⟩ := hh
  refine ⟨Nat.zero_le _, fun gl hgl => ?_⟩
  have s1 : Same H (upd H gl (.lst [])) := same_upd' hgl
  refine ⟨.ref a, rfl, .inl ⟨a, _, rfl, .inl (s1.seq hS), _, 7, rfl, rfl, ?_⟩⟩
  refine ⟨.ref a, rfl, a, rfl, ⟨_, s1.seq hS⟩, for_list (K := K) (a := a) (xs := ns.map V.int) (fun i σ H' => ∃ (g : List Int) (m : Int) (y z : Option V), σ = [some (.ref a), some (.ref gl), some (.int m), y, z] ∧ Same H H' ∧ H' gl = some (.lst (g.map V.int)) ∧ g.length ≤ i)
    ⟨[], _, none, none, rfl, s1, upd_same, Nat.le_refl _⟩ (fun i σ H' _ ⟨_, _, _, _, _, s, _⟩ => s.seq hS) ?_ ?_⟩
  · rintro i x σ H' hx ⟨g, m, y, z, rfl, s, eg, lg⟩
    have hi : i < ns.length := by
      obtain ⟨w, _⟩ := List.getElem?_eq_some_iff.mp hx
      simpa using w
    obtain ⟨n, hn⟩ : ∃ n, x = V.int n := by
      rw [List.getElem?_map, List.getElem?_eq_getElem hi] at hx
      exact ⟨_, (Option.some.inj hx).symm⟩
    subst hn
    refine ⟨_, rfl, .inl ⟨n, rfl, n, rfl, ?_⟩⟩
    generalize hz : (if n < 0 then -n else n) = k
    refine ⟨_, rfl, m, 31337, rfl, rfl, .inr ⟨by decide, by decide⟩, _, rfl, _, k, rfl, rfl, .inl ⟨_, rfl, _, 2147483629, rfl, rfl, (show (0 : Int) < 2147483629 by decide), _, 1, rfl, rfl, ?_⟩⟩
    refine ⟨_, rfl, 10, 18, rfl, rfl, pow18, k, 10 ^ 18, rfl, rfl, _, rfl, ?_⟩
    by_cases c : (10 : Int) ^ 18 ≤ k
    · rw [decide_eq_true c]
      refine iteT ⟨.ref gl, rfl, .inl ⟨rfl, _, .inl (.inl eg)⟩, .int k, rfl, gl, _, _, rfl, rfl, eg, ?_, ?_⟩
      · rw [List.length_map]
        exact small1000 (by omega)
      · refine ⟨g ++ [k], _, _, _, rfl, fun b o w => ?_, ?_, ?_⟩
        · have nb : b ≠ gl := ne_of_none w hgl
          rw [upd_ne nb]
          exact s b o w
        · rw [upd_same, List.map_append]
          rfl
        · rw [List.length_append]
          show g.length + 1 ≤ i + 1
          omega
    · rw [decide_eq_false c]
      exact iteF ⟨g, _, _, _, rfl, s, eg, by omega⟩
  · rintro σ H' ⟨g, m, y, z, rfl, s, eg, lg⟩
    refine ⟨_, rfl, _, rfl, (by show 3 ≤ sizeLine; decide), fun h nh => ?_⟩
    have n1 : gl ≠ h := ne_of_none eg nh
    refine q h gl g m _ (fun b o w => ?_) (s.free nh) hgl n1 upd_same (by rw [upd_ne n1]; exact eg)
    rw [upd_ne (ne_of_none (s b o w) nh)]
    exact s b o w

/-! ### the hand: a draw -/
def dropZ : List Int → List Int
  | [] => []
  | x :: r => if x = 0 then dropZ r else x :: r
def stM (s : Hd) : Int := (s.m * 69621 + 12345) % 2147483647
def stO (m c : Int) : Int := (m * 48271 + c * 7919) % 2147483629
def stT (o c : Int) : Int := (o * o + c * 104729 + o / 131) % 2147483587
def takeV (s : Hd) (many : Int) : Int := match dropZ s.g with
  | x :: _ => x % many
  | [] => (stT (stO (stM s) (s.c + 1)) (s.c + 1) / 17) % many
def takeS (s : Hd) (many : Int) : Hd := match dropZ s.g with
  | x :: r => ⟨(x / many) :: r, s.m, s.c⟩
  | [] => ⟨[], stM s, s.c + 1⟩
def manyOk (n : Int) : Prop := 0 < n ∧ n.natAbs.log2 < 9000
instance (n : Int) : Decidable (manyOk n) := inferInstanceAs (Decidable (_ ∧ _))
def mTake : List Dt → Hd → R Dt := fun ds s => match ds with
  | [.hnd, .int n] => if manyOk n then .ok (.int (takeV s n)) (takeS s n) else .bad
  | _ => .bad
theorem takeV_ge {s : Hd} {n : Int} (h : 0 < n) : 0 ≤ takeV s n := by
  unfold takeV
  split <;> exact Int.emod_nonneg _ (by omega)
theorem takeV_lt {s : Hd} {n : Int} (h : 0 < n) : takeV s n < n := by
  unfold takeV
  split <;> exact Int.emod_lt_of_pos _ h
/-- the hand changed, nothing else -/
theorem G.mut {h : Addr} {H0 H H' : Hp} {s s' : Hd} {gl gl' : Addr} (g : G h H0 H s) (e1 : H h = some (.lst [.ref gl, .int s.m, .int s.c])) (n0 : H0 gl = none) (n1 : H0 gl' = none) (n2 : gl' ≠ h)
    (e3 : H' h = some (.lst [.ref gl', .int s'.m, .int s'.c])) (e4 : H' gl' = some (.lst (s'.g.map V.int))) (k : ∀ q o, H q = some o → q ≠ h → q ≠ gl → H' q = some o) (f : gl' = gl ∨ H gl' = none) : G h H0 H' s' ∧ Step h H0 H H0 H' := by
  refine ⟨⟨fun q o w => k q o (g.ex q o w) (fun z => ?_) (fun z => ?_), g.h0, gl', n1, n2, e3, e4⟩, ⟨Same.refl _, fun q o w1 w2 w3 => ?_⟩⟩
  · rw [z, g.h0] at w
    cases w
  · rw [z, n0] at w
    cases w
  · have a1 : q ≠ h := fun z => w3 (.inl z)
    have a2 : q ≠ gl := fun z => w3 (.inr ⟨_, by rw [z]; exact e1⟩)
    refine ⟨k q o w1 a1 a2, w2, fun w => ?_⟩
    rcases w with w | ⟨r, w⟩
    · exact a1 w
    · rw [e3] at w
      have w' : q = gl' := by
        have := Option.some.inj w
        injection this with z
        injection z with z1 z2
        injection z1 with z3
        exact z3.symm
      rcases f with f | f
      · exact a2 (w'.trans f)
      · rw [w', f] at w1
        cases w1
def t0 (K : Frag) : TE := tOp (rIxL K) (tVar 0) (tI 0)
def t00 (K : Frag) : TE := tOp (rIxL K) (t0 K) (tI 0)
def tAt (K : Frag) (i : Int) : TE := tOp (rIxL K) (tVar 0) (tI i)
def tTr (K : Frag) (ta : TE) : TT := fun σ H Q => ta σ H fun x H' => ∃ k, TruV K x H' k ∧ Q k H'
def tTakeW (K : Frag) : TS := tWhile (tAnd (tTr K (t0 K)) (tTest (tOp rEq (t00 K) (tI 0)))) (tAsg (tSl (rSlL K) (t0 K) (tPart (tI 1)) tNoPart) (gSub (tVar 0) (tI 0) rSetL))
def tTakeI (K : Frag) : TS := tSeq (tAsg (t00 K) (gName 2)) (tSeq (tAsg (tOp hDivW (t1 cInt (tVar 2)) (tVar 1)) (gSub (t0 K) (tI 0) rSetL)) (tRet (tOp hMod (t1 cInt (tVar 2)) (tVar 1))))
def tTakeR (K : Frag) : TS :=
  tSeq (tAsg (tOp hAdd (tAt K 2) (tI 1)) (gSub (tVar 0) (tI 2) rSetL))
    (tSeq (tAsg (tOp hMod (t1 cInt (tOp hAdd (tOp hMul (tAt K 1) (tI 69621)) (tI 12345))) (tI 2147483647)) (gSub (tVar 0) (tI 1) rSetL))
    (tSeq (tAsg (tOp hMod (t1 cInt (tOp hAdd (tOp hMul (tAt K 1) (tI 48271)) (tOp hMul (tAt K 2) (tI 7919)))) (tI 2147483629)) (gName 3))
    (tSeq (tAsg (tOp hMod (t1 cInt (tOp hAdd (tOp hAdd (tOp hMul (tVar 3) (tVar 3)) (tOp hMul (tAt K 2) (tI 104729))) (tOp hDiv (tVar 3) (tI 131)))) (tI 2147483587)) (gName 4))
    (tRet (tOp hMod (t1 cInt (tOp hDiv (tVar 4) (tI 17))) (tVar 1))))))
def tTake (K : Frag) : TS := tSeq (tTakeW K) (tSeq (tIfS (tTr K (t0 K)) (tTakeI K) tNext) (tTakeR K))
theorem take_run {K : Frag} {mg : Str → Option Value} {vs : List V} {H : Hp} {Q : VK} {E : XK} (hh : spM K mg 2 mTake vs H Q E) : tTake K { nx := fun _ H' => Q .non H', rt := Q } (vs.map some ++ [none, none, none]) H := by
  obtain ⟨hl, h, H0, s, ds, g, da, p⟩ := hh
  -- the arguments
  obtain ⟨n, rfl, mk⟩ : ∃ n : Int, ds = [.hnd, .int n] ∧ manyOk n := by
    unfold mTake at p
    split at p
    · split at p
      · exact ⟨_, rfl, by assumption⟩
      · exact p.elim
    · exact p.elim
  obtain ⟨v, w, rfl, dv, dw⟩ := da.two
  cases dv
  cases dw
  have p : PostC K mg h (if manyOk n then .ok (.int (takeV s n)) (takeS s n) else .bad) H0 H E Q := p
  rw [if_pos mk] at p
  -- the loop
  refine ⟨fun k σ H' => ∃ gz, σ = [some (.ref h), some (.int n), none, none, none] ∧ gz.length = k ∧ dropZ gz = dropZ s.g ∧ G h H0 H' ⟨gz, s.m, s.c⟩ ∧ Step h H0 H H0 H', ⟨_, s.g, rfl, rfl, rfl, g, .refl _ _⟩, ?_⟩
  rintro k σ H' ⟨gz, rfl, hk, hz, g1, st1⟩
  obtain ⟨gl, a1, a2, a3, a4⟩ := g1.gl
  have eh : SqL K H' h [.ref gl, .int s.m, .int s.c] := SqL.of a3
  have eg : SqL K H' gl (gz.map V.int) := SqL.of a4
  have x0 : atI [V.ref gl, .int s.m, .int s.c] 0 = some (.ref gl) := rfl
  refine ⟨.ref h, rfl, h, _, 0, _, rfl, rfl, eh, x0, ?_⟩
  cases gz with
  | nil =>
    refine ⟨false, .inl ⟨_, eg, rfl⟩, ?_⟩
    refine iteF (iteF ?_)
    -- nothing great is left
    refine ⟨.ref h, rfl, h, _, 0, _, rfl, rfl, eh, x0, false, .inl ⟨_, eg, rfl⟩, iteF ?_⟩
    have hz : dropZ s.g = [] := hz.symm
    refine ⟨.ref h, rfl, h, _, 2, .int s.c, rfl, rfl, eh, rfl, s.c, 1, rfl, rfl, .ref h, rfl, h, _, 2, 2, rfl, rfl, a3, rfl, ?_⟩
    have b3 : (upd H' h (.lst [.ref gl, .int s.m, .int (s.c + 1)])) h = some (.lst [.ref gl, .int s.m, .int (s.c + 1)]) := upd_same
    refine ⟨.ref h, rfl, h, [.ref gl, .int s.m, .int (s.c + 1)], 1, .int s.m, rfl, rfl, SqL.of b3, rfl, s.m, 69621, rfl, rfl, .inr ⟨by decide, by decide⟩, _, 12345, rfl, rfl, .inl ⟨_, rfl, _, 2147483647, rfl, rfl, (show (0 : Int) < 2147483647 by decide), .ref h, rfl, h, _, 1, 1, rfl, rfl, b3, rfl, ?_⟩⟩
    have c3 : (upd (upd H' h (.lst [.ref gl, .int s.m, .int (s.c + 1)])) h (.lst [.ref gl, .int (stM s), .int (s.c + 1)])) h = some (.lst [.ref gl, .int (stM s), .int (s.c + 1)]) := upd_same
    have c4 : SqL K (upd (upd H' h (.lst [.ref gl, .int s.m, .int (s.c + 1)])) h (.lst [.ref gl, .int (stM s), .int (s.c + 1)])) h [.ref gl, .int (stM s), .int (s.c + 1)] := SqL.of c3
    refine ⟨.ref h, rfl, h, _, 1, .int (stM s), rfl, rfl, c4, rfl, stM s, 48271, rfl, rfl, .inr ⟨by decide, by decide⟩, .ref h, rfl, h, _, 2, .int (s.c + 1), rfl, rfl, c4, rfl, s.c + 1, 7919, rfl, rfl, .inr ⟨by decide, by decide⟩, _, _, rfl, rfl, .inl ⟨_, rfl, _, 2147483629, rfl, rfl, (show (0 : Int) < 2147483629 by decide), ?_⟩⟩
    have ob : 0 ≤ stO (stM s) (s.c + 1) ∧ stO (stM s) (s.c + 1) < 2147483629 := ⟨Int.emod_nonneg _ (by decide), Int.emod_lt_of_pos _ (by decide)⟩
    refine ⟨_, rfl, _, rfl, stO (stM s) (s.c + 1), stO (stM s) (s.c + 1), rfl, rfl, .inl ⟨by omega, by omega⟩, .ref h, rfl, h, _, 2, .int (s.c + 1), rfl, rfl, c4, rfl, s.c + 1, 104729, rfl, rfl, .inr ⟨by decide, by decide⟩, _, _, rfl, rfl,
      _, rfl, stO (stM s) (s.c + 1), 131, rfl, rfl, ⟨by decide, by decide⟩, _, _, rfl, rfl, .inl ⟨_, rfl, _, 2147483587, rfl, rfl, (show (0 : Int) < 2147483587 by decide), ?_⟩⟩
    refine ⟨_, rfl, stT (stO (stM s) (s.c + 1)) (s.c + 1), 17, rfl, rfl, ⟨by decide, by decide⟩, .inl ⟨_, rfl, _, rfl, _, n, rfl, rfl, mk.1, ?_⟩⟩
    have ng : gl ≠ h := a2
    obtain ⟨g2, st2⟩ := g1.mut (s' := ⟨[], stM s, s.c + 1⟩) (gl' := gl) a3 a1 a1 ng c3 (by rw [upd_ne ng, upd_ne ng]; exact a4) (fun q o w w1 w2 => by rw [upd_ne w1, upd_ne w1]; exact w) (.inl rfl)
    have ev : takeV s n = (stT (stO (stM s) (s.c + 1)) (s.c + 1) / 17) % n := by
      unfold takeV
      rw [hz]
    have es : takeS s n = ⟨[], stM s, s.c + 1⟩ := by
      unfold takeS
      rw [hz]
    have p : ∀ v H0' H', Step h H0 H H0' H' → G h H0' H' (takeS s n) → Den K mg h H0' v (.int (takeV s n)) → Q v H' := p
    rw [es, ev] at p
    exact p _ H0 _ (st1.trans st2) g2 (.int _)
  | cons z gr =>
    refine ⟨true, .inl ⟨_, eg, rfl⟩, iteT ?_⟩
    have ix0 : ixN ((z :: gr).map V.int).length 0 = some 0 := by
      unfold ixN
      rw [if_pos (by decide), if_pos (by rw [List.length_map, List.length_cons]; omega)]
      rfl
    have y0 : atI (((z :: gr).map V.int)) 0 = some (.int z) := atI_nat (j := 0) rfl
    refine ⟨.ref h, rfl, h, _, 0, _, rfl, rfl, eh, x0, gl, _, 0, _, rfl, rfl, eg, y0, rfl, _, rfl, ?_⟩
    by_cases cz : z = 0
    · subst cz
      rw [decide_eq_true rfl]
      refine iteT ⟨fun σ' H'' => ∃ k', k' < k ∧ ∃ gz, σ' = [some (.ref h), some (.int n), none, none, none] ∧ gz.length = k' ∧ dropZ gz = dropZ s.g ∧ G h H0 H'' ⟨gz, s.m, s.c⟩ ∧ Step h H0 H H0 H'', fun _ _ w => w, ?_⟩
      refine ⟨.ref h, rfl, h, _, 0, _, rfl, rfl, eh, x0, 1, rfl, gl, _, rfl, eg, fun q nq => ?_⟩
      have cut : cutV ((0 :: gr).map V.int) (some 1) none = gr.map V.int := by
        unfold cutV
        rw [show HT.sIx ((0 :: gr).map V.int).length 0 (some 1) = min 1 ((0 :: gr).map V.int).length from HT.sIx_nat _ 0 1, HT.sIx_none]
        simp
        exact List.take_of_length_le (by rw [List.length_map]; exact Nat.le_refl _)
      rw [cut]
      have nh : h ≠ q := ne_of_none a3 nq
      have ngq : gl ≠ q := ne_of_none a4 nq
      refine ⟨.ref h, rfl, h, [.ref gl, .int s.m, .int s.c], 0, 0, rfl, rfl, by rw [upd_ne nh]; exact a3, rfl, ?_⟩
      have nq0 : H0 q = none := g1.ex.free nq
      obtain ⟨g2, st2⟩ := g1.mut (s' := ⟨gr, s.m, s.c⟩) (gl' := q) (H' := upd (upd H' q (.lst (gr.map V.int))) h (.lst [.ref q, .int s.m, .int s.c])) a3 a1 nq0 (Ne.symm nh) upd_same (by rw [upd_ne (Ne.symm nh), upd_same])
        (fun b o w w1 w2 => by rw [upd_ne w1, upd_ne (ne_of_none w nq)]; exact w) (.inr nq)
      have hz' : dropZ gr = dropZ s.g := by
        rw [← hz]
        show _ = if (0 : Int) = 0 then dropZ gr else _
        rw [if_pos rfl]
      exact ⟨gr.length, by rw [← hk]; exact Nat.lt_succ_self _, gr, rfl, rfl, hz', g2, st1.trans st2⟩
    · have dn : decide (V.int z = V.int 0) = false := decide_eq_false fun e => cz (V.int.inj e)
      rw [dn]
      refine iteF ?_
      have hz2 : dropZ s.g = z :: gr := by
        rw [← hz]
        show (if z = 0 then dropZ gr else z :: gr) = _
        rw [if_neg cz]
      refine ⟨.ref h, rfl, h, _, 0, _, rfl, rfl, eh, x0, true, .inl ⟨_, eg, rfl⟩, iteT ?_⟩
      refine ⟨.ref h, rfl, h, _, 0, _, rfl, rfl, eh, x0, gl, _, 0, _, rfl, rfl, eg, y0, ?_⟩
      refine ⟨_, rfl, .inl ⟨z, rfl, _, rfl, z, n, rfl, rfl, ⟨mk.1, mk.2⟩, .ref h, rfl, h, _, 0, _, rfl, rfl, eh, x0, gl, _, 0, 0, rfl, rfl, a4, ix0, ?_⟩⟩
      have ng : h ≠ gl := Ne.symm a2
      refine ⟨_, rfl, .inl ⟨z, rfl, _, rfl, z, n, rfl, rfl, mk.1, ?_⟩⟩
      obtain ⟨g2, st2⟩ := g1.mut (s' := ⟨(z / n) :: gr, s.m, s.c⟩) (gl' := gl) (H' := upd H' gl (.lst (((z :: gr).map V.int).set 0 (.int (z / n))))) a3 a1 a1 a2 (by rw [upd_ne ng]; exact a3) (by rw [upd_same]; rfl) (fun q o w w1 w2 => by rw [upd_ne w2]; exact w) (.inl rfl)
      have ev : takeV s n = z % n := by
        unfold takeV
        rw [hz2]
      have es : takeS s n = ⟨(z / n) :: gr, s.m, s.c⟩ := by
        unfold takeS
        rw [hz2]
      have p : ∀ v H0' H', Step h H0 H H0' H' → G h H0' H' (takeS s n) → Den K mg h H0' v (.int (takeV s n)) → Q v H' := p
      rw [es, ev] at p
      exact p _ H0 _ (st1.trans st2) g2 (.int _)
end Mir


set_option Elab.async false
set_option linter.all false
set_option maxRecDepth 100000
namespace Mir
open PySem PySem.Spec PyProof.Rows L2
open PySem.W (Frag)

/-! ### try: body, except c as w: suite -/
/-- a suite's function: the caught error's fields first -/
abbrev MX := List (Str × Dt) → MS
def mTryAs (i : Nat) (c : Str) (body : MS) (suite : MX) : MS := fun ρ s => match body ρ s with
  | .err c' fs ρ' s' => if c' = c ∧ i < ρ'.length then (match suite fs (ρ'.set i .no) s' with
      | .ok (.nx ρ2) s2 => .ok (.nx (ρ2.set i .no)) s2
      | .ok (.rt d) s2 => .ok (.rt d) s2
      | .ok (.bk ρ2) s2 => .ok (.bk (ρ2.set i .no)) s2
      | .ok (.ct ρ2) s2 => .ok (.ct (ρ2.set i .no)) s2
      | _ => .bad) else .bad
  | .ok f s' => .ok f s'
  | .bad => .bad
section
variable (K : Frag) (mg : Str → Option Value) (i : Nat) (C a : Addr) (dd : Option Addr)
def XE' (te : TE) (m : List (Str × Dt) → ME) : Prop := ∀ (h : Ent) (H0 H : Hp) (s : Hd) (σ : L2.St) (ρ : Env') (Q : VK) (fs : List (Str × Dt)), G h H0 H s → Slots K mg h H0 H σ ρ → σ[i]? = some (some (.ref a)) → XdOk K mg h H0 H dd fs →
  Post K mg h (Den K mg h.a) (m fs ρ s) H0 H WF Q → te σ H Q
def XA' (te : TA) (m : List (Str × Dt) → MA) : Prop := ∀ (h : Ent) (H0 H : Hp) (s : Hd) (σ : L2.St) (ρ : Env') (Q : List V → Hp → Prop) (fs : List (Str × Dt)), G h H0 H s → Slots K mg h H0 H σ ρ → σ[i]? = some (some (.ref a)) → XdOk K mg h H0 H dd fs →
  Post K mg h (DenA K mg h.a) (m fs ρ s) H0 H WF Q → te σ H Q
def XS' (ts : TS) (m : MX) : Prop := ∀ (h : Ent) (H0 H : Hp) (s : Hd) (σ : L2.St) (ρ : Env') (D : Ends) (fs : List (Str × Dt)), G h H0 H s → Slots K mg h H0 H σ ρ → σ[i]? = some (some (.ref a)) → XdOk K mg h H0 H dd fs →
  PostS K mg h (m fs ρ s) H0 H WF D → ts D σ H
end
def xFld (f : Str) : List (Str × Dt) → ME := fun fs _ s => liftO (fs.lookup f) s
def xC (d : Dt) : List (Str × Dt) → ME := fun _ _ s => .ok d s
def xNil : List (Str × Dt) → MA := fun _ _ s => .ok [] s
def xCons (a : List (Str × Dt) → ME) (r : List (Str × Dt) → MA) : List (Str × Dt) → MA := fun fs ρ s => (a fs ρ s).bind fun d s1 => (r fs ρ s1).bind fun ds s2 => .ok (d :: ds) s2
def xTup (as : List (Str × Dt) → MA) : List (Str × Dt) → ME := fun fs ρ s => (as fs ρ s).bind fun ds s1 => if ds.length ≤ 100000 then .ok (.tup ds) s1 else .bad
def xRet (a : List (Str × Dt) → ME) : MX := fun fs ρ s => (a fs ρ s).bind fun d s1 => .ok (.rt d) s1
section
variable {K : Frag} {mg : Str → Option Value} {i : Nat} {C a : Addr} {dd : Option Addr} {te : TE} {ta : TA} {m : List (Str × Dt) → ME} {ma : List (Str × Dt) → MA}
theorem xd_keep {h : Addr} {H0 H H0' H' : Hp} {s s' : Hd} {fv : List (Str × V)} {dd : Addr} (g : G h H0 H s) (st : Step h H0 H H0' H') (g' : G h H0' H' s') (e : H dd = some (.xd fv)) : H' dd = some (.xd fv) := by
  cases q : H0 dd with
  | some o =>
    have w := g.ex _ _ q
    rw [e] at w
    cases w
    exact g'.ex _ _ (st.s0 _ _ q)
  | none =>
    refine (st.fr dd _ e q fun z => ?_).1
    obtain ⟨gl, a1, a2, a3, a4⟩ := g.gl
    rcases z with z | ⟨r, z⟩
    · rw [z, a3] at e
      cases e
    · rw [a3] at z
      cases z
      rw [a4] at e
      cases e
theorem xd_step' {h : Addr} {H0 H H0' H' : Hp} {s s' : Hd} {fs : List (Str × Dt)} (g : G h H0 H s) (st : Step h H0 H H0' H') (g' : G h H0' H' s') (e : XdOk K mg h H0 H dd fs) : XdOk K mg h H0' H' dd fs := by
  cases dd with
  | none => exact e
  | some dd =>
    obtain ⟨nz, fv, e1, e2⟩ := e
    exact ⟨nz, fv, xd_keep g st g' e1, e2.mono st.s0⟩
theorem xe_fld {f : Str} : XE' K mg i a dd (tXf a (.ref C) dd C f (tVar i)) (xFld f) := by
  intro h H0 H s σ ρ Q fs g S ei ed p
  obtain ⟨z, hz, p⟩ := post_lift p
  cases dd with
  | none =>
    have ed : fs = [] := ed
    subst ed
    cases hz
  | some dd =>
    obtain ⟨_, fv, ed, df⟩ := ed
    obtain ⟨v, e1, e2⟩ := df.look hz
    exact ⟨.ref a, ei, rfl, rfl, dd, fv, v, rfl, ed, e1, p v H0 H (.refl _ _) g e2⟩
theorem xe_c {v : V} {d : Dt} (hd : ∀ (h : Addr) (H : Hp), Den K mg h H v d) : XE' K mg i a dd (tC v) (xC d) := fun h H0 H s σ ρ Q fs g S ei ed p => p v H0 H (.refl _ _) g (hd h H0)
theorem xa_nil : XA' K mg i a dd tNil xNil := fun h H0 H s σ ρ Q fs g S ei ed p => p [] H0 H (.refl _ _) g .nil
theorem xa_cons (h1 : XE' K mg i a dd te m) (h2 : XA' K mg i a dd ta ma) : XA' K mg i a dd (tCons te ta) (xCons m ma) := by
  intro h H0 H s σ ρ Q fs g S ei ed p
  refine h1 h H0 H s σ ρ _ fs g S ei ed (Post.bind p fun d s1 x A B st g1 dx p1 => h2 h A B s1 σ ρ _ fs g1 (S.step st) ei (xd_step' g st g1 ed) (Post.bind p1 fun ds s2 xs A2 B2 st2 g2 dxs p2 => ?_))
  exact p2 (x :: xs) A2 B2 (.refl _ _) g2 (.cons (dx.mono st2.s0) dxs)
theorem xe_tup (h1 : XA' K mg i a dd ta ma) : XE' K mg i a dd (tTup ta) (xTup ma) := by
  intro h H0 H s σ ρ Q fs g S ei ed p
  refine h1 h H0 H s σ ρ _ fs g S ei ed (Post.bind p fun ds s1 xs A B st g1 dx p1 => ?_)
  by_cases c : ds.length ≤ 100000
  · rw [if_pos c] at p1
    refine ⟨by rw [dx.len]; exact sizeOk.le c, fun q hq => ?_⟩
    obtain ⟨g2, st2⟩ := g1.alloc (o := .tup xs) hq
    exact p1 _ _ _ st2 g2 (.tup (SqT.of upd_same) (dx.mono st2.s0))
  · rw [if_neg c] at p1
    exact p1.elim
theorem xe_any {te : TE} {m : ME} (h1 : SE K mg WF te m) : XE' K mg i a dd te (fun _ => m) := fun h H0 H s σ ρ Q fs g S ei ed p => h1 h H0 H s σ ρ Q g S p
theorem xs_ret (h1 : XE' K mg i a dd te m) : XS' K mg i a dd (tRet te) (xRet m) := by
  intro h H0 H s σ ρ D fs g S ei ed p
  refine h1 h H0 H s σ ρ _ fs g S ei ed (PostS.bind p fun d s1 x A B st g1 dx p1 => ?_)
  exact p1 x A B (S.step st).st g1 dx
end
/-- a suite as text: ts its reading by the caught error's address, class and dict -/
structure QX (X : Cx) (i : Nat) (C : Addr) (b₀ : Stmt) (suite : List Stmt) (ts : Addr → Value → Option Addr → TS) (m : MX) : Prop where
  text : ∀ (a : Addr) (oe : Obj) (cls : Value) (d : Option Addr) (pn : List (Addr × Obj)), Zc cls d oe → (∃ vs, oe.data = .fields vs) → PSs (X.suite a ((a, oe) :: pn)) (b₀ :: suite) (ts a cls d)
  read : ∀ (a : Addr) (dd : Option Addr), XS' X.K X.mg i a dd (ts a (.ref C) dd) m
section
variable {X : Cx} {Wx : WX} {c n : Str} {C : Addr} {i : Nat} {body suite : List Stmt} {b₀ : Stmt} {np pos pos' : Pos} {mb : MS} {mx : MX} {ts : Addr → Value → Option Addr → TS}
theorem qs_tryAs (hs : X.stack = X.env :: X.outer) (hf : X.env.frame = some X.env.locals) (hN : X.N.Nodup) (hi : X.N[i]? = some n) (hln : X.env.kindOf n = some .local) (hm : X.mg c = some (.ref C)) (hg : Gl X c) (hdb : (c == ("__debug__" : Str)) = false) (tk : Takes X Wx)
    (he : PySem.W.exmOne X.K (.ref C) (.ref C) = some true)
    (hb : ∀ (W : WX) (pn : List (Addr × Obj)) (xe : Value → Shared → Prop), Takes (X.tr pn xe) W → PassesOwn (model X.prog X.w) X.A X.env xe → QSs (X.tr pn xe) W body mb) (hx : QX X i C b₀ suite ts mx) :
    QS X Wx (.Try body [.ExceptHandler (some (.Name c np)) (some n) (b₀ :: suite) pos'] [] [] pos) (mTryAs i c mb mx) := by
  refine ⟨_, ps_try_as (tb := fun W => cS X.K X.mg W mb) (ts := ts) (Wout := Wx) hs hf hN hi hln ⟨hg, hdb, .inl hm⟩ tk (fun W pn xe t p => (hb W pn xe t p).can) hx.text, ?_⟩
  intro h H0 H s σ ρ D g S p
  refine ⟨h, H0, s, ρ, g, S, ?_⟩
  have p : PostS X.K X.mg h (mTryAs i c mb mx ρ s) H0 H Wx D := p
  unfold mTryAs at p
  cases e : mb ρ s with
  | ok f s' =>
    rw [e] at p
    cases f with
    | nx ρ' => exact p
    | rt d => exact p
    | bk ρ' => exact p
    | ct ρ' => exact p
  | bad =>
    rw [e] at p
    exact p
  | err c' fs ρ' s' =>
    rw [e] at p
    by_cases cc : c' = c ∧ i < ρ'.length
    · obtain ⟨rfl, hl⟩ := cc
      simp only [hl, and_self, if_true] at p
      intro σ' C' dd A B st g' S' mc x
      obtain rfl : C = C' := by
        rw [hm] at mc
        cases mc
        rfl
      refine ⟨true, he, fun _ a na => ?_, fun q => Bool.noConfusion q⟩
      refine hx.read a dd h A B s' (σ'.set i (some (.ref a))) (ρ'.set i .no) _ fs g' (S'.forget _) (List.getElem?_set_self (by rw [S'.len]; exact hl)) x ?_
      have p := PostS.step (H' := B) st p
      cases em : mx fs (ρ'.set i .no) s' with
      | ok fl s2 =>
        rw [em] at p
        cases fl with
        | nx ρ2 => exact fun σ2 A2 B2 st2 g2 S2 => p (σ2.set i none) A2 B2 st2 g2 (S2.forget none)
        | rt d => exact p
        | bk ρ2 => exact fun σ2 A2 B2 st2 g2 S2 => p (σ2.set i none) A2 B2 st2 g2 (S2.forget none)
        | ct ρ2 => exact fun σ2 A2 B2 st2 g2 S2 => p (σ2.set i none) A2 B2 st2 g2 (S2.forget none)
      | err c2 fs2 ρ2 s2 =>
        rw [em] at p
        exact p.elim
      | bad =>
        rw [em] at p
        exact p.elim
    · simp only [cc, if_false] at p
      exact p.elim
end

/-! ### the law -/
def spLaw (K : Frag) : Sp := fun vs H Q _ => ∃ (a : Addr) (ns : List Int), vs = [.ref a] ∧ SqL K H a (ns.map V.int) ∧ ns.length ≤ 63 ∧ ∀ H', Q (.bl true) H'
/-- the slots behind the law's first row: the script, the hand -/
def lawE (n : Nat) : Env' := .no :: .dat .hnd :: List.replicate n .no
theorem law_run {K : Frag} {mg : Str → Option Value} {Wx : WX} {n : Nat} {vs : List V} {H : Hp} {Q : VK} {E : XK} {W : L2.St → XK} {ts : TS} {ms : MS} (hh : spLaw K vs H Q E) (hs : SS K mg Wx ts ms) (hm : ∀ s : Hd, ∃ s' : Hd, ms (lawE n) s = .ok (.rt (.bl true)) s') :
    tSeq (tAsg (tCallSD (spHand K) [] W (tCons (tVar 0) tNil)) (gName 1)) ts { nx := fun _ H' => Q .non H', rt := Q } (vs.map some ++ List.replicate (n + 1) none) H := by
  obtain ⟨a, ns, rfl, hS, hl, q⟩ := hh
  refine ⟨.ref a, rfl, a, ns, rfl, hS, hl, fun h gl g m H' s e1 e2 ne e3 e4 => ?_⟩
  obtain ⟨s', hr⟩ := hm ⟨g, m, 0⟩
  refine hs ⟨h, H, H', h⟩ H H' ⟨g, m, 0⟩ (some (.ref a) :: some (.ref h) :: List.replicate n none) (lawE n) _ ⟨s, e1, gl, e2, ne, e3, e4⟩ ⟨by simp [lawE], fun i o l x y => ?_, fun i j p x y z1 _ m1 _ _ _ => ?_, .refl _ _⟩ ?_
  · match i, x, y with
    | 0, x, y =>
      cases x
      cases y
      exact True.intro
    | 1, x, y =>
      cases x
      cases y
      exact .hnd
    | i + 2, x, y =>
      have y : (List.replicate n Sl.no)[i]? = some l := y
      rw [List.getElem?_replicate] at y
      split at y
      · cases y
        cases o <;> exact True.intro
      · cases y
  · match i, z1 with
    | 0, z1 =>
      cases z1
      cases m1
    | 1, z1 =>
      cases z1
      cases m1
    | i + 2, z1 =>
      have z1 : (List.replicate n Sl.no)[i]? = some x := z1
      rw [List.getElem?_replicate] at z1
      split at z1 <;> cases z1
      cases m1
  · rw [hr]
    intro v A B _ _ dv
    cases dv
    exact q B
end Mir


set_option Elab.async false
set_option linter.all false
set_option maxRecDepth 100000
namespace Mir
open PySem PySem.Spec PyProof.Rows L2
open PySem.W (Frag)

/-- a def that is called with some parameters written, dd for the others -/
def Callee (P : Program) (w : World) (K : Frag) (mg : Str → Option Value) (base : Heap) (k : Nat) (x : Str) (n : Nat) (dd : List Dt) (m : List Dt → Hd → R Dt) : Prop :=
  ∃ (f : Addr) (fd : FuncData) (ps : List Str) (dvs : List V) (dsV : List Value), FnOk P w K mg base (L2.CX P w) k f fd ps (spM K mg n m) ∧ mg x = some (.ref f) ∧ PySem.W.keepIn K (.ref f) = true ∧ Binds K fd ps dsV ∧ Vals dvs dsV ∧ ∀ (h : Addr) (H : Hp), DenA K mg h H dvs dd
section
variable {X : Cx} {Wx : WX} {e : Expr} {es : List Expr} {x : Str} {p pos : Pos} {as : MA} {k j n : Nat} {dd : List Dt} {m : List Dt → Hd → R Dt}
theorem qe_c (C : Callee X.prog X.w X.K X.mg X.base k x n dd m) (hr : Room j X.A) (hk : k ≤ j) (tk : Takes X Wx) (ha : QA X Wx (e :: es) as) (hg : Gl X x := by rfl)
    (hdb : (x == ("__debug__" : Str)) = false := by decide) (he : starEach (e :: es) X.env = (false, eval e X.env) :: starEach es X.env := by rfl) (hpl : (backTo pos (starEach es X.env)).any (·.1) = false := by rfl) :
    QE X Wx (.Call (.Name x p) (e :: es) [] pos) (mCall n dd m as) := by
  obtain ⟨f, fd, ps, dvs, dsV, F, hm, kp, hb, hd, hdd⟩ := C
  exact qe_call F (hr.mono hk) hg hm kp hb hd hdd tk ha hdb he hpl
end
/-- the class of an own error whose arguments are kept -/
def Caught (K : Frag) (mg : Str → Option Value) (c : Str) (C : Addr) : Prop := mg c = some (.ref C) ∧ PySem.W.exmOne K (.ref C) (.ref C) = some true ∧ XfC K C
def Thrown (P : Program) (w : World) (K : Frag) (mg : Str → Option Value) (base : Heap) (c : Str) (names : List Str) : Prop :=
  ∃ (C fI : Addr) (fd : FuncData) (ps : List Str), mg c = some (.ref C) ∧ OexC K C ∧ (∀ f ∈ names, PySem.W.findIn K (.ref C) f = some none) ∧ PySem.W.findIn K (.ref C) "__init__" = some (some (.ref fI)) ∧ PySem.W.typeIn K (.ref fI) = some (.type "function") ∧
    FnOk P w K mg base (L2.CX P w) 1 fI fd ps (spI K names) ∧ Binds K fd ps []
section
variable {X : Cx} {Wx : WX} {e : Expr} {es : List Expr} {c : Str} {p pos pos2 : Pos} {as : MA} {j : Nat} {names : List Str}
theorem qs_throw (T : Thrown X.prog X.w X.K X.mg X.base c names) (hr : Room j X.A) (hj : 2 ≤ j) (hc : X.calm = true) (tk : Takes X Wx) (ha : QA X Wx (e :: es) as) (hg : Gl X c := by rfl)
    (hdb : (c == ("__debug__" : Str)) = false := by decide) (he : starEach (e :: es) X.env = (false, eval e X.env) :: starEach es X.env := by rfl) (hpl : (backTo pos (starEach es X.env)).any (·.1) = false := by rfl) :
    QS X Wx (.Raise (some (.Call (.Name c p) (e :: es) [] pos)) none pos2) (mRaise c names as) := by
  obtain ⟨C, fI, fd, ps, hm, ox, no, iC, tI, F, hb⟩ := T
  exact qs_raise hc tk ⟨hm, ox, no⟩ iC tI F (hr.mono hj) hb hg ha hdb he hpl
end
/-! ### tuples of the module -/
section
variable {K : Frag} {mg : Str → Option Value}
/-- a written tuple's items -/
inductive KDen (K : Frag) : Value → Dt → Prop where
  | int (i : Int) (t : Tok) : KDen K (.int i t) (.int i)
  | str (x : Str) (t : Tok) : KDen K (.str x t) (.str x)
  | non : KDen K .none .non
  | bl (b : Bool) : KDen K (.bool b) (.bl b)
theorem KDen.den {u : Value} {d : Dt} (q : KDen K u d) : ∃ v, RelV v u ∧ ∀ (h : Addr) (H : Hp), Den K mg h H v d := by
  cases q with
  | int i t => exact ⟨.int i, ⟨t, rfl⟩, fun _ _ => .int i⟩
  | str x t => exact ⟨.str x, ⟨t, rfl⟩, fun _ _ => .str x⟩
  | non => exact ⟨.non, rfl, fun _ _ => .non⟩
  | bl b => exact ⟨.bl b, rfl, fun _ _ => .bl b⟩
theorem rat_den {Z : Addr} {od : Option Addr} {n : Nat} {sl : Array (Option Value)} {a b : Int} {ta tb : Tok} (l : K.lookup Z = some ⟨.type "tuple", od, .seq #[.int a ta, .int b tb] n, sl⟩) (h : Addr) (H : Hp) : Den K mg h H (.ref Z) (.tup [.int a, .int b]) :=
  .tup (xs := [.int a, .int b]) (.inr ⟨_, _, _, l, rfl, rfl, (by show 2 ≤ sizeLine; decide), .cons ⟨ta, rfl⟩ (.cons ⟨tb, rfl⟩ .nil)⟩) (.cons (.int a) (.cons (.int b) .nil))
end
/-! ### keywords: f(e, .., k = v) where the defaults stand between -/
def mCallK (np nk n : Nat) (mid : List Dt) (m : List Dt → Hd → R Dt) (as ks : MA) : ME := fun ρ s => (as ρ s).bind fun ds s1 => (ks ρ s1).bind fun es s2 =>
  if ds.length = np ∧ es.length = nk ∧ (ds ++ (mid ++ es)).length = n then (match m (ds ++ (mid ++ es)) s2 with
    | .ok d s3 => .ok d s3
    | .err c fs _ s3 => .err c fs ρ s3
    | .bad => .bad) else .bad
def CalleeK (P : Program) (w : World) (K : Frag) (mg : Str → Option Value) (base : Heap) (k : Nat) (x : Str) (np : Nat) (ks : List Str) (n : Nat) (mid : List Dt) (m : List Dt → Hd → R Dt) : Prop :=
  ∃ (f : Addr) (fd : FuncData) (ps : List Str) (mv : List V) (mV : List Value), FnOk P w K mg base (L2.CX P w) k f fd ps (spM K mg n m) ∧ mg x = some (.ref f) ∧ PySem.W.keepIn K (.ref f) = true ∧
    KBn K fd ps np ks (fun us ws => us ++ (mV ++ ws)) (fun vs zs => vs ++ (mv ++ zs)) ∧ ∀ (h : Addr) (H : Hp), DenA K mg h H mv mid
def QK (X : Cx) (Wx : WX) (kws : List Keyword) (m : MA) : Prop := ∃ t, PK X kws t ∧ SA X.K X.mg Wx t m
section
variable {X : Cx} {Wx : WX} {e : Expr} {es : List Expr} {x : Str} {p pos kpos : Pos} {as ks' : MA} {k j n np : Nat} {mid : List Dt} {m : List Dt → Hd → R Dt} {ks : List Str} {kws : List Keyword} {nm : Option Str} {ma : ME} {E : XK}
theorem qk_nil : QK X Wx [] mNil := ⟨_, pk_nil, sa_nil⟩
theorem qk_cons (ha : QE X Wx e ma) (hr : QK X Wx kws as) : QK X Wx (⟨nm, e, kpos⟩ :: kws) (mCons ma as) := by
  obtain ⟨t, q, s⟩ := ha
  obtain ⟨t2, q2, s2⟩ := hr
  exact ⟨_, pk_cons q q2, sa_cons s s2⟩
theorem qe_ck (C : CalleeK X.prog X.w X.K X.mg X.base k x np ks n mid m) (hr : Room j X.A) (hk : k ≤ j) (tk : Takes X (wE E)) (ha : QA X (wE E) (e :: es) as) (hw : QK X (wE E) kws ks') (hg : Gl X x := by rfl)
    (hall : (backToKw pos (keywordEach kws X.env)).all (·.1.isSome) = true := by rfl) (hks : (backToKw pos (keywordEach kws X.env)).filterMap (·.1) = ks := by rfl)
    (hdb : (x == ("__debug__" : Str)) = false := by decide) (he : starEach (e :: es) X.env = (false, eval e X.env) :: starEach es X.env := by rfl)
    (hpl : ((backTo pos (starEach (e :: es) X.env)).any (·.1) || (backToKw pos (keywordEach kws X.env)).any (·.1.isNone)) = false := by rfl) :
    QE X (wE E) (.Call (.Name x p) (e :: es) kws pos) (mCallK np ks.length n mid m as ks') := by
  obtain ⟨f, fd, ps, mv, mV, F, hm, kp, hb, hdd⟩ := C
  obtain ⟨t, q, sa⟩ := ha
  obtain ⟨t2, q2, sa2⟩ := hw
  refine ⟨_, pe_callN (E := E) F (hr.mono hk) hg hm kp hb (passes_call tk fun _ _ _ _ z => z) q q2 hall hks hdb he hpl, ?_⟩
  intro h H0 H s σ ρ Q g S pp
  refine sa h H0 H s σ ρ _ g S (Post.bind pp fun ds s1 xs A B st g1 dx p1 => sa2 h A B s1 σ ρ _ g1 (S.step st) (Post.bind p1 fun es s2 ys A2 B2 st2 g2 dy p2 => ?_))
  by_cases c : ds.length = np ∧ es.length = ks.length ∧ (ds ++ (mid ++ es)).length = n
  · rw [if_pos c] at p2
    obtain ⟨c1, c2, c3⟩ := c
    have dz := (dx.mono st2.s0).append ((hdd h A2).append dy)
    refine ⟨dx.len.trans c1, dy.len.trans c2, dz.len.trans c3, h, A2, s2, _, g2, dz, ?_⟩
    cases hm : m (ds ++ (mid ++ es)) s2 with
    | ok d s3 =>
      rw [hm] at p2
      exact p2
    | err cc fs ρ' s3 =>
      rw [hm] at p2
      exact fun C e A3 B3 st3 g3 mc x => p2 σ C e A3 B3 st3.s0 g3 (S.step ((st.trans st2).trans st3)) mc x
    | bad =>
      rw [hm] at p2
      exact p2.elim
  · rw [if_neg c] at p2
    exact p2.elim
end
section
variable {K : Frag} {x qual : Str} {params : Arguments} {body : List Stmt} {scope : Scope} {dvs : List V} {f : Addr} {fd : FuncData} {ps : List Str}
/-- how f(e, .., k = v) binds: the first n written, the last ones by keywords, the defaults from the j-th on between -/
theorem kb_of (F : FunD K x qual params body scope dvs [] f fd) (n j c : Nat) (ks : List Str) (hd : dvs ≠ [])
    (hh : ∀ (T : Addr) (kV doc pm : Value) (an : Option Addr) (cdv ct : Value) (us its ws : List Value), us.length = n → its.length = dvs.length → ws.length = ks.length →
      ∃ k, bindArgs (PySem.W.fnOf x qual params body scope (.ref T) kV doc pm an cdv ct) ⟨us, ks.zip ws⟩ = seqItems? (.ref T) >>= k ∧ k (some its.toArray) = pure (ps.zip (us ++ ((its.drop j).take c ++ ws)))) :
    ∃ mV : List Value, KBn K fd ps n ks (fun us ws => us ++ (mV ++ ws)) (fun vs zs => vs ++ ((dvs.drop j).take c ++ zs)) := by
  obtain ⟨oc, od, dV, kV, doc, pm, an, cdv, ct, osl, rfl, lk, hcd, hD, hK⟩ := F.ex
  rcases hD with ⟨e, _⟩ | ⟨_, T, o, its, m, rfl, lT, oT, rT⟩
  · exact absurd e hd
  · refine ⟨(its.drop j).take c, ⟨fun s us ws X l1 l2 => ?_, fun r1 r2 => r1.append (((rT.drop j).take c).append r2)⟩⟩
    obtain ⟨k, e1, e2⟩ := hh T kV doc pm an cdv ct us its ws l1 rT.length.symm l2
    refine BindsTo.of_looks fun M => ?_
    rw [e1]
    exact looks_items X lT oT (.of_pure e2)
end
/-! ### while -/
def absS : Sl → Nat
  | .dat (.int i) => i.natAbs
  | _ => 0
def fuelE (ρ : Env') : Nat := (ρ.map absS).sum + 2
def mWhile (t : MT) (body : MS) : MS := fun ρ s => loopW t body (fuelE ρ) ρ s
section
variable {K : Frag} {mg : Str → Option Value} {Wx : WX} {tt : TT} {mt : MT} {tb : TS} {body : MS}
theorem ss_while (ht : ST K mg Wx tt mt) (hb : SS K mg Wx tb body) : SS K mg Wx (tWhile tt tb) (mWhile mt body) := by
  intro h H0 H s σ ρ D g S p
  refine ⟨fun n σ' H' => ∃ A s' ρ', Same H0 A ∧ G h A H' s' ∧ Slots K mg h A H' σ' ρ' ∧ PostS K mg h (loopW mt body n ρ' s') A H' Wx D, ⟨fuelE ρ, H0, s, ρ, Same.refl _, g, S, p⟩, ?_⟩
  rintro n σ' H' ⟨A, s', ρ', st, g', S', p'⟩
  cases n with
  | zero => exact p'.elim
  | succ n =>
    unfold loopW at p'
    refine ht h A H' s' σ' ρ' _ g' S' (PostS.bind p' fun b s1 b' A1 B1 st1 g1 e p1 => ?_)
    have e : b' = b := e
    subst e
    cases b' with
    | false => exact p1 σ' A1 B1 (Same.refl _) g1 (S'.step st1)
    | true =>
      refine iteT ⟨fun σ2 H2 => ∃ A2 s2 ρ2, Same H0 A2 ∧ G h A2 H2 s2 ∧ Slots K mg h A2 H2 σ2 ρ2 ∧ PostS K mg h (loopW mt body n ρ2 s2) A2 H2 Wx D, fun σ2 H2 w => ⟨n, Nat.lt_succ_self n, w⟩, hb h A1 B1 s1 σ' ρ' _ g1 (S'.step st1) ?_⟩
      rw [if_pos rfl] at p1
      cases eb : body ρ' s1 with
      | ok f s2 =>
        rw [eb] at p1
        cases f with
        | nx ρ2 => exact fun σ2 A2 B2 st2 g2 S2 => ⟨A2, s2, ρ2, (st.trans st1.s0).trans st2, g2, S2, PostS.step st2 p1⟩
        | ct ρ2 => exact fun σ2 A2 B2 st2 g2 S2 => ⟨A2, s2, ρ2, (st.trans st1.s0).trans st2, g2, S2, PostS.step st2 p1⟩
        | bk ρ2 => exact p1
        | rt d => exact p1
      | err c fs ρ2 s2 =>
        rw [eb] at p1
        exact p1
      | bad =>
        rw [eb] at p1
        exact p1
end
theorem qs_while {X : Cx} {Wx : WX} {c : Expr} {mt : MT} {sts : List Stmt} {ms : MS} {pos : Pos} (hp : PassesOwn (model X.prog X.w) X.A X.env X.xe) (hc : QT X Wx c mt) (hb : QSs X Wx sts ms) : QS X Wx (.While c sts [] pos) (mWhile mt ms) := by
  obtain ⟨t, q, s⟩ := hc
  obtain ⟨t2, q2, s2⟩ := hb
  exact ⟨_, ps_while hp q q2, ss_while s s2⟩
theorem _root_.L2.Room.units65 {k : Nat} {A : Around} (r : Room k A) : A.units + 65 < cLine := by have := r.un; omega
theorem cx_false {P : Program} {w : World} {l : List Env} {H : Hp} {s : Shared} {e : Value} {s' : Shared} (z : L2.CX P w l H s (fun _ _ _ => False) e s') : False := by
  obtain ⟨_, _, _, _, _, _, _, _, _, _, _, _, z⟩ := z
  exact z
end Mir


set_option Elab.async false
set_option linter.all false
set_option maxRecDepth 100000
/-! isinstance with two classes; math.isqrt; statements that are never reached; written couples of ratios. -/
namespace Mir
open PySem PySem.Spec PyProof.Rows L2
open PySem.W (Frag)
def fIsi2 (T U : String) (d : Dt) : Option Bool := (tyN d).bind fun n => (kitB n T).bind fun a => (kitB n U).map fun b => a || b
def mIsi2 (T U : String) (a : ME) : ME := fun ρ s => (a ρ s).bind fun d s1 => liftO ((fIsi2 T U d).map .bl) s1
section
variable {X : Cx} {Wx : WX} {a : Expr} {ma : ME} {pos p p2 p3 p4 : Pos} {T U : String} {x y : Str} {x1 : Nat}
theorem kit_any2 {K : PySem.W.Frag} {n T U : String} {a b : Bool} (ha : kitB n T = some a) (hb : kitB n U = some b) : PySem.W.kitAny K (.type n) [.type T, .type U] = some (a || b) := by
  refine kitAny_cons (b := a) (kit_ty ha) (fun e => ?_) (fun e => by rw [e]; rfl)
  rw [e, Bool.false_or]
  exact kitAny_cons (b := b) (kit_ty hb) (fun e2 => by rw [e2]; exact kitAny_nil) (fun e2 => e2)
theorem qe_isi2 (ha : QE X Wx a ma) (hg : Gl X "isinstance") (hm : X.mg "isinstance" = none) (hgT : Gl X x) (hmT : X.mg x = none) (hvT : bootBuiltins x = some (.type T)) (hgU : Gl X y) (hmU : X.mg y = none) (hvU : bootBuiltins y = some (.type U))
    (hn : x ≠ "__name__" := by decide) (hdb : (x == ("__debug__" : Str)) = false := by decide) (hn2 : y ≠ "__name__" := by decide) (hdb2 : (y == ("__debug__" : Str)) = false := by decide)
    (he : starEach [a, .Tuple [.Name x p2, .Name y p3] x1 p4] X.env = (false, eval a X.env) :: starEach [.Tuple [.Name x p2, .Name y p3] x1 p4] X.env := by rfl)
    (he2 : starEach [.Tuple [.Name x p2, .Name y p3] x1 p4] X.env = (false, eval (.Tuple [.Name x p2, .Name y p3] x1 p4) X.env) :: starEach [] X.env := by rfl)
    (he3 : starEach [.Name x p2, .Name y p3] X.env = (false, eval (.Name x p2) X.env) :: starEach [.Name y p3] X.env := by rfl)
    (he4 : starEach [.Name y p3] X.env = (false, eval (.Name y p3) X.env) :: starEach [] X.env := by rfl)
    (hpl : (backTo pos (starEach [.Tuple [.Name x p2, .Name y p3] x1 p4] X.env)).any (·.1) = false := by rfl) : QE X Wx (.Call (.Name "isinstance" p) [a, .Tuple [.Name x p2, .Name y p3] x1 p4] [] pos) (mIsi2 T U ma) := by
  obtain ⟨ta, pa, sa⟩ := ha
  refine ⟨_, pe_callB call_isiT hg hm (by decide +kernel) (pa_cons pa (pa_cons (pe_tup (pa_cons (pe_bltn (v := .ty T) hgT hmT hvT rfl hn hdb) (pa_cons (pe_bltn (v := .ty U) hgU hmU hvU rfl hn2 hdb2) pa_nil he4) he3)) pa_nil he2) he) (by decide) (by decide) he hpl, ?_⟩
  intro h H0 H s σ ρ Q g S pp
  refine sa h H0 H s σ ρ _ g S (Post.bind pp fun d s1 x A B st g1 dx p1 => ?_)
  obtain ⟨z, hz, p3⟩ := post_lift p1
  unfold fIsi2 at hz
  cases ht : tyN d with
  | none =>
    rw [ht] at hz
    cases hz
  | some n =>
    rw [ht] at hz
    have hz : ((kitB n T).bind fun a => (kitB n U).map fun b => a || b).map Dt.bl = some z := hz
    cases hb : kitB n T with
    | none =>
      rw [hb] at hz
      cases hz
    | some b =>
      rw [hb] at hz
      have hz : ((kitB n U).map fun c => b || c).map Dt.bl = some z := hz
      cases hc : kitB n U with
      | none =>
        rw [hc] at hz
        cases hz
      | some c =>
        rw [hc] at hz
        cases hz
        refine ⟨by show 2 ≤ sizeLine; decide, fun q hq => ?_⟩
        obtain ⟨g2, st2⟩ := g1.alloc (o := .tup [.ty T, .ty U]) hq
        exact ⟨x, q, _, .type n, [.type T, .type U], b || c, rfl, upd_same, .cons (.ty T) (.cons (.ty U) .nil), TyX.of ((dx.mono st2.s0).mono g2.ex) ht, kit_any2 hb hc, p3 _ _ _ st2 g2 (.bl _)⟩
end
/-! ### math.isqrt -/
def rIsqrt : List V → Hp → VK → Prop := fun vs H Q => ∃ a : Int, vs = [.int a] ∧ 0 ≤ a ∧ a < 2 ^ 64 ∧ Q (.int ((Float64.isqrt a.toNat : Nat) : Int)) H
theorem cr_isqrt {X : Cx} : CallR X (.builtin "math.isqrt") rIsqrt := by
  intro pins s σ H vs us Q I r h
  obtain ⟨a, rfl, h0, h1, q⟩ := h
  cases r with
  | cons ra rr =>
    cases rr
    obtain ⟨t, e⟩ := (show ∃ t, _ = Value.int a t from ra)
    cases e
    exact PySem.W.mg_isqrt h0 h1 ⟨.int _, H, I.tok _, ⟨_, rfl⟩, q⟩
def fIsqrt : List Dt → Option Dt
  | [.int a] => if 0 ≤ a ∧ a < 2 ^ 64 then some (.int ((Float64.isqrt a.toNat : Nat) : Int)) else none
  | _ => none
section
variable {K : Frag} {mg : Str → Option Value}
theorem cs_isqrt : CaS K mg rIsqrt fIsqrt := by
  intro h H0 H s xs ds z Q g0 hx hz q
  unfold fIsqrt at hz
  split at hz
  · split at hz
    · rename_i hh
      cases hz
      cases hx with
      | cons a r =>
        cases r
        cases a
        exact ⟨_, rfl, hh.1, hh.2, q _ H0 H (.refl _ _) g0 (.int _)⟩
    · cases hz
  · cases hz
end
/-! ### what is never reached -/
def mBad : MS := fun _ _ => .bad
theorem qs_bad {X : Cx} {Wx : WX} {st : Stmt} : QS X Wx st mBad := ⟨fun _ _ _ => False, ⟨fun _ _ _ _ _ _ z => z.elim⟩, fun _ _ _ _ _ _ _ _ _ z => z⟩
/-! ### a written couple of ratios -/
theorem two_den {K : Frag} {mg : Str → Option Value} {Z Y W : Addr} {od : Option Addr} {n : Nat} {sl : Array (Option Value)} {d e : Dt} (l : K.lookup Z = some ⟨.type "tuple", od, .seq #[.ref Y, .ref W] n, sl⟩) (h : Addr) (H : Hp) (a : Den K mg h H (.ref Y) d) (b : Den K mg h H (.ref W) e) : Den K mg h H (.ref Z) (.tup [d, e]) :=
  .tup (xs := [.ref Y, .ref W]) (.inr ⟨_, _, _, l, rfl, rfl, (by show 2 ≤ sizeLine; decide), .cons rfl (.cons rfl .nil)⟩) (.cons a (.cons b .nil))
end Mir


set_option Elab.async false
set_option linter.all false
set_option maxRecDepth 100000
/-! Lists of one's own: made, grown, changed at a place, read, handed on. -/
namespace Mir
open PySem PySem.Spec PyProof.Rows L2
open PySem.W (Frag)

section
variable (K : Frag) (mg : Str → Option Value) (Wx : WX)
def FreshTo (h : Ent) (σ : L2.St) (ρ : Env') (p : Addr) : Prop := NF h p ∧ ∀ (j : Nat) (l : Sl), ρ[j]? = some l → l.mine = true → σ[j]? ≠ some (some (.ref p))
/-- a new list, nobody's yet -/
def PostF (h : Ent) (r : R (List Dt)) (σ : L2.St) (ρ : Env') (H0 H : Hp) (Q : VK) : Prop := match r with
  | .ok ds s => ∀ p vs H0' H', Step h.a H0 H H0' H' → G h.a H0' H' s → FreshTo h σ ρ p → H0' p = none → ¬ isH h.a H' p → H' p = some (.lst vs) → DenA K mg h.a H0' vs ds → Q (.ref p) H'
  | .err c fs ρ' s => ErrP K mg h H0 c fs ρ' s Wx
  | .bad => False
def SF (te : TE) (m : MA) : Prop := ∀ (h : Ent) (H0 H : Hp) (s : Hd) (σ : L2.St) (ρ : Env') (Q : VK), G h.a H0 H s → Slots K mg h H0 H σ ρ → PostF K mg Wx h (m ρ s) σ ρ H0 H Q → te σ H Q
end
def QF (X : Cx) (Wx : WX) (e : Expr) (m : MA) : Prop := ∃ t, PE X e t ∧ SF X.K X.mg Wx t m
section
variable {K : Frag} {mg : Str → Option Value} {Wx : WX} {h : Ent} {H0 H H0' H' A B : Hp} {σ : L2.St} {ρ : Env'}
theorem fresh_to {p : Addr} (S : Slots K mg h A B σ ρ) (n : B p = none) : FreshTo h σ ρ p := by
  refine ⟨fun o e1 e2 => ?_, fun j l e m x => ?_⟩
  · by_cases c : isH h.a h.E p
    · exact c
    · have := (S.st.fr p o e1 e2 c).1
      rw [n] at this
      cases this
  · have q := S.at_ j _ l x e
    cases l with
    | no => cases m
    | dat d => cases m
    | own ds =>
      obtain ⟨p', vs, e1, e2, _⟩ := q
      cases e1
      rw [n] at e2
      cases e2
    | slf c fs =>
      obtain ⟨p', C, dx, vs, e1, _, _, e2, _⟩ := q
      cases e1
      rw [n] at e2
      cases e2
theorem PostF.step {r : R (List Dt)} {Q : VK} (st : Step h.a H0 H H0' H') (p : PostF K mg Wx h r σ ρ H0 H Q) : PostF K mg Wx h r σ ρ H0' H' Q := by
  cases r with
  | ok b s => exact fun a vs A B s2 g q => p a vs A B (st.trans s2) g q
  | err c fs ρ s => exact ErrP.step st.s0 p
  | bad => exact p
theorem PostF.bind {α β : Type} {rel : Hp → α → β → Prop} {r : R β} {k : β → Hd → R (List Dt)} {Q : VK} {Q1 : α → Hp → Prop} (p : PostF K mg Wx h (r.bind k) σ ρ H0 H Q)
    (f : ∀ b s a H0' H', Step h.a H0 H H0' H' → G h.a H0' H' s → rel H0' a b → PostF K mg Wx h (k b s) σ ρ H0' H' Q → Q1 a H') : Post K mg h rel r H0 H Wx Q1 := by
  cases r with
  | ok b s => exact fun a A B st g q => f b s a A B st g q (PostF.step st p)
  | err c fs ρ s => exact p
  | bad => exact p
end
def mLstO (as : MA) : MA := fun ρ s => (as ρ s).bind fun ds s1 => if ds.length ≤ 100000 then .ok ds s1 else .bad
def toL : R Dt → R (List Dt)
  | .ok (.lst ds) s => .ok ds s
  | .err c fs ρ s => .err c fs ρ s
  | _ => .bad
def mToL (m : ME) : MA := fun ρ s => toL (m ρ s)
def mSetO (i : Nat) (m : MA) : MS := fun ρ s => (m ρ s).bind fun ds s1 => .ok (.nx (ρ.set i (.own ds))) s1
/-- list(e) -/
def mListO (a : ME) : MA := fun ρ s => (a ρ s).bind fun d s1 => match d with
  | .tup ds => .ok ds s1
  | .lst ds => .ok ds s1
  | _ => .bad
def mCatO (a b : ME) : MA := fun ρ s => (a ρ s).bind fun d s1 => (b ρ s1).bind fun e s2 => match d, e with
  | .lst x, .lst y => if sizeOk (x.length + y.length) then .ok (x ++ y) s2 else .bad
  | _, _ => .bad
def mApp (i : Nat) (a : ME) : MS := fun ρ s => match ρ[i]? with
  | some (.own ds) => (a ρ s).bind fun d s1 => if sizeOk ds.length then .ok (.nx (ρ.set i (.own (ds ++ [d])))) s1 else .bad
  | _ => .bad
/-- x[e] = v: v first -/
def mSetI (i : Nat) (b a : ME) : MS := fun ρ s => (a ρ s).bind fun d s1 => match ρ[i]? with
  | some (.own ds) => (b ρ s1).bind fun k s2 => (match k with
    | .int k => (match ixN ds.length k with
      | some j => .ok (.nx (ρ.set i (.own (ds.set j d)))) s2
      | none => .bad)
    | _ => .bad)
  | _ => .bad
/-- x[e] = v where x is at data: for use behind which x is given up -/
def frzE (ρ : Env') (i : Nat) : Env' := match ρ[i]? with
  | some (.own ds) => ρ.set i (.dat (.lst ds))
  | _ => ρ
def mFrz (is : List Nat) (m : MS) : MS := fun ρ s => m (is.foldl frzE ρ) s
def mIxO (i : Nat) (b : ME) : ME := fun ρ s => match ρ[i]? with
  | some (.own ds) => (b ρ s).bind fun k s1 => match k with
    | .int j => liftO (atI ds j) s1
    | _ => .bad
  | some (.dat d) => (b ρ s).bind fun k s1 => liftO (fIx d k) s1
  | _ => .bad
/-! no list within -/
mutual
def lfree : Dt → Bool
  | .tup ds => lfreeA ds
  | .obj _ fs => lfreeF fs
  | .lst _ => false
  | _ => true
def lfreeA : List Dt → Bool
  | [] => true
  | d :: ds => lfree d && lfreeA ds
def lfreeF : List (Str × Dt) → Bool
  | [] => true
  | (_, d) :: ds => lfree d && lfreeF ds
end
def lfSl : Sl → Sl
  | .dat d => if lfree d = true then .dat d else .no
  | _ => .no
def mBor (i : Nat) (m : ME) : ME := fun ρ s => match ρ[i]? with
  | some (.own ds) => (match m (ρ.set i (.dat (.lst ds))) s with
    | .ok d s' => if lfree d = true then .ok d s' else .bad
    | .err c fs ρ' s' => if lfreeF fs = true then .err c fs (ρ'.map lfSl) s' else .bad
    | .bad => .bad)
  | _ => m ρ s
def mBorT (i : Nat) (m : MT) : MT := fun ρ s => match ρ[i]? with
  | some (.own ds) => (match m (ρ.set i (.dat (.lst ds))) s with
    | .ok d s' => .ok d s'
    | .err c fs ρ' s' => if lfreeF fs = true then .err c fs (ρ'.map lfSl) s' else .bad
    | .bad => .bad)
  | _ => m ρ s
theorem sqt_del {K : Frag} {H : Hp} {q a : Addr} {us xs : List V} (eq : H q = some (.lst us)) (e : SqT K H a xs) : SqT K (del H q) a xs := by
  rcases e with (e | ⟨o, e⟩) | e
  · exact .inl (.inl (by rw [del_ne fun z => by rw [z, eq] at e; cases e]; exact e))
  · exact .inl (.inr ⟨o, by rw [del_ne fun z => by rw [z, eq] at e; cases e]; exact e⟩)
  · exact .inr e
section
variable {K : Frag} {mg : Str → Option Value} {Wx : WX} {ta tb : TE} {a b : ME} {t : TA} {as : MA} {m : MA} {ts : TS} {ms : MS}
theorem sf_lst (ha : SA K mg Wx t as) : SF K mg Wx (tLst t) (mLstO as) := by
  intro h H0 H s σ ρ Q g S p
  refine ha h H0 H s σ ρ _ g S (PostF.bind p fun ds s1 xs A B st g1 dx p1 => ?_)
  by_cases c : ds.length ≤ 100000
  · rw [if_pos c] at p1
    refine ⟨by rw [dx.len]; exact sizeOk.le c, fun q hq => ?_⟩
    obtain ⟨g2, st2⟩ := g1.side (o := .lst xs) hq
    obtain ⟨gl, a1, a2, a3, a4⟩ := g1.gl
    exact p1 q xs A _ st2 g2 (fresh_to (S.step st) hq) (g1.ex.free hq) (notH g1 hq) upd_same dx
  · rw [if_neg c] at p1
    exact p1.elim
where
  notH {h : Addr} {A B : Hp} {s : Hd} {q : Addr} {u : HO} (g : G h A B s) (hq : B q = none) : ¬ isH h (upd B q u) q := by
    obtain ⟨gl, a1, a2, a3, a4⟩ := g.gl
    have n1 : h ≠ q := ne_of_none a3 hq
    intro z
    rcases z with z | ⟨r, z⟩
    · exact n1 z.symm
    · rw [upd_ne n1, a3] at z
      cases z
      rw [hq] at a4
      cases a4
theorem sf_lc {wi : TI} {mi : MA} (I : SI K mg Wx wi mi) {js vs : List Nat} {g : TG} {gm : GM} {tt : TT} {mt : MT} (hg : SG K mg js g gm) (hv : ∀ j ∈ js, j ∈ vs) (ht : ST K mg WF tt mt) (ha : SE K mg WF ta a) : SF K mg Wx (tLc wi g tt ta vs) (mToL (mLc gm mi mt a vs)) := by
  intro h H0 H s σ ρ Q g0 S p
  refine I.lcF hg hv ht ha h H0 H s σ ρ Q (fun r => PostF K mg Wx h (toL r) σ ρ H0 H Q) (fun z => z.elim) (fun c fs ρ s z => z) (fun A B st => ?_) g0 S p
  intro D A' B' s' acc vv hB st2 g2 hD nD eD da p2
  exact p2 D vv A' B' (st.trans st2) g2 (fresh_to (S.step st) hB) hD nD eD da
theorem sf_listc (ha : SE K mg Wx ta a) : SF K mg Wx (tCB (fun xs H Q => ∃ p ys, xs = [.ref p] ∧ (SqL K H p ys ∨ SqT K H p ys) ∧ ∀ l, H l = none → Q (.ref l) (upd H l (.lst ys))) (tCons ta tNil)) (mListO a) := by
  intro h H0 H s σ ρ Q g S p
  refine ha h H0 H s σ ρ _ g S (PostF.bind p fun d s1 x A B st g1 dx p1 => ?_)
  cases dx with
  | @lst aa xs ds qa ra =>
    refine ⟨_, _, rfl, .inl (SqL.of (g1.ex _ _ qa)), fun q hq => ?_⟩
    obtain ⟨g2, st2⟩ := g1.side (o := .lst xs) hq
    exact p1 q xs A _ st2 g2 (fresh_to (S.step st) hq) (g1.ex.free hq) (sf_lst.notH g1 hq) upd_same ra
  | @tup aa xs ds qa ra =>
    refine ⟨_, _, rfl, .inr (sqt_mono g1.ex qa), fun q hq => ?_⟩
    obtain ⟨g2, st2⟩ := g1.side (o := .lst xs) hq
    exact p1 q xs A _ st2 g2 (fresh_to (S.step st) hq) (g1.ex.free hq) (sf_lst.notH g1 hq) upd_same ra
  | _ => exact p1.elim
theorem sf_cat (ha : SE K mg Wx ta a) (hb : SE K mg Wx tb b) : SF K mg Wx (tOp (rAddA K) ta tb) (mCatO a b) := by
  intro h H0 H s σ ρ Q g S p
  refine ha h H0 H s σ ρ _ g S (PostF.bind p fun d s1 x A B st g1 dx p1 => hb h A B s1 σ ρ _ g1 (S.step st) (PostF.bind p1 fun e s2 y A2 B2 st2 g2 dy p2 => ?_))
  have dx := dx.mono st2.s0
  cases dx with
  | @lst aa xs ds qa ra =>
    cases dy with
    | @lst bb ys es qb rb =>
      by_cases c : sizeOk (ds.length + es.length)
      · simp only [c, if_true] at p2
        refine .inr (.inr (.inl ⟨_, _, _, _, rfl, rfl, g2.ex _ _ qa, g2.ex _ _ qb, ?_, fun q hq => ?_⟩))
        · rw [ra.len, rb.len]
          exact c.le
        · obtain ⟨g3, st3⟩ := g2.side (o := .lst (xs ++ ys)) hq
          exact p2 q _ A2 _ st3 g3 (fresh_to ((S.step st).step st2) hq) (g2.ex.free hq) (sf_lst.notH g2 hq) upd_same (ra.append rb)
      · simp only [c, if_false] at p2
        exact p2.elim
    | _ => exact p2.elim
  | _ => exact p2.elim
theorem ss_setO {i : Nat} (ha : SF K mg Wx ta m) : SS K mg Wx (tAsg ta (gName i)) (mSetO i m) := by
  intro h H0 H s σ ρ D g S p
  refine ha h H0 H s σ ρ _ g S ?_
  have p : PostS K mg h ((m ρ s).bind _) H0 H Wx D := p
  cases e : m ρ s with
  | ok ds s1 =>
    rw [e] at p
    exact fun q vs A B st g1 fr n0 nh eq da => p _ A B st.s0 g1 ((S.step st).put ⟨q, vs, rfl, eq, n0, nh, fr.1, da⟩ fun q2 e2 _ j l nj el ml => by
      cases e2
      exact fr.2 j l el ml)
  | err c fs ρ' s1 =>
    rw [e] at p
    exact p
  | bad =>
    rw [e] at p
    exact p
theorem isH_upd {h : Addr} {B : Hp} {q p : Addr} {u : HO} (n : p ≠ h) (nh : ¬ isH h B q) : ¬ isH h (upd B p u) q := fun z => by
  rcases z with z | ⟨r, z⟩
  · exact nh (.inl z)
  · rw [upd_ne fun y => n y.symm] at z
    exact nh (.inr ⟨r, z⟩)
theorem ss_app {i : Nat} (ha : SE K mg Wx ta a) : SS K mg Wx (tDrop (tBM K "list" rAppend (tVar i) (tCons ta tNil))) (mApp i a) := by
  intro h H0 H s σ ρ D g S p
  have p : PostS K mg h (mApp i a ρ s) H0 H Wx D := p
  unfold mApp at p
  split at p
  · rename_i ds ei
    obtain ⟨q, vs, es, eq, n0, nh, nf, da⟩ := S.own ei
    refine ⟨.ref q, es, .inl ⟨rfl, vs, SqL.of eq⟩, ha h H0 H s σ ρ _ g S (PostS.bind p fun d s1 x A B st g1 dx p1 => ?_)⟩
    obtain ⟨q2, vs2, es2, eq2, n02, nh2, nf2, da2⟩ := (S.step st).own ei
    obtain rfl : q = q2 := by
      rw [es] at es2
      cases es2
      rfl
    by_cases c : sizeOk ds.length
    · simp only [if_pos c] at p1
      refine ⟨q, vs2, x, rfl, rfl, eq2, by rw [da2.len]; exact c.lt, ?_⟩
      have nha : q ≠ h.a := fun z => nh2 (.inl z)
      exact p1 σ A _ (Same.refl _) (g1.at n02 nh2) ((S.step st).mut (u := .lst (vs2 ++ [x])) ei rfl es nh2 nf2 rfl ⟨q, vs2 ++ [x], rfl, upd_same, n02, isH_upd nha nh2, nf2, da2.append (.cons dx .nil)⟩)
    · simp only [if_neg c] at p1
      exact p1.elim
  · exact p.elim
theorem ss_setI {i : Nat} (hb : SE K mg Wx tb b) (ha : SE K mg Wx ta a) : SS K mg Wx (tAsg ta (gSub (tVar i) tb rSetL)) (mSetI i b a) := by
  intro h H0 H s σ ρ D g S p
  refine ha h H0 H s σ ρ _ g S (PostS.bind p fun d s1 x A B st g1 dx p1 => ?_)
  split at p1
  · rename_i ds ei
    obtain ⟨q, vs, es, eq, n0, nh, nf, da⟩ := (S.step st).own ei
    refine ⟨.ref q, es, hb h A B s1 σ ρ _ g1 (S.step st) (PostS.bind p1 fun k s2 y A2 B2 st2 g2 dy p2 => ?_)⟩
    obtain ⟨q2, vs2, es2, eq2, n02, nh2, nf2, da2⟩ := ((S.step st).step st2).own ei
    obtain rfl : q = q2 := by
      rw [es] at es2
      cases es2
      rfl
    cases dy with
    | int k =>
      cases ej : ixN ds.length k with
      | none =>
        simp only [ej] at p2
        exact p2.elim
      | some j =>
        simp only [ej] at p2
        refine ⟨q, vs2, k, j, rfl, rfl, eq2, by rw [da2.len]; exact ej, ?_⟩
        have nha : q ≠ h.a := fun z => nh2 (.inl z)
        exact p2 σ A2 _ (Same.refl _) (g2.at n02 nh2) (((S.step st).step st2).mut (u := .lst (vs2.set j x)) ei rfl es nh2 nf2 rfl ⟨q, vs2.set j x, rfl, upd_same, n02, isH_upd nha nh2, nf2, da2.set (dx.mono st2.s0) j⟩)
    | _ => exact p2.elim
  · exact p1.elim
/-! ### reading one's own list -/
theorem se_ixO {i : Nat} (hb : SE K mg Wx tb b) : SE K mg Wx (tOp (rIx K) (tVar i) tb) (mIxO i b) := by
  intro h H0 H s σ ρ Q g S p
  have p : Post K mg h (Den K mg h.a) (mIxO i b ρ s) H0 H Wx Q := p
  unfold mIxO at p
  split at p
  · rename_i ds ei
    obtain ⟨q, vs, es, eq, n0, nh, nf, da⟩ := S.own ei
    refine ⟨.ref q, es, hb h H0 H s σ ρ _ g S (Post.bind p fun k s2 y A2 B2 st2 g2 dy p2 => ?_)⟩
    obtain ⟨q2, vs2, es2, eq2, n02, nh2, nf2, da2⟩ := (S.step st2).own ei
    obtain rfl : q = q2 := by
      rw [es] at es2
      cases es2
      rfl
    cases dy with
    | int k =>
      obtain ⟨z, hz, p3⟩ := post_lift p2
      obtain ⟨v, e1, e2⟩ := da2.atI' hz
      exact .inl ⟨q, vs2, k, v, rfl, rfl, SqL.of eq2, e1, p3 v A2 B2 (.refl _ _) g2 e2⟩
    | _ => exact p2.elim
  · rename_i d ei
    obtain ⟨v, es, dv⟩ := S.dat ei
    refine ⟨v, es, hb h H0 H s σ ρ _ g S (Post.bind p fun k s2 y A2 B2 st2 g2 dy p2 => ?_)⟩
    obtain ⟨z, hz, p3⟩ := post_lift p2
    exact os_ix h A2 B2 s2 v y d k z Q g2 (dv.mono st2.s0) dy hz fun u A3 B3 st3 g3 du => p3 u A3 B3 st3 g3 du
  · exact p.elim
/-! ### an own list becomes data -/
theorem Slots.frz {h : Ent} {H0 H : Hp} {σ : L2.St} {ρ : Env'} {i : Nat} {ds : List Dt} {q : Addr} {vs : List V} (S : Slots K mg h H0 H σ ρ) (ei : ρ[i]? = some (.own ds)) (es : σ[i]? = some (some (.ref q))) (eq : H q = some (.lst vs)) (n0 : H0 q = none) (nh : ¬ isH h.a H q) (nf : NF h q)
    (da : DenA K mg h.a H0 vs ds) : Slots K mg h (upd H0 q (.lst vs)) H σ (ρ.set i (.dat (.lst ds))) := by
  have e0 : Same H0 (upd H0 q (.lst vs)) := same_upd' n0
  have hl : i < ρ.length := (List.getElem?_eq_some_iff.mp ei).1
  refine ⟨by rw [List.length_set]; exact S.len, fun j o l a b => ?_, fun j k p a b e1 e2 m1 m2 e3 e4 => ?_, ⟨S.st.s0.trans e0, fun p o x y z => ?_⟩⟩
  · by_cases hj : i = j
    · subst hj
      rw [List.getElem?_set_self hl] at b
      cases b
      rw [es] at a
      cases a
      exact .lst upd_same (da.mono e0)
    · rw [List.getElem?_set_ne hj] at b
      have w := S.at_ j o l a b
      cases o with
      | none =>
        cases l with
        | no => exact True.intro
        | dat d => exact w
        | own ds => exact w
        | slf c fs => exact w
      | some v =>
        cases l with
        | no => exact True.intro
        | dat d => exact Den.mono e0 w
        | own ds' =>
          obtain ⟨p', vs', rfl, a1, b1, c1, nf1, d1⟩ := w
          have ne : p' ≠ q := fun z => by
            subst z
            exact hj (S.ds i j p' _ _ ei b rfl rfl es a)
          exact ⟨p', vs', rfl, a1, by rw [upd_ne ne]; exact b1, c1, nf1, d1.mono e0⟩
        | slf c fs =>
          obtain ⟨p', C, dx, vs', rfl, ep, m, a1, b1, c1, nf1, d1⟩ := w
          have ne : p' ≠ q := fun z => by
            subst z
            exact hj (S.ds i j p' _ _ ei b rfl rfl es a)
          exact ⟨p', C, dx, vs', rfl, ep, m, a1, by rw [upd_ne ne]; exact b1, c1, nf1, d1.mono e0⟩
  · have ne : ∀ (j : Nat) (a : Sl), (ρ.set i (.dat (.lst ds)))[j]? = some a → a.mine = true → ρ[j]? = some a := fun j a e m => by
      by_cases hj : i = j
      · subst hj
        rw [List.getElem?_set_self hl] at e
        cases e
        cases m
      · rwa [List.getElem?_set_ne hj] at e
    exact S.ds j k p a b (ne j a e1 m1) (ne k b e2 m2) m1 m2 e3 e4
  · obtain ⟨a1, b1, c1⟩ := S.st.fr p o x y z
    have ne : p ≠ q := fun w => by
      subst w
      exact z (nf o x y)
    exact ⟨a1, by rw [upd_ne ne]; exact b1, c1⟩
theorem G.frz {h : Addr} {H0 H : Hp} {s : Hd} {q : Addr} {u : HO} (g : G h H0 H s) (eq : H q = some u) (nh : ¬ isH h H q) : G h (upd H0 q u) H s := by
  obtain ⟨gl, a1, a2, a3, a4⟩ := g.gl
  refine ⟨fun p o x => ?_, by rw [upd_ne fun z => nh (.inl z.symm)]; exact g.h0, gl, by rw [upd_ne fun z => nh (.inr ⟨_, by rw [← z]; exact a3⟩)]; exact a1, a2, a3, a4⟩
  by_cases e : p = q
  · subst e
    rw [upd_same] at x
    cases x
    exact eq
  · rw [upd_ne e] at x
    exact g.ex _ _ x
theorem ss_frz {i : Nat} (hs : SS K mg Wx ts ms) : SS K mg Wx ts (fun ρ s => ms (frzE ρ i) s) := by
  intro h H0 H s σ ρ D g S p
  have p : PostS K mg h (ms (frzE ρ i) s) H0 H Wx D := p
  unfold frzE at p
  split at p
  · rename_i ds ei
    obtain ⟨q, vs, es, eq, n0, nh, nf, da⟩ := S.own ei
    exact hs h _ H s σ _ D (g.frz eq nh) (S.frz ei es eq n0 nh nf da) (PostS.step (same_upd' n0) p)
  · exact hs h H0 H s σ ρ D g S p
theorem ss_frzs (hs : SS K mg Wx ts ms) : ∀ is : List Nat, SS K mg Wx ts (mFrz is ms)
  | [] => hs
  | i :: is => ss_frz (ms := mFrz is ms) (ss_frzs hs is)
/-! ### an own list lent to a reading whose result holds no list -/
mutual
theorem Den.lf {h : Addr} {H : Hp} {q : Addr} {us : List V} (eq : H q = some (.lst us)) : ∀ {v : V} {d : Dt}, Den K mg h H v d → lfree d = true → Den K mg h (del H q) v d
  | _, _, .non, _ => .non
  | _, _, .bl b, _ => .bl b
  | _, _, .int i, _ => .int i
  | _, _, .str x, _ => .str x
  | _, .tup ds, .tup e r, l => .tup (sqt_del eq e) (DenA.lf eq r (by unfold lfree at l; exact l))
  | _, .lst ds, .lst e r, l => by
    unfold lfree at l
    cases l
  | _, .obj c fs, .obj m e r, l => .obj m (by rw [del_ne fun z => by rw [z, eq] at e; cases e]; exact e) (DenF.lf eq r (by unfold lfree at l; exact l))
  | _, _, .hnd, _ => .hnd
theorem DenA.lf {h : Addr} {H : Hp} {q : Addr} {us : List V} (eq : H q = some (.lst us)) : ∀ {v : List V} {d : List Dt}, DenA K mg h H v d → lfreeA d = true → DenA K mg h (del H q) v d
  | _, _, .nil, _ => .nil
  | _, d :: ds, .cons r t, l => by
    unfold lfreeA at l
    rw [Bool.and_eq_true] at l
    exact .cons (Den.lf eq r l.1) (DenA.lf eq t l.2)
theorem DenF.lf {h : Addr} {H : Hp} {q : Addr} {us : List V} (eq : H q = some (.lst us)) : ∀ {v : List (Str × V)} {d : List (Str × Dt)}, DenF K mg h H v d → lfreeF d = true → DenF K mg h (del H q) v d
  | _, _, .nil, _ => .nil
  | _, (n, d) :: ds, .cons r t, l => by
    unfold lfreeF at l
    rw [Bool.and_eq_true] at l
    exact .cons (Den.lf eq r l.1) (DenF.lf eq t l.2)
end
/-- behind the lending: the list is one's own again -/
theorem lend_back {h : Addr} {H0 H A B : Hp} {s' : Hd} {q : Addr} {us : List V} (eq : H q = some (.lst us)) (n0 : H0 q = none) (st : Step h (upd H0 q (.lst us)) H A B) (g : G h A B s') : Step h H0 H (del A q) B ∧ G h (del A q) B s' ∧ A q = some (.lst us) ∧ ¬ isH h B q ∧ Same H0 (del A q) := by
  have aq : A q = some (.lst us) := st.s0 _ _ upd_same
  obtain ⟨gl, a1, a2, a3, a4⟩ := g.gl
  have nh : ¬ isH h B q := fun z => by
    rcases z with z | ⟨r, z⟩
    · rw [z, g.h0] at aq
      cases aq
    · rw [a3] at z
      cases z
      rw [a1] at aq
      cases aq
  have sm : Same H0 (del A q) := fun b o e => by
    have nb : b ≠ q := ne_of_none e n0
    rw [del_ne nb]
    exact st.s0 _ _ (by rw [upd_ne nb]; exact e)
  refine ⟨⟨sm, fun b o x y z => ?_⟩, ⟨fun b o x => ?_, ?_, gl, ?_, a2, a3, a4⟩, aq, nh, sm⟩
  · by_cases e : b = q
    · subst e
      rw [x] at eq
      cases eq
      exact ⟨g.ex _ _ aq, del_same, nh⟩
    · obtain ⟨w1, w2, w3⟩ := st.fr b o x (by rw [upd_ne e]; exact y) z
      exact ⟨w1, by rw [del_ne e]; exact w2, w3⟩
  · by_cases e : b = q
    · subst e
      rw [del_same] at x
      cases x
    · rw [del_ne e] at x
      exact g.ex _ _ x
  · by_cases e : h = q
    · rw [e, del_same]
    · rw [del_ne e]
      exact g.h0
  · by_cases e : gl = q
    · rw [e, del_same]
    · rw [del_ne e]
      exact a1
theorem err_lend {h : Ent} {H0 H : Hp} {σ : L2.St} {ρ ρ' : Env'} {q : Addr} {us : List V} {s' : Hd} {c : Str} {fs : List (Str × Dt)} (S : Slots K mg h H0 H σ ρ) (eq : H q = some (.lst us)) (n0 : H0 q = none) (l : lfreeF fs = true) (p : ErrP K mg h H0 c fs (ρ'.map lfSl) s' Wx) : ErrP K mg h (upd H0 q (.lst us)) c fs ρ' s' Wx := by
  intro σ' C dd A B sm g S' mc x
  have aq : A q = some (.lst us) := sm _ _ upd_same
  have sm0 : Same H0 (del A q) := fun b o e => by
    have nb : b ≠ q := ne_of_none e n0
    rw [del_ne nb]
    exact sm _ _ (by rw [upd_ne nb]; exact e)
  have g2 : G h.a (del A q) B s' := by
    obtain ⟨gl, a1, a2, a3, a4⟩ := g.gl
    refine ⟨fun b o x => ?_, ?_, gl, ?_, a2, a3, a4⟩
    · by_cases e : b = q
      · subst e
        rw [del_same] at x
        cases x
      · rw [del_ne e] at x
        exact g.ex _ _ x
    · by_cases e : h.a = q
      · rw [e, del_same]
      · rw [del_ne e]
        exact g.h0
    · by_cases e : gl = q
      · rw [e, del_same]
      · rw [del_ne e]
        exact a1
  refine p σ' C dd (del A q) B sm0 g2 ⟨by rw [List.length_map]; exact S'.len, fun j o l' a b => ?_, fun i j p a b e1 _ m1 _ _ _ => ?_, ?_⟩ mc (by cases dd with | none => exact x | some dd => obtain ⟨nz, fv, x, f⟩ := x; exact ⟨nz, fv, x, f.lf aq l⟩)
  · rw [List.getElem?_map] at b
    cases e : ρ'[j]? with
    | none =>
      rw [e] at b
      cases b
    | some l0 =>
      rw [e] at b
      cases b
      have w := S'.at_ j o l0 a e
      cases l0 with
      | dat d =>
        by_cases c : lfree d = true
        · have e2 : lfSl (.dat d) = .dat d := if_pos c
          rw [e2]
          cases o with
          | none => exact w
          | some v => exact Den.lf aq w c
        · have e2 : lfSl (.dat d) = .no := if_neg c
          rw [e2]
          cases o <;> exact True.intro
      | no => cases o <;> exact True.intro
      | own ds => cases o <;> exact True.intro
      | slf c fs => cases o <;> exact True.intro
  · rw [List.getElem?_map] at e1
    cases e : ρ'[i]? with
    | none =>
      rw [e] at e1
      cases e1
    | some l0 =>
      rw [e] at e1
      cases e1
      cases l0 with
      | dat d =>
        by_cases c : lfree d = true
        · have e2 : lfSl (.dat d) = .dat d := if_pos c
          rw [e2] at m1
          cases m1
        · have e2 : lfSl (.dat d) = .no := if_neg c
          rw [e2] at m1
          cases m1
      | no => cases m1
      | own ds => cases m1
      | slf c fs => cases m1
  · refine ⟨S.st.s0.trans sm0, fun b o x y z => ?_⟩
    obtain ⟨w1, w2, w3⟩ := S'.st.fr b o x y z
    refine ⟨w1, ?_, w3⟩
    by_cases e : b = q
    · rw [e, del_same]
    · rw [del_ne e]
      exact w2
theorem se_bor {i : Nat} (ha : SE K mg Wx ta a) : SE K mg Wx ta (mBor i a) := by
  intro h H0 H s σ ρ Q g S p
  have p : Post K mg h (Den K mg h.a) (mBor i a ρ s) H0 H Wx Q := p
  unfold mBor at p
  split at p
  · rename_i ds ei
    obtain ⟨q, vs, es, eq, n0, nh, nf, da⟩ := S.own ei
    refine ha h _ H s σ _ Q (g.frz eq nh) (S.frz ei es eq n0 nh nf da) ?_
    split at p
    · rename_i d s' e
      rw [e]
      split at p
      · rename_i l
        intro v A B st g1 dv
        obtain ⟨st2, g2, aq, _⟩ := lend_back eq n0 st g1
        exact p v _ B st2 g2 (dv.lf aq l)
      · exact p.elim
    · rename_i c fs ρ' s' e
      rw [e]
      split at p
      · rename_i l
        exact err_lend S eq n0 l p
      · exact p.elim
    · exact p.elim
  · exact ha h H0 H s σ ρ Q g S p
theorem st_bor {i : Nat} {tt : TT} {mt : MT} (ha : ST K mg Wx tt mt) : ST K mg Wx tt (mBorT i mt) := by
  intro h H0 H s σ ρ Q g S p
  have p : Post K mg h EqB (mBorT i mt ρ s) H0 H Wx Q := p
  unfold mBorT at p
  split at p
  · rename_i ds ei
    obtain ⟨q, vs, es, eq, n0, nh, nf, da⟩ := S.own ei
    refine ha h _ H s σ _ Q (g.frz eq nh) (S.frz ei es eq n0 nh nf da) ?_
    split at p
    · rename_i d s' e
      rw [e]
      intro v A B st g1 dv
      obtain ⟨st2, g2, aq, _⟩ := lend_back eq n0 st g1
      exact p v _ B st2 g2 dv
    · rename_i c fs ρ' s' e
      rw [e]
      split at p
      · rename_i l
        exact err_lend S eq n0 l p
      · exact p.elim
    · exact p.elim
  · exact ha h H0 H s σ ρ Q g S p
end
end Mir


set_option Elab.async false
set_option linter.all false
set_option maxRecDepth 100000
/-! Texts of one's own lists; objects: made, their fields, methods, len, ==. -/
namespace Mir
open PySem PySem.Spec PyProof.Rows L2
open PySem.W (Frag)

/-! ### one's own lists: texts -/
section
variable {X : Cx} {Wx : WX} {a b e e2 : Expr} {ma mb : ME} {as m : MA} {es : List Expr} {pos p p2 p3 p4 : Pos} {mt : MT} {st : Stmt} {sts : List Stmt} {ms : MS}
theorem qf_lst (h : QA X Wx es as) : QF X Wx (.List es pos) (mLstO as) := by
  obtain ⟨t, q, s⟩ := h
  exact ⟨_, pe_lst q, sf_lst s⟩
theorem qf_list (ha : QE X Wx e ma) (hg : Gl X "list") (hm : X.mg "list" = none) (he : starEach [e] X.env = (false, eval e X.env) :: starEach [] X.env := by rfl) (hpl : (backTo pos (starEach [] X.env)).any (·.1) = false := by rfl) : QF X Wx (.Call (.Name "list" p) [e] [] pos) (mListO ma) := by
  obtain ⟨t, q, s⟩ := ha
  exact ⟨_, pe_callTy call_list_of hg hm (by decide +kernel) (pa_cons q pa_nil he) (by decide) (by decide) he hpl, sf_listc s⟩
theorem qf_cat (ha : QE X Wx a ma) (hb : QE X Wx b mb) : QF X Wx (.BinOp a .Add b pos) (mCatO ma mb) := by
  obtain ⟨ta, pa, sa⟩ := ha
  obtain ⟨tb, pb, sb⟩ := hb
  exact ⟨_, pe_op op_addA pa pb, sf_cat sa sb⟩
theorem qs_setO (i : Nat) {x : Str} {pos' : Pos} (hN : X.N.Nodup) (he : QF X Wx e m) (hi : X.N[i]? = some x := by rfl) (hx : Loc X.env.scope x := by first | exact Or.inl rfl | exact Or.inr rfl) (hs : swapsWith e (some (.Name x pos')) pos.line X.env = pure false := by rfl)
    (hf : X.fn x = true ∨ X.env.scope.names.lookup x = some .local := by first | exact .inl rfl | exact .inr rfl) : QS X Wx (.Assign [.Name x pos'] e pos) (mSetO i m) := by
  obtain ⟨t, q, s⟩ := he
  exact ⟨_, ps_set hN hi hx q hs hf, ss_setO s⟩
theorem qs_app (i : Nat) {x : Str} (hN : X.N[i]? = some x) (he : QE X Wx e ma) (hv : Vis X.env.scope x := by first | exact Or.inl rfl | exact Or.inr (Or.inl rfl) | exact Or.inr (Or.inr rfl)) (hd : (x == ("__debug__" : Str)) = false := by decide)
    (hcd : (x == ("__classdict__" : Str)) = false := by decide)
    (hbase : attributeBase (.Name x p) "append" X.env (eval (.Name x p) X.env) = eval (.Name x p) X.env := by rfl)
    (hfew : ((backTo p3 (starEach [e] X.env)).all (fun x => !x.1) && (backToKw p3 (keywordEach [] X.env)).all (fun x => x.1.isSome) && decide ([e].length + ([] : List Keyword).length + (if ([] : List Keyword).isEmpty then 0 else 1) < 30)) = true := by rfl)
    (hline : (p2.endLine == p3.line) = true := by rfl) (hse : starEach [e] X.env = (false, eval e X.env) :: starEach [] X.env := by rfl) (hplain : (backTo p3 (starEach [] X.env)).any (·.1) = false := by rfl)
    (hs : swapsWith (.Call (.Attribute (.Name x p) "append" p2) [e] [] p3) none pos.line X.env = pure false := by rfl) : QS X Wx (.Expr (.Call (.Attribute (.Name x p) "append" p2) [e] [] p3) pos) (mApp i ma) := by
  obtain ⟨t, q, s⟩ := he
  exact ⟨_, ps_expr (pe_bm PySem.F.plainAttrs_list PySem.F.slot_list_append PySem.F.type_list_append mt_append (pe_var hN hv hd hcd) (pa_cons q pa_nil hse) hbase hfew hline hse hplain) hs, ss_app s⟩
theorem qs_setI (i : Nat) {x : Str} (hN : X.N[i]? = some x) (hb : QE X Wx b mb) (ha : QE X Wx a ma) (hv : Vis X.env.scope x := by first | exact Or.inl rfl | exact Or.inr (Or.inl rfl) | exact Or.inr (Or.inr rfl)) (hd : (x == ("__debug__" : Str)) = false := by decide)
    (hcd : (x == ("__classdict__" : Str)) = false := by decide)
    (hh : ∀ v, assign (.Subscript (.Name x p) b p2) X.env v = (do
      let ov ← holding [v] (eval (.Name x p) X.env)
      let iv ← holding [v, ov] (eval b X.env)
      standAt p2
      holding [v, ov, iv] (setItem ov iv v)
      release [v, ov, iv] []) := by intro _; rfl)
    (hs : swapsWithSole [.Subscript (.Name x p) b p2] a pos.line X.env = pure false := by rfl) (hw : swappedStores [.Subscript (.Name x p) b p2] a X.env = pure none := by rfl)
    (h1 : (assignEach [.Subscript (.Name x p) b p2] X.env).map (·.2) = [assign (.Subscript (.Name x p) b p2) X.env] := by rfl) : QS X Wx (.Assign [.Subscript (.Name x p) b p2] a pos) (mSetI i mb ma) := by
  obtain ⟨ta, pa, sa⟩ := ha
  obtain ⟨tb, pb, sb⟩ := hb
  exact ⟨_, ps_asg pa (pg_sub (pe_var hN hv hd hcd) pb set_list hh) hs hw h1, ss_setI sb sa⟩
theorem qe_ixO (i : Nat) {x : Str} (hN : X.N[i]? = some x) (hb : QE X Wx b mb) (hv : Vis X.env.scope x := by first | exact Or.inl rfl | exact Or.inr (Or.inl rfl) | exact Or.inr (Or.inr rfl)) (hd : (x == ("__debug__" : Str)) = false := by decide)
    (hcd : (x == ("__classdict__" : Str)) = false := by decide) (hs : PlainIx b := by exact fun _ _ => rfl) : QE X Wx (.Subscript (.Name x p) b pos) (mIxO i mb) := by
  obtain ⟨tb, pb, sb⟩ := hb
  exact ⟨_, pe_ix ix_seq (pe_var hN hv hd hcd) pb hs, se_ixO sb⟩
theorem qe_bor (i : Nat) (ha : QE X Wx a ma) : QE X Wx a (mBor i ma) := by
  obtain ⟨t, q, s⟩ := ha
  exact ⟨t, q, se_bor s⟩
theorem qt_bor (i : Nat) (ha : QT X Wx a mt) : QT X Wx a (mBorT i mt) := by
  obtain ⟨t, q, s⟩ := ha
  exact ⟨t, q, st_bor s⟩
theorem qs_frz (is : List Nat) (hs : QS X Wx st ms) : QS X Wx st (mFrz is ms) := by
  obtain ⟨t, q, s⟩ := hs
  exact ⟨t, q, ss_frzs s is⟩
end
section
variable {X : Cx} {Wx : WX} {elt tg iter : Expr} {scope : Scope} {own : List (Str × Nat)} {pos : Pos} {g : TG} {m : GM} {js : List Nat} {ifs : List Expr} {mt : MT} {ma : ME}
theorem qf_lc {mi : MA} {vs : List Nat} (hc : X.calm = true) (hN : X.N.Nodup) (hi : QI X Wx iter mi) (ok : BlkOk X.N X.env.scope scope own) (hvs : own.map (·.2) = vs) (hv : ∀ j ∈ js, j ∈ vs) (hsg : SG X.K X.mg js g m)
    (hg : ∀ (s : Shared) (H : Hp) (C : Addr) (cl : List (Str × Addr)) (fp : List Addr), PG (X.blk s H scope (compEnvC scope cl C X.env) fp) tg g)
    (ht : ∀ (s : Shared) (H : Hp) (C : Addr) (cl : List (Str × Addr)) (fp : List Addr), QTs (X.blk s H scope (compEnvC scope cl C X.env) fp) ifs mt)
    (he : ∀ (s : Shared) (H : Hp) (C : Addr) (cl : List (Str × Addr)) (fp : List Addr), QE (X.blk s H scope (compEnvC scope cl C X.env) fp) WF elt ma) :
    QF X Wx (.ListComp elt [⟨tg, iter, ifs, 0⟩] scope pos) (mToL (mLc m mi mt ma vs)) := by
  subst hvs
  obtain ⟨wi, q, s, hs⟩ := hi
  exact ⟨_, pe_lc hc hN (q _) ok hg (fun s H C cl fp => (ht s H C cl fp).can) (fun s H C cl fp => (he s H C cl fp).can) hs, sf_lc s hsg hv st_cT se_cE⟩
theorem qs_setLcO {mi : MA} {vs : List Nat} (i : Nat) {y : Str} {py spos : Pos} (hc : X.calm = true) (hN : X.N.Nodup) (hi : QI X Wx iter mi) (ok : BlkOk X.N X.env.scope scope own) (hvs : own.map (·.2) = vs) (hv : ∀ j ∈ js, j ∈ vs) (hsg : SG X.K X.mg js g m)
    (hg : ∀ (s : Shared) (H : Hp) (C : Addr) (cl : List (Str × Addr)) (fp : List Addr), PG (X.blk s H scope (compEnvC scope cl C X.env) fp) tg g)
    (ht : ∀ (s : Shared) (H : Hp) (C : Addr) (cl : List (Str × Addr)) (fp : List Addr), QTs (X.blk s H scope (compEnvC scope cl C X.env) fp) ifs mt)
    (he : ∀ (s : Shared) (H : Hp) (C : Addr) (cl : List (Str × Addr)) (fp : List Addr), QE (X.blk s H scope (compEnvC scope cl C X.env) fp) WF elt ma)
    (hy : X.N[i]? = some y := by rfl) (hyl : X.env.scope.names.lookup y = some .local := by rfl) (hsw : swapsWith (.ListComp elt [⟨tg, iter, ifs, 0⟩] scope pos) (some (.Name y py)) spos.line X.env = pure true := by exact sw_true rfl rfl rfl (by decide +kernel)) :
    QS X Wx (.Assign [.Name y py] (.ListComp elt [⟨tg, iter, ifs, 0⟩] scope pos) spos) (mSetO i (mToL (mLc m mi mt ma vs))) := by
  subst hvs
  obtain ⟨wi, q, s, hs⟩ := hi
  exact ⟨_, ps_setLc hc hN hy hyl hsw (q _) ok hg (fun s H C cl fp => (ht s H C cl fp).can) (fun s H C cl fp => (he s H C cl fp).can) hs, ss_setO (sf_lc s hsg hv st_cT se_cE)⟩
end

/-! ### fields -/
def mAttr (cs : List Str) (f : Str) (a : ME) : ME := fun ρ s => (a ρ s).bind fun d s1 => match d with
  | .obj c fs => if c ∈ cs then liftO (fs.lookup f) s1 else .bad
  | _ => .bad
/-- in the classes cs the name f is a field -/
def FldOk (K : Frag) (mg : Str → Option Value) (cs : List Str) (f : Str) : Prop := ∀ c ∈ cs, ∀ C, mg c = some (.ref C) → Cls K C ∧ NoAttr K C f
def putFD (f : Str) (v : Dt) : List (Str × Dt) → List (Str × Dt)
  | [] => [(f, v)]
  | (g, x) :: r => if g = f then (g, v) :: r else (g, x) :: putFD f v r
/-- self.f = a, self at slot i still being made -/
def mFld (i : Nat) (cs : List Str) (f : Str) (a : ME) : MS := fun ρ s => (a ρ s).bind fun d s1 => match ρ[i]? with
  | some (.slf c fs) => if c ∈ cs ∧ fs.length < 1000 then .ok (.nx (ρ.set i (.slf c (putFD f d fs)))) s1 else .bad
  | _ => .bad
section
variable {K : Frag} {mg : Str → Option Value} {Wx : WX} {ta tb : TE} {a b : ME} {cs : List Str} {f : Str}
theorem DenF.put {h : Addr} {H : Hp} {v : V} {d : Dt} (q : Den K mg h H v d) : ∀ {fv : List (Str × V)} {fs : List (Str × Dt)}, DenF K mg h H fv fs → DenF K mg h H (putF f v fv) (putFD f d fs)
  | _, _, .nil => .cons q .nil
  | _, _, @DenF.cons _ _ _ _ n x vs d' ds r t => by
    unfold putF putFD
    by_cases c : n = f
    · rw [if_pos c, if_pos c]
      exact .cons q t
    · rw [if_neg c, if_neg c]
      exact .cons r (DenF.put q t)
theorem DenF.len {h : Addr} {H : Hp} : ∀ {fv : List (Str × V)} {fs : List (Str × Dt)}, DenF K mg h H fv fs → fv.length = fs.length
  | _, _, .nil => rfl
  | _, _, .cons _ t => congrArg Nat.succ (DenF.len t)
theorem DenF.no {h : Addr} {H : Hp} : ∀ {fv : List (Str × V)} {fs : List (Str × Dt)}, DenF K mg h H fv fs → fs.lookup f = none → fv.lookup f = none
  | _, _, .nil, _ => rfl
  | _, _, @DenF.cons _ _ _ _ n x vs d' ds r t, e => by
    by_cases c : f = n
    · subst c
      simp only [List.lookup, beq_self_eq_true] at e
      cases e
    · have c' : (f == n) = false := by simpa using c
      simp only [List.lookup, c'] at e ⊢
      exact DenF.no t e
theorem se_attr (hc : FldOk K mg cs f) (ha : SE K mg Wx ta a) : SE K mg Wx (tFld K ta f) (mAttr cs f a) := by
  intro h H0 H s σ ρ Q g S p
  refine ha h H0 H s σ ρ _ g S (Post.bind p fun d s1 x A B st g1 dx p1 => ?_)
  cases dx with
  | @obj aa C dxx c fv fs m e r =>
    by_cases cc : c ∈ cs
    · simp only [if_pos cc] at p1
      obtain ⟨z, hz, p2⟩ := post_lift p1
      obtain ⟨v, e1, e2⟩ := r.look hz
      obtain ⟨k1, k2⟩ := hc c cc C m
      exact ⟨aa, C, dxx, fv, v, rfl, g1.ex _ _ e, k1, k2, e1, p2 v A B (.refl _ _) g1 e2⟩
    · simp only [if_neg cc] at p1
      exact p1.elim
  | _ => exact p1.elim
theorem ss_fld {i : Nat} (hc : FldOk K mg cs f) (ha : SE K mg Wx ta a) : SS K mg Wx (sFld K (tVar i) ta f) (mFld i cs f a) := by
  intro h H0 H s σ ρ D g S p
  refine ha h H0 H s σ ρ _ g S (PostS.bind p fun d s1 x A B st g1 dx p1 => ?_)
  split at p1
  · rename_i c fs ei
    obtain ⟨q, C, dxx, vs, es, ep, m, eq, n0, nh, nf, da⟩ := (S.step st).slf ei
    by_cases cc : c ∈ cs ∧ fs.length < 1000
    · rw [if_pos cc] at p1
      obtain ⟨k1, k2⟩ := hc c cc.1 C m
      have nha : q ≠ h.a := fun z => nh (.inl z)
      refine ⟨.ref q, es, q, C, dxx, vs, rfl, eq, k1, k2, by rw [da.len]; exact cc.2, ?_⟩
      exact p1 σ A _ (Same.refl _) (g1.at n0 nh) ((S.step st).mut (u := .ins C dxx (putF f x vs)) ei rfl es nh nf rfl ⟨q, C, dxx, _, rfl, ep, m, upd_same, n0, isH_upd nha nh, nf, da.put dx⟩)
    · rw [if_neg cc] at p1
      exact p1.elim
  · exact p1.elim
end
section
variable {X : Cx} {Wx : WX} {a e : Expr} {ma : ME} {pos p p2 : Pos} {f : Str} {cs : List Str}
theorem qe_attr (hc : FldOk X.K X.mg cs f) (ha : QE X Wx a ma) (hb : attributeBase a f X.env (eval a X.env) = eval a X.env := by rfl) : QE X Wx (.Attribute a f pos) (mAttr cs f ma) := by
  obtain ⟨t, q, s⟩ := ha
  exact ⟨_, pe_fld q hb, se_attr hc s⟩
theorem qs_fld (i : Nat) {x : Str} (hc : FldOk X.K X.mg cs f) (hN : X.N[i]? = some x) (he : QE X Wx e ma) (hv : Vis X.env.scope x := by first | exact Or.inl rfl | exact Or.inr (Or.inl rfl) | exact Or.inr (Or.inr rfl)) (hd : (x == ("__debug__" : Str)) = false := by decide)
    (hcd : (x == ("__classdict__" : Str)) = false := by decide) (hs : swapsWith e (some (.Attribute (.Name x p) f p2)) pos.line X.env = pure false := by rfl) : QS X Wx (.Assign [.Attribute (.Name x p) f p2] e pos) (mFld i cs f ma) := by
  obtain ⟨t, q, s⟩ := he
  exact ⟨_, ps_fld (pe_var hN hv hd hcd) q hs, ss_fld hc s⟩
end

/-! ### objects that are made -/
section
variable (K : Frag) (mg : Str → Option Value)
/-- what __init__ of the class c promises: the fields that m says -/
def spN (c : Str) (n : Nat) (m : List Dt → Hd → R (List (Str × Dt))) : Sp := fun vs H Q E => vs.length = n + 1 ∧ ∃ (h : Addr) (H0 : Hp) (s : Hd) (p C dx : Addr) (ws : List V) (ds : List Dt), vs = .ref p :: ws ∧ mg c = some (.ref C) ∧ H p = some (.ins C dx []) ∧ H0 p = none ∧ ¬ isH h H p ∧ G h H0 H s ∧ DenA K mg h H0 ws ds ∧
  (match m ds s with
    | .ok fs s' => ∀ (dx' : Addr) (fv : List (Str × V)) (H0' H' : Hp), Step h H0 (del H p) H0' H' → G h H0' H' s' → H' p = some (.ins C dx' fv) → H0' p = none → ¬ isH h H' p → DenF K mg h H0' fv fs → Q .non H'
    | .err c' fs _ s' => ∀ (C' : Addr) (od : Option Addr) (H0' H' : Hp), Step h H0 (del H p) H0' H' → G h H0' H' s' → mg c' = some (.ref C') → XdOk K mg h H0' H' od fs → E (.ref C') od H'
    | .bad => False)
end
def mMake (c : Str) (n : Nat) (dd : List Dt) (m : List Dt → Hd → R (List (Str × Dt))) (as : MA) : ME := fun ρ s => (as ρ s).bind fun ds s1 =>
  if (ds ++ dd).length = n then (match m (ds ++ dd) s1 with
    | .ok fs s2 => .ok (.obj c fs) s2
    | .err c' fs _ s2 => .err c' fs ρ s2
    | .bad => .bad) else .bad
/-- the function of an __init__ -/
def startI (n : Nat) (c : Str) (ds : List Dt) : Env' := .slf c [] :: (ds.map .dat ++ List.replicate (n - (ds.length + 1)) .no)
def mInit (n : Nat) (c : Str) (ms : MS) : List Dt → Hd → R (List (Str × Dt)) := fun ds s => match ms (startI n c ds) s with
  | .ok (.nx ρ) s' => (match ρ[0]? with
    | some (Sl.slf c' fs) => if c' = c then .ok fs s' else .bad
    | _ => .bad)
  | .err c fs ρ s' => .err c fs ρ s'
  | _ => .bad
/-- C(e, ..) -/
def tMakeS (C : Addr) (sp : Sp) (dvs : List V) (E : L2.St → XK) (t : TA) : TE := fun σ H Q => t σ H fun vs H1 => ∀ x dx, H1 x = none → H1 dx = none → dx ≠ x → sp (.ref x :: (vs ++ dvs)) (upd (upd H1 dx (.own x)) x (.ins C dx [])) (fun v H2 => v = .non ∧ Q (.ref x) H2) (E σ)
section
variable {K : Frag} {mg : Str → Option Value} {Wx : WX} {t : TA} {as : MA}
theorem se_make {c : Str} {n : Nat} {C : Addr} {dvs : List V} {dd : List Dt} {m : List Dt → Hd → R (List (Str × Dt))} (hC : mg c = some (.ref C)) (hd : ∀ (h : Addr) (H : Hp), DenA K mg h H dvs dd) (ha : SA K mg Wx t as) : SE K mg Wx (tMakeS C (spN K mg c n m) dvs (WE Wx) t) (mMake c n dd m as) := by
  intro h H0 H s σ ρ Q g S p
  refine ha h H0 H s σ ρ _ g S (Post.bind p fun ds s1 xs A B st g1 dx p1 => ?_)
  by_cases cc : (ds ++ dd).length = n
  · rw [if_pos cc] at p1
    have dx2 := dx.append (hd h A)
    intro x dxx nx nd ne
    obtain ⟨g2, st2⟩ := g1.side (o := .own x) nd
    have nx2 : (upd B dxx (.own x)) x = none := by rw [upd_ne (Ne.symm ne)]; exact nx
    obtain ⟨g3, st3⟩ := g2.side (o := .ins C dxx []) nx2
    have ax : A x = none := g1.ex.free nx
    have back : ∀ {H0' H' : Hp}, Step h.a A (del (upd (upd B dxx (.own x)) x (.ins C dxx [])) x) H0' H' → Step h.a A B H0' H' := fun {H0' H'} w => ⟨w.s0, fun q o e1 e2 e3 => by
      have n1 : q ≠ x := ne_of_none e1 nx
      have n2 : q ≠ dxx := ne_of_none e1 nd
      obtain ⟨gl, a1, a2, a3, a4⟩ := g1.gl
      have n3 : h.a ≠ x := ne_of_none a3 nx
      have n4 : h.a ≠ dxx := ne_of_none a3 nd
      refine w.fr q o (by rw [del_ne n1, upd_ne n1, upd_ne n2]; exact e1) e2 fun z => e3 ?_
      rcases z with z | ⟨r, z⟩
      · exact .inl z
      · rw [del_ne n3, upd_ne n3, upd_ne n4] at z
        exact .inr ⟨r, z⟩⟩
    refine ⟨by show (xs ++ dvs).length + 1 = n + 1; rw [dx2.len, cc], h, A, s1, x, C, dxx, _, _, rfl, hC, upd_same, ax, sf_lst.notH g2 nx2, g3, dx2, ?_⟩
    cases hm : m (ds ++ dd) s1 with
    | ok fs s2 =>
      rw [hm] at p1
      intro dx' fv H0' H' w g4 e1 e2 e3 df
      have w2 := back w
      have e0 : Same H0' (upd H0' x (.ins C dx' fv)) := same_upd' e2
      refine ⟨rfl, p1 (.ref x) (upd H0' x (.ins C dx' fv)) H' ⟨w2.s0.trans e0, fun q o y1 y2 y3 => ?_⟩ (g4.frz e1 e3) (.obj hC upd_same (df.mono e0))⟩
      obtain ⟨z1, z2, z3⟩ := w2.fr q o y1 y2 y3
      exact ⟨z1, by rw [upd_ne (ne_of_none y1 nx)]; exact z2, z3⟩
    | err c' fs ρ' s2 =>
      rw [hm] at p1
      exact fun C' e A2 B2 w g4 mc xx => p1 σ C' e A2 B2 w.s0 g4 (S.step (st.trans (back w))) mc xx
    | bad =>
      rw [hm] at p1
      exact p1.elim
  · rw [if_neg cc] at p1
    exact p1.elim
theorem slots_init {h : Addr} {H0 H : Hp} {N : List Str} {vs : List V} {ds : List Dt} {c : Str} {p C dx : Addr} (hN : 0 < N.length) (hc : mg c = some (.ref C)) (hp : H p = some (.ins C dx [])) (h0 : H0 p = none) (nh : ¬ isH h H p) (da : DenA K mg h H0 vs ds) :
    Slots K mg ⟨h, H0, del H p, p⟩ H0 H (L2.start N (.ref p :: vs)) (startI N.length c ds) := by
  have l := da.len
  have nf : NF ⟨h, H0, del H p, p⟩ p := fun o e _ => by
    have e : del H p p = some o := e
    rw [del_same] at e
    cases e
  have st : Step h H0 (del H p) H0 H := by
    refine ⟨Same.refl _, fun q o x y z => ?_⟩
    have nq : q ≠ p := fun w => by
      subst w
      rw [del_same] at x
      cases x
    rw [del_ne nq] at x
    refine ⟨x, y, fun w => z ?_⟩
    rcases w with w | ⟨r, w⟩
    · exact .inl w
    · by_cases e : h = p
      · exact absurd (.inl e.symm) nh
      · exact .inr ⟨r, by rw [del_ne e]; exact w⟩
  have own : ∀ (i : Nat) (b : Sl), (ds.map Sl.dat ++ List.replicate (N.length - (ds.length + 1)) Sl.no)[i]? = some b → b.mine = true → False := fun i b z m => by
    by_cases hi : i < ds.length
    · rw [List.getElem?_append_left (by rw [List.length_map]; exact hi), List.getElem?_map, List.getElem?_eq_getElem hi] at z
      cases z
      cases m
    · rw [List.getElem?_append_right (by rw [List.length_map]; omega), List.getElem?_replicate] at z
      split at z <;> cases z
      cases m
  unfold L2.start startI
  refine ⟨by simp [l], fun i o sl a b => ?_, fun i j q x y e1 e2 m1 m2 _ _ => ?_, st⟩
  · match i, a, b with
    | 0, a, b =>
      cases a
      cases b
      exact ⟨p, C, dx, [], rfl, rfl, hc, hp, h0, nh, nf, .nil⟩
    | i + 1, a, b =>
      have a : (vs.map some ++ List.replicate (N.length - (vs.length + 1)) none)[i]? = some o := a
      have b : (ds.map Sl.dat ++ List.replicate (N.length - (ds.length + 1)) Sl.no)[i]? = some sl := b
      by_cases hi : i < ds.length
      · rw [List.getElem?_append_left (by rw [List.length_map]; omega), List.getElem?_map] at a
        rw [List.getElem?_append_left (by rw [List.length_map]; exact hi), List.getElem?_map, List.getElem?_eq_getElem hi] at b
        cases b
        obtain ⟨v, e1, e2⟩ := da.get (List.getElem?_eq_getElem hi)
        rw [e1] at a
        cases a
        exact e2
      · rw [List.getElem?_append_right (by rw [List.length_map]; omega), List.getElem?_replicate] at b
        split at b
        · cases b
          cases o <;> exact True.intro
        · cases b
  · match i, j, e1, e2 with
    | 0, 0, _, _ => rfl
    | i + 1, _, e1, _ => exact (own i x e1 m1).elim
    | 0, j + 1, _, e2 => exact (own j y e2 m2).elim
end
section
variable {P : Program} {w : World} {K : Frag} {mg : Str → Option Value} {base : Heap} {x qual c : Str} {st : Stmt} {f : Addr} {fd : FuncData} {N ps : List Str} {k : Nat} {ms : MS}
theorem init_back {h p C : Addr} {H0 H : Hp} {s : Hd} {ds : List Dt} {Q : VK} {E : XK} {n : Nat} (hc : mg c = some (.ref C))
    (q : match mInit n c ms ds s with
    | .ok fs s' => ∀ (dx' : Addr) (fv : List (Str × V)) (H0' H' : Hp), Step h H0 (del H p) H0' H' → G h H0' H' s' → H' p = some (.ins C dx' fv) → H0' p = none → ¬ isH h H' p → DenF K mg h H0' fv fs → Q .non H'
    | .err c' fs _ s' => ∀ (C' : Addr) (od : Option Addr) (H0' H' : Hp), Step h H0 (del H p) H0' H' → G h H0' H' s' → mg c' = some (.ref C') → XdOk K mg h H0' H' od fs → E (.ref C') od H'
    | .bad => False) : PostS K mg ⟨h, H0, del H p, p⟩ (ms (startI n c ds) s) H0 H (fun c d _ H' => E c d H') { nx := fun _ H' => Q .non H', rt := Q } := by
  unfold mInit at q
  cases e : ms (startI n c ds) s with
  | ok fl s2 =>
    rw [e] at q
    cases fl with
    | nx ρ =>
      cases e0 : ρ[0]? with
      | none =>
        simp only [e0] at q
      | some l =>
        cases l with
        | slf c' fs =>
          by_cases cc : c' = c
          · simp only [e0, if_pos cc] at q
            subst cc
            intro σ' H0' H' sm g' S'
            obtain ⟨q2, C2, dxx, vs, es2, ep, m2, eq2, n02, nh2, nf2, df⟩ := S'.slf e0
            have ep : q2 = p := ep
            subst ep
            rw [hc] at m2
            cases m2
            exact q dxx vs H0' H' S'.st g' eq2 n02 nh2 df
          · simp only [e0, if_neg cc] at q
        | no => simp only [e0] at q
        | dat d => simp only [e0] at q
        | own ds => simp only [e0] at q
    | rt d => exact q.elim
    | bk ρ => exact q.elim
    | ct ρ => exact q.elim
  | err c' fs ρ s2 =>
    rw [e] at q
    exact fun σ' C' dd A B sm g' S' mc xx => q C' dd A B S'.st g' mc xx
  | bad =>
    rw [e] at q
    exact q
/-- an __init__ follows its function -/
theorem okI {n nn : Nat} (F : Fun K x qual st f fd) (S : FnScope N ps (defScope st)) (hn : ps.length = n + 1) (hN : N.length = nn) (hN0 : 0 < nn)
    (hb : ∀ (cdv : Value) (A : Around) (outer : List Env) (s : Shared) (H : Hp) (E : XK), Room k (A.deeper (envOfC qual (defScope st) s.heap.objs.size f cdv)) → QSs (cxD P w K mg base N qual (defScope st) f cdv A outer s H E) (wE E) (defBody st) ms) :
    FnOk P w K mg base (L2.CX P w) (k + 1) f fd ps (spN K mg c n (mInit nn c ms)) := by
  subst hN
  refine F.okX S (fun vs H Q E h => h.1.trans hn.symm) (fun cdv A outer s H vs Q E hr h => ?_)
  obtain ⟨hl, hh, H0, s', p, C, dx, ws, ds, rfl, hc, hp, h0, nh, g, da, q⟩ := h
  obtain ⟨ts, qq, ss⟩ := hb cdv A outer s H E hr
  exact ⟨ts, qq, ss ⟨hh, H0, del H p, p⟩ H0 H s' _ _ _ g (slots_init hN0 hc hp h0 nh da) (init_back hc q)⟩
theorem okID {n nn : Nat} {params : Arguments} {body : List Stmt} {scope : Scope} {dvs : List V} (F : FunD K x qual params body scope dvs [] f fd) (S : FnScope N ps scope) (hn : ps.length = n + 1) (hN : N.length = nn) (hN0 : 0 < nn)
    (hb : ∀ (cdv : Value) (A : Around) (outer : List Env) (s : Shared) (H : Hp) (E : XK), Room k (A.deeper (envOfC qual scope s.heap.objs.size f cdv)) → QSs (cxD P w K mg base N qual scope f cdv A outer s H E) (wE E) body ms) :
    FnOk P w K mg base (L2.CX P w) (k + 1) f fd ps (spN K mg c n (mInit nn c ms)) := by
  subst hN
  refine F.ok S (fun vs H Q E h => h.1.trans hn.symm) (fun cdv A outer s H vs Q E hr h => ?_)
  obtain ⟨hl, hh, H0, s', p, C, dx, ws, ds, rfl, hc, hp, h0, nh, g, da, q⟩ := h
  obtain ⟨ts, qq, ss⟩ := hb cdv A outer s H E hr
  exact ⟨ts, qq, ss ⟨hh, H0, del H p, p⟩ H0 H s' _ _ _ g (slots_init hN0 hc hp h0 nh da) (init_back hc q)⟩
end
end Mir


set_option Elab.async false
set_option linter.all false
set_option maxRecDepth 100000
/-! Objects: made and asked by calls; len, ==, isinstance of them; errors without fields; except without a name. -/
namespace Mir
open PySem PySem.Spec PyProof.Rows L2
open PySem.W (Frag)

/-! ### C(e, ..), o.m(e, ..) -/
def tMethS (C : Addr) (m : Str) (sp : Sp) (dvs : List V) (E : L2.St → XK) (ta : TE) (t : TA) : TE := fun σ H Q => ta σ H fun x H1 => ∃ a dx fs, x = .ref a ∧ H1 a = some (.ins C dx fs) ∧ fs.lookup m = none ∧ t σ H1 fun vs H2 => sp (x :: (vs ++ dvs)) H2 Q (E σ)
section
variable {X : Cx} {k : Nat} {f C : Addr} {fd : FuncData} {ps : List Str} {sp : Sp} {dvs : List V} {dV : List Value} {E : L2.St → XK} {x m : Str} {p pos apos : Pos} {e o : Expr} {es : List Expr} {ta : TE} {t : TA}
theorem made_run {CX : CXT} {pins : List (Addr × Obj)} {σ : L2.St} {H : Hp} {s : Shared} {Q : VK} {us : List Value} {vs : List V} (M : Mk X.K C f) (F : FnOk X.prog X.w X.K X.mg X.base CX k f fd ps sp) (hr : Room (k + 1) X.A) (hb : Binds X.K fd ps dV) (hd : Vals dvs dV) (hx : PassesAt CX X σ (E σ)) (I : Inv X pins σ H s) (r : Vals vs us)
    (hh : ∀ y dx, H y = none → H dx = none → dx ≠ y → sp (.ref y :: (vs ++ dvs)) (upd (upd H dx (.own y)) y (.ins C dx [])) (fun v H2 => v = .non ∧ Q (.ref y) H2) (E σ)) : wpAny (model X.prog X.w) X.A (call (.ref C) us) (EP X pins σ Q) X.xe s := by
  have z := hh (s.heap.objs.size + 1) s.heap.objs.size (I.hok.fresh (by omega)) (I.hok.fresh (by omega)) (Nat.ne_of_lt (Nat.lt_succ_self _))
  have J := Inv.made (C := C) I
  have rr : Vals (V.ref (s.heap.objs.size + 1) :: (vs ++ dvs)) (Value.ref (s.heap.objs.size + 1) :: (us ++ dV)) := .cons rfl (r.append hd)
  have ln : (Value.ref (s.heap.objs.size + 1) :: us ++ dV).length = ps.length := by
    have q := F.len _ _ _ _ z
    rw [rr.length] at q
    exact q
  refine wpAny_call (make_map (f := f) I.kIn M.makes M.init (beq_iff_eq.mp M.fn) ?_)
  refine codeAny_mono (F.run _ X.stack _ _ ⟨Value.ref (s.heap.objs.size + 1) :: us, []⟩ (Value.ref (s.heap.objs.size + 1) :: (us ++ dV)) _ _ (E σ) (hr.make C us []) (J.env0.make C us []) (hb _ (Value.ref (s.heap.objs.size + 1) :: us) J.kIn ln) rr z) fun res s' w => ?_
  match res, w with
  | .error e, w => exact hx pins _ _ e s' J w
  | .ok (.ret u), w =>
    obtain ⟨v, H', J3, rv, ev, q3⟩ := J.after w
    subst ev
    exact ⟨rv, V.ref (s.heap.objs.size + 1), H', J3, rfl, q3⟩
  | .ok .next, w => exact w.elim
  | .ok .brk, w => exact w.elim
  | .ok .cont, w => exact w.elim
theorem pe_makeS {CX : CXT} (M : Mk X.K C f) (F : FnOk X.prog X.w X.K X.mg X.base CX k f fd ps sp) (hr : Room (k + 1) X.A) (hg : Gl X x) (hm : X.mg x = some (.ref C)) (hb : Binds X.K fd ps dV) (hd : Vals dvs dV) (hx : ∀ σ, PassesAt CX X σ (E σ)) (ha : PA X (e :: es) t)
    (hdb : (x == ("__debug__" : Str)) = false := by decide) (he : starEach (e :: es) X.env = (false, eval e X.env) :: starEach es X.env := by rfl) (hpl : (backTo pos (starEach es X.env)).any (·.1) = false := by rfl) : PE X (.Call (.Name x p) (e :: es) [] pos) (tMakeS C sp dvs E t) := by
  refine ⟨fun pins s σ H Q I z => wpAny_Call_Name_kw (ld_glob I hg hm ?_ hdb)⟩
  refine PySem.W.callWith_K (h₀ := X.base) I.ok.mod.kin M.kp (thn (ha.run pos pins s σ H _ I z) fun us s1 w => ?_) he hpl
  obtain ⟨vs, H1, I1, r, q⟩ := w
  exact ⟨I1.kIn, made_run M F hr hb hd (hx σ) I1 r q⟩
theorem pe_methS {CX : CXT} {pl : Sem Bool} (he : PE X o ta) (c : Cls X.K C) (hm : Meth X.K C m f) (F : FnOk X.prog X.w X.K X.mg X.base CX k f fd ps sp) (hr : Room k X.A) (hb : Binds X.K fd ps dV) (hd : Vals dvs dV) (hx : ∀ σ, PassesAt CX X σ (E σ)) (ha : PA X (e :: es) t)
    (hst : starEach (e :: es) X.env = (false, eval e X.env) :: starEach es X.env := by rfl) (hpl : (backTo pos (starEach es X.env)).any (·.1) = false := by rfl)
    (ht : eval (.Call (.Attribute o m apos) (e :: es) [] pos) X.env = (do
      let ov ← eval o X.env
      standAt apos.atName
      let (f, first) ← holding [ov] (getMethod ov m pl)
      callWith pos f first (backTo pos (starEach (e :: es) X.env)) (backToKw pos (keywordEach [] X.env))) := by rfl) : PE X (.Call (.Attribute o m apos) (e :: es) [] pos) (tMethS C m sp dvs E ta t) := by
  refine ⟨fun pins s σ H Q I z => PySem.W.methodCall_KW (pl := pl) (thn (he.run pins s σ H _ I z) fun u s1 w => ?_) ht⟩
  obtain ⟨y, H1, I1, rx, a, dx, fs, ex, ea, l, q⟩ := w
  subst ex
  cases (show u = Value.ref a from rx)
  refine getmeth_ok I1 ea c hm l (PySem.W.callWith_K (first := [.ref a]) (h₀ := X.base) I.ok.mod.kin hm.kp (thn (ha.run pos pins s1 σ H1 _ I1 q) fun us s2 w => ?_) hst hpl)
  obtain ⟨vs, H2, I2, r, q2⟩ := w
  exact ⟨I2.kIn, run_fnSD (us := .ref a :: us) (vs := .ref a :: vs) F hr hb hd (hx σ) I2 (.cons rfl r) q2⟩
theorem pe_methS0 {CX : CXT} {pl : Sem Bool} (he : PE X o ta) (c : Cls X.K C) (hm : Meth X.K C m f) (F : FnOk X.prog X.w X.K X.mg X.base CX k f fd ps sp) (hr : Room k X.A) (hb : Binds X.K fd ps dV) (hd : Vals dvs dV) (hx : ∀ σ, PassesAt CX X σ (E σ))
    (ht : eval (.Call (.Attribute o m apos) [] [] pos) X.env = (do
      let ov ← eval o X.env
      standAt apos.atName
      let (f, first) ← holding [ov] (getMethod ov m pl)
      callWith pos f first (backTo pos (starEach [] X.env)) (backToKw pos (keywordEach [] X.env))) := by rfl) : PE X (.Call (.Attribute o m apos) [] [] pos) (tMethS C m sp dvs E ta tNil) := by
  refine ⟨fun pins s σ H Q I z => PySem.W.methodCall_KW (pl := pl) (thn (he.run pins s σ H _ I z) fun u s1 w => ?_) ht⟩
  obtain ⟨y, H1, I1, rx, a, dx, fs, ex, ea, l, q⟩ := w
  subst ex
  cases (show u = Value.ref a from rx)
  exact getmeth_ok I1 ea c hm l (PySem.W.callWith_K0 (first := [.ref a]) I1.kIn hm.kp (run_fnSD (us := [.ref a]) (vs := [.ref a]) F hr hb hd (hx σ) I1 (.cons rfl .nil) q))
end
def mMeth (c : Str) (x : Str) (n : Nat) (dd : List Dt) (m : List Dt → Hd → R Dt) (a : ME) (as : MA) : ME := fun ρ s => (a ρ s).bind fun d s1 => match d with
  | .obj c' fs => if c' = c ∧ fs.lookup x = none then (as ρ s1).bind fun ds s2 => if (ds ++ dd).length + 1 = n then (match m (.obj c' fs :: (ds ++ dd)) s2 with
      | .ok d s3 => .ok d s3
      | .err c2 fs2 _ s3 => .err c2 fs2 ρ s3
      | .bad => .bad) else .bad
    else .bad
  | _ => .bad
section
variable {K : Frag} {mg : Str → Option Value} {Wx : WX} {t : TA} {as : MA} {ta : TE} {a : ME}
theorem se_meth {c x : Str} {n : Nat} {C : Addr} {dvs : List V} {dd : List Dt} {m : List Dt → Hd → R Dt} (hC : mg c = some (.ref C)) (hd : ∀ (h : Addr) (H : Hp), DenA K mg h H dvs dd) (he : SE K mg Wx ta a) (ha : SA K mg Wx t as) : SE K mg Wx (tMethS C x (spM K mg n m) dvs (WE Wx) ta t) (mMeth c x n dd m a as) := by
  intro h H0 H s σ ρ Q g S p
  refine he h H0 H s σ ρ _ g S (Post.bind p fun d s1 y A B st g1 dy p1 => ?_)
  cases dy with
  | @obj aa C' dxx c' fv fs mc e r =>
    by_cases cc : c' = c ∧ fs.lookup x = none
    · simp only [if_pos cc] at p1
      obtain ⟨rfl, nl⟩ := cc
      obtain rfl : C = C' := by
        rw [hC] at mc
        cases mc
        rfl
      refine ⟨aa, dxx, fv, rfl, g1.ex _ _ e, r.no nl, ha h A B s1 σ ρ _ g1 (S.step st) (Post.bind p1 fun ds s2 xs A2 B2 st2 g2 dx p2 => ?_)⟩
      by_cases c2 : (ds ++ dd).length + 1 = n
      · rw [if_pos c2] at p2
        have dx2 : DenA K mg h.a A2 (.ref aa :: (xs ++ dvs)) (.obj c' fs :: (ds ++ dd)) := .cons (.obj mc (st2.s0 _ _ e) (r.mono st2.s0)) (dx.append (hd h A2))
        refine ⟨by rw [dx2.len]; exact c2, h, A2, s2, _, g2, dx2, ?_⟩
        cases hm : m (.obj c' fs :: (ds ++ dd)) s2 with
        | ok d s3 =>
          rw [hm] at p2
          exact p2
        | err cc fs ρ' s3 =>
          rw [hm] at p2
          exact fun C e A3 B3 st3 g3 mc x => p2 σ C e A3 B3 st3.s0 g3 (S.step ((st.trans st2).trans st3)) mc x
        | bad =>
          rw [hm] at p2
          exact p2.elim
      · rw [if_neg c2] at p2
        exact p2.elim
    · simp only [if_neg cc] at p1
      exact p1.elim
  | _ => exact p1.elim
end
/-- what the text knows of a class whose objects it makes -/
structure ClsT (K : Frag) (mg : Str → Option Value) (c : Str) (C : Addr) : Prop where
  m : mg c = some (.ref C)
  cl : Cls K C
  ha : PySem.W.findIn K (.ref C) "__class__" = some (some (.builtin "object.__class__"))
  hn : PySem.W.specialIn K (.builtin "object.__class__") "__get__" = some (some (.builtin "getset_descriptor.__get__"))
  htk : PySem.W.takesIn K (.builtin "object.__class__") = some true
  hm : PySem.W.mroIn K C (.type "object") = some true
/-- a class that is made by calls -/
def Maker (P : Program) (w : World) (K : Frag) (mg : Str → Option Value) (base : Heap) (k : Nat) (c : Str) (n : Nat) (dd : List Dt) (m : List Dt → Hd → R (List (Str × Dt))) : Prop :=
  ∃ (C f : Addr) (fd : FuncData) (ps : List Str) (dvs : List V) (dsV : List Value), mg c = some (.ref C) ∧ Mk K C f ∧ FnOk P w K mg base (L2.CX P w) k f fd ps (spN K mg c n m) ∧ Binds K fd ps dsV ∧ Vals dvs dsV ∧ ∀ (h : Addr) (H : Hp), DenA K mg h H dvs dd
/-- a method -/
def Method (P : Program) (w : World) (K : Frag) (mg : Str → Option Value) (base : Heap) (k : Nat) (c x : Str) (n : Nat) (dd : List Dt) (m : List Dt → Hd → R Dt) : Prop :=
  ∃ (C f : Addr) (fd : FuncData) (ps : List Str) (dvs : List V) (dsV : List Value), mg c = some (.ref C) ∧ Cls K C ∧ Meth K C x f ∧ FnOk P w K mg base (L2.CX P w) k f fd ps (spM K mg n m) ∧ Binds K fd ps dsV ∧ Vals dvs dsV ∧ ∀ (h : Addr) (H : Hp), DenA K mg h H dvs dd
section
variable {X : Cx} {Wx : WX} {e o : Expr} {es : List Expr} {c x : Str} {p pos apos : Pos} {as : MA} {ma : ME} {k j n : Nat} {dd : List Dt} {m : List Dt → Hd → R Dt} {mi : List Dt → Hd → R (List (Str × Dt))}
theorem qe_make (M : Maker X.prog X.w X.K X.mg X.base k c n dd mi) (hr : Room j X.A) (hk : k + 1 ≤ j) (tk : Takes X Wx) (ha : QA X Wx (e :: es) as) (hg : Gl X c := by rfl)
    (hdb : (c == ("__debug__" : Str)) = false := by decide) (he : starEach (e :: es) X.env = (false, eval e X.env) :: starEach es X.env := by rfl) (hpl : (backTo pos (starEach es X.env)).any (·.1) = false := by rfl) : QE X Wx (.Call (.Name c p) (e :: es) [] pos) (mMake c n dd mi as) := by
  obtain ⟨C, f, fd, ps, dvs, dsV, hm, mk, F, hb, hd, hdd⟩ := M
  obtain ⟨t, q, s⟩ := ha
  exact ⟨_, pe_makeS mk F (hr.mono hk) hg hm hb hd (fun σ => passAt tk σ) q hdb he hpl, se_make hm hdd s⟩
theorem qe_meth {pl : Sem Bool} (M : Method X.prog X.w X.K X.mg X.base k c x n dd m) (hr : Room j X.A) (hk : k ≤ j) (tk : Takes X Wx) (ho : QE X Wx o ma) (ha : QA X Wx (e :: es) as)
    (hst : starEach (e :: es) X.env = (false, eval e X.env) :: starEach es X.env := by rfl) (hpl : (backTo pos (starEach es X.env)).any (·.1) = false := by rfl)
    (ht : eval (.Call (.Attribute o x apos) (e :: es) [] pos) X.env = (do
      let ov ← eval o X.env
      standAt apos.atName
      let (f, first) ← holding [ov] (getMethod ov x pl)
      callWith pos f first (backTo pos (starEach (e :: es) X.env)) (backToKw pos (keywordEach [] X.env))) := by rfl) : QE X Wx (.Call (.Attribute o x apos) (e :: es) [] pos) (mMeth c x n dd m ma as) := by
  obtain ⟨C, f, fd, ps, dvs, dsV, hm, cl, mt, F, hb, hd, hdd⟩ := M
  obtain ⟨to, po, so⟩ := ho
  obtain ⟨t, q, s⟩ := ha
  exact ⟨_, pe_methS (pl := pl) po cl mt F (hr.mono hk) hb hd (fun σ => passAt tk σ) q hst hpl ht, se_meth hm hdd so s⟩
theorem qe_meth0 {pl : Sem Bool} (M : Method X.prog X.w X.K X.mg X.base k c x n dd m) (hr : Room j X.A) (hk : k ≤ j) (tk : Takes X Wx) (ho : QE X Wx o ma)
    (ht : eval (.Call (.Attribute o x apos) [] [] pos) X.env = (do
      let ov ← eval o X.env
      standAt apos.atName
      let (f, first) ← holding [ov] (getMethod ov x pl)
      callWith pos f first (backTo pos (starEach [] X.env)) (backToKw pos (keywordEach [] X.env))) := by rfl) : QE X Wx (.Call (.Attribute o x apos) [] [] pos) (mMeth c x n dd m ma mNil) := by
  obtain ⟨C, f, fd, ps, dvs, dsV, hm, cl, mt, F, hb, hd, hdd⟩ := M
  obtain ⟨to, po, so⟩ := ho
  exact ⟨_, pe_methS0 (pl := pl) po cl mt F (hr.mono hk) hb hd (fun σ => passAt tk σ) ht, se_meth hm hdd so sa_nil⟩
end
/-- one of two readings -/
theorem qe_alt {X : Cx} {Wx : WX} {e : Expr} {m m1 m2 : ME} (h1 : QE X Wx e m1) (h2 : QE X Wx e m2) (hm : ∀ ρ s, m ρ s = m1 ρ s ∨ m ρ s = m2 ρ s) : QE X Wx e m := by
  obtain ⟨t1, p1, s1⟩ := h1
  obtain ⟨t2, p2, s2⟩ := h2
  refine ⟨fun σ H Q => t1 σ H Q ∨ t2 σ H Q, ⟨fun pins s σ H Q I z => z.elim (p1.run pins s σ H Q I) (p2.run pins s σ H Q I)⟩, fun h H0 H s σ ρ Q g S p => ?_⟩
  rcases hm ρ s with e | e
  · exact .inl (s1 h H0 H s σ ρ Q g S (e ▸ p))
  · exact .inr (s2 h H0 H s σ ρ Q g S (e ▸ p))

/-! ### len of an object whose class has __len__ -/
def rLenOwn (C : Addr) (sp : Sp) : List V → Hp → VK → Prop := fun xs H Q => ∃ a dx fs, xs = [.ref a] ∧ H a = some (.ins C dx fs) ∧ sp [.ref a] H (fun v H' => ∃ n : Int, v = .int n ∧ 0 ≤ n ∧ n < 2 ^ 63 ∧ Q (.int n) H') (fun _ _ _ => False)
section
variable {X : Cx} {k : Nat} {f C : Addr} {fd : FuncData} {ps : List Str} {sp : Sp}
theorem call_lenOwn (hs : PySem.W.findIn X.K (.ref C) "__len__" = some (some (.ref f))) (hf : PySem.W.isFn X.K (.ref f) = true) (F : FnOk X.prog X.w X.K X.mg X.base (L2.CX X.prog X.w) k f fd ps sp) (hr : Room (k + 1) X.A) (hb : Binds X.K fd ps []) : CallR X (.builtin "len") (rLenOwn C sp) := by
  intro pins s σ H xs us Q I r h
  obtain ⟨a, dx, fs, rfl, ha, hsp⟩ := h
  obtain ⟨u, rfl, ru⟩ := r.one
  cases (show u = Value.ref a from ru)
  obtain ⟨mA, J, _⟩ := ins_get I.hok ha
  obtain ⟨od, J, _⟩ := J.look
  obtain ⟨m, hF⟩ := I.fr
  refine PySem.W.len_K hF I.ok.mod.kin J hs hf ?_
  have rr : Vals [V.ref a] [Value.ref a] := .cons rfl .nil
  have ln := F.len _ _ _ _ hsp
  have bd : BindsTo s fd ⟨[.ref a], []⟩ (ps.zip [.ref a]) := by
    have q := hb s [.ref a] I.kIn (by simpa using ln)
    simpa using q
  refine wpAny_call (codeAny_mono (F.run X.A.in1 X.stack s H ⟨[.ref a], []⟩ [.ref a] [.ref a] _ _ hr.in1 I.env0.in1 bd rr hsp) fun res s' w => ?_)
  match res, w with
  | .error e, w => exact (cx_none w).elim
  | .ok (.ret u), w =>
    obtain ⟨v, H', I', rv, n, ev, h0, h1, q⟩ := I.after w
    subst ev
    obtain ⟨t, rfl⟩ := rv
    exact ⟨⟨h0, h1⟩, .int n, H', I'.tok _, ⟨_, rfl⟩, q⟩
  | .ok .next, w => exact w.elim
  | .ok .brk, w => exact w.elim
  | .ok .cont, w => exact w.elim
where
  cx_none {P : Program} {w : World} {l : List Env} {H : Hp} {s : Shared} {e : Value} {s' : Shared} (z : L2.CX P w l H s (fun _ _ _ => False) e s') : False := by
    obtain ⟨_, _, _, _, _, _, _, _, _, _, _, _, z⟩ := z
    exact z
end
end Mir


set_option Elab.async false
set_option linter.all false
set_option maxRecDepth 100000
/-! Defs that ask for repr: what stands around them holds no repr. -/
namespace Mir
open PySem PySem.Spec PyProof.Rows L2
open PySem.W (Frag)
/-- FnOk where no repr runs around -/
structure FnG (P : Program) (w : World) (K : Frag) (mg : Str → Option Value) (base : Heap) (k : Nat) (f : Addr) (fd : FuncData) (ps : List Str) (sp : Sp) : Prop where
  len : ∀ vs H Q E, sp vs H Q E → vs.length = ps.length
  run : ∀ (A : Around) (outer : List Env) (s : Shared) (H : Hp) (args : Args) (us : List Value) (vs : List V) (Q : VK) (E : XK), A.guards = some [] → Room k A → Env0 P w K mg base A outer s H → BindsTo s fd args (ps.zip us) → Vals vs us → sp vs H Q E →
    codeAny (model P w) A (.call (.ref f) args) (CR (L2.CX P w) outer P w H s Q E) s
section
variable {P : Program} {w : World} {K : Frag} {mg : Str → Option Value} {base : Heap} {x qual : Str} {st : Stmt} {f : Addr} {fd : FuncData} {N ps : List Str} {k : Nat} {ms : MS} {sp : Sp}
theorem FnG.of (F : Fun K x qual st f fd) (S : FnScope N ps (defScope st)) (len : ∀ vs H Q E, sp vs H Q E → vs.length = ps.length)
    (hb : ∀ (cdv : Value) (A : Around) (outer : List Env) (s : Shared) (H : Hp) (vs : List V) (Q : VK) (E : XK), A.guards = some [] → Room k (A.deeper (envOfC qual (defScope st) s.heap.objs.size f cdv)) → sp vs H Q E →
      ∃ t, PSs (cxD P w K mg base N qual (defScope st) f cdv A outer s H E) (defBody st) t ∧ t { nx := fun _ H' => Q .non H', rt := Q } (L2.start N vs) H) : FnG P w K mg base (k + 1) f fd ps sp := by
  obtain ⟨oc, od, kV, doc, pm, an, cdv, ct, osl, rfl, lk, hcd⟩ := F.ex
  constructor
  · exact len
  intro A outer s H args us vs Q E gd hr e0 hbi r hsp
  have ln := len _ _ _ _ hsp
  have kin : K.In s.heap := e0.mod.kin.keeps fun b o e => (e0.bs b o e).1
  have nol : s.heap.NoLimit := e0.mod.nolimit.keeps fun b o e => (e0.bs b o e).1
  have kinds : ∀ y ∈ ps.zip us, (defScope st).names.lookup y.1 = some .local ∨ ((defScope st).names.lookup y.1 = some .cell ∧ ((cellsFrom (s.heap.objs.size + 1) (defScope st).names []).lookup y.1).isSome = true) := by
    rintro ⟨n, v⟩ hy
    exact (S.par n (List.of_mem_zip hy).1).imp id fun q => ⟨q, PySem.W.cellsFrom_some _ _ _ (.inl q)⟩
  refine codeAny_call_function hr.depth (kin _ _ lk) rfl S.co S.gen rfl (PySem.W.codeRec_of kin hcd) (hbi _ _ _ _ (wpAny_newFunctionEnv_cells S.kind kinds fun env he s1 y => ?_))
  subst he
  refine ⟨nol.keeps y.toInCall.keep, codeAny_func ?_⟩
  obtain ⟨t, ht, hq⟩ := hb cdv A outer s H vs Q E gd (hr.deeper _) hsp
  have I := inv_start (CX := L2.CX P w) (E := E) S hr.hd e0 ln r y
  refine wpAny_mono (ht.run [] s1 (L2.start N vs) H _ I hq) (fun fl s' z => ?_) fun e s' z => z
  match fl, z with
  | .ret u, ⟨v, σ', H', J, rv, q⟩ => exact ⟨v, H', J.os, J.bare, J.base, J.hok, rv, q⟩
  | .next, ⟨σ', H', J, q⟩ => exact ⟨V.non, H', J.os, J.bare, J.base, J.hok, rfl, q⟩
  | .brk, ⟨_, _, _, q⟩ => exact q.elim
  | .cont, ⟨_, _, _, q⟩ => exact q.elim
/-- a def follows its function, no repr around -/
theorem okG {n nn : Nat} (F : Fun K x qual st f fd) (S : FnScope N ps (defScope st)) (hn : ps.length = n) (hN : N.length = nn)
    (hb : ∀ (cdv : Value) (A : Around) (outer : List Env) (s : Shared) (H : Hp) (E : XK), A.guards = some [] → Room k (A.deeper (envOfC qual (defScope st) s.heap.objs.size f cdv)) → QSs (cxD P w K mg base N qual (defScope st) f cdv A outer s H E) (wE E) (defBody st) ms) :
    FnG P w K mg base (k + 1) f fd ps (spM K mg n (mDef nn ms)) := by
  subst hn
  subst hN
  refine FnG.of F S (fun vs H Q E h => h.1) (fun cdv A outer s H vs Q E gd hr h => ?_)
  obtain ⟨hl, hh, H0, s', ds, g, da, p⟩ := h
  obtain ⟨ts, q, ss⟩ := hb cdv A outer s H E gd hr
  exact ⟨ts, q, ss ⟨hh, H0, H, hh⟩ H0 H s' _ _ _ g (slots_start (.refl _ _) da) (postS_of (h := ⟨hh, H0, H, hh⟩) p)⟩
end
/-! ### the law -/
section
variable {P : Program} {w : World} {K : Frag} {mg mb : Str → Option Value} {k : Nat} {fa a : Addr} {fd : FuncData} {x : Str} {sp : Sp} {s₁ : Shared} {vs : List Value} {ns : List Int}
theorem law_callG (KX : K.In s₁.heap) (hns : s₁.heap.Ns mainGlobals mg) (hb : s₁.heap.Ns builtinsNs mb) (hbb : ∀ x : Str, x ≠ "__name__" → mb x = bootBuiltins x) (hlim : s₁.heap.NoLimit) (hg : s₁.gens = #[])
    (ha : s₁.heap.get? a = some { cls := .type "list", data := .seq vs.toArray }) (hi : IntsAre vs ns) (hl : ns.length ≤ sizeLine) (hr : Room k callerA)
    (F : ∀ base : Heap, K.In base → base.Ns mainGlobals mg → FnG P w K mg base k fa fd [x] sp) (hbind : ∀ (s : Shared) (u : Value), BindsTo s fd ⟨[u], []⟩ [(x, u)])
    (hsp : ∀ H : Hp, Only H → SqL K H a (ns.map V.int) → sp [.ref a] H (fun v _ => v = .bl true) fun _ _ _ => False) :
    codeAny (model P w) callerA (.call (.ref fa) ⟨[.ref a], []⟩) (fun r s' => r = .ok (.ret (.bool true)) ∧ OldK s₁.heap s'.heap ∧ s'.os = s₁.os ∧ AllBare s'.gens) s₁ := by
  have rv := vals_ints hi
  have lv := hi.length
  have main : ∀ H : Hp, Only H → SqL K H a (ns.map V.int) → HOk P w H s₁.heap → (∀ b, H b ≠ none → b = a) → (H a ≠ none → K.lookup a = none) →
      codeAny (model P w) callerA (.call (.ref fa) ⟨[.ref a], []⟩) (fun r s' => r = .ok (.ret (.bool true)) ∧ OldK s₁.heap s'.heap ∧ s'.os = s₁.os ∧ AllBare s'.gens) s₁ := by
    intro H only hS hok at_a no_a
    have low : ∀ {b : Addr} {o : Obj}, s₁.heap.get? b = some o → H b = none → (hidT s₁.heap H).get? b = some o := fun e n => hidT_get e n
    have dict : ∀ {b : Addr} {o : Obj} {es : Array DictEntry} {ep : Nat}, s₁.heap.get? b = some o → o.data = .dict es ep → H b = none := by
      intro b o es ep e d
      by_cases q : H b = none
      · exact q
      · have eb := at_a b q
        subst eb
        rw [ha] at e
        cases e
        cases (show Data.seq vs.toArray _ = Data.dict es ep from d)
    have names : ∀ {b : Addr} {m : Str → Option Value}, s₁.heap.Ns b m → (hidT s₁.heap H).Ns b m := by
      rintro b m ⟨o, es, ep, e, d, r⟩
      exact ⟨o, es, ep, low e (dict e d), d, r⟩
    have kin : K.In (hidT s₁.heap H) := by
      intro b o e
      refine low (KX b o e) ?_
      by_cases q : H b = none
      · exact q
      · have eb := at_a b q
        subst eb
        rw [no_a q] at e
        cases e
    have md : Mod K mg (hidT s₁.heap H) := by
      refine ⟨kin, names hns, ⟨mb, names hb, hbb⟩, ?_⟩
      obtain ⟨mc, h1, h2⟩ := hlim
      exact ⟨mc, names h1, h2⟩
    have e0 : Env0 P w K mg (hidT s₁.heap H) callerA [] s₁ H :=
      { frames := rfl, mod := md, bs := fun b o e => of_hidT e, bsz := Nat.le_of_eq (hidT_size _ _), funs := True.intro, frf := fun b hb => absurd (show b ∈ ([] : List Addr) from hb) (by simp), hok := hok, bare := .of_eq hg }
    have run := (F _ kin (names hns)).run callerA [] s₁ H ⟨[.ref a], []⟩ [.ref a] [.ref a] _ _ rfl hr e0 (hbind s₁ (.ref a)) (.cons rfl .nil) (hsp H only hS)
    refine codeAny_mono run fun r s' z => ?_
    match r, z with
    | .error e, z => exact (cx_false z).elim
    | .ok .next, z => exact z.elim
    | .ok .brk, z => exact z.elim
    | .ok .cont, z => exact z.elim
    | .ok (.ret u), z =>
      obtain ⟨v, H', os, bare, un, hok', r', q⟩ := z
      cases (show v = .bl true from q)
      cases (show u = Value.bool true from r')
      refine ⟨rfl, OldK.of_keep fun b o e => ?_, os, bare⟩
      rcases only b with q | ⟨ob, xs, q⟩
      · exact un.keep b o e q (fun y => absurd (show b ∈ ([] : List Addr) from y) (by simp)) (by simp)
      · have q2 := un.frzs b ob _ q
        obtain ⟨e1, _⟩ := hok b _ q
        obtain ⟨e2, _⟩ := hok' b _ q2
        rw [e] at e1
        cases e1
        exact e2
  by_cases hk : ∃ o, K.lookup a = some o
  · obtain ⟨o, hk⟩ := hk
    have e := KX a o hk
    rw [ha] at e
    cases e
    exact main (fun _ => none) (fun _ => .inl rfl) (.inr ⟨_, vs.toArray, _, hk, rfl, rfl, rfl, by rw [List.size_toArray, lv]; exact hl, by simpa using rv⟩) (fun b u z => by cases (show (none : Option HO) = some u from z)) (fun b z => absurd rfl z) fun z => absurd rfl z
  · have hk : K.lookup a = none := by
      cases q : K.lookup a with
      | none => rfl
      | some o => exact absurd ⟨o, q⟩ hk
    refine main (fun b => if b = a then some (.frz { cls := .type "list", data := .seq vs.toArray } (.lst (ns.map V.int))) else none) (fun b => ?_) (.inl (.inr ⟨{ cls := .type "list", data := .seq vs.toArray }, if_pos rfl⟩)) (fun b u z => ?_) (fun b z => ?_) fun _ => hk
    · by_cases eb : b = a
      · exact .inr ⟨_, _, if_pos eb⟩
      · exact .inl (if_neg eb)
    · by_cases eb : b = a
      · have z2 := (if_pos eb).symm.trans z
        cases z2
        subst eb
        exact ⟨ha, by rw [List.length_map]; exact hl, vs, _, rv, ha⟩
      · have z2 := (if_neg eb).symm.trans z
        cases z2
    · by_cases eb : b = a
      · exact eb
      · exact absurd (if_neg eb) z
end
/-- the head's goal, from the law's promise where no repr runs around -/
theorem walk_ofG {l : PySem.W.OpenLaw} {n k : Nat} {q : Program} {loose : List Str} {XP : (Str → Option Value) → Heap → Prop} {YP : World → Heap → Prop} {d : DefRec} {K : Params → Frag} {sp : World → Sp} {x : Str}
    (hn : l.most = some n) (hn2 : n ≤ sizeLine) (hdf : d.params.defaults = []) (hr : Room k callerA) (hY : ∀ (w : World) (h : Heap), YP w h → (K w.params).In h)
    (F : ∀ (w : World) (mg : Str → Option Value) (fa : Addr) (h : Heap), (K w.params).In h → h.Ns mainGlobals mg → mg d.name = some (.ref fa) → ∃ fd : FuncData, (∀ (s : Shared) (u : Value), BindsTo s fd ⟨[u], []⟩ [(x, u)]) ∧
        ∀ base : Heap, (K w.params).In base → base.Ns mainGlobals mg → FnG l.prog w (K w.params) mg base k fa fd [x] (sp w))
    (hsp : ∀ (w : World) (H : Hp) (a : Addr) (ns : List Int), ns.length ≤ n → Only H → SqL (K w.params) H a (ns.map V.int) → sp w [.ref a] H (fun v _ => v = .bl true) fun _ _ _ => False) :
    PySem.W.WalkO q loose XP YP l.row.toRowW d [] (fun f vs => PySem.call f vs) := by
  refine Att.attach_call hn hdf fun w s₀ s₁ mg mb fa o pm cd doc a vs ns G Y ho hd hcd hmg hobj hi hle hgn => ?_
  obtain ⟨fd, hbi, hF⟩ := F w mg fa _ (hY w _ Y) G.T.g hmg
  exact law_callG (hY w _ Y) G.T.g G.T.b G.T.builtins G.T.nolimit hgn hobj hi (Nat.le_trans hle hn2) hr hF hbi (fun H only hS => hsp w H a ns hle only hS)
/-! ### repr -/
def fRepr : List Dt → Option Dt
  | [.lst ds] => (toPyA ds).bind fun ps => if (PyData.list ps).showable = true ∧ (PyData.list ps).hasDict = false ∧ (PyData.list ps).depth ≤ 60 ∧ (PyData.list ps).shown.length ≤ sizeLine then some (.str (PyData.list ps).shown) else none
  | _ => none
def rReprL (K : Frag) : List V → Hp → VK → Prop := fun xs H Q => ∃ (a : Addr) (p : PyData), xs = [.ref a] ∧ Dp K H (.ref a) p ∧ p.showable = true ∧ p.hasDict = false ∧ p.depth ≤ 60 ∧ p.shown.length ≤ sizeLine ∧ Q (.str p.shown) H
theorem cr_repr {X : Cx} (hg : X.A.guards = some []) (hu : X.A.units + 65 < cLine) : CallR X (.builtin "repr") (rReprL X.K) := by
  intro pins s σ H xs us Q I r h
  obtain ⟨a, p, rfl, dp, h1, h2, h3, h4, q⟩ := h
  obtain ⟨u, rfl, ru⟩ := r.one
  cases (show u = Value.ref a from ru)
  obtain ⟨as, rd⟩ := Dp.reads I p _ _ dp rfl
  exact repr_of_reads' rd h1 (PyData.noDict_hsm h2) hg (by omega) (fun _ _ e => e) (fun h' t tk hk => ⟨.str p.shown, H, I.kept hk, ⟨_, rfl⟩, q⟩) h4
theorem cs_repr {K : Frag} {mg : Str → Option Value} : CaS K mg (rReprL K) fRepr := by
  intro h H0 H s xs ds z Q g0 hx hz q
  unfold fRepr at hz
  split at hz
  · rename_i es
    cases hp : toPyA es with
    | none =>
      rw [hp] at hz
      cases hz
    | some ps =>
      rw [hp] at hz
      have hz : (if (PyData.list ps).showable = true ∧ (PyData.list ps).hasDict = false ∧ (PyData.list ps).depth ≤ 60 ∧ (PyData.list ps).shown.length ≤ sizeLine then some (Dt.str (PyData.list ps).shown) else none) = some z := hz
      split at hz
      · rename_i c
        cases hz
        cases hx with
        | cons a r =>
          cases r
          cases a with
          | lst qa ra => exact ⟨_, .list ps, rfl, .lst (SqL.of (g0.ex _ _ qa)) (DenA.dp (ra.mono g0.ex) hp), c.1, c.2.1, c.2.2.1, c.2.2.2, q _ H0 H (.refl _ _) g0 (.str _)⟩
      · cases hz
  · cases hz
end Mir


set_option Elab.async false
set_option linter.all false
set_option maxRecDepth 100000
/-! try with any clauses, each with a name or without; errors without fields. -/
namespace Mir
open PySem PySem.Spec PyProof.Rows L2
open PySem.W (Frag)
abbrev Cl := Value × Option Nat × (Addr → Value → Option Addr → TS)
def clEnds : Option Nat → Ends → Ends
  | none, D => D
  | some i, D => { nx := fun σ H => D.nx (σ.set i none) H, rt := D.rt, bk := fun σ H => D.bk (σ.set i none) H, ct := fun σ H => D.ct (σ.set i none) H }
def clStart : Option Nat → Addr → L2.St → L2.St
  | none, _, σ => σ
  | some i, a, σ => σ.set i (some (.ref a))
/-- what the clauses wish of a raised error, from the first on -/
def wCl (K : Frag) (Wout : WX) (D : Ends) : List Cl → WX
  | [] => Wout
  | (c, oi, ts) :: r => fun cls d σ H => ∃ b, PySem.W.exmOne K cls c = some b ∧ (b = true → ∀ a, H a = none → ts a cls d (clEnds oi D) (clStart oi a σ) H) ∧ (b = false → wCl K Wout D r cls d σ H)
def SuiteOk (X : Cx) (b₀ : Stmt) (rest : List Stmt) (ts : Addr → Value → Option Addr → TS) : Prop :=
  ∀ (a : Addr) (oe : Obj) (cls : Value) (d : Option Addr) (pn : List (Addr × Obj)), Zc cls d oe → (∃ vs, oe.data = .fields vs) → PSs (X.suite a ((a, oe) :: pn)) (b₀ :: rest) (ts a cls d)
inductive ClsOk (X : Cx) : List ExceptHandler → List Cl → Prop
  | nil : ClsOk X [] []
  | bare {x : Str} {c : Value} {ts : Addr → Value → Option Addr → TS} {b₀ : Stmt} {rest : List Stmt} {np p : Pos} {hs : List ExceptHandler} {l : List Cl} (hc : Names X x c) (hsu : SuiteOk X b₀ rest ts) (r : ClsOk X hs l) :
      ClsOk X (.ExceptHandler (some (.Name x np)) none (b₀ :: rest) p :: hs) ((c, none, ts) :: l)
  | name {x n : Str} {i : Nat} {c : Value} {ts : Addr → Value → Option Addr → TS} {b₀ : Stmt} {rest : List Stmt} {np p : Pos} {hs : List ExceptHandler} {l : List Cl} (hi : X.N[i]? = some n) (hln : X.env.kindOf n = some .local) (hc : Names X x c) (hsu : SuiteOk X b₀ rest ts) (r : ClsOk X hs l) :
      ClsOk X (.ExceptHandler (some (.Name x np)) (some n) (b₀ :: rest) p :: hs) ((c, some i, ts) :: l)
section
variable {X : Cx} {body : List Stmt} {h₁ : ExceptHandler} {hs : List ExceptHandler} {l : List Cl} {pos : Pos} {tb : WX → TS} {Wout : WX}
theorem ps_try_cl (hst : X.stack = X.env :: X.outer) (hfr : X.env.frame = some X.env.locals) (hN : X.N.Nodup) (tk : Takes X Wout)
    (hb : ∀ (W : WX) (pn : List (Addr × Obj)) (xe : Value → Shared → Prop), Takes (X.tr pn xe) W → PassesOwn (model X.prog X.w) X.A X.env xe → PSs (X.tr pn xe) body (tb W))
    (hh : ClsOk X (h₁ :: hs) l) : PS X (.Try body (h₁ :: hs) [] [] pos) (fun D σ H => tb (wCl X.K Wout D l) D σ H) := by
  refine ⟨fun pins s σ H D I hw => wpAny_Try_except ?_⟩
  have ok := I.ok
  have fr : X.A.frames = some (X.env :: X.outer) := ok.frames.trans (by rw [hst])
  have run := (hb (wCl X.K Wout D l) (X.pn ++ pins) (fun e t1 => wpAny (model X.prog X.w) X.A (noteFrame e X.env) (fun _ t2 => wpAny (model X.prog X.w) X.A (setFlight e none) (fun _ t3 =>
      wpAny (model X.prog X.w) X.A (handleBy e X.env (h₁ :: hs)) (SP X pins D) X.xe t3) X.xe t2) X.xe t1) (fun u sx xx => ?_) PassesOwn.looking).run [] s σ H D (I.toTry _) hw
  · refine wpAny_mono run (fun f t1 z => ?_) fun e t1 z => z
    match f, z with
    | .next, ⟨σ1, H1, J1, q⟩ => exact wpAny_execs_nil ⟨σ1, H1, J1.ofTry ok, q⟩
    | .brk, ⟨σ1, H1, J1, q⟩ => exact ⟨σ1, H1, J1.ofTry ok, q⟩
    | .cont, ⟨σ1, H1, J1, q⟩ => exact ⟨σ1, H1, J1.ofTry ok, q⟩
    | .ret u, ⟨v, σ1, H1, J1, r, q⟩ => exact ⟨v, σ1, H1, J1.ofTry ok, r, q⟩
  · obtain ⟨a, B, sI, pins1, σ1, H1, cls, d, rfl, J1, nb, up, sky, na, os, ag, w⟩ := xx
    have J := J1.ofTry ok
    have sky1 : Sky B (X.env :: X.outer) a (Zc cls d) X.env.locals sx.heap := by rw [← hst]; exact sky
    show wpAny (model X.prog X.w) X.A (noteFrame (.ref a) X.env) _ _ _
    refine Sky.land Zc.steady fr hfr sky1 fun g3 land3 up3 => ?_
    have K3 : Inv X pins σ1 H1 { sx with heap := g3 } := J.landed nb land3.1 (up.trans up3) os ag
    obtain ⟨ob3, vs3, at3, z3, dat3⟩ := land3.there
    have off : ∀ {g : Heap} {o : Obj} {vs : Array Value}, g.FunFrames B (X.env :: X.outer) → g.get? a = some o → o.data = .fields vs → a ∉ frs (X.env :: X.outer) := by
      intro g o vs ff e dd hm
      obtain ⟨_, o2, e2, n2⟩ := ff.mem hm
      have eo := e.symm.trans e2
      cases eo
      exact n2 _ dd
    have away := off land3.2.2.1 at3 dat3
    have nL : a ≠ X.env.locals := fun z => away (List.mem_filterMap.mpr ⟨X.env, List.mem_cons_self, by rw [hfr, z]⟩)
    have nF : a ∉ X.fs := by
      intro hm
      obtain ⟨e, he, q⟩ := List.mem_filterMap.mp hm
      exact away (List.mem_filterMap.mpr ⟨e, List.mem_cons_of_mem _ he, q⟩)
    have S3 := K3.suite at3 dat3 na nL nF
    have looks : PySem.W.Looks (model X.prog X.w) g3 (typeOf (.ref a)) cls := fun A Q E t k q => wpAny_typeOf_ref (k _ _ at3) (by rw [z3.1]; exact q)
    have test : ∀ {x : Str} {c : Value} {np : Pos} (hc : Names X x c) {Q : Value → Shared → Prop} {E : Value → Shared → Prop}, Q c { sx with heap := g3 } → wpAny (model X.prog X.w) (X.A.mark (some (.ref a))) (eval (.Name x np) X.env) Q E { sx with heap := g3 } := by
      intro x c np hc Q E q
      obtain ⟨hg, hdb, hm⟩ := hc
      rcases hm with hm | ⟨hm, hv, hn⟩
      · exact ld_glob (X := X.suite a ((a, ob3) :: (X.pn ++ pins))) S3 hg hm q hdb
      · exact ld_blt (X := X.suite a ((a, ob3) :: (X.pn ++ pins))) S3 hg hm hv q hn hdb
    have go : ∀ {hs2 : List ExceptHandler} {l2 : List Cl}, ClsOk X hs2 l2 → wCl X.K Wout D l2 cls d σ1 H1 → wpAny (model X.prog X.w) X.A (handleBy (.ref a) X.env hs2) (SP X pins D) X.xe { sx with heap := g3 } := by
      intro hs2 l2 hk
      induction hk with
      | nil =>
        intro w
        obtain ⟨k1, k2, k3, oe, vs, T, oT, ts', he, hz, hd, h1, hr⟩ := id land3
        refine wpAny_handleBy_nil ?_
        unfold PySem.passOn
        refine wpAny_bind (wpAny_field he hd h1 ?_)
        rw [if_neg (show ¬ ((Value.ref T == Value.none) = true) from by simp)]
        have out : wpAny (model X.prog X.w) X.A (setFlight (.ref a) X.env.frame) (fun _ t4 => wpAny (model X.prog X.w) X.A (throw (.ref a) : Sem Flow) (SP X pins D) X.xe t4) X.xe { sx with heap := g3 } := by
          rw [hfr]
          refine HandSPX.setFlight_upZ land3 fun g4 hg4 up4 => wpAny_throw (tk _ _ ⟨a, B, sI, pins, σ1, H1, cls, d, rfl, J, nb, (up.trans up3).trans up4, .inr (.inr ?_), na, os, ag, w⟩)
          rw [hst]
          exact hg4
        first | exact wpAny_bind (wpAny_pure (wpAny_bind out)) | exact wpAny_bind out
      | @bare x c ts b₀ rest np p hs3 l3 hc hsu r ih =>
        rintro ⟨b, hb1, yes, no⟩
        have LM := PySem.W.exm_one (M := model X.prog X.w) (K3.kIn) looks hb1
        refine wpAny_handleBy_cons (codeAny_handlers_test (test hc (LM.here ?_))) (by intro q; cases q)
        cases b with
        | false => exact ih (no rfl)
        | true =>
          refine codeAny_handlers_suite (HandSPX.lands_againZ land3 fun g4 land4 up4 => ?_)
          have K4 : Inv X pins σ1 H1 { sx with heap := g4 } := J.landed nb land4.1 ((up.trans up3).trans up4) os ag
          obtain ⟨ob4, vs4, at4, z4, dat4⟩ := land4.there
          refine wpAny_mono ((hsu a ob4 cls d (X.pn ++ pins) z4 ⟨_, dat4⟩).run [] _ _ H1 _ (K4.suite at4 dat4 na nL nF) (yes rfl a na)) (fun f t6 z => ?_) (fun _ _ z => z.elim)
          match f, z with
          | .next, ⟨_, _, S6, q6⟩ => exact ⟨_, _, S6.unsuite ok, q6⟩
          | .brk, ⟨_, _, S6, q6⟩ => exact ⟨_, _, S6.unsuite ok, q6⟩
          | .cont, ⟨_, _, S6, q6⟩ => exact ⟨_, _, S6.unsuite ok, q6⟩
          | .ret u, ⟨_, _, _, S6, r6, q6⟩ => exact ⟨_, _, _, S6.unsuite ok, r6, q6⟩
      | @name x n i c ts b₀ rest np p hs3 l3 hi hln hc hsu r ih =>
        rintro ⟨b, hb1, yes, no⟩
        have LM := PySem.W.exm_one (M := model X.prog X.w) (K3.kIn) looks hb1
        refine wpAny_handleBy_cons (codeAny_handlers_test (test hc (LM.here ?_))) (by intro q; cases q)
        cases b with
        | false => exact ih (no rfl)
        | true =>
          refine codeAny_handlers_suite_as (HandSPX.lands_againZ land3 fun g4 land4 up4 => ?_)
          have K4 : Inv X pins σ1 H1 { sx with heap := g4 } := J.landed nb land4.1 ((up.trans up3).trans up4) os ag
          obtain ⟨ob4, vs4, at4, z4, dat4⟩ := land4.there
          have S4 := K4.suite at4 dat4 na nL nF
          refine store_ok (X := X.suite a ((a, ob4) :: (X.pn ++ pins))) (v := .ref a) S4 hN hi (.inl hln) rfl (fun t5 S5 => ?_) (.inr hln)
          refine wpAny_mono ((hsu a ob4 cls d (X.pn ++ pins) z4 ⟨_, dat4⟩).run [] t5 _ H1 _ S5 (yes rfl a na)) (fun f t6 z => ?_) (fun _ _ z => z.elim)
          match f, z with
          | .next, ⟨_, _, S6, q6⟩ => exact gone_ok (S6.unsuite ok) hN hi hln fun t7 J7 => ⟨_, _, J7, q6⟩
          | .brk, ⟨_, _, S6, q6⟩ => exact gone_ok (S6.unsuite ok) hN hi hln fun t7 J7 => ⟨_, _, J7, q6⟩
          | .cont, ⟨_, _, S6, q6⟩ => exact gone_ok (S6.unsuite ok) hN hi hln fun t7 J7 => ⟨_, _, J7, q6⟩
          | .ret u, ⟨_, _, _, S6, r6, q6⟩ => exact gone_ok (S6.unsuite ok) hN hi hln fun t7 J7 => ⟨_, _, _, J7, r6, q6⟩
    exact go hh w
end
/-! ### the clauses by functions -/
/-- a clause: its class, its name's slot, its suite -/
abbrev MC := Str × Option Nat × MX
def clIn : Option Nat → Env' → Env'
  | none, ρ => ρ
  | some i, ρ => ρ.set i .no
def clOut : Option Nat → R Fl → R Fl
  | none, .err _ _ _ _ => .bad
  | none, r => r
  | some i, .ok (.nx ρ) s => .ok (.nx (ρ.set i .no)) s
  | some _, .ok (.rt d) s => .ok (.rt d) s
  | some i, .ok (.bk ρ) s => .ok (.bk (ρ.set i .no)) s
  | some i, .ok (.ct ρ) s => .ok (.ct (ρ.set i .no)) s
  | some _, _ => .bad
def clLt : Option Nat → Nat → Bool
  | none, _ => true
  | some i, n => decide (i < n)
/-- the first clause of the error's own class -/
def runCl (c : Str) (fs : List (Str × Dt)) (ρ : Env') (s : Hd) : List MC → R Fl
  | [] => .err c fs ρ s
  | (c', oi, m) :: r => if c' = c then (if clLt oi ρ.length = true then clOut oi (m fs (clIn oi ρ) s) else .bad) else runCl c fs ρ s r
def mTryCl (body : MS) (cls : List MC) : MS := fun ρ s => match body ρ s with
  | .err c fs ρ' s' => runCl c fs ρ' s' cls
  | r => r
/-- a suite, its name at slot i (or none), as text and as function -/
structure QXo (X : Cx) (oi : Option Nat) (C : Addr) (b₀ : Stmt) (rest : List Stmt) (ts : Addr → Value → Option Addr → TS) (m : MX) : Prop where
  text : SuiteOk X b₀ rest ts
  read : ∀ (a : Addr) (dd : Option Addr), match oi with
    | some i => XS' X.K X.mg i a dd (ts a (.ref C) dd) m
    | none => ∀ fs, SS X.K X.mg WF (ts a (.ref C) dd) (m fs)
/-- the classes' order: which error is caught by which clause -/
def Catch (K : Frag) (mg : Str → Option Value) (c c' : Str) : Prop := ∀ C C', mg c = some (.ref C) → mg c' = some (.ref C') → PySem.W.exmOne K (.ref C) (.ref C') = some (decide (c' = c))
inductive QCl (X : Cx) (all : List Str) : List ExceptHandler → List Cl → List MC → Prop
  | nil : QCl X all [] [] []
  | bare {c : Str} {C : Addr} {ts : Addr → Value → Option Addr → TS} {b₀ : Stmt} {rest : List Stmt} {np p : Pos} {hs : List ExceptHandler} {l : List Cl} {m : MX} {ml : List MC} (hm : X.mg c = some (.ref C)) (hg : Gl X c) (hdb : (c == ("__debug__" : Str)) = false) (hx : QXo X none C b₀ rest ts m)
      (hk : ∀ c' ∈ all, Catch X.K X.mg c' c) (r : QCl X all hs l ml) : QCl X all (.ExceptHandler (some (.Name c np)) none (b₀ :: rest) p :: hs) ((.ref C, none, ts) :: l) ((c, none, m) :: ml)
  | name {c n : Str} {i : Nat} {C : Addr} {ts : Addr → Value → Option Addr → TS} {b₀ : Stmt} {rest : List Stmt} {np p : Pos} {hs : List ExceptHandler} {l : List Cl} {m : MX} {ml : List MC} (hi : X.N[i]? = some n) (hln : X.env.kindOf n = some .local) (hm : X.mg c = some (.ref C)) (hg : Gl X c) (hdb : (c == ("__debug__" : Str)) = false)
      (hx : QXo X (some i) C b₀ rest ts m) (hk : ∀ c' ∈ all, Catch X.K X.mg c' c) (r : QCl X all hs l ml) : QCl X all (.ExceptHandler (some (.Name c np)) (some n) (b₀ :: rest) p :: hs) ((.ref C, some i, ts) :: l) ((c, some i, m) :: ml)
/-- errors of the classes all alone may come -/
def onlyOf (all : List Str) : R Fl → R Fl
  | .err c fs ρ s => if c ∈ all then .err c fs ρ s else .bad
  | r => r
def mTryQ (all : List Str) (body : MS) (cls : List MC) : MS := mTryCl (fun ρ s => onlyOf all (body ρ s)) cls
section
variable {X : Cx} {Wx : WX} {all : List Str}
theorem QCl.ok {hs : List ExceptHandler} {l : List Cl} {ml : List MC} (q : QCl X all hs l ml) : ClsOk X hs l := by
  induction q with
  | nil => exact .nil
  | bare hm hg hdb hx hk r ih => exact .bare ⟨hg, hdb, .inl hm⟩ hx.text ih
  | name hi hln hm hg hdb hx hk r ih => exact .name hi hln ⟨hg, hdb, .inl hm⟩ hx.text ih
theorem QCl.run {hs : List ExceptHandler} {l : List Cl} {ml : List MC} (q : QCl X all hs l ml) {h : Ent} {A B : Hp} {D : Ends} {c : Str} {C : Addr} {fs : List (Str × Dt)} {s : Hd} {σ : L2.St} {ρ : Env'} {od : Option Addr} (ca : c ∈ all) (mc : X.mg c = some (.ref C)) (g : G h.a A B s) (S : Slots X.K X.mg h A B σ ρ) (x : XdOk X.K X.mg h.a A B od fs)
    (p : PostS X.K X.mg h (runCl c fs ρ s ml) A B Wx D) : wCl X.K Wx D l (.ref C) od σ B := by
  induction q with
  | nil => exact p σ C od A B (Same.refl _) g S mc x
  | @bare c' C' ts b₀ rest np pp hs l m ml hm hg hdb hx hk r ih =>
    refine ⟨_, hk c ca C C' mc hm, fun e a na => ?_, fun e => ih ?_⟩
    · have e : c' = c := by simpa using e
      subst e
      obtain rfl : C' = C := by
        rw [hm] at mc
        cases mc
        rfl
      have p : PostS X.K X.mg h (if c' = c' then (if clLt none ρ.length = true then clOut none (m fs (clIn none ρ) s) else .bad) else runCl c' fs ρ s ml) A B Wx D := p
      rw [if_pos rfl, if_pos (show clLt none ρ.length = true from rfl)] at p
      refine (hx.read a od) fs h A B s σ ρ D g S ?_
      cases em : m fs ρ s with
      | ok f s2 =>
        rw [show clIn none ρ = ρ from rfl, em] at p
        cases f <;> exact p
      | err c2 fs2 ρ2 s2 =>
        rw [show clIn none ρ = ρ from rfl, em] at p
        exact p.elim
      | bad =>
        rw [show clIn none ρ = ρ from rfl, em] at p
        exact p.elim
    · have e : ¬ c' = c := by simpa using e
      have p : PostS X.K X.mg h (if c' = c then _ else runCl c fs ρ s ml) A B Wx D := p
      rw [if_neg e] at p
      exact p
  | @name c' n i C' ts b₀ rest np pp hs l m ml hi hln hm hg hdb hx hk r ih =>
    refine ⟨_, hk c ca C C' mc hm, fun e a na => ?_, fun e => ih ?_⟩
    · have e : c' = c := by simpa using e
      subst e
      obtain rfl : C' = C := by
        rw [hm] at mc
        cases mc
        rfl
      have p : PostS X.K X.mg h (if c' = c' then (if clLt (some i) ρ.length = true then clOut (some i) (m fs (clIn (some i) ρ) s) else .bad) else runCl c' fs ρ s ml) A B Wx D := p
      rw [if_pos rfl] at p
      by_cases hl : i < ρ.length
      · rw [if_pos (show clLt (some i) ρ.length = true from decide_eq_true hl)] at p
        refine (hx.read a od) h A B s (σ.set i (some (.ref a))) (ρ.set i .no) _ fs g (S.forget _) (List.getElem?_set_self (by rw [S.len]; exact hl)) x ?_
        cases em : m fs (ρ.set i .no) s with
        | ok f s2 =>
          rw [show clIn (some i) ρ = ρ.set i .no from rfl, em] at p
          cases f with
          | nx ρ2 => exact fun σ2 A2 B2 st2 g2 S2 => p (σ2.set i none) A2 B2 st2 g2 (S2.forget none)
          | rt d => exact p
          | bk ρ2 => exact fun σ2 A2 B2 st2 g2 S2 => p (σ2.set i none) A2 B2 st2 g2 (S2.forget none)
          | ct ρ2 => exact fun σ2 A2 B2 st2 g2 S2 => p (σ2.set i none) A2 B2 st2 g2 (S2.forget none)
        | err c2 fs2 ρ2 s2 =>
          rw [show clIn (some i) ρ = ρ.set i .no from rfl, em] at p
          exact p.elim
        | bad =>
          rw [show clIn (some i) ρ = ρ.set i .no from rfl, em] at p
          exact p.elim
      · rw [if_neg (show ¬ clLt (some i) ρ.length = true from by simpa [clLt] using hl)] at p
        exact p.elim
    · have e : ¬ c' = c := by simpa using e
      have p : PostS X.K X.mg h (if c' = c then _ else runCl c fs ρ s ml) A B Wx D := p
      rw [if_neg e] at p
      exact p
theorem qs_tryCl {body : List Stmt} {h₁ : ExceptHandler} {hs : List ExceptHandler} {l : List Cl} {ml : List MC} {pos : Pos} {mb : MS} (hst : X.stack = X.env :: X.outer) (hfr : X.env.frame = some X.env.locals) (hN : X.N.Nodup) (tk : Takes X Wx)
    (hb : ∀ (W : WX) (pn : List (Addr × Obj)) (xe : Value → Shared → Prop), Takes (X.tr pn xe) W → PassesOwn (model X.prog X.w) X.A X.env xe → QSs (X.tr pn xe) W body mb) (q : QCl X all (h₁ :: hs) l ml) : QS X Wx (.Try body (h₁ :: hs) [] [] pos) (mTryQ all mb ml) := by
  refine ⟨_, ps_try_cl (tb := fun W => cS X.K X.mg W mb) hst hfr hN tk (fun W pn xe t p => (hb W pn xe t p).can) q.ok, fun h H0 H s σ ρ D g S p => ⟨h, H0, s, ρ, g, S, ?_⟩⟩
  have p : PostS X.K X.mg h (mTryCl (fun ρ s => onlyOf all (mb ρ s)) ml ρ s) H0 H Wx D := p
  unfold mTryCl at p
  cases e : mb ρ s with
  | ok f s2 =>
    simp only [e, onlyOf] at p
    cases f <;> exact p
  | bad =>
    simp only [e, onlyOf] at p
    exact p
  | err c fs ρ' s' =>
    simp only [e] at p
    by_cases ca : c ∈ all
    · simp only [onlyOf, if_pos ca] at p
      exact fun σ' C od A B sm g' S' mc x => q.run ca mc g' S' x (PostS.step sm p)
    · simp only [onlyOf, if_neg ca] at p
      exact p.elim
end
inductive QClE (X : Cx) (all : List Str) : List ExceptHandler → List MC → Prop
  | nil : QClE X all [] []
  | bare {c : Str} {C : Addr} {b₀ : Stmt} {rest : List Stmt} {np p : Pos} {hs : List ExceptHandler} {m : MX} {ml : List MC} (hm : X.mg c = some (.ref C)) (hg : Gl X c) (hdb : (c == ("__debug__" : Str)) = false) (hx : ∃ ts, QXo X none C b₀ rest ts m)
      (hk : ∀ c' ∈ all, Catch X.K X.mg c' c) (r : QClE X all hs ml) : QClE X all (.ExceptHandler (some (.Name c np)) none (b₀ :: rest) p :: hs) ((c, none, m) :: ml)
  | name {c n : Str} {i : Nat} {C : Addr} {b₀ : Stmt} {rest : List Stmt} {np p : Pos} {hs : List ExceptHandler} {m : MX} {ml : List MC} (hi : X.N[i]? = some n) (hln : X.env.kindOf n = some .local) (hm : X.mg c = some (.ref C)) (hg : Gl X c) (hdb : (c == ("__debug__" : Str)) = false)
      (hx : ∃ ts, QXo X (some i) C b₀ rest ts m) (hk : ∀ c' ∈ all, Catch X.K X.mg c' c) (r : QClE X all hs ml) : QClE X all (.ExceptHandler (some (.Name c np)) (some n) (b₀ :: rest) p :: hs) ((c, some i, m) :: ml)
theorem QClE.ex {X : Cx} {all : List Str} {hs : List ExceptHandler} {ml : List MC} (q : QClE X all hs ml) : ∃ l, QCl X all hs l ml := by
  induction q with
  | nil => exact ⟨_, .nil⟩
  | bare hm hg hdb hx hk r ih =>
    obtain ⟨l, ih⟩ := ih
    obtain ⟨ts, hx⟩ := hx
    exact ⟨_, .bare hm hg hdb hx hk ih⟩
  | name hi hln hm hg hdb hx hk r ih =>
    obtain ⟨l, ih⟩ := ih
    obtain ⟨ts, hx⟩ := hx
    exact ⟨_, .name hi hln hm hg hdb hx hk ih⟩
theorem qs_tryE {X : Cx} {Wx : WX} {all : List Str} {body : List Stmt} {h₁ : ExceptHandler} {hs : List ExceptHandler} {ml : List MC} {pos : Pos} {mb : MS} (hst : X.stack = X.env :: X.outer) (hfr : X.env.frame = some X.env.locals) (hN : X.N.Nodup) (tk : Takes X Wx)
    (hb : ∀ (W : WX) (pn : List (Addr × Obj)) (xe : Value → Shared → Prop), Takes (X.tr pn xe) W → PassesOwn (model X.prog X.w) X.A X.env xe → QSs (X.tr pn xe) W body mb) (q : QClE X all (h₁ :: hs) ml) : QS X Wx (.Try body (h₁ :: hs) [] [] pos) (mTryQ all mb ml) := by
  obtain ⟨l, q⟩ := q.ex
  exact qs_tryCl hst hfr hN tk hb q
theorem qx_bare {X : Cx} {C : Addr} {b₀ : Stmt} {rest : List Stmt} {ms : MS} (hq : ∀ (a : Addr) (oe : Obj) (pn : List (Addr × Obj)), QSs (X.suite a ((a, oe) :: pn)) WF (b₀ :: rest) ms) : ∃ ts, QXo X none C b₀ rest ts (fun _ => ms) :=
  ⟨fun _ _ _ => cS X.K X.mg WF ms, ⟨fun a oe cls d pn _ _ => (hq a oe pn).can, fun a dd fs => ss_cS⟩⟩
/-! ### the suite  x = A if isinstance(e, C1) and isinstance(e, T2) else B,  e the caught error, which is both -/
def xIsSet (j : Nat) (x : Str) : MX := fun fs => if fs = [] then mSet j (mC (.str x)) else mBad
/-- isinstance of the class D's errors says yes for the class at C1 and for the built-in class T2 -/
structure IsBoth (K : Frag) (mg : Str → Option Value) (D : Addr) (c1 : Str) (T2 : String) : Prop where
  ex : ExcC K D
  one : ∃ C1, mg c1 = some (.ref C1) ∧ PySem.W.kitOne K (.ref D) (.ref C1) = some true
  two : PySem.W.kitOne K (.ref D) (.type T2) = some true
section
variable {X : Cx} {i j : Nat} {n y c1 t2 : Str} {T2 : String} {C : Addr} {p1 p2 p3 p4 p5 p6 p7 p8 p9 pa pb pc pd pe : Pos} {A B : Str} {ja jb : Nat}
open Classical in
theorem qx_is (hB : IsBoth X.K X.mg C c1 T2) (hN : X.N.Nodup) (hi : X.N[i]? = some n) (hj : X.N[j]? = some y) (hvi : Vis X.env.scope n) (hlj : Loc X.env.scope y) (hg : Gl X "isinstance") (hm : X.mg "isinstance" = none) (hg1 : Gl X c1) (hg2 : Gl X t2) (hm2 : X.mg t2 = none) (hv2 : bootBuiltins t2 = some (.type T2))
    (hdn : (n == ("__debug__" : Str)) = false) (hcn : (n == ("__classdict__" : Str)) = false) (hd1 : (c1 == ("__debug__" : Str)) = false) (hn2 : t2 ≠ "__name__") (hd2 : (t2 == ("__debug__" : Str)) = false)
    (hlp : ∀ (a : Addr) (oe : Obj) (pn : List (Addr × Obj)), swapsWith (.IfExp (.BoolOp .And [.Call (.Name "isinstance" p1) [.Name n p2, .Name c1 p3] [] p4, .Call (.Name "isinstance" p5) [.Name n p6, .Name t2 p7] [] p8] p9) (.Constant (.str A) ja pa) (.Constant (.str B) jb pb) pc) (some (.Name y pd)) pe.line (X.suite a ((a, oe) :: pn)).env = pure false)
    (hf : ∀ (a : Addr) (oe : Obj) (pn : List (Addr × Obj)), (X.suite a ((a, oe) :: pn)).fn y = true ∨ (X.suite a ((a, oe) :: pn)).env.scope.names.lookup y = some .local)
    (h1 : ∀ (a : Addr) (oe : Obj) (pn : List (Addr × Obj)), starEach [.Name n p2, .Name c1 p3] (X.suite a ((a, oe) :: pn)).env = (false, eval (.Name n p2) (X.suite a ((a, oe) :: pn)).env) :: starEach [.Name c1 p3] (X.suite a ((a, oe) :: pn)).env)
    (h2 : ∀ (a : Addr) (oe : Obj) (pn : List (Addr × Obj)), starEach [.Name c1 p3] (X.suite a ((a, oe) :: pn)).env = (false, eval (.Name c1 p3) (X.suite a ((a, oe) :: pn)).env) :: starEach [] (X.suite a ((a, oe) :: pn)).env)
    (h3 : ∀ (a : Addr) (oe : Obj) (pn : List (Addr × Obj)), starEach [.Name n p6, .Name t2 p7] (X.suite a ((a, oe) :: pn)).env = (false, eval (.Name n p6) (X.suite a ((a, oe) :: pn)).env) :: starEach [.Name t2 p7] (X.suite a ((a, oe) :: pn)).env)
    (h4 : ∀ (a : Addr) (oe : Obj) (pn : List (Addr × Obj)), starEach [.Name t2 p7] (X.suite a ((a, oe) :: pn)).env = (false, eval (.Name t2 p7) (X.suite a ((a, oe) :: pn)).env) :: starEach [] (X.suite a ((a, oe) :: pn)).env)
    (h5 : ∀ (a : Addr) (oe : Obj) (pn : List (Addr × Obj)), (backTo p4 (starEach [.Name c1 p3] (X.suite a ((a, oe) :: pn)).env)).any (·.1) = false) (h6 : ∀ (a : Addr) (oe : Obj) (pn : List (Addr × Obj)), (backTo p8 (starEach [.Name t2 p7] (X.suite a ((a, oe) :: pn)).env)).any (·.1) = false) :
    ∃ ts, QXo X (some i) C (.Assign [.Name y pd] (.IfExp (.BoolOp .And [.Call (.Name "isinstance" p1) [.Name n p2, .Name c1 p3] [] p4, .Call (.Name "isinstance" p5) [.Name n p6, .Name t2 p7] [] p8] p9) (.Constant (.str A) ja pa) (.Constant (.str B) jb pb) pc) pe) [] ts (xIsSet j A) := by
  obtain ⟨C1, hm1, k1⟩ := hB.one
  let te (a : Addr) (v : V) : TE := tCB (rIsE X.K C a) (tCons (tVar i) (tCons (tC v) tNil))
  let real (a : Addr) : TS := tAsg (tIf (tAnd (tB (te a (.ref C1))) (tB (te a (.ty T2)))) (tC (.str A)) (tC (.str B))) (gName j)
  refine ⟨fun a cls d => if cls = .ref C ∧ d = none then real a else fun _ _ _ => False, ⟨fun a oe cls d pn hz hv => ?_, fun a dd => ?_⟩⟩
  · by_cases c : cls = .ref C ∧ d = none
    · obtain ⟨rfl, rfl⟩ := c
      rw [if_pos ⟨rfl, rfl⟩]
      have e1 : PE (X.suite a ((a, oe) :: pn)) (.Name n p2) (tVar i) := pe_var hi hvi hdn hcn
      have e2 : PE (X.suite a ((a, oe) :: pn)) (.Name n p6) (tVar i) := pe_var hi hvi hdn hcn
      have c1 := pe_callB (X := X.suite a ((a, oe) :: pn)) (p := p1) (pos := p4) (call_isE (pn := pn) hB.ex hz hv) hg hm (by decide +kernel) (pa_cons e1 (pa_cons (pe_glob (v := .ref C1) (pos := p3) hg1 hm1 rfl hd1) pa_nil (h2 a oe pn)) (h1 a oe pn)) (by decide) (by decide) (h1 a oe pn) (h5 a oe pn)
      have c2 := pe_callB (X := X.suite a ((a, oe) :: pn)) (p := p5) (pos := p8) (call_isE (pn := pn) hB.ex hz hv) hg hm (by decide +kernel) (pa_cons e2 (pa_cons (pe_bltn (v := .ty T2) (pos := p7) hg2 hm2 hv2 rfl hn2 hd2) pa_nil (h4 a oe pn)) (h3 a oe pn)) (by decide) (by decide) (h3 a oe pn) (h6 a oe pn)
      exact pss_one (ps_set hN hj hlj (pe_ifExp (PW.pt (pw_and (pt_val c1) (pw_and1 (pt_val c2)))) pe_str pe_str) (hlp a oe pn) (hf a oe pn))
    · rw [if_neg c]
      exact ⟨fun _ _ _ _ _ _ z => z.elim⟩
  · show XS' X.K X.mg i a dd (if Value.ref C = .ref C ∧ dd = none then real a else fun _ _ _ => False) (xIsSet j A)
    intro h H0 H s σ ρ D fs g S ei ed p
    unfold xIsSet at p
    by_cases c : fs = []
    · rw [if_pos c] at p
      have dn : dd = none := by
        cases dd with
        | none => rfl
        | some dd => exact absurd c ed.1
      rw [if_pos ⟨rfl, dn⟩]
      have p : ∀ σ' H0' H', Same H0 H0' → G h.a H0' H' s → Slots X.K X.mg h H0' H' σ' (ρ.set j (.dat (.str A))) → D.nx σ' H' := p
      refine ⟨.ref a, ei, _, .ref C1, true, rfl, fun u r => r, k1, true, rfl, ?_⟩
      refine iteT ⟨.ref a, ei, _, .type T2, true, rfl, fun u r => r, hB.two, true, rfl, ?_⟩
      exact iteT (p _ H0 H (Same.refl _) g (S.set (.str A)))
    · rw [if_neg c] at p
      exact p.elim
end
/-! ### raise C() -/
def mRaise0 (c : Str) : MS := fun ρ s => .err c [] ρ s
/-- a class of errors without __init__ of its own -/
def Thrown0 (K : Frag) (mg : Str → Option Value) (c : Str) : Prop := ∃ (C : Addr) (B newId initId : String) (bmB : List Value), mg c = some (.ref C) ∧ ExcBaseFacts B newId initId bmB ∧ PySem.W.excIn K C bmB newId = true ∧ PySem.W.keepIn K (.ref C) = true ∧ PySem.W.subIn K (.ref C) (.type "BaseException") = some true ∧ PySem.W.typeIn K (.ref C) = some (.type "type")
theorem pmk_none {X : Cx} {C : Addr} {bmB : List Value} {B newId initId : String} {x : Str} {p pos : Pos} (F : ExcBaseFacts B newId initId bmB) (q : PySem.W.excIn X.K C bmB newId = true) (gC : X.mg x = some (.ref C)) (kC : PySem.W.keepIn X.K (.ref C) = true) (r : Raises X (.ref C)) (hg : Gl X x)
    (hdb : (x == ("__debug__" : Str)) = false := by decide) : PMk X (.Call (.Name x p) [] [] pos) (fun _ H Q => Q (.ref C) none H) := by
  intro pins s σ H Q I h
  refine wpAny_Call_Name_kw (ld_glob I hg gC (PySem.W.callWith_K0 I.kIn kC ?_) hdb)
  show wpAny _ _ (call (.ref C) []) _ _ _
  obtain ⟨bm, N, nm, qn, bs, hdct, sn, sub, ab, col, dd, k0, k1, k2, k3, k5, mN, hC, hN, hni, T⟩ := exc_obj I.kIn q
  exact wpAny_call_exc_subT F T hC hN hni (fun h' e hm => mk_of I hm r h (I.hok.gone hm.new)) (Nat.zero_le _)
theorem qs_throw0 {X : Cx} {Wx : WX} {c : Str} {p pos pos2 : Pos} (T : Thrown0 X.K X.mg c) (hc : X.calm = true) (tk : Takes X Wx) (hg : Gl X c := by rfl) (hdb : (c == ("__debug__" : Str)) = false := by decide) : QS X Wx (.Raise (some (.Call (.Name c p) [] [] pos)) none pos2) (mRaise0 c) := by
  obtain ⟨C, B, newId, initId, bmB, hm, F, q, kC, h1, h2⟩ := T
  refine ⟨_, ps_raise hc tk (pmk_none F q hm kC (raises_own h1 h2) hg hdb), ?_⟩
  intro h H0 H s σ ρ D g S p
  exact p σ C none H0 H (Same.refl _) g S hm rfl
end Mir


set_option Elab.async false
set_option linter.all false
set_option maxRecDepth 100000
/-! Texts: str of an int, int of a text, divmod, methods of texts, text * int, a list backwards. -/
namespace Mir
open PySem PySem.Spec PyProof.Rows L2
open PySem.W (Frag)
/-! ### str(int), int(text), divmod -/
def fStr : List Dt → Option Dt
  | [.int i] => if i.natAbs.log2 < 1920 then some (.str (toString i)) else none
  | _ => none
def fIntS : List Dt → Option Dt
  | [.str a] => if a.length ≤ 640 then (PySem.intText? a).map .int else none
  | _ => none
def fIntT : List Dt → Option Dt
  | [.str a] => if a.length ≤ 640 then (PySem.intText? a).map .int else none
  | ds => fIntC ds
def fDivmod : List Dt → Option Dt
  | [.int i, .int j] => if DivOk j then some (.tup [.int (i.fdiv j), .int (i.fmod j)]) else none
  | _ => none
section
variable {K : Frag} {mg : Str → Option Value}
theorem cs_str : CaS K mg (fun xs H Q => ∃ i, xs = [.int i] ∧ i.natAbs.log2 < 1920 ∧ Q (.str (toString i)) H) fStr := by
  intro h H0 H s xs ds z Q g0 hx hz q
  unfold fStr at hz
  split at hz
  · split at hz
    · rename_i c
      cases hz
      cases hx with
      | cons a r =>
        cases r
        cases a
        exact ⟨_, rfl, c, q _ H0 H (.refl _ _) g0 (.str _)⟩
    · cases hz
  · cases hz
theorem cs_intS : CaS K mg (fun xs H Q => ∃ a n, xs = [.str a] ∧ PySem.intText? a = some n ∧ a.length ≤ 640 ∧ Q (.int n) H) fIntS := by
  intro h H0 H s xs ds z Q g0 hx hz q
  unfold fIntS at hz
  split at hz
  · rename_i a
    split at hz
    · rename_i c
      cases e : PySem.intText? a with
      | none =>
        rw [e] at hz
        cases hz
      | some n =>
        rw [e] at hz
        cases hz
        cases hx with
        | cons a r =>
          cases r
          cases a
          exact ⟨_, _, rfl, e, c, q _ H0 H (.refl _ _) g0 (.int _)⟩
    · cases hz
  · cases hz
theorem cs_intT : CaS K mg (fun xs H Q => ((∃ i, xs = [.int i] ∧ Q (.int i) H) ∨ ∃ k, xs = [.bl k] ∧ Q (.int (if k then 1 else 0)) H) ∨ ∃ a n, xs = [.str a] ∧ PySem.intText? a = some n ∧ a.length ≤ 640 ∧ Q (.int n) H) fIntT :=
  CaS.or cs_int cs_intS fun d z e => by
    unfold fIntT at e
    split at e
    · exact .inr e
    · exact .inl e
def rDivmod : List V → Hp → VK → Prop := fun xs H Q => ∃ i j, xs = [.int i, .int j] ∧ DivOk j ∧ ∀ p, H p = none → Q (.ref p) (upd H p (.tup [.int (i.fdiv j), .int (i.fmod j)]))
theorem cs_divmod : CaS K mg rDivmod fDivmod := by
  intro h H0 H s xs ds z Q g0 hx hz q
  unfold fDivmod at hz
  split at hz
  · split at hz
    · rename_i c
      cases hz
      cases hx with
      | cons a r =>
        cases r with
        | cons b r =>
          cases r
          cases a
          cases b
          refine ⟨_, _, rfl, c, fun p hp => ?_⟩
          obtain ⟨g1, st⟩ := g0.alloc (o := .tup _) hp
          exact q _ _ _ st g1 (.tup (SqT.of upd_same) (.cons (.int _) (.cons (.int _) .nil)))
    · cases hz
  · cases hz
end
section
variable {X : Cx}
theorem call_divmodW : CallR X (.builtin "divmod") rDivmod := by
  intro pins s σ H xs us Q I r h
  obtain ⟨i, j, rfl, ⟨h1, h2⟩, q⟩ := h
  obtain ⟨u, w', rfl, ⟨t, rfl⟩, ⟨t', rfl⟩⟩ := vals2 r
  refine divmod_int h1 ?_ (.inl (PyProof.noPylong_of_log2 h2))
  have hn : H s.heap.objs.size = none := I.hok.fresh (Nat.le_refl _)
  refine ⟨.ref s.heap.objs.size, _, ?_, rfl, q _ hn⟩
  refine I.laid (fun b o e => Heap.get?_push_of_some _ e) (Nat.le_refl _) ⟨by simp only [List.length_cons, List.length_nil]; rw [sizeLine_eq]; decide, [.int (i.fdiv j) s.toks, .int (i.fmod j) (s.toks + 1)], .cons ⟨_, rfl⟩ (.cons ⟨_, rfl⟩ .nil), ?_⟩
  exact ⟨_, Heap.get?_push_size s.heap rfl, rfl, 0, rfl⟩
theorem call_intAny : CallR X (.type "int") (fun xs H Q => ((∃ i, xs = [.int i] ∧ Q (.int i) H) ∨ ∃ k, xs = [.bl k] ∧ Q (.int (if k then 1 else 0)) H) ∨ ∃ a n, xs = [.str a] ∧ PySem.intText? a = some n ∧ a.length ≤ 640 ∧ Q (.int n) H) := CallR.or call_int1 call_int_str
end
/-! ### methods of texts -/
def MtS (K : Frag) (mg : Str → Option Value) (r : V → List V → Hp → VK → Prop) (f : Str → List Dt → Option Dt) : Prop := ∀ (h : Addr) (H0 H : Hp) (s : Hd) (x : Str) (xs : List V) (ds : List Dt) (z : Dt) (Q : VK), G h H0 H s → DenA K mg h H0 xs ds → f x ds = some z →
  (∀ u H0' H', Step h H0 H H0' H' → G h H0' H' s → Den K mg h H0' u z → Q u H') → r (.str x) xs H Q
def mMt (f : Str → List Dt → Option Dt) (a : ME) (as : MA) : ME := fun ρ s => (a ρ s).bind fun d s1 => match d with
  | .str x => (as ρ s1).bind fun ds s2 => liftO (f x ds) s2
  | _ => .bad
section
variable {X : Cx} {Wx : WX} {K : Frag} {mg : Str → Option Value} {to : TE} {ta : TA} {o e : Expr} {es : List Expr} {mo : ME} {as : MA} {r : V → List V → Hp → VK → Prop} {f : Str → List Dt → Option Dt} {name : Str} {id : String} {apos cpos : Pos}
theorem se_mt (hr : MtS K mg r f) (hb : SE K mg Wx to mo) (ha : SA K mg Wx ta as) : SE K mg Wx (tBM K "str" r to ta) (mMt f mo as) := by
  intro h H0 H s σ ρ Q g S p
  refine hb h H0 H s σ ρ _ g S (Post.bind p fun d s1 x A B st g1 dx p1 => ?_)
  cases dx with
  | str y =>
    refine ⟨rfl, ha h A B s1 σ ρ _ g1 (S.step st) (Post.bind p1 fun ds s2 xs A2 B2 st2 g2 dxs p2 => ?_)⟩
    obtain ⟨z, hz, p3⟩ := post_lift p2
    exact hr h A2 B2 s2 y xs ds z Q g2 dxs hz fun u A3 B3 st3 g3 du => p3 u A3 B3 st3 g3 du
  | _ => exact p1.elim
theorem se_mt0 (hr : MtS K mg r f) (hb : SE K mg Wx to mo) : SE K mg Wx (tBM0 K "str" r to) (mMt f mo mNil) := by
  intro h H0 H s σ ρ Q g S p
  refine hb h H0 H s σ ρ _ g S (Post.bind p fun d s1 x A B st g1 dx p1 => ?_)
  cases dx with
  | str y =>
    refine ⟨rfl, ?_⟩
    obtain ⟨z, hz, p3⟩ := post_lift p1
    exact hr h A B s1 y [] [] z Q g1 .nil hz fun u A3 B3 st3 g3 du => p3 u A3 B3 st3 g3 du
  | _ => exact p1.elim
theorem qe_mt (slot : Slot "str" name id) (hty : typeOf (.builtin id) = pure (.type "method_descriptor")) (hm : MtR X id r) (hr : MtS X.K X.mg r f) (ho : QE X Wx o mo) (ha : QA X Wx (e :: es) as)
    (hbase : attributeBase o name X.env (eval o X.env) = eval o X.env := by rfl)
    (hfew : ((backTo cpos (starEach (e :: es) X.env)).all (fun x => !x.1) && (backToKw cpos (keywordEach [] X.env)).all (fun x => x.1.isSome)
      && decide ((e :: es).length + ([] : List Keyword).length + (if ([] : List Keyword).isEmpty then 0 else 1) < 30)) = true := by rfl)
    (hline : (apos.endLine == cpos.line) = true := by rfl) (hs : starEach (e :: es) X.env = (false, eval e X.env) :: starEach es X.env := by rfl) (hplain : (backTo cpos (starEach es X.env)).any (·.1) = false := by rfl) :
    QE X Wx (.Call (.Attribute o name apos) (e :: es) [] cpos) (mMt f mo as) := by
  obtain ⟨t, p, so⟩ := ho
  obtain ⟨t2, p2, sa⟩ := ha
  exact ⟨_, pe_bm PySem.F.plainAttrs_str slot hty hm p p2 hbase hfew hline hs hplain, se_mt hr so sa⟩
theorem qe_mt0 (slot : Slot "str" name id) (hty : typeOf (.builtin id) = pure (.type "method_descriptor")) (hm : MtR X id r) (hr : MtS X.K X.mg r f) (ho : QE X Wx o mo)
    (hbase : attributeBase o name X.env (eval o X.env) = eval o X.env := by rfl) (hline : (apos.endLine == cpos.line) = true := by rfl) : QE X Wx (.Call (.Attribute o name apos) [] [] cpos) (mMt f mo mNil) := by
  obtain ⟨t, p, so⟩ := ho
  exact ⟨_, pe_bm0 PySem.F.plainAttrs_str slot hty hm p hbase hline, se_mt0 hr so⟩
end
def fZfill (x : Str) : List Dt → Option Dt
  | [.int i] => if PadOk i = true then some (.str (Txt.zfill x i)) else none
  | _ => none
def fRemovePre (x : Str) : List Dt → Option Dt
  | [.str b] => if sizeOk x.length then some (.str (Txt.removeprefix x b)) else none
  | _ => none
def fIsAscii (x : Str) : List Dt → Option Dt
  | [] => some (.bl (Txt.isascii x))
  | _ => none
def fIsDigit (x : Str) : List Dt → Option Dt
  | [] => some (.bl (Txt.isdigit x))
  | _ => none
def fPartition (x : Str) : List Dt → Option Dt
  | [.str b] => if (b.length == 0) = false ∧ sizeOk x.length then some (.tup [.str (Txt.partition x b).1, .str (Txt.partition x b).2.1, .str (Txt.partition x b).2.2]) else none
  | _ => none
def strsD : List Dt → Option (List Str)
  | [] => some []
  | .str x :: ds => (strsD ds).map fun l => x :: l
  | _ => none
def fJoin (x : Str) : List Dt → Option Dt
  | [.lst ds] => (strsD ds).bind fun ys => if (ys.map (·.length)).sum + ys.length * x.length ≤ 16777216 then some (.str (Txt.join x ys)) else none
  | _ => none
section
variable {K : Frag} {mg : Str → Option Value}
theorem ms_zfill : MtS K mg (fun x xs H Q => ∃ (a : Str) (i : Int), x = .str a ∧ xs = [.int i] ∧ PadOk i = true ∧ Q (.str (Txt.zfill a i)) H) fZfill := by
  intro h H0 H s x xs ds z Q g0 hx hz q
  unfold fZfill at hz
  split at hz
  · split at hz
    · rename_i c
      cases hz
      cases hx with
      | cons a r =>
        cases r
        cases a
        exact ⟨_, _, rfl, rfl, c, q _ H0 H (.refl _ _) g0 (.str _)⟩
    · cases hz
  · cases hz
theorem ms_removepre : MtS K mg (fun x xs H Q => ∃ a b, x = .str a ∧ xs = [.str b] ∧ a.length ≤ sizeLine ∧ Q (.str (Txt.removeprefix a b)) H) fRemovePre := by
  intro h H0 H s x xs ds z Q g0 hx hz q
  unfold fRemovePre at hz
  split at hz
  · split at hz
    · rename_i c
      cases hz
      cases hx with
      | cons a r =>
        cases r
        cases a
        exact ⟨_, _, rfl, rfl, c.le, q _ H0 H (.refl _ _) g0 (.str _)⟩
    · cases hz
  · cases hz
theorem ms_isascii : MtS K mg (fun x xs H Q => ∃ a, x = .str a ∧ xs = [] ∧ True ∧ Q (.bl (Txt.isascii a)) H) fIsAscii := by
  intro h H0 H s x xs ds z Q g0 hx hz q
  unfold fIsAscii at hz
  split at hz
  · cases hz
    cases hx
    exact ⟨_, rfl, rfl, trivial, q _ H0 H (.refl _ _) g0 (.bl _)⟩
  · cases hz
theorem ms_isdigit : MtS K mg (fun x xs H Q => ∃ a, x = .str a ∧ xs = [] ∧ True ∧ Q (.bl (Txt.isdigit a)) H) fIsDigit := by
  intro h H0 H s x xs ds z Q g0 hx hz q
  unfold fIsDigit at hz
  split at hz
  · cases hz
    cases hx
    exact ⟨_, rfl, rfl, trivial, q _ H0 H (.refl _ _) g0 (.bl _)⟩
  · cases hz
theorem ms_partition : MtS K mg (fun x xs H Q => ∃ a b, x = .str a ∧ xs = [.str b] ∧ (b.length == 0) = false ∧ a.length ≤ sizeLine ∧
    ∀ p, H p = none → Q (.ref p) (upd H p (.tup [.str (Txt.partition a b).1, .str (Txt.partition a b).2.1, .str (Txt.partition a b).2.2]))) fPartition := by
  intro h H0 H s x xs ds z Q g0 hx hz q
  unfold fPartition at hz
  split at hz
  · split at hz
    · rename_i c
      cases hz
      cases hx with
      | cons a r =>
        cases r
        cases a
        refine ⟨_, _, rfl, rfl, c.1, c.2.le, fun p hp => ?_⟩
        obtain ⟨g1, st⟩ := g0.alloc (o := .tup _) hp
        exact q _ _ _ st g1 (.tup (SqT.of upd_same) (.cons (.str _) (.cons (.str _) (.cons (.str _) .nil))))
    · cases hz
  · cases hz
theorem strsD_vals {h : Addr} {H : Hp} : ∀ {ds : List Dt} {vs : List V} {ys : List Str}, DenA K mg h H vs ds → strsD ds = some ys → vs = ys.map V.str
  | [], _, ys, .nil, e => by
    cases e
    rfl
  | d :: ds, _, ys, .cons (v := v) (vs := vs) dv da, e => by
    cases dv with
    | str x =>
      cases e2 : strsD ds with
      | none =>
        simp [strsD, e2] at e
      | some l =>
        simp [strsD, e2] at e
        subst e
        rw [strsD_vals da e2]
        rfl
    | _ => cases e
theorem ms_join : MtS K mg (fun x xs H Q => ∃ a p, ∃ ys : List Str, x = .str a ∧ xs = [.ref p] ∧ (SqL K H p (ys.map V.str) ∨ SqT K H p (ys.map V.str)) ∧
    (ys.map (·.length)).sum + ys.length * a.length ≤ 16777216 ∧ Q (.str (Txt.join a ys)) H) fJoin := by
  intro h H0 H s x xs ds z Q g0 hx hz q
  unfold fJoin at hz
  split at hz
  · rename_i es
    cases e : strsD es with
    | none =>
      rw [e] at hz
      cases hz
    | some ys =>
      rw [e] at hz
      have hz : (if (ys.map (·.length)).sum + ys.length * x.length ≤ 16777216 then some (Dt.str (Txt.join x ys)) else none) = some z := hz
      split at hz
      · rename_i c
        cases hz
        cases hx with
        | cons a r =>
          cases r
          cases a with
          | lst qa ra =>
            have ev := strsD_vals ra e
            subst ev
            exact ⟨_, _, _, rfl, rfl, .inl (SqL.of (g0.ex _ _ qa)), c, q _ H0 H (.refl _ _) g0 (.str _)⟩
      · cases hz
  · cases hz
end
/-! ### xs[::-1] -/
def mRev (a : ME) : ME := fun ρ s => (a ρ s).bind fun d s1 => match d with
  | .lst ds => .ok (.lst ds.reverse) s1
  | _ => .bad
section
variable {X : Cx} {Wx : WX} {K : Frag} {mg : Str → Option Value} {te : TE} {ma : ME} {e : Expr} {k : Nat} {p1 p2 p3 pos : Pos}
theorem DenA.rev {h : Addr} {H : Hp} {vs : List V} {ds : List Dt} (d : DenA K mg h H vs ds) : DenA K mg h H vs.reverse ds.reverse := by
  induction ds generalizing vs with
  | nil =>
    cases d
    exact .nil
  | cons x ds ih =>
    cases d with
    | cons a r =>
      rw [List.reverse_cons, List.reverse_cons]
      exact (ih r).append (.cons a .nil)
theorem se_rev (ha : SE K mg Wx te ma) : SE K mg Wx (tRevL K te) (mRev ma) := by
  intro h H0 H s σ ρ Q g S p
  refine ha h H0 H s σ ρ _ g S (Post.bind p fun d s1 x A B st g1 dx p1 => ?_)
  cases dx with
  | lst qa ra =>
    refine ⟨_, _, rfl, SqL.of (g1.ex _ _ qa), fun p hp => ?_⟩
    obtain ⟨g2, st2⟩ := g1.alloc (o := .lst _) hp
    exact p1 _ _ _ st2 g2 (.lst upd_same (ra.rev.mono st2.s0))
  | _ => exact p1.elim
theorem qe_rev (ha : QE X Wx e ma) : QE X Wx (.Subscript e (.Slice none none (some (.UnaryOp .USub (.Constant (.int 1) k p1) p2)) p3) pos) (mRev ma) := by
  obtain ⟨t, p, s⟩ := ha
  exact ⟨_, pe_revL p, se_rev s⟩
end
/-! ### text * int -/
def fRep : Dt → Dt → Option Dt
  | .str a, .int j => if 1 ≤ j ∧ j ≤ 10000 ∧ a.length ≤ 9 ∧ a.length ≠ 0 ∧ j ≠ 1 then some (.str ⟨(List.replicate j.toNat a.cps).foldl (· ++ ·) #[]⟩) else none
  | _, _ => none
def rRepS : R2 := fun x y H Q => ∃ a j, x = .str a ∧ y = .int j ∧ (1 ≤ j ∧ j ≤ 10000 ∧ a.length ≤ 9 ∧ a.length ≠ 0 ∧ j ≠ 1) ∧ Q (.str ⟨(List.replicate j.toNat a.cps).foldl (· ++ ·) #[]⟩) H
section
variable {X : Cx} {K : Frag} {mg : Str → Option Value}
theorem op_repS : OpR X (binaryOp .Mult) rRepS := by
  intro pins s σ H x y v u Q I rx ry h
  obtain ⟨a, j, rfl, rfl, ⟨h1, h2, h3, h4, h5⟩, q⟩ := h
  obtain ⟨t, rfl⟩ := rx
  obtain ⟨t', rfl⟩ := ry
  have b1 : (j == 1) = false := beq_eq_false_iff_ne.mpr h5
  have b2 : (a.length == 0) = false := beq_eq_false_iff_ne.mpr h4
  have ok : PySem.MulOk a j := by
    refine ⟨by simp; omega, fun _ _ => ?_, fun _ _ => ?_⟩
    · have m : (a.length : Int) * j ≤ 9 * 10000 := Int.mul_le_mul (by omega) (by omega) (by omega) (by omega)
      have := Int.le_ediv_of_mul_le (a := (a.length : Int)) (b := 2 ^ 63 - 1) (c := j) (by omega) (by omega)
      omega
    · have m : a.length * j.toNat ≤ 9 * 10000 := Nat.mul_le_mul h3 (by omega)
      unfold PySem.Builtin.Str.tooLong
      have e : sizeLine = 16777216 := rfl
      exact decide_eq_false (by omega)
  refine PySem.SB.mul ok fun t2 k => ?_
  have em : Txt.mul a j = ⟨(List.replicate j.toNat a.cps).foldl (· ++ ·) #[]⟩ := by
    unfold Txt.mul
    rw [if_neg (by omega), b1, b2]
    rfl
  rw [em]
  exact ⟨.str _, H, I.tok _, ⟨_, rfl⟩, q⟩
theorem os_rep : OpS K mg rRepS fRep := by
  intro h H0 H s x y d e z Q g0 hx hy hz q
  unfold fRep at hz
  split at hz
  · split at hz
    · rename_i c
      cases hz
      cases hx
      cases hy
      exact ⟨_, _, rfl, rfl, c, q _ H0 H (.refl _ _) g0 (.str _)⟩
    · cases hz
  · cases hz
end
end Mir


set_option Elab.async false
set_option linter.all false
/-! Mathematics for the laws: kinds of data, sizes, lowest terms. -/
namespace Mir
open PySem PySem.Spec PyProof.Rows L2

/-! ### isinstance of plain data -/
theorem kit_table : kitB "int" "int" = some true ∧ kitB "bool" "int" = some true ∧ kitB "NoneType" "int" = some false ∧ kitB "str" "int" = some false ∧ kitB "tuple" "int" = some false ∧ kitB "list" "int" = some false ∧
    kitB "int" "bool" = some false ∧ kitB "bool" "bool" = some true ∧ kitB "NoneType" "bool" = some false ∧ kitB "str" "bool" = some false ∧ kitB "tuple" "bool" = some false ∧ kitB "list" "bool" = some false ∧
    kitB "int" "tuple" = some false ∧ kitB "bool" "tuple" = some false ∧ kitB "NoneType" "tuple" = some false ∧ kitB "str" "tuple" = some false ∧ kitB "tuple" "tuple" = some true ∧ kitB "list" "tuple" = some false := by decide +kernel
theorem kit_table2 : kitB "int" "list" = some false ∧ kitB "bool" "list" = some false ∧ kitB "NoneType" "list" = some false ∧ kitB "str" "list" = some false ∧ kitB "tuple" "list" = some false ∧ kitB "list" "list" = some true ∧
    kitB "int" "str" = some false ∧ kitB "bool" "str" = some false ∧ kitB "NoneType" "str" = some false ∧ kitB "str" "str" = some true ∧ kitB "tuple" "str" = some false ∧ kitB "list" "str" = some false := by decide +kernel
@[simp] theorem isi_int (d : Dt) : fIsi "int" d = (match d with | .int _ => some true | .bl _ => some true | .obj _ _ => none | .hnd => none | _ => some false) := by
  obtain ⟨a1, a2, a3, a4, a5, a6, _⟩ := kit_table
  cases d <;> first | rfl | assumption
@[simp] theorem isi_bool (d : Dt) : fIsi "bool" d = (match d with | .bl _ => some true | .obj _ _ => none | .hnd => none | _ => some false) := by
  obtain ⟨_, _, _, _, _, _, a1, a2, a3, a4, a5, a6, _⟩ := kit_table
  cases d <;> first | rfl | assumption
@[simp] theorem isi_tuple (d : Dt) : fIsi "tuple" d = (match d with | .tup _ => some true | .obj _ _ => none | .hnd => none | _ => some false) := by
  obtain ⟨_, _, _, _, _, _, _, _, _, _, _, _, a1, a2, a3, a4, a5, a6⟩ := kit_table
  cases d <;> first | rfl | assumption
@[simp] theorem isi_list (d : Dt) : fIsi "list" d = (match d with | .lst _ => some true | .obj _ _ => none | .hnd => none | _ => some false) := by
  obtain ⟨a1, a2, a3, a4, a5, a6, _⟩ := kit_table2
  cases d <;> first | rfl | assumption
@[simp] theorem isi_str (d : Dt) : fIsi "str" d = (match d with | .str _ => some true | .obj _ _ => none | .hnd => none | _ => some false) := by
  obtain ⟨_, _, _, _, _, _, a1, a2, a3, a4, a5, a6⟩ := kit_table2
  cases d <;> first | rfl | assumption

/-! ### sizes -/
def Sz (n : Nat) (i : Int) : Prop := i.natAbs < 2 ^ n
theorem Sz.mono {m n : Nat} {i : Int} (h : Sz m i) (e : m ≤ n) : Sz n i := Nat.lt_of_lt_of_le h (Nat.pow_le_pow_right (by decide) e)
theorem Sz.mul {m n : Nat} {i j : Int} (a : Sz m i) (b : Sz n j) : Sz (m + n) (i * j) := wide_lt a b
theorem Sz.add {m : Nat} {i j : Int} (a : Sz m i) (b : Sz m j) : Sz (m + 1) (i + j) := by
  unfold Sz at *
  have := Int.natAbs_add_le i j
  rw [Nat.pow_succ]
  omega
theorem Sz.neg {m : Nat} {i : Int} (a : Sz m i) : Sz m (-i) := by
  unfold Sz at *
  rw [Int.natAbs_neg]
  exact a
theorem Sz.sub {m : Nat} {i j : Int} (a : Sz m i) (b : Sz m j) : Sz (m + 1) (i - j) := by
  rw [Int.sub_eq_add_neg]
  exact a.add b.neg
theorem Sz.le {m : Nat} {i j : Int} (a : Sz m j) (h : i.natAbs ≤ j.natAbs) : Sz m i := Nat.lt_of_le_of_lt h a
theorem MulOk.of {m n : Nat} {i j : Int} (a : Sz m i) (b : Sz n j) (h : m + n ≤ 900000) : MulOk i j := by
  have a' := a.mono (Nat.le_succ m)
  have b' := b.mono (Nat.le_succ n)
  exact wide_mul a' b' (Nat.succ_pos _) (Nat.succ_pos _) (by omega)
theorem DivOk.of {n : Nat} {j : Int} (h0 : j ≠ 0) (a : Sz n j) (h : n ≤ 8900) : DivOk j :=
  ⟨h0, Nat.lt_of_lt_of_le (PySem.Flt.log2_lt_of (Nat.succ_pos n) (a.mono (Nat.le_succ n))) (by omega)⟩

/-! ### lowest terms -/
def sgcd (t b : Int) : Int := if b < 0 then -((Nat.gcd t.natAbs b.natAbs : Nat) : Int) else ((Nat.gcd t.natAbs b.natAbs : Nat) : Int)
def lowT (t b : Int) : Int := t.fdiv (sgcd t b)
def lowB (t b : Int) : Int := b.fdiv (sgcd t b)
abbrev rat (a b : Int) : Dt := .tup [.int a, .int b]
def low (t b : Int) : Dt := rat (lowT t b) (lowB t b)
theorem gcd_pos {t b : Int} (h : b ≠ 0) : 0 < Nat.gcd t.natAbs b.natAbs := Nat.gcd_pos_of_pos_right _ (by omega)
theorem sgcd_ne {t b : Int} (h : b ≠ 0) : sgcd t b ≠ 0 := by
  have := gcd_pos (t := t) h
  unfold sgcd
  split <;> omega
theorem sgcd_abs (t b : Int) : (sgcd t b).natAbs = Nat.gcd t.natAbs b.natAbs := by
  unfold sgcd
  split <;> omega
theorem sgcd_dvd_t (t b : Int) : sgcd t b ∣ t := by
  rw [← Int.natAbs_dvd_natAbs, sgcd_abs]
  exact Nat.gcd_dvd_left _ _
theorem sgcd_dvd_b (t b : Int) : sgcd t b ∣ b := by
  rw [← Int.natAbs_dvd_natAbs, sgcd_abs]
  exact Nat.gcd_dvd_right _ _
theorem low_t {t b : Int} : lowT t b * sgcd t b = t := by
  unfold lowT
  rw [Int.fdiv_eq_ediv_of_dvd (sgcd_dvd_t t b)]
  exact Int.ediv_mul_cancel (sgcd_dvd_t t b)
theorem low_b {t b : Int} : lowB t b * sgcd t b = b := by
  unfold lowB
  rw [Int.fdiv_eq_ediv_of_dvd (sgcd_dvd_b t b)]
  exact Int.ediv_mul_cancel (sgcd_dvd_b t b)
theorem lowT_abs {t b : Int} (h : b ≠ 0) : (lowT t b).natAbs ≤ t.natAbs := by
  have e : (lowT t b).natAbs * (sgcd t b).natAbs = t.natAbs := by rw [← Int.natAbs_mul, low_t]
  have p : 0 < (sgcd t b).natAbs := by rw [sgcd_abs]; exact gcd_pos h
  rw [← e]
  exact Nat.le_mul_of_pos_right _ p
theorem lowB_abs {t b : Int} (h : b ≠ 0) : (lowB t b).natAbs ≤ b.natAbs := by
  have e : (lowB t b).natAbs * (sgcd t b).natAbs = b.natAbs := by rw [← Int.natAbs_mul, low_b]
  have p : 0 < (sgcd t b).natAbs := by rw [sgcd_abs]; exact gcd_pos h
  calc (lowB t b).natAbs ≤ (lowB t b).natAbs * (sgcd t b).natAbs := Nat.le_mul_of_pos_right _ p
    _ = b.natAbs := e
theorem lowB_pos {t b : Int} (h : b ≠ 0) : 0 < lowB t b := by
  have e := low_b (t := t) (b := b)
  have p := gcd_pos (t := t) h
  have hs : (0 < b → 0 < sgcd t b) ∧ (b < 0 → sgcd t b < 0) := by
    unfold sgcd
    constructor <;> intro z
    · rw [if_neg (by omega)]
      omega
    · rw [if_pos z]
      omega
  rcases Int.lt_trichotomy b 0 with z | z | z
  · have q := hs.2 z
    rcases (Int.lt_or_le 0 (lowB t b)) with w | w
    · exact w
    · have := Int.mul_nonneg_of_nonpos_of_nonpos w (Int.le_of_lt q)
      omega
  · exact absurd z h
  · have q := hs.1 z
    rcases (Int.lt_or_le 0 (lowB t b)) with w | w
    · exact w
    · have := Int.mul_nonpos_of_nonpos_of_nonneg w (Int.le_of_lt q)
      omega
theorem low_gcd {t b : Int} (h : b ≠ 0) : Nat.gcd (lowT t b).natAbs (lowB t b).natAbs = 1 := by
  have e1 : (lowT t b).natAbs * (sgcd t b).natAbs = t.natAbs := by rw [← Int.natAbs_mul, low_t]
  have e2 : (lowB t b).natAbs * (sgcd t b).natAbs = b.natAbs := by rw [← Int.natAbs_mul, low_b]
  have p : 0 < (sgcd t b).natAbs := by rw [sgcd_abs]; exact gcd_pos h
  have e3 : Nat.gcd t.natAbs b.natAbs = Nat.gcd (lowT t b).natAbs (lowB t b).natAbs * (sgcd t b).natAbs := by rw [← Nat.gcd_mul_right, e1, e2]
  rw [← sgcd_abs] at e3
  have e4 : 1 * (sgcd t b).natAbs = Nat.gcd (lowT t b).natAbs (lowB t b).natAbs * (sgcd t b).natAbs := by rw [Nat.one_mul]; exact e3
  exact (Nat.eq_of_mul_eq_mul_right p e4).symm
/-- a ratio in lowest terms -/
structure IsR (a b : Int) : Prop where
  pos : 0 < b
  co : Nat.gcd a.natAbs b.natAbs = 1
theorem low_is {t b : Int} (h : b ≠ 0) : IsR (lowT t b) (lowB t b) := ⟨lowB_pos h, low_gcd h⟩
/-! ### stepping -/
theorem seq_nx {a b : MS} {ρ ρ' : Env'} {s s' : Hd} (h : a ρ s = .ok (.nx ρ') s') : mSeq a b ρ s = b ρ' s' := by
  unfold mSeq
  rw [h]
theorem seq_rt {a b : MS} {ρ : Env'} {d : Dt} {s s' : Hd} (h : a ρ s = .ok (.rt d) s') : mSeq a b ρ s = .ok (.rt d) s' := by
  unfold mSeq
  rw [h]
theorem def_rt {n : Nat} {b : MS} {ds : List Dt} {d : Dt} {s s' : Hd} (h : b (startE n ds) s = .ok (.rt d) s') : mDef n b ds s = .ok d s' := by
  unfold mDef
  rw [h]
theorem for_of {g : GM} {it : MA} {body : MS} {ρ : Env'} {s s' : Hd} {ds : List Dt} (h : it ρ s = .ok ds s') : mFor g it body ρ s = loopF g body ds ρ s' := by
  unfold mFor
  rw [h]
  rfl
theorem lc_of {g : GM} {it : MA} {t : MT} {a : ME} {vs : List Nat} {ρ : Env'} {s s' : Hd} {ds : List Dt} (h : it ρ s = .ok ds s') : mLc g it t a vs ρ s = loopC g t a vs ds [] ρ s' := by
  unfold mLc
  rw [h]
  rfl
end Mir


set_option Elab.async false
set_option linter.all false
/-! Ratios in lowest terms are the core's rational numbers. -/
namespace Mir
open PySem PySem.Spec PyProof.Rows L2
abbrev tp (q : Rat) : Int := q.num
abbrev bt (q : Rat) : Int := (q.den : Int)
/-- a rational number as the program writes it -/
abbrev dq (q : Rat) : Dt := rat q.num (q.den : Int)
theorem bt_pos (q : Rat) : (0 : Int) < (q.den : Int) := by
  have := q.den_pos
  omega
theorem bt_ne (q : Rat) : (q.den : Int) ≠ 0 := Int.ne_of_gt (bt_pos q)
theorem dq_is (q : Rat) : IsR q.num (q.den : Int) := ⟨bt_pos q, by rw [Int.natAbs_natCast]; exact q.reduced⟩
theorem rat_of {a b : Int} (h : IsR a b) : ∃ q : Rat, q.num = a ∧ (q.den : Int) = b ∧ q = Rat.divInt a b := by
  have hb : (((b.natAbs : Nat)) : Int) = b := by
    have := h.pos
    omega
  have e := Rat.num_divInt_den ⟨a, b.natAbs, by have := h.pos; omega, h.co⟩
  refine ⟨⟨a, b.natAbs, by have := h.pos; omega, h.co⟩, rfl, hb, ?_⟩
  rw [← e]
  simp only
  rw [hb]
theorem low_val (t b : Int) (h : b ≠ 0) : ∃ q : Rat, q.num = lowT t b ∧ (q.den : Int) = lowB t b ∧ q = Rat.divInt t b := by
  obtain ⟨q, e1, e2, e3⟩ := rat_of (low_is (t := t) h)
  refine ⟨q, e1, e2, e3.trans ?_⟩
  rw [Rat.divInt_eq_divInt_iff (Int.ne_of_gt (lowB_pos h)) h]
  have x := low_t (t := t) (b := b)
  have y := low_b (t := t) (b := b)
  have g0 := sgcd_ne (t := t) h
  refine Int.eq_of_mul_eq_mul_right g0 ?_
  generalize lowT t b = u at *
  generalize lowB t b = v at *
  generalize sgcd t b = w at *
  grind
theorem low_dq (t b : Int) (h : b ≠ 0) : low t b = dq (Rat.divInt t b) := by
  obtain ⟨q, e1, e2, e3⟩ := low_val t b h
  unfold low
  rw [← e1, ← e2, e3]
theorem divInt_eq {t b : Int} (h : b ≠ 0) : Rat.divInt t b = (t : Rat) / (b : Rat) := Rat.divInt_eq_div t b
theorem q_eq (q : Rat) : q = (q.num : Rat) / ((q.den : Int) : Rat) := by
  rw [← Rat.divInt_eq_div]
  exact (Rat.num_divInt_den q).symm
theorem cast_ne {b : Int} (h : b ≠ 0) : (b : Rat) ≠ 0 := by
  intro e
  exact h (Rat.intCast_inj.mp (by rw [e]; rfl))
theorem low_add (p q : Rat) : low (p.num * (q.den : Int) + q.num * (p.den : Int)) ((p.den : Int) * (q.den : Int)) = dq (p + q) := by
  have h : (p.den : Int) * (q.den : Int) ≠ 0 := Int.mul_ne_zero (bt_ne p) (bt_ne q)
  rw [low_dq _ _ h, divInt_eq h]
  have e1 := q_eq p
  have e2 := q_eq q
  have n1 := cast_ne (bt_ne p)
  have n2 := cast_ne (bt_ne q)
  congr 1
  rw [Rat.intCast_add, Rat.intCast_mul, Rat.intCast_mul, Rat.intCast_mul]
  generalize hp1 : ((p.num : Int) : Rat) = a at *
  generalize hp2 : (((p.den : Int)) : Rat) = b at *
  generalize hq1 : ((q.num : Int) : Rat) = c at *
  generalize hq2 : (((q.den : Int)) : Rat) = d at *
  grind
theorem low_sub (p q : Rat) : low (p.num * (q.den : Int) - q.num * (p.den : Int)) ((p.den : Int) * (q.den : Int)) = dq (p - q) := by
  have h : (p.den : Int) * (q.den : Int) ≠ 0 := Int.mul_ne_zero (bt_ne p) (bt_ne q)
  rw [low_dq _ _ h, divInt_eq h]
  have e1 := q_eq p
  have e2 := q_eq q
  have n1 := cast_ne (bt_ne p)
  have n2 := cast_ne (bt_ne q)
  congr 1
  rw [Rat.intCast_sub, Rat.intCast_mul, Rat.intCast_mul, Rat.intCast_mul]
  generalize hp1 : ((p.num : Int) : Rat) = a at *
  generalize hp2 : (((p.den : Int)) : Rat) = b at *
  generalize hq1 : ((q.num : Int) : Rat) = c at *
  generalize hq2 : (((q.den : Int)) : Rat) = d at *
  grind
theorem low_mul' (p q : Rat) : low (p.num * q.num) ((p.den : Int) * (q.den : Int)) = dq (p * q) := by
  have h : (p.den : Int) * (q.den : Int) ≠ 0 := Int.mul_ne_zero (bt_ne p) (bt_ne q)
  rw [low_dq _ _ h, divInt_eq h]
  have e1 := q_eq p
  have e2 := q_eq q
  have n1 := cast_ne (bt_ne p)
  have n2 := cast_ne (bt_ne q)
  congr 1
  rw [Rat.intCast_mul, Rat.intCast_mul]
  generalize hp1 : ((p.num : Int) : Rat) = a at *
  generalize hp2 : (((p.den : Int)) : Rat) = b at *
  generalize hq1 : ((q.num : Int) : Rat) = c at *
  generalize hq2 : (((q.den : Int)) : Rat) = d at *
  grind
theorem num_ne {q : Rat} (h : q ≠ 0) : q.num ≠ 0 := fun e => h (Rat.num_eq_zero.mp e)
theorem low_div (p q : Rat) (hq : q ≠ 0) : low (p.num * (q.den : Int)) ((p.den : Int) * q.num) = dq (p / q) := by
  have h : (p.den : Int) * q.num ≠ 0 := Int.mul_ne_zero (bt_ne p) (num_ne hq)
  rw [low_dq _ _ h, divInt_eq h]
  have e1 := q_eq p
  have e2 := q_eq q
  have n1 := cast_ne (bt_ne p)
  have n2 := cast_ne (bt_ne q)
  have n3 := cast_ne (num_ne hq)
  congr 1
  rw [Rat.intCast_mul, Rat.intCast_mul]
  generalize hp1 : ((p.num : Int) : Rat) = a at *
  generalize hp2 : (((p.den : Int)) : Rat) = b at *
  generalize hq1 : ((q.num : Int) : Rat) = c at *
  generalize hq2 : (((q.den : Int)) : Rat) = d at *
  grind
theorem low_frac (t b : Int) (h : b ≠ 0) : low t b = dq ((t : Rat) / (b : Rat)) := by rw [low_dq _ _ h, divInt_eq h]
theorem neg_dq (q : Rat) : rat (-q.num) (q.den : Int) = dq (-q) := rfl
theorem dq_inj {p q : Rat} : dq p = dq q ↔ p = q := by
  constructor
  · intro h
    injection h with h
    injection h with h1 h2
    injection h1 with h1
    injection h2 with h2
    injection h2 with h2
    exact Rat.ext h1 (Int.ofNat_inj.mp h2)
  · intro h
    rw [h]
theorem dq_beq (p q : Rat) : ((p.num == q.num) && ((p.den : Int) == (q.den : Int))) = decide (p = q) := by
  by_cases h : p = q
  · rw [h]
    simp
  · rw [decide_eq_false h]
    by_cases c : p.num = q.num
    · by_cases c2 : p.den = q.den
      · exact absurd (Rat.ext c c2) h
      · have c3 : ¬ ((p.den : Int) = (q.den : Int)) := fun e => c2 (Int.ofNat_inj.mp e)
        have c4 : ((p.den : Int) == (q.den : Int)) = false := beq_eq_false_iff_ne.mpr c3
        rw [c4, Bool.and_false]
    · have c4 : (p.num == q.num) = false := beq_eq_false_iff_ne.mpr c
      rw [c4, Bool.false_and]
theorem lt_dq (p q : Rat) : p.num * (q.den : Int) < q.num * (p.den : Int) ↔ p < q := (Rat.lt_iff p q).symm
theorem dq_zero : dq 0 = rat 0 1 := rfl
theorem dq_one : dq 1 = rat 1 1 := rfl
theorem dq_int (i : Int) : dq (i : Rat) = rat i 1 := rfl
/-- how many figures -/
structure Bd (n : Nat) (q : Rat) : Prop where
  t : Sz n q.num
  b : Sz n (q.den : Int)
theorem Bd.mono {m n : Nat} {q : Rat} (h : Bd m q) (e : m ≤ n) : Bd n q := ⟨h.t.mono e, h.b.mono e⟩
theorem Bd.frac {n : Nat} {t b : Int} (h : b ≠ 0) (ht : Sz n t) (hb : Sz n b) : Bd n ((t : Rat) / (b : Rat)) := by
  obtain ⟨q, e1, e2, e3⟩ := low_val t b h
  rw [divInt_eq h] at e3
  rw [← e3]
  exact ⟨by rw [e1]; exact ht.le (lowT_abs h), by rw [e2]; exact hb.le (lowB_abs h)⟩
theorem Bd.of {n : Nat} {t b : Int} {q : Rat} (h : b ≠ 0) (ht : Sz n t) (hb : Sz n b) (e : low t b = dq q) : Bd n q := by
  rw [low_frac t b h] at e
  rw [← dq_inj.mp e]
  exact Bd.frac h ht hb
theorem Bd.add {m n : Nat} {p q : Rat} (a : Bd m p) (b : Bd n q) : Bd (m + n + 1) (p + q) :=
  Bd.of (Int.mul_ne_zero (bt_ne p) (bt_ne q)) ((a.t.mul b.b).add ((b.t.mul a.b).mono (by omega))) ((a.b.mul b.b).mono (by omega)) (low_add p q)
theorem Bd.sub {m n : Nat} {p q : Rat} (a : Bd m p) (b : Bd n q) : Bd (m + n + 1) (p - q) :=
  Bd.of (Int.mul_ne_zero (bt_ne p) (bt_ne q)) ((a.t.mul b.b).sub ((b.t.mul a.b).mono (by omega))) ((a.b.mul b.b).mono (by omega)) (low_sub p q)
theorem Bd.mul {m n : Nat} {p q : Rat} (a : Bd m p) (b : Bd n q) : Bd (m + n) (p * q) :=
  Bd.of (Int.mul_ne_zero (bt_ne p) (bt_ne q)) (a.t.mul b.t) (a.b.mul b.b) (low_mul' p q)
theorem Bd.div {m n : Nat} {p q : Rat} (h : q ≠ 0) (a : Bd m p) (b : Bd n q) : Bd (m + n) (p / q) :=
  Bd.of (Int.mul_ne_zero (bt_ne p) (num_ne h)) (a.t.mul b.b) (a.b.mul b.t) (low_div p q h)
theorem Bd.neg {m : Nat} {p : Rat} (a : Bd m p) : Bd m (-p) := ⟨a.t.neg, a.b⟩
end Mir


set_option Elab.async false
set_option linter.all false
set_option maxRecDepth 100000
namespace Law
open PySem PySem.Spec PyProof.Rows L2 Mir
open PySem.W (Frag)
def m__law_take : List Dt → Hd → R Dt := mTake
def b_whole_text : MS :=
  (mSeq (mSet 1 (mCB fAbs (mCons (mVar 0) mNil)))
    (mSeq (mSetO 2 (mLstO mNil))
    (mSeq (mWhile (mTest (mOp fGe (mVar 1) (mOp fPow (mC (.int 10)) (mC (.int 64))))) (mSeq (mAsg (gmSeq 2 (gmCons (gmName 1) (gmCons (gmName 3) gmNil))) (mCB fDivmod (mCons (mVar 1) (mCons (mOp fPow (mC (.int 10)) (mC (.int 64))) mNil))))
    (mApp 2 (mMt fZfill (mCB fStr (mCons (mVar 3) mNil)) (mCons (mC (.int 64)) mNil)))))
    (mSeq (mApp 2 (mCB fStr (mCons (mVar 1) mNil)))
    (mSeq (mIfS (mTest (mOp fLt (mVar 0) (mC (.int 0)))) (mApp 2 (mC (.str "-"))) mNext)
    (mRet (mBor 2 (mMt fJoin (mC (.str "")) (mCons (mRev (mVar 2)) mNil)))))))))
def m_whole_text : List Dt → Hd → R Dt := mDef 4 b_whole_text
def b_ratio_text : MS :=
  (mSeq (mAsg (gmSeq 2 (gmCons (gmName 1) (gmCons (gmName 2) gmNil))) (mVar 0))
    (mSeq (mIfS (mTest (mOp fEq (mVar 2) (mC (.int 1)))) (mRet (mCall 1 [] m_whole_text (mCons (mVar 1) mNil))) mNext)
    (mRet (mOp fAdd (mOp fAdd (mCall 1 [] m_whole_text (mCons (mVar 1) mNil)) (mC (.str "/"))) (mCall 1 [] m_whole_text (mCons (mVar 2) mNil))))))
def m_ratio_text : List Dt → Hd → R Dt := mDef 3 b_ratio_text
def b__law_plain : MS :=
  (mSeq (mIfS (mOr (mNot (mTru (mIsi "tuple" (mVar 0)))) (mTest (mOp fNe (mCB fLen (mCons (mVar 0) mNil)) (mC (.int 2))))) (mRet (mC (.bl false))) mNext)
    (mSeq (mFor (gmName 2) (mSeqI (mVar 0))
      (mIfS (mOr (mNot (mTru (mIsi "int" (mVar 2)))) (mTru (mIsi "bool" (mVar 2)))) (mRet (mC (.bl false))) mNext))
    (mRet (mOp fEq (mVar 0) (mVar 1)))))
def m__law_plain : List Dt → Hd → R Dt := mDef 3 b__law_plain
def b__law_long : MS :=
  (mSeq (mSet 1 (mOp fAdd (mC (.int 1)) (mCall 2 [] m__law_take (mCons (mVar 0) (mCons (mC (.int 9)) mNil)))))
    (mSeq (mFor (gmName 2) (mRng1 (mC (.int 299)))
      (mSet 1 (mOp fAdd (mOp fMul (mVar 1) (mC (.int 10))) (mCall 2 [] m__law_take (mCons (mVar 0) (mCons (mC (.int 10)) mNil))))))
    (mRet (mVar 1))))
def m__law_long : List Dt → Hd → R Dt := mDef 3 b__law_long
def b__law_gcd : MS :=
  (mSeq (mPar 0 1 (mCons (mCB fAbs (mCons (mVar 0) mNil)) (mCons (mCB fAbs (mCons (mVar 1) mNil)) mNil)))
    (mSeq (mWhile (mTru (mVar 1)) (mPar 0 1 (mCons (mVar 1) (mCons (mOp fMod (mCB fIntC (mCons (mVar 0) mNil)) (mVar 1)) mNil))))
    (mRet (mVar 0))))
def m__law_gcd : List Dt → Hd → R Dt := mDef 2 b__law_gcd
def b__law_ratio : MS :=
  (mSeq (mSet 2 (mCall 2 [] m__law_gcd (mCons (mVar 0) (mCons (mVar 1) mNil))))
    (mSeq (mIfS (mTest (mOp fLt (mVar 1) (mC (.int 0)))) (mSet 2 (mUn fNeg (mVar 2))) mNext)
    (mRet (mTup (mCons (mOp fDiv (mVar 0) (mVar 2)) (mCons (mOp fDiv (mVar 1) (mVar 2)) mNil))))))
def m__law_ratio : List Dt → Hd → R Dt := mDef 3 b__law_ratio
def b__law_wide : MS :=
  (mSeq (mSet 1 (mCall 2 [] m__law_take (mCons (mVar 0) (mCons (mC (.int 9)) mNil))))
    (mSeq (mIfS (mTest (mOp fLt (mVar 1) (mC (.int 6)))) (mRet (mOp fSub (mCall 2 [] m__law_take (mCons (mVar 0) (mCons (mC (.int 25)) mNil))) (mC (.int 12)))) mNext)
    (mSeq (mSet 2 (mC (.int 0)))
    (mSeq (mFor (gmName 3) (mRng1 (mIf (mTest (mOp fLt (mVar 1) (mC (.int 8)))) (mC (.int 1)) (mC (.int 5))))
      (mSet 2 (mOp fAdd (mOp fMul (mVar 2) (mOp fPow (mC (.int 10)) (mC (.int 9)))) (mCall 2 [] m__law_take (mCons (mVar 0) (mCons (mOp fPow (mC (.int 10)) (mC (.int 9))) mNil))))))
    (mRet (mOp fMul (mVar 2) (mOp fSub (mC (.int 1)) (mOp fMul (mC (.int 2)) (mCall 2 [] m__law_take (mCons (mVar 0) (mCons (mC (.int 2)) mNil)))))))))))
def m__law_wide : List Dt → Hd → R Dt := mDef 4 b__law_wide
def b__law_wide_ratio : MS :=
  (mRet (mCall 2 [] m__law_ratio (mCons (mCall 1 [] m__law_wide (mCons (mVar 0) mNil)) (mCons (mOp fAdd (mC (.int 1)) (mCB fAbs (mCons (mCall 1 [] m__law_wide (mCons (mVar 0) mNil)) mNil))) mNil))))
def m__law_wide_ratio : List Dt → Hd → R Dt := mDef 1 b__law_wide_ratio
def b_is_whole : MS :=
  (mSeq (mIfS (mOr (mNot (mTru (mIsi "int" (mVar 0)))) (mTru (mIsi "bool" (mVar 0)))) (mRet (mC (.bl false))) mNext)
    (mRet (mAndV (mOrV (mOp fIs (mVar 1) (mC .non)) (mOp fGe (mVar 0) (mVar 1))) (mOrV (mOp fIs (mVar 2) (mC .non)) (mOp fLe (mVar 0) (mVar 2))))))
def m_is_whole : List Dt → Hd → R Dt := mDef 3 b_is_whole
def b_is_ratio : MS :=
  (mSeq (mIfS (mOr (mNot (mTru (mIsi "tuple" (mVar 0)))) (mTest (mOp fNe (mCB fLen (mCons (mVar 0) mNil)) (mC (.int 2))))) (mRet (mC (.bl false))) mNext)
    (mSeq (mAsg (gmSeq 2 (gmCons (gmName 1) (gmCons (gmName 2) gmNil))) (mVar 0))
    (mRet (mAndV (mCall 3 [.non, .non] m_is_whole (mCons (mVar 1) mNil)) (mAndV (mCall 3 [.non] m_is_whole (mCons (mVar 2) (mCons (mC (.int 1)) mNil))) (mOp fEq (mCB fGcd (mCons (mVar 1) (mCons (mVar 2) mNil))) (mC (.int 1))))))))
def m_is_ratio : List Dt → Hd → R Dt := mDef 3 b_is_ratio
def b_are_digits : MS :=
  (mRet (mAndV (mMt fIsAscii (mVar 0) mNil) (mAndV (mMt fIsDigit (mVar 0) mNil) (mOp fLe (mCB fLen (mCons (mVar 0) mNil)) (mC (.int 300))))))
def m_are_digits : List Dt → Hd → R Dt := mDef 1 b_are_digits
def b_ratio_of : MS :=
  (mSeq (mIfS (mNot (mTru (mIsi "str" (mVar 0)))) (mRaise "BadRatio" ["what"] (mCons (mC (.str "text")) mNil)) mNext)
    (mSeq (mAsg (gmSeq 3 (gmCons (gmName 1) (gmCons (gmName 2) (gmCons (gmName 3) gmNil)))) (mMt fPartition (mVar 0) (mCons (mC (.str "/")) mNil)))
    (mSeq (mIfS (mTest (mOp fEq (mVar 2) (mC (.str "")))) (mSet 3 (mC (.str "1"))) mNext)
    (mSeq (mIfS (mOr (mNot (mTru (mCall 1 [] m_are_digits (mCons (mMt fRemovePre (mVar 1) (mCons (mC (.str "-")) mNil)) mNil)))) (mNot (mTru (mCall 1 [] m_are_digits (mCons (mVar 3) mNil))))) (mRaise "BadRatio" ["what"] (mCons (mC (.str "text")) mNil)) mNext)
    (mSeq (mSet 4 (mTup (mCons (mCB fIntT (mCons (mVar 1) mNil)) (mCons (mCB fIntT (mCons (mVar 3) mNil)) mNil))))
    (mSeq (mIfS (mOr (mNot (mTru (mCall 1 [] m_is_ratio (mCons (mVar 4) mNil)))) (mTest (mOp fNe (mCall 1 [] m_ratio_text (mCons (mVar 4) mNil)) (mVar 0)))) (mRaise "BadRatio" ["what"] (mCons (mC (.str "text")) mNil)) mNext)
    (mRet (mVar 4))))))))
def m_ratio_of : List Dt → Hd → R Dt := mDef 5 b_ratio_of
def b__law_read : MS :=
  (mTryAs 1 "BadRatio" (mRet (mCall 1 [] m_ratio_of (mCons (mVar 0) mNil))) (xRet (xFld "what")))
def m__law_read : List Dt → Hd → R Dt := mDef 2 b__law_read
def b__law_text : MS :=
  (mRet (mIf (mTest (mOp fEq (mOp fIx (mVar 0) (mC (.int 1))) (mC (.int 1)))) (mCB fStr (mCons (mOp fIx (mVar 0) (mC (.int 0))) mNil)) (mOp fAdd (mOp fAdd (mCB fStr (mCons (mOp fIx (mVar 0) (mC (.int 0))) mNil)) (mC (.str "/"))) (mCB fStr (mCons (mOp fIx (mVar 0) (mC (.int 1))) mNil)))))
def m__law_text : List Dt → Hd → R Dt := mDef 1 b__law_text
def b__law_spoilt : MS :=
  (mSeq (mSet 2 (mCall 1 [] m__law_text (mCons (mVar 0) mNil)))
    (mSeq (mSet 3 (mCall 1 [] m__law_text (mCons (mTup (mCons (mCB fAbs (mCons (mOp fIx (mVar 0) (mC (.int 0))) mNil)) (mCons (mOp fIx (mVar 0) (mC (.int 1))) mNil))) mNil)))
    (mSeq (mPar 4 5 (mCons (mCB fStr (mCons (mOp fIx (mVar 0) (mC (.int 0))) mNil)) (mCons (mCB fStr (mCons (mOp fIx (mVar 0) (mC (.int 1))) mNil)) mNil)))
    (mSeq (mSet 6 (mLst (mCons (mOp fAdd (mC (.str "+")) (mVar 3)) (mCons (mOp fAdd (mC (.str " ")) (mVar 2)) (mCons (mOp fAdd (mVar 2) (mC (.str " "))) (mCons (mOp fAdd (mC (.str "0")) (mVar 3)) (mCons (mOp fAdd (mC (.str "-0")) (mVar 3)) (mCons (mOp fAdd (mOp fAdd (mVar 4) (mC (.str "/"))) (mCB fStr (mCons (mC (.int 0)) mNil))) (mCons (mOp fAdd (mVar 2) (mC (.str "/"))) (mCons (mOp fAdd (mC (.str "/")) (mVar 2)) mNil))))))))))
    (mSeq (mSet 6 (mOp fAdd (mVar 6) (mLst (mCons (mOp fAdd (mOp fAdd (mCB fStr (mCons (mOp fMul (mOp fIx (mVar 0) (mC (.int 0))) (mC (.int 2))) mNil)) (mC (.str "/"))) (mCB fStr (mCons (mOp fMul (mOp fIx (mVar 0) (mC (.int 1))) (mC (.int 2))) mNil))) (mCons (mOp fAdd (mOp fAdd (mVar 4) (mC (.str "/-"))) (mVar 5)) (mCons (mOp fAdd (mOp fAdd (mVar 4) (mC (.str "//"))) (mVar 5)) (mCons (mOp fAdd (mC (.str "--")) (mVar 3)) (mCons (mOp fAdd (mVar 2) (mC (.str "x"))) (mCons (mC (.str "")) mNil)))))))))
    (mSeq (mSet 6 (mOp fAdd (mVar 6) (mLst (mCons (mOp fAdd (mVar 2) (mC (.str "\n"))) (mCons (mOp fAdd (mVar 3) (mC (.str "_1"))) (mCons (mOp fAdd (mOp fAdd (mOp fAdd (mVar 4) (mC (.str "/"))) (mVar 5)) (mC (.str "/1"))) (mCons (mC (.str "-0")) (mCons (mOp fAdd (mOp fAdd (mVar 4) (mC (.str "/0"))) (mVar 5)) (mCons (mOp fAdd (mC (.str "0x")) (mVar 3)) (mCons (mC (.str "-")) (mCons (mC (.str "/")) mNil)))))))))))
    (mRet (mOp fIx (mVar 6) (mVar 1)))))))))
def m__law_spoilt : List Dt → Hd → R Dt := mDef 7 b__law_spoilt
def b_law : MS :=
  (mSeq (mSet 2 (mCall 1 [] m__law_wide_ratio (mCons (mVar 1) mNil)))
    (mSeq (mIfS (mTest (mOp fEq (mCall 2 [] m__law_take (mCons (mVar 1) (mCons (mC (.int 8)) mNil))) (mC (.int 0)))) (mSeq (mSet 3 (mCall 1 [] m__law_long (mCons (mVar 1) mNil)))
    (mSeq (mSet 4 (mCall 1 [] m__law_long (mCons (mVar 1) mNil)))
    (mSeq (mSet 2 (mOp fIx (mLst (mCons (mTup (mCons (mVar 3) (mCons (mC (.int 1)) mNil))) (mCons (mTup (mCons (mUn fNeg (mVar 3)) (mCons (mC (.int 1)) mNil))) (mCons (mCall 2 [] m__law_ratio (mCons (mVar 3) (mCons (mVar 4) mNil))) (mCons (mCall 2 [] m__law_ratio (mCons (mC (.int 1)) (mCons (mVar 3) mNil))) mNil))))) (mCall 2 [] m__law_take (mCons (mVar 1) (mCons (mC (.int 4)) mNil)))))
    (mIfS (mOr (mTest (mOp fNe (mCall 1 [] m__law_read (mCons (mOp fAdd (mCB fStr (mCons (mVar 3) mNil)) (mC (.str "0"))) mNil)) (mC (.str "text")))) (mOr (mTest (mOp fNe (mCall 1 [] m__law_read (mCons (mOp fAdd (mOp fAdd (mC (.str "-")) (mCB fStr (mCons (mVar 3) mNil))) (mC (.str "0"))) mNil)) (mC (.str "text")))) (mTest (mOp fNe (mCall 1 [] m__law_read (mCons (mOp fAdd (mOp fAdd (mC (.str "1/")) (mCB fStr (mCons (mVar 3) mNil))) (mC (.str "0"))) mNil)) (mC (.str "text")))))) (mRet (mC (.bl false))) mNext)))) mNext)
    (mSeq (mIfS (mTest (mOp fEq (mCall 2 [] m__law_take (mCons (mVar 1) (mCons (mC (.int 8)) mNil))) (mC (.int 0)))) (mSeq (mSet 5 (mOp fIx (mLst (mCons (mOp fRep (mC (.str "7")) (mC (.int 5000))) (mCons (mOp fAdd (mC (.str "-")) (mOp fRep (mC (.str "7")) (mC (.int 4400)))) (mCons (mOp fAdd (mC (.str "1/")) (mOp fRep (mC (.str "3")) (mC (.int 4301)))) (mCons (mOp fAdd (mOp fRep (mC (.str "9")) (mC (.int 4301))) (mC (.str "/2"))) mNil))))) (mCall 2 [] m__law_take (mCons (mVar 1) (mCons (mC (.int 4)) mNil)))))
    (mIfS (mTest (mOp fNe (mCall 1 [] m__law_read (mCons (mVar 5) mNil)) (mC (.str "text")))) (mRet (mC (.bl false))) mNext)) mNext)
    (mSeq (mSet 6 (mCall 1 [] m_ratio_text (mCons (mVar 2) mNil)))
    (mSeq (mIfS (mOr (mTest (mOp fNe (mVar 6) (mCall 1 [] m__law_text (mCons (mVar 2) mNil)))) (mNot (mTru (mIsi "str" (mVar 6))))) (mRet (mC (.bl false))) mNext)
    (mSeq (mIfS (mOr (mNot (mTru (mCall 2 [] m__law_plain (mCons (mCall 1 [] m_ratio_of (mCons (mVar 6) mNil)) (mCons (mVar 2) mNil))))) (mNot (mTru (mCall 2 [] m__law_plain (mCons (mCall 1 [] m_ratio_of (mCons (mCall 1 [] m__law_text (mCons (mVar 2) mNil)) mNil)) (mCons (mVar 2) mNil)))))) (mRet (mC (.bl false))) mNext)
    (mSeq (mIfS (mOr (mTest (mOp fNe (mCall 1 [] m__law_read (mCons (mCall 2 [] m__law_spoilt (mCons (mVar 2) (mCons (mCall 2 [] m__law_take (mCons (mVar 1) (mCons (mC (.int 22)) mNil))) mNil))) mNil)) (mC (.str "text")))) (mTest (mOp fNe (mCall 1 [] m__law_read (mCons (mCB fStr (mCons (mOp fIx (mVar 2) (mC (.int 0))) mNil)) mNil)) (mTup (mCons (mOp fIx (mVar 2) (mC (.int 0))) (mCons (mC (.int 1)) mNil)))))) (mRet (mC (.bl false))) mNext)
    (mSeq (mSet 7 (mOp fIx (mLst (mCons (mC .non) (mCons (mC (.int 3)) (mCons (mVar 2) (mCons (mLst (mCons (mVar 6) mNil)) (mCons (mC (.bl true)) (mCons (mTup (mCons (mVar 6) mNil)) mNil))))))) (mCall 2 [] m__law_take (mCons (mVar 1) (mCons (mC (.int 6)) mNil)))))
    (mRet (mAndV (mOp fEq (mCall 1 [] m__law_read (mCons (mVar 7) mNil)) (mC (.str "text"))) (mAndV (mCall 2 [] m__law_plain (mCons (mCall 1 [] m_ratio_of (mCons (mC (.str "0")) mNil)) (mCons (mTup (mCons (mC (.int 0)) (mCons (mC (.int 1)) mNil))) mNil))) (mOp fEq (mCall 1 [] m_ratio_text (mCons (mTup (mCons (mC (.int 0)) (mCons (mC (.int 1)) mNil))) mNil)) (mC (.str "0"))))))))))))))
end Law


set_option Elab.async false
set_option linter.all false
set_option maxRecDepth 100000
namespace Law
open PySem PySem.Spec PyProof.Rows L2 Mir

theorem take_ok (s : Hd) {n : Int} (h : manyOk n) : m__law_take [.hnd, .int n] s = .ok (.int (takeV s n)) (takeS s n) := by
  show (if manyOk n then R.ok (Dt.int (takeV s n)) (takeS s n) else .bad) = _
  rw [if_pos h]
theorem is_whole_int (i : Int) (s : Hd) : m_is_whole [.int i, .non, .non] s = .ok (.bl true) s := by
  simp [m_is_whole, mDef, b_is_whole, startE, mSeq, mIfS, mOr, mNot, mTru, mIsi, mVar, mRet, mAndV, mOrV, mOp, mC, mNext, fTru, fIs]
theorem is_whole_bl (i : Bool) (a b : Dt) (s : Hd) : m_is_whole [.bl i, a, b] s = .ok (.bl false) s := by
  simp [m_is_whole, mDef, b_is_whole, startE, mSeq, mIfS, mOr, mNot, mTru, mIsi, mVar, mRet, mAndV, mOrV, mOp, mC, mNext, fTru, fIs]
theorem is_whole_tup (i : List Dt) (a b : Dt) (s : Hd) : m_is_whole [.tup i, a, b] s = .ok (.bl false) s := by
  simp [m_is_whole, mDef, b_is_whole, startE, mSeq, mIfS, mOr, mNot, mTru, mIsi, mVar, mRet, mAndV, mOrV, mOp, mC, mNext, fTru, fIs]
theorem is_whole_lst (i : List Dt) (a b : Dt) (s : Hd) : m_is_whole [.lst i, a, b] s = .ok (.bl false) s := by
  simp [m_is_whole, mDef, b_is_whole, startE, mSeq, mIfS, mOr, mNot, mTru, mIsi, mVar, mRet, mAndV, mOrV, mOp, mC, mNext, fTru, fIs]
theorem is_whole_non (a b : Dt) (s : Hd) : m_is_whole [.non, a, b] s = .ok (.bl false) s := by
  simp [m_is_whole, mDef, b_is_whole, startE, mSeq, mIfS, mOr, mNot, mTru, mIsi, mVar, mRet, mAndV, mOrV, mOp, mC, mNext, fTru, fIs]
theorem is_whole_str (x : Str) (a b : Dt) (s : Hd) : m_is_whole [.str x, a, b] s = .ok (.bl false) s := by
  simp [m_is_whole, mDef, b_is_whole, startE, mSeq, mIfS, mOr, mNot, mTru, mIsi, mVar, mRet, mAndV, mOrV, mOp, mC, mNext, fTru, fIs]
theorem is_whole_low (i l : Int) (s : Hd) : m_is_whole [.int i, .int l, .non] s = .ok (.bl (decide (l ≤ i))) s := by
  by_cases c : l ≤ i <;> simp [m_is_whole, mDef, b_is_whole, startE, mSeq, mIfS, mOr, mNot, mTru, mIsi, mVar, mRet, mAndV, mOrV, mOp, mC, mNext, fTru, fIs, fI, c]
theorem sgcd_sz {t b : Int} {n : Nat} (h : b ≠ 0) (hs : Sz n b) : Sz n (sgcd t b) := by
  refine hs.le ?_
  rw [sgcd_abs]
  exact Nat.le_of_dvd (by omega) (Nat.gcd_dvd_right _ _)
/-- the law's own greatest divisor -/
def gcdBody : MS := mPar 0 1 (mCons (mVar 1) (mCons (mOp fMod (mCB fIntC (mCons (mVar 0) mNil)) (mVar 1)) mNil))
theorem gcd_loop (s : Hd) : ∀ (n x y : Nat), y < n → loopW (mTru (mVar 1)) gcdBody n [.dat (.int x), .dat (.int y)] s = .ok (.nx [.dat (.int (Nat.gcd x y : Nat)), .dat (.int 0)]) s
  | 0, x, y, h => by omega
  | n + 1, x, y, h => by
    unfold loopW
    by_cases c : y = 0
    · subst c
      simp [mTru, mVar, fTru]
    · have c' : ((y : Int) != 0) = true := by
        simp
        omega
      have c2 : (y : Int) ≠ 0 := by omega
      have ih := gcd_loop s n y (x % y) (by have := Nat.mod_lt x (show 0 < y by omega); omega)
      have e : Int.fmod (x : Int) (y : Int) = ((x % y : Nat) : Int) := by
        rw [Int.fmod_eq_emod_of_nonneg _ (by omega)]
        rfl
      have eb : gcdBody [.dat (.int x), .dat (.int y)] s = .ok (.nx [.dat (.int y), .dat (.int ((x % y : Nat) : Int))]) s := by
        simp [gcdBody, mPar, mCons, mVar, mOp, mCB, mNil, fIntC, fI, c2, c, e]
      have eg : Nat.gcd y (x % y) = Nat.gcd x y := by rw [Nat.gcd_comm y, ← Nat.gcd_rec, Nat.gcd_comm]
      simp only [mTru, mVar, fTru, List.getElem?_cons_succ, List.getElem?_cons_zero, R.bind_ok, liftO_some, c', if_true, eb]
      rw [ih, eg]
theorem gcd_ok (a b : Int) (s : Hd) : m__law_gcd [.int a, .int b] s = .ok (.int (Nat.gcd a.natAbs b.natAbs : Nat)) s := by
  have ea : ∀ i : Int, (if i < 0 then -i else i) = ((i.natAbs : Nat) : Int) := fun i => by split <;> omega
  have h1 : mPar 0 1 (mCons (mCB fAbs (mCons (mVar 0) mNil)) (mCons (mCB fAbs (mCons (mVar 1) mNil)) mNil)) (startE 2 [.int a, .int b]) s = .ok (.nx [.dat (.int a.natAbs), .dat (.int b.natAbs)]) s := by
    simp [mPar, mCons, mCB, mVar, mNil, fAbs, startE, ea]
  have h2 := gcd_loop s (fuelE [.dat (.int a.natAbs), .dat (.int b.natAbs)]) a.natAbs b.natAbs (by simp [fuelE, absS]; omega)
  have h3 : mWhile (mTru (mVar 1)) gcdBody [.dat (.int a.natAbs), .dat (.int b.natAbs)] s = _ := h2
  show mDef 2 (mSeq _ (mSeq (mWhile (mTru (mVar 1)) gcdBody) _)) _ _ = _
  unfold mDef mSeq
  rw [h1]
  simp only [h3]
  simp [mRet, mVar]
theorem ratio_ok {t b : Int} (h : b ≠ 0) (hs : Sz 8000 b) (s : Hd) : m__law_ratio [.int t, .int b] s = .ok (low t b) s := by
  have hd : DivOk (sgcd t b) := DivOk.of (sgcd_ne h) (sgcd_sz h hs) (by decide)
  have e : sgcd t b = if b < 0 then -((Nat.gcd t.natAbs b.natAbs : Nat) : Int) else ((Nat.gcd t.natAbs b.natAbs : Nat) : Int) := rfl
  by_cases c : b < 0
  · rw [if_pos c] at e
    rw [e] at hd
    simp [m__law_ratio, mDef, b__law_ratio, startE, mSeq, mSet, mCall, mCons, mVar, mNil, gcd_ok, mIfS, mTest, mOp, fI, mC, mUn, fNeg, mNext, mRet, mTup, c, hd, low, lowT, lowB, e]
  · rw [if_neg c] at e
    rw [e] at hd
    simp [m__law_ratio, mDef, b__law_ratio, startE, mSeq, mSet, mCall, mCons, mVar, mNil, gcd_ok, mIfS, mTest, mOp, fI, mC, mUn, fNeg, mNext, mRet, mTup, c, hd, low, lowT, lowB, e]
/-! ### ratios -/
theorem at0 (a b : Int) : atI [Dt.int a, Dt.int b] 0 = some (.int a) := rfl
theorem at1 (a b : Int) : atI [Dt.int a, Dt.int b] 1 = some (.int b) := rfl
/-- two ratios whose numbers are small enough -/
structure Rs (n : Nat) (a b c d : Int) : Prop where
  hn : n ≤ 3000
  sa : Sz n a
  sb : Sz n b
  sc : Sz n c
  sd : Sz n d
  b0 : b ≠ 0
  d0 : d ≠ 0
theorem py_int (i : Int) : pyOk (.int i) = some (.int i) := by
  have e : SeqAt.shaped (.int i) = true := rfl
  simp [pyOk, toPy, e]
theorem py_str (x : Str) (h : SeqAt.shaped (.str x) = true) : pyOk (.str x) = some (.str x) := by simp [pyOk, toPy, h]
theorem py_rat (a b : Int) : pyOk (rat a b) = some (.tuple [.int a, .int b]) := by
  have e : SeqAt.shaped (.tuple [.int a, .int b]) = true := rfl
  simp [pyOk, toPy, toPyA, e]
theorem eq_int (i j : Int) : fEqB (.int i) (.int j) = some (i == j) := by simp [fEqB, py_int, PyData.eqv]
theorem eq_rat (a b c d : Int) : fEqB (rat a b) (rat c d) = some ((a == c) && (b == d)) := by simp [fEqB, py_rat, PyData.eqv, PyData.eqvAll]

theorem isr_tup (a b : Int) (s : Hd) : m_is_ratio [rat a b] s = .ok (.bl (decide (1 ≤ b) && decide (Nat.gcd a.natAbs b.natAbs = 1))) s := by
  have e1 : fEqB (.int 2) (.int 2) = some true := by rw [eq_int]; rfl
  by_cases c : 1 ≤ b
  · by_cases c2 : Nat.gcd a.natAbs b.natAbs = 1
    · simp [m_is_ratio, mDef, b_is_ratio, startE, mSeq, mIfS, mOr, mNot, mTru, mIsi, mVar, fTru, mTest, mOp, mCB, mCons, mNil, fLen, fNe, e1, mC, mNext, mAsg, gmSeq, gmCons, gmName, gmNil, mRet, mAndV, mCall, is_whole_int, is_whole_low, c, fGcd, fEq, eq_int, c2]
    · have c3 : ((Nat.gcd a.natAbs b.natAbs : Nat) : Int) ≠ 1 := by omega
      simp [m_is_ratio, mDef, b_is_ratio, startE, mSeq, mIfS, mOr, mNot, mTru, mIsi, mVar, fTru, mTest, mOp, mCB, mCons, mNil, fLen, fNe, e1, mC, mNext, mAsg, gmSeq, gmCons, gmName, gmNil, mRet, mAndV, mCall, is_whole_int, is_whole_low, c, fGcd, fEq, eq_int, c2, c3]
  · simp [m_is_ratio, mDef, b_is_ratio, startE, mSeq, mIfS, mOr, mNot, mTru, mIsi, mVar, fTru, mTest, mOp, mCB, mCons, mNil, fLen, fNe, e1, mC, mNext, mAsg, gmSeq, gmCons, gmName, gmNil, mRet, mAndV, mCall, is_whole_int, is_whole_low, c]

section
variable {n : Nat} {p q : Rat}
end
end Law


set_option Elab.async false
set_option linter.all false
set_option maxRecDepth 100000
namespace Law
open PySem PySem.Spec PyProof.Rows L2 Mir
theorem mo12 : manyOk 12 := by decide +kernel
theorem lratio_q {t b : Int} {n : Nat} (h : b ≠ 0) (hn : n ≤ 8000) (z1 : Sz n t) (z2 : Sz n b) (s : Hd) : ∃ q : Rat, m__law_ratio [.int t, .int b] s = .ok (dq q) s ∧ Bd n q ∧ q = (t : Rat) / (b : Rat) ∧ q.num = lowT t b ∧ (q.den : Int) = lowB t b := by
  have l := ratio_ok (t := t) h (z2.mono hn) s
  obtain ⟨q, e1, e2, e3⟩ := low_val t b h
  refine ⟨q, ?_, ⟨?_, ?_⟩, e3.trans (divInt_eq h), e1, e2⟩
  · rw [l]
    unfold low
    rw [← e1, ← e2]
  · rw [e1]
    exact z1.le (lowT_abs h)
  · rw [e2]
    exact z2.le (lowB_abs h)
end Law


set_option Elab.async false
set_option linter.all false
set_option maxRecDepth 100000
namespace Law
open PySem PySem.Spec PyProof.Rows L2 Mir
open SX (S S_len S_cat S_beq_eq S_inj)
open TL (numL numL_lt numL_step numL_digits numL_ne numL_free numL_val numL_inj numL_len)
/-! ### texts of whole numbers -/
def D (i : Int) : List Nat := if i < 0 then 45 :: numL i.natAbs else numL i.natAbs
theorem D_nn {i : Int} (h : 0 ≤ i) : D i = numL i.natAbs := by
  unfold D
  rw [if_neg (by omega)]
theorem D_neg {i : Int} (h : i < 0) : D i = 45 :: numL i.natAbs := by
  unfold D
  rw [if_pos h]
theorem str_D (i : Int) : Str.ofString (toString i) = S (D i) := by
  cases i with
  | ofNat n =>
    rw [D_nn (show (0 : Int) ≤ Int.ofNat n from Int.natCast_nonneg n)]
    exact SX.num_S n
  | negSucc m =>
    rw [D_neg (Int.negSucc_lt_zero m)]
    refine TL.ext_tl ?_
    show (Str.ofString (toString (Int.negSucc m))).cps.toList = 45 :: numL (m + 1)
    rw [signs_ofString]
    have e : toString (Int.negSucc m) = "-" ++ Nat.repr (m + 1) := rfl
    rw [e, String.toList_append, List.map_append, Nat.toList_repr]
    rfl
def pad : Nat → Nat → List Nat
  | 0, _ => []
  | k + 1, m => pad k (m / 10) ++ [48 + m % 10]
theorem numL_split : ∀ (k q m : Nat), 0 < q → m < 10 ^ k → numL (q * 10 ^ k + m) = numL q ++ pad k m
  | 0, q, m, hq, hm => by
    have : m = 0 := by simpa using hm
    subst this
    simp [pad]
  | k + 1, q, m, hq, hm => by
    have e10 : 10 ^ (k + 1) = 10 * 10 ^ k := by rw [Nat.pow_succ, Nat.mul_comm]
    have hp : 0 < 10 ^ k := Nat.pow_pos (by decide)
    have hm2 : m / 10 < 10 ^ k := by
      rw [e10] at hm
      exact Nat.div_lt_of_lt_mul hm
    have e : q * 10 ^ (k + 1) + m = 10 * (q * 10 ^ k + m / 10) + m % 10 := by
      rw [e10, Nat.mul_add, Nat.mul_left_comm]
      have := Nat.div_add_mod m 10
      omega
    have q1 : 1 ≤ q * 10 ^ k := Nat.mul_pos hq hp
    rw [numL_step (by rw [e]; omega)]
    have d1 : (q * 10 ^ (k + 1) + m) / 10 = q * 10 ^ k + m / 10 := by omega
    have d2 : (q * 10 ^ (k + 1) + m) % 10 = m % 10 := by omega
    rw [d1, d2, numL_split k q (m / 10) hq hm2, List.append_assoc]
    rfl
theorem pad_fill : ∀ (k m : Nat), m < 10 ^ (k + 1) → pad (k + 1) m = List.replicate (k + 1 - (numL m).length) 48 ++ numL m
  | 0, m, h => by
    have h : m < 10 := by simpa using h
    rw [numL_lt h]
    have e : m % 10 = m := Nat.mod_eq_of_lt h
    simp [pad, e]
  | k + 1, m, h => by
    have h2 : m / 10 < 10 ^ (k + 1) := by
      rw [Nat.pow_succ, Nat.mul_comm] at h
      exact Nat.div_lt_of_lt_mul h
    show pad (k + 1) (m / 10) ++ [48 + m % 10] = _
    rw [pad_fill k (m / 10) h2]
    by_cases c : m < 10
    · have d0 : m / 10 = 0 := Nat.div_eq_of_lt c
      have d1 : m % 10 = m := Nat.mod_eq_of_lt c
      rw [d0, d1, numL_lt c, numL_lt (show 0 < 10 by decide)]
      show List.replicate k 48 ++ [48] ++ [48 + m] = List.replicate (k + 1) 48 ++ [48 + m]
      rw [List.replicate_succ']
    · rw [numL_step (show 10 ≤ m by omega), List.length_append, List.append_assoc]
      congr 2
      show k + 1 - _ = k + 1 + 1 - (_ + 1)
      omega
theorem zfill_pad {m : Nat} (h : m < 10 ^ 64) : Txt.zfill (S (numL m)) 64 = S (pad 64 m) := by
  have hl := numL_len (k := 64) (by decide) h
  have e := pad_fill 63 m h
  unfold Txt.zfill
  rw [S_len]
  by_cases c : (64 : Int) ≤ ((numL m).length : Int)
  · rw [if_pos c, e]
    have : 63 + 1 - (numL m).length = 0 := by omega
    rw [this]
    rfl
  · rw [if_neg c]
    have z : zfilled (S (numL m)) ((64 : Int).toNat - (numL m).length) = PySem.Builtin.Str.padded (S (numL m)) ((64 : Int).toNat - (numL m).length) 0 48 := by
      have hd := numL_digits m
      have hn := numL_ne m
      clear c hl e
      generalize numL m = l at *
      cases l with
      | nil => exact absurd rfl hn
      | cons d r =>
        have h1 := hd.head
        unfold zfilled
        have g : (S (d :: r)).cps[0]? = some d := rfl
        rw [g]
        split
        · rename_i h
          simp at h
          omega
        · rename_i h
          simp at h
          omega
        · rfl
    rw [z, e]
    refine TL.ext_tl ?_
    show (Array.replicate ((64 : Int).toNat - (numL m).length) 48 ++ (S (numL m)).cps ++ Array.replicate 0 48).toList = List.replicate (63 + 1 - (numL m).length) 48 ++ numL m
    simp
end Law


set_option Elab.async false
set_option linter.all false
set_option maxRecDepth 100000
namespace Law
open PySem PySem.Spec PyProof.Rows L2 Mir
open SX (S S_len S_cat S_beq_eq S_inj)
open TL (numL numL_lt numL_step numL_digits numL_ne numL_free numL_val numL_inj numL_len)
/-! ### a whole number's text, 64 figures at a time -/
def wTest : MT := mTest (mOp fGe (mVar 1) (mOp fPow (mC (.int 10)) (mC (.int 64))))
def wBody : MS := (mSeq (mAsg (gmSeq 2 (gmCons (gmName 1) (gmCons (gmName 3) gmNil))) (mCB fDivmod (mCons (mVar 1) (mCons (mOp fPow (mC (.int 10)) (mC (.int 64))) mNil))))
    (mApp 2 (mMt fZfill (mCB fStr (mCons (mVar 3) mNil)) (mCons (mC (.int 64)) mNil))))
theorem cp64 : CPow 10 64 := ⟨by decide, by decide, by decide⟩
theorem p64 : (10 : Int) ^ (64 : Int).toNat = 10000000000000000000000000000000000000000000000000000000000000000 := by decide
theorem n64 : (10 : Nat) ^ 64 = 10000000000000000000000000000000000000000000000000000000000000000 := by decide
theorem dv64 : DivOk 10000000000000000000000000000000000000000000000000000000000000000 := DivOk.of (n := 213) (by decide) (by unfold Sz; decide) (by decide)
def strL (Ls : List (List Nat)) : List Dt := Ls.map fun l => .str (S l)
theorem pad_len : ∀ k m, (pad k m).length = k
  | 0, _ => rfl
  | k + 1, m => by
    show (pad k (m / 10) ++ [48 + m % 10]).length = k + 1
    rw [List.length_append, pad_len k]
    rfl
theorem lg {m : Nat} {k : Nat} (h : m < 10 ^ k) (hk : k ≤ 450) : ((m : Nat) : Int).natAbs.log2 < 1920 := by
  rw [Int.natAbs_natCast]
  have e : 10 ^ k ≤ (2 ^ 4) ^ k := Nat.pow_le_pow_left (by decide) k
  rw [← Nat.pow_mul] at e
  have z : m < 2 ^ (4 * k + 1) := Nat.lt_of_lt_of_le h (Nat.le_trans e (Nat.pow_le_pow_right (by decide) (Nat.le_succ _)))
  have := PySem.Flt.log2_lt_of (Nat.succ_pos _) z
  omega
theorem fstr_ok {i : Int} (h : i.natAbs.log2 < 1920) : fStr [.int i] = some (.str (S (D i))) := by
  show (if i.natAbs.log2 < 1920 then some (Dt.str (Str.ofString (toString i))) else none) = _
  rw [if_pos h]
  exact congrArg (fun x => some (Dt.str x)) (str_D i)
theorem w_step {i : Int} {r : Nat} (Ls : List (List Nat)) (z : Sl) (s : Hd) (h2 : Ls.length ≤ 20) :
    ∃ z', wBody [.dat (.int i), .dat (.int (r : Int)), .own (strL Ls), z] s = .ok (.nx [.dat (.int i), .dat (.int ((r / 10 ^ 64 : Nat) : Int)), .own (strL (Ls ++ [pad 64 (r % 10 ^ 64)])), z']) s := by
  have hp : (0 : Nat) < 10 ^ 64 := Nat.pow_pos (by decide)
  have hm : r % 10 ^ 64 < 10 ^ 64 := Nat.mod_lt _ hp
  have ed : Int.fdiv (r : Int) 10000000000000000000000000000000000000000000000000000000000000000 = ((r / 10 ^ 64 : Nat) : Int) := by
    rw [n64, Int.fdiv_eq_ediv_of_nonneg _ (by decide)]
    rfl
  have em : Int.fmod (r : Int) 10000000000000000000000000000000000000000000000000000000000000000 = ((r % 10 ^ 64 : Nat) : Int) := by
    rw [n64, Int.fmod_eq_emod_of_nonneg _ (by decide)]
    rfl
  have fs := fstr_ok (lg hm (by decide))
  rw [D_nn (Int.natCast_nonneg _), Int.natAbs_natCast] at fs
  have zf := zfill_pad hm
  have ps : PadOk 64 = true := by decide
  have so : Mir.sizeOk (strL Ls).length := by
    unfold strL Mir.sizeOk
    rw [List.length_map]
    omega
  have es : strL (Ls ++ [pad 64 (r % 10 ^ 64)]) = strL Ls ++ [.str (S (pad 64 (r % 10 ^ 64)))] := by simp [strL]
  rw [es]
  generalize strL Ls = P at *
  generalize r / 10 ^ 64 = q at *
  generalize r % 10 ^ 64 = m at *
  refine ⟨.dat (.int (m : Int)), ?_⟩
  have E1 : (mAsg (gmSeq 2 (gmCons (gmName 1) (gmCons (gmName 3) gmNil))) (mCB fDivmod (mCons (mVar 1) (mCons (mOp fPow (mC (.int 10)) (mC (.int 64))) mNil)))) [.dat (.int i), .dat (.int (r : Int)), .own P, z] s = .ok (.nx [.dat (.int i), .dat (.int (q : Int)), .own P, .dat (.int (m : Int))]) s := by
    simp [mAsg, gmSeq, gmCons, gmNil, gmName, mCB, mCons, mNil, mVar, mOp, mC, fPow, fI, cp64, p64, fDivmod, dv64, ed, em]
  have E2 : (mApp 2 (mMt fZfill (mCB fStr (mCons (mVar 3) mNil)) (mCons (mC (.int 64)) mNil))) [.dat (.int i), .dat (.int (q : Int)), .own P, .dat (.int (m : Int))] s = .ok (.nx [.dat (.int i), .dat (.int (q : Int)), .own (P ++ [.str (S (pad 64 m))]), .dat (.int (m : Int))]) s := by
    simp [mApp, mMt, mCB, fs, mCons, mNil, mVar, mC, fZfill, ps, zf, so]
  exact (seq_nx E1).trans E2
theorem w_test {i : Int} {r : Nat} {P z : Sl} (s : Hd) : wTest [.dat (.int i), .dat (.int (r : Int)), P, z] s = .ok (decide (10 ^ 64 ≤ r)) s := by
  have e : decide ((10000000000000000000000000000000000000000000000000000000000000000 : Int) ≤ (r : Int)) = decide (10 ^ 64 ≤ r) := by
    rw [n64]
    exact decide_eq_decide.mpr (by omega)
  simp [wTest, mTest, mOp, mVar, mC, fPow, fI, cp64, p64, fGe]
  omega
theorem w_loop {i : Int} : ∀ (j n r : Nat) (Ls : List (List Nat)) (z : Sl) (s : Hd), r < 10 ^ (64 * (j + 1)) → j < n → Ls.length + j ≤ 10 → (∀ l ∈ Ls, l.length = 64) →
    ∃ (r' : Nat) (Ms : List (List Nat)) (z' : Sl), loopW wTest wBody n [.dat (.int i), .dat (.int (r : Int)), .own (strL Ls), z] s = .ok (.nx [.dat (.int i), .dat (.int (r' : Int)), .own (strL Ms), z']) s ∧ r' < 10 ^ 64 ∧ numL r' ++ Ms.reverse.flatten = numL r ++ Ls.reverse.flatten ∧ Ms.length ≤ 10 ∧ ∀ l ∈ Ms, l.length = 64
  | j, 0, r, Ls, z, s, _, h, _, _ => absurd h (Nat.not_lt_zero _)
  | j, n + 1, r, Ls, z, s, hr, hj, hL, h64 => by
    by_cases c : 10 ^ 64 ≤ r
    · cases j with
      | zero =>
        have : r < 10 ^ 64 := hr
        exact absurd this (Nat.not_lt_of_le c)
      | succ j =>
        obtain ⟨z1, e1⟩ := w_step (i := i) (r := r) Ls z s (by omega)
        have q1 : r / 10 ^ 64 < 10 ^ (64 * (j + 1)) := by
          refine Nat.div_lt_of_lt_mul ?_
          rw [← Nat.pow_add]
          have : 64 + 64 * (j + 1) = 64 * (j + 1 + 1) := by omega
          rw [this]
          exact hr
        obtain ⟨r', Ms, z', e, a1, a2, a3, a4⟩ := w_loop (i := i) j n (r / 10 ^ 64) (Ls ++ [pad 64 (r % 10 ^ 64)]) z1 s q1 (by omega) (by rw [List.length_append]; show Ls.length + 1 + j ≤ 10; omega) (fun l hl => by
          rcases List.mem_append.mp hl with h | h
          · exact h64 l h
          · rw [List.mem_singleton.mp h]
            exact pad_len 64 _)
        refine ⟨r', Ms, z', ?_, a1, ?_, a3, a4⟩
        · unfold loopW
          rw [w_test, decide_eq_true c]
          simp only [R.bind_ok, if_true, e1]
          exact e
        · rw [a2, List.reverse_append, List.reverse_singleton, List.singleton_append, List.flatten_cons, ← List.append_assoc]
          have sp := numL_split 64 (r / 10 ^ 64) (r % 10 ^ 64) (Nat.div_pos c (Nat.pow_pos (by decide))) (Nat.mod_lt _ (Nat.pow_pos (by decide)))
          rw [Nat.mul_comm, Nat.div_add_mod] at sp
          rw [← sp]
    · refine ⟨r, Ls, z, ?_, Nat.lt_of_not_le c, rfl, by omega, h64⟩
      unfold loopW
      rw [w_test, decide_eq_false c]
      rfl
theorem strsD_strL : ∀ Ls : List (List Nat), strsD (strL Ls) = some (Ls.map S)
  | [] => rfl
  | l :: Ls => by
    have := strsD_strL Ls
    unfold strL at *
    simp [strsD, this]
theorem joinL_nil : ∀ Ls : List (List Nat), TL.joinL [] Ls = Ls.flatten
  | [] => rfl
  | [l] => by
    show l = [l].flatten
    simp
  | l :: m :: Ls => by
    show l ++ ([] ++ TL.joinL [] (m :: Ls)) = _
    rw [joinL_nil (m :: Ls)]
    simp
theorem join_flat (Ls : List (List Nat)) : Txt.join (S []) (Ls.map S) = S Ls.flatten := by
  rw [SX.join_S, joinL_nil]
theorem sum_len {k : Nat} : ∀ {Ls : List (List Nat)}, (∀ l ∈ Ls, l.length ≤ k) → (Ls.map List.length).sum ≤ Ls.length * k
  | [], _ => by simp
  | l :: Ls, h => by
    have h1 := h l (List.mem_cons_self ..)
    have h2 := sum_len (Ls := Ls) (fun l hl => h l (List.mem_cons_of_mem _ hl))
    rw [List.map_cons, List.sum_cons, List.length_cons, Nat.succ_mul]
    omega
theorem fjoin_ok {Ls : List (List Nat)} (h : ∀ l ∈ Ls, l.length ≤ 64) (hl : Ls.length ≤ 20) : fJoin (S []) [.lst (strL Ls)] = some (.str (S Ls.flatten)) := by
  have hs := sum_len h
  have e : (Ls.map S).map (·.length) = Ls.map List.length := SX.lens Ls
  have b : ((Ls.map S).map (·.length)).sum + (Ls.map S).length * (S []).length ≤ 16777216 := by
    rw [e, List.length_map, S_len]
    have : Ls.length * 64 ≤ 20 * 64 := Nat.mul_le_mul_right _ hl
    simp
    omega
  show (strsD (strL Ls)).bind _ = _
  rw [strsD_strL]
  show (if _ then _ else _) = _
  rw [if_pos b, join_flat]
end Law


set_option Elab.async false
set_option linter.all false
set_option maxRecDepth 100000
namespace Law
open PySem PySem.Spec PyProof.Rows L2 Mir
open SX (S S_len S_cat S_beq_eq S_inj)
open TL (numL numL_lt numL_step numL_digits numL_ne numL_free numL_val numL_inj numL_len)
def tailW : MS := (mSeq (mApp 2 (mCB fStr (mCons (mVar 1) mNil)))
    (mSeq (mIfS (mTest (mOp fLt (mVar 0) (mC (.int 0)))) (mApp 2 (mC (.str "-"))) mNext)
    (mRet (mBor 2 (mMt fJoin (mC (.str "")) (mCons (mRev (mVar 2)) mNil))))))
theorem whole_body : b_whole_text = mSeq (mSet 1 (mCB fAbs (mCons (mVar 0) mNil))) (mSeq (mSetO 2 (mLstO mNil)) (mSeq (mWhile wTest wBody) tailW)) := rfl
theorem str_minus : ("-" : Str) = S [45] := by decide
theorem str_slash : ("/" : Str) = S [47] := by decide
theorem str_empty : ("" : Str) = S [] := by decide
/-- how great the numbers are -/
def Sm (i : Int) : Prop := i.natAbs < 10 ^ 300
theorem tail_ok {i : Int} {r : Nat} {Ms : List (List Nat)} {z : Sl} (hr : r < 10 ^ 64) (h : numL r ++ Ms.reverse.flatten = numL i.natAbs) (hl : Ms.length ≤ 10) (h64 : ∀ l ∈ Ms, l.length = 64) (s : Hd) :
    tailW [.dat (.int i), .dat (.int (r : Int)), .own (strL Ms), z] s = .ok (.rt (.str (S (D i)))) s := by
  have fs := fstr_ok (lg hr (by decide))
  rw [D_nn (Int.natCast_nonneg _), Int.natAbs_natCast] at fs
  have so : ∀ Ls : List (List Nat), Ls.length ≤ 20 → Mir.sizeOk (strL Ls).length := fun Ls h => by
    unfold strL Mir.sizeOk
    rw [List.length_map]
    omega
  have ap : ∀ Ls l, strL Ls ++ [.str (S l)] = strL (Ls ++ [l]) := fun Ls l => by simp [strL]
  have rv : ∀ Ls, (strL Ls).reverse = strL Ls.reverse := fun Ls => by simp [strL]
  have nl : (numL r).length ≤ 64 := numL_len (by decide) hr
  have E1 : (mApp 2 (mCB fStr (mCons (mVar 1) mNil))) [.dat (.int i), .dat (.int (r : Int)), .own (strL Ms), z] s = .ok (.nx [.dat (.int i), .dat (.int (r : Int)), .own (strL (Ms ++ [numL r])), z]) s := by
    have so := so Ms (by omega)
    simp [mApp, mCB, mCons, mNil, mVar, fs, so, ap]
  have fin : ∀ Ls : List (List Nat), Ls.length ≤ 20 → (∀ l ∈ Ls, l.length ≤ 64) → (mRet (mBor 2 (mMt fJoin (mC (.str "")) (mCons (mRev (mVar 2)) mNil)))) [.dat (.int i), .dat (.int (r : Int)), .own (strL Ls), z] s = .ok (.rt (.str (S Ls.reverse.flatten))) s := fun Ls h1 h2 => by
    have j := fjoin_ok (Ls := Ls.reverse) (fun l hl => h2 l (List.mem_reverse.mp hl)) (by rw [List.length_reverse]; exact h1)
    rw [← rv] at j
    simp [mRet, mBor, mMt, mC, mCons, mNil, mRev, mVar, str_empty, j, lfree]
  by_cases c : i < 0
  · have E2 : (mIfS (mTest (mOp fLt (mVar 0) (mC (.int 0)))) (mApp 2 (mC (.str "-"))) mNext) [.dat (.int i), .dat (.int (r : Int)), .own (strL (Ms ++ [numL r])), z] s = .ok (.nx [.dat (.int i), .dat (.int (r : Int)), .own (strL (Ms ++ [numL r] ++ [[45]])), z]) s := by
      have so := so (Ms ++ [numL r]) (by rw [List.length_append]; show Ms.length + 1 ≤ 20; omega)
      simp only [mIfS, mTest, mOp, mVar, mC, fLt, fI, fTru, List.getElem?_cons_zero, List.getElem?_cons_succ, R.bind_ok, liftO_some, if_true, c, decide_true, mApp, str_minus, so, ap, List.set_cons_zero, List.set_cons_succ]
    have F := fin (Ms ++ [numL r] ++ [[45]]) (by rw [List.length_append, List.length_append]; show Ms.length + 1 + 1 ≤ 20; omega) (fun l hl => by
      rcases List.mem_append.mp hl with hl | hl
      · rcases List.mem_append.mp hl with hl | hl
        · exact Nat.le_of_eq (h64 l hl)
        · rw [List.mem_singleton.mp hl]
          exact nl
      · rw [List.mem_singleton.mp hl]
        decide)
    have e : (Ms ++ [numL r] ++ [[45]]).reverse.flatten = D i := by
      rw [D_neg c, ← h]
      simp
    rw [e] at F
    exact (seq_nx E1).trans ((seq_nx E2).trans F)
  · have E2 : (mIfS (mTest (mOp fLt (mVar 0) (mC (.int 0)))) (mApp 2 (mC (.str "-"))) mNext) [.dat (.int i), .dat (.int (r : Int)), .own (strL (Ms ++ [numL r])), z] s = .ok (.nx [.dat (.int i), .dat (.int (r : Int)), .own (strL (Ms ++ [numL r])), z]) s := by
      simp only [mIfS, mTest, mOp, mVar, mC, fLt, fI, fTru, List.getElem?_cons_zero, R.bind_ok, liftO_some, if_true, c, decide_false, mNext, if_false, Bool.false_eq_true]
    have F := fin (Ms ++ [numL r]) (by rw [List.length_append]; show Ms.length + 1 ≤ 20; omega) (fun l hl => by
      rcases List.mem_append.mp hl with hl | hl
      · exact Nat.le_of_eq (h64 l hl)
      · rw [List.mem_singleton.mp hl]
        exact nl)
    have e : (Ms ++ [numL r]).reverse.flatten = D i := by
      rw [D_nn (by omega), ← h]
      simp
    rw [e] at F
    exact (seq_nx E1).trans ((seq_nx E2).trans F)
theorem whole_ok {i : Int} (h : i.natAbs < 10 ^ 320) (s : Hd) : m_whole_text [.int i] s = .ok (.str (S (D i))) s := by
  have ab : (if i < 0 then -i else i) = ((i.natAbs : Nat) : Int) := by split <;> omega
  have E1 : mSet 1 (mCB fAbs (mCons (mVar 0) mNil)) (startE 4 [.int i]) s = .ok (.nx [.dat (.int i), .dat (.int (i.natAbs : Nat)), .no, .no]) s := by
    simp [startE, mSet, mCB, mCons, mNil, mVar, fAbs, ab]
  have E2 : (mSetO 2 (mLstO mNil)) [.dat (.int i), .dat (.int (i.natAbs : Nat)), .no, .no] s = .ok (.nx [.dat (.int i), .dat (.int (i.natAbs : Nat)), .own (strL []), .no]) s := rfl
  have key : ∃ j, i.natAbs < 10 ^ (64 * (j + 1)) ∧ j < fuelE [.dat (.int i), .dat (.int (i.natAbs : Nat)), .own (strL []), .no] ∧ j ≤ 10 := by
    by_cases c : i.natAbs < 10 ^ 64
    · exact ⟨0, c, by simp [fuelE], by decide⟩
    · refine ⟨4, h, ?_, by decide⟩
      have e : fuelE [.dat (.int i), .dat (.int (i.natAbs : Nat)), .own (strL []), .no] = i.natAbs + (i.natAbs + 0) + 2 := by simp [fuelE, absS]
      rw [e]
      have : 10 ^ 1 ≤ 10 ^ 64 := Nat.pow_le_pow_right (by decide) (by decide)
      omega
  obtain ⟨j, k1, k2, k3⟩ := key
  obtain ⟨r', Ms, z', e, a1, a2, a3, a4⟩ := w_loop (i := i) j _ i.natAbs [] .no s k1 k2 (by simpa using k3) (fun l hl => nomatch hl)
  have T := tail_ok (z := z') a1 (by simpa using a2) a3 a4 s
  have E3 : mWhile wTest wBody [.dat (.int i), .dat (.int (i.natAbs : Nat)), .own (strL []), .no] s = .ok (.nx [.dat (.int i), .dat (.int (r' : Int)), .own (strL Ms), z']) s := e
  unfold m_whole_text
  rw [whole_body]
  exact def_rt ((seq_nx E1).trans ((seq_nx E2).trans ((seq_nx E3).trans T)))
end Law


set_option Elab.async false
set_option linter.all false
set_option maxRecDepth 100000
set_option exponentiation.threshold 2000
namespace Law
open PySem PySem.Spec PyProof.Rows L2 Mir
open SX (S S_len S_cat S_beq_eq S_inj)
open TL (numL numL_lt numL_step numL_digits numL_ne numL_free numL_val numL_inj numL_len)
def T (a b : Int) : List Nat := if b = 1 then D a else D a ++ 47 :: D b
theorem D_len {i : Int} {k : Nat} (hk : 0 < k) (h : i.natAbs < 10 ^ k) : (D i).length ≤ k + 1 := by
  have := numL_len hk h
  unfold D
  split
  · rw [List.length_cons]
    omega
  · omega
theorem ratio_text_ok {a b : Int} (ha : a.natAbs < 10 ^ 320) (hb : b.natAbs < 10 ^ 320) (s : Hd) : m_ratio_text [rat a b] s = .ok (.str (S (T a b))) s := by
  have w1 := whole_ok ha s
  have w2 := whole_ok hb s
  have l1 := D_len (by decide) ha
  have l2 := D_len (by decide) hb
  unfold T
  by_cases c : b = 1
  · have e : fEqB (.int b) (.int 1) = some true := by rw [eq_int, c]; rfl
    rw [if_pos c]
    generalize S (D a) = A at *
    simp [m_ratio_text, mDef, b_ratio_text, startE, mSeq, mAsg, gmSeq, gmCons, gmNil, gmName, mVar, mIfS, mTest, mOp, mC, fEq, e, mRet, mCall, mCons, mNil, w1]
  · have e : fEqB (.int b) (.int 1) = some false := by rw [eq_int]; simp [c]
    rw [if_neg c]
    have f1 : fAdd (.str (S (D a))) (.str (S [47])) = some (.str (S (D a ++ [47]))) := by
      show (if _ then _ else _) = _
      rw [if_pos (by unfold Mir.sizeOk; rw [S_len, S_len]; show (D a).length + 1 ≤ _; omega), S_cat]
    have f2 : fAdd (.str (S (D a ++ [47]))) (.str (S (D b))) = some (.str (S (D a ++ 47 :: D b))) := by
      show (if _ then _ else _) = _
      rw [if_pos (by unfold Mir.sizeOk; rw [S_len, S_len, List.length_append]; show (D a).length + 1 + _ ≤ _; omega), S_cat, List.append_assoc]
      rfl
    generalize S (D a) = A at *
    generalize S (D b) = B at *
    generalize S (D a ++ [47]) = C at *
    simp [m_ratio_text, mDef, b_ratio_text, startE, mSeq, mAsg, gmSeq, gmCons, gmNil, gmName, mVar, mIfS, mTest, mOp, mC, fEq, e, mNext, mRet, mCall, mCons, mNil, w1, w2, str_slash, f1, f2]
theorem law_text_ok {a b : Int} (ha : a.natAbs < 10 ^ 320) (hb : b.natAbs < 10 ^ 320) (s : Hd) : m__law_text [rat a b] s = .ok (.str (S (T a b))) s := by
  have lga : ∀ {i : Int}, i.natAbs < 10 ^ 320 → i.natAbs.log2 < 1920 := fun {i} h => by
    have := lg h (by decide)
    rwa [Int.natAbs_natCast] at this
  have w1 := fstr_ok (lga ha)
  have w2 := fstr_ok (lga hb)
  have l1 := D_len (by decide) ha
  have l2 := D_len (by decide) hb
  unfold T
  by_cases c : b = 1
  · have e : fEqB (.int b) (.int 1) = some true := by rw [eq_int, c]; rfl
    rw [if_pos c]
    generalize S (D a) = A at *
    simp [m__law_text, mDef, b__law_text, startE, mVar, mIf, mTest, mOp, mC, fIx, at0, at1, fEq, e, mRet, mCB, mCons, mNil, w1]
  · have e : fEqB (.int b) (.int 1) = some false := by rw [eq_int]; simp [c]
    rw [if_neg c]
    have f1 : fAdd (.str (S (D a))) (.str (S [47])) = some (.str (S (D a ++ [47]))) := by
      show (if _ then _ else _) = _
      rw [if_pos (by unfold Mir.sizeOk; rw [S_len, S_len]; show (D a).length + 1 ≤ _; omega), S_cat]
    have f2 : fAdd (.str (S (D a ++ [47]))) (.str (S (D b))) = some (.str (S (D a ++ 47 :: D b))) := by
      show (if _ then _ else _) = _
      rw [if_pos (by unfold Mir.sizeOk; rw [S_len, S_len, List.length_append]; show (D a).length + 1 + _ ≤ _; omega), S_cat, List.append_assoc]
      rfl
    generalize S (D a) = A at *
    generalize S (D b) = B at *
    generalize S (D a ++ [47]) = C at *
    simp [m__law_text, mDef, b__law_text, startE, mVar, mIf, mTest, mOp, mC, fIx, at0, at1, fEq, e, mRet, mCB, mCons, mNil, w1, w2, str_slash, f1, f2]
/-! ### reading -/
def isD (c : Nat) : Bool := decide (48 ≤ c) && decide (c ≤ 57)
def dig (l : List Nat) : Bool := !l.isEmpty && (l.all isD && decide (l.length ≤ 300))
theorem isD_uni : ∀ c, c < 128 → Unicode.isDigit c = isD c := by decide +kernel
theorem all_congr {f g : Nat → Bool} : ∀ {l : List Nat}, (∀ c ∈ l, f c = g c) → l.all f = l.all g
  | [], _ => rfl
  | c :: l, h => by
    rw [List.all_cons, List.all_cons, h c (List.mem_cons_self ..), all_congr (fun d hd => h d (List.mem_cons_of_mem _ hd))]
theorem isdigit_S {l : List Nat} (h : l.all (fun c => decide (c < 128)) = true) : Txt.isdigit (S l) = (!l.isEmpty && l.all isD) := by
  have e : ∀ c ∈ l, Unicode.isDigit c = isD c := fun c hc => isD_uni c (of_decide_eq_true (List.all_eq_true.mp h c hc))
  have a : (S l).cps.all Unicode.isDigit = l.all isD := by
    rw [← Array.all_toList]
    show l.all Unicode.isDigit = l.all isD
    exact all_congr e
  unfold Txt.isdigit
  rw [a, S_len]
  congr 1
  cases l <;> rfl
theorem are_digits_ok {l : List Nat} (hl : l.length ≤ 100000) (s : Hd) : m_are_digits [.str (S l)] s = .ok (.bl (dig l)) s := by
  have f1 : fIsAscii (S l) [] = some (.bl (Txt.isascii (S l))) := rfl
  have f2 : fIsDigit (S l) [] = some (.bl (Txt.isdigit (S l))) := rfl
  have f3 : fLen [.str (S l)] = some (.int (l.length : Nat)) := by
    show (if _ then _ else _) = _
    rw [if_pos (by unfold Mir.sizeOk; rw [S_len]; exact hl), S_len]
  have as : Txt.isascii (S l) = l.all (fun c => decide (c < 128)) := by
    unfold Txt.isascii
    rw [← Array.all_toList]
  rw [as] at f1
  by_cases c : l.all (fun c => decide (c < 128)) = true
  · rw [isdigit_S c] at f2
    rw [c] at f1
    have e4 : fLe (.int (l.length : Nat)) (.int 300) = some (.bl (decide (l.length ≤ 300))) := by
      show some _ = some _
      exact congrArg (fun x => some (Dt.bl x)) (decide_eq_decide.mpr (by omega))
    unfold dig
    generalize S l = A at *
    generalize decide (l.length ≤ 300) = d3 at *
    generalize l.all isD = d2 at *
    generalize (!l.isEmpty) = d1 at *
    cases d1 <;> cases d2 <;> simp [m_are_digits, mDef, b_are_digits, startE, mRet, mAndV, mMt, mVar, mNil, f1, f2, f3, fTru, mOp, mCB, mCons, mC, e4]
  · have n : dig l = false := by
      unfold dig
      have : l.all isD = false := by
        rw [Bool.eq_false_iff]
        intro h
        apply c
        rw [List.all_eq_true] at h ⊢
        intro x hx
        have := h x hx
        unfold isD at this
        simp at this ⊢
        omega
      rw [this]
      simp
    rw [n]
    rw [Bool.eq_false_iff.mpr c] at f1
    generalize S l = A at *
    simp [m_are_digits, mDef, b_are_digits, startE, mRet, mAndV, mMt, mVar, mNil, f1, fTru]
end Law


set_option Elab.async false
set_option linter.all false
set_option maxRecDepth 100000
set_option exponentiation.threshold 2000
namespace Law
open PySem PySem.Spec PyProof.Rows L2 Mir
open SX (S S_len S_cat S_beq_eq S_inj)
open TL (numL numL_lt numL_step numL_digits numL_ne numL_free numL_val numL_inj numL_len)
open PySem.NumText (AllDigits digitsVal)
def rm : List Nat → List Nat
  | 45 :: r => r
  | l => l
theorem rm_ok (l : List Nat) : Txt.removeprefix (S l) (S [45]) = S (rm l) := by
  rw [StrLaws.removeprefix_eq]
  have len1 : (S [45]).length = 1 := rfl
  have sub : Builtin.Str.subAt (S l) (S [45]) 0 = (l.take 1 == [45]) := by
    unfold Builtin.Str.subAt
    rw [len1]
    have e : (S l).cps.extract 0 (0 + 1) = (l.take 1).toArray := by simp
    rw [e]
    simp
  rw [sub, len1, S_len]
  cases l with
  | nil => rfl
  | cons c r =>
    by_cases e : c = 45
    · subst e
      have b : (decide (0 + 1 ≤ (45 :: r).length) && List.take 1 (45 :: r) == [45]) = true := by simp
      rw [if_pos b]
      refine TL.ext_tl ?_
      show ((45 :: r).drop 1).take ((45 :: r).length - 1) = r
      simp
    · have b : ¬ (decide (0 + 1 ≤ (c :: r).length) && List.take 1 (c :: r) == [45]) = true := by simp [e]
      rw [if_neg b]
      have : rm (c :: r) = c :: r := by
        unfold rm
        split
        · rename_i h
          injection h with h1 h2
          exact absurd h1 e
        · rfl
      rw [this]
def ival : List Nat → Int
  | 45 :: r => -((digitsVal r : Nat) : Int)
  | l => ((digitsVal l : Nat) : Int)
theorem dig_all {l : List Nat} (h : dig l = true) : AllDigits l ∧ l ≠ [] ∧ l.length ≤ 300 := by
  unfold dig at h
  rw [Bool.and_eq_true, Bool.and_eq_true] at h
  obtain ⟨h1, h2, h3⟩ := h
  refine ⟨fun c hc => ?_, ?_, of_decide_eq_true h3⟩
  · have := List.all_eq_true.mp h2 c hc
    unfold isD at this
    rw [Bool.and_eq_true, decide_eq_true_eq, decide_eq_true_eq] at this
    exact this
  · intro e
    subst e
    cases h1
theorem all_dig {l : List Nat} (h : AllDigits l) (h1 : l ≠ []) (h2 : l.length ≤ 300) : dig l = true := by
  unfold dig
  rw [Bool.and_eq_true, Bool.and_eq_true]
  refine ⟨?_, ?_, decide_eq_true h2⟩
  · cases l with
    | nil => exact absurd rfl h1
    | cons c r => rfl
  · rw [List.all_eq_true]
    intro c hc
    have := h c hc
    unfold isD
    rw [Bool.and_eq_true, decide_eq_true_eq, decide_eq_true_eq]
    exact this
theorem val_lt : ∀ (n : Nat) (l : List Nat), l.length = n → AllDigits l → digitsVal l < 10 ^ n
  | 0, l, e, _ => by
    have : l = [] := List.length_eq_zero_iff.mp e
    subst this
    exact Nat.one_pos
  | n + 1, l, e, h => by
    have hne : l ≠ [] := fun z => by
      rw [z] at e
      cases e
    have sp := List.dropLast_concat_getLast hne
    have hd : AllDigits l.dropLast := fun c hc => h c (List.dropLast_subset _ hc)
    have hl : l.dropLast.length = n := by
      rw [List.length_dropLast, e]
      rfl
    have ih := val_lt n l.dropLast hl hd
    have hc := h _ (List.getLast_mem hne)
    rw [← sp, PySem.NumText.digitsVal_snoc, Nat.pow_succ]
    omega
theorem fint_dig {l : List Nat} (h : dig l = true) : fIntT [.str (S l)] = some (.int ((digitsVal l : Nat) : Int)) := by
  obtain ⟨a, b, c⟩ := dig_all h
  have e : intText? (S l) = some ((digitsVal l : Nat) : Int) := PySem.intText_digits (x := S l) a b (by rw [S_len]; omega)
  show (if (S l).length ≤ 640 then _ else _) = _
  rw [if_pos (by rw [S_len]; omega), e]
  rfl
theorem fint_top {l : List Nat} (h : dig (rm l) = true) : fIntT [.str (S l)] = some (.int (ival l)) ∧ (ival l).natAbs < 10 ^ 300 := by
  have lt : ∀ {m : List Nat}, dig m = true → digitsVal m < 10 ^ 300 := fun {m} h => by
    obtain ⟨a, b, c⟩ := dig_all h
    exact Nat.lt_of_lt_of_le (val_lt _ m rfl a) (Nat.pow_le_pow_right (by decide) c)
  unfold rm at h
  split at h
  · rename_i r
    obtain ⟨a, b, c⟩ := dig_all h
    have e : intText? (S (45 :: r)) = some (-((digitsVal r : Nat) : Int)) := PySem.intText_neg (x := S (45 :: r)) rfl a b (by rw [S_len, List.length_cons]; omega)
    refine ⟨?_, ?_⟩
    · show (if (S (45 :: r)).length ≤ 640 then _ else _) = _
      rw [if_pos (by rw [S_len, List.length_cons]; omega), e]
      rfl
    · show (-((digitsVal r : Nat) : Int)).natAbs < _
      rw [Int.natAbs_neg, Int.natAbs_natCast]
      exact lt h
  · rename_i hn
    have e : ival l = ((digitsVal l : Nat) : Int) := by
      unfold ival
      split
      · rename_i r
        exact absurd rfl (hn r)
      · rfl
    rw [e]
    refine ⟨fint_dig h, ?_⟩
    rw [Int.natAbs_natCast]
    exact lt h
theorem dig_lt {m : List Nat} (h : dig m = true) : ((digitsVal m : Nat) : Int).natAbs < 10 ^ 300 := by
  obtain ⟨a, b, c⟩ := dig_all h
  rw [Int.natAbs_natCast]
  exact Nat.lt_of_lt_of_le (val_lt _ m rfl a) (Nat.pow_le_pow_right (by decide) c)
/-- signs that there are -/
def okc (x : List Nat) : Prop := ∀ c ∈ x, c < 0x110000
theorem shape_S {x : List Nat} (h : okc x) : SeqAt.shaped (.str (S x)) = true := by
  have ok : PyData.strOk (S x) = true := by
    unfold PyData.strOk
    rw [Array.all_eq_true']
    intro c hc
    exact decide_eq_true (h c (by simpa using hc))
  unfold SeqAt.shaped
  simp only [PyData.canLay0, PyData.depth, ok, Bool.true_and]
  exact decide_eq_true (Nat.zero_le 64)
theorem ne_S {x y : List Nat} (hx : okc x) (hy : okc y) : fNe (.str (S x)) (.str (S y)) = some (.bl (!decide (x = y))) := by
  have e : fEqB (.str (S x)) (.str (S y)) = some (decide (x = y)) := by
    rw [← S_beq_eq]
    simp [fEqB, py_str _ (shape_S hx), py_str _ (shape_S hy), PyData.eqv]
  simp [fNe, e]
theorem okc_num (n : Nat) : okc (numL n) := fun c hc => by
  have := numL_digits n c hc
  omega
theorem okc_cons {c : Nat} {l : List Nat} (h : c < 0x110000) (hl : okc l) : okc (c :: l) := fun d hd => by
  rcases List.mem_cons.mp hd with rfl | hd
  · exact h
  · exact hl d hd
theorem okc_app {l m : List Nat} (h : okc l) (hm : okc m) : okc (l ++ m) := fun d hd => by
  rcases List.mem_append.mp hd with hd | hd
  · exact h d hd
  · exact hm d hd
theorem okc_D (i : Int) : okc (D i) := by
  unfold D
  split
  · exact okc_cons (by decide) (okc_num _)
  · exact okc_num _
theorem okc_T (a b : Int) : okc (T a b) := by
  unfold T
  split
  · exact okc_D a
  · exact okc_app (okc_D a) (okc_cons (by decide) (okc_D b))
end Law


set_option Elab.async false
set_option linter.all false
set_option maxRecDepth 100000
set_option exponentiation.threshold 2000
namespace Law
open PySem PySem.Spec PyProof.Rows L2 Mir
open SX (S S_len S_cat S_beq_eq S_inj)
open TL (numL numL_lt numL_step numL_digits numL_ne numL_free numL_val numL_inj numL_len)
open PySem.NumText (AllDigits digitsVal)
def roErr : MS := mRaise "BadRatio" ["what"] (mCons (mC (.str "text")) mNil)
def roTail : MS := (mSeq (mIfS (mOr (mNot (mTru (mCall 1 [] m_are_digits (mCons (mMt fRemovePre (mVar 1) (mCons (mC (.str "-")) mNil)) mNil)))) (mNot (mTru (mCall 1 [] m_are_digits (mCons (mVar 3) mNil))))) roErr mNext)
    (mSeq (mSet 4 (mTup (mCons (mCB fIntT (mCons (mVar 1) mNil)) (mCons (mCB fIntT (mCons (mVar 3) mNil)) mNil))))
    (mSeq (mIfS (mOr (mNot (mTru (mCall 1 [] m_is_ratio (mCons (mVar 4) mNil)))) (mTest (mOp fNe (mCall 1 [] m_ratio_text (mCons (mVar 4) mNil)) (mVar 0)))) roErr mNext)
    (mRet (mVar 4)))))
def roHead : MS := mAsg (gmSeq 3 (gmCons (gmName 1) (gmCons (gmName 2) (gmCons (gmName 3) gmNil)))) (mMt fPartition (mVar 0) (mCons (mC (.str "/")) mNil))
def roOne : MS := mIfS (mTest (mOp fEq (mVar 2) (mC (.str "")))) (mSet 3 (mC (.str "1"))) mNext
theorem ro_body : b_ratio_of = mSeq (mIfS (mNot (mTru (mIsi "str" (mVar 0)))) roErr mNext) (mSeq roHead (mSeq roOne roTail)) := rfl
def bad : List (Str × Dt) := [("what", .str "text")]
theorem ro_err (ρ : Env') (s : Hd) : roErr ρ s = .err "BadRatio" bad ρ s := rfl
def good (a b : Int) : Bool := decide (1 ≤ b) && decide (Nat.gcd a.natAbs b.natAbs = 1)
section
variable {x p q : List Nat} {sl : Sl}
theorem rt_err1 (hp : p.length ≤ 100000) (hq : q.length ≤ 100000) (h : ¬ (dig (rm p) = true ∧ dig q = true)) (s : Hd) : roTail [.dat (.str (S x)), .dat (.str (S p)), sl, .dat (.str (S q)), .no] s = .err "BadRatio" bad [.dat (.str (S x)), .dat (.str (S p)), sl, .dat (.str (S q)), .no] s := by
  have hr : (rm p).length ≤ 100000 := by
    unfold rm
    split
    · rw [List.length_cons] at hp
      omega
    · exact hp
  have a1 := are_digits_ok hr s
  have a2 := are_digits_ok hq s
  have f1 : fRemovePre (S p) [.str (S [45])] = some (.str (S (rm p))) := by
    show (if _ then _ else _) = _
    rw [if_pos (by unfold Mir.sizeOk; rw [S_len]; exact hp), rm_ok]
  have R : (mIfS (mOr (mNot (mTru (mCall 1 [] m_are_digits (mCons (mMt fRemovePre (mVar 1) (mCons (mC (.str "-")) mNil)) mNil)))) (mNot (mTru (mCall 1 [] m_are_digits (mCons (mVar 3) mNil))))) roErr mNext) [.dat (.str (S x)), .dat (.str (S p)), sl, .dat (.str (S q)), .no] s = .err "BadRatio" bad [.dat (.str (S x)), .dat (.str (S p)), sl, .dat (.str (S q)), .no] s := by
    have re := fun ρ => ro_err ρ s
    generalize S x = X at *
    generalize S p = P at *
    generalize S q = Q at *
    generalize S (rm p) = P2 at *
    generalize dig (rm p) = d1 at *
    generalize dig q = d2 at *
    cases d1
    · simp [mIfS, mOr, mNot, mTru, mCall, mCons, mNil, mMt, mVar, mC, str_minus, f1, a1, fTru, re]
    · cases d2
      · simp [mIfS, mOr, mNot, mTru, mCall, mCons, mNil, mMt, mVar, mC, str_minus, f1, a1, a2, fTru, re]
      · exact absurd ⟨rfl, rfl⟩ h
  unfold roTail mSeq
  rw [R]
theorem rt_run (hp : dig (rm p) = true) (hq : dig q = true) (hx : okc x) (s : Hd) : roTail [.dat (.str (S x)), .dat (.str (S p)), sl, .dat (.str (S q)), .no] s =
    if good (ival p) (digitsVal q : Nat) = true ∧ T (ival p) (digitsVal q : Nat) = x then .ok (.rt (rat (ival p) (digitsVal q : Nat))) s else .err "BadRatio" bad [.dat (.str (S x)), .dat (.str (S p)), sl, .dat (.str (S q)), .dat (rat (ival p) (digitsVal q : Nat))] s := by
  obtain ⟨i1, z1⟩ := fint_top hp
  have i2 := fint_dig hq
  have z2 := dig_lt hq
  have hpl : (rm p).length ≤ 300 := (dig_all hp).2.2
  have hql : q.length ≤ 300 := (dig_all hq).2.2
  have hpl2 : p.length ≤ 301 := by
    unfold rm at hpl
    split at hpl
    · rw [List.length_cons]
      omega
    · omega
  have a1 := are_digits_ok (l := rm p) (by omega) s
  have a2 := are_digits_ok (l := q) (by omega) s
  rw [hp] at a1
  rw [hq] at a2
  have f1 : fRemovePre (S p) [.str (S [45])] = some (.str (S (rm p))) := by
    show (if _ then _ else _) = _
    rw [if_pos (by unfold Mir.sizeOk; rw [S_len]; omega), rm_ok]
  have is := isr_tup (ival p) ((digitsVal q : Nat) : Int) s
  have big : ∀ {i : Int}, i.natAbs < 10 ^ 300 → i.natAbs < 10 ^ 320 := fun h => Nat.lt_of_lt_of_le h (Nat.pow_le_pow_right (by decide) (by decide))
  have tx := ratio_text_ok (big z1) (big z2) s
  have nx := ne_S (okc_T (ival p) (digitsVal q : Nat)) hx
  have re := fun ρ => ro_err ρ s
  have is : m_is_ratio [rat (ival p) (digitsVal q : Nat)] s = .ok (.bl (good (ival p) (digitsVal q : Nat))) s := is
  have a2' := a2
  clear a2 hp hq z1 z2 hpl hql hpl2 big
  generalize good (ival p) (digitsVal q : Nat) = g at *
  generalize ival p = t at *
  generalize ((digitsVal q : Nat) : Int) = b at *
  have E1 : (mIfS (mOr (mNot (mTru (mCall 1 [] m_are_digits (mCons (mMt fRemovePre (mVar 1) (mCons (mC (.str "-")) mNil)) mNil)))) (mNot (mTru (mCall 1 [] m_are_digits (mCons (mVar 3) mNil))))) roErr mNext) [.dat (.str (S x)), .dat (.str (S p)), sl, .dat (.str (S q)), .no] s = .ok (.nx [.dat (.str (S x)), .dat (.str (S p)), sl, .dat (.str (S q)), .no]) s := by
    generalize S x = X at *
    generalize S p = P at *
    generalize S q = Q at *
    generalize S (rm p) = P2 at *
    simp [mIfS, mOr, mNot, mTru, mCall, mCons, mNil, mMt, mVar, mC, str_minus, f1, a1, a2', fTru, mNext]
  have E2 : (mSet 4 (mTup (mCons (mCB fIntT (mCons (mVar 1) mNil)) (mCons (mCB fIntT (mCons (mVar 3) mNil)) mNil)))) [.dat (.str (S x)), .dat (.str (S p)), sl, .dat (.str (S q)), .no] s = .ok (.nx [.dat (.str (S x)), .dat (.str (S p)), sl, .dat (.str (S q)), .dat (rat t b)]) s := by
    generalize S x = X at *
    generalize S p = P at *
    generalize S q = Q at *
    simp [mSet, mTup, mCB, mCons, mNil, mVar, i1, i2]
  have E3 : ∀ (gg dd : Bool), g = gg → decide (T t b = x) = dd → (mIfS (mOr (mNot (mTru (mCall 1 [] m_is_ratio (mCons (mVar 4) mNil)))) (mTest (mOp fNe (mCall 1 [] m_ratio_text (mCons (mVar 4) mNil)) (mVar 0)))) roErr mNext) [.dat (.str (S x)), .dat (.str (S p)), sl, .dat (.str (S q)), .dat (rat t b)] s = if gg = true ∧ dd = true then .ok (.nx [.dat (.str (S x)), .dat (.str (S p)), sl, .dat (.str (S q)), .dat (rat t b)]) s else .err "BadRatio" bad [.dat (.str (S x)), .dat (.str (S p)), sl, .dat (.str (S q)), .dat (rat t b)] s := by
    intro gg dd hg hd
    rw [hd] at nx
    rw [hg] at is
    clear hd
    generalize S x = X at *
    generalize S p = P at *
    generalize S q = Q at *
    generalize S (T t b) = TT at *
    cases gg
    · simp [mIfS, mOr, mNot, mTru, mCall, mCons, mNil, mVar, is, fTru, re]
    · cases dd <;> simp [mIfS, mOr, mNot, mTru, mCall, mCons, mNil, mVar, is, fTru, mTest, mOp, tx, nx, re, mNext]
  have F := E3 g (decide (T t b = x)) rfl rfl
  unfold roTail
  rw [seq_nx E1, seq_nx E2]
  by_cases c : g = true ∧ T t b = x
  · rw [if_pos c]
    rw [if_pos ⟨c.1, decide_eq_true c.2⟩] at F
    rw [seq_nx F]
    rfl
  · rw [if_neg c]
    rw [if_neg (fun z => c ⟨z.1, of_decide_eq_true z.2⟩)] at F
    unfold mSeq
    rw [F]
end
end Law


set_option Elab.async false
set_option linter.all false
set_option maxRecDepth 100000
set_option exponentiation.threshold 2000
namespace Law
open PySem PySem.Spec PyProof.Rows L2 Mir
open SX (S S_len S_cat S_beq_eq S_inj)
open TL (numL numL_lt numL_step numL_digits numL_ne numL_free numL_val numL_inj numL_len)
open PySem.NumText (AllDigits digitsVal)
theorem str_1 : ("1" : Str) = S [49] := by decide
theorem ro_isstr (x : Str) (s : Hd) : (mIfS (mNot (mTru (mIsi "str" (mVar 0)))) roErr mNext) (startE 5 [.str x]) s = .ok (.nx (startE 5 [.str x])) s := by
  simp [mIfS, mNot, mTru, mIsi, mVar, startE, fTru, mNext]
theorem eq_S {x y : List Nat} (hx : okc x) (hy : okc y) : fEqB (.str (S x)) (.str (S y)) = some (decide (x = y)) := by
  rw [← S_beq_eq]
  simp [fEqB, py_str _ (shape_S hx), py_str _ (shape_S hy), PyData.eqv]
theorem okc_nil : okc [] := fun c h => nomatch h
theorem okc_one : okc [47] := okc_cons (by decide) okc_nil
theorem ro_some {p q : List Nat} (hp : 47 ∉ p) (hl : (p ++ 47 :: q).length ≤ 100000) (s : Hd) : b_ratio_of (startE 5 [.str (S (p ++ 47 :: q))]) s = roTail [.dat (.str (S (p ++ 47 :: q))), .dat (.str (S p)), .dat (.str (S [47])), .dat (.str (S q)), .no] s := by
  have e : Txt.partition (S (p ++ 47 :: q)) (S [47]) = (S p, S [47], S q) := SX.partition_some (by simp) (SX.par_head (sep := []) q hp)
  have f : fPartition (S (p ++ 47 :: q)) [.str (S [47])] = some (.tup [.str (S p), .str (S [47]), .str (S q)]) := by
    show (if _ then _ else _) = _
    rw [if_pos ⟨rfl, by unfold Mir.sizeOk; rw [S_len]; exact hl⟩, e]
  have E1 : roHead (startE 5 [.str (S (p ++ 47 :: q))]) s = .ok (.nx [.dat (.str (S (p ++ 47 :: q))), .dat (.str (S p)), .dat (.str (S [47])), .dat (.str (S q)), .no]) s := by
    generalize S (p ++ 47 :: q) = X at *
    simp [roHead, startE, mAsg, gmSeq, gmCons, gmNil, gmName, mMt, mVar, mCons, mNil, mC, str_slash, f]
  have e2 : fEqB (.str (S [47])) (.str (S [])) = some false := by
    rw [eq_S okc_one okc_nil]
    rfl
  have E2 : roOne [.dat (.str (S (p ++ 47 :: q))), .dat (.str (S p)), .dat (.str (S [47])), .dat (.str (S q)), .no] s = .ok (.nx [.dat (.str (S (p ++ 47 :: q))), .dat (.str (S p)), .dat (.str (S [47])), .dat (.str (S q)), .no]) s := by
    simp [roOne, mIfS, mTest, mOp, mVar, mC, str_empty, fEq, e2, mNext]
  rw [ro_body, seq_nx (ro_isstr _ s), seq_nx E1, seq_nx E2]
theorem ro_none {x : List Nat} (hp : 47 ∉ x) (hl : x.length ≤ 100000) (s : Hd) : b_ratio_of (startE 5 [.str (S x)]) s = roTail [.dat (.str (S x)), .dat (.str (S x)), .dat (.str (S [])), .dat (.str (S [49])), .no] s := by
  have e : Txt.partition (S x) (S [47]) = (S x, S [], S []) := SX.partition_none (by simp) (SX.par_head_none (sep := []) hp)
  have f : fPartition (S x) [.str (S [47])] = some (.tup [.str (S x), .str (S []), .str (S [])]) := by
    show (if _ then _ else _) = _
    rw [if_pos ⟨rfl, by unfold Mir.sizeOk; rw [S_len]; exact hl⟩, e]
  have E1 : roHead (startE 5 [.str (S x)]) s = .ok (.nx [.dat (.str (S x)), .dat (.str (S x)), .dat (.str (S [])), .dat (.str (S [])), .no]) s := by
    generalize S x = X at *
    simp [roHead, startE, mAsg, gmSeq, gmCons, gmNil, gmName, mMt, mVar, mCons, mNil, mC, str_slash, f]
  have e2 : fEqB (.str (S [])) (.str (S [])) = some true := by
    rw [eq_S okc_nil okc_nil]
    rfl
  have E2 : roOne [.dat (.str (S x)), .dat (.str (S x)), .dat (.str (S [])), .dat (.str (S [])), .no] s = .ok (.nx [.dat (.str (S x)), .dat (.str (S x)), .dat (.str (S [])), .dat (.str (S [49])), .no]) s := by
    simp [roOne, mIfS, mTest, mOp, mVar, mC, str_empty, str_1, fEq, e2, mSet]
  rw [ro_body, seq_nx (ro_isstr _ s), seq_nx E1, seq_nx E2]
theorem def_err {n : Nat} {b : MS} {ds : List Dt} {c : Str} {fs : List (Str × Dt)} {ρ : Env'} {s s' : Hd} (h : b (startE n ds) s = .err c fs ρ s') : ∃ ρ', mDef n b ds s = .err c fs ρ' s' := ⟨ρ, by
  unfold mDef
  rw [h]⟩
def Read (x : List Nat) (s : Hd) : Prop := (∃ t b, m_ratio_of [.str (S x)] s = .ok (rat t b) s ∧ good t b = true ∧ T t b = x ∧ t.natAbs < 10 ^ 300 ∧ b.natAbs < 10 ^ 300) ∨ ∃ ρ, m_ratio_of [.str (S x)] s = .err "BadRatio" bad ρ s
theorem read_tail {x p q : List Nat} {sl : Sl} (hx : okc x) (hp : p.length ≤ 100000) (hq : q.length ≤ 100000) (s : Hd) (e : b_ratio_of (startE 5 [.str (S x)]) s = roTail [.dat (.str (S x)), .dat (.str (S p)), sl, .dat (.str (S q)), .no] s) : Read x s := by
  by_cases c : dig (rm p) = true ∧ dig q = true
  · have r := rt_run (x := x) (sl := sl) c.1 c.2 hx s
    rw [← e] at r
    split at r
    · rename_i g
      refine .inl ⟨ival p, (digitsVal q : Nat), ?_, g.1, g.2, (fint_top c.1).2, dig_lt c.2⟩
      exact def_rt r
    · exact .inr (def_err r)
  · have r := rt_err1 (x := x) (sl := sl) hp hq c s
    rw [← e] at r
    exact .inr (def_err r)
theorem read_str {x : List Nat} (hx : okc x) (hl : x.length ≤ 100000) (s : Hd) : Read x s := by
  by_cases c : 47 ∈ x
  · obtain ⟨p, q, rfl, hp⟩ := List.eq_append_cons_of_mem c
    rw [List.length_append, List.length_cons] at hl
    exact read_tail hx (by omega) (by omega) s (ro_some hp (by rw [List.length_append, List.length_cons]; omega) s)
  · exact read_tail hx hl (by decide) s (ro_none c hl s)
theorem D_free {i : Int} : 47 ∉ D i := by
  unfold D
  split
  · intro h
    rcases List.mem_cons.mp h with h | h
    · cases h
    · exact numL_free (by decide) h
  · exact numL_free (by decide)
theorem rm_num (n : Nat) : rm (numL n) = numL n := by
  have h := numL_digits n
  unfold rm
  split
  · rename_i r e
    rw [e] at h
    have := h.head
    omega
  · rfl
theorem rm_D (i : Int) : rm (D i) = numL i.natAbs := by
  unfold D
  split
  · rfl
  · exact rm_num _
theorem ival_D (i : Int) : ival (D i) = i := by
  unfold D
  split
  · show -((digitsVal (numL i.natAbs) : Nat) : Int) = i
    rw [numL_val]
    omega
  · have e : ival (numL i.natAbs) = ((digitsVal (numL i.natAbs) : Nat) : Int) := by
      have h := numL_digits i.natAbs
      unfold ival
      split
      · rename_i r e
        rw [e] at h
        have := h.head
        omega
      · rfl
    rw [e, numL_val]
    omega
theorem dig_num {n : Nat} (h : n < 10 ^ 300) : dig (numL n) = true := all_dig (numL_digits n) (numL_ne n) (numL_len (by decide) h)
theorem good_is {a b : Int} (h : IsR a b) : good a b = true := by
  unfold good
  rw [decide_eq_true (show 1 ≤ b from h.pos), decide_eq_true h.co]
  rfl
theorem T_len {a b : Int} (ha : a.natAbs < 10 ^ 300) (hb : b.natAbs < 10 ^ 300) : (T a b).length ≤ 700 := by
  have l1 := D_len (by decide) ha
  have l2 := D_len (by decide) hb
  unfold T
  split
  · omega
  · rw [List.length_append, List.length_cons]
    omega
theorem read_good {a b : Int} (h : IsR a b) (ha : a.natAbs < 10 ^ 300) (hb : b.natAbs < 10 ^ 300) (s : Hd) : m_ratio_of [.str (S (T a b))] s = .ok (rat a b) s := by
  have d1 : dig (rm (D a)) = true := by rw [rm_D]; exact dig_num ha
  have tl := T_len ha hb
  have ok := okc_T a b
  by_cases c : b = 1
  · have et : T a b = D a := by unfold T; rw [if_pos c]
    have v : ((digitsVal [49] : Nat) : Int) = b := by rw [c]; rfl
    have r := rt_run (x := D a) (p := D a) (q := [49]) (sl := .dat (.str (S []))) d1 rfl (okc_D a) s
    rw [ival_D, v, if_pos ⟨good_is h, et⟩] at r
    rw [et] at tl ⊢
    exact def_rt ((ro_none D_free (by omega) s).trans r)
  · have et : T a b = D a ++ 47 :: D b := by unfold T; rw [if_neg c]
    have hp := h.pos
    have db : D b = numL b.natAbs := D_nn (by omega)
    have v : ((digitsVal (D b) : Nat) : Int) = b := by
      rw [db, numL_val]
      omega
    have d2 : dig (D b) = true := by rw [db]; exact dig_num hb
    have r := rt_run (x := D a ++ 47 :: D b) (p := D a) (q := D b) (sl := .dat (.str (S [47]))) d1 d2 (by rw [← et]; exact ok) s
    rw [ival_D, v, if_pos ⟨good_is h, et⟩] at r
    rw [et] at tl ⊢
    exact def_rt ((ro_some D_free (by omega) s).trans r)
end Law


set_option Elab.async false
set_option linter.all false
set_option maxRecDepth 100000
set_option exponentiation.threshold 2000
namespace Law
open PySem PySem.Spec PyProof.Rows L2 Mir
open SX (S S_len S_cat S_beq_eq S_inj)
open TL (numL numL_lt numL_step numL_digits numL_ne numL_free numL_val numL_inj numL_len)
open PySem.NumText (AllDigits digitsVal)
def Bad (x : List Nat) : Prop := ∀ t b, good t b = true → t.natAbs < 10 ^ 300 → b.natAbs < 10 ^ 300 → T t b ≠ x
theorem lread_no {x : List Nat} (hx : okc x) (hl : x.length ≤ 100000) (h : Bad x) (s : Hd) : m__law_read [.str (S x)] s = .ok (.str "text") s := by
  rcases read_str hx hl s with ⟨t, b, e, g, et, h1, h2⟩ | ⟨ρ, e⟩
  · exact absurd et (h t b g h1 h2)
  · have lk : List.lookup ("what" : Str) bad = some (.str "text") := rfl
    generalize S x = X at *
    simp [m__law_read, mDef, b__law_read, startE, mTryAs, mRet, mCall, mCons, mNil, mVar, e, xRet, xFld, lk]
theorem lread_yes {x : List Nat} {d : Dt} {s : Hd} (e : m_ratio_of [.str (S x)] s = .ok d s) : m__law_read [.str (S x)] s = .ok d s := by
  generalize S x = X at *
  simp [m__law_read, mDef, b__law_read, startE, mTryAs, mRet, mCall, mCons, mNil, mVar, e]
theorem lread_other {d : Dt} (h : fIsi "str" d = some false) (s : Hd) : m__law_read [d] s = .ok (.str "text") s := by
  have e : m_ratio_of [d] s = .err "BadRatio" bad (startE 5 [d]) s := by
    have R : (mIfS (mNot (mTru (mIsi "str" (mVar 0)))) roErr mNext) (startE 5 [d]) s = .err "BadRatio" bad (startE 5 [d]) s := by
      have re := ro_err (startE 5 [d]) s
      simp only [mIfS, mNot, mTru, mIsi, mVar, startE, h, fTru, List.map_cons, List.map_nil, List.cons_append, List.nil_append, List.getElem?_cons_zero, R.bind_ok, Option.map_some, liftO_some, Bool.not_false, if_true]
      exact re
    unfold m_ratio_of mDef
    rw [ro_body]
    unfold mSeq
    rw [R]
  have lk : List.lookup ("what" : Str) bad = some (.str "text") := rfl
  simp [m__law_read, mDef, b__law_read, startE, mTryAs, mRet, mCall, mCons, mNil, mVar, e, xRet, xFld, lk]
/-! ### how a ratio's text looks -/
theorem numL_head {n : Nat} (h : 0 < n) : ∃ c r, numL n = c :: r ∧ 49 ≤ c ∧ c ≤ 57 := by
  induction n using Nat.strongRecOn with
  | _ n ih =>
    by_cases c : n < 10
    · exact ⟨48 + n, [], numL_lt c, by omega, by omega⟩
    · obtain ⟨d, r, e, h1, h2⟩ := ih (n / 10) (by omega) (by omega)
      refine ⟨d, r ++ [48 + n % 10], ?_, h1, h2⟩
      rw [numL_step (by omega), e]
      rfl
theorem numL_0 : numL 0 = [48] := numL_lt (by decide)
theorem numL_last (n : Nat) : ∃ l c, numL n = l ++ [c] ∧ 48 ≤ c ∧ c ≤ 57 := by
  by_cases h : n < 10
  · exact ⟨[], 48 + n, numL_lt h, by omega, by omega⟩
  · exact ⟨numL (n / 10), 48 + n % 10, numL_step (by omega), by omega, by have := Nat.mod_lt n (show 0 < 10 by decide); omega⟩
theorem good_b {t b : Int} (h : good t b = true) : 1 ≤ b ∧ Nat.gcd t.natAbs b.natAbs = 1 := by
  unfold good at h
  rw [Bool.and_eq_true] at h
  exact ⟨of_decide_eq_true h.1, of_decide_eq_true h.2⟩
theorem D_last (i : Int) : ∃ l c, D i = l ++ [c] ∧ 48 ≤ c ∧ c ≤ 57 := by
  obtain ⟨l, c, e, h⟩ := numL_last i.natAbs
  unfold D
  split
  · exact ⟨45 :: l, c, by rw [e]; rfl, h⟩
  · exact ⟨l, c, e, h⟩
theorem T_last (t b : Int) : ∃ l c, T t b = l ++ [c] ∧ 48 ≤ c ∧ c ≤ 57 := by
  unfold T
  split
  · exact D_last t
  · obtain ⟨l, c, e, h⟩ := D_last b
    exact ⟨D t ++ 47 :: l, c, by rw [e, List.append_assoc]; rfl, h⟩
theorem bad_last {y : List Nat} {c : Nat} (h : c < 48 ∨ 57 < c) : Bad (y ++ [c]) := fun t b _ _ _ e => by
  obtain ⟨l, d, e2, h1, h2⟩ := T_last t b
  rw [e2] at e
  have := List.append_inj' e rfl
  have := List.singleton_inj.mp this.2
  omega
theorem D_head (i : Int) : ∃ c r, D i = c :: r ∧ (c = 45 ∨ (48 ≤ c ∧ c ≤ 57)) := by
  unfold D
  split
  · exact ⟨45, _, rfl, .inl rfl⟩
  · have hd := numL_digits i.natAbs
    have hn := numL_ne i.natAbs
    generalize numL i.natAbs = l at *
    cases l with
    | nil => exact absurd rfl hn
    | cons c r => exact ⟨c, r, rfl, .inr hd.head⟩
theorem T_head (t b : Int) : ∃ c r, T t b = c :: r ∧ (c = 45 ∨ (48 ≤ c ∧ c ≤ 57)) := by
  obtain ⟨c, r, e, h⟩ := D_head t
  unfold T
  split
  · exact ⟨c, r, e, h⟩
  · exact ⟨c, r ++ 47 :: D b, by rw [e]; rfl, h⟩
theorem bad_head {y : List Nat} {c : Nat} (h : ¬ (c = 45 ∨ (48 ≤ c ∧ c ≤ 57))) : Bad (c :: y) := fun t b _ _ _ e => by
  obtain ⟨d, r, e2, h2⟩ := T_head t b
  rw [e2] at e
  injection e with e3 _
  rw [e3] at h2
  exact h h2
theorem bad_nil : Bad [] := fun t b _ _ _ e => by
  obtain ⟨d, r, e2, h2⟩ := T_head t b
  rw [e2] at e
  cases e
theorem bad_minus {y : List Nat} {c : Nat} (h : ¬ (49 ≤ c ∧ c ≤ 57)) : Bad (45 :: c :: y) := fun t b _ _ _ e => by
  have key : ∀ z, D t ++ z = 45 :: c :: y → False := fun z e => by
    by_cases n : t < 0
    · obtain ⟨d, r, e2, h1, h2⟩ := numL_head (n := t.natAbs) (by omega)
      rw [D_neg n, e2] at e
      injection e with _ e
      injection e with e _
      omega
    · have hd := numL_digits t.natAbs
      obtain ⟨d, r, e2, _⟩ := D_head t
      rw [D_nn (by omega)] at e e2
      rw [e2] at e hd
      injection e with e _
      have := hd.head
      omega
  unfold T at e
  split at e
  · exact key [] (by rw [List.append_nil]; exact e)
  · exact key _ e
theorem bad_zero {y : List Nat} {c : Nat} : Bad (48 :: c :: y) := fun t b g _ _ e => by
  obtain ⟨b1, gc⟩ := good_b g
  have key : ∀ z, D t ++ z = 48 :: c :: y → t = 0 := fun z e => by
    by_cases n : t < 0
    · rw [D_neg n] at e
      injection e with e _
      cases e
    · rw [D_nn (by omega)] at e
      by_cases z0 : t = 0
      · exact z0
      · obtain ⟨d, r, e2, h1, h2⟩ := numL_head (n := t.natAbs) (by omega)
        rw [e2] at e
        injection e with e _
        omega
  unfold T at e
  split at e
  · have t0 := key [] (by rw [List.append_nil]; exact e)
    rw [t0] at e
    have e : numL 0 = 48 :: c :: y := e
    rw [numL_0] at e
    cases e
  · rename_i nb
    have t0 := key _ e
    rw [t0] at gc
    have : Nat.gcd 0 b.natAbs = b.natAbs := Nat.gcd_zero_left _
    have gc : Nat.gcd 0 b.natAbs = 1 := gc
    omega
theorem split47 {p q p' q' : List Nat} (h : 47 ∉ p) (h' : 47 ∉ p') (e : p ++ 47 :: q = p' ++ 47 :: q') : p = p' ∧ q = q' := by
  induction p generalizing p' with
  | nil =>
    cases p' with
    | nil =>
      injection e with _ e
      exact ⟨rfl, e⟩
    | cons d r =>
      injection e with e _
      exact absurd (by rw [← e]; exact List.mem_cons_self ..) h'
  | cons c l ih =>
    cases p' with
    | nil =>
      injection e with e _
      exact absurd (by rw [e]; exact List.mem_cons_self ..) h
    | cons d r =>
      injection e with e1 e2
      obtain ⟨a, b⟩ := ih (fun z => h (List.mem_cons_of_mem _ z)) (fun z => h' (List.mem_cons_of_mem _ z)) e2
      exact ⟨by rw [e1, a], b⟩
theorem T_slash {t b : Int} {p q : List Nat} (g : good t b = true) (h : 47 ∉ p) (e : T t b = p ++ 47 :: q) : D t = p ∧ numL b.natAbs = q ∧ 2 ≤ b := by
  obtain ⟨b1, _⟩ := good_b g
  unfold T at e
  split at e
  · exact absurd (by rw [e]; simp) (D_free (i := t))
  · rw [D_nn (show 0 ≤ b by omega)] at e
    obtain ⟨a1, a2⟩ := split47 D_free h e
    exact ⟨a1, a2, by omega⟩
theorem D_inj {i j : Int} (h : D i = D j) : i = j := by
  have e := congrArg ival h
  rwa [ival_D, ival_D] at e
/-- behind a slash stands a whole number without a nought ahead -/
theorem bad_slash {p : List Nat} {c : Nat} {y : List Nat} (hp : 47 ∉ p) (h : ¬ (49 ≤ c ∧ c ≤ 57)) : Bad (p ++ 47 :: c :: y) := fun t b g _ _ e => by
  obtain ⟨_, e2, b2⟩ := T_slash g hp e
  obtain ⟨d, r, e3, h1, h2⟩ := numL_head (n := b.natAbs) (by omega)
  rw [e3] at e2
  injection e2 with e2 _
  omega
theorem bad_two {p q : List Nat} {c : Nat} (hp : 47 ∉ p) (h : c ∈ q) (hc : c < 48 ∨ 57 < c) : Bad (p ++ 47 :: q) := fun t b g _ _ e => by
  obtain ⟨_, e2, _⟩ := T_slash g hp e
  have := numL_digits b.natAbs c (by rw [e2]; exact h)
  omega
theorem T_all {t b : Int} : ∀ c ∈ T t b, c = 45 ∨ c = 47 ∨ (48 ≤ c ∧ c ≤ 57) := by
  have key : ∀ i, ∀ c ∈ D i, c = 45 ∨ c = 47 ∨ (48 ≤ c ∧ c ≤ 57) := fun i c hc => by
    unfold D at hc
    split at hc
    · rcases List.mem_cons.mp hc with h | h
      · exact .inl h
      · exact .inr (.inr (numL_digits _ c h))
    · exact .inr (.inr (numL_digits _ c hc))
  intro c hc
  unfold T at hc
  split at hc
  · exact key t c hc
  · rcases List.mem_append.mp hc with h | h
    · exact key t c h
    · rcases List.mem_cons.mp h with h | h
      · exact .inr (.inl h)
      · exact key b c h
theorem bad_sign {x : List Nat} {c : Nat} (h : c ∈ x) (hc : ¬ (c = 45 ∨ c = 47 ∨ (48 ≤ c ∧ c ≤ 57))) : Bad x := fun t b _ _ _ e => hc (T_all c (by rw [e]; exact h))
theorem bad_double {a b : Int} : Bad (D (a * 2) ++ 47 :: D (b * 2)) := fun t u g _ _ e => by
  obtain ⟨e1, e2, u2⟩ := T_slash g D_free e
  have t2 := D_inj e1
  have e2 : D u = D (b * 2) := by rw [D_nn (show 0 ≤ u by omega), e2]
  have u3 := D_inj e2
  have gc := (good_b g).2
  have d1 : 2 ∣ t.natAbs := by rw [t2, Int.natAbs_mul]; exact Nat.dvd_mul_left _ _
  have d2 : 2 ∣ u.natAbs := by rw [u3, Int.natAbs_mul]; exact Nat.dvd_mul_left _ _
  have := Nat.dvd_gcd d1 d2
  rw [gc] at this
  omega
theorem bad_long {x : List Nat} (h : 700 < x.length) : Bad x := fun t b _ h1 h2 e => by
  have := T_len h1 h2
  rw [e] at this
  omega
end Law


set_option Elab.async false
set_option linter.all false
set_option maxRecDepth 100000
set_option exponentiation.threshold 2000
namespace Law
open PySem PySem.Spec PyProof.Rows L2 Mir
open SX (S S_len S_cat S_beq_eq S_inj)
open TL (numL numL_lt numL_step numL_digits numL_ne numL_free numL_val numL_inj numL_len)
theorem fcat {l m : List Nat} (h : l.length + m.length ≤ 5000) : fAdd (.str (S l)) (.str (S m)) = some (.str (S (l ++ m))) := by
  show (if _ then _ else _) = _
  rw [if_pos (by unfold Mir.sizeOk; rw [S_len, S_len]; omega), S_cat]

theorem c_0 : ("+" : Str) = S [43] := by decide
theorem c_1 : (" " : Str) = S [32] := by decide
theorem c_2 : ("0" : Str) = S [48] := by decide
theorem c_3 : ("-0" : Str) = S [45, 48] := by decide
theorem c_4 : ("/" : Str) = S [47] := by decide
theorem c_5 : ("/-" : Str) = S [47, 45] := by decide
theorem c_6 : ("//" : Str) = S [47, 47] := by decide
theorem c_7 : ("--" : Str) = S [45, 45] := by decide
theorem c_8 : ("x" : Str) = S [120] := by decide
theorem c_9 : ("\n" : Str) = S [10] := by decide
theorem c_10 : ("_1" : Str) = S [95, 49] := by decide
theorem c_11 : ("/1" : Str) = S [47, 49] := by decide
theorem c_12 : ("/0" : Str) = S [47, 48] := by decide
theorem c_13 : ("0x" : Str) = S [48, 120] := by decide
theorem c_14 : ("-" : Str) = S [45] := by decide
theorem c_15 : ("" : Str) = S [] := by decide
section
variable {X Y A B A2 B2 : List Nat}
def rowsOf (X Y A B A2 B2 : List Nat) : List (List Nat) := [([43] ++ Y), ([32] ++ X), (X ++ [32]), ([48] ++ Y), ([45, 48] ++ Y), ((A ++ [47]) ++ [48]), (X ++ [47]), ([47] ++ X), ((A2 ++ [47]) ++ B2), ((A ++ [47, 45]) ++ B), ((A ++ [47, 47]) ++ B), ([45, 45] ++ Y), (X ++ [120]), [], (X ++ [10]), (Y ++ [95, 49]), (((A ++ [47]) ++ B) ++ [47, 49]), [45, 48], ((A ++ [47, 48]) ++ B), ([48, 120] ++ Y), [45], [47]]
theorem sp_1 {R W : Dt} {z : Sl} (hX : X.length ≤ 700) (hY : Y.length ≤ 700) (hA : A.length ≤ 350) (hB : B.length ≤ 350) (hA2 : A2.length ≤ 350) (hB2 : B2.length ≤ 350) (s : Hd) : (mSet 6 (mLst (mCons (mOp fAdd (mC (.str "+")) (mVar 3)) (mCons (mOp fAdd (mC (.str " ")) (mVar 2)) (mCons (mOp fAdd (mVar 2) (mC (.str " "))) (mCons (mOp fAdd (mC (.str "0")) (mVar 3)) (mCons (mOp fAdd (mC (.str "-0")) (mVar 3)) (mCons (mOp fAdd (mOp fAdd (mVar 4) (mC (.str "/"))) (mCB fStr (mCons (mC (.int 0)) mNil))) (mCons (mOp fAdd (mVar 2) (mC (.str "/"))) (mCons (mOp fAdd (mC (.str "/")) (mVar 2)) mNil)))))))))) [.dat R, .dat W, .dat (.str (S X)), .dat (.str (S Y)), .dat (.str (S A)), .dat (.str (S B)), z] s = .ok (.nx [.dat R, .dat W, .dat (.str (S X)), .dat (.str (S Y)), .dat (.str (S A)), .dat (.str (S B)), .dat (.lst [.str (S ([43] ++ Y)), .str (S ([32] ++ X)), .str (S (X ++ [32])), .str (S ([48] ++ Y)), .str (S ([45, 48] ++ Y)), .str (S ((A ++ [47]) ++ [48])), .str (S (X ++ [47])), .str (S ([47] ++ X))])]) s := by
  have k0 := fcat (l := [43]) (m := Y) (by simp only [List.length_append, List.length_cons, List.length_nil]; omega)
  have k1 := fcat (l := [32]) (m := X) (by simp only [List.length_append, List.length_cons, List.length_nil]; omega)
  have k2 := fcat (l := X) (m := [32]) (by simp only [List.length_append, List.length_cons, List.length_nil]; omega)
  have k3 := fcat (l := [48]) (m := Y) (by simp only [List.length_append, List.length_cons, List.length_nil]; omega)
  have k4 := fcat (l := [45, 48]) (m := Y) (by simp only [List.length_append, List.length_cons, List.length_nil]; omega)
  have k5 := fcat (l := A) (m := [47]) (by simp only [List.length_append, List.length_cons, List.length_nil]; omega)
  have k6 := fcat (l := (A ++ [47])) (m := [48]) (by simp only [List.length_append, List.length_cons, List.length_nil]; omega)
  have k7 := fcat (l := X) (m := [47]) (by simp only [List.length_append, List.length_cons, List.length_nil]; omega)
  have k8 := fcat (l := [47]) (m := X) (by simp only [List.length_append, List.length_cons, List.length_nil]; omega)
  have s0 : fStr [.int 0] = some (.str (S [48])) := fstr_ok (i := 0) (by decide)

  simp only [mSet, mLst, mOp, mCB, mCons, mNil, mVar, mC, c_0, c_1, c_2, c_3, c_4, c_5, c_6, c_7, c_8, c_9, c_10, c_11, c_12, c_13, c_14, c_15]
  generalize S ((A ++ [47]) ++ [48]) = v0 at *
  generalize S ([45, 48] ++ Y) = v1 at *
  generalize S ([43] ++ Y) = v2 at *
  generalize S ([32] ++ X) = v3 at *
  generalize S (X ++ [32]) = v4 at *
  generalize S ([48] ++ Y) = v5 at *
  generalize S (A ++ [47]) = v6 at *
  generalize S (X ++ [47]) = v7 at *
  generalize S ([47] ++ X) = v8 at *
  generalize S [45, 48] = v9 at *
  generalize S [43] = v10 at *
  generalize S [32] = v11 at *
  generalize S [48] = v12 at *
  generalize S [47] = v13 at *
  generalize S Y = v14 at *
  generalize S X = v15 at *
  generalize S A = v16 at *
  simp [k0, k1, k2, k3, k4, k5, k6, k7, k8, s0]
theorem sp_2 {a b : Int} {W : Dt} {L : List Dt} (hX : X.length ≤ 700) (hY : Y.length ≤ 700) (hA : A.length ≤ 350) (hB : B.length ≤ 350) (hA2 : A2.length ≤ 350) (hB2 : B2.length ≤ 350) (m1 : Mir.MulOk a 2) (m2 : Mir.MulOk b 2) (t1 : fStr [.int (a * 2)] = some (.str (S A2))) (t2 : fStr [.int (b * 2)] = some (.str (S B2))) (hl : L.length ≤ 100) (s : Hd) : (mSet 6 (mOp fAdd (mVar 6) (mLst (mCons (mOp fAdd (mOp fAdd (mCB fStr (mCons (mOp fMul (mOp fIx (mVar 0) (mC (.int 0))) (mC (.int 2))) mNil)) (mC (.str "/"))) (mCB fStr (mCons (mOp fMul (mOp fIx (mVar 0) (mC (.int 1))) (mC (.int 2))) mNil))) (mCons (mOp fAdd (mOp fAdd (mVar 4) (mC (.str "/-"))) (mVar 5)) (mCons (mOp fAdd (mOp fAdd (mVar 4) (mC (.str "//"))) (mVar 5)) (mCons (mOp fAdd (mC (.str "--")) (mVar 3)) (mCons (mOp fAdd (mVar 2) (mC (.str "x"))) (mCons (mC (.str "")) mNil))))))))) [.dat (rat a b), .dat W, .dat (.str (S X)), .dat (.str (S Y)), .dat (.str (S A)), .dat (.str (S B)), .dat (.lst L)] s = .ok (.nx [.dat (rat a b), .dat W, .dat (.str (S X)), .dat (.str (S Y)), .dat (.str (S A)), .dat (.str (S B)), .dat (.lst (L ++ [.str (S ((A2 ++ [47]) ++ B2)), .str (S ((A ++ [47, 45]) ++ B)), .str (S ((A ++ [47, 47]) ++ B)), .str (S ([45, 45] ++ Y)), .str (S (X ++ [120])), .str (S [])]))]) s := by
  have k0 := fcat (l := A2) (m := [47]) (by simp only [List.length_append, List.length_cons, List.length_nil]; omega)
  have k1 := fcat (l := (A2 ++ [47])) (m := B2) (by simp only [List.length_append, List.length_cons, List.length_nil]; omega)
  have k2 := fcat (l := A) (m := [47, 45]) (by simp only [List.length_append, List.length_cons, List.length_nil]; omega)
  have k3 := fcat (l := (A ++ [47, 45])) (m := B) (by simp only [List.length_append, List.length_cons, List.length_nil]; omega)
  have k4 := fcat (l := A) (m := [47, 47]) (by simp only [List.length_append, List.length_cons, List.length_nil]; omega)
  have k5 := fcat (l := (A ++ [47, 47])) (m := B) (by simp only [List.length_append, List.length_cons, List.length_nil]; omega)
  have k6 := fcat (l := [45, 45]) (m := Y) (by simp only [List.length_append, List.length_cons, List.length_nil]; omega)
  have k7 := fcat (l := X) (m := [120]) (by simp only [List.length_append, List.length_cons, List.length_nil]; omega)
  have fl : fAdd (.lst L) (.lst [.str (S ((A2 ++ [47]) ++ B2)), .str (S ((A ++ [47, 45]) ++ B)), .str (S ((A ++ [47, 47]) ++ B)), .str (S ([45, 45] ++ Y)), .str (S (X ++ [120])), .str (S [])]) = some (.lst (L ++ [.str (S ((A2 ++ [47]) ++ B2)), .str (S ((A ++ [47, 45]) ++ B)), .str (S ((A ++ [47, 47]) ++ B)), .str (S ([45, 45] ++ Y)), .str (S (X ++ [120])), .str (S [])])) := by
    show (if _ then _ else _) = _
    rw [if_pos (by unfold Mir.sizeOk; simp only [List.length_cons, List.length_nil]; omega)]
  simp only [mSet, mLst, mOp, mCB, mCons, mNil, mVar, mC, c_0, c_1, c_2, c_3, c_4, c_5, c_6, c_7, c_8, c_9, c_10, c_11, c_12, c_13, c_14, c_15]
  generalize S ((A ++ [47, 45]) ++ B) = v0 at *
  generalize S ((A ++ [47, 47]) ++ B) = v1 at *
  generalize S ((A2 ++ [47]) ++ B2) = v2 at *
  generalize S (A ++ [47, 45]) = v3 at *
  generalize S (A ++ [47, 47]) = v4 at *
  generalize S ([45, 45] ++ Y) = v5 at *
  generalize S (A2 ++ [47]) = v6 at *
  generalize S (X ++ [120]) = v7 at *
  generalize S [47, 45] = v8 at *
  generalize S [47, 47] = v9 at *
  generalize S [45, 45] = v10 at *
  generalize S [120] = v11 at *
  generalize S [47] = v12 at *
  generalize S A2 = v13 at *
  generalize S B2 = v14 at *
  generalize S [] = v15 at *
  generalize S A = v16 at *
  generalize S B = v17 at *
  generalize S Y = v18 at *
  generalize S X = v19 at *
  simp [k0, k1, k2, k3, k4, k5, k6, k7, fIx, at0, at1, fMul, m1, m2, t1, t2, fl]
theorem sp_3 {R W : Dt} {L : List Dt} (hX : X.length ≤ 700) (hY : Y.length ≤ 700) (hA : A.length ≤ 350) (hB : B.length ≤ 350) (hA2 : A2.length ≤ 350) (hB2 : B2.length ≤ 350) (hl : L.length ≤ 100) (s : Hd) : (mSet 6 (mOp fAdd (mVar 6) (mLst (mCons (mOp fAdd (mVar 2) (mC (.str "\n"))) (mCons (mOp fAdd (mVar 3) (mC (.str "_1"))) (mCons (mOp fAdd (mOp fAdd (mOp fAdd (mVar 4) (mC (.str "/"))) (mVar 5)) (mC (.str "/1"))) (mCons (mC (.str "-0")) (mCons (mOp fAdd (mOp fAdd (mVar 4) (mC (.str "/0"))) (mVar 5)) (mCons (mOp fAdd (mC (.str "0x")) (mVar 3)) (mCons (mC (.str "-")) (mCons (mC (.str "/")) mNil))))))))))) [.dat R, .dat W, .dat (.str (S X)), .dat (.str (S Y)), .dat (.str (S A)), .dat (.str (S B)), .dat (.lst L)] s = .ok (.nx [.dat R, .dat W, .dat (.str (S X)), .dat (.str (S Y)), .dat (.str (S A)), .dat (.str (S B)), .dat (.lst (L ++ [.str (S (X ++ [10])), .str (S (Y ++ [95, 49])), .str (S (((A ++ [47]) ++ B) ++ [47, 49])), .str (S [45, 48]), .str (S ((A ++ [47, 48]) ++ B)), .str (S ([48, 120] ++ Y)), .str (S [45]), .str (S [47])]))]) s := by
  have k0 := fcat (l := X) (m := [10]) (by simp only [List.length_append, List.length_cons, List.length_nil]; omega)
  have k1 := fcat (l := Y) (m := [95, 49]) (by simp only [List.length_append, List.length_cons, List.length_nil]; omega)
  have k2 := fcat (l := A) (m := [47]) (by simp only [List.length_append, List.length_cons, List.length_nil]; omega)
  have k3 := fcat (l := (A ++ [47])) (m := B) (by simp only [List.length_append, List.length_cons, List.length_nil]; omega)
  have k4 := fcat (l := ((A ++ [47]) ++ B)) (m := [47, 49]) (by simp only [List.length_append, List.length_cons, List.length_nil]; omega)
  have k5 := fcat (l := A) (m := [47, 48]) (by simp only [List.length_append, List.length_cons, List.length_nil]; omega)
  have k6 := fcat (l := (A ++ [47, 48])) (m := B) (by simp only [List.length_append, List.length_cons, List.length_nil]; omega)
  have k7 := fcat (l := [48, 120]) (m := Y) (by simp only [List.length_append, List.length_cons, List.length_nil]; omega)
  have fl : fAdd (.lst L) (.lst [.str (S (X ++ [10])), .str (S (Y ++ [95, 49])), .str (S (((A ++ [47]) ++ B) ++ [47, 49])), .str (S [45, 48]), .str (S ((A ++ [47, 48]) ++ B)), .str (S ([48, 120] ++ Y)), .str (S [45]), .str (S [47])]) = some (.lst (L ++ [.str (S (X ++ [10])), .str (S (Y ++ [95, 49])), .str (S (((A ++ [47]) ++ B) ++ [47, 49])), .str (S [45, 48]), .str (S ((A ++ [47, 48]) ++ B)), .str (S ([48, 120] ++ Y)), .str (S [45]), .str (S [47])])) := by
    show (if _ then _ else _) = _
    rw [if_pos (by unfold Mir.sizeOk; simp only [List.length_cons, List.length_nil]; omega)]
  simp only [mSet, mLst, mOp, mCB, mCons, mNil, mVar, mC, c_0, c_1, c_2, c_3, c_4, c_5, c_6, c_7, c_8, c_9, c_10, c_11, c_12, c_13, c_14, c_15]
  generalize S (((A ++ [47]) ++ B) ++ [47, 49]) = v0 at *
  generalize S ((A ++ [47, 48]) ++ B) = v1 at *
  generalize S ((A ++ [47]) ++ B) = v2 at *
  generalize S ([48, 120] ++ Y) = v3 at *
  generalize S (Y ++ [95, 49]) = v4 at *
  generalize S (A ++ [47, 48]) = v5 at *
  generalize S (X ++ [10]) = v6 at *
  generalize S (A ++ [47]) = v7 at *
  generalize S [48, 120] = v8 at *
  generalize S [95, 49] = v9 at *
  generalize S [47, 49] = v10 at *
  generalize S [45, 48] = v11 at *
  generalize S [47, 48] = v12 at *
  generalize S [10] = v13 at *
  generalize S [47] = v14 at *
  generalize S [45] = v15 at *
  generalize S X = v16 at *
  generalize S Y = v17 at *
  generalize S A = v18 at *
  generalize S B = v19 at *
  simp [k0, k1, k2, k3, k4, k5, k6, k7, fl]
end
end Law


set_option Elab.async false
set_option linter.all false
set_option maxRecDepth 100000
set_option exponentiation.threshold 2000
namespace Law
open PySem PySem.Spec PyProof.Rows L2 Mir
open SX (S S_len S_cat S_beq_eq S_inj)
open TL (numL numL_lt numL_step numL_digits numL_ne numL_free numL_val numL_inj numL_len)
theorem okc_lit {l : List Nat} (h : l.all (fun c => decide (c < 0x110000)) = true) : okc l := fun c hc => of_decide_eq_true (List.all_eq_true.mp h c hc)
section
variable {a b : Int}
abbrev Rws (a b : Int) : List (List Nat) := rowsOf (T a b) (T (a.natAbs : Int) b) (D a) (D b) (D (a * 2)) (D (b * 2))

theorem row_0 : Bad (([43] ++ (T (a.natAbs : Int) b))) := bad_head (y := (T (a.natAbs : Int) b)) (c := 43) (by decide)
theorem row_1 : Bad (([32] ++ (T a b))) := bad_head (y := (T a b)) (c := 32) (by decide)
theorem row_2 : Bad (((T a b) ++ [32])) := bad_last (y := (T a b)) (c := 32) (by decide)
theorem row_3 : Bad (([48] ++ (T (a.natAbs : Int) b))) := by
  obtain ⟨c, r, e, _⟩ := T_head (a.natAbs : Int) b
  rw [e]
  exact bad_zero
theorem row_4 : Bad (([45, 48] ++ (T (a.natAbs : Int) b))) := bad_minus (y := (T (a.natAbs : Int) b)) (c := 48) (by decide)
theorem row_5 : Bad ((((D a) ++ [47]) ++ [48])) := by
  have e : (((D a) ++ [47]) ++ [48]) = D a ++ 47 :: 48 :: [] := by simp
  rw [e]
  exact bad_slash D_free (by decide)
theorem row_6 : Bad (((T a b) ++ [47])) := bad_last (y := (T a b)) (c := 47) (by decide)
theorem row_7 : Bad (([47] ++ (T a b))) := bad_head (y := (T a b)) (c := 47) (by decide)
theorem row_8 : Bad ((((D (a * 2)) ++ [47]) ++ (D (b * 2)))) := by
  have e : (((D (a * 2)) ++ [47]) ++ (D (b * 2))) = D (a * 2) ++ 47 :: D (b * 2) := by simp
  rw [e]
  exact bad_double
theorem row_9 : Bad ((((D a) ++ [47, 45]) ++ (D b))) := by
  have e : (((D a) ++ [47, 45]) ++ (D b)) = D a ++ 47 :: 45 :: (D b) := by simp
  rw [e]
  exact bad_slash D_free (by decide)
theorem row_10 : Bad ((((D a) ++ [47, 47]) ++ (D b))) := by
  have e : (((D a) ++ [47, 47]) ++ (D b)) = D a ++ 47 :: 47 :: (D b) := by simp
  rw [e]
  exact bad_slash D_free (by decide)
theorem row_11 : Bad (([45, 45] ++ (T (a.natAbs : Int) b))) := bad_minus (y := (T (a.natAbs : Int) b)) (c := 45) (by decide)
theorem row_12 : Bad (((T a b) ++ [120])) := bad_last (y := (T a b)) (c := 120) (by decide)
theorem row_13 : Bad ([]) := bad_nil
theorem row_14 : Bad (((T a b) ++ [10])) := bad_last (y := (T a b)) (c := 10) (by decide)
theorem row_15 : Bad (((T (a.natAbs : Int) b) ++ [95, 49])) := bad_sign (c := 95) (by simp) (by decide)
theorem row_16 : Bad (((((D a) ++ [47]) ++ (D b)) ++ [47, 49])) := by
  have e : ((((D a) ++ [47]) ++ (D b)) ++ [47, 49]) = D a ++ 47 :: (D b ++ [47, 49]) := by simp
  rw [e]
  exact bad_two D_free (c := 47) (by simp) (by decide)
theorem row_17 : Bad ([45, 48]) := bad_minus (y := []) (c := 48) (by decide)
theorem row_18 : Bad ((((D a) ++ [47, 48]) ++ (D b))) := by
  have e : (((D a) ++ [47, 48]) ++ (D b)) = D a ++ 47 :: 48 :: (D b) := by simp
  rw [e]
  exact bad_slash D_free (by decide)
theorem row_19 : Bad (([48, 120] ++ (T (a.natAbs : Int) b))) := bad_zero (c := 120) (y := (T (a.natAbs : Int) b))
theorem row_20 : Bad ([45]) := bad_last (y := []) (c := 45) (by decide)
theorem row_21 : Bad ([47]) := bad_head (y := []) (c := 47) (by decide)
theorem rows_bad : ∀ x ∈ Rws a b, Bad x := by
  intro x hx
  unfold Rws rowsOf at hx
  simp only [List.mem_cons, List.not_mem_nil, or_false] at hx
  rcases hx with rfl | rfl | rfl | rfl | rfl | rfl | rfl | rfl | rfl | rfl | rfl | rfl | rfl | rfl | rfl | rfl | rfl | rfl | rfl | rfl | rfl | rfl
  · exact row_0
  · exact row_1
  · exact row_2
  · exact row_3
  · exact row_4
  · exact row_5
  · exact row_6
  · exact row_7
  · exact row_8
  · exact row_9
  · exact row_10
  · exact row_11
  · exact row_12
  · exact row_13
  · exact row_14
  · exact row_15
  · exact row_16
  · exact row_17
  · exact row_18
  · exact row_19
  · exact row_20
  · exact row_21
theorem rows_okc : ∀ x ∈ Rws a b, okc x := by
  have oX := okc_T a b
  have oY := okc_T (a.natAbs : Int) b
  have oA := okc_D a
  have oB := okc_D b
  have oA2 := okc_D (a * 2)
  have oB2 := okc_D (b * 2)
  intro x hx
  unfold Rws rowsOf at hx
  simp only [List.mem_cons, List.not_mem_nil, or_false] at hx
  rcases hx with rfl | rfl | rfl | rfl | rfl | rfl | rfl | rfl | rfl | rfl | rfl | rfl | rfl | rfl | rfl | rfl | rfl | rfl | rfl | rfl | rfl | rfl
  · exact (okc_app (okc_lit (by decide)) oY)
  · exact (okc_app (okc_lit (by decide)) oX)
  · exact (okc_app oX (okc_lit (by decide)))
  · exact (okc_app (okc_lit (by decide)) oY)
  · exact (okc_app (okc_lit (by decide)) oY)
  · exact (okc_app (okc_app oA (okc_lit (by decide))) (okc_lit (by decide)))
  · exact (okc_app oX (okc_lit (by decide)))
  · exact (okc_app (okc_lit (by decide)) oX)
  · exact (okc_app (okc_app oA2 (okc_lit (by decide))) oB2)
  · exact (okc_app (okc_app oA (okc_lit (by decide))) oB)
  · exact (okc_app (okc_app oA (okc_lit (by decide))) oB)
  · exact (okc_app (okc_lit (by decide)) oY)
  · exact (okc_app oX (okc_lit (by decide)))
  · exact (okc_lit (by decide))
  · exact (okc_app oX (okc_lit (by decide)))
  · exact (okc_app oY (okc_lit (by decide)))
  · exact (okc_app (okc_app (okc_app oA (okc_lit (by decide))) oB) (okc_lit (by decide)))
  · exact (okc_lit (by decide))
  · exact (okc_app (okc_app oA (okc_lit (by decide))) oB)
  · exact (okc_app (okc_lit (by decide)) oY)
  · exact (okc_lit (by decide))
  · exact (okc_lit (by decide))
theorem D_len' {i : Int} (h : i.natAbs < 10 ^ 300) : (D i).length ≤ 350 := Nat.le_trans (D_len (by decide) h) (by decide)
theorem D_len2 {i : Int} (h : i.natAbs < 10 ^ 300) : (D (i * 2)).length ≤ 350 ∧ (i * 2).natAbs < 10 ^ 301 := by
  have : (i * 2).natAbs < 10 ^ 301 := by
    have e2 : (2 : Int).natAbs = 2 := rfl
    rw [Int.natAbs_mul, e2, Nat.pow_succ]
    omega
  exact ⟨Nat.le_trans (D_len (by decide) this) (by decide), this⟩
theorem rows_len (ha : a.natAbs < 10 ^ 300) (hb : b.natAbs < 10 ^ 300) : ∀ x ∈ Rws a b, x.length ≤ 5000 := by
  have oX := T_len ha hb
  have oY := T_len (a := (a.natAbs : Int)) (by rw [Int.natAbs_natCast]; exact ha) hb
  have oA := D_len' ha
  have oB := D_len' hb
  have oA2 := (D_len2 ha).1
  have oB2 := (D_len2 hb).1
  intro x hx
  unfold Rws rowsOf at hx
  simp only [List.mem_cons, List.not_mem_nil, or_false] at hx
  rcases hx with rfl | rfl | rfl | rfl | rfl | rfl | rfl | rfl | rfl | rfl | rfl | rfl | rfl | rfl | rfl | rfl | rfl | rfl | rfl | rfl | rfl | rfl <;> simp only [List.length_append, List.length_cons, List.length_nil] <;> omega
end

theorem lg3 {i : Int} (h : i.natAbs < 10 ^ 310) : i.natAbs.log2 < 1920 := by
  have := lg h (by decide)
  rwa [Int.natAbs_natCast] at this
theorem mul2 {i : Int} (h : i.natAbs < 10 ^ 300) : Mir.MulOk i 2 := by
  have e : i.natAbs.log2 < 1920 := lg3 (Nat.lt_of_lt_of_le h (Nat.pow_le_pow_right (by decide) (by decide)))
  have e2 : (2 : Int).natAbs.log2 = 1 := by decide
  unfold Mir.MulOk
  omega
theorem spoilt_ok {a b : Int} (ha : a.natAbs < 10 ^ 300) (hb : b.natAbs < 10 ^ 300) {w : Int} (h0 : 0 ≤ w) (h1 : w < 22) (s : Hd) : ∃ x, m__law_spoilt [rat a b, .int w] s = .ok (.str (S x)) s ∧ x ∈ Rws a b := by
  have big : ∀ {i : Int} {k : Nat}, i.natAbs < 10 ^ k → k ≤ 310 → i.natAbs < 10 ^ 320 := fun h hk => Nat.lt_of_lt_of_le h (Nat.pow_le_pow_right (by decide) (by omega))
  have big1 : ∀ {i : Int} {k : Nat}, i.natAbs < 10 ^ k → k ≤ 310 → i.natAbs < 10 ^ 310 := fun h hk => Nat.lt_of_lt_of_le h (Nat.pow_le_pow_right (by decide) hk)
  have ha' : ((a.natAbs : Nat) : Int).natAbs < 10 ^ 300 := by rw [Int.natAbs_natCast]; exact ha
  have lX := T_len ha hb
  have lY := T_len ha' hb
  have lA := D_len' ha
  have lB := D_len' hb
  have lA2 := (D_len2 ha).1
  have lB2 := (D_len2 hb).1
  have t1 := law_text_ok (big ha (by decide)) (big hb (by decide)) s
  have t2 := law_text_ok (big ha' (by decide)) (big hb (by decide)) s
  have f1 := fstr_ok (lg3 (big1 ha (by decide)))
  have f2 := fstr_ok (lg3 (big1 hb (by decide)))
  have g1 := fstr_ok (lg3 (big1 (D_len2 ha).2 (by decide)))
  have g2 := fstr_ok (lg3 (big1 (D_len2 hb).2 (by decide)))
  have ab : (if a < 0 then -a else a) = ((a.natAbs : Nat) : Int) := by split <;> omega
  have E0 : (mSet 2 (mCall 1 [] m__law_text (mCons (mVar 0) mNil))) (startE 7 [rat a b, .int w]) s = .ok (.nx [.dat (rat a b), .dat (.int w), .dat (.str (S (T a b))), .no, .no, .no, .no]) s := by
    generalize S (T a b) = U at *
    simp [startE, mSet, mCall, mCons, mNil, mVar, t1]
  have E1 : (mSet 3 (mCall 1 [] m__law_text (mCons (mTup (mCons (mCB fAbs (mCons (mOp fIx (mVar 0) (mC (.int 0))) mNil)) (mCons (mOp fIx (mVar 0) (mC (.int 1))) mNil))) mNil))) [.dat (rat a b), .dat (.int w), .dat (.str (S (T a b))), .no, .no, .no, .no] s = .ok (.nx [.dat (rat a b), .dat (.int w), .dat (.str (S (T a b))), .dat (.str (S (T (a.natAbs : Int) b))), .no, .no, .no]) s := by
    generalize S (T a b) = U at *
    generalize S (T (a.natAbs : Int) b) = V at *
    have fa : fAbs [.int a] = some (.int (a.natAbs : Int)) := by
      show some (Dt.int _) = _
      rw [ab]
    generalize ((a.natAbs : Nat) : Int) = aa at *
    simp [mSet, mCall, mTup, mCB, mOp, mC, mCons, mNil, mVar, fIx, at0, at1, fa, t2]
  have E2 : (mPar 4 5 (mCons (mCB fStr (mCons (mOp fIx (mVar 0) (mC (.int 0))) mNil)) (mCons (mCB fStr (mCons (mOp fIx (mVar 0) (mC (.int 1))) mNil)) mNil))) [.dat (rat a b), .dat (.int w), .dat (.str (S (T a b))), .dat (.str (S (T (a.natAbs : Int) b))), .no, .no, .no] s = .ok (.nx [.dat (rat a b), .dat (.int w), .dat (.str (S (T a b))), .dat (.str (S (T (a.natAbs : Int) b))), .dat (.str (S (D a))), .dat (.str (S (D b))), .no]) s := by
    generalize S (T a b) = U at *
    generalize S (T (a.natAbs : Int) b) = V at *
    generalize S (D a) = DA at *
    generalize S (D b) = DB at *
    simp [mPar, mCB, mOp, mC, mCons, mNil, mVar, fIx, at0, at1, f1, f2]
  have E3 := sp_1 (R := rat a b) (W := .int w) (z := .no) lX lY lA lB lA2 lB2 s
  have E4 := sp_2 (a := a) (b := b) (W := .int w) lX lY lA lB lA2 lB2 (mul2 ha) (mul2 hb) g1 g2 (L := (rowsOf (T a b) (T (a.natAbs : Int) b) (D a) (D b) (D (a * 2)) (D (b * 2))).take 8 |>.map fun l => Dt.str (S l)) (by simp [rowsOf]) s
  have E5 := sp_3 (R := rat a b) (W := .int w) lX lY lA lB lA2 lB2 (L := (rowsOf (T a b) (T (a.natAbs : Int) b) (D a) (D b) (D (a * 2)) (D (b * 2))).take 14 |>.map fun l => Dt.str (S l)) (by simp [rowsOf]) s
  have hl : w.toNat < (Rws a b).length := by
    show _ < 22
    omega
  have hg := List.getElem?_eq_getElem hl
  have hm := List.getElem_mem hl
  generalize (Rws a b)[w.toNat] = x at *
  refine ⟨x, ?_, hm⟩
  have hi : atI ((Rws a b).map fun l => Dt.str (S l)) w = some (.str (S x)) := by
    have := atI_nat (xs := (Rws a b).map fun l => Dt.str (S l)) (j := w.toNat) (by rw [List.getElem?_map, hg]; rfl)
    rwa [Int.toNat_of_nonneg h0] at this
  have E6 : (mRet (mOp fIx (mVar 6) (mVar 1))) [.dat (rat a b), .dat (.int w), .dat (.str (S (T a b))), .dat (.str (S (T (a.natAbs : Int) b))), .dat (.str (S (D a))), .dat (.str (S (D b))), .dat (.lst ((Rws a b).map fun l => Dt.str (S l)))] s = .ok (.rt (.str (S x))) s := by
    generalize ((Rws a b).map fun l => Dt.str (S l)) = LL at *
    generalize S (T a b) = U at *
    generalize S (T (a.natAbs : Int) b) = V at *
    generalize S (D a) = DA at *
    generalize S (D b) = DB at *
    generalize S x = XX at *
    simp [mRet, mOp, mVar, fIx, hi]
  exact def_rt ((seq_nx E0).trans ((seq_nx E1).trans ((seq_nx E2).trans ((seq_nx E3).trans ((seq_nx E4).trans ((seq_nx E5).trans E6))))))
end Law


set_option Elab.async false
set_option linter.all false
set_option maxRecDepth 100000
set_option exponentiation.threshold 2000
namespace Law
open PySem PySem.Spec PyProof.Rows L2 Mir
open SX (S S_len S_cat S_beq_eq S_inj)
open TL (numL numL_lt numL_step numL_digits numL_ne numL_free numL_val numL_inj numL_len)
open PySem.NumText (AllDigits digitsVal)
theorem mo9 : manyOk 9 := by decide +kernel
theorem mo10 : manyOk 10 := by decide +kernel
theorem mo25 : manyOk 25 := by decide +kernel
theorem moG : manyOk 1000000000 := by decide +kernel
theorem mo2 : manyOk 2 := by decide +kernel
theorem cp9 : CPow 10 9 := ⟨by decide, by decide, by decide⟩
theorem p9 : (10 : Int) ^ (9 : Int).toNat = 1000000000 := by decide
theorem sz_of {i : Int} {k : Nat} (h : i.natAbs < 10 ^ k) : Sz (4 * k) i := by
  have e : 10 ^ k ≤ (2 ^ 4) ^ k := Nat.pow_le_pow_left (by decide) k
  rw [← Nat.pow_mul] at e
  exact Nat.lt_of_lt_of_le h e
/-! ### long numbers -/
def longBody : MS := (mSet 1 (mOp fAdd (mOp fMul (mVar 1) (mC (.int 10))) (mCall 2 [] m__law_take (mCons (mVar 0) (mCons (mC (.int 10)) mNil)))))
theorem long_loop : ∀ (ds : List Dt) (k v : Nat) (z : Sl) (s : Hd), k + ds.length ≤ 305 → 10 ^ k ≤ v → v < 10 ^ (k + 1) →
    ∃ (w : Nat) (z' : Sl) (s' : Hd), loopF (gmName 2) longBody ds [.dat .hnd, .dat (.int (v : Int)), z] s = .ok (.nx [.dat .hnd, .dat (.int (w : Int)), z']) s' ∧ 10 ^ (k + ds.length) ≤ w ∧ w < 10 ^ (k + ds.length + 1)
  | [], k, v, z, s, _, h1, h2 => ⟨v, z, s, rfl, h1, h2⟩
  | d :: ds, k, v, z, s, hk, h1, h2 => by
    have b0 : 0 ≤ takeV s 10 := takeV_ge (by decide)
    have b1 : takeV s 10 < 10 := takeV_lt (by decide)
    have tk := take_ok s mo10
    have hk' : k + 1 + ds.length ≤ 305 := by
      rw [List.length_cons] at hk
      omega
    have mk : Mir.MulOk (v : Int) 10 := MulOk.of (m := 4 * (k + 1)) (n := 4) (sz_of (by rw [Int.natAbs_natCast]; exact h2)) (by unfold Sz; decide) (by omega)
    obtain ⟨t, ht⟩ : ∃ t : Nat, takeV s 10 = (t : Int) := ⟨(takeV s 10).toNat, (Int.toNat_of_nonneg b0).symm⟩
    rw [ht] at tk b1
    have e10 : 10 ^ (k + 1) = 10 * 10 ^ k := by rw [Nat.pow_succ, Nat.mul_comm]
    have e11 : 10 ^ (k + 1 + 1) = 10 * 10 ^ (k + 1) := by rw [Nat.pow_succ, Nat.mul_comm]
    obtain ⟨w, z', s', e, w1, w2⟩ := long_loop ds (k + 1) (v * 10 + t) (.dat d) (takeS s 10) hk' (by omega) (by omega)
    have el : k + (d :: ds).length = k + 1 + ds.length := by
      rw [List.length_cons]
      omega
    refine ⟨w, z', s', ?_, by rw [el]; exact w1, by rw [el]; exact w2⟩
    unfold loopF
    have E : longBody ([.dat .hnd, .dat (.int (v : Int)), z].set 2 (.dat d)) s = .ok (.nx [.dat .hnd, .dat (.int (((v * 10 + t : Nat)) : Int)), .dat d]) (takeS s 10) := by
      have c : ((v * 10 + t : Nat) : Int) = (v : Int) * 10 + (t : Int) := by omega
      rw [c]
      generalize (v : Int) = V at *
      generalize (t : Int) = TT at *
      simp [longBody, mSet, mOp, mVar, mC, fMul, mk, mCall, mCons, mNil, tk, fAdd]
    have eg : gmName 2 d [.dat .hnd, .dat (.int (v : Int)), z] = some ([.dat .hnd, .dat (.int (v : Int)), z].set 2 (.dat d)) := rfl
    rw [eg]
    simp only [E]
    exact e
theorem long_ok (s : Hd) : ∃ (v : Nat) (s' : Hd), m__law_long [.hnd] s = .ok (.int (v : Int)) s' ∧ 10 ^ 299 ≤ v ∧ v < 10 ^ 300 := by
  have b0 : 0 ≤ takeV s 9 := takeV_ge (by decide)
  have b1 : takeV s 9 < 9 := takeV_lt (by decide)
  have tk := take_ok s mo9
  obtain ⟨t, ht⟩ : ∃ t : Nat, takeV s 9 = (t : Int) := ⟨(takeV s 9).toNat, (Int.toNat_of_nonneg b0).symm⟩
  rw [ht] at tk b1
  have ll : (rangeD 0 (299 : Int).toNat).length = 299 := by
    unfold rangeD
    rw [List.length_map, List.length_range]
    rfl
  obtain ⟨w, z', s', e, w1, w2⟩ := long_loop (rangeD 0 (299 : Int).toNat) 0 (1 + t) .no (takeS s 9) (by rw [ll]; decide) (by omega) (by omega)
  rw [ll] at w1 w2
  refine ⟨w, s', ?_, w1, w2⟩
  have E1 : (mSet 1 (mOp fAdd (mC (.int 1)) (mCall 2 [] m__law_take (mCons (mVar 0) (mCons (mC (.int 9)) mNil))))) (startE 3 [.hnd]) s = .ok (.nx [.dat .hnd, .dat (.int ((1 + t : Nat) : Int)), .no]) (takeS s 9) := by
    have c : ((1 + t : Nat) : Int) = 1 + (t : Int) := by omega
    rw [c]
    simp [startE, mSet, mOp, mC, mCall, mCons, mNil, mVar, tk, fAdd]
  have rk : rngOk 299 := by decide
  have E2 : (mFor (gmName 2) (mRng1 (mC (.int 299))) longBody) [.dat .hnd, .dat (.int ((1 + t : Nat) : Int)), .no] (takeS s 9) = .ok (.nx [.dat .hnd, .dat (.int (w : Int)), z']) s' := by
    rw [for_of (ds := rangeD 0 (299 : Int).toNat) (s' := takeS s 9) (by simp [mRng1, mC, rk])]
    exact e
  exact def_rt ((seq_nx E1).trans ((seq_nx E2).trans rfl))
/-! ### wide numbers -/
def wideBody : MS := (mSet 2 (mOp fAdd (mOp fMul (mVar 2) (mOp fPow (mC (.int 10)) (mC (.int 9)))) (mCall 2 [] m__law_take (mCons (mVar 0) (mCons (mOp fPow (mC (.int 10)) (mC (.int 9))) mNil)))))
theorem wide_loop : ∀ (ds : List Dt) (k v : Nat) (V z : Sl) (s : Hd), k + ds.length ≤ 10 → v < 10 ^ (9 * k) →
    ∃ (w : Nat) (z' : Sl) (s' : Hd), loopF (gmName 3) wideBody ds [.dat .hnd, V, .dat (.int (v : Int)), z] s = .ok (.nx [.dat .hnd, V, .dat (.int (w : Int)), z']) s' ∧ w < 10 ^ (9 * (k + ds.length))
  | [], k, v, V, z, s, _, h1 => ⟨v, z, s, rfl, h1⟩
  | d :: ds, k, v, V, z, s, hk, h1 => by
    have b0 : 0 ≤ takeV s 1000000000 := takeV_ge (by decide)
    have b1 : takeV s 1000000000 < 1000000000 := takeV_lt (by decide)
    have tk := take_ok s moG
    have hk' : k + 1 + ds.length ≤ 10 := by
      rw [List.length_cons] at hk
      omega
    have mk : Mir.MulOk (v : Int) 1000000000 := MulOk.of (m := 4 * (9 * k)) (n := 31) (sz_of (by rw [Int.natAbs_natCast]; exact h1)) (by unfold Sz; decide) (by omega)
    obtain ⟨t, ht⟩ : ∃ t : Nat, takeV s 1000000000 = (t : Int) := ⟨(takeV s 1000000000).toNat, (Int.toNat_of_nonneg b0).symm⟩
    rw [ht] at tk b1
    have e11 : 10 ^ (9 * (k + 1)) = 1000000000 * 10 ^ (9 * k) := by
      rw [Nat.mul_add, Nat.pow_add, Nat.mul_comm]
    obtain ⟨w, z', s', e, w2⟩ := wide_loop ds (k + 1) (v * 1000000000 + t) V (.dat d) (takeS s 1000000000) hk' (by omega)
    have el : k + (d :: ds).length = k + 1 + ds.length := by
      rw [List.length_cons]
      omega
    refine ⟨w, z', s', ?_, by rw [el]; exact w2⟩
    unfold loopF
    have E : wideBody ([.dat .hnd, V, .dat (.int (v : Int)), z].set 3 (.dat d)) s = .ok (.nx [.dat .hnd, V, .dat (.int (((v * 1000000000 + t : Nat)) : Int)), .dat d]) (takeS s 1000000000) := by
      have c : ((v * 1000000000 + t : Nat) : Int) = (v : Int) * 1000000000 + (t : Int) := by omega
      rw [c]
      generalize (v : Int) = VV at *
      generalize (t : Int) = TT at *
      simp [wideBody, mSet, mOp, mVar, mC, fPow, fI, cp9, p9, fMul, mk, mCall, mCons, mNil, tk, fAdd]
    have eg : gmName 3 d [.dat .hnd, V, .dat (.int (v : Int)), z] = some ([.dat .hnd, V, .dat (.int (v : Int)), z].set 3 (.dat d)) := rfl
    rw [eg]
    simp only [E]
    exact e
end Law


set_option Elab.async false
set_option linter.all false
set_option maxRecDepth 100000
set_option exponentiation.threshold 2000
namespace Law
open PySem PySem.Spec PyProof.Rows L2 Mir
open SX (S S_len S_cat S_beq_eq S_inj)
open TL (numL numL_lt numL_step numL_digits numL_ne numL_free numL_val numL_inj numL_len)
open PySem.NumText (AllDigits digitsVal)
theorem wide_body : b__law_wide = mSeq (mSet 1 (mCall 2 [] m__law_take (mCons (mVar 0) (mCons (mC (.int 9)) mNil))))
    (mSeq (mIfS (mTest (mOp fLt (mVar 1) (mC (.int 6)))) (mRet (mOp fSub (mCall 2 [] m__law_take (mCons (mVar 0) (mCons (mC (.int 25)) mNil))) (mC (.int 12)))) mNext)
    (mSeq (mSet 2 (mC (.int 0)))
    (mSeq (mFor (gmName 3) (mRng1 (mIf (mTest (mOp fLt (mVar 1) (mC (.int 8)))) (mC (.int 1)) (mC (.int 5)))) wideBody)
    (mRet (mOp fMul (mVar 2) (mOp fSub (mC (.int 1)) (mOp fMul (mC (.int 2)) (mCall 2 [] m__law_take (mCons (mVar 0) (mCons (mC (.int 2)) mNil)))))))))) := rfl
theorem wide_ok (s : Hd) : ∃ (i : Int) (s' : Hd), m__law_wide [.hnd] s = .ok (.int i) s' ∧ i.natAbs < 10 ^ 46 := by
  have b0 : 0 ≤ takeV s 9 := takeV_ge (by decide)
  have b1 : takeV s 9 < 9 := takeV_lt (by decide)
  have tk := take_ok s mo9
  have E1 : (mSet 1 (mCall 2 [] m__law_take (mCons (mVar 0) (mCons (mC (.int 9)) mNil)))) (startE 4 [.hnd]) s = .ok (.nx [.dat .hnd, .dat (.int (takeV s 9)), .no, .no]) (takeS s 9) := by
    simp [startE, mSet, mCall, mCons, mNil, mVar, mC, tk]
  generalize takeV s 9 = v at *
  generalize takeS s 9 = s1 at *
  by_cases c : v < 6
  · have c0 : 0 ≤ takeV s1 25 := takeV_ge (by decide)
    have c1 : takeV s1 25 < 25 := takeV_lt (by decide)
    have tk2 := take_ok s1 mo25
    refine ⟨takeV s1 25 - 12, takeS s1 25, ?_, ?_⟩
    · have E2 : (mIfS (mTest (mOp fLt (mVar 1) (mC (.int 6)))) (mRet (mOp fSub (mCall 2 [] m__law_take (mCons (mVar 0) (mCons (mC (.int 25)) mNil))) (mC (.int 12)))) mNext) [.dat .hnd, .dat (.int v), .no, .no] s1 = .ok (.rt (.int (takeV s1 25 - 12))) (takeS s1 25) := by
        simp [mIfS, mTest, mOp, mVar, mC, fLt, fI, c, mRet, mCall, mCons, mNil, tk2, fSub]
      unfold m__law_wide
      rw [wide_body]
      exact def_rt ((seq_nx E1).trans (seq_rt E2))
    · have : (10 : Nat) ^ 2 ≤ 10 ^ 46 := Nat.pow_le_pow_right (by decide) (by decide)
      omega
  · have E2 : (mIfS (mTest (mOp fLt (mVar 1) (mC (.int 6)))) (mRet (mOp fSub (mCall 2 [] m__law_take (mCons (mVar 0) (mCons (mC (.int 25)) mNil))) (mC (.int 12)))) mNext) [.dat .hnd, .dat (.int v), .no, .no] s1 = .ok (.nx [.dat .hnd, .dat (.int v), .no, .no]) s1 := by
      simp [mIfS, mTest, mOp, mVar, mC, fLt, fI, c, mNext]
    have E3 : (mSet 2 (mC (.int 0))) [.dat .hnd, .dat (.int v), .no, .no] s1 = .ok (.nx [.dat .hnd, .dat (.int v), .dat (.int ((0 : Nat) : Int)), .no]) s1 := rfl
    obtain ⟨n, hn, rk⟩ : ∃ n : Int, (n = 1 ∨ n = 5) ∧ (mRng1 (mIf (mTest (mOp fLt (mVar 1) (mC (.int 8)))) (mC (.int 1)) (mC (.int 5)))) [.dat .hnd, .dat (.int v), .dat (.int ((0 : Nat) : Int)), .no] s1 = .ok (rangeD 0 n.toNat) s1 := by
      have r1 : rngOk 1 := by decide
      have r5 : rngOk 5 := by decide
      by_cases c8 : v < 8
      · exact ⟨1, .inl rfl, by simp [mRng1, mIf, mTest, mOp, mVar, mC, fLt, fI, c8, r1]⟩
      · exact ⟨5, .inr rfl, by simp [mRng1, mIf, mTest, mOp, mVar, mC, fLt, fI, c8, r5]⟩
    have ll : (rangeD 0 n.toNat).length ≤ 5 := by
      unfold rangeD
      rw [List.length_map, List.length_range]
      omega
    obtain ⟨w, z', s2, e, w2⟩ := wide_loop (rangeD 0 n.toNat) 0 0 (.dat (.int v)) .no s1 (by omega) (by decide)
    have w3 : w < 10 ^ 45 := Nat.lt_of_lt_of_le w2 (Nat.pow_le_pow_right (by decide) (by omega))
    have E4 : (mFor (gmName 3) (mRng1 (mIf (mTest (mOp fLt (mVar 1) (mC (.int 8)))) (mC (.int 1)) (mC (.int 5)))) wideBody) [.dat .hnd, .dat (.int v), .dat (.int ((0 : Nat) : Int)), .no] s1 = .ok (.nx [.dat .hnd, .dat (.int v), .dat (.int (w : Int)), z']) s2 := by
      rw [for_of rk]
      exact e
    have c0 : 0 ≤ takeV s2 2 := takeV_ge (by decide)
    have c1 : takeV s2 2 < 2 := takeV_lt (by decide)
    have tk2 := take_ok s2 mo2
    have hs : (1 - 2 * takeV s2 2).natAbs = 1 := by omega
    have mk2 : Mir.MulOk 2 (takeV s2 2) := MulOk.of (m := 3) (n := 3) (by unfold Sz; decide) (by unfold Sz; omega) (by decide)
    have mk : Mir.MulOk (w : Int) (1 - 2 * takeV s2 2) := MulOk.of (m := 180) (n := 3) ((sz_of (k := 45) (by rw [Int.natAbs_natCast]; exact w3)).mono (by decide)) (by unfold Sz; omega) (by decide)
    have ha : ((w : Int) * (1 - 2 * takeV s2 2)).natAbs < 10 ^ 46 := by
      rw [Int.natAbs_mul, hs, Int.natAbs_natCast, Nat.mul_one]
      exact Nat.lt_of_lt_of_le w3 (Nat.pow_le_pow_right (by decide) (by decide))
    refine ⟨(w : Int) * (1 - 2 * takeV s2 2), takeS s2 2, ?_, ha⟩
    have E5 : (mRet (mOp fMul (mVar 2) (mOp fSub (mC (.int 1)) (mOp fMul (mC (.int 2)) (mCall 2 [] m__law_take (mCons (mVar 0) (mCons (mC (.int 2)) mNil))))))) [.dat .hnd, .dat (.int v), .dat (.int (w : Int)), z'] s2 = .ok (.rt (.int ((w : Int) * (1 - 2 * takeV s2 2)))) (takeS s2 2) := by
      generalize (w : Int) = WW at *
      simp [mRet, mOp, mVar, mC, fSub, fI, fMul, mCall, mCons, mNil, tk2, mk2, mk]
    unfold m__law_wide
    rw [wide_body]
    exact def_rt ((seq_nx E1).trans ((seq_nx E2).trans ((seq_nx E3).trans ((seq_nx E4).trans E5))))
/-- a ratio that is drawn -/
structure One (a b : Int) : Prop where
  is : IsR a b
  ha : a.natAbs < 10 ^ 300
  hb : b.natAbs < 10 ^ 300
theorem lratio_one {t b : Int} (h : b ≠ 0) (ht : t.natAbs < 10 ^ 300) (hb : b.natAbs < 10 ^ 300) (s : Hd) : ∃ x y : Int, m__law_ratio [.int t, .int b] s = .ok (rat x y) s ∧ One x y :=
  ⟨lowT t b, lowB t b, ratio_ok h ((sz_of hb).mono (by decide)) s, low_is h, Nat.lt_of_le_of_lt (lowT_abs h) ht, Nat.lt_of_le_of_lt (lowB_abs h) hb⟩
theorem wide_ratio_ok (s : Hd) : ∃ (a b : Int) (s' : Hd), m__law_wide_ratio [.hnd] s = .ok (rat a b) s' ∧ One a b := by
  obtain ⟨i, s1, e1, h1⟩ := wide_ok s
  obtain ⟨j, s2, e2, h2⟩ := wide_ok s1
  have up : (10 : Nat) ^ 46 ≤ 10 ^ 299 := Nat.pow_le_pow_right (by decide) (by decide)
  have ab : fAbs [.int j] = some (.int (j.natAbs : Int)) := by
    show some (Dt.int _) = _
    have : (if j < 0 then -j else j) = ((j.natAbs : Nat) : Int) := by split <;> omega
    rw [this]
  obtain ⟨x, y, e, o⟩ := lratio_one (t := i) (b := 1 + (j.natAbs : Int)) (by omega) (by omega) (by omega) s2
  refine ⟨x, y, s2, ?_, o⟩
  generalize (j.natAbs : Int) = J at *
  simp [m__law_wide_ratio, mDef, b__law_wide_ratio, startE, mRet, mCall, mCons, mNil, mVar, mOp, mC, fAdd, mCB, e1, e2, ab, e]
theorem plain_ok (a b : Int) (s : Hd) : m__law_plain [rat a b, rat a b] s = .ok (.bl true) s := by
  have e1 : fEqB (.int 2) (.int 2) = some true := by rw [eq_int]; rfl
  have e2 : fEqB (rat a b) (rat a b) = some true := by rw [eq_rat]; simp
  simp [m__law_plain, mDef, b__law_plain, startE, mSeq, mIfS, mOr, mNot, mTru, mIsi, mVar, fTru, mTest, mOp, mCB, mCons, mNil, fLen, fNe, e1, mC, mNext, mFor, mSeqI, loopF, gmName, mRet, fEq, e2]
/-! ### texts that are too long -/
theorem numL_300 {L : Nat} (h1 : 10 ^ 299 ≤ L) (h2 : L < 10 ^ 300) : (numL L).length = 300 := by
  have a := numL_len (k := 300) (by decide) h2
  rcases Nat.lt_or_ge (numL L).length 300 with h | h
  · have v := val_lt _ (numL L) rfl (numL_digits L)
    rw [numL_val] at v
    have : (10 : Nat) ^ (numL L).length ≤ 10 ^ 299 := Nat.pow_le_pow_right (by decide) (by omega)
    omega
  · omega
theorem D_le {i : Int} (h : i.natAbs < 10 ^ 300) : (D i).length ≤ 301 := D_len (by decide) h
theorem long1 {L : Nat} (h1 : 10 ^ 299 ≤ L) (h2 : L < 10 ^ 300) : Bad (numL L ++ [48]) := fun t b g ht _ e => by
  have l := numL_300 h1 h2
  unfold T at e
  split at e
  · by_cases n : t < 0
    · rw [D_neg n] at e
      have hd := numL_digits L
      have hn := numL_ne L
      generalize numL L = z at *
      cases z with
      | nil => exact absurd rfl hn
      | cons c r =>
        injection e with e _
        have := hd.head
        omega
    · have a := numL_len (k := 300) (by decide) ht
      rw [D_nn (by omega)] at e
      rw [e, List.length_append, l] at a
      simp at a
  · have : 47 ∈ numL L ++ [48] := by rw [← e]; simp
    rcases List.mem_append.mp this with h | h
    · exact numL_free (by decide) h
    · simp at h
theorem long2 {L : Nat} (h1 : 10 ^ 299 ≤ L) (h2 : L < 10 ^ 300) : Bad ([45] ++ numL L ++ [48]) := fun t b g ht _ e => by
  have l := numL_300 h1 h2
  unfold T at e
  split at e
  · have a := D_le ht
    rw [e, List.length_append, List.length_append, l] at a
    simp at a
  · have : 47 ∈ [45] ++ numL L ++ [48] := by rw [← e]; simp
    rcases List.mem_append.mp this with h | h
    · rcases List.mem_append.mp h with h | h
      · simp at h
      · exact numL_free (by decide) h
    · simp at h
theorem long3 {L : Nat} (h1 : 10 ^ 299 ≤ L) (h2 : L < 10 ^ 300) : Bad ([49, 47] ++ numL L ++ [48]) := fun t b g _ hb e => by
  have l := numL_300 h1 h2
  have e : T t b = [49] ++ 47 :: (numL L ++ [48]) := by rw [e]; simp
  obtain ⟨_, e2, _⟩ := T_slash g (by decide) e
  have a := numL_len (k := 300) (by decide) hb
  rw [e2, List.length_append, l] at a
  simp at a
theorem foldl_one (c : Nat) : ∀ (n : Nat) (acc : Array Nat), (List.replicate n #[c]).foldl (· ++ ·) acc = acc ++ (List.replicate n c).toArray
  | 0, acc => by simp
  | n + 1, acc => by
    rw [List.replicate_succ, List.foldl_cons, foldl_one c n, List.replicate_succ, Array.append_assoc]
    congr 1
    simp
theorem rep_ok {c : Nat} {x : Str} {n : Int} (hx : x = S [c]) (h1 : 2 ≤ n) (h2 : n ≤ 10000) : fRep (.str x) (.int n) = some (.str (S (List.replicate n.toNat c))) := by
  subst hx
  show (if _ then _ else _) = _
  rw [if_pos ⟨by omega, h2, Nat.le_of_ble_eq_true rfl, by rw [S_len]; exact Nat.one_ne_zero, by omega⟩]
  have e : (List.replicate n.toNat (S [c]).cps).foldl (· ++ ·) #[] = (List.replicate n.toNat c).toArray := by
    have := foldl_one c n.toNat #[]
    rw [Array.empty_append] at this
    exact this
  rw [e]
end Law


set_option Elab.async false
set_option linter.all false
set_option maxRecDepth 100000
set_option exponentiation.threshold 2000
namespace Law
open PySem PySem.Spec PyProof.Rows L2 Mir
open SX (S S_len S_cat S_beq_eq S_inj)
open TL (numL numL_lt numL_step numL_digits numL_ne numL_free numL_val numL_inj numL_len)
open PySem.NumText (AllDigits digitsVal)
theorem mo8 : manyOk 8 := by decide +kernel
theorem mo4 : manyOk 4 := by decide +kernel
theorem mo22 : manyOk 22 := by decide +kernel
theorem mo6 : manyOk 6 := by decide +kernel
theorem fne_text : fNe (.str "text") (.str "text") = some (.bl false) := by
  have sh : SeqAt.shaped (.str "text") = true := by decide +kernel
  have e : fEqB (.str "text") (.str "text") = some true := by simp [fEqB, py_str _ sh, PyData.eqv]
  simp [fNe, e]
theorem feq_text : fEq (.str "text") (.str "text") = some (.bl true) := by
  have sh : SeqAt.shaped (.str "text") = true := by decide +kernel
  have e : fEqB (.str "text") (.str "text") = some true := by simp [fEqB, py_str _ sh, PyData.eqv]
  simp [fEq, e]
theorem q_7 : ("7" : Str) = S [55] := by decide
theorem q_3 : ("3" : Str) = S [51] := by decide
theorem q_9 : ("9" : Str) = S [57] := by decide
theorem c_1s : ("1/" : Str) = S [49, 47] := by decide
theorem c_s2 : ("/2" : Str) = S [47, 50] := by decide
theorem c_z : ("0" : Str) = S [48] := by decide
theorem c_m : ("-" : Str) = S [45] := by decide
theorem okc_rep {c n : Nat} (h : c < 0x110000) : okc (List.replicate n c) := fun d hd => by
  rw [List.eq_of_mem_replicate hd]
  exact h
def cond8 : MT := (mTest (mOp fEq (mCall 2 [] m__law_take (mCons (mVar 1) (mCons (mC (.int 8)) mNil))) (mC (.int 0))))
theorem cond_ok {ρ : Env'} (h : ρ[1]? = some (.dat .hnd)) (s : Hd) : ∃ c, cond8 ρ s = .ok c (takeS s 8) := by
  have tk := take_ok s mo8
  by_cases c : takeV s 8 = 0
  · have e : fEqB (.int (takeV s 8)) (.int 0) = some true := by rw [eq_int, c]; rfl
    exact ⟨true, by simp [cond8, mTest, mOp, mCall, mCons, mNil, mVar, mC, h, tk, fEq, e]⟩
  · have e : fEqB (.int (takeV s 8)) (.int 0) = some false := by rw [eq_int]; simp [c]
    exact ⟨false, by simp [cond8, mTest, mOp, mCall, mCons, mNil, mVar, mC, h, tk, fEq, e]⟩
/-- the long ones -/
theorem long_part (a b : Int) (s : Hd) : ∃ (x y : Int) (z3 z4 : Sl) (s' : Hd), (mSeq (mSet 3 (mCall 1 [] m__law_long (mCons (mVar 1) mNil))) (mSeq (mSet 4 (mCall 1 [] m__law_long (mCons (mVar 1) mNil))) (mSeq (mSet 2 (mOp fIx (mLst (mCons (mTup (mCons (mVar 3) (mCons (mC (.int 1)) mNil))) (mCons (mTup (mCons (mUn fNeg (mVar 3)) (mCons (mC (.int 1)) mNil))) (mCons (mCall 2 [] m__law_ratio (mCons (mVar 3) (mCons (mVar 4) mNil))) (mCons (mCall 2 [] m__law_ratio (mCons (mC (.int 1)) (mCons (mVar 3) mNil))) mNil))))) (mCall 2 [] m__law_take (mCons (mVar 1) (mCons (mC (.int 4)) mNil))))) (mIfS (mOr (mTest (mOp fNe (mCall 1 [] m__law_read (mCons (mOp fAdd (mCB fStr (mCons (mVar 3) mNil)) (mC (.str "0"))) mNil)) (mC (.str "text")))) (mOr (mTest (mOp fNe (mCall 1 [] m__law_read (mCons (mOp fAdd (mOp fAdd (mC (.str "-")) (mCB fStr (mCons (mVar 3) mNil))) (mC (.str "0"))) mNil)) (mC (.str "text")))) (mTest (mOp fNe (mCall 1 [] m__law_read (mCons (mOp fAdd (mOp fAdd (mC (.str "1/")) (mCB fStr (mCons (mVar 3) mNil))) (mC (.str "0"))) mNil)) (mC (.str "text")))))) (mRet (mC (.bl false))) mNext)))) [.no, .dat .hnd, .dat (rat a b), .no, .no, .no, .no, .no] s = .ok (.nx [.no, .dat .hnd, .dat (rat x y), z3, z4, .no, .no, .no]) s' ∧ One x y := by
  obtain ⟨L, s1, e1, g1, g2⟩ := long_ok s
  obtain ⟨M, s2, e2, h1, h2⟩ := long_ok s1
  have L0 : (0 : Nat) < 10 ^ 299 := Nat.pow_pos (by decide)
  have aL : ((L : Nat) : Int).natAbs < 10 ^ 300 := by rw [Int.natAbs_natCast]; exact g2
  have aM : ((M : Nat) : Int).natAbs < 10 ^ 300 := by rw [Int.natAbs_natCast]; exact h2
  have one1 : (1 : Int).natAbs < 10 ^ 300 := Nat.lt_of_lt_of_le (show 1 < 10 ^ 1 by decide) (Nat.pow_le_pow_right (by decide) (by decide))
  obtain ⟨p, q, ep, op⟩ := lratio_one (t := (L : Int)) (b := (M : Int)) (by omega) aL aM s2
  obtain ⟨p', q', ep', op'⟩ := lratio_one (t := 1) (b := (L : Int)) (by omega) one1 aL s2
  have o1 : One (L : Int) 1 := ⟨⟨by decide, Nat.gcd_one_right _⟩, aL, one1⟩
  have o2 : One (-(L : Int)) 1 := ⟨⟨by decide, Nat.gcd_one_right _⟩, by rw [Int.natAbs_neg]; exact aL, one1⟩
  have b0 : 0 ≤ takeV s2 4 := takeV_ge (by decide)
  have b1 : takeV s2 4 < 4 := takeV_lt (by decide)
  have tk := take_ok s2 mo4
  obtain ⟨x, y, hxy, oxy⟩ : ∃ x y : Int, atI [rat (L : Int) 1, rat (-(L : Int)) 1, rat p q, rat p' q'] (takeV s2 4) = some (rat x y) ∧ One x y := by
    have hk : takeV s2 4 = 0 ∨ takeV s2 4 = 1 ∨ takeV s2 4 = 2 ∨ takeV s2 4 = 3 := by omega
    rcases hk with e | e | e | e <;> rw [e]
    · exact ⟨_, _, rfl, o1⟩
    · exact ⟨_, _, rfl, o2⟩
    · exact ⟨_, _, rfl, op⟩
    · exact ⟨_, _, rfl, op'⟩
  refine ⟨x, y, .dat (.int (L : Int)), .dat (.int (M : Int)), takeS s2 4, ?_, oxy⟩
  have E1 : (mSet 3 (mCall 1 [] m__law_long (mCons (mVar 1) mNil))) [.no, .dat .hnd, .dat (rat a b), .no, .no, .no, .no, .no] s = .ok (.nx [.no, .dat .hnd, .dat (rat a b), .dat (.int (L : Int)), .no, .no, .no, .no]) s1 := by
    simp [mSet, mCall, mCons, mNil, mVar, e1]
  have E2 : (mSet 4 (mCall 1 [] m__law_long (mCons (mVar 1) mNil))) [.no, .dat .hnd, .dat (rat a b), .dat (.int (L : Int)), .no, .no, .no, .no] s1 = .ok (.nx [.no, .dat .hnd, .dat (rat a b), .dat (.int (L : Int)), .dat (.int (M : Int)), .no, .no, .no]) s2 := by
    simp [mSet, mCall, mCons, mNil, mVar, e2]
  have E3 : (mSet 2 (mOp fIx (mLst (mCons (mTup (mCons (mVar 3) (mCons (mC (.int 1)) mNil))) (mCons (mTup (mCons (mUn fNeg (mVar 3)) (mCons (mC (.int 1)) mNil))) (mCons (mCall 2 [] m__law_ratio (mCons (mVar 3) (mCons (mVar 4) mNil))) (mCons (mCall 2 [] m__law_ratio (mCons (mC (.int 1)) (mCons (mVar 3) mNil))) mNil))))) (mCall 2 [] m__law_take (mCons (mVar 1) (mCons (mC (.int 4)) mNil))))) [.no, .dat .hnd, .dat (rat a b), .dat (.int (L : Int)), .dat (.int (M : Int)), .no, .no, .no] s2 = .ok (.nx [.no, .dat .hnd, .dat (rat x y), .dat (.int (L : Int)), .dat (.int (M : Int)), .no, .no, .no]) (takeS s2 4) := by
    generalize (L : Int) = LL at *
    generalize (M : Int) = MM at *
    simp [mSet, mOp, mLst, mTup, mUn, fNeg, mC, mCall, mCons, mNil, mVar, ep, ep', tk, fIx, hxy]
  have d1 := fstr_ok (i := (L : Int)) (lg3 (Nat.lt_of_lt_of_le aL (Nat.pow_le_pow_right (by decide) (by decide))))
  rw [D_nn (Int.natCast_nonneg _), Int.natAbs_natCast] at d1
  have nl := numL_300 g1 g2
  have on : okc (numL L) := okc_num L
  have f1 := fcat (l := numL L) (m := [48]) (by rw [nl]; decide)
  have f2 := fcat (l := [45]) (m := numL L) (by rw [nl]; decide)
  have f3 := fcat (l := [45] ++ numL L) (m := [48]) (by rw [List.length_append, nl]; decide)
  have f4 := fcat (l := [49, 47]) (m := numL L) (by rw [nl]; decide)
  have f5 := fcat (l := [49, 47] ++ numL L) (m := [48]) (by rw [List.length_append, nl]; decide)
  have r1 := lread_no (x := numL L ++ [48]) (okc_app on (okc_lit (by decide))) (by rw [List.length_append, nl]; decide) (long1 g1 g2) (takeS s2 4)
  have r2 := lread_no (x := [45] ++ numL L ++ [48]) (okc_app (okc_app (okc_lit (by decide)) on) (okc_lit (by decide))) (by rw [List.length_append, List.length_append, nl]; decide) (long2 g1 g2) (takeS s2 4)
  have r3 := lread_no (x := [49, 47] ++ numL L ++ [48]) (okc_app (okc_app (okc_lit (by decide)) on) (okc_lit (by decide))) (by rw [List.length_append, List.length_append, nl]; decide) (long3 g1 g2) (takeS s2 4)
  have E4 : (mIfS (mOr (mTest (mOp fNe (mCall 1 [] m__law_read (mCons (mOp fAdd (mCB fStr (mCons (mVar 3) mNil)) (mC (.str "0"))) mNil)) (mC (.str "text")))) (mOr (mTest (mOp fNe (mCall 1 [] m__law_read (mCons (mOp fAdd (mOp fAdd (mC (.str "-")) (mCB fStr (mCons (mVar 3) mNil))) (mC (.str "0"))) mNil)) (mC (.str "text")))) (mTest (mOp fNe (mCall 1 [] m__law_read (mCons (mOp fAdd (mOp fAdd (mC (.str "1/")) (mCB fStr (mCons (mVar 3) mNil))) (mC (.str "0"))) mNil)) (mC (.str "text")))))) (mRet (mC (.bl false))) mNext) [.no, .dat .hnd, .dat (rat x y), .dat (.int (L : Int)), .dat (.int (M : Int)), .no, .no, .no] (takeS s2 4) = .ok (.nx [.no, .dat .hnd, .dat (rat x y), .dat (.int (L : Int)), .dat (.int (M : Int)), .no, .no, .no]) (takeS s2 4) := by
    have nt := fne_text
    simp only [mIfS, mOr, mTest, mOp, mCall, mCons, mNil, mCB, mC, mVar, c_z, c_m, c_1s]
    generalize S ([49, 47] ++ numL L ++ [48]) = v1 at *
    generalize S ([49, 47] ++ numL L) = v2 at *
    generalize S ([45] ++ numL L ++ [48]) = v3 at *
    generalize S ([45] ++ numL L) = v4 at *
    generalize S (numL L ++ [48]) = v5 at *
    generalize S (numL L) = v6 at *
    generalize S [48] = v7 at *
    generalize S [45] = v8 at *
    generalize S [49, 47] = v9 at *
    generalize ("text" : Str) = tx at *
    generalize (L : Int) = LL at *
    generalize (M : Int) = MM at *
    simp [d1, f1, f2, f3, f4, f5, r1, r2, r3, nt, mNext]
  exact (seq_nx E1).trans ((seq_nx E2).trans ((seq_nx E3).trans E4))
/-- the far ones -/
theorem far_part (z2 z3 z4 : Sl) (s : Hd) : ∃ (z5 : Sl) (s' : Hd), (mSeq (mSet 5 (mOp fIx (mLst (mCons (mOp fRep (mC (.str "7")) (mC (.int 5000))) (mCons (mOp fAdd (mC (.str "-")) (mOp fRep (mC (.str "7")) (mC (.int 4400)))) (mCons (mOp fAdd (mC (.str "1/")) (mOp fRep (mC (.str "3")) (mC (.int 4301)))) (mCons (mOp fAdd (mOp fRep (mC (.str "9")) (mC (.int 4301))) (mC (.str "/2"))) mNil))))) (mCall 2 [] m__law_take (mCons (mVar 1) (mCons (mC (.int 4)) mNil))))) (mIfS (mTest (mOp fNe (mCall 1 [] m__law_read (mCons (mVar 5) mNil)) (mC (.str "text")))) (mRet (mC (.bl false))) mNext)) [.no, .dat .hnd, z2, z3, z4, .no, .no, .no] s = .ok (.nx [.no, .dat .hnd, z2, z3, z4, z5, .no, .no]) s' := by
  have p1 := rep_ok (n := 5000) q_7 (by decide) (by decide)
  have p2 := rep_ok (n := 4400) q_7 (by decide) (by decide)
  have p3 := rep_ok (n := 4301) q_3 (by decide) (by decide)
  have p4 := rep_ok (n := 4301) q_9 (by decide) (by decide)
  rw [q_7] at p1 p2
  rw [q_3] at p3
  rw [q_9] at p4
  have w1 : (List.replicate (5000 : Int).toNat 55).length = 5000 := List.length_replicate
  have w2 : (List.replicate (4400 : Int).toNat 55).length = 4400 := List.length_replicate
  have w3 : (List.replicate (4301 : Int).toNat 51).length = 4301 := List.length_replicate
  have w4 : (List.replicate (4301 : Int).toNat 57).length = 4301 := List.length_replicate
  have k1 : okc (List.replicate (5000 : Int).toNat 55) := okc_rep (by decide)
  have k2 : okc (List.replicate (4400 : Int).toNat 55) := okc_rep (by decide)
  have k3 : okc (List.replicate (4301 : Int).toNat 51) := okc_rep (by decide)
  have k4 : okc (List.replicate (4301 : Int).toNat 57) := okc_rep (by decide)
  generalize List.replicate (5000 : Int).toNat 55 = A at *
  generalize List.replicate (4400 : Int).toNat 55 = B at *
  generalize List.replicate (4301 : Int).toNat 51 = C at *
  generalize List.replicate (4301 : Int).toNat 57 = DD at *
  have f2 := fcat (l := [45]) (m := B) (by rw [w2]; decide)
  have f3 := fcat (l := [49, 47]) (m := C) (by rw [w3]; decide)
  have f4 := fcat (l := DD) (m := [47, 50]) (by rw [w4]; decide)
  have b0 : 0 ≤ takeV s 4 := takeV_ge (by decide)
  have b1 : takeV s 4 < 4 := takeV_lt (by decide)
  have tk := take_ok s mo4
  obtain ⟨x, hx, ox, lx, ly⟩ : ∃ x, atI [Dt.str (S A), .str (S ([45] ++ B)), .str (S ([49, 47] ++ C)), .str (S (DD ++ [47, 50]))] (takeV s 4) = some (.str (S x)) ∧ okc x ∧ 700 < x.length ∧ x.length ≤ 100000 := by
    have hk : takeV s 4 = 0 ∨ takeV s 4 = 1 ∨ takeV s 4 = 2 ∨ takeV s 4 = 3 := by omega
    rcases hk with e | e | e | e <;> rw [e]
    · exact ⟨_, rfl, k1, by rw [w1]; decide, by rw [w1]; decide⟩
    · exact ⟨_, rfl, okc_app (okc_lit (by decide)) k2, by rw [List.length_append, w2]; decide, by rw [List.length_append, w2]; decide⟩
    · exact ⟨_, rfl, okc_app (okc_lit (by decide)) k3, by rw [List.length_append, w3]; decide, by rw [List.length_append, w3]; decide⟩
    · exact ⟨_, rfl, okc_app k4 (okc_lit (by decide)), by rw [List.length_append, w4]; decide, by rw [List.length_append, w4]; decide⟩
  have rd := lread_no ox ly (bad_long lx) (takeS s 4)
  refine ⟨.dat (.str (S x)), takeS s 4, ?_⟩
  have nt := fne_text
  have E1 : (mSet 5 (mOp fIx (mLst (mCons (mOp fRep (mC (.str "7")) (mC (.int 5000))) (mCons (mOp fAdd (mC (.str "-")) (mOp fRep (mC (.str "7")) (mC (.int 4400)))) (mCons (mOp fAdd (mC (.str "1/")) (mOp fRep (mC (.str "3")) (mC (.int 4301)))) (mCons (mOp fAdd (mOp fRep (mC (.str "9")) (mC (.int 4301))) (mC (.str "/2"))) mNil))))) (mCall 2 [] m__law_take (mCons (mVar 1) (mCons (mC (.int 4)) mNil))))) [.no, .dat .hnd, z2, z3, z4, .no, .no, .no] s = .ok (.nx [.no, .dat .hnd, z2, z3, z4, .dat (.str (S x)), .no, .no]) (takeS s 4) := by
    simp only [mSet, mOp, mLst, mCall, mCons, mNil, mC, mVar, q_7, q_3, q_9, c_m, c_1s, c_s2]
    generalize S (DD ++ [47, 50]) = v1 at *
    generalize S ([49, 47] ++ C) = v2 at *
    generalize S ([45] ++ B) = v3 at *
    generalize S [47, 50] = v4 at *
    generalize S [49, 47] = v5 at *
    generalize S [45] = v6 at *
    generalize S [55] = v7 at *
    generalize S [51] = v8 at *
    generalize S [57] = v9 at *
    generalize S A = v10 at *
    generalize S B = v11 at *
    generalize S C = v12 at *
    generalize S DD = v13 at *
    generalize S x = v14 at *
    simp [p1, p2, p3, p4, f2, f3, f4, tk, fIx, hx]
  have E2 : (mIfS (mTest (mOp fNe (mCall 1 [] m__law_read (mCons (mVar 5) mNil)) (mC (.str "text")))) (mRet (mC (.bl false))) mNext) [.no, .dat .hnd, z2, z3, z4, .dat (.str (S x)), .no, .no] (takeS s 4) = .ok (.nx [.no, .dat .hnd, z2, z3, z4, .dat (.str (S x)), .no, .no]) (takeS s 4) := by
    generalize S x = v14 at *
    generalize ("text" : Str) = tx at *
    simp [mIfS, mTest, mOp, mCall, mCons, mNil, mC, mVar, rd, nt, mNext]
  exact (seq_nx E1).trans E2
end Law


set_option Elab.async false
set_option linter.all false
set_option maxRecDepth 100000
set_option exponentiation.threshold 2000
namespace Law
open PySem PySem.Spec PyProof.Rows L2 Mir
open SX (S S_len S_cat S_beq_eq S_inj)
open TL (numL numL_lt numL_step numL_digits numL_ne numL_free numL_val numL_inj numL_len)
open PySem.NumText (AllDigits digitsVal)
theorem if_yes {t : MT} {a b : MS} {ρ : Env'} {s s1 : Hd} {r : R Fl} (h : t ρ s = .ok true s1) (e : a ρ s1 = r) : mIfS t a b ρ s = r := by
  unfold mIfS
  rw [h]
  exact e
theorem if_no {t : MT} {a b : MS} {ρ : Env'} {s s1 : Hd} {r : R Fl} (h : t ρ s = .ok false s1) (e : b ρ s1 = r) : mIfS t a b ρ s = r := by
  unfold mIfS
  rw [h]
  exact e
theorem step2 {a b : Int} (o : One a b) (s : Hd) : ∃ (x y : Int) (z3 z4 : Sl) (s' : Hd), (mIfS (mTest (mOp fEq (mCall 2 [] m__law_take (mCons (mVar 1) (mCons (mC (.int 8)) mNil))) (mC (.int 0)))) (mSeq (mSet 3 (mCall 1 [] m__law_long (mCons (mVar 1) mNil))) (mSeq (mSet 4 (mCall 1 [] m__law_long (mCons (mVar 1) mNil))) (mSeq (mSet 2 (mOp fIx (mLst (mCons (mTup (mCons (mVar 3) (mCons (mC (.int 1)) mNil))) (mCons (mTup (mCons (mUn fNeg (mVar 3)) (mCons (mC (.int 1)) mNil))) (mCons (mCall 2 [] m__law_ratio (mCons (mVar 3) (mCons (mVar 4) mNil))) (mCons (mCall 2 [] m__law_ratio (mCons (mC (.int 1)) (mCons (mVar 3) mNil))) mNil))))) (mCall 2 [] m__law_take (mCons (mVar 1) (mCons (mC (.int 4)) mNil))))) (mIfS (mOr (mTest (mOp fNe (mCall 1 [] m__law_read (mCons (mOp fAdd (mCB fStr (mCons (mVar 3) mNil)) (mC (.str "0"))) mNil)) (mC (.str "text")))) (mOr (mTest (mOp fNe (mCall 1 [] m__law_read (mCons (mOp fAdd (mOp fAdd (mC (.str "-")) (mCB fStr (mCons (mVar 3) mNil))) (mC (.str "0"))) mNil)) (mC (.str "text")))) (mTest (mOp fNe (mCall 1 [] m__law_read (mCons (mOp fAdd (mOp fAdd (mC (.str "1/")) (mCB fStr (mCons (mVar 3) mNil))) (mC (.str "0"))) mNil)) (mC (.str "text")))))) (mRet (mC (.bl false))) mNext)))) mNext) [.no, .dat .hnd, .dat (rat a b), .no, .no, .no, .no, .no] s = .ok (.nx [.no, .dat .hnd, .dat (rat x y), z3, z4, .no, .no, .no]) s' ∧ One x y := by
  obtain ⟨c, hc⟩ := cond_ok (ρ := [.no, .dat .hnd, .dat (rat a b), .no, .no, .no, .no, .no]) rfl s
  cases c with
  | true =>
    obtain ⟨x, y, z3, z4, s', e, o'⟩ := long_part a b (takeS s 8)
    exact ⟨x, y, z3, z4, s', if_yes hc e, o'⟩
  | false => exact ⟨a, b, .no, .no, takeS s 8, if_no hc rfl, o⟩
theorem step3 (z2 z3 z4 : Sl) (s : Hd) : ∃ (z5 : Sl) (s' : Hd), (mIfS (mTest (mOp fEq (mCall 2 [] m__law_take (mCons (mVar 1) (mCons (mC (.int 8)) mNil))) (mC (.int 0)))) (mSeq (mSet 5 (mOp fIx (mLst (mCons (mOp fRep (mC (.str "7")) (mC (.int 5000))) (mCons (mOp fAdd (mC (.str "-")) (mOp fRep (mC (.str "7")) (mC (.int 4400)))) (mCons (mOp fAdd (mC (.str "1/")) (mOp fRep (mC (.str "3")) (mC (.int 4301)))) (mCons (mOp fAdd (mOp fRep (mC (.str "9")) (mC (.int 4301))) (mC (.str "/2"))) mNil))))) (mCall 2 [] m__law_take (mCons (mVar 1) (mCons (mC (.int 4)) mNil))))) (mIfS (mTest (mOp fNe (mCall 1 [] m__law_read (mCons (mVar 5) mNil)) (mC (.str "text")))) (mRet (mC (.bl false))) mNext)) mNext) [.no, .dat .hnd, z2, z3, z4, .no, .no, .no] s = .ok (.nx [.no, .dat .hnd, z2, z3, z4, z5, .no, .no]) s' := by
  obtain ⟨c, hc⟩ := cond_ok (ρ := [.no, .dat .hnd, z2, z3, z4, .no, .no, .no]) rfl s
  cases c with
  | true =>
    obtain ⟨z5, s', e⟩ := far_part z2 z3 z4 (takeS s 8)
    exact ⟨z5, s', if_yes hc e⟩
  | false => exact ⟨.no, takeS s 8, if_no hc rfl⟩
theorem zero_T : T 0 1 = [48] := by
  unfold T
  rw [if_pos rfl, D_nn (by decide)]
  exact numL_0
theorem one_zero : One 0 1 := by
  have one1 : (1 : Int).natAbs < 10 ^ 300 := Nat.lt_of_lt_of_le (show 1 < 10 ^ 1 by decide) (Nat.pow_le_pow_right (by decide) (by decide))
  exact ⟨⟨by decide, by decide⟩, Nat.pow_pos (by decide), one1⟩
theorem math (s : Hd) : ∃ s' : Hd, b_law (lawE 6) s = .ok (.rt (.bl true)) s' := by
  obtain ⟨a0, b0, s1, e1, o1⟩ := wide_ratio_ok s
  obtain ⟨a, b, z3, z4, s2, E2, o⟩ := step2 o1 s1
  obtain ⟨z5, s3, E3⟩ := step3 (.dat (rat a b)) z3 z4 s2
  have big : ∀ {i : Int}, i.natAbs < 10 ^ 300 → i.natAbs < 10 ^ 320 := fun h => Nat.lt_of_lt_of_le h (Nat.pow_le_pow_right (by decide) (by decide))
  have one1 : (1 : Int).natAbs < 10 ^ 300 := Nat.lt_of_lt_of_le (show 1 < 10 ^ 1 by decide) (Nat.pow_le_pow_right (by decide) (by decide))
  have rt := fun s => ratio_text_ok (big o.ha) (big o.hb) s
  have lt := fun s => law_text_ok (big o.ha) (big o.hb) s
  have rg := fun s => read_good o.is o.ha o.hb s
  have pl := fun s => plain_ok a b s
  have nx := ne_S (okc_T a b) (okc_T a b)
  rw [decide_eq_true rfl] at nx
  have E1 : (mSet 2 (mCall 1 [] m__law_wide_ratio (mCons (mVar 1) mNil))) (lawE 6) s = .ok (.nx [.no, .dat .hnd, .dat (rat a0 b0), .no, .no, .no, .no, .no]) s1 := by
    simp [lawE, mSet, mCall, mCons, mNil, mVar, e1]
  have E4 : (mSet 6 (mCall 1 [] m_ratio_text (mCons (mVar 2) mNil))) [.no, .dat .hnd, .dat (rat a b), z3, z4, z5, .no, .no] s3 = .ok (.nx [.no, .dat .hnd, .dat (rat a b), z3, z4, z5, .dat (.str (S (T a b))), .no]) s3 := by
    generalize S (T a b) = X at *
    simp [mSet, mCall, mCons, mNil, mVar, rt]
  have E5 : (mIfS (mOr (mTest (mOp fNe (mVar 6) (mCall 1 [] m__law_text (mCons (mVar 2) mNil)))) (mNot (mTru (mIsi "str" (mVar 6))))) (mRet (mC (.bl false))) mNext) [.no, .dat .hnd, .dat (rat a b), z3, z4, z5, .dat (.str (S (T a b))), .no] s3 = .ok (.nx [.no, .dat .hnd, .dat (rat a b), z3, z4, z5, .dat (.str (S (T a b))), .no]) s3 := by
    generalize S (T a b) = X at *
    simp [mIfS, mOr, mTest, mNot, mTru, mIsi, mOp, mCall, mCons, mNil, mVar, lt, nx, fTru, mNext]
  have E6 : (mIfS (mOr (mNot (mTru (mCall 2 [] m__law_plain (mCons (mCall 1 [] m_ratio_of (mCons (mVar 6) mNil)) (mCons (mVar 2) mNil))))) (mNot (mTru (mCall 2 [] m__law_plain (mCons (mCall 1 [] m_ratio_of (mCons (mCall 1 [] m__law_text (mCons (mVar 2) mNil)) mNil)) (mCons (mVar 2) mNil)))))) (mRet (mC (.bl false))) mNext) [.no, .dat .hnd, .dat (rat a b), z3, z4, z5, .dat (.str (S (T a b))), .no] s3 = .ok (.nx [.no, .dat .hnd, .dat (rat a b), z3, z4, z5, .dat (.str (S (T a b))), .no]) s3 := by
    generalize S (T a b) = X at *
    simp [mIfS, mOr, mNot, mTru, mCall, mCons, mNil, mVar, lt, rg, pl, fTru, mNext]
  -- spoilt
  have b0 : 0 ≤ takeV s3 22 := takeV_ge (by decide)
  have b1 : takeV s3 22 < 22 := takeV_lt (by decide)
  have tk := take_ok s3 mo22
  obtain ⟨x, ex, mx⟩ := spoilt_ok o.ha o.hb b0 b1 (takeS s3 22)
  have lx := rows_len o.ha o.hb x mx
  have rx := lread_no (rows_okc x mx) (by omega) (rows_bad x mx) (takeS s3 22)
  have fa := fstr_ok (lg3 (Nat.lt_of_lt_of_le o.ha (Nat.pow_le_pow_right (by decide) (by decide))))
  have ia : IsR a 1 := ⟨by decide, Nat.gcd_one_right _⟩
  have ga := read_good ia o.ha one1 (takeS s3 22)
  have ta : T a 1 = D a := by
    unfold T
    rw [if_pos rfl]
  rw [ta] at ga
  have ra := lread_yes ga
  have na : fNe (rat a 1) (rat a 1) = some (.bl false) := by
    have e2 : fEqB (rat a 1) (rat a 1) = some true := by rw [eq_rat]; simp
    simp [fNe, e2]
  have nt := fne_text
  have E7 : (mIfS (mOr (mTest (mOp fNe (mCall 1 [] m__law_read (mCons (mCall 2 [] m__law_spoilt (mCons (mVar 2) (mCons (mCall 2 [] m__law_take (mCons (mVar 1) (mCons (mC (.int 22)) mNil))) mNil))) mNil)) (mC (.str "text")))) (mTest (mOp fNe (mCall 1 [] m__law_read (mCons (mCB fStr (mCons (mOp fIx (mVar 2) (mC (.int 0))) mNil)) mNil)) (mTup (mCons (mOp fIx (mVar 2) (mC (.int 0))) (mCons (mC (.int 1)) mNil)))))) (mRet (mC (.bl false))) mNext) [.no, .dat .hnd, .dat (rat a b), z3, z4, z5, .dat (.str (S (T a b))), .no] s3 = .ok (.nx [.no, .dat .hnd, .dat (rat a b), z3, z4, z5, .dat (.str (S (T a b))), .no]) (takeS s3 22) := by
    clear rt lt rg pl nx E2 E3 E4 E5 E6 lx mx ga
    generalize S (T a b) = X at *
    generalize S (D a) = DA at *
    generalize S x = XX at *
    generalize ("text" : Str) = tx at *
    simp [mIfS, mOr, mTest, mOp, mCall, mCB, mTup, mC, mCons, mNil, mVar, tk, ex, rx, nt, fIx, at0, fa, ra, na, mNext]
  generalize takeS s3 22 = s4 at *
  have c0 : 0 ≤ takeV s4 6 := takeV_ge (by decide)
  have c1 : takeV s4 6 < 6 := takeV_lt (by decide)
  have tk6 := take_ok s4 mo6
  obtain ⟨d, hd, fd⟩ : ∃ d, atI [Dt.non, .int 3, rat a b, .lst [.str (S (T a b))], .bl true, .tup [.str (S (T a b))]] (takeV s4 6) = some d ∧ fIsi "str" d = some false := by
    have hk : takeV s4 6 = 0 ∨ takeV s4 6 = 1 ∨ takeV s4 6 = 2 ∨ takeV s4 6 = 3 ∨ takeV s4 6 = 4 ∨ takeV s4 6 = 5 := by omega
    rcases hk with e | e | e | e | e | e <;> rw [e]
    · exact ⟨_, rfl, by simp⟩
    · exact ⟨_, rfl, by simp⟩
    · exact ⟨_, rfl, by simp⟩
    · exact ⟨_, rfl, by simp⟩
    · exact ⟨_, rfl, by simp⟩
    · exact ⟨_, rfl, by simp⟩
  have E8 : (mSet 7 (mOp fIx (mLst (mCons (mC .non) (mCons (mC (.int 3)) (mCons (mVar 2) (mCons (mLst (mCons (mVar 6) mNil)) (mCons (mC (.bl true)) (mCons (mTup (mCons (mVar 6) mNil)) mNil))))))) (mCall 2 [] m__law_take (mCons (mVar 1) (mCons (mC (.int 6)) mNil))))) [.no, .dat .hnd, .dat (rat a b), z3, z4, z5, .dat (.str (S (T a b))), .no] s4 = .ok (.nx [.no, .dat .hnd, .dat (rat a b), z3, z4, z5, .dat (.str (S (T a b))), .dat d]) (takeS s4 6) := by
    generalize S (T a b) = X at *
    simp [mSet, mOp, mLst, mTup, mC, mCall, mCons, mNil, mVar, tk6, fIx, hd]
  have rd := lread_other fd (takeS s4 6)
  have g0 := read_good one_zero.is one_zero.ha one_zero.hb (takeS s4 6)
  have t0 := ratio_text_ok (big one_zero.ha) (big one_zero.hb) (takeS s4 6)
  rw [zero_T] at g0 t0
  have p0 := plain_ok 0 1 (takeS s4 6)
  have ft := feq_text
  have f0 : fEq (.str (S [48])) (.str (S [48])) = some (.bl true) := by
    have := eq_S (x := [48]) (y := [48]) (okc_lit (by decide)) (okc_lit (by decide))
    simp [fEq, this]
  refine ⟨takeS s4 6, ?_⟩
  have E9 : (mRet (mAndV (mOp fEq (mCall 1 [] m__law_read (mCons (mVar 7) mNil)) (mC (.str "text"))) (mAndV (mCall 2 [] m__law_plain (mCons (mCall 1 [] m_ratio_of (mCons (mC (.str "0")) mNil)) (mCons (mTup (mCons (mC (.int 0)) (mCons (mC (.int 1)) mNil))) mNil))) (mOp fEq (mCall 1 [] m_ratio_text (mCons (mTup (mCons (mC (.int 0)) (mCons (mC (.int 1)) mNil))) mNil)) (mC (.str "0")))))) [.no, .dat .hnd, .dat (rat a b), z3, z4, z5, .dat (.str (S (T a b))), .dat d] (takeS s4 6) = .ok (.rt (.bl true)) (takeS s4 6) := by
    clear rt lt rg pl nx E2 E3 E4 E5 E6 E7 E8
    simp only [mRet, mAndV, mOp, mCall, mTup, mC, mCons, mNil, mVar, c_z]
    generalize S (T a b) = X at *
    generalize S [48] = Z at *
    generalize ("text" : Str) = tx at *
    simp [rd, ft, fTru, g0, p0, t0, f0]
  exact (seq_nx E1).trans ((seq_nx E2).trans ((seq_nx E3).trans ((seq_nx E4).trans ((seq_nx E5).trans ((seq_nx E6).trans ((seq_nx E7).trans ((seq_nx E8).trans E9)))))))
end Law


set_option Elab.async false
set_option linter.all false
set_option maxRecDepth 100000
set_option maxHeartbeats 4000000
namespace Law
open PySem PySem.Spec PyProof.Rows L2 Mir
open PySem.W (Frag)
def topS (i : Nat) : Stmt := PySem.Challenge.pw_stillarms_k02_whole_ratio_texts_read.main.body.getD i (.Pass ⟨0, 0, 0, 0⟩)
abbrev st__law_hand : Stmt := topS 13
theorem sc__law_hand : FnScope ["_law_script", "_law_great", "_law_mixed", "_law_cell", "_law_size"] ["_law_script"] (defScope st__law_hand) := ⟨rfl, rfl, rfl, by decide +kernel, rfl, by decide +kernel, by decide +kernel⟩
abbrev st__law_take : Stmt := topS 14
theorem sc__law_take : FnScope ["_law_hand_here", "_law_many", "_law_cell", "_law_once", "_law_twice"] ["_law_hand_here", "_law_many"] (defScope st__law_take) := ⟨rfl, rfl, rfl, by decide +kernel, rfl, by decide +kernel, by decide +kernel⟩
abbrev st_whole_text : Stmt := topS 8
theorem sc_whole_text : FnScope ["number", "rest", "parts", "part"] ["number"] (defScope st_whole_text) := ⟨rfl, rfl, rfl, by decide +kernel, rfl, by decide +kernel, by decide +kernel⟩
abbrev st_ratio_text : Stmt := topS 9
theorem sc_ratio_text : FnScope ["one", "top", "bottom"] ["one"] (defScope st_ratio_text) := ⟨rfl, rfl, rfl, by decide +kernel, rfl, by decide +kernel, by decide +kernel⟩
abbrev st__law_plain : Stmt := topS 19
theorem sc__law_plain : FnScope ["_law_told", "_law_due", "_law_part"] ["_law_told", "_law_due"] (defScope st__law_plain) := ⟨rfl, rfl, rfl, by decide +kernel, rfl, by decide +kernel, by decide +kernel⟩
abbrev st__law_long : Stmt := topS 22
theorem sc__law_long : FnScope ["_law_hand_here", "_law_number", "_law_turn"] ["_law_hand_here"] (defScope st__law_long) := ⟨rfl, rfl, rfl, by decide +kernel, rfl, by decide +kernel, by decide +kernel⟩
abbrev st__law_gcd : Stmt := topS 15
theorem sc__law_gcd : FnScope ["_law_one", "_law_other"] ["_law_one", "_law_other"] (defScope st__law_gcd) := ⟨rfl, rfl, rfl, by decide +kernel, rfl, by decide +kernel, by decide +kernel⟩
abbrev st__law_ratio : Stmt := topS 16
theorem sc__law_ratio : FnScope ["_law_top", "_law_bottom", "_law_part"] ["_law_top", "_law_bottom"] (defScope st__law_ratio) := ⟨rfl, rfl, rfl, by decide +kernel, rfl, by decide +kernel, by decide +kernel⟩
abbrev st__law_wide : Stmt := topS 17
theorem sc__law_wide : FnScope ["_law_hand_here", "_law_way", "_law_total", "_law_turn"] ["_law_hand_here"] (defScope st__law_wide) := ⟨rfl, rfl, rfl, by decide +kernel, rfl, by decide +kernel, by decide +kernel⟩
abbrev st__law_wide_ratio : Stmt := topS 18
theorem sc__law_wide_ratio : FnScope ["_law_hand_here"] ["_law_hand_here"] (defScope st__law_wide_ratio) := ⟨rfl, rfl, rfl, by decide +kernel, rfl, by decide +kernel, by decide +kernel⟩
abbrev st_is_whole : Stmt := topS 6
theorem sc_is_whole : FnScope ["thing", "low", "high"] ["thing", "low", "high"] (defScope st_is_whole) := ⟨rfl, rfl, rfl, by decide +kernel, rfl, by decide +kernel, by decide +kernel⟩
abbrev st_is_ratio : Stmt := topS 7
theorem sc_is_ratio : FnScope ["thing", "top", "bottom"] ["thing"] (defScope st_is_ratio) := ⟨rfl, rfl, rfl, by decide +kernel, rfl, by decide +kernel, by decide +kernel⟩
abbrev st_are_digits : Stmt := topS 10
theorem sc_are_digits : FnScope ["text"] ["text"] (defScope st_are_digits) := ⟨rfl, rfl, rfl, by decide +kernel, rfl, by decide +kernel, by decide +kernel⟩
abbrev st_ratio_of : Stmt := topS 11
theorem sc_ratio_of : FnScope ["text", "top", "slash", "bottom", "ratio"] ["text"] (defScope st_ratio_of) := ⟨rfl, rfl, rfl, by decide +kernel, rfl, by decide +kernel, by decide +kernel⟩
abbrev st__law_read : Stmt := topS 21
theorem sc__law_read : FnScope ["_law_text_here", "wrong"] ["_law_text_here"] (defScope st__law_read) := ⟨rfl, rfl, rfl, by decide +kernel, rfl, by decide +kernel, by decide +kernel⟩
abbrev st__law_text : Stmt := topS 20
theorem sc__law_text : FnScope ["_law_one"] ["_law_one"] (defScope st__law_text) := ⟨rfl, rfl, rfl, by decide +kernel, rfl, by decide +kernel, by decide +kernel⟩
abbrev st__law_spoilt : Stmt := topS 23
theorem sc__law_spoilt : FnScope ["_law_one", "_law_way", "_law_text_here", "_law_size", "_law_top", "_law_bottom", "_law_rows"] ["_law_one", "_law_way"] (defScope st__law_spoilt) := ⟨rfl, rfl, rfl, by decide +kernel, rfl, by decide +kernel, by decide +kernel⟩
abbrev st_law : Stmt := topS 24
theorem sc_law : FnScope ["_law_script", "_law_hand_here", "_law_one", "_law_long_here", "_law_other", "_law_far", "_law_text_here", "_law_odd"] ["_law_script"] (defScope st_law) := ⟨rfl, rfl, rfl, by decide +kernel, rfl, by decide +kernel, by decide +kernel⟩
abbrev st_BadRatio : Stmt := inClass (topS 3) 0
theorem sc_BadRatio : FnScope ["self", "what"] ["self", "what"] (defScope st_BadRatio) := ⟨rfl, rfl, rfl, by decide +kernel, rfl, by decide +kernel, by decide +kernel⟩
/-- what the top has written -/
structure Txt (K : Frag) (mg : Str → Option Value) : Prop where
  F__law_hand : ∃ (f : Addr) (fd : FuncData), Fun K "_law_hand" "_law_hand" st__law_hand f fd ∧ mg "_law_hand" = some (.ref f)
  F__law_take : ∃ (f : Addr) (fd : FuncData), Fun K "_law_take" "_law_take" st__law_take f fd ∧ mg "_law_take" = some (.ref f)
  F_whole_text : ∃ (f : Addr) (fd : FuncData), Fun K "whole_text" "whole_text" st_whole_text f fd ∧ mg "whole_text" = some (.ref f)
  F_ratio_text : ∃ (f : Addr) (fd : FuncData), Fun K "ratio_text" "ratio_text" st_ratio_text f fd ∧ mg "ratio_text" = some (.ref f)
  F__law_plain : ∃ (f : Addr) (fd : FuncData), Fun K "_law_plain" "_law_plain" st__law_plain f fd ∧ mg "_law_plain" = some (.ref f)
  F__law_long : ∃ (f : Addr) (fd : FuncData), Fun K "_law_long" "_law_long" st__law_long f fd ∧ mg "_law_long" = some (.ref f)
  F__law_gcd : ∃ (f : Addr) (fd : FuncData), Fun K "_law_gcd" "_law_gcd" st__law_gcd f fd ∧ mg "_law_gcd" = some (.ref f)
  F__law_ratio : ∃ (f : Addr) (fd : FuncData), Fun K "_law_ratio" "_law_ratio" st__law_ratio f fd ∧ mg "_law_ratio" = some (.ref f)
  F__law_wide : ∃ (f : Addr) (fd : FuncData), Fun K "_law_wide" "_law_wide" st__law_wide f fd ∧ mg "_law_wide" = some (.ref f)
  F__law_wide_ratio : ∃ (f : Addr) (fd : FuncData), Fun K "_law_wide_ratio" "_law_wide_ratio" st__law_wide_ratio f fd ∧ mg "_law_wide_ratio" = some (.ref f)
  F_is_whole : ∃ (f : Addr) (fd : FuncData), FunD K "is_whole" "is_whole" (defArgs st_is_whole) (defBody st_is_whole) (defScope st_is_whole) [.non, .non] [] f fd ∧ mg "is_whole" = some (.ref f)
  F_is_ratio : ∃ (f : Addr) (fd : FuncData), Fun K "is_ratio" "is_ratio" st_is_ratio f fd ∧ mg "is_ratio" = some (.ref f)
  F_are_digits : ∃ (f : Addr) (fd : FuncData), Fun K "are_digits" "are_digits" st_are_digits f fd ∧ mg "are_digits" = some (.ref f)
  F_ratio_of : ∃ (f : Addr) (fd : FuncData), Fun K "ratio_of" "ratio_of" st_ratio_of f fd ∧ mg "ratio_of" = some (.ref f)
  F__law_read : ∃ (f : Addr) (fd : FuncData), Fun K "_law_read" "_law_read" st__law_read f fd ∧ mg "_law_read" = some (.ref f)
  F__law_text : ∃ (f : Addr) (fd : FuncData), Fun K "_law_text" "_law_text" st__law_text f fd ∧ mg "_law_text" = some (.ref f)
  F__law_spoilt : ∃ (f : Addr) (fd : FuncData), Fun K "_law_spoilt" "_law_spoilt" st__law_spoilt f fd ∧ mg "_law_spoilt" = some (.ref f)
  F_law : ∃ (f : Addr) (fd : FuncData), Fun K "law" "law" st_law f fd ∧ mg "law" = some (.ref f)
  X_BadRatio : ∃ (C fI : Addr) (fd : FuncData), mg "BadRatio" = some (.ref C) ∧ OexC K C ∧ (∀ f ∈ [("what" : Str)], PySem.W.findIn K (.ref C) f = some none) ∧ PySem.W.findIn K (.ref C) "__init__" = some (some (.ref fI)) ∧ PySem.W.typeIn K (.ref fI) = some (.type "function") ∧ Fun K "__init__" "BadRatio.__init__" st_BadRatio fI fd ∧ PySem.W.exmOne K (.ref C) (.ref C) = some true ∧ XfC K C
  g_MOST_DIGITS : ∃ t : Tok, mg "MOST_DIGITS" = some (.int 300 t)
  i_gcd : mg "gcd" = some (.builtin "math.gcd")
  z_abs : mg "abs" = none
  z_bool : mg "bool" = none
  z_divmod : mg "divmod" = none
  z_int : mg "int" = none
  z_isinstance : mg "isinstance" = none
  z_len : mg "len" = none
  z_range : mg "range" = none
  z_str : mg "str" = none
  z_tuple : mg "tuple" = none
section
variable {P : Program} {w : World} {K : Frag} {mg : Str → Option Value} {base : Heap}
theorem t_BadRatio (T : Txt K mg) : Thrown P w K mg base "BadRatio" ["what"] := by
  obtain ⟨C, fI, fd, h1, h2, h3, h4, h5, F, h6, h7⟩ := T.X_BadRatio
  exact ⟨C, fI, fd, ["self", "what"], h1, h2, h3, h4, h5, init1 F sc_BadRatio rfl, F.binds fun _ _ _ _ _ _ us hl => match us, hl with | [_, _], _ => rfl⟩
theorem f__law_hand (T : Txt K mg) {f : Addr} {fd : FuncData} (F : Fun K "_law_hand" "_law_hand" st__law_hand f fd) : FnOk P w K mg base (L2.CX P w) 1 f fd ["_law_script"] (spHand K) := by
  refine F.okX (k := 0) sc__law_hand (fun vs H Q E h => ?_) (fun cdv A outer s H vs Q E hr h => ⟨tHand K, ?_, ?_⟩)
  · obtain ⟨a, ns, rfl, _⟩ := h
    rfl
  · exact pss_cons (ps_set (i := 1) sc__law_hand.nd rfl (.inl rfl) (pe_lst pa_nil)) (pss_cons (ps_set (i := 2) sc__law_hand.nd rfl (.inl rfl) (pe_op op_add (pe_callB call_lenA (by rfl) T.z_len (by decide +kernel) (pa_cons (pv 0) pa_nil)) pe_int)) (pss_cons (ps_for (passes_of rfl) rfl (pi_list (pv 0)) (pg_name (i := 3) sc__law_hand.nd rfl (.inl rfl)) (pss_cons (ps_set (i := 4) sc__law_hand.nd rfl (.inl rfl) (pe_callB call_abs (by rfl) T.z_abs (by decide +kernel) (pa_cons (pe_callTy call_int1 (by rfl) T.z_int (by decide +kernel) (pa_cons (pv 3) pa_nil)) pa_nil))) (pss_cons (ps_set (i := 2) sc__law_hand.nd rfl (.inl rfl) (pe_op op_add (pe_op op_mod (pe_callTy call_int1 (by rfl) T.z_int (by decide +kernel) (pa_cons (pe_op op_add (pe_op op_mul (pv 2) pe_int) (pv 4)) pa_nil)) pe_int) pe_int)) (pss_one (ps_if (pt_cmpR op_ge (pv 4) (pe_op op_pow pe_int pe_int) (nomark _)) (pss_one (ps_expr (pe_bm PySem.F.plainAttrs_list PySem.F.slot_list_append PySem.F.type_list_append mt_append (pv 1) (pa_cons (pv 4) pa_nil)))) pss_nil))))) (pss_one (ps_ret (pe_lst (pa_cons (pv 1) (pa_cons (pv 2) (pa_cons pe_int pa_nil))))))))
  · have h' := h
    obtain ⟨a, ns, rfl, _⟩ := h'
    exact hand_run h
theorem f__law_take (T : Txt K mg) {f : Addr} {fd : FuncData} (F : Fun K "_law_take" "_law_take" st__law_take f fd) : FnOk P w K mg base (L2.CX P w) 1 f fd ["_law_hand_here", "_law_many"] (spM K mg 2 m__law_take) := by
  refine F.okX (k := 0) sc__law_take (fun vs H Q E h => h.1) (fun cdv A outer s H vs Q E hr h => ⟨tTake K, ?_, ?_⟩)
  · exact pss_cons (ps_while (passes_of rfl) (pw_and (pt_truth (pe_ix ix_list (pv 0) pe_int (fun _ _ => rfl)) (fun _ => rfl)) (pw_and1 (pt_cmpR op_eq (pe_ix ix_list (pe_ix ix_list (pv 0) pe_int (fun _ _ => rfl)) pe_int (fun _ _ => rfl)) pe_int (nomark _)))).pt (pss_one (ps_asg (pe_slice sl_list (pe_ix ix_list (pv 0) pe_int (fun _ _ => rfl)) (po_some pe_int) po_none) (pg_sub (pv 0) pe_int set_list)))) (pss_cons (ps_if (pt_truth (pe_ix ix_list (pv 0) pe_int (fun _ _ => rfl)) (fun _ => rfl)) (pss_cons (ps_set (i := 2) sc__law_take.nd rfl (.inl rfl) (pe_ix ix_list (pe_ix ix_list (pv 0) pe_int (fun _ _ => rfl)) pe_int (fun _ _ => rfl))) (pss_cons (ps_asg (pe_op op_fdivW (pe_callTy call_int1 (by rfl) T.z_int (by decide +kernel) (pa_cons (pv 2) pa_nil)) (pv 1)) (pg_sub (pe_ix ix_list (pv 0) pe_int (fun _ _ => rfl)) pe_int set_list)) (pss_one (ps_ret (pe_op op_mod (pe_callTy call_int1 (by rfl) T.z_int (by decide +kernel) (pa_cons (pv 2) pa_nil)) (pv 1)))))) pss_nil) (pss_cons (ps_asg (pe_op op_add (pe_ix ix_list (pv 0) pe_int (fun _ _ => rfl)) pe_int) (pg_sub (pv 0) pe_int set_list)) (pss_cons (ps_asg (pe_op op_mod (pe_callTy call_int1 (by rfl) T.z_int (by decide +kernel) (pa_cons (pe_op op_add (pe_op op_mul (pe_ix ix_list (pv 0) pe_int (fun _ _ => rfl)) pe_int) pe_int) pa_nil)) pe_int) (pg_sub (pv 0) pe_int set_list)) (pss_cons (ps_set (i := 3) sc__law_take.nd rfl (.inl rfl) (pe_op op_mod (pe_callTy call_int1 (by rfl) T.z_int (by decide +kernel) (pa_cons (pe_op op_add (pe_op op_mul (pe_ix ix_list (pv 0) pe_int (fun _ _ => rfl)) pe_int) (pe_op op_mul (pe_ix ix_list (pv 0) pe_int (fun _ _ => rfl)) pe_int)) pa_nil)) pe_int)) (pss_cons (ps_set (i := 4) sc__law_take.nd rfl (.inl rfl) (pe_op op_mod (pe_callTy call_int1 (by rfl) T.z_int (by decide +kernel) (pa_cons (pe_op op_add (pe_op op_add (pe_op op_mul (pv 3) (pv 3)) (pe_op op_mul (pe_ix ix_list (pv 0) pe_int (fun _ _ => rfl)) pe_int)) (pe_op op_fdiv (pv 3) pe_int)) pa_nil)) pe_int)) (pss_one (ps_ret (pe_op op_mod (pe_callTy call_int1 (by rfl) T.z_int (by decide +kernel) (pa_cons (pe_op op_fdiv (pv 4) pe_int) pa_nil)) (pv 1)))))))))
  · have h' := h
    obtain ⟨hl, _⟩ := h'
    obtain ⟨a, b, rfl⟩ : ∃ a b, vs = [a, b] := by
      match vs, hl with
      | [a, b], _ => exact ⟨a, b, rfl⟩
    exact take_run h
theorem c__law_take (T : Txt K mg) : Callee P w K mg base 1 "_law_take" 2 [] m__law_take := by
  obtain ⟨f, fd, F, hm⟩ := T.F__law_take
  exact ⟨f, fd, ["_law_hand_here", "_law_many"], [], [], f__law_take T F, hm, F.kp, F.binds (ps := ["_law_hand_here", "_law_many"]) (fun _ _ _ _ _ _ us hl => match us, hl with | [_, _], _ => rfl), .nil, fun _ _ => .nil⟩
theorem f_whole_text (T : Txt K mg) {f : Addr} {fd : FuncData} (F : Fun K "whole_text" "whole_text" st_whole_text f fd) : FnOk P w K mg base (L2.CX P w) 1 f fd ["number"] (spM K mg 1 m_whole_text) := by
  have z_abs := T.z_abs
  have z_divmod := T.z_divmod
  have z_str := T.z_str
  show FnOk P w K mg base (L2.CX P w) (0 + 1) f fd ["number"] (spM K mg 1 (mDef 4 b_whole_text))
  refine okM F sc_whole_text rfl rfl (fun cdv A outer s H E hr => ?_)
  exact (qss_cons (qs_set 1 sc_whole_text.nd (qe_callB call_abs cs_abs (by rfl) z_abs (by decide +kernel) (qa_cons (qe_var 0) qa_nil))) (qss_cons (qs_setO 2 sc_whole_text.nd (qf_lst qa_nil)) (qss_cons (qs_while cx_pass (qt_cmp op_ge os_ge (qe_var 1) (qe_op op_pow os_pow qe_int qe_int) (nomark _)) (qss_cons (qs_asg (qe_callB call_divmodW cs_divmod (by rfl) z_divmod (by decide +kernel) (qa_cons (qe_var 1) (qa_cons (qe_op op_pow os_pow qe_int qe_int) qa_nil))) (qg_seq 2 rfl (qgs_cons (qg_name 1 sc_whole_text.nd) (qgs_cons (qg_name 3 sc_whole_text.nd) qgs_nil)))) (qss_one (qs_app 2 rfl (qe_mt PySem.F.slot_str_zfill PySem.F.type_str_zfill mt_zfill ms_zfill (qe_callTy call_str_int cs_str (by rfl) z_str (by decide +kernel) (qa_cons (qe_var 3) qa_nil)) (qa_cons qe_int qa_nil)))))) (qss_cons (qs_app 2 rfl (qe_callTy call_str_int cs_str (by rfl) z_str (by decide +kernel) (qa_cons (qe_var 1) qa_nil))) (qss_cons (qs_if (qt_cmp op_lt os_lt (qe_var 0) qe_int (nomark _)) (qss_one (qs_app 2 rfl qe_str)) qss_nil) (qss_one (qs_ret (qe_bor 2 (qe_mt PySem.F.slot_str_join PySem.F.type_str_join mt_join ms_join qe_str (qa_cons (qe_rev (qe_var 2)) qa_nil))))))))))
theorem c_whole_text (T : Txt K mg) : Callee P w K mg base 1 "whole_text" 1 [] m_whole_text := by
  obtain ⟨f, fd, F, hm⟩ := T.F_whole_text
  exact ⟨f, fd, ["number"], [], [], f_whole_text T  F, hm, F.kp, F.binds (ps := ["number"]) (fun _ _ _ _ _ _ us hl => match us, hl with | [_], _ => rfl), .nil, fun _ _ => .nil⟩
theorem f_ratio_text (T : Txt K mg) (C_whole_text : Callee P w K mg base 1 "whole_text" 1 [] m_whole_text) {f : Addr} {fd : FuncData} (F : Fun K "ratio_text" "ratio_text" st_ratio_text f fd) : FnOk P w K mg base (L2.CX P w) 2 f fd ["one"] (spM K mg 1 m_ratio_text) := by
  show FnOk P w K mg base (L2.CX P w) (1 + 1) f fd ["one"] (spM K mg 1 (mDef 3 b_ratio_text))
  refine okM F sc_ratio_text rfl rfl (fun cdv A outer s H E hr => ?_)
  exact (qss_cons (qs_asg (qe_var 0) (qg_seq 2 rfl (qgs_cons (qg_name 1 sc_ratio_text.nd) (qgs_cons (qg_name 2 sc_ratio_text.nd) qgs_nil)))) (qss_cons (qs_if (qt_cmp (op_eqD hr.units) os_eq (qe_var 2) qe_int (nomark _)) (qss_one (qs_ret (qe_c C_whole_text hr (by decide) cx_takes (qa_cons (qe_var 1) qa_nil)))) qss_nil) (qss_one (qs_ret (qe_op op_addA os_add (qe_op op_addA os_add (qe_c C_whole_text hr (by decide) cx_takes (qa_cons (qe_var 1) qa_nil)) qe_str) (qe_c C_whole_text hr (by decide) cx_takes (qa_cons (qe_var 2) qa_nil)))))))
theorem c_ratio_text (T : Txt K mg) (C_whole_text : Callee P w K mg base 1 "whole_text" 1 [] m_whole_text) : Callee P w K mg base 2 "ratio_text" 1 [] m_ratio_text := by
  obtain ⟨f, fd, F, hm⟩ := T.F_ratio_text
  exact ⟨f, fd, ["one"], [], [], f_ratio_text T C_whole_text F, hm, F.kp, F.binds (ps := ["one"]) (fun _ _ _ _ _ _ us hl => match us, hl with | [_], _ => rfl), .nil, fun _ _ => .nil⟩
theorem f__law_plain (T : Txt K mg) {f : Addr} {fd : FuncData} (F : Fun K "_law_plain" "_law_plain" st__law_plain f fd) : FnOk P w K mg base (L2.CX P w) 1 f fd ["_law_told", "_law_due"] (spM K mg 2 m__law_plain) := by
  have z_bool := T.z_bool
  have z_int := T.z_int
  have z_isinstance := T.z_isinstance
  have z_len := T.z_len
  have z_tuple := T.z_tuple
  show FnOk P w K mg base (L2.CX P w) (0 + 1) f fd ["_law_told", "_law_due"] (spM K mg 2 (mDef 3 b__law_plain))
  refine okM F sc__law_plain rfl rfl (fun cdv A outer s H E hr => ?_)
  exact (qss_cons (qs_if (qt_w (qw_or (qt_not (qt_tru (qe_isi (qe_var 0) (by rfl) z_isinstance (by rfl) z_tuple (by decide +kernel)))) (qw_or1 (qt_cmp (op_neD hr.units) os_ne (qe_callB call_lenA cs_len (by rfl) z_len (by decide +kernel) (qa_cons (qe_var 0) qa_nil)) qe_int (nomark _))))) (qss_one (qs_ret qe_bl)) qss_nil) (qss_cons (qs_for cx_pass rfl (qi_seq (qe_var 0)) (qg_name 2 sc__law_plain.nd) (qss_one (qs_if (qt_w (qw_or (qt_not (qt_tru (qe_isi (qe_var 2) (by rfl) z_isinstance (by rfl) z_int (by decide +kernel)))) (qw_or1 (qt_tru (qe_isi (qe_var 2) (by rfl) z_isinstance (by rfl) z_bool (by decide +kernel)))))) (qss_one (qs_ret qe_bl)) qss_nil))) (qss_one (qs_ret (qe_cmp (op_eqD hr.units) os_eq (qe_var 0) (qe_var 1) (nomark _))))))
theorem c__law_plain (T : Txt K mg) : Callee P w K mg base 1 "_law_plain" 2 [] m__law_plain := by
  obtain ⟨f, fd, F, hm⟩ := T.F__law_plain
  exact ⟨f, fd, ["_law_told", "_law_due"], [], [], f__law_plain T  F, hm, F.kp, F.binds (ps := ["_law_told", "_law_due"]) (fun _ _ _ _ _ _ us hl => match us, hl with | [_, _], _ => rfl), .nil, fun _ _ => .nil⟩
theorem f__law_long (T : Txt K mg) (C__law_take : Callee P w K mg base 1 "_law_take" 2 [] m__law_take) {f : Addr} {fd : FuncData} (F : Fun K "_law_long" "_law_long" st__law_long f fd) : FnOk P w K mg base (L2.CX P w) 2 f fd ["_law_hand_here"] (spM K mg 1 m__law_long) := by
  have z_range := T.z_range
  show FnOk P w K mg base (L2.CX P w) (1 + 1) f fd ["_law_hand_here"] (spM K mg 1 (mDef 3 b__law_long))
  refine okM F sc__law_long rfl rfl (fun cdv A outer s H E hr => ?_)
  exact (qss_cons (qs_set 1 sc__law_long.nd (qe_op op_addA os_add qe_int (qe_c C__law_take hr (by decide) cx_takes (qa_cons (qe_var 0) (qa_cons qe_int qa_nil))))) (qss_cons (qs_for cx_pass rfl (qi_rng1 (by rfl) z_range qe_int) (qg_name 2 sc__law_long.nd) (qss_one (qs_set 1 sc__law_long.nd (qe_op op_addA os_add (qe_op op_mulA os_mul (qe_var 1) qe_int) (qe_c C__law_take hr (by decide) cx_takes (qa_cons (qe_var 0) (qa_cons qe_int qa_nil))))))) (qss_one (qs_ret (qe_var 1)))))
theorem c__law_long (T : Txt K mg) (C__law_take : Callee P w K mg base 1 "_law_take" 2 [] m__law_take) : Callee P w K mg base 2 "_law_long" 1 [] m__law_long := by
  obtain ⟨f, fd, F, hm⟩ := T.F__law_long
  exact ⟨f, fd, ["_law_hand_here"], [], [], f__law_long T C__law_take F, hm, F.kp, F.binds (ps := ["_law_hand_here"]) (fun _ _ _ _ _ _ us hl => match us, hl with | [_], _ => rfl), .nil, fun _ _ => .nil⟩
theorem f__law_gcd (T : Txt K mg) {f : Addr} {fd : FuncData} (F : Fun K "_law_gcd" "_law_gcd" st__law_gcd f fd) : FnOk P w K mg base (L2.CX P w) 1 f fd ["_law_one", "_law_other"] (spM K mg 2 m__law_gcd) := by
  have z_abs := T.z_abs
  have z_int := T.z_int
  show FnOk P w K mg base (L2.CX P w) (0 + 1) f fd ["_law_one", "_law_other"] (spM K mg 2 (mDef 2 b__law_gcd))
  refine okM F sc__law_gcd rfl rfl (fun cdv A outer s H E hr => ?_)
  exact (qss_cons (qs_par 0 1 rfl sc__law_gcd.nd (by decide) (qa_cons (qe_callB call_abs cs_abs (by rfl) z_abs (by decide +kernel) (qa_cons (qe_var 0) qa_nil)) (qa_cons (qe_callB call_abs cs_abs (by rfl) z_abs (by decide +kernel) (qa_cons (qe_var 1) qa_nil)) qa_nil))) (qss_cons (qs_while cx_pass (qt_tru (qe_var 1)) (qss_one (qs_par 0 1 rfl sc__law_gcd.nd (by decide) (qa_cons (qe_var 1) (qa_cons (qe_op op_modN os_mod (qe_callTy call_int1 cs_int (by rfl) z_int (by decide +kernel) (qa_cons (qe_var 0) qa_nil)) (qe_var 1)) qa_nil))))) (qss_one (qs_ret (qe_var 0)))))
theorem c__law_gcd (T : Txt K mg) : Callee P w K mg base 1 "_law_gcd" 2 [] m__law_gcd := by
  obtain ⟨f, fd, F, hm⟩ := T.F__law_gcd
  exact ⟨f, fd, ["_law_one", "_law_other"], [], [], f__law_gcd T  F, hm, F.kp, F.binds (ps := ["_law_one", "_law_other"]) (fun _ _ _ _ _ _ us hl => match us, hl with | [_, _], _ => rfl), .nil, fun _ _ => .nil⟩
theorem f__law_ratio (T : Txt K mg) (C__law_gcd : Callee P w K mg base 1 "_law_gcd" 2 [] m__law_gcd) {f : Addr} {fd : FuncData} (F : Fun K "_law_ratio" "_law_ratio" st__law_ratio f fd) : FnOk P w K mg base (L2.CX P w) 2 f fd ["_law_top", "_law_bottom"] (spM K mg 2 m__law_ratio) := by
  show FnOk P w K mg base (L2.CX P w) (1 + 1) f fd ["_law_top", "_law_bottom"] (spM K mg 2 (mDef 3 b__law_ratio))
  refine okM F sc__law_ratio rfl rfl (fun cdv A outer s H E hr => ?_)
  exact (qss_cons (qs_set 2 sc__law_ratio.nd (qe_c C__law_gcd hr (by decide) cx_takes (qa_cons (qe_var 0) (qa_cons (qe_var 1) qa_nil)))) (qss_cons (qs_if (qt_cmp op_lt os_lt (qe_var 1) qe_int (nomark _)) (qss_one (qs_set 2 sc__law_ratio.nd (qe_un un_neg us_neg (qe_var 2)))) qss_nil) (qss_one (qs_ret (qe_tup (qa_cons (qe_op op_divA os_div (qe_var 0) (qe_var 2)) (qa_cons (qe_op op_divA os_div (qe_var 1) (qe_var 2)) qa_nil)))))))
theorem c__law_ratio (T : Txt K mg) (C__law_gcd : Callee P w K mg base 1 "_law_gcd" 2 [] m__law_gcd) : Callee P w K mg base 2 "_law_ratio" 2 [] m__law_ratio := by
  obtain ⟨f, fd, F, hm⟩ := T.F__law_ratio
  exact ⟨f, fd, ["_law_top", "_law_bottom"], [], [], f__law_ratio T C__law_gcd F, hm, F.kp, F.binds (ps := ["_law_top", "_law_bottom"]) (fun _ _ _ _ _ _ us hl => match us, hl with | [_, _], _ => rfl), .nil, fun _ _ => .nil⟩
theorem f__law_wide (T : Txt K mg) (C__law_take : Callee P w K mg base 1 "_law_take" 2 [] m__law_take) {f : Addr} {fd : FuncData} (F : Fun K "_law_wide" "_law_wide" st__law_wide f fd) : FnOk P w K mg base (L2.CX P w) 2 f fd ["_law_hand_here"] (spM K mg 1 m__law_wide) := by
  have z_range := T.z_range
  show FnOk P w K mg base (L2.CX P w) (1 + 1) f fd ["_law_hand_here"] (spM K mg 1 (mDef 4 b__law_wide))
  refine okM F sc__law_wide rfl rfl (fun cdv A outer s H E hr => ?_)
  exact (qss_cons (qs_set 1 sc__law_wide.nd (qe_c C__law_take hr (by decide) cx_takes (qa_cons (qe_var 0) (qa_cons qe_int qa_nil)))) (qss_cons (qs_if (qt_cmp op_lt os_lt (qe_var 1) qe_int (nomark _)) (qss_one (qs_ret (qe_op op_sub os_sub (qe_c C__law_take hr (by decide) cx_takes (qa_cons (qe_var 0) (qa_cons qe_int qa_nil))) qe_int))) qss_nil) (qss_cons (qs_set 2 sc__law_wide.nd qe_int) (qss_cons (qs_for cx_pass rfl (qi_rng1 (by rfl) z_range (qe_if (qt_cmp op_lt os_lt (qe_var 1) qe_int (nomark _)) qe_int qe_int)) (qg_name 3 sc__law_wide.nd) (qss_one (qs_set 2 sc__law_wide.nd (qe_op op_addA os_add (qe_op op_mulA os_mul (qe_var 2) (qe_op op_pow os_pow qe_int qe_int)) (qe_c C__law_take hr (by decide) cx_takes (qa_cons (qe_var 0) (qa_cons (qe_op op_pow os_pow qe_int qe_int) qa_nil))))))) (qss_one (qs_ret (qe_op op_mulA os_mul (qe_var 2) (qe_op op_sub os_sub qe_int (qe_op op_mulA os_mul qe_int (qe_c C__law_take hr (by decide) cx_takes (qa_cons (qe_var 0) (qa_cons qe_int qa_nil))))))))))))
theorem c__law_wide (T : Txt K mg) (C__law_take : Callee P w K mg base 1 "_law_take" 2 [] m__law_take) : Callee P w K mg base 2 "_law_wide" 1 [] m__law_wide := by
  obtain ⟨f, fd, F, hm⟩ := T.F__law_wide
  exact ⟨f, fd, ["_law_hand_here"], [], [], f__law_wide T C__law_take F, hm, F.kp, F.binds (ps := ["_law_hand_here"]) (fun _ _ _ _ _ _ us hl => match us, hl with | [_], _ => rfl), .nil, fun _ _ => .nil⟩
theorem f__law_wide_ratio (T : Txt K mg) (C__law_ratio : Callee P w K mg base 2 "_law_ratio" 2 [] m__law_ratio) (C__law_wide : Callee P w K mg base 2 "_law_wide" 1 [] m__law_wide) {f : Addr} {fd : FuncData} (F : Fun K "_law_wide_ratio" "_law_wide_ratio" st__law_wide_ratio f fd) : FnOk P w K mg base (L2.CX P w) 3 f fd ["_law_hand_here"] (spM K mg 1 m__law_wide_ratio) := by
  have z_abs := T.z_abs
  show FnOk P w K mg base (L2.CX P w) (2 + 1) f fd ["_law_hand_here"] (spM K mg 1 (mDef 1 b__law_wide_ratio))
  refine okM F sc__law_wide_ratio rfl rfl (fun cdv A outer s H E hr => ?_)
  exact (qss_one (qs_ret (qe_c C__law_ratio hr (by decide) cx_takes (qa_cons (qe_c C__law_wide hr (by decide) cx_takes (qa_cons (qe_var 0) qa_nil)) (qa_cons (qe_op op_addA os_add qe_int (qe_callB call_abs cs_abs (by rfl) z_abs (by decide +kernel) (qa_cons (qe_c C__law_wide hr (by decide) cx_takes (qa_cons (qe_var 0) qa_nil)) qa_nil))) qa_nil)))))
theorem c__law_wide_ratio (T : Txt K mg) (C__law_ratio : Callee P w K mg base 2 "_law_ratio" 2 [] m__law_ratio) (C__law_wide : Callee P w K mg base 2 "_law_wide" 1 [] m__law_wide) : Callee P w K mg base 3 "_law_wide_ratio" 1 [] m__law_wide_ratio := by
  obtain ⟨f, fd, F, hm⟩ := T.F__law_wide_ratio
  exact ⟨f, fd, ["_law_hand_here"], [], [], f__law_wide_ratio T C__law_ratio C__law_wide F, hm, F.kp, F.binds (ps := ["_law_hand_here"]) (fun _ _ _ _ _ _ us hl => match us, hl with | [_], _ => rfl), .nil, fun _ _ => .nil⟩
theorem f_is_whole (T : Txt K mg) {f : Addr} {fd : FuncData} (F : FunD K "is_whole" "is_whole" (defArgs st_is_whole) (defBody st_is_whole) (defScope st_is_whole) [.non, .non] [] f fd) : FnOk P w K mg base (L2.CX P w) 1 f fd ["thing", "low", "high"] (spM K mg 3 m_is_whole) := by
  have z_bool := T.z_bool
  have z_int := T.z_int
  have z_isinstance := T.z_isinstance
  show FnOk P w K mg base (L2.CX P w) (0 + 1) f fd ["thing", "low", "high"] (spM K mg 3 (mDef 3 b_is_whole))
  refine okMD F sc_is_whole rfl rfl (fun cdv A outer s H E hr => ?_)
  exact (qss_cons (qs_if (qt_w (qw_or (qt_not (qt_tru (qe_isi (qe_var 0) (by rfl) z_isinstance (by rfl) z_int (by decide +kernel)))) (qw_or1 (qt_tru (qe_isi (qe_var 0) (by rfl) z_isinstance (by rfl) z_bool (by decide +kernel)))))) (qss_one (qs_ret qe_bl)) qss_nil) (qss_one (qs_ret (qe_and (qe_or (qe_cmp op_isA os_is (qe_var 1) qe_non (nomark _)) (qe_one (qe_cmp op_ge os_ge (qe_var 0) (qe_var 1) (nomark _)))) (qe_one (qe_or (qe_cmp op_isA os_is (qe_var 2) qe_non (nomark _)) (qe_one (qe_cmp op_le os_le (qe_var 0) (qe_var 2) (nomark _)))))))))
theorem c_is_whole_1 (T : Txt K mg) : Callee P w K mg base 1 "is_whole" 3 [.non, .non] m_is_whole := by
  obtain ⟨f, fd, F, hm⟩ := T.F_is_whole
  obtain ⟨ds, hv, hb⟩ := FunD.binds1 (ps := ["thing", "low", "high"]) F 1 0 (by simp) rfl (fun T kV doc pm an cdv ct us its l1 l2 => match us, its, l1, l2 with | [_], [_, _], _, _ => ⟨_, rfl, rfl⟩)
  exact ⟨f, fd, ["thing", "low", "high"], _, ds, f_is_whole T  F, hm, F.kp, hb, hv, fun _ _ => .cons .non (.cons .non (.nil))⟩
theorem c_is_whole_2 (T : Txt K mg) : Callee P w K mg base 1 "is_whole" 3 [.non] m_is_whole := by
  obtain ⟨f, fd, F, hm⟩ := T.F_is_whole
  obtain ⟨ds, hv, hb⟩ := FunD.binds1 (ps := ["thing", "low", "high"]) F 2 1 (by simp) rfl (fun T kV doc pm an cdv ct us its l1 l2 => match us, its, l1, l2 with | [_, _], [_, _], _, _ => ⟨_, rfl, rfl⟩)
  exact ⟨f, fd, ["thing", "low", "high"], _, ds, f_is_whole T  F, hm, F.kp, hb, hv, fun _ _ => .cons .non (.nil)⟩
theorem f_is_ratio (T : Txt K mg) (C_is_whole_1 : Callee P w K mg base 1 "is_whole" 3 [.non, .non] m_is_whole) (C_is_whole_2 : Callee P w K mg base 1 "is_whole" 3 [.non] m_is_whole) {f : Addr} {fd : FuncData} (F : Fun K "is_ratio" "is_ratio" st_is_ratio f fd) : FnOk P w K mg base (L2.CX P w) 2 f fd ["thing"] (spM K mg 1 m_is_ratio) := by
  have i_gcd := T.i_gcd
  have z_isinstance := T.z_isinstance
  have z_len := T.z_len
  have z_tuple := T.z_tuple
  show FnOk P w K mg base (L2.CX P w) (1 + 1) f fd ["thing"] (spM K mg 1 (mDef 3 b_is_ratio))
  refine okM F sc_is_ratio rfl rfl (fun cdv A outer s H E hr => ?_)
  exact (qss_cons (qs_if (qt_w (qw_or (qt_not (qt_tru (qe_isi (qe_var 0) (by rfl) z_isinstance (by rfl) z_tuple (by decide +kernel)))) (qw_or1 (qt_cmp (op_neD hr.units) os_ne (qe_callB call_lenA cs_len (by rfl) z_len (by decide +kernel) (qa_cons (qe_var 0) qa_nil)) qe_int (nomark _))))) (qss_one (qs_ret qe_bl)) qss_nil) (qss_cons (qs_asg (qe_var 0) (qg_seq 2 rfl (qgs_cons (qg_name 1 sc_is_ratio.nd) (qgs_cons (qg_name 2 sc_is_ratio.nd) qgs_nil)))) (qss_one (qs_ret (qe_and (qe_c C_is_whole_1 hr (by decide) cx_takes (qa_cons (qe_var 1) qa_nil)) (qe_and (qe_c C_is_whole_2 hr (by decide) cx_takes (qa_cons (qe_var 2) (qa_cons qe_int qa_nil))) (qe_one (qe_cmp (op_eqD hr.units) os_eq (qe_callBfun cr_gcd cs_gcd (by rfl) i_gcd (qa_cons (qe_var 1) (qa_cons (qe_var 2) qa_nil))) qe_int (nomark _)))))))))
theorem c_is_ratio (T : Txt K mg) (C_is_whole_1 : Callee P w K mg base 1 "is_whole" 3 [.non, .non] m_is_whole) (C_is_whole_2 : Callee P w K mg base 1 "is_whole" 3 [.non] m_is_whole) : Callee P w K mg base 2 "is_ratio" 1 [] m_is_ratio := by
  obtain ⟨f, fd, F, hm⟩ := T.F_is_ratio
  exact ⟨f, fd, ["thing"], [], [], f_is_ratio T C_is_whole_1 C_is_whole_2 F, hm, F.kp, F.binds (ps := ["thing"]) (fun _ _ _ _ _ _ us hl => match us, hl with | [_], _ => rfl), .nil, fun _ _ => .nil⟩
theorem f_are_digits (T : Txt K mg) {f : Addr} {fd : FuncData} (F : Fun K "are_digits" "are_digits" st_are_digits f fd) : FnOk P w K mg base (L2.CX P w) 1 f fd ["text"] (spM K mg 1 m_are_digits) := by
  obtain ⟨_, g_MOST_DIGITS⟩ := T.g_MOST_DIGITS
  have z_len := T.z_len
  show FnOk P w K mg base (L2.CX P w) (0 + 1) f fd ["text"] (spM K mg 1 (mDef 1 b_are_digits))
  refine okM F sc_are_digits rfl rfl (fun cdv A outer s H E hr => ?_)
  exact (qss_one (qs_ret (qe_and (qe_mt0 PySem.F.slot_str_isascii PySem.F.type_str_isascii mt_isascii ms_isascii (qe_var 0)) (qe_and (qe_mt0 PySem.F.slot_str_isdigit PySem.F.type_str_isdigit mt_isdigit ms_isdigit (qe_var 0)) (qe_one (qe_cmp op_le os_le (qe_callB call_lenA cs_len (by rfl) z_len (by decide +kernel) (qa_cons (qe_var 0) qa_nil)) (qe_glob (v := .int _) (by rfl) g_MOST_DIGITS ⟨_, rfl⟩ fun _ _ => .int _) (nomark _)))))))
theorem c_are_digits (T : Txt K mg) : Callee P w K mg base 1 "are_digits" 1 [] m_are_digits := by
  obtain ⟨f, fd, F, hm⟩ := T.F_are_digits
  exact ⟨f, fd, ["text"], [], [], f_are_digits T  F, hm, F.kp, F.binds (ps := ["text"]) (fun _ _ _ _ _ _ us hl => match us, hl with | [_], _ => rfl), .nil, fun _ _ => .nil⟩
theorem f_ratio_of (T : Txt K mg) (C_are_digits : Callee P w K mg base 1 "are_digits" 1 [] m_are_digits) (C_is_ratio : Callee P w K mg base 2 "is_ratio" 1 [] m_is_ratio) (C_ratio_text : Callee P w K mg base 2 "ratio_text" 1 [] m_ratio_text) {f : Addr} {fd : FuncData} (F : Fun K "ratio_of" "ratio_of" st_ratio_of f fd) : FnOk P w K mg base (L2.CX P w) 3 f fd ["text"] (spM K mg 1 m_ratio_of) := by
  have z_int := T.z_int
  have z_isinstance := T.z_isinstance
  have z_str := T.z_str
  have T_BadRatio : Thrown P w K mg base "BadRatio" ["what"] := t_BadRatio T
  show FnOk P w K mg base (L2.CX P w) (2 + 1) f fd ["text"] (spM K mg 1 (mDef 5 b_ratio_of))
  refine okM F sc_ratio_of rfl rfl (fun cdv A outer s H E hr => ?_)
  exact (qss_cons (qs_if (qt_not (qt_tru (qe_isi (qe_var 0) (by rfl) z_isinstance (by rfl) z_str (by decide +kernel)))) (qss_one (qs_throw T_BadRatio hr (by decide) rfl cx_takes (qa_cons qe_str qa_nil))) qss_nil) (qss_cons (qs_asg (qe_mt PySem.F.slot_str_partition PySem.F.type_str_partition mt_partition ms_partition (qe_var 0) (qa_cons qe_str qa_nil)) (qg_seq 3 rfl (qgs_cons (qg_name 1 sc_ratio_of.nd) (qgs_cons (qg_name 2 sc_ratio_of.nd) (qgs_cons (qg_name 3 sc_ratio_of.nd) qgs_nil))))) (qss_cons (qs_if (qt_cmp (op_eqD hr.units) os_eq (qe_var 2) qe_str (nomark _)) (qss_one (qs_set 3 sc_ratio_of.nd qe_str)) qss_nil) (qss_cons (qs_if (qt_w (qw_or (qt_not (qt_tru (qe_c C_are_digits hr (by decide) cx_takes (qa_cons (qe_mt PySem.F.slot_str_removeprefix PySem.F.type_str_removeprefix mt_removeprefix ms_removepre (qe_var 1) (qa_cons qe_str qa_nil)) qa_nil)))) (qw_or1 (qt_not (qt_tru (qe_c C_are_digits hr (by decide) cx_takes (qa_cons (qe_var 3) qa_nil))))))) (qss_one (qs_throw T_BadRatio hr (by decide) rfl cx_takes (qa_cons qe_str qa_nil))) qss_nil) (qss_cons (qs_set 4 sc_ratio_of.nd (qe_tup (qa_cons (qe_callTy call_intAny cs_intT (by rfl) z_int (by decide +kernel) (qa_cons (qe_var 1) qa_nil)) (qa_cons (qe_callTy call_intAny cs_intT (by rfl) z_int (by decide +kernel) (qa_cons (qe_var 3) qa_nil)) qa_nil)))) (qss_cons (qs_if (qt_w (qw_or (qt_not (qt_tru (qe_c C_is_ratio hr (by decide) cx_takes (qa_cons (qe_var 4) qa_nil)))) (qw_or1 (qt_cmp (op_neD hr.units) os_ne (qe_c C_ratio_text hr (by decide) cx_takes (qa_cons (qe_var 4) qa_nil)) (qe_var 0) (nomark _))))) (qss_one (qs_throw T_BadRatio hr (by decide) rfl cx_takes (qa_cons qe_str qa_nil))) qss_nil) (qss_one (qs_ret (qe_var 4)))))))))
theorem c_ratio_of (T : Txt K mg) (C_are_digits : Callee P w K mg base 1 "are_digits" 1 [] m_are_digits) (C_is_ratio : Callee P w K mg base 2 "is_ratio" 1 [] m_is_ratio) (C_ratio_text : Callee P w K mg base 2 "ratio_text" 1 [] m_ratio_text) : Callee P w K mg base 3 "ratio_of" 1 [] m_ratio_of := by
  obtain ⟨f, fd, F, hm⟩ := T.F_ratio_of
  exact ⟨f, fd, ["text"], [], [], f_ratio_of T C_are_digits C_is_ratio C_ratio_text F, hm, F.kp, F.binds (ps := ["text"]) (fun _ _ _ _ _ _ us hl => match us, hl with | [_], _ => rfl), .nil, fun _ _ => .nil⟩
theorem f__law_read (T : Txt K mg) (C_ratio_of : Callee P w K mg base 3 "ratio_of" 1 [] m_ratio_of) {f : Addr} {fd : FuncData} (F : Fun K "_law_read" "_law_read" st__law_read f fd) : FnOk P w K mg base (L2.CX P w) 4 f fd ["_law_text_here"] (spM K mg 1 m__law_read) := by
  have K_BadRatio : ∃ C : Addr, mg "BadRatio" = some (.ref C) ∧ PySem.W.exmOne K (.ref C) (.ref C) = some true ∧ XfC K C ∧ PySem.W.findIn K (.ref C) "what" = some none := by
    obtain ⟨C, fI, fd, h1, h2, h3, h4, h5, F, h6, h7⟩ := T.X_BadRatio
    exact ⟨C, h1, h6, h7, h3 _ (by simp)⟩
  show FnOk P w K mg base (L2.CX P w) (3 + 1) f fd ["_law_text_here"] (spM K mg 1 (mDef 2 b__law_read))
  refine okM F sc__law_read rfl rfl (fun cdv A outer s H E hr => ?_)
  exact (qss_one (by obtain ⟨CC, hm_C, he_C, xf_C, no_what⟩ := K_BadRatio; exact qs_tryAs (C := CC) rfl rfl sc__law_read.nd rfl rfl hm_C (by rfl) (by decide) cx_takes he_C (fun W pn xe tkT psT => (qss_one (qs_ret (qe_c C_ratio_of hr (by decide) tkT (qa_cons (qe_var 0) qa_nil))))) ⟨fun a oe cls d pn hz hf => pss_one (ps_ret (pe_xf xf_C no_what hz hf (pv 1))), fun a dd => xs_ret xe_fld⟩))
theorem c__law_read (T : Txt K mg) (C_ratio_of : Callee P w K mg base 3 "ratio_of" 1 [] m_ratio_of) : Callee P w K mg base 4 "_law_read" 1 [] m__law_read := by
  obtain ⟨f, fd, F, hm⟩ := T.F__law_read
  exact ⟨f, fd, ["_law_text_here"], [], [], f__law_read T C_ratio_of F, hm, F.kp, F.binds (ps := ["_law_text_here"]) (fun _ _ _ _ _ _ us hl => match us, hl with | [_], _ => rfl), .nil, fun _ _ => .nil⟩
theorem f__law_text (T : Txt K mg) {f : Addr} {fd : FuncData} (F : Fun K "_law_text" "_law_text" st__law_text f fd) : FnOk P w K mg base (L2.CX P w) 1 f fd ["_law_one"] (spM K mg 1 m__law_text) := by
  have z_str := T.z_str
  show FnOk P w K mg base (L2.CX P w) (0 + 1) f fd ["_law_one"] (spM K mg 1 (mDef 1 b__law_text))
  refine okM F sc__law_text rfl rfl (fun cdv A outer s H E hr => ?_)
  exact (qss_one (qs_ret (qe_if (qt_cmp (op_eqD hr.units) os_eq (qe_ix (qe_var 0) qe_int) qe_int (nomark _)) (qe_callTy call_str_int cs_str (by rfl) z_str (by decide +kernel) (qa_cons (qe_ix (qe_var 0) qe_int) qa_nil)) (qe_op op_addA os_add (qe_op op_addA os_add (qe_callTy call_str_int cs_str (by rfl) z_str (by decide +kernel) (qa_cons (qe_ix (qe_var 0) qe_int) qa_nil)) qe_str) (qe_callTy call_str_int cs_str (by rfl) z_str (by decide +kernel) (qa_cons (qe_ix (qe_var 0) qe_int) qa_nil))))))
theorem c__law_text (T : Txt K mg) : Callee P w K mg base 1 "_law_text" 1 [] m__law_text := by
  obtain ⟨f, fd, F, hm⟩ := T.F__law_text
  exact ⟨f, fd, ["_law_one"], [], [], f__law_text T  F, hm, F.kp, F.binds (ps := ["_law_one"]) (fun _ _ _ _ _ _ us hl => match us, hl with | [_], _ => rfl), .nil, fun _ _ => .nil⟩
theorem f__law_spoilt (T : Txt K mg) (C__law_text : Callee P w K mg base 1 "_law_text" 1 [] m__law_text) {f : Addr} {fd : FuncData} (F : Fun K "_law_spoilt" "_law_spoilt" st__law_spoilt f fd) : FnOk P w K mg base (L2.CX P w) 2 f fd ["_law_one", "_law_way"] (spM K mg 2 m__law_spoilt) := by
  have z_abs := T.z_abs
  have z_str := T.z_str
  show FnOk P w K mg base (L2.CX P w) (1 + 1) f fd ["_law_one", "_law_way"] (spM K mg 2 (mDef 7 b__law_spoilt))
  refine okM F sc__law_spoilt rfl rfl (fun cdv A outer s H E hr => ?_)
  exact (qss_cons (qs_set 2 sc__law_spoilt.nd (qe_c C__law_text hr (by decide) cx_takes (qa_cons (qe_var 0) qa_nil))) (qss_cons (qs_set 3 sc__law_spoilt.nd (qe_c C__law_text hr (by decide) cx_takes (qa_cons (qe_tup (qa_cons (qe_callB call_abs cs_abs (by rfl) z_abs (by decide +kernel) (qa_cons (qe_ix (qe_var 0) qe_int) qa_nil)) (qa_cons (qe_ix (qe_var 0) qe_int) qa_nil))) qa_nil))) (qss_cons (qs_par 4 5 rfl sc__law_spoilt.nd (by decide) (qa_cons (qe_callTy call_str_int cs_str (by rfl) z_str (by decide +kernel) (qa_cons (qe_ix (qe_var 0) qe_int) qa_nil)) (qa_cons (qe_callTy call_str_int cs_str (by rfl) z_str (by decide +kernel) (qa_cons (qe_ix (qe_var 0) qe_int) qa_nil)) qa_nil))) (qss_cons (qs_set 6 sc__law_spoilt.nd (qe_lst (qa_cons (qe_op op_addA os_add qe_str (qe_var 3)) (qa_cons (qe_op op_addA os_add qe_str (qe_var 2)) (qa_cons (qe_op op_addA os_add (qe_var 2) qe_str) (qa_cons (qe_op op_addA os_add qe_str (qe_var 3)) (qa_cons (qe_op op_addA os_add qe_str (qe_var 3)) (qa_cons (qe_op op_addA os_add (qe_op op_addA os_add (qe_var 4) qe_str) (qe_callTy call_str_int cs_str (by rfl) z_str (by decide +kernel) (qa_cons qe_int qa_nil))) (qa_cons (qe_op op_addA os_add (qe_var 2) qe_str) (qa_cons (qe_op op_addA os_add qe_str (qe_var 2)) qa_nil)))))))))) (qss_cons (qs_set 6 sc__law_spoilt.nd (qe_op op_addA os_add (qe_var 6) (qe_lst (qa_cons (qe_op op_addA os_add (qe_op op_addA os_add (qe_callTy call_str_int cs_str (by rfl) z_str (by decide +kernel) (qa_cons (qe_op op_mulA os_mul (qe_ix (qe_var 0) qe_int) qe_int) qa_nil)) qe_str) (qe_callTy call_str_int cs_str (by rfl) z_str (by decide +kernel) (qa_cons (qe_op op_mulA os_mul (qe_ix (qe_var 0) qe_int) qe_int) qa_nil))) (qa_cons (qe_op op_addA os_add (qe_op op_addA os_add (qe_var 4) qe_str) (qe_var 5)) (qa_cons (qe_op op_addA os_add (qe_op op_addA os_add (qe_var 4) qe_str) (qe_var 5)) (qa_cons (qe_op op_addA os_add qe_str (qe_var 3)) (qa_cons (qe_op op_addA os_add (qe_var 2) qe_str) (qa_cons qe_str qa_nil))))))))) (qss_cons (qs_set 6 sc__law_spoilt.nd (qe_op op_addA os_add (qe_var 6) (qe_lst (qa_cons (qe_op op_addA os_add (qe_var 2) qe_str) (qa_cons (qe_op op_addA os_add (qe_var 3) qe_str) (qa_cons (qe_op op_addA os_add (qe_op op_addA os_add (qe_op op_addA os_add (qe_var 4) qe_str) (qe_var 5)) qe_str) (qa_cons qe_str (qa_cons (qe_op op_addA os_add (qe_op op_addA os_add (qe_var 4) qe_str) (qe_var 5)) (qa_cons (qe_op op_addA os_add qe_str (qe_var 3)) (qa_cons qe_str (qa_cons qe_str qa_nil))))))))))) (qss_one (qs_ret (qe_ix (qe_var 6) (qe_var 1))))))))))
theorem c__law_spoilt (T : Txt K mg) (C__law_text : Callee P w K mg base 1 "_law_text" 1 [] m__law_text) : Callee P w K mg base 2 "_law_spoilt" 2 [] m__law_spoilt := by
  obtain ⟨f, fd, F, hm⟩ := T.F__law_spoilt
  exact ⟨f, fd, ["_law_one", "_law_way"], [], [], f__law_spoilt T C__law_text F, hm, F.kp, F.binds (ps := ["_law_one", "_law_way"]) (fun _ _ _ _ _ _ us hl => match us, hl with | [_, _], _ => rfl), .nil, fun _ _ => .nil⟩
theorem f_law (T : Txt K mg) (C__law_long : Callee P w K mg base 2 "_law_long" 1 [] m__law_long) (C__law_plain : Callee P w K mg base 1 "_law_plain" 2 [] m__law_plain) (C__law_ratio : Callee P w K mg base 2 "_law_ratio" 2 [] m__law_ratio) (C__law_read : Callee P w K mg base 4 "_law_read" 1 [] m__law_read) (C__law_spoilt : Callee P w K mg base 2 "_law_spoilt" 2 [] m__law_spoilt) (C__law_take : Callee P w K mg base 1 "_law_take" 2 [] m__law_take) (C__law_text : Callee P w K mg base 1 "_law_text" 1 [] m__law_text) (C__law_wide_ratio : Callee P w K mg base 3 "_law_wide_ratio" 1 [] m__law_wide_ratio) (C_ratio_of : Callee P w K mg base 3 "ratio_of" 1 [] m_ratio_of) (C_ratio_text : Callee P w K mg base 2 "ratio_text" 1 [] m_ratio_text) (M : ∀ s : Hd, ∃ s' : Hd, b_law (lawE 6) s = .ok (.rt (.bl true)) s') {f : Addr} {fd : FuncData} (F : Fun K "law" "law" st_law f fd) : FnOk P w K mg base (L2.CX P w) 5 f fd ["_law_script"] (spLaw K) := by
  have z_isinstance := T.z_isinstance
  have z_str := T.z_str
  obtain ⟨fh, fdh, Fh, hmh⟩ := T.F__law_hand
  have Gh : FnOk P w K mg base (L2.CX P w) 1 fh fdh ["_law_script"] (spHand K) := f__law_hand T Fh
  have bh : Binds K fdh ["_law_script"] [] := Fh.binds (ps := ["_law_script"]) (fun _ _ _ _ _ _ us hl => match us, hl with | [_], _ => rfl)
  refine F.okX (k := 4) sc_law (fun vs H Q E h => ?_) (fun cdv A outer s H vs Q E hr h => ?_)
  · obtain ⟨a, ns, rfl, _⟩ := h
    rfl
  · have h' := h
    obtain ⟨a, ns, rfl, _⟩ := h'
    obtain ⟨ts, q, ss⟩ : QSs (cxD P w K mg base ["_law_script", "_law_hand_here", "_law_one", "_law_long_here", "_law_other", "_law_far", "_law_text_here", "_law_odd"] "law" (defScope st_law) f cdv A outer s H E) (wE E) ((defBody st_law).drop 1) b_law := by
      exact (qss_cons (qs_set 2 sc_law.nd (qe_c C__law_wide_ratio hr (by decide) cx_takes (qa_cons (qe_var 1) qa_nil))) (qss_cons (qs_if (qt_cmp (op_eqD hr.units) os_eq (qe_c C__law_take hr (by decide) cx_takes (qa_cons (qe_var 1) (qa_cons qe_int qa_nil))) qe_int (nomark _)) (qss_cons (qs_set 3 sc_law.nd (qe_c C__law_long hr (by decide) cx_takes (qa_cons (qe_var 1) qa_nil))) (qss_cons (qs_set 4 sc_law.nd (qe_c C__law_long hr (by decide) cx_takes (qa_cons (qe_var 1) qa_nil))) (qss_cons (qs_set 2 sc_law.nd (qe_ix (qe_lst (qa_cons (qe_tup (qa_cons (qe_var 3) (qa_cons qe_int qa_nil))) (qa_cons (qe_tup (qa_cons (qe_un un_neg us_neg (qe_var 3)) (qa_cons qe_int qa_nil))) (qa_cons (qe_c C__law_ratio hr (by decide) cx_takes (qa_cons (qe_var 3) (qa_cons (qe_var 4) qa_nil))) (qa_cons (qe_c C__law_ratio hr (by decide) cx_takes (qa_cons qe_int (qa_cons (qe_var 3) qa_nil))) qa_nil))))) (qe_c C__law_take hr (by decide) cx_takes (qa_cons (qe_var 1) (qa_cons qe_int qa_nil))))) (qss_one (qs_if (qt_w (qw_or (qt_cmp (op_neD hr.units) os_ne (qe_c C__law_read hr (by decide) cx_takes (qa_cons (qe_op op_addA os_add (qe_callTy call_str_int cs_str (by rfl) z_str (by decide +kernel) (qa_cons (qe_var 3) qa_nil)) qe_str) qa_nil)) qe_str (nomark _)) (qw_or (qt_cmp (op_neD hr.units) os_ne (qe_c C__law_read hr (by decide) cx_takes (qa_cons (qe_op op_addA os_add (qe_op op_addA os_add qe_str (qe_callTy call_str_int cs_str (by rfl) z_str (by decide +kernel) (qa_cons (qe_var 3) qa_nil))) qe_str) qa_nil)) qe_str (nomark _)) (qw_or1 (qt_cmp (op_neD hr.units) os_ne (qe_c C__law_read hr (by decide) cx_takes (qa_cons (qe_op op_addA os_add (qe_op op_addA os_add qe_str (qe_callTy call_str_int cs_str (by rfl) z_str (by decide +kernel) (qa_cons (qe_var 3) qa_nil))) qe_str) qa_nil)) qe_str (nomark _)))))) (qss_one (qs_ret qe_bl)) qss_nil))))) qss_nil) (qss_cons (qs_if (qt_cmp (op_eqD hr.units) os_eq (qe_c C__law_take hr (by decide) cx_takes (qa_cons (qe_var 1) (qa_cons qe_int qa_nil))) qe_int (nomark _)) (qss_cons (qs_set 5 sc_law.nd (qe_ix (qe_lst (qa_cons (qe_op op_repS os_rep qe_str qe_int) (qa_cons (qe_op op_addA os_add qe_str (qe_op op_repS os_rep qe_str qe_int)) (qa_cons (qe_op op_addA os_add qe_str (qe_op op_repS os_rep qe_str qe_int)) (qa_cons (qe_op op_addA os_add (qe_op op_repS os_rep qe_str qe_int) qe_str) qa_nil))))) (qe_c C__law_take hr (by decide) cx_takes (qa_cons (qe_var 1) (qa_cons qe_int qa_nil))))) (qss_one (qs_if (qt_cmp (op_neD hr.units) os_ne (qe_c C__law_read hr (by decide) cx_takes (qa_cons (qe_var 5) qa_nil)) qe_str (nomark _)) (qss_one (qs_ret qe_bl)) qss_nil))) qss_nil) (qss_cons (qs_set 6 sc_law.nd (qe_c C_ratio_text hr (by decide) cx_takes (qa_cons (qe_var 2) qa_nil))) (qss_cons (qs_if (qt_w (qw_or (qt_cmp (op_neD hr.units) os_ne (qe_var 6) (qe_c C__law_text hr (by decide) cx_takes (qa_cons (qe_var 2) qa_nil)) (nomark _)) (qw_or1 (qt_not (qt_tru (qe_isi (qe_var 6) (by rfl) z_isinstance (by rfl) z_str (by decide +kernel))))))) (qss_one (qs_ret qe_bl)) qss_nil) (qss_cons (qs_if (qt_w (qw_or (qt_not (qt_tru (qe_c C__law_plain hr (by decide) cx_takes (qa_cons (qe_c C_ratio_of hr (by decide) cx_takes (qa_cons (qe_var 6) qa_nil)) (qa_cons (qe_var 2) qa_nil))))) (qw_or1 (qt_not (qt_tru (qe_c C__law_plain hr (by decide) cx_takes (qa_cons (qe_c C_ratio_of hr (by decide) cx_takes (qa_cons (qe_c C__law_text hr (by decide) cx_takes (qa_cons (qe_var 2) qa_nil)) qa_nil)) (qa_cons (qe_var 2) qa_nil)))))))) (qss_one (qs_ret qe_bl)) qss_nil) (qss_cons (qs_if (qt_w (qw_or (qt_cmp (op_neD hr.units) os_ne (qe_c C__law_read hr (by decide) cx_takes (qa_cons (qe_c C__law_spoilt hr (by decide) cx_takes (qa_cons (qe_var 2) (qa_cons (qe_c C__law_take hr (by decide) cx_takes (qa_cons (qe_var 1) (qa_cons qe_int qa_nil))) qa_nil))) qa_nil)) qe_str (nomark _)) (qw_or1 (qt_cmp (op_neD hr.units) os_ne (qe_c C__law_read hr (by decide) cx_takes (qa_cons (qe_callTy call_str_int cs_str (by rfl) z_str (by decide +kernel) (qa_cons (qe_ix (qe_var 2) qe_int) qa_nil)) qa_nil)) (qe_tup (qa_cons (qe_ix (qe_var 2) qe_int) (qa_cons qe_int qa_nil))) (nomark _))))) (qss_one (qs_ret qe_bl)) qss_nil) (qss_cons (qs_set 7 sc_law.nd (qe_ix (qe_lst (qa_cons qe_non (qa_cons qe_int (qa_cons (qe_var 2) (qa_cons (qe_lst (qa_cons (qe_var 6) qa_nil)) (qa_cons qe_bl (qa_cons (qe_tup (qa_cons (qe_var 6) qa_nil)) qa_nil))))))) (qe_c C__law_take hr (by decide) cx_takes (qa_cons (qe_var 1) (qa_cons qe_int qa_nil))))) (qss_one (qs_ret (qe_and (qe_cmp (op_eqD hr.units) os_eq (qe_c C__law_read hr (by decide) cx_takes (qa_cons (qe_var 7) qa_nil)) qe_str (nomark _)) (qe_and (qe_c C__law_plain hr (by decide) cx_takes (qa_cons (qe_c C_ratio_of hr (by decide) cx_takes (qa_cons qe_str qa_nil)) (qa_cons (qe_tup (qa_cons qe_int (qa_cons qe_int qa_nil))) qa_nil))) (qe_one (qe_cmp (op_eqD hr.units) os_eq (qe_c C_ratio_text hr (by decide) cx_takes (qa_cons (qe_tup (qa_cons qe_int (qa_cons qe_int qa_nil))) qa_nil)) qe_str (nomark _)))))))))))))))
    exact ⟨_, pss_cons (ps_set (i := 1) sc_law.nd rfl (.inl rfl) (pe_callSD Gh (hr.mono (by decide)) (by rfl) hmh Fh.kp bh .nil (fun σ => passAt (W := wE E) cx_takes σ) (pa_cons (pv 0) pa_nil))) q, law_run h ss M⟩
end
end Law


set_option Elab.async false
set_option linter.all false
set_option maxRecDepth 100000
namespace Law
open PySem PySem.Spec PyProof.Rows L2 Mir
open PySem.W (Frag)
theorem txt_mk {K : Frag} {h : Heap} {mg : Str → Option Value} (X : K.In h) (G : h.Ns mainGlobals mg)
    {f__law_hand : Addr} {od__law_hand an__law_hand : Option Addr} {sl__law_hand : Array (Option Value)} {oc__law_hand kV__law_hand dc__law_hand pm__law_hand cd__law_hand ct__law_hand : Value}
    (a__law_hand : PySem.W.nsIn K mainGlobals "_law_hand" = some (some (.ref f__law_hand)))
    (l__law_hand : K.lookup f__law_hand = some ⟨oc__law_hand, od__law_hand, .func (PySem.W.fnOf "_law_hand" "_law_hand" (defArgs st__law_hand) (defBody st__law_hand) (defScope st__law_hand) .none kV__law_hand dc__law_hand pm__law_hand an__law_hand cd__law_hand ct__law_hand), sl__law_hand⟩)
    (c__law_hand : PySem.W.codeIn K cd__law_hand "_law_hand" = true)
    (k__law_hand : PySem.W.keepIn K (.ref f__law_hand) = true)
    {f__law_take : Addr} {od__law_take an__law_take : Option Addr} {sl__law_take : Array (Option Value)} {oc__law_take kV__law_take dc__law_take pm__law_take cd__law_take ct__law_take : Value}
    (a__law_take : PySem.W.nsIn K mainGlobals "_law_take" = some (some (.ref f__law_take)))
    (l__law_take : K.lookup f__law_take = some ⟨oc__law_take, od__law_take, .func (PySem.W.fnOf "_law_take" "_law_take" (defArgs st__law_take) (defBody st__law_take) (defScope st__law_take) .none kV__law_take dc__law_take pm__law_take an__law_take cd__law_take ct__law_take), sl__law_take⟩)
    (c__law_take : PySem.W.codeIn K cd__law_take "_law_take" = true)
    (k__law_take : PySem.W.keepIn K (.ref f__law_take) = true)
    {f_whole_text : Addr} {od_whole_text an_whole_text : Option Addr} {sl_whole_text : Array (Option Value)} {oc_whole_text kV_whole_text dc_whole_text pm_whole_text cd_whole_text ct_whole_text : Value}
    (a_whole_text : PySem.W.nsIn K mainGlobals "whole_text" = some (some (.ref f_whole_text)))
    (l_whole_text : K.lookup f_whole_text = some ⟨oc_whole_text, od_whole_text, .func (PySem.W.fnOf "whole_text" "whole_text" (defArgs st_whole_text) (defBody st_whole_text) (defScope st_whole_text) .none kV_whole_text dc_whole_text pm_whole_text an_whole_text cd_whole_text ct_whole_text), sl_whole_text⟩)
    (c_whole_text : PySem.W.codeIn K cd_whole_text "whole_text" = true)
    (k_whole_text : PySem.W.keepIn K (.ref f_whole_text) = true)
    {f_ratio_text : Addr} {od_ratio_text an_ratio_text : Option Addr} {sl_ratio_text : Array (Option Value)} {oc_ratio_text kV_ratio_text dc_ratio_text pm_ratio_text cd_ratio_text ct_ratio_text : Value}
    (a_ratio_text : PySem.W.nsIn K mainGlobals "ratio_text" = some (some (.ref f_ratio_text)))
    (l_ratio_text : K.lookup f_ratio_text = some ⟨oc_ratio_text, od_ratio_text, .func (PySem.W.fnOf "ratio_text" "ratio_text" (defArgs st_ratio_text) (defBody st_ratio_text) (defScope st_ratio_text) .none kV_ratio_text dc_ratio_text pm_ratio_text an_ratio_text cd_ratio_text ct_ratio_text), sl_ratio_text⟩)
    (c_ratio_text : PySem.W.codeIn K cd_ratio_text "ratio_text" = true)
    (k_ratio_text : PySem.W.keepIn K (.ref f_ratio_text) = true)
    {f__law_plain : Addr} {od__law_plain an__law_plain : Option Addr} {sl__law_plain : Array (Option Value)} {oc__law_plain kV__law_plain dc__law_plain pm__law_plain cd__law_plain ct__law_plain : Value}
    (a__law_plain : PySem.W.nsIn K mainGlobals "_law_plain" = some (some (.ref f__law_plain)))
    (l__law_plain : K.lookup f__law_plain = some ⟨oc__law_plain, od__law_plain, .func (PySem.W.fnOf "_law_plain" "_law_plain" (defArgs st__law_plain) (defBody st__law_plain) (defScope st__law_plain) .none kV__law_plain dc__law_plain pm__law_plain an__law_plain cd__law_plain ct__law_plain), sl__law_plain⟩)
    (c__law_plain : PySem.W.codeIn K cd__law_plain "_law_plain" = true)
    (k__law_plain : PySem.W.keepIn K (.ref f__law_plain) = true)
    {f__law_long : Addr} {od__law_long an__law_long : Option Addr} {sl__law_long : Array (Option Value)} {oc__law_long kV__law_long dc__law_long pm__law_long cd__law_long ct__law_long : Value}
    (a__law_long : PySem.W.nsIn K mainGlobals "_law_long" = some (some (.ref f__law_long)))
    (l__law_long : K.lookup f__law_long = some ⟨oc__law_long, od__law_long, .func (PySem.W.fnOf "_law_long" "_law_long" (defArgs st__law_long) (defBody st__law_long) (defScope st__law_long) .none kV__law_long dc__law_long pm__law_long an__law_long cd__law_long ct__law_long), sl__law_long⟩)
    (c__law_long : PySem.W.codeIn K cd__law_long "_law_long" = true)
    (k__law_long : PySem.W.keepIn K (.ref f__law_long) = true)
    {f__law_gcd : Addr} {od__law_gcd an__law_gcd : Option Addr} {sl__law_gcd : Array (Option Value)} {oc__law_gcd kV__law_gcd dc__law_gcd pm__law_gcd cd__law_gcd ct__law_gcd : Value}
    (a__law_gcd : PySem.W.nsIn K mainGlobals "_law_gcd" = some (some (.ref f__law_gcd)))
    (l__law_gcd : K.lookup f__law_gcd = some ⟨oc__law_gcd, od__law_gcd, .func (PySem.W.fnOf "_law_gcd" "_law_gcd" (defArgs st__law_gcd) (defBody st__law_gcd) (defScope st__law_gcd) .none kV__law_gcd dc__law_gcd pm__law_gcd an__law_gcd cd__law_gcd ct__law_gcd), sl__law_gcd⟩)
    (c__law_gcd : PySem.W.codeIn K cd__law_gcd "_law_gcd" = true)
    (k__law_gcd : PySem.W.keepIn K (.ref f__law_gcd) = true)
    {f__law_ratio : Addr} {od__law_ratio an__law_ratio : Option Addr} {sl__law_ratio : Array (Option Value)} {oc__law_ratio kV__law_ratio dc__law_ratio pm__law_ratio cd__law_ratio ct__law_ratio : Value}
    (a__law_ratio : PySem.W.nsIn K mainGlobals "_law_ratio" = some (some (.ref f__law_ratio)))
    (l__law_ratio : K.lookup f__law_ratio = some ⟨oc__law_ratio, od__law_ratio, .func (PySem.W.fnOf "_law_ratio" "_law_ratio" (defArgs st__law_ratio) (defBody st__law_ratio) (defScope st__law_ratio) .none kV__law_ratio dc__law_ratio pm__law_ratio an__law_ratio cd__law_ratio ct__law_ratio), sl__law_ratio⟩)
    (c__law_ratio : PySem.W.codeIn K cd__law_ratio "_law_ratio" = true)
    (k__law_ratio : PySem.W.keepIn K (.ref f__law_ratio) = true)
    {f__law_wide : Addr} {od__law_wide an__law_wide : Option Addr} {sl__law_wide : Array (Option Value)} {oc__law_wide kV__law_wide dc__law_wide pm__law_wide cd__law_wide ct__law_wide : Value}
    (a__law_wide : PySem.W.nsIn K mainGlobals "_law_wide" = some (some (.ref f__law_wide)))
    (l__law_wide : K.lookup f__law_wide = some ⟨oc__law_wide, od__law_wide, .func (PySem.W.fnOf "_law_wide" "_law_wide" (defArgs st__law_wide) (defBody st__law_wide) (defScope st__law_wide) .none kV__law_wide dc__law_wide pm__law_wide an__law_wide cd__law_wide ct__law_wide), sl__law_wide⟩)
    (c__law_wide : PySem.W.codeIn K cd__law_wide "_law_wide" = true)
    (k__law_wide : PySem.W.keepIn K (.ref f__law_wide) = true)
    {f__law_wide_ratio : Addr} {od__law_wide_ratio an__law_wide_ratio : Option Addr} {sl__law_wide_ratio : Array (Option Value)} {oc__law_wide_ratio kV__law_wide_ratio dc__law_wide_ratio pm__law_wide_ratio cd__law_wide_ratio ct__law_wide_ratio : Value}
    (a__law_wide_ratio : PySem.W.nsIn K mainGlobals "_law_wide_ratio" = some (some (.ref f__law_wide_ratio)))
    (l__law_wide_ratio : K.lookup f__law_wide_ratio = some ⟨oc__law_wide_ratio, od__law_wide_ratio, .func (PySem.W.fnOf "_law_wide_ratio" "_law_wide_ratio" (defArgs st__law_wide_ratio) (defBody st__law_wide_ratio) (defScope st__law_wide_ratio) .none kV__law_wide_ratio dc__law_wide_ratio pm__law_wide_ratio an__law_wide_ratio cd__law_wide_ratio ct__law_wide_ratio), sl__law_wide_ratio⟩)
    (c__law_wide_ratio : PySem.W.codeIn K cd__law_wide_ratio "_law_wide_ratio" = true)
    (k__law_wide_ratio : PySem.W.keepIn K (.ref f__law_wide_ratio) = true)
    {f_is_whole : Addr} {od_is_whole an_is_whole : Option Addr} {sl_is_whole : Array (Option Value)} {oc_is_whole kV_is_whole dc_is_whole pm_is_whole cd_is_whole ct_is_whole : Value}
    {t_is_whole : Addr} {td_is_whole : Option Addr} {tn_is_whole : Nat} {tl_is_whole : Array (Option Value)}
    (a_is_whole : PySem.W.nsIn K mainGlobals "is_whole" = some (some (.ref f_is_whole)))
    (l_is_whole : K.lookup f_is_whole = some ⟨oc_is_whole, od_is_whole, .func (PySem.W.fnOf "is_whole" "is_whole" (defArgs st_is_whole) (defBody st_is_whole) (defScope st_is_whole) (.ref t_is_whole) kV_is_whole dc_is_whole pm_is_whole an_is_whole cd_is_whole ct_is_whole), sl_is_whole⟩)
    (c_is_whole : PySem.W.codeIn K cd_is_whole "is_whole" = true)
    (k_is_whole : PySem.W.keepIn K (.ref f_is_whole) = true)
    (e_is_whole : K.lookup t_is_whole = some ⟨.type "tuple", td_is_whole, .seq #[Value.none, Value.none] tn_is_whole, tl_is_whole⟩)
    {f_is_ratio : Addr} {od_is_ratio an_is_ratio : Option Addr} {sl_is_ratio : Array (Option Value)} {oc_is_ratio kV_is_ratio dc_is_ratio pm_is_ratio cd_is_ratio ct_is_ratio : Value}
    (a_is_ratio : PySem.W.nsIn K mainGlobals "is_ratio" = some (some (.ref f_is_ratio)))
    (l_is_ratio : K.lookup f_is_ratio = some ⟨oc_is_ratio, od_is_ratio, .func (PySem.W.fnOf "is_ratio" "is_ratio" (defArgs st_is_ratio) (defBody st_is_ratio) (defScope st_is_ratio) .none kV_is_ratio dc_is_ratio pm_is_ratio an_is_ratio cd_is_ratio ct_is_ratio), sl_is_ratio⟩)
    (c_is_ratio : PySem.W.codeIn K cd_is_ratio "is_ratio" = true)
    (k_is_ratio : PySem.W.keepIn K (.ref f_is_ratio) = true)
    {f_are_digits : Addr} {od_are_digits an_are_digits : Option Addr} {sl_are_digits : Array (Option Value)} {oc_are_digits kV_are_digits dc_are_digits pm_are_digits cd_are_digits ct_are_digits : Value}
    (a_are_digits : PySem.W.nsIn K mainGlobals "are_digits" = some (some (.ref f_are_digits)))
    (l_are_digits : K.lookup f_are_digits = some ⟨oc_are_digits, od_are_digits, .func (PySem.W.fnOf "are_digits" "are_digits" (defArgs st_are_digits) (defBody st_are_digits) (defScope st_are_digits) .none kV_are_digits dc_are_digits pm_are_digits an_are_digits cd_are_digits ct_are_digits), sl_are_digits⟩)
    (c_are_digits : PySem.W.codeIn K cd_are_digits "are_digits" = true)
    (k_are_digits : PySem.W.keepIn K (.ref f_are_digits) = true)
    {f_ratio_of : Addr} {od_ratio_of an_ratio_of : Option Addr} {sl_ratio_of : Array (Option Value)} {oc_ratio_of kV_ratio_of dc_ratio_of pm_ratio_of cd_ratio_of ct_ratio_of : Value}
    (a_ratio_of : PySem.W.nsIn K mainGlobals "ratio_of" = some (some (.ref f_ratio_of)))
    (l_ratio_of : K.lookup f_ratio_of = some ⟨oc_ratio_of, od_ratio_of, .func (PySem.W.fnOf "ratio_of" "ratio_of" (defArgs st_ratio_of) (defBody st_ratio_of) (defScope st_ratio_of) .none kV_ratio_of dc_ratio_of pm_ratio_of an_ratio_of cd_ratio_of ct_ratio_of), sl_ratio_of⟩)
    (c_ratio_of : PySem.W.codeIn K cd_ratio_of "ratio_of" = true)
    (k_ratio_of : PySem.W.keepIn K (.ref f_ratio_of) = true)
    {f__law_read : Addr} {od__law_read an__law_read : Option Addr} {sl__law_read : Array (Option Value)} {oc__law_read kV__law_read dc__law_read pm__law_read cd__law_read ct__law_read : Value}
    (a__law_read : PySem.W.nsIn K mainGlobals "_law_read" = some (some (.ref f__law_read)))
    (l__law_read : K.lookup f__law_read = some ⟨oc__law_read, od__law_read, .func (PySem.W.fnOf "_law_read" "_law_read" (defArgs st__law_read) (defBody st__law_read) (defScope st__law_read) .none kV__law_read dc__law_read pm__law_read an__law_read cd__law_read ct__law_read), sl__law_read⟩)
    (c__law_read : PySem.W.codeIn K cd__law_read "_law_read" = true)
    (k__law_read : PySem.W.keepIn K (.ref f__law_read) = true)
    {f__law_text : Addr} {od__law_text an__law_text : Option Addr} {sl__law_text : Array (Option Value)} {oc__law_text kV__law_text dc__law_text pm__law_text cd__law_text ct__law_text : Value}
    (a__law_text : PySem.W.nsIn K mainGlobals "_law_text" = some (some (.ref f__law_text)))
    (l__law_text : K.lookup f__law_text = some ⟨oc__law_text, od__law_text, .func (PySem.W.fnOf "_law_text" "_law_text" (defArgs st__law_text) (defBody st__law_text) (defScope st__law_text) .none kV__law_text dc__law_text pm__law_text an__law_text cd__law_text ct__law_text), sl__law_text⟩)
    (c__law_text : PySem.W.codeIn K cd__law_text "_law_text" = true)
    (k__law_text : PySem.W.keepIn K (.ref f__law_text) = true)
    {f__law_spoilt : Addr} {od__law_spoilt an__law_spoilt : Option Addr} {sl__law_spoilt : Array (Option Value)} {oc__law_spoilt kV__law_spoilt dc__law_spoilt pm__law_spoilt cd__law_spoilt ct__law_spoilt : Value}
    (a__law_spoilt : PySem.W.nsIn K mainGlobals "_law_spoilt" = some (some (.ref f__law_spoilt)))
    (l__law_spoilt : K.lookup f__law_spoilt = some ⟨oc__law_spoilt, od__law_spoilt, .func (PySem.W.fnOf "_law_spoilt" "_law_spoilt" (defArgs st__law_spoilt) (defBody st__law_spoilt) (defScope st__law_spoilt) .none kV__law_spoilt dc__law_spoilt pm__law_spoilt an__law_spoilt cd__law_spoilt ct__law_spoilt), sl__law_spoilt⟩)
    (c__law_spoilt : PySem.W.codeIn K cd__law_spoilt "_law_spoilt" = true)
    (k__law_spoilt : PySem.W.keepIn K (.ref f__law_spoilt) = true)
    {f_law : Addr} {od_law an_law : Option Addr} {sl_law : Array (Option Value)} {oc_law kV_law dc_law pm_law cd_law ct_law : Value}
    (a_law : PySem.W.nsIn K mainGlobals "law" = some (some (.ref f_law)))
    (l_law : K.lookup f_law = some ⟨oc_law, od_law, .func (PySem.W.fnOf "law" "law" (defArgs st_law) (defBody st_law) (defScope st_law) .none kV_law dc_law pm_law an_law cd_law ct_law), sl_law⟩)
    (c_law : PySem.W.codeIn K cd_law "law" = true)
    (k_law : PySem.W.keepIn K (.ref f_law) = true)
    {C_BadRatio N_BadRatio f_BadRatio : Addr} {nm_BadRatio qn_BadRatio : Str} {bs_BadRatio bm_BadRatio sub_BadRatio : List Value} {sn_BadRatio : List Str} {ab_BadRatio : Bool} {co_BadRatio : Option Bool} {dd_BadRatio : Option Addr} {m0_BadRatio m1_BadRatio m2_BadRatio m3_BadRatio m5_BadRatio : Option Value}
    {od_BadRatio an_BadRatio : Option Addr} {sl_BadRatio : Array (Option Value)} {oc_BadRatio kV_BadRatio dc_BadRatio pm_BadRatio cd_BadRatio ct_BadRatio : Value}
    (a_BadRatio : PySem.W.nsIn K mainGlobals "BadRatio" = some (some (.ref C_BadRatio)))
    (x_BadRatio : K.lookup C_BadRatio = some (excClassObj nm_BadRatio qn_BadRatio C_BadRatio N_BadRatio bs_BadRatio bm_BadRatio true sn_BadRatio sub_BadRatio ab_BadRatio co_BadRatio dd_BadRatio m0_BadRatio m1_BadRatio m2_BadRatio m3_BadRatio m5_BadRatio "ValueError.__new__"))
    (r_BadRatio : PySem.HandSPX.refsVE bm_BadRatio = true)
    (sa_BadRatio : PySem.W.findIn K (.ref C_BadRatio) "__setattr__" = some (some (.builtin "object.__setattr__")))
    (ga_BadRatio : PySem.W.findIn K (.ref C_BadRatio) "__getattribute__" = some (some (.builtin "BaseException.__getattribute__")))
    (gg_BadRatio : PySem.W.findIn K (.ref C_BadRatio) "__getattr__" = some none)
    (n_what_BadRatio : PySem.W.findIn K (.ref C_BadRatio) "what" = some none)
    (i_BadRatio : PySem.W.findIn K (.ref C_BadRatio) "__init__" = some (some (.ref f_BadRatio)))
    (ti_BadRatio : PySem.W.typeIn K (.ref f_BadRatio) = some (.type "function"))
    (l_BadRatio : K.lookup f_BadRatio = some ⟨oc_BadRatio, od_BadRatio, .func (PySem.W.fnOf "__init__" "BadRatio.__init__" (defArgs st_BadRatio) (defBody st_BadRatio) (defScope st_BadRatio) .none kV_BadRatio dc_BadRatio pm_BadRatio an_BadRatio cd_BadRatio ct_BadRatio), sl_BadRatio⟩)
    (c_BadRatio : PySem.W.codeIn K cd_BadRatio "BadRatio.__init__" = true)
    (ki_BadRatio : PySem.W.keepIn K (.ref f_BadRatio) = true)
    (k_BadRatio : PySem.W.keepIn K (.ref C_BadRatio) = true)
    (ex_BadRatio : PySem.W.subIn K (.ref C_BadRatio) (.type "BaseException") = some true)
    (ty_BadRatio : PySem.W.typeIn K (.ref C_BadRatio) = some (.type "type"))
    (hd_BadRatio : PySem.W.hasDictIn K C_BadRatio = true)
    (se_BadRatio : PySem.W.subIn K (.ref C_BadRatio) (.ref C_BadRatio) = some true)
    {zt_MOST_DIGITS : Tok}
    (g_MOST_DIGITS : PySem.W.nsIn K mainGlobals "MOST_DIGITS" = some (some (.int 300 zt_MOST_DIGITS)))
    (i_gcd : PySem.W.nsIn K mainGlobals "gcd" = some (some (.builtin "math.gcd")))
    (z_abs : PySem.W.nsIn K mainGlobals "abs" = some none)
    (z_bool : PySem.W.nsIn K mainGlobals "bool" = some none)
    (z_divmod : PySem.W.nsIn K mainGlobals "divmod" = some none)
    (z_int : PySem.W.nsIn K mainGlobals "int" = some none)
    (z_isinstance : PySem.W.nsIn K mainGlobals "isinstance" = some none)
    (z_len : PySem.W.nsIn K mainGlobals "len" = some none)
    (z_range : PySem.W.nsIn K mainGlobals "range" = some none)
    (z_str : PySem.W.nsIn K mainGlobals "str" = some none)
    (z_tuple : PySem.W.nsIn K mainGlobals "tuple" = some none) : Txt K mg where
  F__law_hand := ⟨_, _, fun_mk (st := st__law_hand) l__law_hand c__law_hand k__law_hand, PySem.W.mg_of X G a__law_hand⟩
  F__law_take := ⟨_, _, fun_mk (st := st__law_take) l__law_take c__law_take k__law_take, PySem.W.mg_of X G a__law_take⟩
  F_whole_text := ⟨_, _, fun_mk (st := st_whole_text) l_whole_text c_whole_text k_whole_text, PySem.W.mg_of X G a_whole_text⟩
  F_ratio_text := ⟨_, _, fun_mk (st := st_ratio_text) l_ratio_text c_ratio_text k_ratio_text, PySem.W.mg_of X G a_ratio_text⟩
  F__law_plain := ⟨_, _, fun_mk (st := st__law_plain) l__law_plain c__law_plain k__law_plain, PySem.W.mg_of X G a__law_plain⟩
  F__law_long := ⟨_, _, fun_mk (st := st__law_long) l__law_long c__law_long k__law_long, PySem.W.mg_of X G a__law_long⟩
  F__law_gcd := ⟨_, _, fun_mk (st := st__law_gcd) l__law_gcd c__law_gcd k__law_gcd, PySem.W.mg_of X G a__law_gcd⟩
  F__law_ratio := ⟨_, _, fun_mk (st := st__law_ratio) l__law_ratio c__law_ratio k__law_ratio, PySem.W.mg_of X G a__law_ratio⟩
  F__law_wide := ⟨_, _, fun_mk (st := st__law_wide) l__law_wide c__law_wide k__law_wide, PySem.W.mg_of X G a__law_wide⟩
  F__law_wide_ratio := ⟨_, _, fun_mk (st := st__law_wide_ratio) l__law_wide_ratio c__law_wide_ratio k__law_wide_ratio, PySem.W.mg_of X G a__law_wide_ratio⟩
  F_is_whole := ⟨_, _, ⟨⟨_, _, _, _, _, _, _, _, _, _, rfl, l_is_whole, c_is_whole, .inr ⟨by simp, _, _, [Value.none, Value.none], _, rfl, e_is_whole, rfl, .cons rfl (.cons rfl (.nil))⟩, .inl rfl⟩, k_is_whole⟩, PySem.W.mg_of X G a_is_whole⟩
  F_is_ratio := ⟨_, _, fun_mk (st := st_is_ratio) l_is_ratio c_is_ratio k_is_ratio, PySem.W.mg_of X G a_is_ratio⟩
  F_are_digits := ⟨_, _, fun_mk (st := st_are_digits) l_are_digits c_are_digits k_are_digits, PySem.W.mg_of X G a_are_digits⟩
  F_ratio_of := ⟨_, _, fun_mk (st := st_ratio_of) l_ratio_of c_ratio_of k_ratio_of, PySem.W.mg_of X G a_ratio_of⟩
  F__law_read := ⟨_, _, fun_mk (st := st__law_read) l__law_read c__law_read k__law_read, PySem.W.mg_of X G a__law_read⟩
  F__law_text := ⟨_, _, fun_mk (st := st__law_text) l__law_text c__law_text k__law_text, PySem.W.mg_of X G a__law_text⟩
  F__law_spoilt := ⟨_, _, fun_mk (st := st__law_spoilt) l__law_spoilt c__law_spoilt k__law_spoilt, PySem.W.mg_of X G a__law_spoilt⟩
  F_law := ⟨_, _, fun_mk (st := st_law) l_law c_law k_law, PySem.W.mg_of X G a_law⟩
  X_BadRatio := ⟨C_BadRatio, f_BadRatio, _, PySem.W.mg_of X G a_BadRatio, ⟨⟨_, _, _, _, _, _, _, _, _, _, _, _, _, _, _, x_BadRatio, r_BadRatio⟩, sa_BadRatio, ex_BadRatio, ty_BadRatio, k_BadRatio⟩, fun f hf => by simp only [List.mem_cons, List.not_mem_nil, or_false] at hf; subst hf; exact n_what_BadRatio, i_BadRatio, ti_BadRatio, fun_mk (st := st_BadRatio) l_BadRatio c_BadRatio ki_BadRatio, PySem.W.exm_ref ex_BadRatio hd_BadRatio ty_BadRatio se_BadRatio, ⟨ga_BadRatio, gg_BadRatio, ex_BadRatio, hd_BadRatio⟩⟩
  g_MOST_DIGITS := ⟨_, PySem.W.mg_of X G g_MOST_DIGITS⟩
  i_gcd := PySem.W.mg_of X G i_gcd
  z_abs := PySem.W.mg_none_of X G z_abs
  z_bool := PySem.W.mg_none_of X G z_bool
  z_divmod := PySem.W.mg_none_of X G z_divmod
  z_int := PySem.W.mg_none_of X G z_int
  z_isinstance := PySem.W.mg_none_of X G z_isinstance
  z_len := PySem.W.mg_none_of X G z_len
  z_range := PySem.W.mg_none_of X G z_range
  z_str := PySem.W.mg_none_of X G z_str
  z_tuple := PySem.W.mg_none_of X G z_tuple
theorem law_mk {l : PySem.W.OpenLaw} {w : World} {K : Frag} {mg : Str → Option Value} {fa : Addr} (T : Txt K mg) (hfa : mg "law" = some (.ref fa)) (M : ∀ s : Hd, ∃ s' : Hd, b_law (lawE 6) s = .ok (.rt (.bl true)) s') :
    ∃ fd : FuncData, (∀ (s : Shared) (v : Value), BindsTo s fd ⟨[v], []⟩ [("_law_script", v)]) ∧ ∀ base : Heap, K.In base → base.Ns mainGlobals mg → FnOk l.prog w K mg base (L2.CX l.prog w) 5 fa fd ["_law_script"] (spLaw K) := by
  obtain ⟨f, fd, F, hm⟩ := T.F_law
  have e := hfa.symm.trans hm
  cases e
  refine ⟨fd, fun s v => ?_, fun base _ _ => ?_⟩
  · obtain ⟨oc, od, kV, doc, pm, an, cdv, ct, osl, rfl, _, _⟩ := F.ex
    exact .of_eq rfl
  · have C__law_take := c__law_take (P := l.prog) (w := w) (base := base) T
    have C_whole_text := c_whole_text (P := l.prog) (w := w) (base := base) T 
    have C_ratio_text := c_ratio_text (P := l.prog) (w := w) (base := base) T C_whole_text
    have C__law_plain := c__law_plain (P := l.prog) (w := w) (base := base) T 
    have C__law_long := c__law_long (P := l.prog) (w := w) (base := base) T C__law_take
    have C__law_gcd := c__law_gcd (P := l.prog) (w := w) (base := base) T 
    have C__law_ratio := c__law_ratio (P := l.prog) (w := w) (base := base) T C__law_gcd
    have C__law_wide := c__law_wide (P := l.prog) (w := w) (base := base) T C__law_take
    have C__law_wide_ratio := c__law_wide_ratio (P := l.prog) (w := w) (base := base) T C__law_ratio C__law_wide
    have C_is_whole_1 := c_is_whole_1 (P := l.prog) (w := w) (base := base) T 
    have C_is_whole_2 := c_is_whole_2 (P := l.prog) (w := w) (base := base) T 
    have C_is_ratio := c_is_ratio (P := l.prog) (w := w) (base := base) T C_is_whole_1 C_is_whole_2
    have C_are_digits := c_are_digits (P := l.prog) (w := w) (base := base) T 
    have C_ratio_of := c_ratio_of (P := l.prog) (w := w) (base := base) T C_are_digits C_is_ratio C_ratio_text
    have C__law_read := c__law_read (P := l.prog) (w := w) (base := base) T C_ratio_of
    have C__law_text := c__law_text (P := l.prog) (w := w) (base := base) T 
    have C__law_spoilt := c__law_spoilt (P := l.prog) (w := w) (base := base) T C__law_text
    exact f_law T C__law_long C__law_plain C__law_ratio C__law_read C__law_spoilt C__law_take C__law_text C__law_wide_ratio C_ratio_of C_ratio_text M F
end Law
open PySem PySem.W PyProof.Rows
set_option maxRecDepth 100000 in
set_option maxHeartbeats 0 in
theorem PySem.Challenge.cw_stillarms_k02_whole_ratio_texts_read_holds : PySem.Challenge.rw_stillarms_k02_whole_ratio_texts_read.Holds := by
  w_on; o_law; k_head; (case hw => w_witness2)
  k_fill
  refine L2.walk_of (l := PySem.Challenge.rw_stillarms_k02_whole_ratio_texts_read) (n := 63) (k := 5) (x := "_law_script") (CX := fun w => L2.CX PySem.Challenge.rw_stillarms_k02_whole_ratio_texts_read.prog w) (sp := fun w => Mir.spLaw _) rfl (by decide) rfl ⟨rfl, by decide, by decide⟩ (fun w h Y => PySem.W.kIn_of Y) ?F (fun _ _ a ns hl _ hS => ⟨a, ns, rfl, hS, hl, fun _ => rfl⟩) (fun _ _ _ _ _ z => Mir.cx_false z)
  case F =>
    intro w mg fa h KX G hmg
    refine' Law.law_mk (Law.txt_mk KX G ?a__law_hand ?l__law_hand ?c__law_hand ?k__law_hand ?a__law_take ?l__law_take ?c__law_take ?k__law_take ?a_whole_text ?l_whole_text ?c_whole_text ?k_whole_text ?a_ratio_text ?l_ratio_text ?c_ratio_text ?k_ratio_text ?a__law_plain ?l__law_plain ?c__law_plain ?k__law_plain ?a__law_long ?l__law_long ?c__law_long ?k__law_long ?a__law_gcd ?l__law_gcd ?c__law_gcd ?k__law_gcd ?a__law_ratio ?l__law_ratio ?c__law_ratio ?k__law_ratio ?a__law_wide ?l__law_wide ?c__law_wide ?k__law_wide ?a__law_wide_ratio ?l__law_wide_ratio ?c__law_wide_ratio ?k__law_wide_ratio ?a_is_whole ?l_is_whole ?c_is_whole ?k_is_whole ?e_is_whole ?a_is_ratio ?l_is_ratio ?c_is_ratio ?k_is_ratio ?a_are_digits ?l_are_digits ?c_are_digits ?k_are_digits ?a_ratio_of ?l_ratio_of ?c_ratio_of ?k_ratio_of ?a__law_read ?l__law_read ?c__law_read ?k__law_read ?a__law_text ?l__law_text ?c__law_text ?k__law_text ?a__law_spoilt ?l__law_spoilt ?c__law_spoilt ?k__law_spoilt ?a_law ?l_law ?c_law ?k_law ?a_BadRatio ?x_BadRatio ?r_BadRatio ?sa_BadRatio ?ga_BadRatio ?gg_BadRatio ?n_what_BadRatio ?i_BadRatio ?ti_BadRatio ?l_BadRatio ?c_BadRatio ?ki_BadRatio ?k_BadRatio ?ex_BadRatio ?ty_BadRatio ?hd_BadRatio ?se_BadRatio ?g_MOST_DIGITS ?i_gcd ?z_abs ?z_bool ?z_divmod ?z_int ?z_isinstance ?z_len ?z_range ?z_str ?z_tuple) hmg Law.math
    (case a__law_hand => k_is)
    (case l__law_hand => k_is)
    (case c__law_hand => k_is)
    (case k__law_hand => k_is)
    (case a__law_take => k_is)
    (case l__law_take => k_is)
    (case c__law_take => k_is)
    (case k__law_take => k_is)
    (case a_whole_text => k_is)
    (case l_whole_text => k_is)
    (case c_whole_text => k_is)
    (case k_whole_text => k_is)
    (case a_ratio_text => k_is)
    (case l_ratio_text => k_is)
    (case c_ratio_text => k_is)
    (case k_ratio_text => k_is)
    (case a__law_plain => k_is)
    (case l__law_plain => k_is)
    (case c__law_plain => k_is)
    (case k__law_plain => k_is)
    (case a__law_long => k_is)
    (case l__law_long => k_is)
    (case c__law_long => k_is)
    (case k__law_long => k_is)
    (case a__law_gcd => k_is)
    (case l__law_gcd => k_is)
    (case c__law_gcd => k_is)
    (case k__law_gcd => k_is)
    (case a__law_ratio => k_is)
    (case l__law_ratio => k_is)
    (case c__law_ratio => k_is)
    (case k__law_ratio => k_is)
    (case a__law_wide => k_is)
    (case l__law_wide => k_is)
    (case c__law_wide => k_is)
    (case k__law_wide => k_is)
    (case a__law_wide_ratio => k_is)
    (case l__law_wide_ratio => k_is)
    (case c__law_wide_ratio => k_is)
    (case k__law_wide_ratio => k_is)
    (case a_is_whole => k_is)
    (case l_is_whole => k_is)
    (case c_is_whole => k_is)
    (case k_is_whole => k_is)
    (case e_is_whole => k_is)
    (case a_is_ratio => k_is)
    (case l_is_ratio => k_is)
    (case c_is_ratio => k_is)
    (case k_is_ratio => k_is)
    (case a_are_digits => k_is)
    (case l_are_digits => k_is)
    (case c_are_digits => k_is)
    (case k_are_digits => k_is)
    (case a_ratio_of => k_is)
    (case l_ratio_of => k_is)
    (case c_ratio_of => k_is)
    (case k_ratio_of => k_is)
    (case a__law_read => k_is)
    (case l__law_read => k_is)
    (case c__law_read => k_is)
    (case k__law_read => k_is)
    (case a__law_text => k_is)
    (case l__law_text => k_is)
    (case c__law_text => k_is)
    (case k__law_text => k_is)
    (case a__law_spoilt => k_is)
    (case l__law_spoilt => k_is)
    (case c__law_spoilt => k_is)
    (case k__law_spoilt => k_is)
    (case a_law => k_is)
    (case l_law => k_is)
    (case c_law => k_is)
    (case k_law => k_is)
    (case a_BadRatio => k_is)
    (case x_BadRatio => k_is)
    (case r_BadRatio => decide +kernel)
    (case sa_BadRatio => k_is)
    (case ga_BadRatio => k_is)
    (case gg_BadRatio => k_is)
    (case n_what_BadRatio => k_is)
    (case i_BadRatio => k_is)
    (case ti_BadRatio => k_is)
    (case l_BadRatio => k_is)
    (case c_BadRatio => k_is)
    (case ki_BadRatio => k_is)
    (case k_BadRatio => k_is)
    (case ex_BadRatio => k_is)
    (case ty_BadRatio => k_is)
    (case hd_BadRatio => k_is)
    (case se_BadRatio => k_is)
    (case g_MOST_DIGITS => k_is)
    (case i_gcd => k_is)
    (case z_abs => k_is)
    (case z_bool => k_is)
    (case z_divmod => k_is)
    (case z_int => k_is)
    (case z_isinstance => k_is)
    (case z_len => k_is)
    (case z_range => k_is)
    (case z_str => k_is)
    (case z_tuple => k_is)


