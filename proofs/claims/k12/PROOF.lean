import PyProof.Rows.All
import Wide.All
import OpenK.AllK
import Wide.FinOn
import PyProof.EqAt
import PyProof.EqKinds
import PyProof.TupleCall
import HandS.ForMost
import HandS.ForExc
import HandS.Flow
import HandS.Gcd
import HandS.Wide
import HandS.Deep
import HandS.IsInst
import HandS.Defaults
import HandS.CallSlots
import HandS.ExcInit
import HandS.ExcField
import HandS.ExcIs
import KE.KMathG
import HandS.TupAny
import HandS.TryOnly
import HandS.Small
import OpenK.KOps
import HandS.StrMore
import HandS.Style
import HandS.Codes
import HandS.Zip
import HandS.Iter
import KE.GoesEnum
import KE.GoesMore
import KE.GoesZip
import HandS.CallLocal
import KE.LtData
import KE.KEqSeq
import PySem.Challenge.RW_stillarms_k12_whole_spots_of_places_in_p
set_option Elab.async false
set_option linter.all false
set_option maxRecDepth 100000
/-! Mir: data without addresses, functions on them, and what it is that a piece of text follows such a function. -/
namespace Mir
open PySem L2
open PySem.W (Frag)

/-- data -/
inductive Dt where
  | non | bl (b : Bool) | int (i : Int) | str (x : Str) | tup (ds : List Dt) | lst (ds : List Dt) | obj (c : Str) (fs : List (Str × Dt)) | hnd | dct | fn (c : Str)
/-- the hand that a law draws from: great cells, mixed, count -/
structure Hd where
  g : List Int
  m : Int
  c : Int
/-- a slot: nothing known, data, a list of one's own that is still growing -/
inductive Sl where
  | no | dat (d : Dt) | own (ds : List Dt) | slf (c : Str) (fs : List (Str × Dt))
abbrev Env' := List Sl
inductive R (α : Type) where
  | ok (a : α) (s : Hd)
  | err (c : Str) (fs : List (Str × Dt)) (ρ : Env') (s : Hd)
  | bad
def R.bind {α β : Type} (r : R α) (k : α → Hd → R β) : R β := match r with
  | .ok a s => k a s
  | .err c fs ρ s => .err c fs ρ s
  | .bad => .bad
@[simp] theorem R.bind_ok {α β : Type} (a : α) (s : Hd) (k : α → Hd → R β) : (R.ok a s).bind k = k a s := rfl
@[simp] theorem R.bind_err {α β : Type} (c : Str) (fs : List (Str × Dt)) (ρ : Env') (s : Hd) (k : α → Hd → R β) : (R.err c fs ρ s : R α).bind k = .err c fs ρ s := rfl
@[simp] theorem R.bind_bad {α β : Type} (k : α → Hd → R β) : (R.bad : R α).bind k = .bad := rfl
inductive Fl where
  | nx (ρ : Env') | rt (d : Dt) | bk (ρ : Env') | ct (ρ : Env')

section
variable (K : Frag) (mg : Str → Option Value) (h : Addr) (H : Hp)
mutual
inductive Den : V → Dt → Prop
  | non : Den .non .non
  | bl (b : Bool) : Den (.bl b) (.bl b)
  | int (i : Int) : Den (.int i) (.int i)
  | str (x : Str) : Den (.str x) (.str x)
  | tup {a : Addr} {xs : List V} {ds : List Dt} : SqT K H a xs → DenA xs ds → Den (.ref a) (.tup ds)
  | lst {a : Addr} {xs : List V} {ds : List Dt} : H a = some (.lst xs) → DenA xs ds → Den (.ref a) (.lst ds)
  | obj {a C dx : Addr} {c : Str} {fs : List (Str × V)} {ds : List (Str × Dt)} : mg c = some (.ref C) → H a = some (.ins C dx fs) → DenF fs ds → Den (.ref a) (.obj c ds)
  | hnd : Den (.ref h) .hnd
  | dct {a : Addr} {kvs : List (Key × V)} : H a = some (.dK kvs) → Den (.ref a) .dct
  | fn {f : Addr} {c : Str} : mg c = some (.ref f) → Den (.ref f) (.fn c)
inductive DenA : List V → List Dt → Prop
  | nil : DenA [] []
  | cons {v : V} {vs : List V} {d : Dt} {ds : List Dt} : Den v d → DenA vs ds → DenA (v :: vs) (d :: ds)
inductive DenF : List (Str × V) → List (Str × Dt) → Prop
  | nil : DenF [] []
  | cons {n : Str} {v : V} {vs : List (Str × V)} {d : Dt} {ds : List (Str × Dt)} : Den v d → DenF vs ds → DenF ((n, v) :: vs) ((n, d) :: ds)
end
end

section
variable {K : Frag} {mg : Str → Option Value} {h : Addr} {H H' : Hp}
theorem sqt_mono {a : Addr} {xs : List V} (e : Same H H') (q : SqT K H a xs) : SqT K H' a xs := by
  rcases q with (q | ⟨o, q⟩) | q
  · exact .inl (.inl (e _ _ q))
  · exact .inl (.inr ⟨o, e _ _ q⟩)
  · exact .inr q
mutual
theorem Den.mono (e : Same H H') : ∀ {v : V} {d : Dt}, Den K mg h H v d → Den K mg h H' v d
  | _, _, .non => .non
  | _, _, .bl b => .bl b
  | _, _, .int i => .int i
  | _, _, .str x => .str x
  | _, _, .tup q r => .tup (sqt_mono e q) (DenA.mono e r)
  | _, _, .lst q r => .lst (e _ _ q) (DenA.mono e r)
  | _, _, .obj c q r => .obj c (e _ _ q) (DenF.mono e r)
  | _, _, .hnd => .hnd
  | _, _, .dct q => .dct (e _ _ q)
  | _, _, .fn q => .fn q
theorem DenA.mono (e : Same H H') : ∀ {v : List V} {d : List Dt}, DenA K mg h H v d → DenA K mg h H' v d
  | _, _, .nil => .nil
  | _, _, .cons q r => .cons (Den.mono e q) (DenA.mono e r)
theorem DenF.mono (e : Same H H') : ∀ {v : List (Str × V)} {d : List (Str × Dt)}, DenF K mg h H v d → DenF K mg h H' v d
  | _, _, .nil => .nil
  | _, _, .cons q r => .cons (Den.mono e q) (DenF.mono e r)
end
theorem DenA.len : ∀ {vs : List V} {ds : List Dt}, DenA K mg h H vs ds → vs.length = ds.length
  | _, _, .nil => rfl
  | _, _, .cons _ r => congrArg Nat.succ (DenA.len r)
theorem DenA.get : ∀ {vs : List V} {ds : List Dt} {i : Nat} {d : Dt}, DenA K mg h H vs ds → ds[i]? = some d → ∃ v, vs[i]? = some v ∧ Den K mg h H v d
  | _, _, _, _, .nil, e => by simp at e
  | _, _, 0, _, .cons r _, e => by
    simp at e
    subst e
    exact ⟨_, rfl, r⟩
  | _, _, i + 1, d, .cons _ t, e => by
    obtain ⟨u, h1, h2⟩ := DenA.get (i := i) (d := d) t (by simpa using e)
    exact ⟨u, by simpa using h1, h2⟩
theorem DenA.getV : ∀ {vs : List V} {ds : List Dt} {i : Nat} {v : V}, DenA K mg h H vs ds → vs[i]? = some v → ∃ d, ds[i]? = some d ∧ Den K mg h H v d
  | _, _, _, _, .nil, e => by simp at e
  | _, _, 0, _, .cons r _, e => by
    simp at e
    subst e
    exact ⟨_, rfl, r⟩
  | _, _, i + 1, d, .cons _ t, e => by
    obtain ⟨u, h1, h2⟩ := DenA.getV (i := i) (v := d) t (by simpa using e)
    exact ⟨u, by simpa using h1, h2⟩
theorem DenA.append : ∀ {vs ws : List V} {ds es : List Dt}, DenA K mg h H vs ds → DenA K mg h H ws es → DenA K mg h H (vs ++ ws) (ds ++ es)
  | _, _, _, _, .nil, s => s
  | _, _, _, _, .cons r t, s => .cons r (DenA.append t s)
theorem DenA.take : ∀ {vs : List V} {ds : List Dt} (n : Nat), DenA K mg h H vs ds → DenA K mg h H (vs.take n) (ds.take n)
  | _, _, 0, _ => by
    rw [List.take_zero, List.take_zero]
    exact .nil
  | _, _, _ + 1, .nil => .nil
  | _, _, n + 1, .cons r t => .cons r (DenA.take n t)
theorem DenA.drop : ∀ {vs : List V} {ds : List Dt} (n : Nat), DenA K mg h H vs ds → DenA K mg h H (vs.drop n) (ds.drop n)
  | _, _, 0, r => r
  | _, _, _ + 1, .nil => .nil
  | _, _, n + 1, .cons _ t => DenA.drop n t
theorem DenA.set {v : V} {d : Dt} (r : Den K mg h H v d) : ∀ {vs : List V} {ds : List Dt} (i : Nat), DenA K mg h H vs ds → DenA K mg h H (vs.set i v) (ds.set i d)
  | _, _, _, .nil => .nil
  | _, _, 0, .cons _ t => .cons r t
  | _, _, i + 1, .cons q t => .cons q (DenA.set r i t)
theorem DenA.ints : ∀ (ns : List Int), DenA K mg h H (ns.map V.int) (ns.map Dt.int)
  | [] => .nil
  | n :: ns => .cons (.int n) (DenA.ints ns)
theorem DenA.ofInts : ∀ {vs : List V} {ns : List Int}, DenA K mg h H vs (ns.map Dt.int) → vs = ns.map V.int
  | _, [], .nil => rfl
  | _, n :: ns, .cons (.int _) r => by
    rw [DenA.ofInts r]
    rfl
end

/-! ### heaps: the part on which data rest, the hand, the step -/
def isH (h : Addr) (H : Hp) (p : Addr) : Prop := p = h ∨ ∃ r, H h = some (.lst (.ref p :: r))
structure Step (h : Addr) (H0 H H0' H' : Hp) : Prop where
  s0 : Same H0 H0'
  fr : ∀ p o, H p = some o → H0 p = none → ¬ isH h H p → H' p = some o ∧ H0' p = none ∧ ¬ isH h H' p
structure G (h : Addr) (H0 H : Hp) (s : Hd) : Prop where
  ex : Same H0 H
  h0 : H0 h = none
  gl : ∃ gl : Addr, H0 gl = none ∧ gl ≠ h ∧ H h = some (.lst [.ref gl, .int s.m, .int s.c]) ∧ H gl = some (.lst (s.g.map V.int))
section
variable {h : Addr} {H0 H H0' H' H0'' H'' : Hp} {s : Hd} {p : Addr} {o : HO}
theorem Step.refl (H0 H : Hp) : Step h H0 H H0 H := ⟨Same.refl _, fun _ _ a b c => ⟨a, b, c⟩⟩
theorem Step.trans (a : Step h H0 H H0' H') (b : Step h H0' H' H0'' H'') : Step h H0 H H0'' H'' :=
  ⟨a.s0.trans b.s0, fun p o x y z => by
    obtain ⟨x1, y1, z1⟩ := a.fr p o x y z
    exact b.fr p o x1 y1 z1⟩
theorem G.alloc (g : G h H0 H s) (hp : H p = none) : G h (upd H0 p o) (upd H p o) s ∧ Step h H0 H (upd H0 p o) (upd H p o) := by
  obtain ⟨gl, a1, a2, a3, a4⟩ := g.gl
  have n0 : H0 p = none := g.ex.free hp
  have e1 : h ≠ p := ne_of_none a3 hp
  have e2 : gl ≠ p := ne_of_none a4 hp
  refine ⟨⟨fun b u q => ?_, by rw [upd_ne e1]; exact g.h0, gl, by rw [upd_ne e2]; exact a1, a2, by rw [upd_ne e1]; exact a3, by rw [upd_ne e2]; exact a4⟩, ⟨fun b u q => ?_, fun q u x y z => ?_⟩⟩
  · by_cases hb : b = p
    · subst hb
      rw [upd_same] at q ⊢
      exact q
    · rw [upd_ne hb] at q ⊢
      exact g.ex _ _ q
  · rw [upd_ne (ne_of_none q n0)]
    exact q
  · have nq : q ≠ p := ne_of_none x hp
    refine ⟨by rw [upd_ne nq]; exact x, by rw [upd_ne nq]; exact y, fun w => z ?_⟩
    rcases w with w | ⟨r, w⟩
    · exact .inl w
    · rw [upd_ne e1] at w
      exact .inr ⟨r, w⟩
/-- a new object that no data rest on -/
theorem G.side (g : G h H0 H s) (hp : H p = none) : G h H0 (upd H p o) s ∧ Step h H0 H H0 (upd H p o) := by
  obtain ⟨gl, a1, a2, a3, a4⟩ := g.gl
  have n0 : H0 p = none := g.ex.free hp
  have e1 : h ≠ p := ne_of_none a3 hp
  have e2 : gl ≠ p := ne_of_none a4 hp
  refine ⟨⟨fun b u q => ?_, g.h0, gl, a1, a2, by rw [upd_ne e1]; exact a3, by rw [upd_ne e2]; exact a4⟩, ⟨Same.refl _, fun q u x y z => ?_⟩⟩
  · rw [upd_ne (ne_of_none q n0)]
    exact g.ex _ _ q
  · have nq : q ≠ p := ne_of_none x hp
    refine ⟨by rw [upd_ne nq]; exact x, y, fun w => z ?_⟩
    rcases w with w | ⟨r, w⟩
    · exact .inl w
    · rw [upd_ne e1] at w
      exact .inr ⟨r, w⟩
end

/-! ### slots -/
/-- a def's run: the hand, and the heaps at its entry -/
structure Ent where
  a : Addr
  E0 : Hp
  E : Hp
  sf : Addr
instance : CoeHead Ent Addr := ⟨Ent.a⟩
/-- none of the callers' own things -/
def NF (h : Ent) (p : Addr) : Prop := ∀ o, h.E p = some o → h.E0 p = none → isH h.a h.E p
def Sl.mine : Sl → Bool
  | .own _ => true
  | .slf _ _ => true
  | _ => false
section
variable (K : Frag) (mg : Str → Option Value) (h : Ent) (H0 H : Hp)
def SlOk : Option V → Sl → Prop
  | _, .no => True
  | some v, .dat d => Den K mg h.a H0 v d
  | some v, .own ds => ∃ p vs, v = .ref p ∧ H p = some (.lst vs) ∧ H0 p = none ∧ ¬ isH h.a H p ∧ NF h p ∧ DenA K mg h.a H0 vs ds
  | some v, .slf c fs => ∃ p C dx vs, v = .ref p ∧ p = h.sf ∧ mg c = some (.ref C) ∧ H p = some (.ins C dx vs) ∧ H0 p = none ∧ ¬ isH h.a H p ∧ NF h p ∧ DenF K mg h.a H0 vs fs
  | none, _ => False
structure Slots (σ : St) (ρ : Env') : Prop where
  len : σ.length = ρ.length
  at_ : ∀ (i : Nat) (o : Option V) (l : Sl), σ[i]? = some o → ρ[i]? = some l → SlOk K mg h H0 H o l
  ds : ∀ (i j : Nat) (p : Addr) (a b : Sl), ρ[i]? = some a → ρ[j]? = some b → a.mine = true → b.mine = true → σ[i]? = some (some (.ref p)) → σ[j]? = some (some (.ref p)) → i = j
  st : Step h.a h.E0 h.E H0 H
end
section
variable {K : Frag} {mg : Str → Option Value} {h : Ent} {H0 H H0' H' : Hp} {σ : St} {ρ : Env'}
theorem SlOk.step {o : Option V} {l : Sl} (st : Step h.a H0 H H0' H') (q : SlOk K mg h H0 H o l) : SlOk K mg h H0' H' o l := by
  cases o with
  | none =>
    cases l with
    | no => exact True.intro
    | dat d => exact q
    | own ds => exact q
    | slf c fs => exact q
  | some v =>
    cases l with
    | no => exact True.intro
    | dat d => exact Den.mono st.s0 q
    | own ds =>
      obtain ⟨p, vs, e, a, b, c, n, d⟩ := q
      obtain ⟨a1, b1, c1⟩ := st.fr p _ a b c
      exact ⟨p, vs, e, a1, b1, c1, n, d.mono st.s0⟩
    | slf c fs =>
      obtain ⟨p, C, dx, vs, e, ep, m, a, b, c, n, d⟩ := q
      obtain ⟨a1, b1, c1⟩ := st.fr p _ a b c
      exact ⟨p, C, dx, vs, e, ep, m, a1, b1, c1, n, d.mono st.s0⟩
theorem Slots.step (S : Slots K mg h H0 H σ ρ) (st : Step h.a H0 H H0' H') : Slots K mg h H0' H' σ ρ :=
  ⟨S.len, fun i o l a b => (S.at_ i o l a b).step st, S.ds, S.st.trans st⟩
theorem Slots.dat {i : Nat} {d : Dt} (S : Slots K mg h H0 H σ ρ) (e : ρ[i]? = some (.dat d)) : ∃ v, σ[i]? = some (some v) ∧ Den K mg h.a H0 v d := by
  obtain ⟨hl, _⟩ := List.getElem?_eq_some_iff.mp e
  have hl2 : i < σ.length := by rw [S.len]; exact hl
  have q := S.at_ i σ[i] _ (List.getElem?_eq_getElem hl2) e
  cases hv : σ[i] with
  | none =>
    rw [hv] at q
    exact q.elim
  | some v =>
    rw [hv] at q
    exact ⟨v, by rw [List.getElem?_eq_getElem hl2, hv], q⟩
theorem Slots.own {i : Nat} {ds : List Dt} (S : Slots K mg h H0 H σ ρ) (e : ρ[i]? = some (.own ds)) : ∃ p vs, σ[i]? = some (some (.ref p)) ∧ H p = some (.lst vs) ∧ H0 p = none ∧ ¬ isH h.a H p ∧ NF h p ∧ DenA K mg h.a H0 vs ds := by
  obtain ⟨hl, _⟩ := List.getElem?_eq_some_iff.mp e
  have hl2 : i < σ.length := by rw [S.len]; exact hl
  have q := S.at_ i σ[i] _ (List.getElem?_eq_getElem hl2) e
  cases hv : σ[i] with
  | none =>
    rw [hv] at q
    exact q.elim
  | some v =>
    rw [hv] at q
    obtain ⟨p, vs, rfl, q⟩ := q
    exact ⟨p, vs, by rw [List.getElem?_eq_getElem hl2, hv], q⟩
theorem Slots.slf {i : Nat} {c : Str} {fs : List (Str × Dt)} (S : Slots K mg h H0 H σ ρ) (e : ρ[i]? = some (.slf c fs)) : ∃ p C dx vs, σ[i]? = some (some (.ref p)) ∧ p = h.sf ∧ mg c = some (.ref C) ∧ H p = some (.ins C dx vs) ∧ H0 p = none ∧ ¬ isH h.a H p ∧ NF h p ∧ DenF K mg h.a H0 vs fs := by
  obtain ⟨hl, _⟩ := List.getElem?_eq_some_iff.mp e
  have hl2 : i < σ.length := by rw [S.len]; exact hl
  have q := S.at_ i σ[i] _ (List.getElem?_eq_getElem hl2) e
  cases hv : σ[i] with
  | none =>
    rw [hv] at q
    exact q.elim
  | some v =>
    rw [hv] at q
    obtain ⟨p, C, dx, vs, rfl, q⟩ := q
    exact ⟨p, C, dx, vs, by rw [List.getElem?_eq_getElem hl2, hv], q⟩
/-- another thing in one slot; p: if it is one's own, no other slot has it -/
theorem Slots.put {i : Nat} {o : Option V} {l : Sl} (S : Slots K mg h H0 H σ ρ) (q : SlOk K mg h H0 H o l) (nd : ∀ p, o = some (.ref p) → l.mine = true → ∀ (j : Nat) (b : Sl), j ≠ i → ρ[j]? = some b → b.mine = true → σ[j]? ≠ some (some (.ref p))) : Slots K mg h H0 H (σ.set i o) (ρ.set i l) := by
  refine ⟨by rw [List.length_set, List.length_set]; exact S.len, fun j o' l' a b => ?_, fun j k p a b e1 e2 m1 m2 e3 e4 => ?_, S.st⟩
  · by_cases hj : i = j
    · subst hj
      have hl : i < σ.length := by
        obtain ⟨q, _⟩ := List.getElem?_eq_some_iff.mp a
        rwa [List.length_set] at q
      rw [List.getElem?_set_self hl] at a
      rw [List.getElem?_set_self (by rw [← S.len]; exact hl)] at b
      cases a
      cases b
      exact q
    · rw [List.getElem?_set_ne hj] at a b
      exact S.at_ j o' l' a b
  · have self : ∀ (j : Nat) (a : Sl), (ρ.set i l)[j]? = some a → (σ.set i o)[j]? = some (some (.ref p)) → i = j → a = l ∧ o = some (.ref p) := fun j a x y z => by
      subst z
      have hl : i < ρ.length := by
        obtain ⟨q, _⟩ := List.getElem?_eq_some_iff.mp x
        rwa [List.length_set] at q
      rw [List.getElem?_set_self hl] at x
      rw [List.getElem?_set_self (by rw [S.len]; exact hl)] at y
      cases x
      cases y
      exact ⟨rfl, rfl⟩
    by_cases nj : i = j
    · obtain ⟨ea, eo⟩ := self j a e1 e3 nj
      by_cases nk : i = k
      · rw [← nj, ← nk]
      · rw [List.getElem?_set_ne nk] at e2 e4
        exact absurd e4 (nd p eo (by rw [← ea]; exact m1) k b (fun z => nk z.symm) e2 m2)
    · by_cases nk : i = k
      · obtain ⟨eb, eo⟩ := self k b e2 e4 nk
        rw [List.getElem?_set_ne nj] at e1 e3
        exact absurd e3 (nd p eo (by rw [← eb]; exact m2) j a (fun z => nj z.symm) e1 m1)
      · rw [List.getElem?_set_ne nj] at e1 e3
        rw [List.getElem?_set_ne nk] at e2 e4
        exact S.ds j k p a b e1 e2 m1 m2 e3 e4
theorem Slots.set {i : Nat} {v : V} {d : Dt} (S : Slots K mg h H0 H σ ρ) (q : Den K mg h.a H0 v d) : Slots K mg h H0 H (σ.set i (some v)) (ρ.set i (.dat d)) := S.put q fun _ _ z => Bool.noConfusion z
theorem Slots.forget {i : Nat} (S : Slots K mg h H0 H σ ρ) (o : Option V) : Slots K mg h H0 H (σ.set i o) (ρ.set i .no) := S.put (by cases o <;> exact True.intro) fun _ _ z => Bool.noConfusion z
/-- p is the own thing of slot i alone: what is there changes -/
theorem SlOk.other {o : Option V} {l : Sl} {p : Addr} {u : HO} (nh : p ≠ h.a) (q : SlOk K mg h H0 H o l) (n : o = some (.ref p) → l.mine = false) : SlOk K mg h H0 (upd H p u) o l := by
  have hi : ∀ q, ¬ isH h.a H q → ¬ isH h.a (upd H p u) q := fun q w z => by
    rcases z with z | ⟨r, z⟩
    · exact w (.inl z)
    · rw [upd_ne fun y => nh y.symm] at z
      exact w (.inr ⟨r, z⟩)
  cases o with
  | none =>
    cases l with
    | no => exact True.intro
    | dat d => exact q
    | own ds => exact q
    | slf c fs => exact q
  | some v =>
    cases l with
    | no => exact True.intro
    | dat d => exact q
    | own ds =>
      obtain ⟨p', vs, rfl, a, b, c, nf, d⟩ := q
      have ne : p' ≠ p := fun z => by
        subst z
        have := n rfl
        cases this
      exact ⟨p', vs, rfl, by rw [upd_ne ne]; exact a, b, hi _ c, nf, d⟩
    | slf c fs =>
      obtain ⟨p', C, dx, vs, rfl, ep, m, a, b, c, nf, d⟩ := q
      have ne : p' ≠ p := fun z => by
        subst z
        have := n rfl
        cases this
      exact ⟨p', C, dx, vs, rfl, ep, m, by rw [upd_ne ne]; exact a, b, hi _ c, nf, d⟩
theorem G.at {h : Addr} {s : Hd} {p : Addr} {u : HO} (g : G h H0 H s) (n0 : H0 p = none) (nh : ¬ isH h H p) : G h H0 (upd H p u) s := by
  obtain ⟨gl, a1, a2, a3, a4⟩ := g.gl
  have e1 : h ≠ p := fun z => nh (.inl z.symm)
  have e2 : gl ≠ p := fun z => nh (.inr ⟨_, by rw [← z]; exact a3⟩)
  refine ⟨fun b o q => ?_, g.h0, gl, a1, a2, by rw [upd_ne e1]; exact a3, by rw [upd_ne e2]; exact a4⟩
  rw [upd_ne (ne_of_none q n0)]
  exact g.ex _ _ q
theorem Step.at {p : Addr} {u : HO} (st : Step h.a h.E0 h.E H0 H) (nh : p ≠ h.a) (nf : NF h p) : Step h.a h.E0 h.E H0 (upd H p u) := by
  refine ⟨st.s0, fun q o x y z => ?_⟩
  have ne : q ≠ p := fun w => by
    subst w
    exact z (nf o x y)
  obtain ⟨a, b, c⟩ := st.fr q o x y z
  refine ⟨by rw [upd_ne ne]; exact a, b, fun w => c ?_⟩
  rcases w with w | ⟨r, w⟩
  · exact .inl w
  · rw [upd_ne fun y => nh y.symm] at w
    exact .inr ⟨r, w⟩
/-- what stands at one's own thing changes -/
theorem Slots.mut {i : Nat} {p : Addr} {a l : Sl} {u : HO} (S : Slots K mg h H0 H σ ρ) (e : ρ[i]? = some a) (m : a.mine = true) (es : σ[i]? = some (some (.ref p))) (nh : ¬ isH h.a H p) (nf : NF h p) (ml : l.mine = true)
    (ok : SlOk K mg h H0 (upd H p u) (some (.ref p)) l) : Slots K mg h H0 (upd H p u) σ (ρ.set i l) := by
  have nha : p ≠ h.a := fun z => nh (.inl z)
  have S1 : Slots K mg h H0 (upd H p u) (σ.set i none) (ρ.set i .no) := by
    have S0 := S.forget (i := i) none
    refine ⟨S0.len, fun j o l' x y => SlOk.other nha (S0.at_ j o l' x y) fun z => ?_, S0.ds, S.st.at nha nf⟩
    subst z
    by_cases hj : i = j
    · subst hj
      have hl : i < ρ.length := by
        obtain ⟨q, _⟩ := List.getElem?_eq_some_iff.mp y
        rwa [List.length_set] at q
      rw [List.getElem?_set_self hl] at y
      cases y
      rfl
    · rw [List.getElem?_set_ne hj] at x y
      cases hm : l'.mine with
      | false => rfl
      | true => exact absurd (S.ds i j p a l' e y m hm es x) hj
  have S2 := S1.put (i := i) (o := some (.ref p)) (l := l) ok fun q eq _ j b nj y mb x => by
    cases eq
    rw [List.getElem?_set_ne (Ne.symm nj)] at x y
    exact nj (S.ds j i p b a y e mb m x es)
  rw [List.set_set, List.set_set] at S2
  have id : σ.set i (some (.ref p)) = σ := by
    apply List.ext_getElem?
    intro j
    by_cases hj : i = j
    · subst hj
      obtain ⟨hl, _⟩ := List.getElem?_eq_some_iff.mp es
      rw [List.getElem?_set_self hl, es]
    · rw [List.getElem?_set_ne hj]
  rwa [id] at S2
end

/-! ### what is wanted behind a reading, by what its function says -/
section
variable (K : Frag) (mg : Str → Option Value) (h : Ent)
/-- a raised error's fields; none: it has no dict -/
def XdOk (h : Addr) (H0 H : Hp) : Option Addr → List (Str × Dt) → Prop
  | some dd, fs => fs ≠ [] ∧ ∃ fv, H dd = some (.xd fv) ∧ DenF K mg h H0 fv fs
  | none, fs => fs = []
def ErrP (H0 : Hp) (c : Str) (fs : List (Str × Dt)) (ρ : Env') (s : Hd) (Wx : WX) : Prop := ∀ (σ' : St) (C : Addr) (od : Option Addr) (H0' H' : Hp), Same H0 H0' → G h.a H0' H' s → Slots K mg h H0' H' σ' ρ → mg c = some (.ref C) → XdOk K mg h.a H0' H' od fs → Wx (.ref C) od σ' H'
def Post {α β : Type} (rel : Hp → α → β → Prop) (r : R β) (H0 H : Hp) (Wx : WX) (Q : α → Hp → Prop) : Prop := match r with
  | .ok b s => ∀ a H0' H', Step h.a H0 H H0' H' → G h.a H0' H' s → rel H0' a b → Q a H'
  | .err c fs ρ s => ErrP K mg h H0 c fs ρ s Wx
  | .bad => False
def PostS (r : R Fl) (H0 H : Hp) (Wx : WX) (D : Ends) : Prop := match r with
  | .ok (.nx ρ) s => ∀ σ' H0' H', Same H0 H0' → G h.a H0' H' s → Slots K mg h H0' H' σ' ρ → D.nx σ' H'
  | .ok (.rt d) s => ∀ v H0' H', Step h.a h.E0 h.E H0' H' → G h.a H0' H' s → Den K mg h.a H0' v d → D.rt v H'
  | .ok (.bk ρ) s => ∀ σ' H0' H', Same H0 H0' → G h.a H0' H' s → Slots K mg h H0' H' σ' ρ → D.bk σ' H'
  | .ok (.ct ρ) s => ∀ σ' H0' H', Same H0 H0' → G h.a H0' H' s → Slots K mg h H0' H' σ' ρ → D.ct σ' H'
  | .err c fs ρ s => ErrP K mg h H0 c fs ρ s Wx
  | .bad => False
end
section
variable {K : Frag} {mg : Str → Option Value} {h : Ent} {H0 H H0' H' : Hp} {Wx : WX}
theorem ErrP.step {c : Str} {fs : List (Str × Dt)} {ρ : Env'} {s : Hd} (st : Same H0 H0') (p : ErrP K mg h H0 c fs ρ s Wx) : ErrP K mg h H0' c fs ρ s Wx :=
  fun σ' C od A B s2 g S m x => p σ' C od A B (st.trans s2) g S m x
theorem Post.step {α β : Type} {rel : Hp → α → β → Prop} {r : R β} {Q : α → Hp → Prop} (st : Step h.a H0 H H0' H') (p : Post K mg h rel r H0 H Wx Q) : Post K mg h rel r H0' H' Wx Q := by
  cases r with
  | ok b s => exact fun a A B s2 g q => p a A B (st.trans s2) g q
  | err c fs ρ s => exact ErrP.step st.s0 p
  | bad => exact p
theorem PostS.step {r : R Fl} {D : Ends} (st : Same H0 H0') (p : PostS K mg h r H0 H Wx D) : PostS K mg h r H0' H' Wx D := by
  cases r with
  | ok f s =>
    cases f with
    | nx ρ => exact fun a A B s2 g q => p a A B (st.trans s2) g q
    | rt d => exact p
    | bk ρ => exact fun a A B s2 g q => p a A B (st.trans s2) g q
    | ct ρ => exact fun a A B s2 g q => p a A B (st.trans s2) g q
  | err c fs ρ s => exact ErrP.step st p
  | bad => exact p
theorem Post.bind {α β γ δ : Type} {rel1 : Hp → α → β → Prop} {rel2 : Hp → γ → δ → Prop} {r : R β} {k : β → Hd → R δ} {Q : γ → Hp → Prop} {Q1 : α → Hp → Prop} (p : Post K mg h rel2 (r.bind k) H0 H Wx Q)
    (f : ∀ b s a H0' H', Step h.a H0 H H0' H' → G h.a H0' H' s → rel1 H0' a b → Post K mg h rel2 (k b s) H0' H' Wx Q → Q1 a H') : Post K mg h rel1 r H0 H Wx Q1 := by
  cases r with
  | ok b s => exact fun a A B st g q => f b s a A B st g q (Post.step st p)
  | err c fs ρ s => exact p
  | bad => exact p
theorem PostS.bind {α β : Type} {rel1 : Hp → α → β → Prop} {r : R β} {k : β → Hd → R Fl} {D : Ends} {Q1 : α → Hp → Prop} (p : PostS K mg h (r.bind k) H0 H Wx D)
    (f : ∀ b s a H0' H', Step h.a H0 H H0' H' → G h.a H0' H' s → rel1 H0' a b → PostS K mg h (k b s) H0' H' Wx D → Q1 a H') : Post K mg h rel1 r H0 H Wx Q1 := by
  cases r with
  | ok b s => exact fun a A B st g q => f b s a A B st g q (PostS.step st.s0 p)
  | err c fs ρ s => exact p
  | bad => exact p
end

/-! ### readings that follow a function -/
abbrev ME := Env' → Hd → R Dt
abbrev MT := Env' → Hd → R Bool
abbrev MA := Env' → Hd → R (List Dt)
abbrev MS := Env' → Hd → R Fl
abbrev EqB : Hp → Bool → Bool → Prop := fun _ a b => a = b
section
variable (K : Frag) (mg : Str → Option Value) (Wx : WX)
def SE (te : TE) (m : ME) : Prop := ∀ (h : Ent) (H0 H : Hp) (s : Hd) (σ : St) (ρ : Env') (Q : VK), G h.a H0 H s → Slots K mg h H0 H σ ρ → Post K mg h (Den K mg h.a) (m ρ s) H0 H Wx Q → te σ H Q
def SA (ta : TA) (m : MA) : Prop := ∀ (h : Ent) (H0 H : Hp) (s : Hd) (σ : St) (ρ : Env') (Q : List V → Hp → Prop), G h.a H0 H s → Slots K mg h H0 H σ ρ → Post K mg h (DenA K mg h.a) (m ρ s) H0 H Wx Q → ta σ H Q
def ST (tt : TT) (m : MT) : Prop := ∀ (h : Ent) (H0 H : Hp) (s : Hd) (σ : St) (ρ : Env') (Q : Bool → Hp → Prop), G h.a H0 H s → Slots K mg h H0 H σ ρ → Post K mg h EqB (m ρ s) H0 H Wx Q → tt σ H Q
def SS (ts : TS) (m : MS) : Prop := ∀ (h : Ent) (H0 H : Hp) (s : Hd) (σ : St) (ρ : Env') (D : Ends), G h.a H0 H s → Slots K mg h H0 H σ ρ → PostS K mg h (m ρ s) H0 H Wx D → ts D σ H
end
/-! ### texts that follow a function -/
def QE (X : Cx) (Wx : WX) (e : Expr) (m : ME) : Prop := ∃ t, PE X e t ∧ SE X.K X.mg Wx t m
def QT (X : Cx) (Wx : WX) (e : Expr) (m : MT) : Prop := ∃ t, PT X e t ∧ ST X.K X.mg Wx t m
def QW (X : Cx) (Wx : WX) (e : Expr) (m : MT) : Prop := ∃ t, PW X e t ∧ ST X.K X.mg Wx t m
def QA (X : Cx) (Wx : WX) (es : List Expr) (m : MA) : Prop := ∃ t, PA X es t ∧ SA X.K X.mg Wx t m
def QS (X : Cx) (Wx : WX) (st : Stmt) (m : MS) : Prop := ∃ t, PS X st t ∧ SS X.K X.mg Wx t m
def QSs (X : Cx) (Wx : WX) (sts : List Stmt) (m : MS) : Prop := ∃ t, PSs X sts t ∧ SS X.K X.mg Wx t m
end Mir


set_option Elab.async false
set_option linter.all false
set_option maxRecDepth 100000
namespace Mir
open PySem PySem.Spec PyProof.Rows L2
open PySem.W (Frag)

/-! ### functions on data -/
def liftO {α : Type} (o : Option α) (s : Hd) : R α := match o with
  | some a => .ok a s
  | none => .bad
@[simp] theorem liftO_some {α : Type} (a : α) (s : Hd) : liftO (some a) s = .ok a s := rfl
@[simp] theorem liftO_none {α : Type} (s : Hd) : liftO (none : Option α) s = .bad := rfl
def mVar (i : Nat) : ME := fun ρ s => match ρ[i]? with
  | some (.dat d) => .ok d s
  | _ => .bad
def mC (d : Dt) : ME := fun _ s => .ok d s
def mOp (f : Dt → Dt → Option Dt) (a b : ME) : ME := fun ρ s => (a ρ s).bind fun d s1 => (b ρ s1).bind fun e s2 => liftO (f d e) s2
def mUn (f : Dt → Option Dt) (a : ME) : ME := fun ρ s => (a ρ s).bind fun d s1 => liftO (f d) s1
def mTest (a : ME) : MT := fun ρ s => (a ρ s).bind fun d s1 => match d with
  | .bl b => .ok b s1
  | _ => .bad
def fTru : Dt → Option Bool
  | .non => some false
  | .bl b => some b
  | .int i => some (i != 0)
  | .str x => if x.length ≤ 100000 then some ((x.length : Int) != 0) else none
  | .tup ds => some (!ds.isEmpty)
  | .lst ds => some (!ds.isEmpty)
  | _ => none
def mTru (a : ME) : MT := fun ρ s => (a ρ s).bind fun d s1 => liftO (fTru d) s1
def mAnd (a b : MT) : MT := fun ρ s => (a ρ s).bind fun c s1 => if c = true then b ρ s1 else .ok false s1
def mOr (a b : MT) : MT := fun ρ s => (a ρ s).bind fun c s1 => if c = true then .ok true s1 else b ρ s1
def mNot (a : MT) : MT := fun ρ s => (a ρ s).bind fun c s1 => .ok (!c) s1
def mIf (t : MT) (a b : ME) : ME := fun ρ s => (t ρ s).bind fun c s1 => if c = true then a ρ s1 else b ρ s1
def mAndV (a b : ME) : ME := fun ρ s => (a ρ s).bind fun d s1 => (liftO (fTru d) s1).bind fun c s2 => if c = true then b ρ s2 else .ok d s2
def mOrV (a b : ME) : ME := fun ρ s => (a ρ s).bind fun d s1 => (liftO (fTru d) s1).bind fun c s2 => if c = true then .ok d s2 else b ρ s2
def mNotV (a : ME) : ME := fun ρ s => (a ρ s).bind fun d s1 => (liftO (fTru d) s1).bind fun c s2 => .ok (.bl (!c)) s2
def mNil : MA := fun _ s => .ok [] s
def mCons (a : ME) (r : MA) : MA := fun ρ s => (a ρ s).bind fun d s1 => (r ρ s1).bind fun ds s2 => .ok (d :: ds) s2
def mTup (as : MA) : ME := fun ρ s => (as ρ s).bind fun ds s1 => if ds.length ≤ 100000 then .ok (.tup ds) s1 else .bad
def mLst (as : MA) : ME := fun ρ s => (as ρ s).bind fun ds s1 => if ds.length ≤ 100000 then .ok (.lst ds) s1 else .bad
def mCB (f : List Dt → Option Dt) (as : MA) : ME := fun ρ s => (as ρ s).bind fun ds s1 => liftO (f ds) s1
/-- a def called: n parameters, the defaults dd fill up -/
def mCall (n : Nat) (dd : List Dt) (m : List Dt → Hd → R Dt) (as : MA) : ME := fun ρ s => (as ρ s).bind fun ds s1 =>
  if (ds ++ dd).length = n then (match m (ds ++ dd) s1 with
    | .ok d s2 => .ok d s2
    | .err c fs _ s2 => .err c fs ρ s2
    | .bad => .bad) else .bad

section
variable (K : Frag) (mg : Str → Option Value)
def OpS (r : R2) (f : Dt → Dt → Option Dt) : Prop := ∀ (h : Addr) (H0 H : Hp) (s : Hd) (x y : V) (d e z : Dt) (Q : VK), G h H0 H s → Den K mg h H0 x d → Den K mg h H0 y e → f d e = some z →
  (∀ u H0' H', Step h H0 H H0' H' → G h H0' H' s → Den K mg h H0' u z → Q u H') → r x y H Q
def UnS (r : V → Hp → VK → Prop) (f : Dt → Option Dt) : Prop := ∀ (h : Addr) (H0 H : Hp) (s : Hd) (x : V) (d z : Dt) (Q : VK), G h H0 H s → Den K mg h H0 x d → f d = some z →
  (∀ u H0' H', Step h H0 H H0' H' → G h H0' H' s → Den K mg h H0' u z → Q u H') → r x H Q
def CaS (r : List V → Hp → VK → Prop) (f : List Dt → Option Dt) : Prop := ∀ (h : Addr) (H0 H : Hp) (s : Hd) (xs : List V) (ds : List Dt) (z : Dt) (Q : VK), G h H0 H s → DenA K mg h H0 xs ds → f ds = some z →
  (∀ u H0' H', Step h H0 H H0' H' → G h H0' H' s → Den K mg h H0' u z → Q u H') → r xs H Q
end
section
variable {K : Frag} {mg : Str → Option Value}
theorem OpS.or {r r' : R2} {f f' g : Dt → Dt → Option Dt} (a : OpS K mg r f) (b : OpS K mg r' f') (hg : ∀ d e z, g d e = some z → f d e = some z ∨ f' d e = some z) : OpS K mg (fun x y H Q => r x y H Q ∨ r' x y H Q) g :=
  fun h H0 H s x y d e z Q g0 hx hy hz q => (hg d e z hz).elim (fun z1 => .inl (a h H0 H s x y d e z Q g0 hx hy z1 q)) fun z1 => .inr (b h H0 H s x y d e z Q g0 hx hy z1 q)
theorem CaS.or {r r' : List V → Hp → VK → Prop} {f f' g : List Dt → Option Dt} (a : CaS K mg r f) (b : CaS K mg r' f') (hg : ∀ d z, g d = some z → f d = some z ∨ f' d = some z) : CaS K mg (fun x H Q => r x H Q ∨ r' x H Q) g :=
  fun h H0 H s x d z Q g0 hx hz q => (hg d z hz).elim (fun z1 => .inl (a h H0 H s x d z Q g0 hx z1 q)) fun z1 => .inr (b h H0 H s x d z Q g0 hx z1 q)
end

/-! ### operators -/
/-- ints -/
def fI (C : Int → Int → Prop) [∀ i j, Decidable (C i j)] (g : Int → Int → Dt) : Dt → Dt → Option Dt
  | .int i, .int j => if C i j then some (g i j) else none
  | _, _ => none
abbrev fSub := fI (fun _ _ => True) fun i j => .int (i - j)
abbrev fLt := fI (fun _ _ => True) fun i j => .bl (decide (i < j))
abbrev fLe := fI (fun _ _ => True) fun i j => .bl (decide (i ≤ j))
abbrev fGt := fI (fun _ _ => True) fun i j => .bl (decide (j < i))
abbrev fGe := fI (fun _ _ => True) fun i j => .bl (decide (j ≤ i))
def sizeOk (n : Nat) : Prop := n ≤ 100000
instance (n : Nat) : Decidable (sizeOk n) := inferInstanceAs (Decidable (n ≤ 100000))
theorem sizeOk.le {n : Nat} (h : sizeOk n) : n ≤ sizeLine := Nat.le_trans h (by decide)
theorem sizeOk.lt {n : Nat} (h : sizeOk n) : n < sizeLine := Nat.lt_of_le_of_lt h (by decide)
def fAdd : Dt → Dt → Option Dt
  | .int i, .int j => some (.int (i + j))
  | .tup a, .tup b => if a ≠ [] ∧ sizeOk (a.length + b.length) then some (.tup (a ++ b)) else none
  | .lst a, .lst b => if sizeOk (a.length + b.length) then some (.lst (a ++ b)) else none
  | .str a, .str b => if sizeOk (a.length + b.length) then some (.str (a ++ b)) else none
  | _, _ => none
def MulOk (i j : Int) : Prop := i.natAbs.log2 + j.natAbs.log2 < 1000000
instance (i j : Int) : Decidable (MulOk i j) := inferInstanceAs (Decidable (_ < _))
def DivOk (j : Int) : Prop := j ≠ 0 ∧ j.natAbs.log2 < 9000
instance (j : Int) : Decidable (DivOk j) := inferInstanceAs (Decidable (_ ∧ _))
def fMul : Dt → Dt → Option Dt
  | .int i, .int j => if MulOk i j then some (.int (i * j)) else none
  | .lst a, .int j => if j ≤ 1000 ∧ -1000 ≤ j ∧ sizeOk (a.length * j.toNat) then some (.lst (List.replicate j.toNat a).flatten) else none
  | _, _ => none
abbrev fDiv := fI (fun _ j => DivOk j) fun i j => .int (i.fdiv j)
abbrev fMod := fI (fun _ j => j ≠ 0) fun i j => .int (i.fmod j)
instance (i j : Int) : Decidable (CPow i j) := inferInstanceAs (Decidable (_ ∧ _ ∧ _))
abbrev fPow := fI CPow fun i j => .int (i ^ j.toNat)
def fNeg : Dt → Option Dt
  | .int i => some (.int (-i))
  | _ => none
section
variable {X : Cx} {K : Frag} {mg : Str → Option Value}
theorem fI_some {C : Int → Int → Prop} [∀ i j, Decidable (C i j)] {g : Int → Int → Dt} {d e z : Dt} (h : fI C g d e = some z) : ∃ i j, d = .int i ∧ e = .int j ∧ C i j ∧ z = g i j := by
  unfold fI at h
  split at h
  · split at h
    · cases h
      exact ⟨_, _, rfl, rfl, by assumption, rfl⟩
    · cases h
  · cases h
theorem os_I {C C' : Int → Int → Prop} [∀ i j, Decidable (C i j)] {g : Int → Int → Dt} {gv : Int → Int → V} (hc : ∀ i j, C i j → C' i j) (hd : ∀ (h : Addr) (H : Hp) i j, Den K mg h H (gv i j) (g i j)) : OpS K mg (rI C' gv) (fI C g) := by
  intro h H0 H s x y d e z Q g0 hx hy hz q
  obtain ⟨i, j, rfl, rfl, c, rfl⟩ := fI_some hz
  cases hx
  cases hy
  exact ⟨i, j, rfl, rfl, hc i j c, q _ H0 H (.refl _ _) g0 (hd h H0 i j)⟩
theorem os_I0 {g : Int → Int → Dt} {gv : Int → Int → V} (hd : ∀ (h : Addr) (H : Hp) i j, Den K mg h H (gv i j) (g i j)) : OpS K mg (rI0 gv) (fI (fun _ _ => True) g) := by
  intro h H0 H s x y d e z Q g0 hx hy hz q
  obtain ⟨i, j, rfl, rfl, c, rfl⟩ := fI_some hz
  cases hx
  cases hy
  exact ⟨i, j, rfl, rfl, q _ H0 H (.refl _ _) g0 (hd h H0 i j)⟩
theorem os_sub : OpS K mg (rI0 fun i j => .int (i - j)) fSub := os_I0 fun _ _ _ _ => .int _
theorem os_lt : OpS K mg (rI0 fun i j => .bl (decide (i < j))) fLt := os_I0 fun _ _ _ _ => .bl _
theorem os_le : OpS K mg (rI0 fun i j => .bl (decide (i ≤ j))) fLe := os_I0 fun _ _ _ _ => .bl _
theorem os_gt : OpS K mg (rI0 fun i j => .bl (decide (j < i))) fGt := os_I0 fun _ _ _ _ => .bl _
theorem os_ge : OpS K mg (rI0 fun i j => .bl (decide (j ≤ i))) fGe := os_I0 fun _ _ _ _ => .bl _
def CDivA (_ j : Int) : Prop := j ≠ 0 ∧ j.natAbs.log2 < 9000
theorem op_divA : OpR X (binaryOp .FloorDiv) (rI CDivA fun i j => .int (i.fdiv j)) := opI fun _ _ _ _ _ _ _ hc q => floordiv_int hc.1 q (.inl (PyProof.noPylong_of_log2 hc.2))
theorem os_div : OpS K mg (rI CDivA fun i j => .int (i.fdiv j)) fDiv := os_I (fun _ _ c => c) fun _ _ _ _ => .int _
theorem os_mod : OpS K mg (rI (fun _ j => j ≠ 0) fun i j => .int (i.fmod j)) fMod := os_I (fun _ _ c => c) fun _ _ _ _ => .int _
theorem os_pow : OpS K mg (rI CPow fun i j => .int (i ^ j.toNat)) fPow := os_I (fun _ _ c => c) fun _ _ _ _ => .int _
theorem us_neg : UnS K mg (rU fun i => .int (-i)) fNeg := by
  intro h H0 H s x d z Q g0 hx hz q
  cases hx <;> first | cases hz | skip
  exact ⟨_, rfl, q _ H0 H (.refl _ _) g0 (.int _)⟩
/-- + -/
def rAddA (K : Frag) : R2 := fun x y H Q => (rI0 fun i j => V.int (i + j)) x y H Q ∨ (rCatT K x y H Q ∨ (rCat x y H Q ∨ (∃ i j, x = .str i ∧ y = .str j ∧ i.length + j.length ≤ sizeLine ∧ Q (.str (i ++ j)) H)))
theorem op_addA : OpR X (binaryOp .Add) (rAddA X.K) := op_add.or (op_catT.or (op_cat.or op_add_str))
theorem os_add : OpS K mg (rAddA K) fAdd := by
  intro h H0 H s x y d e z Q g0 hx hy hz q
  unfold fAdd at hz
  split at hz
  · cases hx
    cases hy
    cases hz
    exact .inl ⟨_, _, rfl, rfl, q _ H0 H (.refl _ _) g0 (.int _)⟩
  · split at hz
    · rename_i c
      cases hz
      cases hx with
      | tup qa ra =>
        cases hy with
        | tup qb rb =>
          have la := ra.len
          have lb := rb.len
          refine .inr (.inl ⟨_, _, _, _, rfl, rfl, sqt_mono g0.ex qa, sqt_mono g0.ex qb, fun z => c.1 ?_, ?_, fun z => ?_, fun _ p hp => ?_⟩)
          · rw [z] at la
            exact List.length_eq_zero_iff.mp la.symm
          · rw [la, lb]
            exact c.2.le
          · rw [z] at lb
            rw [List.length_eq_zero_iff.mp lb.symm, List.append_nil] at q
            exact q _ H0 H (.refl _ _) g0 (.tup qa ra)
          · obtain ⟨g1, st⟩ := g0.alloc (o := .tup _) hp
            exact q _ _ _ st g1 (.tup (SqT.of upd_same) ((ra.append rb).mono st.s0))
    · cases hz
  · split at hz
    · rename_i c
      cases hz
      cases hx with
      | lst qa ra =>
        cases hy with
        | lst qb rb =>
          have la := ra.len
          have lb := rb.len
          refine .inr (.inr (.inl ⟨_, _, _, _, rfl, rfl, g0.ex _ _ qa, g0.ex _ _ qb, ?_, fun p hp => ?_⟩))
          · rw [la, lb]
            exact c.le
          · obtain ⟨g1, st⟩ := g0.alloc (o := .lst _) hp
            exact q _ _ _ st g1 (.lst upd_same ((ra.append rb).mono st.s0))
    · cases hz
  · split at hz
    · rename_i c
      cases hz
      cases hx
      cases hy
      exact .inr (.inr (.inr ⟨_, _, rfl, rfl, c.le, q _ H0 H (.refl _ _) g0 (.str _)⟩))
    · cases hz
  · cases hz
/-- * -/
def rMulA : R2 := fun x y H Q => rI CMulW (fun i j => .int (i * j)) x y H Q ∨ rRep x y H Q
theorem op_mulA : OpR X (binaryOp .Mult) rMulA := op_mulW.or op_rep
theorem DenA.rep {h : Addr} {H : Hp} {vs : List V} {ds : List Dt} (r : DenA K mg h H vs ds) : ∀ k : Nat, DenA K mg h H (List.replicate k vs).flatten (List.replicate k ds).flatten
  | 0 => .nil
  | k + 1 => by
    rw [List.replicate_succ, List.replicate_succ, List.flatten_cons, List.flatten_cons]
    exact r.append (DenA.rep r k)
theorem os_mul : OpS K mg rMulA fMul := by
  intro h H0 H s x y d e z Q g0 hx hy hz q
  unfold fMul at hz
  split at hz
  · split at hz
    · cases hx
      cases hy
      cases hz
      exact .inl ⟨_, _, rfl, rfl, by assumption, q _ H0 H (.refl _ _) g0 (.int _)⟩
    · cases hz
  · split at hz
    · rename_i c
      cases hz
      cases hy
      cases hx with
      | lst qa ra =>
        have la := ra.len
        refine .inr ⟨_, _, _, rfl, rfl, g0.ex _ _ qa, by omega, by omega, ?_, fun p hp => ?_⟩
        · rw [la]
          exact c.2.2.le
        · obtain ⟨g1, st⟩ := g0.alloc (o := .lst _) hp
          exact q _ _ _ st g1 (.lst upd_same ((ra.rep _).mono st.s0))
    · cases hz
  · cases hz
end

/-! ### equality -/
mutual
def toPy : Dt → Option PyData
  | .non => some .none
  | .bl b => some (.bool b)
  | .int i => some (.int i)
  | .str x => some (.str x)
  | .tup ds => (toPyA ds).map .tuple
  | .lst ds => (toPyA ds).map .list
  | .obj _ _ => none
  | .hnd => none
  | .dct => none
  | .fn _ => none
def toPyA : List Dt → Option (List PyData)
  | [] => some []
  | d :: ds => (toPy d).bind fun p => (toPyA ds).map fun ps => p :: ps
end
section
variable {K : Frag} {mg : Str → Option Value} {h : Addr} {H : Hp}
mutual
theorem Den.dp : ∀ {v : V} {d : Dt} {p : PyData}, Den K mg h H v d → toPy d = some p → Dp K H v p
  | _, _, _, .non, e => by
    cases e
    exact .non
  | _, _, _, .bl b, e => by
    cases e
    exact .bl b
  | _, _, _, .int i, e => by
    cases e
    exact .int i
  | _, _, _, .str x, e => by
    cases e
    exact .str x
  | _, .tup ds, p, .tup q r, e => by
    unfold toPy at e
    cases hp : toPyA ds with
    | none =>
      rw [hp] at e
      cases e
    | some ps =>
      rw [hp] at e
      cases e
      exact .tup q (DenA.dp r hp)
  | _, .lst ds, p, .lst q r, e => by
    unfold toPy at e
    cases hp : toPyA ds with
    | none =>
      rw [hp] at e
      cases e
    | some ps =>
      rw [hp] at e
      cases e
      exact .lst (SqL.of q) (DenA.dp r hp)
  | _, _, _, .obj _ _ _, e => by
    unfold toPy at e
    cases e
  | _, _, _, .hnd, e => by
    unfold toPy at e
    cases e
  | _, _, _, .dct _, e => by
    unfold toPy at e
    cases e
  | _, _, _, .fn _, e => by
    unfold toPy at e
    cases e
theorem DenA.dp : ∀ {vs : List V} {ds : List Dt} {ps : List PyData}, DenA K mg h H vs ds → toPyA ds = some ps → DpAll K H vs ps
  | _, _, _, .nil, e => by
    cases e
    exact .nil
  | _, d :: ds, ps, .cons q r, e => by
    unfold toPyA at e
    cases hp : toPy d with
    | none =>
      rw [hp] at e
      cases e
    | some p =>
      rw [hp] at e
      cases hq : toPyA ds with
      | none =>
        rw [hq] at e
        cases e
      | some qs =>
        rw [hq] at e
        cases e
        exact .cons (Den.dp q hp) (DenA.dp r hq)
end
end
/-- data that may be compared -/
def pyOk (d : Dt) : Option PyData := (toPy d).bind fun p => if SeqAt.shaped p = true then some p else none
theorem pyOk_some {d : Dt} {p : PyData} (h : pyOk d = some p) : toPy d = some p ∧ SeqAt.shaped p = true := by
  unfold pyOk at h
  cases e : toPy d with
  | none =>
    rw [e] at h
    cases h
  | some q =>
    rw [e] at h
    have h' : (if SeqAt.shaped q = true then some q else none) = some p := h
    by_cases c : SeqAt.shaped q = true
    · rw [if_pos c] at h'
      cases h'
      exact ⟨rfl, c⟩
    · rw [if_neg c] at h'
      cases h'
def fEqB (d e : Dt) : Option Bool := (pyOk d).bind fun p => (pyOk e).bind fun q => some (PyData.eqv p q)
def fEq (d e : Dt) : Option Dt := (fEqB d e).map .bl
def fNe (d e : Dt) : Option Dt := (fEqB d e).map fun b => .bl (!b)
def fIs : Dt → Dt → Option Dt
  | .bl a, .bl b => some (.bl (a == b))
  | .non, .non => some (.bl true)
  | .bl _, .non => some (.bl false)
  | .int _, .non => some (.bl false)
  | .str _, .non => some (.bl false)
  | .tup _, .non => some (.bl false)
  | .lst _, .non => some (.bl false)
  | .obj _ _, .non => some (.bl false)
  | _, _ => none
def fIsNot (d e : Dt) : Option Dt := match fIs d e with
  | some (.bl b) => some (.bl (!b))
  | _ => none
/-- x in xs, a list -/
def fInB (d : Dt) : Dt → Option Bool
  | .lst es => (pyOk d).bind fun p => (pyOk (.lst es)).bind fun q => match q with
    | .list qs => some (qs.any fun z => PyData.eqv z p)
    | _ => none
  | _ => none
def fIn (d e : Dt) : Option Dt := (fInB d e).map .bl
def fNotIn (d e : Dt) : Option Dt := (fInB d e).map fun b => .bl (!b)
section
variable {X : Cx} {K : Frag} {mg : Str → Option Value}
theorem fEqB_some {d e : Dt} {b : Bool} (h : fEqB d e = some b) : ∃ p q, toPy d = some p ∧ toPy e = some q ∧ SeqAt.shaped p = true ∧ SeqAt.shaped q = true ∧ b = PyData.eqv p q := by
  unfold fEqB at h
  cases e1 : pyOk d with
  | none =>
    rw [e1] at h
    cases h
  | some p =>
    rw [e1] at h
    cases e2 : pyOk e with
    | none =>
      rw [e2] at h
      cases h
    | some q =>
      rw [e2] at h
      cases h
      exact ⟨p, q, (pyOk_some e1).1, (pyOk_some e2).1, (pyOk_some e1).2, (pyOk_some e2).2, rfl⟩
theorem os_eq : OpS K mg (rEqD K) fEq := by
  intro h H0 H s x y d e z Q g0 hx hy hz q
  unfold fEq at hz
  cases hb : fEqB d e with
  | none =>
    rw [hb] at hz
    cases hz
  | some b =>
    rw [hb] at hz
    cases hz
    obtain ⟨p, p', a1, a2, a3, a4, rfl⟩ := fEqB_some hb
    exact ⟨p, p', (hx.mono g0.ex).dp a1, (hy.mono g0.ex).dp a2, a3, a4, q _ H0 H (.refl _ _) g0 (.bl _)⟩
theorem os_ne : OpS K mg (rNeD K) fNe := by
  intro h H0 H s x y d e z Q g0 hx hy hz q
  unfold fNe at hz
  cases hb : fEqB d e with
  | none =>
    rw [hb] at hz
    cases hz
  | some b =>
    rw [hb] at hz
    cases hz
    obtain ⟨p, p', a1, a2, a3, a4, rfl⟩ := fEqB_some hb
    exact ⟨p, p', (hx.mono g0.ex).dp a1, (hy.mono g0.ex).dp a2, a3, a4, q _ H0 H (.refl _ _) g0 (.bl _)⟩
def rIsA : R2 := fun x y H Q => (y = .non ∧ Q (.bl (decide (x = .non))) H) ∨ ∃ a b, x = .bl a ∧ y = .bl b ∧ Q (.bl (a == b)) H
def rIsNotA : R2 := fun x y H Q => (y = .non ∧ Q (.bl (!decide (x = .non))) H) ∨ ∃ a b, x = .bl a ∧ y = .bl b ∧ Q (.bl (!(a == b))) H
theorem op_isB : OpR X (compareOp .Is) (fun x y H Q => ∃ a b, x = .bl a ∧ y = .bl b ∧ Q (.bl (a == b)) H) := by
  intro pins s σ H x y v u Q I rx ry hh
  obtain ⟨a, b, rfl, rfl, q⟩ := hh
  cases rx
  cases ry
  exact is_bool ⟨.bl _, H, I, rfl, q⟩
theorem op_isA : OpR X (compareOp .Is) rIsA := op_isN.or op_isB
theorem isnot_bool' {M : Model} {A : Around} {Q : Value → Shared → Prop} {E : Value → Shared → Prop} {s : Shared} {c d : Bool} (h : Q (.bool (!(c == d))) s) : wpAny M A (compareOp .IsNot (.bool c) (.bool d)) Q E s := by
  have e : isSame (.bool c) (.bool d) = pure (c == d) := by cases c <;> cases d <;> rfl
  show wpAny M A (do return Value.bool (!(← isSame (.bool c) (.bool d)))) Q E s
  rw [e]
  exact wpAny_bind (wpAny_pure (wpAny_pure h))
theorem op_isNotB : OpR X (compareOp .IsNot) (fun x y H Q => ∃ a b, x = .bl a ∧ y = .bl b ∧ Q (.bl (!(a == b))) H) := by
  intro pins s σ H x y v u Q I rx ry hh
  obtain ⟨a, b, rfl, rfl, q⟩ := hh
  cases rx
  cases ry
  exact isnot_bool' ⟨.bl _, H, I, rfl, q⟩
theorem op_isNotA : OpR X (compareOp .IsNot) rIsNotA := op_notN.or op_isNotB
theorem fIs_cases {d e : Dt} {z : Dt} (hz : fIs d e = some z) {h : Addr} {H : Hp} {x y : V} (hx : Den K mg h H x d) (hy : Den K mg h H y e) : (y = .non ∧ z = .bl (decide (x = .non))) ∨ ∃ a b, x = .bl a ∧ y = .bl b ∧ z = .bl (a == b) := by
  unfold fIs at hz
  split at hz <;> first
    | (cases hz; done)
    | (cases hz; cases hx; cases hy; exact .inr ⟨_, _, rfl, rfl, rfl⟩)
    | (cases hz; cases hx <;> cases hy; exact .inl ⟨rfl, rfl⟩)
theorem os_is : OpS K mg rIsA fIs := by
  intro h H0 H s x y d e z Q g0 hx hy hz q
  rcases fIs_cases hz hx hy with ⟨rfl, rfl⟩ | ⟨a, b, rfl, rfl, rfl⟩
  · exact .inl ⟨rfl, q _ H0 H (.refl _ _) g0 (.bl _)⟩
  · exact .inr ⟨a, b, rfl, rfl, q _ H0 H (.refl _ _) g0 (.bl _)⟩
theorem os_isNot : OpS K mg rIsNotA fIsNot := by
  intro h H0 H s x y d e z Q g0 hx hy hz q
  unfold fIsNot at hz
  split at hz
  · rename_i b hb
    cases hz
    rcases fIs_cases hb hx hy with ⟨rfl, eb⟩ | ⟨a, c, rfl, rfl, eb⟩
    · cases eb
      exact .inl ⟨rfl, q _ H0 H (.refl _ _) g0 (.bl _)⟩
    · cases eb
      exact .inr ⟨a, c, rfl, rfl, q _ H0 H (.refl _ _) g0 (.bl _)⟩
  · cases hz
theorem fInB_some {d e : Dt} {b : Bool} (h : fInB d e = some b) : ∃ es p qs, e = .lst es ∧ toPy d = some p ∧ toPy e = some (.list qs) ∧ SeqAt.shaped p = true ∧ SeqAt.shaped (.list qs) = true ∧ b = qs.any fun z => PyData.eqv z p := by
  unfold fInB at h
  split at h
  · rename_i es
    cases e1 : pyOk d with
    | none =>
      rw [e1] at h
      cases h
    | some p =>
      rw [e1] at h
      cases e2 : pyOk (.lst es) with
      | none =>
        rw [e2] at h
        cases h
      | some q =>
        rw [e2] at h
        obtain ⟨b1, b2⟩ := pyOk_some e1
        obtain ⟨c1, c2⟩ := pyOk_some e2
        cases q with
        | list qs =>
          cases h
          exact ⟨es, p, qs, rfl, b1, c1, b2, c2, rfl⟩
        | _ => cases h
  · cases h
theorem os_in : OpS K mg (rInD K) fIn := by
  intro h H0 H s x y d e z Q g0 hx hy hz q
  unfold fIn at hz
  cases hb : fInB d e with
  | none =>
    rw [hb] at hz
    cases hz
  | some b =>
    rw [hb] at hz
    cases hz
    obtain ⟨es, p, qs, rfl, a1, a2, a3, a4, rfl⟩ := fInB_some hb
    exact ⟨p, qs, (hx.mono g0.ex).dp a1, (hy.mono g0.ex).dp a2, a3, a4, q _ H0 H (.refl _ _) g0 (.bl _)⟩
theorem os_notIn : OpS K mg (rNotInD K) fNotIn := by
  intro h H0 H s x y d e z Q g0 hx hy hz q
  unfold fNotIn at hz
  cases hb : fInB d e with
  | none =>
    rw [hb] at hz
    cases hz
  | some b =>
    rw [hb] at hz
    cases hz
    obtain ⟨es, p, qs, rfl, a1, a2, a3, a4, rfl⟩ := fInB_some hb
    exact ⟨p, qs, (hx.mono g0.ex).dp a1, (hy.mono g0.ex).dp a2, a3, a4, q _ H0 H (.refl _ _) g0 (.bl _)⟩
end

/-! ### places, lengths, types -/
def fIx : Dt → Dt → Option Dt
  | .tup ds, .int i => atI ds i
  | .lst ds, .int i => atI ds i
  | .str x, .int i => if sizeOk x.length then (atI x.cps.toList i).map fun c => .str ⟨#[c]⟩ else none
  | _, _ => none
def fLen : List Dt → Option Dt
  | [.tup ds] => some (.int ds.length)
  | [.lst ds] => some (.int ds.length)
  | [.str x] => if sizeOk x.length then some (.int x.length) else none
  | _ => none
def fAbs : List Dt → Option Dt
  | [.int i] => some (.int (if i < 0 then -i else i))
  | _ => none
def fIntC : List Dt → Option Dt
  | [.int i] => some (.int i)
  | [.bl k] => some (.int (if k then 1 else 0))
  | _ => none
def fGcd : List Dt → Option Dt
  | [.int a, .int b] => some (.int ((Nat.gcd a.natAbs b.natAbs : Nat) : Int))
  | _ => none
def fListC : List Dt → Option Dt
  | [.tup ds] => some (.lst ds)
  | [.lst ds] => some (.lst ds)
  | _ => none
def fTupC : List Dt → Option Dt
  | [.tup ds] => some (.tup ds)
  | [.lst ds] => some (.tup ds)
  | _ => none
def tyN : Dt → Option String
  | .non => some "NoneType"
  | .bl _ => some "bool"
  | .int _ => some "int"
  | .str _ => some "str"
  | .tup _ => some "tuple"
  | .lst _ => some "list"
  | .dct => some "dict"
  | _ => none
def fIsi (T : String) (d : Dt) : Option Bool := (tyN d).bind fun n => kitB n T
section
variable {X : Cx} {K : Frag} {mg : Str → Option Value}
theorem DenA.atI' {h : Addr} {H : Hp} {vs : List V} {ds : List Dt} {i : Int} {z : Dt} (r : DenA K mg h H vs ds) (e : atI ds i = some z) : ∃ v, atI vs i = some v ∧ Den K mg h H v z := by
  have l := r.len
  unfold atI at e ⊢
  rw [l]
  cases hj : ixN ds.length i with
  | none =>
    rw [hj] at e
    cases e
  | some j =>
    rw [hj] at e
    exact r.get e
theorem os_ix : OpS K mg (rIx K) fIx := by
  intro h H0 H s x y d e z Q g0 hx hy hz q
  unfold fIx at hz
  split at hz
  · cases hy
    cases hx with
    | tup qa ra =>
      obtain ⟨v, a1, a2⟩ := ra.atI' hz
      exact .inr (.inl ⟨_, _, _, _, rfl, rfl, sqt_mono g0.ex qa, a1, q _ H0 H (.refl _ _) g0 a2⟩)
  · cases hy
    cases hx with
    | lst qa ra =>
      obtain ⟨v, a1, a2⟩ := ra.atI' hz
      exact .inl ⟨_, _, _, _, rfl, rfl, SqL.of (g0.ex _ _ qa), a1, q _ H0 H (.refl _ _) g0 a2⟩
  · split at hz
    · rename_i x i c
      cases hy
      cases hx
      cases ha : atI x.cps.toList i with
      | none =>
        rw [ha] at hz
        cases hz
      | some k =>
        rw [ha] at hz
        cases hz
        exact .inr (.inr ⟨_, _, _, rfl, rfl, c.le, ha, q _ H0 H (.refl _ _) g0 (.str _)⟩)
    · cases hz
  · cases hz
def rLenA (K : Frag) : List V → Hp → VK → Prop := fun xs H Q => (∃ p ys, xs = [.ref p] ∧ (SqL K H p ys ∨ SqT K H p ys) ∧ Q (.int ys.length) H) ∨ (∃ z : Str, xs = [.str z] ∧ z.length ≤ sizeLine ∧ Q (.int z.length) H)
theorem cs_len : CaS K mg (rLenA K) fLen := by
  intro h H0 H s xs ds z Q g0 hx hz q
  unfold fLen at hz
  split at hz
  · cases hz
    cases hx with
    | cons a r =>
      cases r
      cases a with
      | tup qa ra => exact .inl ⟨_, _, rfl, .inr (sqt_mono g0.ex qa), by rw [ra.len]; exact q _ H0 H (.refl _ _) g0 (.int _)⟩
  · cases hz
    cases hx with
    | cons a r =>
      cases r
      cases a with
      | lst qa ra => exact .inl ⟨_, _, rfl, .inl (SqL.of (g0.ex _ _ qa)), by rw [ra.len]; exact q _ H0 H (.refl _ _) g0 (.int _)⟩
  · split at hz
    · rename_i c
      cases hz
      cases hx with
      | cons a r =>
        cases r
        cases a
        exact .inr ⟨_, rfl, c.le, q _ H0 H (.refl _ _) g0 (.int _)⟩
    · cases hz
  · cases hz
theorem call_lenA : CallR X (.builtin "len") (rLenA X.K) := call_len_seq.or call_len_str
theorem cs_abs : CaS K mg (fun xs H Q => ∃ i, xs = [.int i] ∧ Q (.int (if i < 0 then -i else i)) H) fAbs := by
  intro h H0 H s xs ds z Q g0 hx hz q
  unfold fAbs at hz
  split at hz
  · cases hz
    cases hx with
    | cons a r =>
      cases r
      cases a
      exact ⟨_, rfl, q _ H0 H (.refl _ _) g0 (.int _)⟩
  · cases hz
theorem cs_int : CaS K mg (fun xs H Q => (∃ i, xs = [.int i] ∧ Q (.int i) H) ∨ ∃ k, xs = [.bl k] ∧ Q (.int (if k then 1 else 0)) H) fIntC := by
  intro h H0 H s xs ds z Q g0 hx hz q
  unfold fIntC at hz
  split at hz
  · cases hz
    cases hx with
    | cons a r =>
      cases r
      cases a
      exact .inl ⟨_, rfl, q _ H0 H (.refl _ _) g0 (.int _)⟩
  · cases hz
    cases hx with
    | cons a r =>
      cases r
      cases a
      exact .inr ⟨_, rfl, q _ H0 H (.refl _ _) g0 (.int _)⟩
  · cases hz
theorem cs_gcd : CaS K mg rGcd fGcd := by
  intro h H0 H s xs ds z Q g0 hx hz q
  unfold fGcd at hz
  split at hz
  · cases hz
    cases hx with
    | cons a r =>
      cases r with
      | cons b r =>
        cases r
        cases a
        cases b
        exact ⟨_, _, rfl, q _ H0 H (.refl _ _) g0 (.int _)⟩
  · cases hz
theorem cs_list : CaS K mg (fun xs H Q => ∃ p ys, xs = [.ref p] ∧ (SqL K H p ys ∨ SqT K H p ys) ∧ ∀ l, H l = none → Q (.ref l) (upd H l (.lst ys))) fListC := by
  intro h H0 H s xs ds z Q g0 hx hz q
  unfold fListC at hz
  split at hz
  · cases hz
    cases hx with
    | cons a r =>
      cases r
      cases a with
      | tup qa ra =>
        refine ⟨_, _, rfl, .inr (sqt_mono g0.ex qa), fun p hp => ?_⟩
        obtain ⟨g1, st⟩ := g0.alloc (o := .lst _) hp
        exact q _ _ _ st g1 (.lst upd_same (ra.mono st.s0))
  · cases hz
    cases hx with
    | cons a r =>
      cases r
      cases a with
      | lst qa ra =>
        refine ⟨_, _, rfl, .inl (SqL.of (g0.ex _ _ qa)), fun p hp => ?_⟩
        obtain ⟨g1, st⟩ := g0.alloc (o := .lst _) hp
        exact q _ _ _ st g1 (.lst upd_same (ra.mono st.s0))
  · cases hz
theorem cs_tuple : CaS K mg (fun xs H Q => ∃ p ys, xs = [.ref p] ∧ ((SqL K H p ys ∧ ∀ l, H l = none → Q (.ref l) (upd H l (.tup ys))) ∨ (SqT K H p ys ∧ Q (.ref p) H))) fTupC := by
  intro h H0 H s xs ds z Q g0 hx hz q
  unfold fTupC at hz
  split at hz
  · cases hz
    cases hx with
    | cons a r =>
      cases r
      cases a with
      | tup qa ra => exact ⟨_, _, rfl, .inr ⟨sqt_mono g0.ex qa, q _ H0 H (.refl _ _) g0 (.tup qa ra)⟩⟩
  · cases hz
    cases hx with
    | cons a r =>
      cases r
      cases a with
      | lst qa ra =>
        refine ⟨_, _, rfl, .inl ⟨SqL.of (g0.ex _ _ qa), fun p hp => ?_⟩⟩
        obtain ⟨g1, st⟩ := g0.alloc (o := .tup _) hp
        exact q _ _ _ st g1 (.tup (SqT.of upd_same) (ra.mono st.s0))
  · cases hz
theorem TyX.of {h : Addr} {H : Hp} {x : V} {d : Dt} {n : String} (q : Den K mg h H x d) (e : tyN d = some n) : TyX K H x (.type n) := by
  cases q with
  | non =>
    cases e
    exact .base .non
  | bl b =>
    cases e
    exact .base (.bl b)
  | int i =>
    cases e
    exact .base (.int i)
  | str x =>
    cases e
    exact .base (.str x)
  | tup q r =>
    cases e
    rcases q with (q | ⟨o, q⟩) | ⟨o, its, n, q1, q2, _⟩
    · exact .base (.tup q)
    · exact .fTuple q
    · exact .kTuple q1 q2
  | lst q r =>
    cases e
    exact .base (.lst q)
  | obj _ _ _ => cases e
  | hnd => cases e
  | dct q =>
    cases e
    exact .base (.dK q)
  | fn q => cases e
end
end Mir


set_option Elab.async false
set_option linter.all false
set_option maxRecDepth 100000
namespace Mir
open PySem PySem.Spec PyProof.Rows L2
open PySem.W (Frag)

/-! ### expressions -/
section
variable {K : Frag} {mg : Str → Option Value} {Wx : WX} {ta tb : TE} {a b : ME} {tt tu : TT} {mt mu : MT} {t : TA} {as : MA}
theorem se_var {i : Nat} : SE K mg Wx (tVar i) (mVar i) := by
  intro h H0 H s σ ρ Q g S p
  unfold mVar at p
  split at p
  · rename_i d e
    obtain ⟨v, e1, q⟩ := S.dat e
    exact ⟨v, e1, p v H0 H (.refl _ _) g q⟩
  · exact p.elim
theorem se_c {v : V} {d : Dt} (hd : ∀ (h : Addr) (H : Hp), Den K mg h H v d) : SE K mg Wx (tC v) (mC d) := fun h H0 H s σ ρ Q g S p => p v H0 H (.refl _ _) g (hd h H0)
theorem post_lift {α : Type} {h : Ent} {H0 H : Hp} {rel : Hp → α → Dt → Prop} {o : Option Dt} {s : Hd} {Q : α → Hp → Prop} (p : Post K mg h rel (liftO o s) H0 H Wx Q) : ∃ z, o = some z ∧ Post K mg h rel (.ok z s) H0 H Wx Q := by
  cases o with
  | none => exact p.elim
  | some z => exact ⟨z, rfl, p⟩
theorem se_op {r : R2} {f : Dt → Dt → Option Dt} (hr : OpS K mg r f) (ha : SE K mg Wx ta a) (hb : SE K mg Wx tb b) : SE K mg Wx (tOp r ta tb) (mOp f a b) := by
  intro h H0 H s σ ρ Q g S p
  refine ha h H0 H s σ ρ _ g S (Post.bind p fun d s1 x A B st g1 dx p1 => hb h A B s1 σ ρ _ g1 (S.step st) (Post.bind p1 fun e s2 y A2 B2 st2 g2 dy p2 => ?_))
  obtain ⟨z, hz, p3⟩ := post_lift p2
  exact hr h A2 B2 s2 x y d e z Q g2 (dx.mono st2.s0) dy hz fun u A3 B3 st3 g3 du => p3 u A3 B3 st3 g3 du
theorem se_un {r : V → Hp → VK → Prop} {f : Dt → Option Dt} (hr : UnS K mg r f) (ha : SE K mg Wx ta a) : SE K mg Wx (tUn r ta) (mUn f a) := by
  intro h H0 H s σ ρ Q g S p
  refine ha h H0 H s σ ρ _ g S (Post.bind p fun d s1 x A B st g1 dx p1 => ?_)
  obtain ⟨z, hz, p3⟩ := post_lift p1
  exact hr h A B s1 x d z Q g1 dx hz fun u A3 B3 st3 g3 du => p3 u A3 B3 st3 g3 du
theorem st_test (ha : SE K mg Wx ta a) : ST K mg Wx (tTest ta) (mTest a) := by
  intro h H0 H s σ ρ Q g S p
  refine ha h H0 H s σ ρ _ g S (Post.bind p fun d s1 x A B st g1 dx p1 => ?_)
  cases dx with
  | bl k => exact ⟨k, rfl, p1 k A B (.refl _ _) g1 rfl⟩
  | _ => exact p1.elim
theorem truV {h : Addr} {H0 H : Hp} {x : V} {d : Dt} {k : Bool} (e : Same H0 H) (q : Den K mg h H0 x d) (hk : fTru d = some k) : TruV K x H k := by
  cases q with
  | non =>
    cases hk
    rfl
  | bl b =>
    cases hk
    rfl
  | int i =>
    cases hk
    rfl
  | str y =>
    have hk : (if y.length ≤ 100000 then some ((y.length : Int) != 0) else none) = some k := hk
    by_cases c : y.length ≤ 100000
    · rw [if_pos c] at hk
      cases hk
      exact ⟨sizeOk.le c, rfl⟩
    · rw [if_neg c] at hk
      cases hk
  | tup q r =>
    cases hk
    refine .inr (.inl ⟨_, sqt_mono e q, ?_⟩)
    cases r <;> rfl
  | lst q r =>
    cases hk
    refine .inl ⟨_, SqL.of (e _ _ q), ?_⟩
    cases r <;> rfl
  | obj _ _ _ => cases hk
  | hnd => cases hk
  | dct _ => cases hk
  | fn _ => cases hk
theorem post_liftB {h : Ent} {H0 H : Hp} {o : Option Bool} {s : Hd} {Q : Bool → Hp → Prop} (p : Post K mg h EqB (liftO o s) H0 H Wx Q) : ∃ z, o = some z ∧ Post K mg h EqB (.ok z s) H0 H Wx Q := by
  cases o with
  | none => exact p.elim
  | some z => exact ⟨z, rfl, p⟩
theorem st_tru (ha : SE K mg Wx ta a) : ST K mg Wx (fun σ H Q => ta σ H fun x H' => ∃ k, TruV K x H' k ∧ Q k H') (mTru a) := by
  intro h H0 H s σ ρ Q g S p
  refine ha h H0 H s σ ρ _ g S (Post.bind p fun d s1 x A B st g1 dx p1 => ?_)
  obtain ⟨k, hk, p2⟩ := post_liftB p1
  exact ⟨k, truV g1.ex dx hk, p2 k A B (.refl _ _) g1 rfl⟩
theorem st_and (ha : ST K mg Wx tt mt) (hb : ST K mg Wx tu mu) : ST K mg Wx (tAnd tt tu) (mAnd mt mu) := by
  intro h H0 H s σ ρ Q g S p
  refine ha h H0 H s σ ρ _ g S (Post.bind p fun d s1 x A B st g1 dx p1 => ?_)
  cases (show x = d from dx)
  cases d with
  | true => exact hb h A B s1 σ ρ Q g1 (S.step st) p1
  | false => exact p1 false A B (.refl _ _) g1 rfl
theorem st_or (ha : ST K mg Wx tt mt) (hb : ST K mg Wx tu mu) : ST K mg Wx (tOr tt tu) (mOr mt mu) := by
  intro h H0 H s σ ρ Q g S p
  refine ha h H0 H s σ ρ _ g S (Post.bind p fun d s1 x A B st g1 dx p1 => ?_)
  cases (show x = d from dx)
  cases d with
  | false => exact hb h A B s1 σ ρ Q g1 (S.step st) p1
  | true => exact p1 true A B (.refl _ _) g1 rfl
theorem st_not (ha : ST K mg Wx tt mt) : ST K mg Wx (tNot tt) (mNot mt) := by
  intro h H0 H s σ ρ Q g S p
  refine ha h H0 H s σ ρ _ g S (Post.bind p fun d s1 x A B st g1 dx p1 => ?_)
  cases (show x = d from dx)
  exact p1 _ A B (.refl _ _) g1 rfl
theorem se_if (ht : ST K mg Wx tt mt) (ha : SE K mg Wx ta a) (hb : SE K mg Wx tb b) : SE K mg Wx (tIf tt ta tb) (mIf mt a b) := by
  intro h H0 H s σ ρ Q g S p
  refine ht h H0 H s σ ρ _ g S (Post.bind p fun d s1 x A B st g1 dx p1 => ?_)
  cases (show x = d from dx)
  cases d with
  | true => exact ha h A B s1 σ ρ Q g1 (S.step st) p1
  | false => exact hb h A B s1 σ ρ Q g1 (S.step st) p1
theorem se_andV (ha : SE K mg Wx ta a) (hb : SE K mg Wx tb b) : SE K mg Wx (tAndT K ta tb) (mAndV a b) := by
  intro h H0 H s σ ρ Q g S p
  refine ha h H0 H s σ ρ _ g S (Post.bind p fun d s1 x A B st g1 dx p1 => ?_)
  cases hk : fTru d with
  | none =>
    rw [hk] at p1
    exact p1.elim
  | some k =>
    rw [hk] at p1
    refine ⟨k, truV g1.ex dx hk, ?_⟩
    cases k with
    | true => exact hb h A B s1 σ ρ Q g1 (S.step st) p1
    | false => exact p1 x A B (.refl _ _) g1 dx
theorem se_orV (ha : SE K mg Wx ta a) (hb : SE K mg Wx tb b) : SE K mg Wx (tOrT K ta tb) (mOrV a b) := by
  intro h H0 H s σ ρ Q g S p
  refine ha h H0 H s σ ρ _ g S (Post.bind p fun d s1 x A B st g1 dx p1 => ?_)
  cases hk : fTru d with
  | none =>
    rw [hk] at p1
    exact p1.elim
  | some k =>
    rw [hk] at p1
    refine ⟨k, truV g1.ex dx hk, ?_⟩
    cases k with
    | false => exact hb h A B s1 σ ρ Q g1 (S.step st) p1
    | true => exact p1 x A B (.refl _ _) g1 dx
theorem se_notV (ha : SE K mg Wx ta a) : SE K mg Wx (tNotT K ta) (mNotV a) := by
  intro h H0 H s σ ρ Q g S p
  refine ha h H0 H s σ ρ _ g S (Post.bind p fun d s1 x A B st g1 dx p1 => ?_)
  cases hk : fTru d with
  | none =>
    rw [hk] at p1
    exact p1.elim
  | some k =>
    rw [hk] at p1
    exact ⟨k, truV g1.ex dx hk, p1 _ A B (.refl _ _) g1 (.bl _)⟩
theorem sa_nil : SA K mg Wx tNil mNil := fun h H0 H s σ ρ Q g S p => p [] H0 H (.refl _ _) g .nil
theorem sa_cons (ha : SE K mg Wx ta a) (hr : SA K mg Wx t as) : SA K mg Wx (tCons ta t) (mCons a as) := by
  intro h H0 H s σ ρ Q g S p
  refine ha h H0 H s σ ρ _ g S (Post.bind p fun d s1 x A B st g1 dx p1 => hr h A B s1 σ ρ _ g1 (S.step st) (Post.bind p1 fun ds s2 xs A2 B2 st2 g2 dxs p2 => ?_))
  exact p2 (x :: xs) A2 B2 (.refl _ _) g2 (.cons (dx.mono st2.s0) dxs)
theorem se_tup (ha : SA K mg Wx t as) : SE K mg Wx (tTup t) (mTup as) := by
  intro h H0 H s σ ρ Q g S p
  refine ha h H0 H s σ ρ _ g S (Post.bind p fun ds s1 xs A B st g1 dx p1 => ?_)
  by_cases c : ds.length ≤ 100000
  · rw [if_pos c] at p1
    refine ⟨by rw [dx.len]; exact sizeOk.le c, fun q hq => ?_⟩
    obtain ⟨g2, st2⟩ := g1.alloc (o := .tup xs) hq
    exact p1 _ _ _ st2 g2 (.tup (SqT.of upd_same) (dx.mono st2.s0))
  · rw [if_neg c] at p1
    exact p1.elim
theorem se_lst (ha : SA K mg Wx t as) : SE K mg Wx (tLst t) (mLst as) := by
  intro h H0 H s σ ρ Q g S p
  refine ha h H0 H s σ ρ _ g S (Post.bind p fun ds s1 xs A B st g1 dx p1 => ?_)
  by_cases c : ds.length ≤ 100000
  · rw [if_pos c] at p1
    refine ⟨by rw [dx.len]; exact sizeOk.le c, fun q hq => ?_⟩
    obtain ⟨g2, st2⟩ := g1.alloc (o := .lst xs) hq
    exact p1 _ _ _ st2 g2 (.lst upd_same (dx.mono st2.s0))
  · rw [if_neg c] at p1
    exact p1.elim
theorem se_cb {r : List V → Hp → VK → Prop} {f : List Dt → Option Dt} (hr : CaS K mg r f) (ha : SA K mg Wx t as) : SE K mg Wx (tCB r t) (mCB f as) := by
  intro h H0 H s σ ρ Q g S p
  refine ha h H0 H s σ ρ _ g S (Post.bind p fun ds s1 xs A B st g1 dx p1 => ?_)
  obtain ⟨z, hz, p3⟩ := post_lift p1
  exact hr h A B s1 xs ds z Q g1 dx hz fun u A3 B3 st3 g3 du => p3 u A3 B3 st3 g3 du
end

/-! ### calls of defs -/
section
variable (K : Frag) (mg : Str → Option Value)
def PostC (h : Addr) (r : R Dt) (H0 H : Hp) (E : XK) (Q : VK) : Prop := match r with
  | .ok d s => ∀ v H0' H', Step h H0 H H0' H' → G h H0' H' s → Den K mg h H0' v d → Q v H'
  | .err c fs _ s => ∀ (C : Addr) (od : Option Addr) (H0' H' : Hp), Step h H0 H H0' H' → G h H0' H' s → mg c = some (.ref C) → XdOk K mg h H0' H' od fs → E (.ref C) od H'
  | .bad => False
/-- the promise: what m says -/
def spM (n : Nat) (m : List Dt → Hd → R Dt) : Sp := fun vs H Q E => vs.length = n ∧ ∃ (h : Addr) (H0 : Hp) (s : Hd) (ds : List Dt), G h H0 H s ∧ DenA K mg h H0 vs ds ∧ PostC K mg h (m ds s) H0 H E Q
end
section
variable {K : Frag} {mg : Str → Option Value} {Wx : WX} {t : TA} {as : MA}
theorem se_call {n : Nat} {dvs : List V} {dd : List Dt} {m : List Dt → Hd → R Dt} (hd : ∀ (h : Addr) (H : Hp), DenA K mg h H dvs dd) (ha : SA K mg Wx t as) : SE K mg Wx (tCallSD (spM K mg n m) dvs (WE Wx) t) (mCall n dd m as) := by
  intro h H0 H s σ ρ Q g S p
  refine ha h H0 H s σ ρ _ g S (Post.bind p fun ds s1 xs A B st g1 dx p1 => ?_)
  by_cases c : (ds ++ dd).length = n
  · rw [if_pos c] at p1
    have dx2 := dx.append (hd h A)
    refine ⟨by rw [dx2.len]; exact c, h, A, s1, ds ++ dd, g1, dx2, ?_⟩
    cases hm : m (ds ++ dd) s1 with
    | ok d s2 =>
      rw [hm] at p1
      exact p1
    | err cc fs ρ' s2 =>
      rw [hm] at p1
      exact fun C e A2 B2 st2 g2 mc x => p1 σ C e A2 B2 st2.s0 g2 (S.step (st.trans st2)) mc x
    | bad =>
      rw [hm] at p1
      exact p1.elim
  · rw [if_neg c] at p1
    exact p1.elim
end

section
variable {X : Cx} {Wx : WX} {a b c e : Expr} {ma mb mc : ME} {mt mu : MT} {as : MA} {rest es : List Expr} {pos p : Pos}
theorem qe_var (i : Nat) {x : Str} (hN : X.N[i]? = some x := by rfl) (hv : Vis X.env.scope x := by first | exact Or.inl rfl | exact Or.inr (Or.inl rfl) | exact Or.inr (Or.inr rfl)) (hd : (x == ("__debug__" : Str)) = false := by decide)
    (hcd : (x == ("__classdict__" : Str)) = false := by decide) : QE X Wx (.Name x pos) (mVar i) := ⟨_, pe_var hN hv hd hcd, se_var⟩
theorem qe_int {i j} : QE X Wx (.Constant (.int i) j pos) (mC (.int i)) := ⟨_, pe_int, se_c fun _ _ => .int i⟩
theorem qe_bl {i j} : QE X Wx (.Constant (.bool i) j pos) (mC (.bl i)) := ⟨_, pe_bl, se_c fun _ _ => .bl i⟩
theorem qe_non {j} : QE X Wx (.Constant .none j pos) (mC .non) := ⟨_, pe_non, se_c fun _ _ => .non⟩
theorem qe_str {x j} : QE X Wx (.Constant (.str x) j pos) (mC (.str x)) := ⟨_, pe_str, se_c fun _ _ => .str x⟩
/-- a module's constant -/
theorem qe_glob {x : Str} {v : V} {u : Value} {d : Dt} (hg : Gl X x) (hm : X.mg x = some u) (r : RelV v u) (hd : ∀ (h : Addr) (H : Hp), Den X.K X.mg h H v d) (hdb : (x == ("__debug__" : Str)) = false := by decide) : QE X Wx (.Name x pos) (mC d) :=
  ⟨_, pe_glob hg hm r hdb, se_c hd⟩
theorem qe_op {op : Operator} {r : R2} {f : Dt → Dt → Option Dt} (ho : OpR X (binaryOp op) r) (hs : OpS X.K X.mg r f) (ha : QE X Wx a ma) (hb : QE X Wx b mb) : QE X Wx (.BinOp a op b pos) (mOp f ma mb) := by
  obtain ⟨ta, pa, sa⟩ := ha
  obtain ⟨tb, pb, sb⟩ := hb
  exact ⟨_, pe_op ho pa pb, se_op hs sa sb⟩
theorem qe_un {op : UnaryOp} {r : V → Hp → VK → Prop} {f : Dt → Option Dt} (ho : UnR X (unaryOp op) r) (hs : UnS X.K X.mg r f) (ha : QE X Wx a ma) : QE X Wx (.UnaryOp op a pos) (mUn f ma) := by
  obtain ⟨ta, pa, sa⟩ := ha
  exact ⟨_, pe_un ho pa, se_un hs sa⟩
theorem qe_cmp {op : CmpOp} {r : R2} {f : Dt → Dt → Option Dt} (ho : OpR X (compareOp op) r) (hs : OpS X.K X.mg r f) (ha : QE X Wx a ma) (hb : QE X Wx b mb) (hm : behindInMarks op b = false) : QE X Wx (.Compare a [op] [b] pos) (mOp f ma mb) := by
  obtain ⟨ta, pa, sa⟩ := ha
  obtain ⟨tb, pb, sb⟩ := hb
  exact ⟨_, pe_cmpR ho pa pb hm, se_op hs sa sb⟩
theorem qt_cmp {op : CmpOp} {r : R2} {f : Dt → Dt → Option Dt} (ho : OpR X (compareOp op) r) (hs : OpS X.K X.mg r f) (ha : QE X Wx a ma) (hb : QE X Wx b mb) (hm : behindInMarks op b = false) : QT X Wx (.Compare a [op] [b] pos) (mTest (mOp f ma mb)) := by
  obtain ⟨ta, pa, sa⟩ := ha
  obtain ⟨tb, pb, sb⟩ := hb
  exact ⟨_, pt_cmpR ho pa pb hm, st_test (se_op hs sa sb)⟩
theorem qt_tru (ha : QE X Wx a ma) (he : ∀ whole, isTrue a X.env whole = (do let v ← whole; standAt a.pos; holding [v] (truthy v)) := by intro _; rfl) : QT X Wx a (mTru ma) := by
  obtain ⟨ta, pa, sa⟩ := ha
  exact ⟨_, pt_truth pa he, st_tru sa⟩
theorem qt_w (h : QW X Wx a mt) : QT X Wx a mt := by
  obtain ⟨t, pw, s⟩ := h
  exact ⟨t, pw.pt, s⟩
theorem qw_and1 (h : QT X Wx a mt) : QW X Wx (.BoolOp .And [a] pos) mt := by
  obtain ⟨t, pw, s⟩ := h
  exact ⟨t, pw_and1 pw, s⟩
theorem qw_or1 (h : QT X Wx a mt) : QW X Wx (.BoolOp .Or [a] pos) mt := by
  obtain ⟨t, pw, s⟩ := h
  exact ⟨t, pw_or1 pw, s⟩
theorem qw_and (h : QT X Wx a mt) (h2 : QW X Wx (.BoolOp .And (b :: rest) pos) mu) : QW X Wx (.BoolOp .And (a :: b :: rest) pos) (mAnd mt mu) := by
  obtain ⟨t, pw, s⟩ := h
  obtain ⟨t2, pw2, s2⟩ := h2
  exact ⟨_, pw_and pw pw2, st_and s s2⟩
theorem qw_or (h : QT X Wx a mt) (h2 : QW X Wx (.BoolOp .Or (b :: rest) pos) mu) : QW X Wx (.BoolOp .Or (a :: b :: rest) pos) (mOr mt mu) := by
  obtain ⟨t, pw, s⟩ := h
  obtain ⟨t2, pw2, s2⟩ := h2
  exact ⟨_, pw_or pw pw2, st_or s s2⟩
theorem qt_not (h : QT X Wx a mt) : QT X Wx (.UnaryOp .Not a pos) (mNot mt) := by
  obtain ⟨t, pw, s⟩ := h
  exact ⟨_, pt_not pw, st_not s⟩
theorem qe_one {op} (h : QE X Wx a ma) : QE X Wx (.BoolOp op [a] pos) ma := by
  obtain ⟨t, pw, s⟩ := h
  exact ⟨_, pe_one pw, s⟩
theorem qe_and (h : QE X Wx a ma) (h2 : QE X Wx (.BoolOp .And (b :: rest) pos) mb) : QE X Wx (.BoolOp .And (a :: b :: rest) pos) (mAndV ma mb) := by
  obtain ⟨t, pw, s⟩ := h
  obtain ⟨t2, pw2, s2⟩ := h2
  exact ⟨_, pe_andT pw pw2, se_andV s s2⟩
theorem qe_or (h : QE X Wx a ma) (h2 : QE X Wx (.BoolOp .Or (b :: rest) pos) mb) : QE X Wx (.BoolOp .Or (a :: b :: rest) pos) (mOrV ma mb) := by
  obtain ⟨t, pw, s⟩ := h
  obtain ⟨t2, pw2, s2⟩ := h2
  exact ⟨_, pe_orT pw pw2, se_orV s s2⟩
theorem qe_not (h : QE X Wx a ma) : QE X Wx (.UnaryOp .Not a pos) (mNotV ma) := by
  obtain ⟨t, pw, s⟩ := h
  exact ⟨_, pe_notT pw, se_notV s⟩
theorem qe_if (h : QT X Wx c mt) (ha : QE X Wx a ma) (hb : QE X Wx b mb) : QE X Wx (.IfExp c a b pos) (mIf mt ma mb) := by
  obtain ⟨t, pw, s⟩ := h
  obtain ⟨ta, pa, sa⟩ := ha
  obtain ⟨tb, pb, sb⟩ := hb
  exact ⟨_, pe_ifExp pw pa pb, se_if s sa sb⟩
theorem qa_nil : QA X Wx [] mNil := ⟨_, pa_nil, sa_nil⟩
theorem qa_cons (ha : QE X Wx e ma) (hr : QA X Wx es as) (hs : starEach (e :: es) X.env = (false, eval e X.env) :: starEach es X.env := by rfl) : QA X Wx (e :: es) (mCons ma as) := by
  obtain ⟨ta, pa, sa⟩ := ha
  obtain ⟨tr, pr, sr⟩ := hr
  exact ⟨_, pa_cons pa pr hs, sa_cons sa sr⟩
theorem qe_tup {x1} (h : QA X Wx es as) : QE X Wx (.Tuple es x1 pos) (mTup as) := by
  obtain ⟨t, q, s⟩ := h
  exact ⟨_, pe_tup q, se_tup s⟩
theorem qe_lst (h : QA X Wx es as) : QE X Wx (.List es pos) (mLst as) := by
  obtain ⟨t, q, s⟩ := h
  exact ⟨_, pe_lst q, se_lst s⟩
theorem qe_ix (ha : QE X Wx a ma) (hb : QE X Wx b mb) (hs : PlainIx b := by exact fun _ _ => rfl) : QE X Wx (.Subscript a b pos) (mOp fIx ma mb) := by
  obtain ⟨ta, pa, sa⟩ := ha
  obtain ⟨tb, pb, sb⟩ := hb
  exact ⟨_, pe_ix ix_seq pa pb hs, se_op os_ix sa sb⟩
variable {x : Str} {id T : String} {r : List V → Hp → VK → Prop} {f : List Dt → Option Dt}
theorem qe_callB (hc : CallR X (.builtin id) r) (hs : CaS X.K X.mg r f) (hg : Gl X x) (hm : X.mg x = none) (hv : bootBuiltins x = some (.builtin id)) (ha : QA X Wx (e :: es) as) (hn : x ≠ "__name__" := by decide) (hdb : (x == ("__debug__" : Str)) = false := by decide)
    (he : starEach (e :: es) X.env = (false, eval e X.env) :: starEach es X.env := by rfl) (hpl : (backTo pos (starEach es X.env)).any (·.1) = false := by rfl) : QE X Wx (.Call (.Name x p) (e :: es) [] pos) (mCB f as) := by
  obtain ⟨t, q, s⟩ := ha
  exact ⟨_, pe_callB hc hg hm hv q hn hdb he hpl, se_cb hs s⟩
theorem qe_callTy (hc : CallR X (.type T) r) (hs : CaS X.K X.mg r f) (hg : Gl X x) (hm : X.mg x = none) (hv : bootBuiltins x = some (.type T)) (ha : QA X Wx (e :: es) as) (hn : x ≠ "__name__" := by decide) (hdb : (x == ("__debug__" : Str)) = false := by decide)
    (he : starEach (e :: es) X.env = (false, eval e X.env) :: starEach es X.env := by rfl) (hpl : (backTo pos (starEach es X.env)).any (·.1) = false := by rfl) : QE X Wx (.Call (.Name x p) (e :: es) [] pos) (mCB f as) := by
  obtain ⟨t, q, s⟩ := ha
  exact ⟨_, pe_callTy hc hg hm hv q hn hdb he hpl, se_cb hs s⟩
theorem qe_callBfun (hc : CallR X (.builtin id) r) (hs : CaS X.K X.mg r f) (hg : Gl X x) (hm : X.mg x = some (.builtin id)) (ha : QA X Wx (e :: es) as) (hdb : (x == ("__debug__" : Str)) = false := by decide)
    (he : starEach (e :: es) X.env = (false, eval e X.env) :: starEach es X.env := by rfl) (hpl : (backTo pos (starEach es X.env)).any (·.1) = false := by rfl) : QE X Wx (.Call (.Name x p) (e :: es) [] pos) (mCB f as) := by
  obtain ⟨t, q, s⟩ := ha
  exact ⟨_, pe_callBfun hc hg hm q hdb he hpl, se_cb hs s⟩
/-- f(e, ..) -/
theorem qe_call {k n : Nat} {fa : Addr} {fd : FuncData} {ps : List Str} {m : List Dt → Hd → R Dt} {dvs : List V} {dd : List Dt} {dsV : List Value} (F : FnOk X.prog X.w X.K X.mg X.base (L2.CX X.prog X.w) k fa fd ps (spM X.K X.mg n m)) (hr : Room k X.A) (hg : Gl X x)
    (hm : X.mg x = some (.ref fa)) (hk : PySem.W.keepIn X.K (.ref fa) = true) (hb : Binds X.K fd ps dsV) (hd : Vals dvs dsV) (hdd : ∀ (h : Addr) (H : Hp), DenA X.K X.mg h H dvs dd) (tk : Takes X Wx) (ha : QA X Wx (e :: es) as)
    (hdb : (x == ("__debug__" : Str)) = false := by decide) (he : starEach (e :: es) X.env = (false, eval e X.env) :: starEach es X.env := by rfl) (hpl : (backTo pos (starEach es X.env)).any (·.1) = false := by rfl) :
    QE X Wx (.Call (.Name x p) (e :: es) [] pos) (mCall n dd m as) := by
  obtain ⟨t, q, s⟩ := ha
  exact ⟨_, pe_callSD F hr hg hm hk hb hd (fun σ => passAt tk σ) q hdb he hpl, se_call hdd s⟩
end
/-! ### isinstance -/
def mIsi (T : String) (a : ME) : ME := fun ρ s => (a ρ s).bind fun d s1 => liftO ((fIsi T d).map Dt.bl) s1
section
variable {X : Cx} {Wx : WX} {a : Expr} {ma : ME} {pos p p2 : Pos} {T : String} {x : Str}
theorem qe_isi (ha : QE X Wx a ma) (hg : Gl X "isinstance") (hm : X.mg "isinstance" = none) (hgT : Gl X x) (hmT : X.mg x = none) (hvT : bootBuiltins x = some (.type T)) (hn : x ≠ "__name__" := by decide) (hdb : (x == ("__debug__" : Str)) = false := by decide)
    (he : starEach [a, .Name x p2] X.env = (false, eval a X.env) :: starEach [.Name x p2] X.env := by rfl) (he2 : starEach [.Name x p2] X.env = (false, eval (.Name x p2) X.env) :: starEach [] X.env := by rfl)
    (hpl : (backTo pos (starEach [.Name x p2] X.env)).any (·.1) = false := by rfl) : QE X Wx (.Call (.Name "isinstance" p) [a, .Name x p2] [] pos) (mIsi T ma) := by
  obtain ⟨ta, pa, sa⟩ := ha
  refine ⟨_, pe_callB call_isi hg hm (by decide +kernel) (pa_cons pa (pa_cons (pe_bltn (v := .ty T) hgT hmT hvT rfl hn hdb) pa_nil he2) he) (by decide) (by decide) he hpl, ?_⟩
  intro h H0 H s σ ρ Q g S pp
  refine sa h H0 H s σ ρ _ g S (Post.bind pp fun d s1 x A B st g1 dx p1 => ?_)
  obtain ⟨z, hz, p3⟩ := post_lift p1
  unfold fIsi at hz
  cases ht : tyN d with
  | none =>
    rw [ht] at hz
    cases hz
  | some n =>
    rw [ht] at hz
    have hz : (kitB n T).map Dt.bl = some z := hz
    cases hb : kitB n T with
    | none =>
      rw [hb] at hz
      cases hz
    | some b =>
      rw [hb] at hz
      cases hz
      exact ⟨x, .ty T, .type n, .type T, b, rfl, .ty T, TyX.of (dx.mono g1.ex) ht, kit_ty hb, p3 _ A B (.refl _ _) g1 (.bl b)⟩
end
end Mir


set_option Elab.async false
set_option linter.all false
set_option maxRecDepth 100000
namespace Mir
open PySem PySem.Spec PyProof.Rows L2
open PySem.W (Frag)

/-! ### statements -/
def mNext : MS := fun ρ s => .ok (.nx ρ) s
def mSeq (a b : MS) : MS := fun ρ s => match a ρ s with
  | .ok (.nx ρ') s' => b ρ' s'
  | .ok (.rt d) s' => .ok (.rt d) s'
  | .ok (.bk ρ') s' => .ok (.bk ρ') s'
  | .ok (.ct ρ') s' => .ok (.ct ρ') s'
  | .err c fs ρ' s' => .err c fs ρ' s'
  | .bad => .bad
def mSet (i : Nat) (a : ME) : MS := fun ρ s => (a ρ s).bind fun d s1 => .ok (.nx (ρ.set i (.dat d))) s1
def mRet (a : ME) : MS := fun ρ s => (a ρ s).bind fun d s1 => .ok (.rt d) s1
def mRetN : MS := fun _ s => .ok (.rt .non) s
def mDrop (a : ME) : MS := fun ρ s => (a ρ s).bind fun _ s1 => .ok (.nx ρ) s1
def mIfS (t : MT) (a b : MS) : MS := fun ρ s => (t ρ s).bind fun c s1 => if c = true then a ρ s1 else b ρ s1
def mBreak : MS := fun ρ s => .ok (.bk ρ) s
def mCont : MS := fun ρ s => .ok (.ct ρ) s
/-- a, b = x, y -/
def mPar (i j : Nat) (as : MA) : MS := fun ρ s => (as ρ s).bind fun ds s1 => match ds with
  | [d, e] => .ok (.nx ((ρ.set i (.dat d)).set j (.dat e))) s1
  | _ => .bad
/-- targets -/
abbrev GM := Dt → Env' → Option Env'
abbrev GMs := List Dt → Env' → Option Env'
def gmName (j : Nat) : GM := fun d ρ => some (ρ.set j (.dat d))
def gmNil : GMs := fun ds ρ => match ds with
  | [] => some ρ
  | _ => none
def gmCons (g : GM) (gs : GMs) : GMs := fun ds ρ => match ds with
  | d :: r => (g d ρ).bind fun ρ1 => gs r ρ1
  | _ => none
def gmSeq (n : Nat) (gs : GMs) : GM := fun d ρ => match d with
  | .tup ds => if ds.length = n then gs ds ρ else none
  | .lst ds => if ds.length = n then gs ds ρ else none
  | _ => none
def mAsg (g : GM) (a : ME) : MS := fun ρ s => (a ρ s).bind fun d s1 => match g d ρ with
  | some ρ1 => .ok (.nx ρ1) s1
  | none => .bad
def loopF (g : GM) (body : MS) : List Dt → MS
  | [], ρ, s => .ok (.nx ρ) s
  | d :: ds, ρ, s => match g d ρ with
    | none => .bad
    | some ρ1 => match body ρ1 s with
      | .ok (.nx ρ2) s2 => loopF g body ds ρ2 s2
      | .ok (.ct ρ2) s2 => loopF g body ds ρ2 s2
      | .ok (.bk ρ2) s2 => .ok (.nx ρ2) s2
      | .ok (.rt d) s2 => .ok (.rt d) s2
      | .err c fs ρ2 s2 => .err c fs ρ2 s2
      | .bad => .bad
/-- what a for walks -/
def mFor (g : GM) (it : MA) (body : MS) : MS := fun ρ s => (it ρ s).bind fun ds s1 => loopF g body ds ρ s1
def mSeqI (a : ME) : MA := fun ρ s => (a ρ s).bind fun d s1 => match d with
  | .tup ds => .ok ds s1
  | .lst ds => .ok ds s1
  | _ => .bad
def rangeD (lo : Int) (n : Nat) : List Dt := (List.range n).map fun (i : Nat) => Dt.int (lo + i)
def rngOk (i : Int) : Prop := -1000000 ≤ i ∧ i ≤ 1000000
instance (i : Int) : Decidable (rngOk i) := inferInstanceAs (Decidable (_ ∧ _))
def mRng1 (a : ME) : MA := fun ρ s => (a ρ s).bind fun d s1 => match d with
  | .int b => if rngOk b then .ok (rangeD 0 b.toNat) s1 else .bad
  | _ => .bad
def mRng2 (a b : ME) : MA := fun ρ s => (a ρ s).bind fun d s1 => (b ρ s1).bind fun e s2 => match d, e with
  | .int i, .int j => if rngOk i ∧ rngOk j then .ok (rangeD i (j - i).toNat) s2 else .bad
  | _, _ => .bad
def loopW (t : MT) (body : MS) : Nat → MS
  | 0, _, _ => .bad
  | n + 1, ρ, s => (t ρ s).bind fun c s1 => if c = true then (match body ρ s1 with
      | .ok (.nx ρ2) s2 => loopW t body n ρ2 s2
      | .ok (.ct ρ2) s2 => loopW t body n ρ2 s2
      | .ok (.bk ρ2) s2 => .ok (.nx ρ2) s2
      | .ok (.rt d) s2 => .ok (.rt d) s2
      | .err c fs ρ2 s2 => .err c fs ρ2 s2
      | .bad => .bad) else .ok (.nx ρ) s1
/-- comprehensions -/
def wipeE (ρ : Env') : List Nat → Env'
  | [] => ρ
  | v :: vs => (wipeE ρ vs).set v .no
def noErr {α : Type} : R α → R α
  | .err _ _ _ _ => .bad
  | r => r
def mYes : MT := fun _ s => .ok true s
def loopC (g : GM) (t : MT) (a : ME) (vs : List Nat) : List Dt → List Dt → ME
  | [], acc, _, s => .ok (.lst acc) s
  | d :: ds, acc, ρ, s => match g d (wipeE ρ vs) with
    | none => .bad
    | some ρ1 => (noErr (t ρ1 s)).bind fun c s1 => if c = true then (noErr (a ρ1 s1)).bind fun e s2 => if sizeOk acc.length then loopC g t a vs ds (acc ++ [e]) ρ s2 else .bad else loopC g t a vs ds acc ρ s1
def mLc (g : GM) (it : MA) (t : MT) (a : ME) (vs : List Nat) : ME := fun ρ s => (it ρ s).bind fun ds s1 => loopC g t a vs ds [] ρ s1
theorem R.bind_assoc {α β γ : Type} (r : R α) (k : α → Hd → R β) (k2 : β → Hd → R γ) : (r.bind k).bind k2 = r.bind fun x s => (k x s).bind k2 := by cases r <;> rfl

section
variable {K : Frag} {mg : Str → Option Value} {Wx : WX} {ta : TE} {a : ME} {tt : TT} {mt : MT} {t : TA} {as : MA} {ts tu : TS} {ms mu : MS}
theorem ss_next : SS K mg Wx tNext mNext := fun h H0 H s σ ρ D g S p => p σ H0 H (Same.refl _) g S
theorem ss_seq (h1 : SS K mg Wx ts ms) (h2 : SS K mg Wx tu mu) : SS K mg Wx (tSeq ts tu) (mSeq ms mu) := by
  intro h H0 H s σ ρ D g S p
  refine h1 h H0 H s σ ρ _ g S ?_
  have p : PostS K mg h (mSeq ms mu ρ s) H0 H Wx D := p
  unfold mSeq at p
  cases e : ms ρ s with
  | ok f s2 =>
    rw [e] at p
    cases f with
    | nx ρ' => exact fun σ' A B st g' S' => h2 h A B s2 σ' ρ' D g' S' (PostS.step st p)
    | rt d => exact p
    | bk ρ' => exact p
    | ct ρ' => exact p
  | err c fs ρ' s2 =>
    rw [e] at p
    exact p
  | bad =>
    rw [e] at p
    exact p
theorem ss_set {i : Nat} (ha : SE K mg Wx ta a) : SS K mg Wx (tAsg ta (gName i)) (mSet i a) := by
  intro h H0 H s σ ρ D g S p
  refine ha h H0 H s σ ρ _ g S (PostS.bind p fun d s1 x A B st g1 dx p1 => ?_)
  exact p1 _ A B (Same.refl _) g1 ((S.step st).set dx)
theorem ss_ret (ha : SE K mg Wx ta a) : SS K mg Wx (tRet ta) (mRet a) := by
  intro h H0 H s σ ρ D g S p
  refine ha h H0 H s σ ρ _ g S (PostS.bind p fun d s1 x A B st g1 dx p1 => ?_)
  exact p1 x A B (S.step st).st g1 dx
theorem ss_retN : SS K mg Wx tRetN mRetN := fun h H0 H s σ ρ D g S p => p .non H0 H S.st g .non
theorem ss_drop (ha : SE K mg Wx ta a) : SS K mg Wx (tDrop ta) (mDrop a) := by
  intro h H0 H s σ ρ D g S p
  refine ha h H0 H s σ ρ _ g S (PostS.bind p fun d s1 x A B st g1 dx p1 => ?_)
  exact p1 σ A B (Same.refl _) g1 (S.step st)
theorem ss_if (ht : ST K mg Wx tt mt) (h1 : SS K mg Wx ts ms) (h2 : SS K mg Wx tu mu) : SS K mg Wx (tIfS tt ts tu) (mIfS mt ms mu) := by
  intro h H0 H s σ ρ D g S p
  refine ht h H0 H s σ ρ _ g S (PostS.bind p fun d s1 x A B st g1 dx p1 => ?_)
  cases (show x = d from dx)
  cases d with
  | true => exact h1 h A B s1 σ ρ D g1 (S.step st) p1
  | false => exact h2 h A B s1 σ ρ D g1 (S.step st) p1
theorem ss_break : SS K mg Wx tBreak mBreak := fun h H0 H s σ ρ D g S p => p σ H0 H (Same.refl _) g S
theorem ss_cont : SS K mg Wx tCont mCont := fun h H0 H s σ ρ D g S p => p σ H0 H (Same.refl _) g S
theorem ss_par {i j : Nat} (ha : SA K mg Wx t as) : SS K mg Wx (tPar i j t) (mPar i j as) := by
  intro h H0 H s σ ρ D g S p
  refine ha h H0 H s σ ρ _ g S (PostS.bind p fun ds s1 xs A B st g1 dx p1 => ?_)
  cases dx with
  | nil => exact p1.elim
  | cons q r =>
    cases r with
    | nil => exact p1.elim
    | cons q2 r =>
      cases r with
      | nil => exact ⟨_, _, rfl, p1 _ A B (Same.refl _) g1 (((S.step st).set q).set q2)⟩
      | cons q3 r => exact p1.elim
end

/-! ### targets -/
/-- at the slots js alone something else -/
def OffIx (js : List Nat) (σ σ1 : L2.St) : Prop := σ1.length = σ.length ∧ ∀ i : Nat, i ∉ js → σ1[i]? = σ[i]?
section
variable (K : Frag) (mg : Str → Option Value)
def SG (js : List Nat) (g : TG) (m : GM) : Prop := ∀ (h : Ent) (H0 H : Hp) (s : Hd) (x : V) (d : Dt) (σ : L2.St) (ρ ρ1 : Env') (Q : L2.St → Hp → Prop), G h H0 H s → Slots K mg h H0 H σ ρ → Den K mg h H0 x d → m d ρ = some ρ1 →
  (∀ σ1, OffIx js σ σ1 → Slots K mg h H0 H σ1 ρ1 → Q σ1 H) → g x σ H Q
def SGs (js : List Nat) (g : TGs) (m : GMs) : Prop := ∀ (h : Ent) (H0 H : Hp) (s : Hd) (xs : List V) (ds : List Dt) (σ : L2.St) (ρ ρ1 : Env') (Q : L2.St → Hp → Prop), G h H0 H s → Slots K mg h H0 H σ ρ → DenA K mg h H0 xs ds → m ds ρ = some ρ1 →
  (∀ σ1, OffIx js σ σ1 → Slots K mg h H0 H σ1 ρ1 → Q σ1 H) → g xs σ H Q
end
def gSeq (K : Frag) (n : Nat) (t : TGs) : TG := fun v σ H Q => gTup K n t v σ H Q ∨ gLst K n t v σ H Q
theorem pg_or {X : Cx} {e : Expr} {t u : TG} (h1 : PG X e t) (h2 : PG X e u) : PG X e (fun v σ H Q => t v σ H Q ∨ u v σ H Q) :=
  ⟨fun pins s σ H v w Q I r h => h.elim (fun z => h1.run pins s σ H v w Q I r z) fun z => h2.run pins s σ H v w Q I r z⟩
theorem pg_seq {X : Cx} {pos : Pos} {es : List Expr} {k : Nat} {t : TGs} {n : Nat} (hc : X.calm = true) (h : PGs X es t)
    (hn : (assignEach es X.env).length = n := by rfl) (hst : (assignEach es X.env).findIdx? (·.1) = none := by rfl) : PG X (.Tuple es k pos) (gSeq X.K n t) := pg_or (pg_tup hc h hn hst) (pg_lst hc h hn hst)
section
variable {K : Frag} {mg : Str → Option Value}
theorem sg_name {j : Nat} : SG K mg [j] (gName j) (gmName j) := by
  intro h H0 H s x d σ ρ ρ1 Q g S dx e q
  cases e
  exact q _ ⟨List.length_set, fun i hi => List.getElem?_set_ne (fun z => hi (by rw [z]; exact List.mem_singleton.mpr rfl))⟩ (S.set dx)
theorem sgs_nil : SGs K mg [] gNil gmNil := by
  intro h H0 H s xs ds σ ρ ρ1 Q g S dx e q
  cases dx with
  | nil =>
    cases e
    exact ⟨rfl, q σ ⟨rfl, fun _ _ => rfl⟩ S⟩
  | cons _ _ => cases e
theorem sgs_cons {js ks : List Nat} {g : TG} {gs : TGs} {m : GM} {ms : GMs} (h1 : SG K mg js g m) (h2 : SGs K mg ks gs ms) : SGs K mg (js ++ ks) (gCons g gs) (gmCons m ms) := by
  intro h H0 H s xs ds σ ρ ρ1 Q g0 S dx e q
  cases dx with
  | nil => cases e
  | @cons v vs d ds dv dvs =>
    have e : (m d ρ).bind (fun ρ1 => ms ds ρ1) = some ρ1 := e
    cases hm : m d ρ with
    | none =>
      rw [hm] at e
      cases e
    | some ρ2 =>
      rw [hm] at e
      refine ⟨v, vs, rfl, h1 h H0 H s v d σ ρ ρ2 _ g0 S dv hm fun σ2 o2 S2 => h2 h H0 H s vs ds σ2 ρ2 ρ1 Q g0 S2 dvs e fun σ3 o3 S3 => q σ3 ⟨o3.1.trans o2.1, fun i hi => ?_⟩ S3⟩
      rw [o3.2 i fun z => hi (List.mem_append_right _ z), o2.2 i fun z => hi (List.mem_append_left _ z)]
theorem sg_seq {js : List Nat} {n : Nat} {gs : TGs} {ms : GMs} (h1 : SGs K mg js gs ms) : SG K mg js (gSeq K n gs) (gmSeq n ms) := by
  intro h H0 H s x d σ ρ ρ1 Q g0 S dx e q
  cases dx with
  | @tup a xs ds qa ra =>
    have e : (if ds.length = n then ms ds ρ else none) = some ρ1 := e
    by_cases c : ds.length = n
    · rw [if_pos c] at e
      exact .inl ⟨_, _, rfl, sqt_mono g0.ex qa, ra.len.trans c, h1 h H0 H s _ _ σ ρ ρ1 Q g0 S ra e q⟩
    · rw [if_neg c] at e
      cases e
  | @lst a xs ds qa ra =>
    have e : (if ds.length = n then ms ds ρ else none) = some ρ1 := e
    by_cases c : ds.length = n
    · rw [if_pos c] at e
      exact .inr ⟨_, _, rfl, SqL.of (g0.ex _ _ qa), ra.len.trans c, h1 h H0 H s _ _ σ ρ ρ1 Q g0 S ra e q⟩
    · rw [if_neg c] at e
      cases e
  | _ => cases e
theorem ss_asg {Wx : WX} {ta : TE} {a : ME} {js : List Nat} {g : TG} {m : GM} (ha : SE K mg Wx ta a) (hg : SG K mg js g m) : SS K mg Wx (tAsg ta g) (mAsg m a) := by
  intro h H0 H s σ ρ D g0 S p
  refine ha h H0 H s σ ρ _ g0 S (PostS.bind p fun d s1 x A B st g1 dx p1 => ?_)
  cases e : m d ρ with
  | none =>
    rw [e] at p1
    exact p1.elim
  | some ρ1 =>
    rw [e] at p1
    exact hg h A B s1 x d σ ρ ρ1 _ g1 (S.step st) dx e fun σ1 _ S1 => p1 σ1 A B (Same.refl _) g1 S1
end

/-! ### what a for walks: a list or a tuple -/
def iSeq (K : Frag) (tl : TE) : TI := fun σ H R => tl σ H fun x H1 => (∃ a, x = .ref a ∧ (∃ xs, SqL K H1 a xs) ∧ R (Itl K a) H1) ∨ ∃ a, x = .ref a ∧ (∃ xs, SqT K H1 a xs) ∧ R (Itt K a) H1
theorem pi_seq {X : Cx} {tg l : Expr} {tl : TE} (hl : PE X l tl) : PI X tg l (iSeq X.K tl) := by
  refine ⟨fun pins s σ H R I h => ?_⟩
  refine thn (hl.run pins s σ H _ I h) fun v s1 ⟨x, H1, I1, r1, q1⟩ => ?_
  rcases q1 with ⟨a, e, ⟨xs, hq⟩, q⟩ | ⟨a, e, ⟨xs, hq⟩, q⟩
  · subst e
    cases r1
    obtain ⟨its, rv, p, hz⟩ := I1.list hq
    refine wpAny_pyIter_list p.isList ?_
    refine ⟨s1.heap.objs.size, [s1.heap.objs.size], _, _, H1, rfl, I1.kept (t' := s1.toks) fun b o e => Heap.get?_push_of_some _ e, turn_list a _, ⟨_, Heap.get?_push_size _ rfl, rfl, rfl⟩, fun b hb => ?_, q⟩
    have e : b = s1.heap.objs.size := by simpa using hb
    subst e
    exact I1.fpOk (Nat.le_refl _) (I1.hok.fresh (Nat.le_refl _))
  · subst e
    cases r1
    obtain ⟨its, rv, p, hz⟩ := I1.tuple hq
    refine wpAny_pyIter_tuple (show s1.heap.IsTuple a its.toArray from p) ?_
    refine ⟨s1.heap.objs.size, [s1.heap.objs.size], _, _, H1, rfl, I1.kept (t' := s1.toks) fun b o e => Heap.get?_push_of_some _ e, turn_tuple a _, ⟨_, Heap.get?_push_size _ rfl, rfl, rfl⟩, fun b hb => ?_, q⟩
    have e : b = s1.heap.objs.size := by simpa using hb
    subst e
    exact I1.fpOk (Nat.le_refl _) (I1.hok.fresh (Nat.le_refl _))
section
variable {K : Frag} {mg : Str → Option Value} {Wx : WX} {ta : TE} {a : ME} {t : TA} {as : MA} {tb : TS} {body : MS} {js : List Nat} {g : TG} {m : GM}
theorem drop_cons {α : Type} {ds : List α} {i : Nat} {d : α} (e : ds[i]? = some d) : ds.drop i = d :: ds.drop (i + 1) := by
  obtain ⟨hl, e2⟩ := List.getElem?_eq_some_iff.mp e
  rw [← e2]
  exact List.drop_eq_getElem_cons hl
/-- one turn -/
theorem turn_ok {h : Ent} {A B : Hp} {s : Hd} {σ : L2.St} {ρ : Env'} {x : V} {d : Dt} {ds : List Dt} {D : Ends} {Pn : L2.St → Hp → Prop} (hg : SG K mg js g m) (hb : SS K mg Wx tb body) (g0 : G h A B s) (S : Slots K mg h A B σ ρ) (dx : Den K mg h A x d)
    (p : PostS K mg h (loopF m body (d :: ds) ρ s) A B Wx D)
    (next : ∀ σ' A' B' s' ρ', Same A A' → G h A' B' s' → Slots K mg h A' B' σ' ρ' → PostS K mg h (loopF m body ds ρ' s') A' B' Wx D → Pn σ' B') :
    g x σ B fun σ2 H2 => tb { D with nx := Pn, ct := Pn, bk := D.nx } σ2 H2 := by
  unfold loopF at p
  cases e : m d ρ with
  | none =>
    rw [e] at p
    exact p.elim
  | some ρ1 =>
    rw [e] at p
    refine hg h A B s x d σ ρ ρ1 _ g0 S dx e fun σ1 _ S1 => hb h A B s σ1 ρ1 _ g0 S1 ?_
    cases eb : body ρ1 s with
    | ok f s2 =>
      cases f with
      | nx ρ2 =>
        simp only [eb] at p
        exact fun σ' A' B' st g' S' => next σ' A' B' s2 ρ2 st g' S' (PostS.step st p)
      | ct ρ2 =>
        simp only [eb] at p
        exact fun σ' A' B' st g' S' => next σ' A' B' s2 ρ2 st g' S' (PostS.step st p)
      | bk ρ2 =>
        simp only [eb] at p
        exact p
      | rt d2 =>
        simp only [eb] at p
        exact p
    | err c fs ρ2 s2 =>
      simp only [eb] at p
      exact p
    | bad =>
      simp only [eb] at p
      exact p
theorem rangeD_len (lo : Int) (n : Nat) : (rangeD lo n).length = n := by
  unfold rangeD
  rw [List.length_map, List.length_range]
theorem rangeD_get {lo : Int} {n i : Nat} (hi : i < n) : (rangeD lo n)[i]? = some (.int (lo + i)) := by
  unfold rangeD
  rw [List.getElem?_map, List.getElem?_range hi]
  rfl
theorem for_rng {h : Ent} {A B : Hp} {s : Hd} {σ : L2.St} {ρ : Env'} {D : Ends} {lo : Int} {n : Nat} (hg : SG K mg js g m) (hb : SS K mg Wx tb body) (g1 : G h A B s) (S1 : Slots K mg h A B σ ρ) (p1 : PostS K mg h (loopF m body (rangeD lo n) ρ s) A B Wx D) :
    ∃ W : Nat → Nat → L2.St → Hp → Prop, (∃ m, W 0 m σ B) ∧ ∀ i m σ H, W i m σ H →
      ((Itr lo n).stop i H ∧ D.nx σ H) ∨ ((Itr lo n).go i H ∧ ∃ N : L2.St → Hp → Prop, (∀ σ' H', N σ' H' → ∃ m', m' < m ∧ W (i + 1) m' σ' H') ∧ ∀ x H', (Itr lo n).yld i H x H' → g x σ H' fun σ2 H2 => tb { D with nx := N, ct := N, bk := D.nx } σ2 H2) := by
  refine for_range (fun i σ' H' => ∃ A' s' ρ', Same A A' ∧ G h A' H' s' ∧ Slots K mg h A' H' σ' ρ' ∧ PostS K mg h (loopF m body ((rangeD lo n).drop i) ρ' s') A' H' Wx D)
    ⟨A, s, ρ, Same.refl _, g1, S1, p1⟩ (fun i σ' H' hi ⟨A', s', ρ', st', g', S', p'⟩ => ?_) (fun σ' H' ⟨A', s', ρ', st', g', S', p'⟩ => ?_)
  · rw [drop_cons (rangeD_get hi)] at p'
    exact turn_ok hg hb g' S' (.int _) p' fun σ2 A2 B2 s2 ρ2 st2 g2 S2 p2 => ⟨A2, s2, ρ2, st'.trans st2, g2, S2, p2⟩
  · have e : (rangeD lo n).drop n = [] := List.drop_eq_nil_of_le (by rw [rangeD_len]; exact Nat.le_refl _)
    rw [e] at p'
    exact p' σ' A' H' (Same.refl _) g' S'
theorem DenA.one {h : Addr} {H : Hp} {vs : List V} {d : Dt} (r : DenA K mg h H vs [d]) : ∃ v, vs = [v] ∧ Den K mg h H v d := by
  cases r with
  | cons q r =>
    cases r
    exact ⟨_, rfl, q⟩
theorem DenA.two {h : Addr} {H : Hp} {vs : List V} {d e : Dt} (r : DenA K mg h H vs [d, e]) : ∃ v w, vs = [v, w] ∧ Den K mg h H v d ∧ Den K mg h H w e := by
  cases r with
  | cons q r =>
    obtain ⟨w, rfl, q2⟩ := r.one
    exact ⟨_, w, rfl, q, q2⟩
end
end Mir


set_option Elab.async false
set_option linter.all false
set_option maxRecDepth 100000
namespace Mir
open PySem PySem.Spec PyProof.Rows L2
open PySem.W (Frag)

/-! ### comprehensions -/
section
theorem wipeE_length (ρ : Env') : ∀ vs : List Nat, (wipeE ρ vs).length = ρ.length
  | [] => rfl
  | v :: vs => by
    unfold wipeE
    rw [List.length_set, wipeE_length ρ vs]
variable {K : Frag} {mg : Str → Option Value}
theorem Slots.wipe {h : Ent} {H0 H : Hp} {σ : L2.St} {ρ : Env'} (S : Slots K mg h H0 H σ ρ) : ∀ vs : List Nat, Slots K mg h H0 H (L2.wipe σ vs) (wipeE ρ vs)
  | [] => S
  | v :: vs => (Slots.wipe S vs).forget none
theorem wipe_in {σ : L2.St} {i : Nat} : ∀ {vs : List Nat}, i ∈ vs → i < σ.length → (L2.wipe σ vs)[i]? = some none
  | [], hi, _ => by cases hi
  | v :: vs, hi, hl => by
    show ((L2.wipe σ vs).set v none)[i]? = some none
    by_cases e : v = i
    · subst e
      exact List.getElem?_set_self (by rw [wipe_length]; exact hl)
    · rw [List.getElem?_set_ne e]
      rcases List.mem_cons.mp hi with z | z
      · exact absurd z.symm e
      · exact wipe_in z hl
theorem wipe_out' {σ : L2.St} {i : Nat} : ∀ {vs : List Nat}, i ∉ vs → (L2.wipe σ vs)[i]? = σ[i]?
  | [], _ => rfl
  | v :: vs, hi => by
    show ((L2.wipe σ vs).set v none)[i]? = σ[i]?
    rw [List.getElem?_set_ne fun z => hi (by rw [z]; exact List.mem_cons_self), wipe_out' fun z => hi (List.mem_cons_of_mem _ z)]
theorem wipe_off {σ σ2 : L2.St} {js vs : List Nat} (hs : ∀ j ∈ js, j ∈ vs) (o : OffIx js (L2.wipe σ vs) σ2) : L2.wipe σ2 vs = L2.wipe σ vs := by
  have hl : σ2.length = σ.length := by rw [o.1, wipe_length]
  apply List.ext_getElem?
  intro i
  by_cases hi : i ∈ vs
  · by_cases hb : i < σ.length
    · rw [wipe_in hi hb, wipe_in hi (by rw [hl]; exact hb)]
    · rw [List.getElem?_eq_none (by rw [wipe_length, hl]; omega), List.getElem?_eq_none (by rw [wipe_length]; omega)]
  · rw [wipe_out' hi, o.2 i fun z => hi (hs i z), wipe_out' hi]
end
theorem same_upd' {H : Hp} {p : Addr} {o : HO} (h : H p = none) : Same H (upd H p o) := fun b x e => by
  rw [upd_ne (ne_of_none e h)]
  exact e
abbrev WF : WX := fun _ _ _ _ => False
section
variable {K : Frag} {mg : Str → Option Value} {Wx : WX} {ta : TE} {a b : ME} {tt : TT} {mt : MT} {js vs : List Nat} {g : TG} {m : GM}
theorem Post.noErr {α β δ : Type} {h : Ent} {H0 H : Hp} {PF : R δ → Prop} (hbad : PF .bad → False) {rel1 : Hp → α → β → Prop} {r : R β} {k : β → Hd → R δ} {Q1 : α → Hp → Prop} (p : PF ((noErr r).bind k))
    (f : ∀ b s a H0' H', Step h.a H0 H H0' H' → G h.a H0' H' s → rel1 H0' a b → PF (k b s) → Q1 a H') : Post K mg h rel1 r H0 H WF Q1 := by
  cases r with
  | ok b s => exact fun a A B st g q => f b s a A B st g q p
  | err c fs ρ s => exact (hbad p).elim
  | bad => exact (hbad p).elim
theorem Post.bindF {α β δ : Type} {h : Ent} {H0 H : Hp} {PF : R δ → Prop} (hbad : PF .bad → False) (herr : ∀ c fs ρ s, PF (.err c fs ρ s) → ErrP K mg h H0 c fs ρ s Wx) {rel1 : Hp → α → β → Prop} {r : R β} {k : β → Hd → R δ} {Q1 : α → Hp → Prop} (p : PF (r.bind k))
    (f : ∀ b s a H0' H', Step h.a H0 H H0' H' → G h.a H0' H' s → rel1 H0' a b → PF (k b s) → Q1 a H') : Post K mg h rel1 r H0 H Wx Q1 := by
  cases r with
  | ok b s => exact fun a A B st g q => f b s a A B st g q p
  | err c fs ρ s => exact herr _ _ _ _ p
  | bad => exact (hbad p).elim
/-- the word of a comprehension's loop: D the new list, not yet among the data -/
def CW (K : Frag) (mg : Str → Option Value) (PF : R Dt → Prop) (m : GM) (mt : MT) (a : ME) (vs : List Nat) (h : Ent) (A B : Hp) (ρ : Env') (D : Addr) (ds : List Dt) (B' : Hp) : Prop :=
  ∃ (A' : Hp) (s' : Hd) (acc : List Dt) (vv : List V), Step h A B A' B' ∧ G h A' B' s' ∧ B D = none ∧ A' D = none ∧ ¬ isH h B' D ∧ B' D = some (.lst vv) ∧ DenA K mg h A' vv acc ∧ PF (loopC m mt a vs ds acc ρ s')
theorem cw_turn {h : Ent} {A B B' : Hp} {σ : L2.St} {ρ : Env'} {D : Addr} {PF : R Dt → Prop} (hbad : PF .bad → False) {x : V} {d : Dt} {ds : List Dt} (hg : SG K mg js g m) (hv : ∀ j ∈ js, j ∈ vs) (ht : ST K mg WF tt mt) (ha : SE K mg WF ta a) (S : Slots K mg h A B σ ρ)
    (w : CW K mg PF m mt a vs h A B ρ D (d :: ds) B') (dx : ∀ A', Same A A' → Den K mg h A' x d) :
    g x (L2.wipe σ vs) B' fun σ2 H2 => L2.wipe σ2 vs = L2.wipe σ vs ∧ tt σ2 H2 fun b H3 =>
      if b = true then ta σ2 H3 fun y H4 => ∃ acc, H4 D = some (.lst acc) ∧ acc.length < sizeLine ∧ CW K mg PF m mt a vs h A B ρ D ds (upd H4 D (.lst (acc ++ [y]))) else CW K mg PF m mt a vs h A B ρ D ds H3 := by
  obtain ⟨A', s', acc, vv, st, g0, hB, hD, nD, eD, da, p⟩ := w
  unfold loopC at p
  cases e : m d (wipeE ρ vs) with
  | none =>
    rw [e] at p
    exact (hbad p).elim
  | some ρ1 =>
    simp only [e] at p
    refine hg h A' B' s' x d _ _ ρ1 _ g0 ((S.step st).wipe vs) (dx A' st.s0) e fun σ1 o1 S1 => ⟨wipe_off hv o1, ht h A' B' s' σ1 ρ1 _ g0 S1 (Post.noErr hbad p fun c s1 c' A2 B2 st2 g2 ec p2 => ?_)⟩
    have ec : c' = c := ec
    subst ec
    have f2 := st2.fr D _ eD hD nD
    cases c' with
    | false => exact ⟨A2, s1, acc, vv, st.trans st2, g2, hB, f2.2.1, f2.2.2, f2.1, da.mono st2.s0, p2⟩
    | true =>
      show ta σ1 B2 _
      rw [if_pos rfl] at p2
      refine ha h A2 B2 s1 σ1 ρ1 _ g2 (S1.step st2) (Post.noErr hbad p2 fun z s3 y A3 B3 st3 g3 dy p3 => ?_)
      have f3 := st3.fr D _ f2.1 f2.2.1 f2.2.2
      by_cases c : sizeOk acc.length
      · rw [if_pos c] at p3
        refine ⟨vv, f3.1, by rw [da.len]; exact c.lt, ?_⟩
        obtain ⟨gl, a1, a2, a3, a4⟩ := g3.gl
        have n1 : h ≠ D := fun z => f3.2.2 (.inl z.symm)
        have n2 : gl ≠ D := fun z => f3.2.2 (.inr ⟨_, by rw [← z]; exact a3⟩)
        have nH : ∀ q, isH h (upd B3 D (.lst (vv ++ [y]))) q → isH h B3 q := fun q w => by
          rcases w with w | ⟨r, w⟩
          · exact .inl w
          · rw [upd_ne n1] at w
            exact .inr ⟨r, w⟩
        have st4 : Step h A B A3 (upd B3 D (.lst (vv ++ [y]))) := ⟨(st.trans (st2.trans st3)).s0, fun q u x1 x2 x3 => by
          have nq : q ≠ D := ne_of_none x1 hB
          obtain ⟨y1, y2, y3⟩ := (st.trans (st2.trans st3)).fr q u x1 x2 x3
          exact ⟨by rw [upd_ne nq]; exact y1, y2, fun w => y3 (nH q w)⟩⟩
        refine ⟨A3, s3, acc ++ [z], vv ++ [y], st4, ⟨fun q u w => ?_, g3.h0, gl, a1, a2, by rw [upd_ne n1]; exact a3, by rw [upd_ne n2]; exact a4⟩, hB, f3.2.1, fun w => f3.2.2 (nH D w), upd_same, ((da.mono st2.s0).mono st3.s0).append (.cons dy .nil), p3⟩
        rw [upd_ne fun z => by rw [z, f3.2.1] at w; cases w]
        exact g3.ex _ _ w
      · rw [if_neg c] at p3
        exact (hbad p3).elim
theorem cw_start {h : Ent} {A B : Hp} {s : Hd} {ρ : Env'} {D : Addr} {PF : R Dt → Prop} {ds : List Dt} (g0 : G h A B s) (hD : B D = none) (p : PF (loopC m mt a vs ds [] ρ s)) : CW K mg PF m mt a vs h A B ρ D ds (upd B D (.lst [])) := by
  obtain ⟨g1, st⟩ := g0.side (o := .lst []) hD
  obtain ⟨gl, a1, a2, a3, a4⟩ := g0.gl
  have n1 : h ≠ D := ne_of_none a3 hD
  have n2 : gl ≠ D := ne_of_none a4 hD
  refine ⟨A, s, [], [], st, g1, hD, g0.ex.free hD, fun w => ?_, upd_same, .nil, p⟩
  rcases w with w | ⟨r, w⟩
  · exact n1 w.symm
  · rw [upd_ne n1, a3] at w
    cases w
    exact n2 rfl
/-- behind the last turn: the new list is nobody's yet -/
def CWFin (K : Frag) (mg : Str → Option Value) (PF : R Dt → Prop) (h : Ent) (A B : Hp) (Q : VK) : Prop := ∀ (D : Addr) (A' B' : Hp) (s' : Hd) (acc : List Dt) (vv : List V), B D = none → Step h.a A B A' B' → G h.a A' B' s' → A' D = none → ¬ isH h.a B' D → B' D = some (.lst vv) → DenA K mg h.a A' vv acc → PF (.ok (.lst acc) s') → Q (.ref D) B'
theorem cw_end {h : Ent} {A B B' : Hp} {ρ : Env'} {D : Addr} {PF : R Dt → Prop} {Q : VK} (fin : CWFin K mg PF h A B Q) (w : CW K mg PF m mt a vs h A B ρ D [] B') : Q (.ref D) B' := by
  obtain ⟨A', s', acc, vv, st, g0, hB, hD, nD, eD, da, p⟩ := w
  exact fin D A' B' s' acc vv hB st g0 hD nD eD da p
/-- it becomes data -/
theorem fin_den {h : Ent} {A B : Hp} {Q : VK} : CWFin K mg (fun r => Post K mg h (Den K mg h.a) r A B Wx Q) h A B Q := by
  intro D A' B' s' acc vv hB st g0 hD nD eD da p
  have e0 : Same A' (upd A' D (.lst vv)) := same_upd' hD
  refine p (.ref D) (upd A' D (.lst vv)) B' ⟨st.s0.trans e0, fun q u x1 x2 x3 => ?_⟩ ⟨fun q u x => ?_, ?_, ?_⟩ (.lst upd_same (da.mono e0))
  · obtain ⟨y1, y2, y3⟩ := st.fr q u x1 x2 x3
    exact ⟨y1, by rw [upd_ne (ne_of_none x1 hB)]; exact y2, y3⟩
  · by_cases c : q = D
    · subst c
      rw [upd_same] at x
      rw [eD]
      exact x
    · rw [upd_ne c] at x
      exact g0.ex _ _ x
  · rw [upd_ne fun z => nD (.inl z.symm)]
    exact g0.h0
  · obtain ⟨gl, a1, a2, a3, a4⟩ := g0.gl
    exact ⟨gl, by rw [upd_ne fun z => nD (.inr ⟨_, by rw [← z]; exact a3⟩)]; exact a1, a2, a3, a4⟩
theorem lc_rng {h : Ent} {A B : Hp} {s : Hd} {σ : L2.St} {ρ : Env'} {Q : VK} {PF : R Dt → Prop} (hbad : PF .bad → False) (fin : CWFin K mg PF h A B Q) {lo : Int} {n : Nat} (hg : SG K mg js g m) (hv : ∀ j ∈ js, j ∈ vs) (ht : ST K mg WF tt mt) (ha : SE K mg WF ta a) (g1 : G h A B s) (S1 : Slots K mg h A B σ ρ)
    (p1 : PF (loopC m mt a vs (rangeD lo n) [] ρ s)) (D : Addr) (hD : B D = none) :
    ∃ W : Nat → Nat → Hp → Prop, (∃ m, W 0 m (upd B D (.lst []))) ∧ ∀ i m H, W i m H →
      ((Itr lo n).stop i H ∧ Q (.ref D) H) ∨ ((Itr lo n).go i H ∧ ∃ Nx : Hp → Prop, (∀ H', Nx H' → ∃ m', m' < m ∧ W (i + 1) m' H') ∧ ∀ x H', (Itr lo n).yld i H x H' → g x (L2.wipe σ vs) H' fun σ2 H2 => L2.wipe σ2 vs = L2.wipe σ vs ∧ tt σ2 H2 fun b H3 =>
        if b = true then ta σ2 H3 fun y H4 => ∃ acc, H4 D = some (.lst acc) ∧ acc.length < sizeLine ∧ Nx (upd H4 D (.lst (acc ++ [y]))) else Nx H3) := by
  refine lc_range (Qd := fun H => Q (.ref D) H) (fun i H' => CW K mg PF m mt a vs h A B ρ D ((rangeD lo n).drop i) H') (cw_start g1 hD p1) (fun i H' hi w => ?_) (fun H' w => ?_)
  · rw [drop_cons (rangeD_get hi)] at w
    exact cw_turn hbad hg hv ht ha S1 w fun A' e => .int _
  · have e : (rangeD lo n).drop n = [] := List.drop_eq_nil_of_le (by rw [rangeD_len]; exact Nat.le_refl _)
    rw [e] at w
    exact cw_end fin w
theorem st_yes : ST K mg Wx tYes mYes := fun h H0 H s σ ρ Q g S p => p true H0 H (.refl _ _) g rfl
end
/-- what a loop or a comprehension walks, and the data that come -/
structure SI (K : Frag) (mg : Str → Option Value) (Wx : WX) (wi : TI) (mi : MA) : Prop where
  for_ : ∀ {js : List Nat} {g : TG} {m : GM} {tb : TS} {body : MS}, SG K mg js g m → SS K mg Wx tb body → SS K mg Wx (tFor wi g tb) (mFor m mi body)
  lcF : ∀ {js : List Nat} {g : TG} {m : GM} {tt : TT} {mt : MT} {ta : TE} {a : ME} {vs : List Nat}, SG K mg js g m → (∀ j ∈ js, j ∈ vs) → ST K mg WF tt mt → SE K mg WF ta a →
    ∀ (h : Ent) (H0 H : Hp) (s : Hd) (σ : L2.St) (ρ : Env') (Q : VK) (PF : R Dt → Prop), (PF .bad → False) → (∀ c fs ρ s, PF (.err c fs ρ s) → ErrP K mg h H0 c fs ρ s Wx) → (∀ A B, Step h.a H0 H A B → CWFin K mg PF h A B Q) → G h.a H0 H s → Slots K mg h H0 H σ ρ → PF (mLc m mi mt a vs ρ s) → tLc wi g tt ta vs σ H Q
theorem SI.lc {K : Frag} {mg : Str → Option Value} {Wx : WX} {wi : TI} {mi : MA} (I : SI K mg Wx wi mi) {js : List Nat} {g : TG} {m : GM} {tt : TT} {mt : MT} {ta : TE} {a : ME} {vs : List Nat} (hg : SG K mg js g m) (hv : ∀ j ∈ js, j ∈ vs) (ht : ST K mg WF tt mt) (ha : SE K mg WF ta a) : SE K mg Wx (tLc wi g tt ta vs) (mLc m mi mt a vs) := by
  intro h H0 H s σ ρ Q g0 S p
  refine I.lcF hg hv ht ha h H0 H s σ ρ Q (fun r => Post K mg h (Den K mg h.a) r H0 H Wx Q) (fun z => z.elim) (fun c fs ρ s z => z) (fun A B st => ?_) g0 S p
  intro D A' B' s' acc vv hB st2 g2 hD nD eD da p2
  exact fin_den (Wx := Wx) D A' B' s' acc vv hB st2 g2 hD nD eD da (Post.step st p2)
section
variable {K : Frag} {mg : Str → Option Value} {Wx : WX} {tl tl2 : TE} {b b2 : ME}
theorem si_seq (hb : SE K mg Wx tl b) : SI K mg Wx (iSeq K tl) (mSeqI b) where
  for_ := by
    intro js g m tb body hg hb2 h H0 H s σ ρ D g0 S p
    have p : PostS K mg h (((b ρ s).bind _).bind _) H0 H Wx D := p
    rw [R.bind_assoc] at p
    refine hb h H0 H s σ ρ _ g0 S (PostS.bind p fun d s1 x A B st g1 dx p1 => ?_)
    have S1 := S.step st
    cases dx with
    | @lst a xs ds qa ra =>
      refine .inl ⟨a, rfl, ⟨xs, SqL.of (g1.ex _ _ qa)⟩, for_list (K := K) (a := a) (xs := xs) (fun i σ' H' => ∃ A' s' ρ', Same A A' ∧ G h A' H' s' ∧ Slots K mg h A' H' σ' ρ' ∧ PostS K mg h (loopF m body (ds.drop i) ρ' s') A' H' Wx D)
        ⟨A, s1, ρ, Same.refl _, g1, S1, p1⟩ (fun i σ' H' _ ⟨A', s', ρ', st', g', _, _⟩ => SqL.of (g'.ex _ _ (st' _ _ qa))) (fun i x σ' H' hx ⟨A', s', ρ', st', g', S', p'⟩ => ?_) (fun σ' H' ⟨A', s', ρ', st', g', S', p'⟩ => ?_)⟩
      · obtain ⟨d, hd, dx⟩ := ra.getV hx
        rw [drop_cons hd] at p'
        exact turn_ok hg hb2 g' S' (dx.mono st') p' fun σ2 A2 B2 s2 ρ2 st2 g2 S2 p2 => ⟨A2, s2, ρ2, st'.trans st2, g2, S2, p2⟩
      · rw [ra.len, List.drop_length] at p'
        exact p' σ' A' H' (Same.refl _) g' S'
    | @tup a xs ds qa ra =>
      refine .inr ⟨a, rfl, ⟨xs, sqt_mono g1.ex qa⟩, for_tup (K := K) (a := a) (xs := xs) (fun i σ' H' => ∃ A' s' ρ', Same A A' ∧ G h A' H' s' ∧ Slots K mg h A' H' σ' ρ' ∧ PostS K mg h (loopF m body (ds.drop i) ρ' s') A' H' Wx D)
        ⟨A, s1, ρ, Same.refl _, g1, S1, p1⟩ (fun i σ' H' _ ⟨A', s', ρ', st', g', _, _⟩ => sqt_mono g'.ex (sqt_mono st' qa)) (fun i x σ' H' hx ⟨A', s', ρ', st', g', S', p'⟩ => ?_) (fun σ' H' ⟨A', s', ρ', st', g', S', p'⟩ => ?_)⟩
      · obtain ⟨d, hd, dx⟩ := ra.getV hx
        rw [drop_cons hd] at p'
        exact turn_ok hg hb2 g' S' (dx.mono st') p' fun σ2 A2 B2 s2 ρ2 st2 g2 S2 p2 => ⟨A2, s2, ρ2, st'.trans st2, g2, S2, p2⟩
      · rw [ra.len, List.drop_length] at p'
        exact p' σ' A' H' (Same.refl _) g' S'
    | _ => exact p1.elim
  lcF := by
    intro js g m tt mt ta a vs hg hv ht ha h H0 H s σ ρ Q PF hbad herr fin0 g0 S p
    have p : PF (((b ρ s).bind _).bind _) := p
    rw [R.bind_assoc] at p
    refine hb h H0 H s σ ρ _ g0 S (Post.bindF hbad herr p fun d s1 x A B st g1 dx p1 => ?_)
    have S1 := S.step st
    have fin := fin0 A B st
    cases dx with
    | @lst aa xs ds qa ra =>
      refine .inl ⟨aa, rfl, ⟨xs, SqL.of (g1.ex _ _ qa)⟩, fun D hD => lc_list (K := K) (a := aa) (xs := xs) (fun i H' => CW K mg PF m mt a vs h A B ρ D (ds.drop i) H') (cw_start g1 hD p1) (fun i H' _ w => ?_) (fun i x H' hx w => ?_) (fun H' w => ?_)⟩
      · obtain ⟨A', _, _, _, st', g', _⟩ := w
        exact SqL.of (g'.ex _ _ (st'.s0 _ _ qa))
      · obtain ⟨d, hd, dx⟩ := ra.getV hx
        rw [drop_cons hd] at w
        exact cw_turn hbad hg hv ht ha S1 w fun A' e => dx.mono e
      · rw [ra.len, List.drop_length] at w
        exact cw_end fin w
    | @tup aa xs ds qa ra =>
      refine .inr ⟨aa, rfl, ⟨xs, sqt_mono g1.ex qa⟩, fun D hD => lc_tup (K := K) (a := aa) (xs := xs) (fun i H' => CW K mg PF m mt a vs h A B ρ D (ds.drop i) H') (cw_start g1 hD p1) (fun i H' _ w => ?_) (fun i x H' hx w => ?_) (fun H' w => ?_)⟩
      · obtain ⟨A', _, _, _, st', g', _⟩ := w
        exact sqt_mono g'.ex (sqt_mono st'.s0 qa)
      · obtain ⟨d, hd, dx⟩ := ra.getV hx
        rw [drop_cons hd] at w
        exact cw_turn hbad hg hv ht ha S1 w fun A' e => dx.mono e
      · rw [ra.len, List.drop_length] at w
        exact cw_end fin w
    | _ => exact (hbad p1).elim
theorem si_rng1 (hb : SE K mg Wx tl b) : SI K mg Wx (iRng1 (tCons tl tNil)) (mRng1 b) where
  for_ := by
    intro js g m tb body hg hb2 h H0 H s σ ρ D g0 S p
    have p : PostS K mg h (((b ρ s).bind _).bind _) H0 H Wx D := p
    rw [R.bind_assoc] at p
    refine hb h H0 H s σ ρ _ g0 S (PostS.bind p fun d s1 x A B st g1 dx p1 => ?_)
    cases dx with
    | int j =>
      by_cases c : rngOk j
      · simp only [if_pos c] at p1
        exact ⟨j, rfl, by have := c.1; omega, by have := c.2; omega, for_rng hg hb2 g1 (S.step st) p1⟩
      · simp only [if_neg c] at p1
        exact p1.elim
    | _ => exact p1.elim
  lcF := by
    intro js g m tt mt ta a vs hg hv ht ha h H0 H s σ ρ Q PF hbad herr fin0 g0 S p
    have p : PF (((b ρ s).bind _).bind _) := p
    rw [R.bind_assoc] at p
    refine hb h H0 H s σ ρ _ g0 S (Post.bindF hbad herr p fun d s1 x A B st g1 dx p1 => ?_)
    cases dx with
    | int j =>
      by_cases c : rngOk j
      · simp only [if_pos c] at p1
        exact ⟨j, rfl, by have := c.1; omega, by have := c.2; omega, fun D hD => lc_rng hbad (fin0 A B st) hg hv ht ha g1 (S.step st) p1 D hD⟩
      · simp only [if_neg c] at p1
        exact (hbad p1).elim
    | _ => exact (hbad p1).elim
theorem si_rng2 (hb : SE K mg Wx tl b) (hb2 : SE K mg Wx tl2 b2) : SI K mg Wx (iRng2 (tCons tl (tCons tl2 tNil))) (mRng2 b b2) where
  for_ := by
    intro js g m tb body hg hbb h H0 H s σ ρ D g0 S p
    have p : PostS K mg h (((b ρ s).bind _).bind _) H0 H Wx D := p
    rw [R.bind_assoc] at p
    refine hb h H0 H s σ ρ _ g0 S (PostS.bind p fun d s1 x A B st g1 dx p1 => ?_)
    rw [R.bind_assoc] at p1
    refine hb2 h A B s1 σ ρ _ g1 (S.step st) (PostS.bind p1 fun d2 s2 x2 A2 B2 st2 g2 dx2 p2 => ?_)
    cases dx with
    | int i =>
      cases dx2 with
      | int j =>
        by_cases c : rngOk i ∧ rngOk j
        · simp only [if_pos c] at p2
          obtain ⟨⟨c1, c2⟩, c3, c4⟩ := c
          exact ⟨i, j, rfl, ⟨by omega, by omega, by omega, by omega⟩, for_rng hg hbb g2 (S.step (st.trans st2)) p2⟩
        · simp only [if_neg c] at p2
          exact p2.elim
      | _ => exact p2.elim
    | _ => cases dx2 <;> exact p2.elim
  lcF := by
    intro js g m tt mt ta a vs hg hv ht ha h H0 H s σ ρ Q PF hbad herr fin0 g0 S p
    have p : PF (((b ρ s).bind _).bind _) := p
    rw [R.bind_assoc] at p
    refine hb h H0 H s σ ρ _ g0 S (Post.bindF hbad herr p fun d s1 x A B st g1 dx p1 => ?_)
    rw [R.bind_assoc] at p1
    refine hb2 h A B s1 σ ρ _ g1 (S.step st) (Post.bindF hbad (fun c fs ρ s z => ErrP.step st.s0 (herr c fs ρ s z)) p1 fun d2 s2 x2 A2 B2 st2 g2 dx2 p2 => ?_)
    cases dx with
    | int i =>
      cases dx2 with
      | int j =>
        by_cases c : rngOk i ∧ rngOk j
        · simp only [if_pos c] at p2
          obtain ⟨⟨c1, c2⟩, c3, c4⟩ := c
          exact ⟨i, j, rfl, ⟨by omega, by omega, by omega, by omega⟩, fun D hD => lc_rng hbad (fin0 A2 B2 (st.trans st2)) hg hv ht ha g2 (S.step (st.trans st2)) p2 D hD⟩
        · simp only [if_neg c] at p2
          exact (hbad p2).elim
      | _ => exact (hbad p2).elim
    | _ => cases dx2 <;> exact (hbad p2).elim
end
end Mir


set_option Elab.async false
set_option linter.all false
set_option maxRecDepth 100000
namespace Mir
open PySem PySem.Spec PyProof.Rows L2
open PySem.W (Frag)

/-! ### texts: statements -/
section
variable {X : Cx} {Wx : WX} {a b c e : Expr} {ma mb : ME} {mt : MT} {as : MA} {st : Stmt} {rest sts sts2 : List Stmt} {ms mu : MS} {pos p : Pos} {es : List Expr}
theorem qss_nil : QSs X Wx [] mNext := ⟨_, pss_nil, ss_next⟩
theorem qss_cons (h1 : QS X Wx st ms) (h2 : QSs X Wx rest mu) : QSs X Wx (st :: rest) (mSeq ms mu) := by
  obtain ⟨t, p, s⟩ := h1
  obtain ⟨t2, p2, s2⟩ := h2
  exact ⟨_, pss_cons p p2, ss_seq s s2⟩
theorem qss_one (h1 : QS X Wx st ms) : QSs X Wx [st] ms := by
  obtain ⟨t, p, s⟩ := h1
  exact ⟨_, pss_one p, s⟩
theorem qs_set (i : Nat) {x : Str} {pos' : Pos} (hN : X.N.Nodup) (he : QE X Wx e ma) (hi : X.N[i]? = some x := by rfl) (hx : Loc X.env.scope x := by first | exact Or.inl rfl | exact Or.inr rfl) (hs : swapsWith e (some (.Name x pos')) pos.line X.env = pure false := by rfl)
    (hf : X.fn x = true ∨ X.env.scope.names.lookup x = some .local := by first | exact .inl rfl | exact .inr rfl) : QS X Wx (.Assign [.Name x pos'] e pos) (mSet i ma) := by
  obtain ⟨t, q, s⟩ := he
  exact ⟨_, ps_set hN hi hx q hs hf, ss_set s⟩
theorem qs_ret (he : QE X Wx e ma) : QS X Wx (.Return (some e) pos) (mRet ma) := by
  obtain ⟨t, q, s⟩ := he
  exact ⟨_, ps_ret q, ss_ret s⟩
theorem qs_retN : QS X Wx (.Return none pos) mRetN := ⟨_, ps_retN, ss_retN⟩
theorem qs_pass : QS X Wx (.Pass pos) mNext := ⟨_, ps_pass, ss_next⟩
theorem qs_break : QS X Wx (.Break pos) mBreak := ⟨_, ps_break, ss_break⟩
theorem qs_continue : QS X Wx (.Continue pos) mCont := ⟨_, ps_continue, ss_cont⟩
theorem qs_expr (he : QE X Wx e ma) (hs : swapsWith e none pos.line X.env = pure false := by rfl) : QS X Wx (.Expr e pos) (mDrop ma) := by
  obtain ⟨t, q, s⟩ := he
  exact ⟨_, ps_expr q hs, ss_drop s⟩
theorem qs_if (hc : QT X Wx c mt) (h1 : QSs X Wx sts ms) (h2 : QSs X Wx sts2 mu) : QS X Wx (.If c sts sts2 pos) (mIfS mt ms mu) := by
  obtain ⟨t, q, s⟩ := hc
  obtain ⟨t1, q1, s1⟩ := h1
  obtain ⟨t2, q2, s2⟩ := h2
  exact ⟨_, ps_if q q1 q2, ss_if s s1 s2⟩
theorem qs_par (i j : Nat) {x y : Str} {px py pt : Pos} {kt k2 pt2} (hc : X.calm = true) (hN : X.N.Nodup) (hij : i ≠ j) (ha : QA X Wx [a, b] as) (hi : X.N[i]? = some x := by rfl) (hj : X.N[j]? = some y := by rfl)
    (hx : X.env.scope.names.lookup x = some .local := by rfl) (hy : X.env.scope.names.lookup y = some .local := by rfl)
    (hw : swappedStores [.Tuple [.Name x px, .Name y py] kt pt] (.Tuple [a, b] k2 pt2) X.env = pure (some [x, y]) := by rfl)
    (hs : swapsWithSole [.Tuple [.Name x px, .Name y py] kt pt] (.Tuple [a, b] k2 pt2) pos.line X.env = pure false := by rfl) :
    QS X Wx (.Assign [.Tuple [.Name x px, .Name y py] kt pt] (.Tuple [a, b] k2 pt2) pos) (mPar i j as) := by
  obtain ⟨t, q, s⟩ := ha
  exact ⟨_, ps_par hc hN hi hj hij hx hy q hw hs, ss_par s⟩
end

/-! ### targets -/
def QG (X : Cx) (js : List Nat) (tg : Expr) (g : TG) (m : GM) : Prop := PG X tg g ∧ SG X.K X.mg js g m
def QGs (X : Cx) (js : List Nat) (tgs : List Expr) (g : TGs) (m : GMs) : Prop := PGs X tgs g ∧ SGs X.K X.mg js g m
section
variable {X : Cx} {Wx : WX} {e tg : Expr} {es : List Expr} {ma : ME} {pos : Pos} {js ks : List Nat} {g : TG} {gs : TGs} {m : GM} {ms : GMs} {iter : Expr} {body : List Stmt} {mb : MS}
theorem qg_name (j : Nat) {x : Str} (hN : X.N.Nodup) (hi : X.N[j]? = some x := by rfl) (hx : Loc X.env.scope x := by first | exact Or.inl rfl | exact Or.inr rfl) (hf : X.fn x = true ∨ X.env.scope.names.lookup x = some .local := by first | exact .inl rfl | exact .inr rfl) : QG X [j] (.Name x pos) (gName j) (gmName j) :=
  ⟨pg_name hN hi hx hf, sg_name⟩
theorem qgs_nil : QGs X [] [] gNil gmNil := ⟨pgs_nil, sgs_nil⟩
theorem qgs_cons (h1 : QG X js e g m) (h2 : QGs X ks es gs ms) (hs : (assignEach (e :: es) X.env).map (·.2) = assign e X.env :: (assignEach es X.env).map (·.2) := by rfl) : QGs X (js ++ ks) (e :: es) (gCons g gs) (gmCons m ms) :=
  ⟨pgs_cons h1.1 h2.1 hs, sgs_cons h1.2 h2.2⟩
theorem qg_seq {k : Nat} (n : Nat) (hc : X.calm = true) (h : QGs X js es gs ms) (hn : (assignEach es X.env).length = n := by rfl) (hst : (assignEach es X.env).findIdx? (·.1) = none := by rfl) : QG X js (.Tuple es k pos) (gSeq X.K n gs) (gmSeq n ms) :=
  ⟨pg_seq hc h.1 hn hst, sg_seq h.2⟩
theorem qs_asg (he : QE X Wx e ma) (hg : QG X js tg g m) (hs : swapsWithSole [tg] e pos.line X.env = pure false := by rfl) (hw : swappedStores [tg] e X.env = pure none := by rfl)
    (h1 : (assignEach [tg] X.env).map (·.2) = [assign tg X.env] := by rfl) : QS X Wx (.Assign [tg] e pos) (mAsg m ma) := by
  obtain ⟨t, q, s⟩ := he
  exact ⟨_, ps_asg q hg.1 hs hw h1, ss_asg s hg.2⟩
/-- what is walked -/
def QI (X : Cx) (Wx : WX) (iter : Expr) (mi : MA) : Prop := ∃ wi, (∀ tg, PI X tg iter wi) ∧ SI X.K X.mg Wx wi mi ∧ ∀ x, foldedSetIterable iter X.env x = pure x
variable {e2 : Expr} {ma2 : ME} {mi : MA} {p : Pos}
theorem qi_seq (hi : QE X Wx iter ma) (hs : ∀ x, foldedSetIterable iter X.env x = pure x := by intro _; rfl) : QI X Wx iter (mSeqI ma) := by
  obtain ⟨t, q, s⟩ := hi
  exact ⟨_, fun _ => pi_seq q, si_seq s, hs⟩
theorem qi_rng1 (hgr : Gl X "range") (hm : X.mg "range" = none) (hi : QE X Wx e ma) (hse : starEach [e] X.env = [(false, eval e X.env)] := by rfl) (hs : ∀ x, foldedSetIterable (.Call (.Name "range" p) [e] [] pos) X.env x = pure x := by intro _; rfl) : QI X Wx (.Call (.Name "range" p) [e] [] pos) (mRng1 ma) := by
  obtain ⟨t, q, s⟩ := hi
  exact ⟨_, fun _ => pi_range1 hgr hm (pa_cons q pa_nil hse) hse, si_rng1 s, hs⟩
theorem qi_rng2 (hgr : Gl X "range") (hm : X.mg "range" = none) (hi : QE X Wx e ma) (hi2 : QE X Wx e2 ma2) (hse : starEach [e, e2] X.env = [(false, eval e X.env), (false, eval e2 X.env)] := by rfl) (hse2 : starEach [e2] X.env = [(false, eval e2 X.env)] := by rfl)
    (hs : ∀ x, foldedSetIterable (.Call (.Name "range" p) [e, e2] [] pos) X.env x = pure x := by intro _; rfl) : QI X Wx (.Call (.Name "range" p) [e, e2] [] pos) (mRng2 ma ma2) := by
  obtain ⟨t, q, s⟩ := hi
  obtain ⟨t2, q2, s2⟩ := hi2
  exact ⟨_, fun _ => pi_range2 hgr hm (pa_cons q (pa_cons q2 pa_nil hse2) (by rw [hse, hse2])) hse hse2, si_rng2 s s2, hs⟩
theorem qs_for (hp : PassesOwn (model X.prog X.w) X.A X.env X.xe) (hc : X.calm = true) (hi : QI X Wx iter mi) (hg : QG X js tg g m) (hb : QSs X Wx body mb) : QS X Wx (.For tg iter body [] pos) (mFor m mi mb) := by
  obtain ⟨wi, q, s, hs⟩ := hi
  obtain ⟨tb, qb, sb⟩ := hb
  exact ⟨_, ps_for hp hc (q _) hg.1 qb hs, s.for_ hg.2 sb⟩
end

/-! ### comprehensions: the reading that a function itself gives -/
section
variable (K : Frag) (mg : Str → Option Value) (Wx : WX)
def cE (m : ME) : TE := fun σ H Q => ∃ (h : Ent) (H0 : Hp) (s : Hd) (ρ : Env'), G h H0 H s ∧ Slots K mg h H0 H σ ρ ∧ Post K mg h (Den K mg h.a) (m ρ s) H0 H Wx Q
def cT (m : MT) : TT := fun σ H Q => ∃ (h : Ent) (H0 : Hp) (s : Hd) (ρ : Env'), G h H0 H s ∧ Slots K mg h H0 H σ ρ ∧ Post K mg h EqB (m ρ s) H0 H Wx Q
def cS (m : MS) : TS := fun D σ H => ∃ (h : Ent) (H0 : Hp) (s : Hd) (ρ : Env'), G h H0 H s ∧ Slots K mg h H0 H σ ρ ∧ PostS K mg h (m ρ s) H0 H Wx D
end
section
variable {K : Frag} {mg : Str → Option Value} {X : Cx} {Wx : WX} {e : Expr} {sts : List Stmt} {ma : ME} {mt : MT} {ms : MS}
theorem se_cE : SE K mg Wx (cE K mg Wx ma) ma := fun h H0 H s σ ρ Q g S p => ⟨h, H0, s, ρ, g, S, p⟩
theorem st_cT : ST K mg Wx (cT K mg Wx mt) mt := fun h H0 H s σ ρ Q g S p => ⟨h, H0, s, ρ, g, S, p⟩
theorem ss_cS : SS K mg Wx (cS K mg Wx ms) ms := fun h H0 H s σ ρ Q g S p => ⟨h, H0, s, ρ, g, S, p⟩
theorem QE.can (q : QE X Wx e ma) : PE X e (cE X.K X.mg Wx ma) := by
  obtain ⟨t, p, s⟩ := q
  exact ⟨fun pins sh σ H Q I ⟨h, H0, s', ρ, g, S, w⟩ => p.run pins sh σ H Q I (s h H0 H s' σ ρ Q g S w)⟩
theorem QT.can (q : QT X Wx e mt) : PT X e (cT X.K X.mg Wx mt) := by
  obtain ⟨t, p, s⟩ := q
  exact ⟨fun pins sh σ H Q I ⟨h, H0, s', ρ, g, S, w⟩ => p.run pins sh σ H Q I (s h H0 H s' σ ρ Q g S w)⟩
theorem QSs.can (q : QSs X Wx sts ms) : PSs X sts (cS X.K X.mg Wx ms) := by
  obtain ⟨t, p, s⟩ := q
  exact ⟨fun pins sh σ H D I ⟨h, H0, s', ρ, g, S, w⟩ => p.run pins sh σ H D I (s h H0 H s' σ ρ D g S w)⟩
end
section
variable {X : Cx} {Wx : WX} {elt tg iter e2 : Expr} {scope : Scope} {own : List (Str × Nat)} {pos p pos2 : Pos} {g : TG} {m : GM} {js : List Nat} {ifs : List Expr} {mt : MT} {ma mb mb2 : ME}
/-- the tests of a clause -/
def QTs (X : Cx) (ifs : List Expr) (mt : MT) : Prop := (ifs = [] ∧ mt = mYes) ∨ ∃ c, ifs = [c] ∧ QT X WF c mt
theorem qts_nil : QTs X [] mYes := .inl ⟨rfl, rfl⟩
theorem qts_one {c : Expr} (h : QT X WF c mt) : QTs X [c] mt := .inr ⟨c, rfl, h⟩
theorem QTs.can (q : QTs X ifs mt) : PTs X ifs (cT X.K X.mg WF mt) := by
  rcases q with ⟨rfl, rfl⟩ | ⟨c, rfl, q⟩
  · exact ⟨fun pins sh σ H Q I ⟨h, H0, s', ρ, g, S, w⟩ => pts_nil.run pins sh σ H Q I (w true H0 H (.refl _ _) g rfl)⟩
  · exact pts_one q.can
theorem qe_lc {mi : MA} {vs : List Nat} (hc : X.calm = true) (hN : X.N.Nodup) (hi : QI X Wx iter mi) (ok : BlkOk X.N X.env.scope scope own) (hvs : own.map (·.2) = vs) (hv : ∀ j ∈ js, j ∈ vs) (hsg : SG X.K X.mg js g m)
    (hg : ∀ (s : Shared) (H : Hp) (C : Addr) (cl : List (Str × Addr)) (fp : List Addr), PG (X.blk s H scope (compEnvC scope cl C X.env) fp) tg g)
    (ht : ∀ (s : Shared) (H : Hp) (C : Addr) (cl : List (Str × Addr)) (fp : List Addr), QTs (X.blk s H scope (compEnvC scope cl C X.env) fp) ifs mt)
    (he : ∀ (s : Shared) (H : Hp) (C : Addr) (cl : List (Str × Addr)) (fp : List Addr), QE (X.blk s H scope (compEnvC scope cl C X.env) fp) WF elt ma) :
    QE X Wx (.ListComp elt [⟨tg, iter, ifs, 0⟩] scope pos) (mLc m mi mt ma vs) := by
  subst hvs
  obtain ⟨wi, q, s, hs⟩ := hi
  exact ⟨_, pe_lc hc hN (q _) ok hg (fun s H C cl fp => (ht s H C cl fp).can) (fun s H C cl fp => (he s H C cl fp).can) hs, s.lc hsg hv st_cT se_cE⟩
/-- name = [..] -/
theorem qs_setLc {mi : MA} {vs : List Nat} (i : Nat) {y : Str} {py spos : Pos} (hc : X.calm = true) (hN : X.N.Nodup) (hi : QI X Wx iter mi) (ok : BlkOk X.N X.env.scope scope own) (hvs : own.map (·.2) = vs) (hv : ∀ j ∈ js, j ∈ vs) (hsg : SG X.K X.mg js g m)
    (hg : ∀ (s : Shared) (H : Hp) (C : Addr) (cl : List (Str × Addr)) (fp : List Addr), PG (X.blk s H scope (compEnvC scope cl C X.env) fp) tg g)
    (ht : ∀ (s : Shared) (H : Hp) (C : Addr) (cl : List (Str × Addr)) (fp : List Addr), QTs (X.blk s H scope (compEnvC scope cl C X.env) fp) ifs mt)
    (he : ∀ (s : Shared) (H : Hp) (C : Addr) (cl : List (Str × Addr)) (fp : List Addr), QE (X.blk s H scope (compEnvC scope cl C X.env) fp) WF elt ma)
    (hy : X.N[i]? = some y := by rfl) (hyl : X.env.scope.names.lookup y = some .local := by rfl) (hsw : swapsWith (.ListComp elt [⟨tg, iter, ifs, 0⟩] scope pos) (some (.Name y py)) spos.line X.env = pure true := by exact sw_true rfl rfl rfl (by decide +kernel)) :
    QS X Wx (.Assign [.Name y py] (.ListComp elt [⟨tg, iter, ifs, 0⟩] scope pos) spos) (mSet i (mLc m mi mt ma vs)) := by
  subst hvs
  obtain ⟨wi, q, s, hs⟩ := hi
  exact ⟨_, ps_setLc hc hN hy hyl hsw (q _) ok hg (fun s H C cl fp => (ht s H C cl fp).can) (fun s H C cl fp => (he s H C cl fp).can) hs, ss_set (s.lc hsg hv st_cT se_cE)⟩
end
end Mir


set_option Elab.async false
set_option linter.all false
set_option maxRecDepth 100000
namespace Mir
open PySem PySem.Spec PyProof.Rows L2
open PySem.W (Frag)

/-! ### defs -/
def startE (n : Nat) (ds : List Dt) : Env' := ds.map .dat ++ List.replicate (n - ds.length) .no
def mDef (n : Nat) (ms : MS) : List Dt → Hd → R Dt := fun ds s => match ms (startE n ds) s with
  | .ok (.nx _) s' => .ok .non s'
  | .ok (.rt d) s' => .ok d s'
  | .err c fs ρ s' => .err c fs ρ s'
  | _ => .bad
section
variable {K : Frag} {mg : Str → Option Value}
theorem slots_start {h : Ent} {H0 H : Hp} {N : List Str} {vs : List V} {ds : List Dt} (st : Step h.a h.E0 h.E H0 H) (da : DenA K mg h.a H0 vs ds) : Slots K mg h H0 H (L2.start N vs) (startE N.length ds) := by
  have l := da.len
  unfold L2.start startE
  have own : ∀ (i : Nat) (b : Sl), (ds.map Sl.dat ++ List.replicate (N.length - ds.length) Sl.no)[i]? = some b → b.mine = true → False := fun i b z m => by
    by_cases hi : i < ds.length
    · rw [List.getElem?_append_left (by rw [List.length_map]; exact hi), List.getElem?_map, List.getElem?_eq_getElem hi] at z
      cases z
      cases m
    · rw [List.getElem?_append_right (by rw [List.length_map]; omega), List.getElem?_replicate] at z
      split at z <;> cases z
      cases m
  refine ⟨by simp [l], fun i o sl a b => ?_, fun i j p x y e1 e2 m1 _ _ _ => (own i x e1 m1).elim, st⟩
  by_cases hi : i < ds.length
  · rw [List.getElem?_append_left (by rw [List.length_map]; omega), List.getElem?_map] at a
    rw [List.getElem?_append_left (by rw [List.length_map]; exact hi), List.getElem?_map, List.getElem?_eq_getElem hi] at b
    cases b
    obtain ⟨v, e1, e2⟩ := da.get (List.getElem?_eq_getElem hi)
    rw [e1] at a
    cases a
    exact e2
  · rw [List.getElem?_append_right (by rw [List.length_map]; omega), List.getElem?_replicate] at b
    split at b
    · cases b
      cases o <;> exact True.intro
    · cases b
theorem postS_of {h : Ent} {r : R Fl} {H0 H : Hp} {Q : VK} {E : XK} (p : PostC K mg h.a (match r with
    | .ok (.nx _) s' => .ok .non s'
    | .ok (.rt d) s' => .ok d s'
    | .err c fs ρ s' => .err c fs ρ s'
    | _ => .bad) h.E0 h.E E Q) : PostS K mg h r H0 H (fun c d _ H' => E c d H') { nx := fun _ H' => Q .non H', rt := Q } := by
  cases r with
  | ok f s =>
    cases f with
    | nx ρ => exact fun σ' A B st g S => p .non A B S.st g .non
    | rt d => exact p
    | bk ρ => exact p.elim
    | ct ρ => exact p.elim
  | err c fs ρ s => exact fun σ' C od A B st g S mc x => p C od A B S.st g mc x
  | bad => exact p
end
section
variable {P : Program} {w : World} {K : Frag} {mg : Str → Option Value} {base : Heap} {x qual : Str} {st : Stmt} {f : Addr} {fd : FuncData} {N ps : List Str} {k : Nat} {ms : MS}
abbrev cxD (P : Program) (w : World) (K : Frag) (mg : Str → Option Value) (base : Heap) (N : List Str) (qual : Str) (scope : Scope) (f : Addr) (cd : Value) (A : Around) (outer : List Env) (s : Shared) (H : Hp) (E : XK) : Cx := cxOf (L2.CX P w) P w K mg base N qual scope f cd A outer s H E
abbrev wE (E : XK) : WX := fun c d _ H => E c d H
theorem cx_takes {scope : Scope} {cdv : Value} {A : Around} {outer : List Env} {s : Shared} {H : Hp} {E : XK} : Takes (cxD P w K mg base N qual scope f cdv A outer s H E) (wE E) := takes_of rfl rfl rfl rfl
theorem cx_pass {scope : Scope} {cdv : Value} {A : Around} {outer : List Env} {s : Shared} {H : Hp} {E : XK} : PassesOwn (model (cxD P w K mg base N qual scope f cdv A outer s H E).prog (cxD P w K mg base N qual scope f cdv A outer s H E).w) (cxD P w K mg base N qual scope f cdv A outer s H E).A (cxD P w K mg base N qual scope f cdv A outer s H E).env (cxD P w K mg base N qual scope f cdv A outer s H E).xe := passes_of rfl
/-- a def follows its function -/
theorem okM {n nn : Nat} (F : Fun K x qual st f fd) (S : FnScope N ps (defScope st)) (hn : ps.length = n) (hN : N.length = nn)
    (hb : ∀ (cdv : Value) (A : Around) (outer : List Env) (s : Shared) (H : Hp) (E : XK), Room k (A.deeper (envOfC qual (defScope st) s.heap.objs.size f cdv)) → QSs (cxD P w K mg base N qual (defScope st) f cdv A outer s H E) (wE E) (defBody st) ms) :
    FnOk P w K mg base (L2.CX P w) (k + 1) f fd ps (spM K mg n (mDef nn ms)) := by
  subst hn
  subst hN
  refine F.okX S (fun vs H Q E h => h.1) (fun cdv A outer s H vs Q E hr h => ?_)
  obtain ⟨hl, hh, H0, s', ds, g, da, p⟩ := h
  obtain ⟨ts, q, ss⟩ := hb cdv A outer s H E hr
  exact ⟨ts, q, ss ⟨hh, H0, H, hh⟩ H0 H s' _ _ _ g (slots_start (.refl _ _) da) (postS_of (h := ⟨hh, H0, H, hh⟩) p)⟩
theorem okMD {n nn : Nat} {params : Arguments} {body : List Stmt} {scope : Scope} {dvs : List V} (F : FunD K x qual params body scope dvs [] f fd) (S : FnScope N ps scope) (hn : ps.length = n) (hN : N.length = nn)
    (hb : ∀ (cdv : Value) (A : Around) (outer : List Env) (s : Shared) (H : Hp) (E : XK), Room k (A.deeper (envOfC qual scope s.heap.objs.size f cdv)) → QSs (cxD P w K mg base N qual scope f cdv A outer s H E) (wE E) body ms) :
    FnOk P w K mg base (L2.CX P w) (k + 1) f fd ps (spM K mg n (mDef nn ms)) := by
  subst hn
  subst hN
  refine F.ok S (fun vs H Q E h => h.1) (fun cdv A outer s H vs Q E hr h => ?_)
  obtain ⟨hl, hh, H0, s', ds, g, da, p⟩ := h
  obtain ⟨ts, q, ss⟩ := hb cdv A outer s H E hr
  exact ⟨ts, q, ss ⟨hh, H0, H, hh⟩ H0 H s' _ _ _ g (slots_start (.refl _ _) da) (postS_of (h := ⟨hh, H0, H, hh⟩) p)⟩
end

/-! ### raise: an own error that keeps its arguments -/
/-- what __init__ of such a class promises -/
def spI (K : Frag) (names : List Str) : Sp := fun vs H Q E => ∃ (a C : Addr) (ws : List V), vs = .ref a :: ws ∧ ws.length = names.length ∧ H a = some (exo a C none) ∧ OexC K C ∧ (∀ f ∈ names, PySem.W.findIn K (.ref C) f = some none) ∧
  ∀ d : Addr, H d = none → d ≠ a → Q .non (upd (upd H d (exd d (names.zip ws).reverse)) a (exo a C (some d)))
/-- what the text knows of the class named c -/
structure ExC (X : Cx) (c : Str) (names : List Str) (C : Addr) : Prop where
  m : X.mg c = some (.ref C)
  ox : OexC X.K C
  no : ∀ f ∈ names, PySem.W.findIn X.K (.ref C) f = some none
def mRaise (c : Str) (names : List Str) (as : MA) : MS := fun ρ s => (as ρ s).bind fun ds s1 => if ds.length = names.length ∧ names.length ≤ 100 ∧ 0 < names.length then .err c (names.zip ds).reverse ρ s1 else .bad
section
variable {K : Frag} {mg : Str → Option Value} {h : Addr} {H : Hp}
theorem DenF.app : ∀ {a b : List (Str × V)} {c d : List (Str × Dt)}, DenF K mg h H a c → DenF K mg h H b d → DenF K mg h H (a ++ b) (c ++ d)
  | _, _, _, _, .nil, s => s
  | _, _, _, _, .cons r t, s => .cons r (DenF.app t s)
theorem DenF.zipR : ∀ {vs : List V} {ds : List Dt} (names : List Str), DenA K mg h H vs ds → DenF K mg h H (names.zip vs).reverse (names.zip ds).reverse
  | _, _, [], _ => by
    rw [List.zip_nil_left, List.zip_nil_left]
    exact .nil
  | _, _, _ :: _, .nil => .nil
  | _, _, n :: ns, .cons q r => by
    rw [List.zip_cons_cons, List.zip_cons_cons, List.reverse_cons, List.reverse_cons]
    exact DenF.app (DenF.zipR ns r) (.cons q .nil)
theorem DenF.look {f : Str} {d : Dt} : ∀ {fv : List (Str × V)} {fs : List (Str × Dt)}, DenF K mg h H fv fs → fs.lookup f = some d → ∃ v, fv.lookup f = some v ∧ Den K mg h H v d
  | _, _, .nil, e => by cases e
  | _, _, @DenF.cons _ _ _ _ n v vs d' ds q r, e => by
    by_cases c : f = n
    · subst c
      simp only [List.lookup, beq_self_eq_true] at e ⊢
      cases e
      exact ⟨v, rfl, q⟩
    · have c' : (f == n) = false := by simpa using c
      simp only [List.lookup, c'] at e ⊢
      exact DenF.look r e
end
section
variable {X : Cx} {Wx : WX} {e : Expr} {es : List Expr} {c : Str} {p pos pos2 : Pos} {as : MA}
theorem qs_raise {names : List Str} {C fI : Addr} {k : Nat} {fd : FuncData} {ps : List Str} (hc : X.calm = true) (tk : Takes X Wx) (T : ExC X c names C) (iC : PySem.W.findIn X.K (.ref C) "__init__" = some (some (.ref fI))) (tI : PySem.W.typeIn X.K (.ref fI) = some (.type "function"))
    (F1 : FnOk X.prog X.w X.K X.mg X.base (L2.CX X.prog X.w) k fI fd ps (spI X.K names)) (hr : Room (k + 1) X.A) (hb : Binds X.K fd ps []) (hg : Gl X c) (ha : QA X Wx (e :: es) as)
    (hdb : (c == ("__debug__" : Str)) = false := by decide) (he : starEach (e :: es) X.env = (false, eval e X.env) :: starEach es X.env := by rfl) (hpl : (backTo pos (starEach es X.env)).any (·.1) = false := by rfl) :
    QS X Wx (.Raise (some (.Call (.Name c p) (e :: es) [] pos)) none pos2) (mRaise c names as) := by
  obtain ⟨t, q, sa⟩ := ha
  refine ⟨_, ps_raise hc tk (pmk_oex T.ox iC tI F1 hr hb .nil passL hg T.m q hdb he hpl), ?_⟩
  intro h H0 H s σ ρ D g S pp
  show t σ H _
  refine sa h H0 H s σ ρ _ g S (PostS.bind pp fun ds s1 xs A B st g1 dx p1 => ?_)
  by_cases cc : ds.length = names.length ∧ names.length ≤ 100 ∧ 0 < names.length
  · rw [if_pos cc] at p1
    have l := dx.len
    refine ⟨by omega, fun a na => ⟨a, C, xs ++ [], rfl, by rw [List.append_nil]; omega, upd_same, T.ox, T.no, fun d hd nd => ?_⟩⟩
    rw [List.append_nil]
    have hd0 : B d = none := by rwa [upd_ne nd] at hd
    refine ⟨rfl, d, _, upd_same, by rw [upd_ne nd]; exact upd_same, hd0, ?_⟩
    have eq : upd (del (upd (upd (upd B a (exo a C none)) d (exd d (names.zip xs).reverse)) a (exo a C (some d))) a) d (.xd (names.zip xs).reverse) = upd B d (.xd (names.zip xs).reverse) := by
      funext b
      by_cases e1 : b = d
      · subst e1
        rw [upd_same, upd_same]
      · rw [upd_ne e1, upd_ne e1]
        by_cases e2 : b = a
        · subst e2
          rw [del_same, na]
        · rw [del_ne e2, upd_ne e2, upd_ne e1, upd_ne e2]
    rw [eq]
    obtain ⟨g2, st2⟩ := g1.side (o := .xd (names.zip xs).reverse) hd0
    have nz : (names.zip ds).reverse ≠ [] := fun z => by
      have z := congrArg List.length z
      rw [List.length_reverse, List.length_zip] at z
      have z : min names.length ds.length = 0 := z
      omega
    exact p1 σ C (some d) A _ st2.s0 g2 ((S.step st).step st2) T.m ⟨nz, _, upd_same, DenF.zipR names dx⟩
  · rw [if_neg cc] at p1
    exact p1.elim
end

theorem visP {N P : List Str} {sc : Scope} (S : FnScope N P sc) {x : Str} (m : x ∈ P) : Vis sc x := (S.par x m).elim .inl fun z => .inr (.inl z)
/-! ### __init__ of such a class, one and two fields -/
section
variable {P : Program} {w : World} {K : Frag} {mg : Str → Option Value} {base : Heap} {qual f1 f2 f3 : Str} {st : Stmt} {f : Addr} {fd : FuncData}
theorem init1 {p1 p2 p3 p4 : Pos} (F : Fun K "__init__" qual st f fd) (S : FnScope ["self", f1] ["self", f1] (defScope st)) (hb : defBody st = [.Assign [.Attribute (.Name "self" p1) f1 p2] (.Name f1 p3) p4])
    (hdb : (f1 == ("__debug__" : Str)) = false := by decide) (hcd : (f1 == ("__classdict__" : Str)) = false := by decide) : FnOk P w K mg base (L2.CX P w) 1 f fd ["self", f1] (spI K [f1]) := by
  refine F.okX S (fun vs H Q E h => ?_) (fun cdv A outer s H vs Q E hr h => ?_)
  · obtain ⟨a, C, ws, rfl, l, _⟩ := h
    show ws.length + 1 = 2
    rw [l]
    rfl
  · obtain ⟨a, C, ws, rfl, l, ha, T, no, q⟩ := h
    obtain ⟨y, rfl⟩ : ∃ y, ws = [y] := by
      match ws, l with
      | [y], _ => exact ⟨y, rfl⟩
    rw [hb]
    have v0 : Vis (defScope st) "self" := visP S List.mem_cons_self
    have v1 : Vis (defScope st) f1 := visP S (List.mem_cons_of_mem _ List.mem_cons_self)
    refine ⟨_, pss_one (ps_ost (pe_var (i := 0) rfl v0) (pe_var (i := 1) rfl v1 hdb hcd)), ?_⟩
    exact ⟨y, rfl, .ref a, rfl, a, C, rfl, T, no f1 List.mem_cons_self, .inl ⟨ha, fun dx hd nd => q dx hd nd⟩⟩
theorem init2 {p1 p2 p3 p4 q1 q2 q3 q4 : Pos} (F : Fun K "__init__" qual st f fd) (S : FnScope ["self", f1, f2] ["self", f1, f2] (defScope st))
    (hb : defBody st = [.Assign [.Attribute (.Name "self" p1) f1 p2] (.Name f1 p3) p4, .Assign [.Attribute (.Name "self" q1) f2 q2] (.Name f2 q3) q4])
    (hdb : (f1 == ("__debug__" : Str)) = false := by decide) (hcd : (f1 == ("__classdict__" : Str)) = false := by decide) (hdb2 : (f2 == ("__debug__" : Str)) = false := by decide) (hcd2 : (f2 == ("__classdict__" : Str)) = false := by decide) : FnOk P w K mg base (L2.CX P w) 1 f fd ["self", f1, f2] (spI K [f1, f2]) := by
  refine F.okX S (fun vs H Q E h => ?_) (fun cdv A outer s H vs Q E hr h => ?_)
  · obtain ⟨a, C, ws, rfl, l, _⟩ := h
    show ws.length + 1 = 3
    rw [l]
    rfl
  · obtain ⟨a, C, ws, rfl, l, ha, T, no, q⟩ := h
    obtain ⟨y, z, rfl⟩ : ∃ y z, ws = [y, z] := by
      match ws, l with
      | [y, z], _ => exact ⟨y, z, rfl⟩
    rw [hb]
    have v0 : Vis (defScope st) "self" := visP S List.mem_cons_self
    have v1 : Vis (defScope st) f1 := visP S (List.mem_cons_of_mem _ List.mem_cons_self)
    have v2 : Vis (defScope st) f2 := visP S (List.mem_cons_of_mem _ (List.mem_cons_of_mem _ List.mem_cons_self))
    refine ⟨_, pss_cons (ps_ost (pe_var (i := 0) rfl v0) (pe_var (i := 1) rfl v1 hdb hcd)) (pss_one (ps_ost (pe_var (i := 0) rfl v0) (pe_var (i := 2) rfl v2 hdb2 hcd2))), ?_⟩
    refine ⟨y, rfl, .ref a, rfl, a, C, rfl, T, no f1 List.mem_cons_self, .inl ⟨ha, fun dx hd nd => ?_⟩⟩
    refine ⟨z, rfl, .ref a, rfl, a, C, rfl, T, no f2 (List.mem_cons_of_mem _ List.mem_cons_self), .inr ⟨dx, [(f1, y)], upd_same, by rw [upd_ne nd]; exact upd_same, (show 1 ≤ 900 by decide), ?_⟩⟩
    have eq : upd (upd (upd H dx (exd dx [(f1, y)])) a (exo a C (some dx))) dx (exd dx [(f2, z), (f1, y)]) = upd (upd H dx (exd dx [(f2, z), (f1, y)])) a (exo a C (some dx)) := by
      funext b
      by_cases e1 : b = dx
      · subst e1
        rw [upd_same, upd_ne nd, upd_same]
      · rw [upd_ne e1]
        by_cases e2 : b = a
        · subst e2
          rw [upd_same, upd_same]
        · rw [upd_ne e2, upd_ne e2, upd_ne e1, upd_ne e1]
    show Q .non _
    rw [eq]
    exact q dx hd nd
end
end Mir


set_option Elab.async false
set_option linter.all false
set_option maxRecDepth 100000
namespace Mir
open PySem PySem.Spec PyProof.Rows L2
open PySem.W (Frag)

/-! ### the hand: how it is made -/
def hAdd : R2 := rI0 fun i j => .int (i + j)
def hMul : R2 := rI CMul fun i j => .int (i * j)
def hMod : R2 := rI (fun _ j => 0 < j) fun i j => .int (i % j)
def hDiv : R2 := rI CDiv fun i j => .int (i / j)
def hDivW : R2 := rI CDivW fun i j => .int (i / j)
def hPow : R2 := rI CPow fun i j => .int (i ^ j.toNat)
def hGe : R2 := rI0 fun i j => .bl (decide (j ≤ i))
def cInt : List V → Hp → VK → Prop := fun xs H Q => (∃ i, xs = [.int i] ∧ Q (.int i) H) ∨ ∃ k, xs = [.bl k] ∧ Q (.int (if k then 1 else 0)) H
def cAbs : List V → Hp → VK → Prop := fun xs H Q => ∃ i, xs = [.int i] ∧ Q (.int (if i < 0 then -i else i)) H
def t1 (r : List V → Hp → VK → Prop) (t : TE) : TE := tCB r (tCons t tNil)
def tI (i : Int) : TE := tC (.int i)
def tHandTurn (K : Frag) : TS :=
  tSeq (tAsg (t1 cAbs (t1 cInt (tVar 3))) (gName 4))
    (tSeq (tAsg (tOp hAdd (tOp hMod (t1 cInt (tOp hAdd (tOp hMul (tVar 2) (tI 31337)) (tVar 4))) (tI 2147483629)) (tI 1)) (gName 2))
      (tIfS (tTest (tOp hGe (tVar 4) (tOp hPow (tI 10) (tI 18)))) (tDrop (tBM K "list" rAppend (tVar 1) (tCons (tVar 4) tNil))) tNext))
def tHand (K : Frag) : TS :=
  tSeq (tAsg (tLst tNil) (gName 1)) (tSeq (tAsg (tOp hAdd (t1 (rLenA K) (tVar 0)) (tI 7)) (gName 2))
    (tSeq (tFor (iList K (tVar 0)) (gName 3) (tHandTurn K)) (tRet (tLst (tCons (tVar 1) (tCons (tVar 2) (tCons (tI 0) tNil)))))))
def spHand (K : Frag) : Sp := fun vs H Q _ => ∃ (a : Addr) (ns : List Int), vs = [.ref a] ∧ SqL K H a (ns.map V.int) ∧ ns.length ≤ 63 ∧
  ∀ (h gl : Addr) (g : List Int) (m : Int) (H' : Hp), Same H H' → H h = none → H gl = none → gl ≠ h → H' h = some (.lst [.ref gl, .int m, .int 0]) → H' gl = some (.lst (g.map V.int)) → Q (.ref h) H'
theorem pow18 : CPow 10 18 := ⟨by decide, by decide, by decide⟩
theorem hand_run {K : Frag} {vs : List V} {H : Hp} {Q : VK} {E : XK} (hh : spHand K vs H Q E) : tHand K { nx := fun _ H' => Q .non H', rt := Q } (vs.map some ++ [none, none, none, none]) H := by
  obtain ⟨a, ns, rfl, hS, hl, q⟩ := hh
  refine ⟨Nat.zero_le _, fun gl hgl => ?_⟩
  have s1 : Same H (upd H gl (.lst [])) := same_upd' hgl
  refine ⟨.ref a, rfl, .inl ⟨a, _, rfl, .inl (s1.seq hS), _, 7, rfl, rfl, ?_⟩⟩
  refine ⟨.ref a, rfl, a, rfl, ⟨_, s1.seq hS⟩, for_list (K := K) (a := a) (xs := ns.map V.int) (fun i σ H' => ∃ (g : List Int) (m : Int) (y z : Option V), σ = [some (.ref a), some (.ref gl), some (.int m), y, z] ∧ Same H H' ∧ H' gl = some (.lst (g.map V.int)) ∧ g.length ≤ i)
    ⟨[], _, none, none, rfl, s1, upd_same, Nat.le_refl _⟩ (fun i σ H' _ ⟨_, _, _, _, _, s, _⟩ => s.seq hS) ?_ ?_⟩
  · rintro i x σ H' hx ⟨g, m, y, z, rfl, s, eg, lg⟩
    have hi : i < ns.length := by
      obtain ⟨w, _⟩ := List.getElem?_eq_some_iff.mp hx
      simpa using w
    obtain ⟨n, hn⟩ : ∃ n, x = V.int n := by
      rw [List.getElem?_map, List.getElem?_eq_getElem hi] at hx
      exact ⟨_, (Option.some.inj hx).symm⟩
    subst hn
    refine ⟨_, rfl, .inl ⟨n, rfl, n, rfl, ?_⟩⟩
    generalize hz : (if n < 0 then -n else n) = k
    refine ⟨_, rfl, m, 31337, rfl, rfl, .inr ⟨by decide, by decide⟩, _, rfl, _, k, rfl, rfl, .inl ⟨_, rfl, _, 2147483629, rfl, rfl, (show (0 : Int) < 2147483629 by decide), _, 1, rfl, rfl, ?_⟩⟩
    refine ⟨_, rfl, 10, 18, rfl, rfl, pow18, k, 10 ^ 18, rfl, rfl, _, rfl, ?_⟩
    by_cases c : (10 : Int) ^ 18 ≤ k
    · rw [decide_eq_true c]
      refine iteT ⟨.ref gl, rfl, .inl ⟨rfl, _, .inl (.inl eg)⟩, .int k, rfl, gl, _, _, rfl, rfl, eg, ?_, ?_⟩
      · rw [List.length_map]
        exact small1000 (by omega)
      · refine ⟨g ++ [k], _, _, _, rfl, fun b o w => ?_, ?_, ?_⟩
        · have nb : b ≠ gl := ne_of_none w hgl
          rw [upd_ne nb]
          exact s b o w
        · rw [upd_same, List.map_append]
          rfl
        · rw [List.length_append]
          show g.length + 1 ≤ i + 1
          omega
    · rw [decide_eq_false c]
      exact iteF ⟨g, _, _, _, rfl, s, eg, by omega⟩
  · rintro σ H' ⟨g, m, y, z, rfl, s, eg, lg⟩
    refine ⟨_, rfl, _, rfl, (by show 3 ≤ sizeLine; decide), fun h nh => ?_⟩
    have n1 : gl ≠ h := ne_of_none eg nh
    refine q h gl g m _ (fun b o w => ?_) (s.free nh) hgl n1 upd_same (by rw [upd_ne n1]; exact eg)
    rw [upd_ne (ne_of_none (s b o w) nh)]
    exact s b o w

/-! ### the hand: a draw -/
def dropZ : List Int → List Int
  | [] => []
  | x :: r => if x = 0 then dropZ r else x :: r
def stM (s : Hd) : Int := (s.m * 69621 + 12345) % 2147483647
def stO (m c : Int) : Int := (m * 48271 + c * 7919) % 2147483629
def stT (o c : Int) : Int := (o * o + c * 104729 + o / 131) % 2147483587
def takeV (s : Hd) (many : Int) : Int := match dropZ s.g with
  | x :: _ => x % many
  | [] => (stT (stO (stM s) (s.c + 1)) (s.c + 1) / 17) % many
def takeS (s : Hd) (many : Int) : Hd := match dropZ s.g with
  | x :: r => ⟨(x / many) :: r, s.m, s.c⟩
  | [] => ⟨[], stM s, s.c + 1⟩
def manyOk (n : Int) : Prop := 0 < n ∧ n.natAbs.log2 < 9000
instance (n : Int) : Decidable (manyOk n) := inferInstanceAs (Decidable (_ ∧ _))
def mTake : List Dt → Hd → R Dt := fun ds s => match ds with
  | [.hnd, .int n] => if manyOk n then .ok (.int (takeV s n)) (takeS s n) else .bad
  | _ => .bad
theorem takeV_ge {s : Hd} {n : Int} (h : 0 < n) : 0 ≤ takeV s n := by
  unfold takeV
  split <;> exact Int.emod_nonneg _ (by omega)
theorem takeV_lt {s : Hd} {n : Int} (h : 0 < n) : takeV s n < n := by
  unfold takeV
  split <;> exact Int.emod_lt_of_pos _ h
/-- the hand changed, nothing else -/
theorem G.mut {h : Addr} {H0 H H' : Hp} {s s' : Hd} {gl gl' : Addr} (g : G h H0 H s) (e1 : H h = some (.lst [.ref gl, .int s.m, .int s.c])) (n0 : H0 gl = none) (n1 : H0 gl' = none) (n2 : gl' ≠ h)
    (e3 : H' h = some (.lst [.ref gl', .int s'.m, .int s'.c])) (e4 : H' gl' = some (.lst (s'.g.map V.int))) (k : ∀ q o, H q = some o → q ≠ h → q ≠ gl → H' q = some o) (f : gl' = gl ∨ H gl' = none) : G h H0 H' s' ∧ Step h H0 H H0 H' := by
  refine ⟨⟨fun q o w => k q o (g.ex q o w) (fun z => ?_) (fun z => ?_), g.h0, gl', n1, n2, e3, e4⟩, ⟨Same.refl _, fun q o w1 w2 w3 => ?_⟩⟩
  · rw [z, g.h0] at w
    cases w
  · rw [z, n0] at w
    cases w
  · have a1 : q ≠ h := fun z => w3 (.inl z)
    have a2 : q ≠ gl := fun z => w3 (.inr ⟨_, by rw [z]; exact e1⟩)
    refine ⟨k q o w1 a1 a2, w2, fun w => ?_⟩
    rcases w with w | ⟨r, w⟩
    · exact a1 w
    · rw [e3] at w
      have w' : q = gl' := by
        have := Option.some.inj w
        injection this with z
        injection z with z1 z2
        injection z1 with z3
        exact z3.symm
      rcases f with f | f
      · exact a2 (w'.trans f)
      · rw [w', f] at w1
        cases w1
def t0 (K : Frag) : TE := tOp (rIxL K) (tVar 0) (tI 0)
def t00 (K : Frag) : TE := tOp (rIxL K) (t0 K) (tI 0)
def tAt (K : Frag) (i : Int) : TE := tOp (rIxL K) (tVar 0) (tI i)
def tTr (K : Frag) (ta : TE) : TT := fun σ H Q => ta σ H fun x H' => ∃ k, TruV K x H' k ∧ Q k H'
def tTakeW (K : Frag) : TS := tWhile (tAnd (tTr K (t0 K)) (tTest (tOp rEq (t00 K) (tI 0)))) (tAsg (tSl (rSlL K) (t0 K) (tPart (tI 1)) tNoPart) (gSub (tVar 0) (tI 0) rSetL))
def tTakeI (K : Frag) : TS := tSeq (tAsg (t00 K) (gName 2)) (tSeq (tAsg (tOp hDivW (t1 cInt (tVar 2)) (tVar 1)) (gSub (t0 K) (tI 0) rSetL)) (tRet (tOp hMod (t1 cInt (tVar 2)) (tVar 1))))
def tTakeR (K : Frag) : TS :=
  tSeq (tAsg (tOp hAdd (tAt K 2) (tI 1)) (gSub (tVar 0) (tI 2) rSetL))
    (tSeq (tAsg (tOp hMod (t1 cInt (tOp hAdd (tOp hMul (tAt K 1) (tI 69621)) (tI 12345))) (tI 2147483647)) (gSub (tVar 0) (tI 1) rSetL))
    (tSeq (tAsg (tOp hMod (t1 cInt (tOp hAdd (tOp hMul (tAt K 1) (tI 48271)) (tOp hMul (tAt K 2) (tI 7919)))) (tI 2147483629)) (gName 3))
    (tSeq (tAsg (tOp hMod (t1 cInt (tOp hAdd (tOp hAdd (tOp hMul (tVar 3) (tVar 3)) (tOp hMul (tAt K 2) (tI 104729))) (tOp hDiv (tVar 3) (tI 131)))) (tI 2147483587)) (gName 4))
    (tRet (tOp hMod (t1 cInt (tOp hDiv (tVar 4) (tI 17))) (tVar 1))))))
def tTake (K : Frag) : TS := tSeq (tTakeW K) (tSeq (tIfS (tTr K (t0 K)) (tTakeI K) tNext) (tTakeR K))
theorem take_run {K : Frag} {mg : Str → Option Value} {vs : List V} {H : Hp} {Q : VK} {E : XK} (hh : spM K mg 2 mTake vs H Q E) : tTake K { nx := fun _ H' => Q .non H', rt := Q } (vs.map some ++ [none, none, none]) H := by
  obtain ⟨hl, h, H0, s, ds, g, da, p⟩ := hh
  -- the arguments
  obtain ⟨n, rfl, mk⟩ : ∃ n : Int, ds = [.hnd, .int n] ∧ manyOk n := by
    unfold mTake at p
    split at p
    · split at p
      · exact ⟨_, rfl, by assumption⟩
      · exact p.elim
    · exact p.elim
  obtain ⟨v, w, rfl, dv, dw⟩ := da.two
  cases dv
  cases dw
  have p : PostC K mg h (if manyOk n then .ok (.int (takeV s n)) (takeS s n) else .bad) H0 H E Q := p
  rw [if_pos mk] at p
  -- the loop
  refine ⟨fun k σ H' => ∃ gz, σ = [some (.ref h), some (.int n), none, none, none] ∧ gz.length = k ∧ dropZ gz = dropZ s.g ∧ G h H0 H' ⟨gz, s.m, s.c⟩ ∧ Step h H0 H H0 H', ⟨_, s.g, rfl, rfl, rfl, g, .refl _ _⟩, ?_⟩
  rintro k σ H' ⟨gz, rfl, hk, hz, g1, st1⟩
  obtain ⟨gl, a1, a2, a3, a4⟩ := g1.gl
  have eh : SqL K H' h [.ref gl, .int s.m, .int s.c] := SqL.of a3
  have eg : SqL K H' gl (gz.map V.int) := SqL.of a4
  have x0 : atI [V.ref gl, .int s.m, .int s.c] 0 = some (.ref gl) := rfl
  refine ⟨.ref h, rfl, h, _, 0, _, rfl, rfl, eh, x0, ?_⟩
  cases gz with
  | nil =>
    refine ⟨false, .inl ⟨_, eg, rfl⟩, ?_⟩
    refine iteF (iteF ?_)
    -- nothing great is left
    refine ⟨.ref h, rfl, h, _, 0, _, rfl, rfl, eh, x0, false, .inl ⟨_, eg, rfl⟩, iteF ?_⟩
    have hz : dropZ s.g = [] := hz.symm
    refine ⟨.ref h, rfl, h, _, 2, .int s.c, rfl, rfl, eh, rfl, s.c, 1, rfl, rfl, .ref h, rfl, h, _, 2, 2, rfl, rfl, a3, rfl, ?_⟩
    have b3 : (upd H' h (.lst [.ref gl, .int s.m, .int (s.c + 1)])) h = some (.lst [.ref gl, .int s.m, .int (s.c + 1)]) := upd_same
    refine ⟨.ref h, rfl, h, [.ref gl, .int s.m, .int (s.c + 1)], 1, .int s.m, rfl, rfl, SqL.of b3, rfl, s.m, 69621, rfl, rfl, .inr ⟨by decide, by decide⟩, _, 12345, rfl, rfl, .inl ⟨_, rfl, _, 2147483647, rfl, rfl, (show (0 : Int) < 2147483647 by decide), .ref h, rfl, h, _, 1, 1, rfl, rfl, b3, rfl, ?_⟩⟩
    have c3 : (upd (upd H' h (.lst [.ref gl, .int s.m, .int (s.c + 1)])) h (.lst [.ref gl, .int (stM s), .int (s.c + 1)])) h = some (.lst [.ref gl, .int (stM s), .int (s.c + 1)]) := upd_same
    have c4 : SqL K (upd (upd H' h (.lst [.ref gl, .int s.m, .int (s.c + 1)])) h (.lst [.ref gl, .int (stM s), .int (s.c + 1)])) h [.ref gl, .int (stM s), .int (s.c + 1)] := SqL.of c3
    refine ⟨.ref h, rfl, h, _, 1, .int (stM s), rfl, rfl, c4, rfl, stM s, 48271, rfl, rfl, .inr ⟨by decide, by decide⟩, .ref h, rfl, h, _, 2, .int (s.c + 1), rfl, rfl, c4, rfl, s.c + 1, 7919, rfl, rfl, .inr ⟨by decide, by decide⟩, _, _, rfl, rfl, .inl ⟨_, rfl, _, 2147483629, rfl, rfl, (show (0 : Int) < 2147483629 by decide), ?_⟩⟩
    have ob : 0 ≤ stO (stM s) (s.c + 1) ∧ stO (stM s) (s.c + 1) < 2147483629 := ⟨Int.emod_nonneg _ (by decide), Int.emod_lt_of_pos _ (by decide)⟩
    refine ⟨_, rfl, _, rfl, stO (stM s) (s.c + 1), stO (stM s) (s.c + 1), rfl, rfl, .inl ⟨by omega, by omega⟩, .ref h, rfl, h, _, 2, .int (s.c + 1), rfl, rfl, c4, rfl, s.c + 1, 104729, rfl, rfl, .inr ⟨by decide, by decide⟩, _, _, rfl, rfl,
      _, rfl, stO (stM s) (s.c + 1), 131, rfl, rfl, ⟨by decide, by decide⟩, _, _, rfl, rfl, .inl ⟨_, rfl, _, 2147483587, rfl, rfl, (show (0 : Int) < 2147483587 by decide), ?_⟩⟩
    refine ⟨_, rfl, stT (stO (stM s) (s.c + 1)) (s.c + 1), 17, rfl, rfl, ⟨by decide, by decide⟩, .inl ⟨_, rfl, _, rfl, _, n, rfl, rfl, mk.1, ?_⟩⟩
    have ng : gl ≠ h := a2
    obtain ⟨g2, st2⟩ := g1.mut (s' := ⟨[], stM s, s.c + 1⟩) (gl' := gl) a3 a1 a1 ng c3 (by rw [upd_ne ng, upd_ne ng]; exact a4) (fun q o w w1 w2 => by rw [upd_ne w1, upd_ne w1]; exact w) (.inl rfl)
    have ev : takeV s n = (stT (stO (stM s) (s.c + 1)) (s.c + 1) / 17) % n := by
      unfold takeV
      rw [hz]
    have es : takeS s n = ⟨[], stM s, s.c + 1⟩ := by
      unfold takeS
      rw [hz]
    have p : ∀ v H0' H', Step h H0 H H0' H' → G h H0' H' (takeS s n) → Den K mg h H0' v (.int (takeV s n)) → Q v H' := p
    rw [es, ev] at p
    exact p _ H0 _ (st1.trans st2) g2 (.int _)
  | cons z gr =>
    refine ⟨true, .inl ⟨_, eg, rfl⟩, iteT ?_⟩
    have ix0 : ixN ((z :: gr).map V.int).length 0 = some 0 := by
      unfold ixN
      rw [if_pos (by decide), if_pos (by rw [List.length_map, List.length_cons]; omega)]
      rfl
    have y0 : atI (((z :: gr).map V.int)) 0 = some (.int z) := atI_nat (j := 0) rfl
    refine ⟨.ref h, rfl, h, _, 0, _, rfl, rfl, eh, x0, gl, _, 0, _, rfl, rfl, eg, y0, rfl, _, rfl, ?_⟩
    by_cases cz : z = 0
    · subst cz
      rw [decide_eq_true rfl]
      refine iteT ⟨fun σ' H'' => ∃ k', k' < k ∧ ∃ gz, σ' = [some (.ref h), some (.int n), none, none, none] ∧ gz.length = k' ∧ dropZ gz = dropZ s.g ∧ G h H0 H'' ⟨gz, s.m, s.c⟩ ∧ Step h H0 H H0 H'', fun _ _ w => w, ?_⟩
      refine ⟨.ref h, rfl, h, _, 0, _, rfl, rfl, eh, x0, 1, rfl, gl, _, rfl, eg, fun q nq => ?_⟩
      have cut : cutV ((0 :: gr).map V.int) (some 1) none = gr.map V.int := by
        unfold cutV
        rw [show HT.sIx ((0 :: gr).map V.int).length 0 (some 1) = min 1 ((0 :: gr).map V.int).length from HT.sIx_nat _ 0 1, HT.sIx_none]
        simp
        exact List.take_of_length_le (by rw [List.length_map]; exact Nat.le_refl _)
      rw [cut]
      have nh : h ≠ q := ne_of_none a3 nq
      have ngq : gl ≠ q := ne_of_none a4 nq
      refine ⟨.ref h, rfl, h, [.ref gl, .int s.m, .int s.c], 0, 0, rfl, rfl, by rw [upd_ne nh]; exact a3, rfl, ?_⟩
      have nq0 : H0 q = none := g1.ex.free nq
      obtain ⟨g2, st2⟩ := g1.mut (s' := ⟨gr, s.m, s.c⟩) (gl' := q) (H' := upd (upd H' q (.lst (gr.map V.int))) h (.lst [.ref q, .int s.m, .int s.c])) a3 a1 nq0 (Ne.symm nh) upd_same (by rw [upd_ne (Ne.symm nh), upd_same])
        (fun b o w w1 w2 => by rw [upd_ne w1, upd_ne (ne_of_none w nq)]; exact w) (.inr nq)
      have hz' : dropZ gr = dropZ s.g := by
        rw [← hz]
        show _ = if (0 : Int) = 0 then dropZ gr else _
        rw [if_pos rfl]
      exact ⟨gr.length, by rw [← hk]; exact Nat.lt_succ_self _, gr, rfl, rfl, hz', g2, st1.trans st2⟩
    · have dn : decide (V.int z = V.int 0) = false := decide_eq_false fun e => cz (V.int.inj e)
      rw [dn]
      refine iteF ?_
      have hz2 : dropZ s.g = z :: gr := by
        rw [← hz]
        show (if z = 0 then dropZ gr else z :: gr) = _
        rw [if_neg cz]
      refine ⟨.ref h, rfl, h, _, 0, _, rfl, rfl, eh, x0, true, .inl ⟨_, eg, rfl⟩, iteT ?_⟩
      refine ⟨.ref h, rfl, h, _, 0, _, rfl, rfl, eh, x0, gl, _, 0, _, rfl, rfl, eg, y0, ?_⟩
      refine ⟨_, rfl, .inl ⟨z, rfl, _, rfl, z, n, rfl, rfl, ⟨mk.1, mk.2⟩, .ref h, rfl, h, _, 0, _, rfl, rfl, eh, x0, gl, _, 0, 0, rfl, rfl, a4, ix0, ?_⟩⟩
      have ng : h ≠ gl := Ne.symm a2
      refine ⟨_, rfl, .inl ⟨z, rfl, _, rfl, z, n, rfl, rfl, mk.1, ?_⟩⟩
      obtain ⟨g2, st2⟩ := g1.mut (s' := ⟨(z / n) :: gr, s.m, s.c⟩) (gl' := gl) (H' := upd H' gl (.lst (((z :: gr).map V.int).set 0 (.int (z / n))))) a3 a1 a1 a2 (by rw [upd_ne ng]; exact a3) (by rw [upd_same]; rfl) (fun q o w w1 w2 => by rw [upd_ne w2]; exact w) (.inl rfl)
      have ev : takeV s n = z % n := by
        unfold takeV
        rw [hz2]
      have es : takeS s n = ⟨(z / n) :: gr, s.m, s.c⟩ := by
        unfold takeS
        rw [hz2]
      have p : ∀ v H0' H', Step h H0 H H0' H' → G h H0' H' (takeS s n) → Den K mg h H0' v (.int (takeV s n)) → Q v H' := p
      rw [es, ev] at p
      exact p _ H0 _ (st1.trans st2) g2 (.int _)
end Mir


set_option Elab.async false
set_option linter.all false
set_option maxRecDepth 100000
namespace Mir
open PySem PySem.Spec PyProof.Rows L2
open PySem.W (Frag)

/-! ### try: body, except c as w: suite -/
/-- a suite's function: the caught error's fields first -/
abbrev MX := List (Str × Dt) → MS
def mTryAs (i : Nat) (c : Str) (body : MS) (suite : MX) : MS := fun ρ s => match body ρ s with
  | .err c' fs ρ' s' => if c' = c ∧ i < ρ'.length then (match suite fs (ρ'.set i .no) s' with
      | .ok (.nx ρ2) s2 => .ok (.nx (ρ2.set i .no)) s2
      | .ok (.rt d) s2 => .ok (.rt d) s2
      | .ok (.bk ρ2) s2 => .ok (.bk (ρ2.set i .no)) s2
      | .ok (.ct ρ2) s2 => .ok (.ct (ρ2.set i .no)) s2
      | _ => .bad) else .bad
  | .ok f s' => .ok f s'
  | .bad => .bad
section
variable (K : Frag) (mg : Str → Option Value) (i : Nat) (C a : Addr) (dd : Option Addr)
def XE' (te : TE) (m : List (Str × Dt) → ME) : Prop := ∀ (h : Ent) (H0 H : Hp) (s : Hd) (σ : L2.St) (ρ : Env') (Q : VK) (fs : List (Str × Dt)), G h H0 H s → Slots K mg h H0 H σ ρ → σ[i]? = some (some (.ref a)) → XdOk K mg h H0 H dd fs →
  Post K mg h (Den K mg h.a) (m fs ρ s) H0 H WF Q → te σ H Q
def XA' (te : TA) (m : List (Str × Dt) → MA) : Prop := ∀ (h : Ent) (H0 H : Hp) (s : Hd) (σ : L2.St) (ρ : Env') (Q : List V → Hp → Prop) (fs : List (Str × Dt)), G h H0 H s → Slots K mg h H0 H σ ρ → σ[i]? = some (some (.ref a)) → XdOk K mg h H0 H dd fs →
  Post K mg h (DenA K mg h.a) (m fs ρ s) H0 H WF Q → te σ H Q
def XS' (ts : TS) (m : MX) : Prop := ∀ (h : Ent) (H0 H : Hp) (s : Hd) (σ : L2.St) (ρ : Env') (D : Ends) (fs : List (Str × Dt)), G h H0 H s → Slots K mg h H0 H σ ρ → σ[i]? = some (some (.ref a)) → XdOk K mg h H0 H dd fs →
  PostS K mg h (m fs ρ s) H0 H WF D → ts D σ H
end
def xFld (f : Str) : List (Str × Dt) → ME := fun fs _ s => liftO (fs.lookup f) s
def xC (d : Dt) : List (Str × Dt) → ME := fun _ _ s => .ok d s
def xNil : List (Str × Dt) → MA := fun _ _ s => .ok [] s
def xCons (a : List (Str × Dt) → ME) (r : List (Str × Dt) → MA) : List (Str × Dt) → MA := fun fs ρ s => (a fs ρ s).bind fun d s1 => (r fs ρ s1).bind fun ds s2 => .ok (d :: ds) s2
def xTup (as : List (Str × Dt) → MA) : List (Str × Dt) → ME := fun fs ρ s => (as fs ρ s).bind fun ds s1 => if ds.length ≤ 100000 then .ok (.tup ds) s1 else .bad
def xRet (a : List (Str × Dt) → ME) : MX := fun fs ρ s => (a fs ρ s).bind fun d s1 => .ok (.rt d) s1
section
variable {K : Frag} {mg : Str → Option Value} {i : Nat} {C a : Addr} {dd : Option Addr} {te : TE} {ta : TA} {m : List (Str × Dt) → ME} {ma : List (Str × Dt) → MA}
theorem xd_keep {h : Addr} {H0 H H0' H' : Hp} {s s' : Hd} {fv : List (Str × V)} {dd : Addr} (g : G h H0 H s) (st : Step h H0 H H0' H') (g' : G h H0' H' s') (e : H dd = some (.xd fv)) : H' dd = some (.xd fv) := by
  cases q : H0 dd with
  | some o =>
    have w := g.ex _ _ q
    rw [e] at w
    cases w
    exact g'.ex _ _ (st.s0 _ _ q)
  | none =>
    refine (st.fr dd _ e q fun z => ?_).1
    obtain ⟨gl, a1, a2, a3, a4⟩ := g.gl
    rcases z with z | ⟨r, z⟩
    · rw [z, a3] at e
      cases e
    · rw [a3] at z
      cases z
      rw [a4] at e
      cases e
theorem xd_step' {h : Addr} {H0 H H0' H' : Hp} {s s' : Hd} {fs : List (Str × Dt)} (g : G h H0 H s) (st : Step h H0 H H0' H') (g' : G h H0' H' s') (e : XdOk K mg h H0 H dd fs) : XdOk K mg h H0' H' dd fs := by
  cases dd with
  | none => exact e
  | some dd =>
    obtain ⟨nz, fv, e1, e2⟩ := e
    exact ⟨nz, fv, xd_keep g st g' e1, e2.mono st.s0⟩
theorem xe_fld {f : Str} : XE' K mg i a dd (tXf a (.ref C) dd C f (tVar i)) (xFld f) := by
  intro h H0 H s σ ρ Q fs g S ei ed p
  obtain ⟨z, hz, p⟩ := post_lift p
  cases dd with
  | none =>
    have ed : fs = [] := ed
    subst ed
    cases hz
  | some dd =>
    obtain ⟨_, fv, ed, df⟩ := ed
    obtain ⟨v, e1, e2⟩ := df.look hz
    exact ⟨.ref a, ei, rfl, rfl, dd, fv, v, rfl, ed, e1, p v H0 H (.refl _ _) g e2⟩
theorem xe_c {v : V} {d : Dt} (hd : ∀ (h : Addr) (H : Hp), Den K mg h H v d) : XE' K mg i a dd (tC v) (xC d) := fun h H0 H s σ ρ Q fs g S ei ed p => p v H0 H (.refl _ _) g (hd h H0)
theorem xa_nil : XA' K mg i a dd tNil xNil := fun h H0 H s σ ρ Q fs g S ei ed p => p [] H0 H (.refl _ _) g .nil
theorem xa_cons (h1 : XE' K mg i a dd te m) (h2 : XA' K mg i a dd ta ma) : XA' K mg i a dd (tCons te ta) (xCons m ma) := by
  intro h H0 H s σ ρ Q fs g S ei ed p
  refine h1 h H0 H s σ ρ _ fs g S ei ed (Post.bind p fun d s1 x A B st g1 dx p1 => h2 h A B s1 σ ρ _ fs g1 (S.step st) ei (xd_step' g st g1 ed) (Post.bind p1 fun ds s2 xs A2 B2 st2 g2 dxs p2 => ?_))
  exact p2 (x :: xs) A2 B2 (.refl _ _) g2 (.cons (dx.mono st2.s0) dxs)
theorem xe_tup (h1 : XA' K mg i a dd ta ma) : XE' K mg i a dd (tTup ta) (xTup ma) := by
  intro h H0 H s σ ρ Q fs g S ei ed p
  refine h1 h H0 H s σ ρ _ fs g S ei ed (Post.bind p fun ds s1 xs A B st g1 dx p1 => ?_)
  by_cases c : ds.length ≤ 100000
  · rw [if_pos c] at p1
    refine ⟨by rw [dx.len]; exact sizeOk.le c, fun q hq => ?_⟩
    obtain ⟨g2, st2⟩ := g1.alloc (o := .tup xs) hq
    exact p1 _ _ _ st2 g2 (.tup (SqT.of upd_same) (dx.mono st2.s0))
  · rw [if_neg c] at p1
    exact p1.elim
theorem xe_any {te : TE} {m : ME} (h1 : SE K mg WF te m) : XE' K mg i a dd te (fun _ => m) := fun h H0 H s σ ρ Q fs g S ei ed p => h1 h H0 H s σ ρ Q g S p
theorem xs_ret (h1 : XE' K mg i a dd te m) : XS' K mg i a dd (tRet te) (xRet m) := by
  intro h H0 H s σ ρ D fs g S ei ed p
  refine h1 h H0 H s σ ρ _ fs g S ei ed (PostS.bind p fun d s1 x A B st g1 dx p1 => ?_)
  exact p1 x A B (S.step st).st g1 dx
end
/-- a suite as text: ts its reading by the caught error's address, class and dict -/
structure QX (X : Cx) (i : Nat) (C : Addr) (b₀ : Stmt) (suite : List Stmt) (ts : Addr → Value → Option Addr → TS) (m : MX) : Prop where
  text : ∀ (a : Addr) (oe : Obj) (cls : Value) (d : Option Addr) (pn : List (Addr × Obj)), Zc cls d oe → (∃ vs, oe.data = .fields vs) → PSs (X.suite a ((a, oe) :: pn)) (b₀ :: suite) (ts a cls d)
  read : ∀ (a : Addr) (dd : Option Addr), XS' X.K X.mg i a dd (ts a (.ref C) dd) m
section
variable {X : Cx} {Wx : WX} {c n : Str} {C : Addr} {i : Nat} {body suite : List Stmt} {b₀ : Stmt} {np pos pos' : Pos} {mb : MS} {mx : MX} {ts : Addr → Value → Option Addr → TS}
theorem qs_tryAs (hs : X.stack = X.env :: X.outer) (hf : X.env.frame = some X.env.locals) (hN : X.N.Nodup) (hi : X.N[i]? = some n) (hln : X.env.kindOf n = some .local) (hm : X.mg c = some (.ref C)) (hg : Gl X c) (hdb : (c == ("__debug__" : Str)) = false) (tk : Takes X Wx)
    (he : PySem.W.exmOne X.K (.ref C) (.ref C) = some true)
    (hb : ∀ (W : WX) (pn : List (Addr × Obj)) (xe : Value → Shared → Prop), Takes (X.tr pn xe) W → PassesOwn (model X.prog X.w) X.A X.env xe → QSs (X.tr pn xe) W body mb) (hx : QX X i C b₀ suite ts mx) :
    QS X Wx (.Try body [.ExceptHandler (some (.Name c np)) (some n) (b₀ :: suite) pos'] [] [] pos) (mTryAs i c mb mx) := by
  refine ⟨_, ps_try_as (tb := fun W => cS X.K X.mg W mb) (ts := ts) (Wout := Wx) hs hf hN hi hln ⟨hg, hdb, .inl hm⟩ tk (fun W pn xe t p => (hb W pn xe t p).can) hx.text, ?_⟩
  intro h H0 H s σ ρ D g S p
  refine ⟨h, H0, s, ρ, g, S, ?_⟩
  have p : PostS X.K X.mg h (mTryAs i c mb mx ρ s) H0 H Wx D := p
  unfold mTryAs at p
  cases e : mb ρ s with
  | ok f s' =>
    rw [e] at p
    cases f with
    | nx ρ' => exact p
    | rt d => exact p
    | bk ρ' => exact p
    | ct ρ' => exact p
  | bad =>
    rw [e] at p
    exact p
  | err c' fs ρ' s' =>
    rw [e] at p
    by_cases cc : c' = c ∧ i < ρ'.length
    · obtain ⟨rfl, hl⟩ := cc
      simp only [hl, and_self, if_true] at p
      intro σ' C' dd A B st g' S' mc x
      obtain rfl : C = C' := by
        rw [hm] at mc
        cases mc
        rfl
      refine ⟨true, he, fun _ a na => ?_, fun q => Bool.noConfusion q⟩
      refine hx.read a dd h A B s' (σ'.set i (some (.ref a))) (ρ'.set i .no) _ fs g' (S'.forget _) (List.getElem?_set_self (by rw [S'.len]; exact hl)) x ?_
      have p := PostS.step (H' := B) st p
      cases em : mx fs (ρ'.set i .no) s' with
      | ok fl s2 =>
        rw [em] at p
        cases fl with
        | nx ρ2 => exact fun σ2 A2 B2 st2 g2 S2 => p (σ2.set i none) A2 B2 st2 g2 (S2.forget none)
        | rt d => exact p
        | bk ρ2 => exact fun σ2 A2 B2 st2 g2 S2 => p (σ2.set i none) A2 B2 st2 g2 (S2.forget none)
        | ct ρ2 => exact fun σ2 A2 B2 st2 g2 S2 => p (σ2.set i none) A2 B2 st2 g2 (S2.forget none)
      | err c2 fs2 ρ2 s2 =>
        rw [em] at p
        exact p.elim
      | bad =>
        rw [em] at p
        exact p.elim
    · simp only [cc, if_false] at p
      exact p.elim
end

/-! ### the law -/
def spLaw (K : Frag) : Sp := fun vs H Q _ => ∃ (a : Addr) (ns : List Int), vs = [.ref a] ∧ SqL K H a (ns.map V.int) ∧ ns.length ≤ 63 ∧ ∀ H', Q (.bl true) H'
/-- the slots behind the law's first row: the script, the hand -/
def lawE (n : Nat) : Env' := .no :: .dat .hnd :: List.replicate n .no
theorem law_run {K : Frag} {mg : Str → Option Value} {Wx : WX} {n : Nat} {vs : List V} {H : Hp} {Q : VK} {E : XK} {W : L2.St → XK} {ts : TS} {ms : MS} (hh : spLaw K vs H Q E) (hs : SS K mg Wx ts ms) (hm : ∀ s : Hd, ∃ s' : Hd, ms (lawE n) s = .ok (.rt (.bl true)) s') :
    tSeq (tAsg (tCallSD (spHand K) [] W (tCons (tVar 0) tNil)) (gName 1)) ts { nx := fun _ H' => Q .non H', rt := Q } (vs.map some ++ List.replicate (n + 1) none) H := by
  obtain ⟨a, ns, rfl, hS, hl, q⟩ := hh
  refine ⟨.ref a, rfl, a, ns, rfl, hS, hl, fun h gl g m H' s e1 e2 ne e3 e4 => ?_⟩
  obtain ⟨s', hr⟩ := hm ⟨g, m, 0⟩
  refine hs ⟨h, H, H', h⟩ H H' ⟨g, m, 0⟩ (some (.ref a) :: some (.ref h) :: List.replicate n none) (lawE n) _ ⟨s, e1, gl, e2, ne, e3, e4⟩ ⟨by simp [lawE], fun i o l x y => ?_, fun i j p x y z1 _ m1 _ _ _ => ?_, .refl _ _⟩ ?_
  · match i, x, y with
    | 0, x, y =>
      cases x
      cases y
      exact True.intro
    | 1, x, y =>
      cases x
      cases y
      exact .hnd
    | i + 2, x, y =>
      have y : (List.replicate n Sl.no)[i]? = some l := y
      rw [List.getElem?_replicate] at y
      split at y
      · cases y
        cases o <;> exact True.intro
      · cases y
  · match i, z1 with
    | 0, z1 =>
      cases z1
      cases m1
    | 1, z1 =>
      cases z1
      cases m1
    | i + 2, z1 =>
      have z1 : (List.replicate n Sl.no)[i]? = some x := z1
      rw [List.getElem?_replicate] at z1
      split at z1 <;> cases z1
      cases m1
  · rw [hr]
    intro v A B _ _ dv
    cases dv
    exact q B
end Mir


set_option Elab.async false
set_option linter.all false
set_option maxRecDepth 100000
namespace Mir
open PySem PySem.Spec PyProof.Rows L2
open PySem.W (Frag)

/-- a def that is called with some parameters written, dd for the others -/
def Callee (P : Program) (w : World) (K : Frag) (mg : Str → Option Value) (base : Heap) (k : Nat) (x : Str) (n : Nat) (dd : List Dt) (m : List Dt → Hd → R Dt) : Prop :=
  ∃ (f : Addr) (fd : FuncData) (ps : List Str) (dvs : List V) (dsV : List Value), FnOk P w K mg base (L2.CX P w) k f fd ps (spM K mg n m) ∧ mg x = some (.ref f) ∧ PySem.W.keepIn K (.ref f) = true ∧ Binds K fd ps dsV ∧ Vals dvs dsV ∧ ∀ (h : Addr) (H : Hp), DenA K mg h H dvs dd
section
variable {X : Cx} {Wx : WX} {e : Expr} {es : List Expr} {x : Str} {p pos : Pos} {as : MA} {k j n : Nat} {dd : List Dt} {m : List Dt → Hd → R Dt}
theorem qe_c (C : Callee X.prog X.w X.K X.mg X.base k x n dd m) (hr : Room j X.A) (hk : k ≤ j) (tk : Takes X Wx) (ha : QA X Wx (e :: es) as) (hg : Gl X x := by rfl)
    (hdb : (x == ("__debug__" : Str)) = false := by decide) (he : starEach (e :: es) X.env = (false, eval e X.env) :: starEach es X.env := by rfl) (hpl : (backTo pos (starEach es X.env)).any (·.1) = false := by rfl) :
    QE X Wx (.Call (.Name x p) (e :: es) [] pos) (mCall n dd m as) := by
  obtain ⟨f, fd, ps, dvs, dsV, F, hm, kp, hb, hd, hdd⟩ := C
  exact qe_call F (hr.mono hk) hg hm kp hb hd hdd tk ha hdb he hpl
end
/-- the class of an own error whose arguments are kept -/
def Caught (K : Frag) (mg : Str → Option Value) (c : Str) (C : Addr) : Prop := mg c = some (.ref C) ∧ PySem.W.exmOne K (.ref C) (.ref C) = some true ∧ XfC K C
def Thrown (P : Program) (w : World) (K : Frag) (mg : Str → Option Value) (base : Heap) (c : Str) (names : List Str) : Prop :=
  ∃ (C fI : Addr) (fd : FuncData) (ps : List Str), mg c = some (.ref C) ∧ OexC K C ∧ (∀ f ∈ names, PySem.W.findIn K (.ref C) f = some none) ∧ PySem.W.findIn K (.ref C) "__init__" = some (some (.ref fI)) ∧ PySem.W.typeIn K (.ref fI) = some (.type "function") ∧
    FnOk P w K mg base (L2.CX P w) 1 fI fd ps (spI K names) ∧ Binds K fd ps []
section
variable {X : Cx} {Wx : WX} {e : Expr} {es : List Expr} {c : Str} {p pos pos2 : Pos} {as : MA} {j : Nat} {names : List Str}
theorem qs_throw (T : Thrown X.prog X.w X.K X.mg X.base c names) (hr : Room j X.A) (hj : 2 ≤ j) (hc : X.calm = true) (tk : Takes X Wx) (ha : QA X Wx (e :: es) as) (hg : Gl X c := by rfl)
    (hdb : (c == ("__debug__" : Str)) = false := by decide) (he : starEach (e :: es) X.env = (false, eval e X.env) :: starEach es X.env := by rfl) (hpl : (backTo pos (starEach es X.env)).any (·.1) = false := by rfl) :
    QS X Wx (.Raise (some (.Call (.Name c p) (e :: es) [] pos)) none pos2) (mRaise c names as) := by
  obtain ⟨C, fI, fd, ps, hm, ox, no, iC, tI, F, hb⟩ := T
  exact qs_raise hc tk ⟨hm, ox, no⟩ iC tI F (hr.mono hj) hb hg ha hdb he hpl
end
/-! ### tuples of the module -/
section
variable {K : Frag} {mg : Str → Option Value}
/-- a written tuple's items -/
inductive KDen (K : Frag) : Value → Dt → Prop where
  | int (i : Int) (t : Tok) : KDen K (.int i t) (.int i)
  | str (x : Str) (t : Tok) : KDen K (.str x t) (.str x)
  | non : KDen K .none .non
  | bl (b : Bool) : KDen K (.bool b) (.bl b)
theorem KDen.den {u : Value} {d : Dt} (q : KDen K u d) : ∃ v, RelV v u ∧ ∀ (h : Addr) (H : Hp), Den K mg h H v d := by
  cases q with
  | int i t => exact ⟨.int i, ⟨t, rfl⟩, fun _ _ => .int i⟩
  | str x t => exact ⟨.str x, ⟨t, rfl⟩, fun _ _ => .str x⟩
  | non => exact ⟨.non, rfl, fun _ _ => .non⟩
  | bl b => exact ⟨.bl b, rfl, fun _ _ => .bl b⟩
theorem rat_den {Z : Addr} {od : Option Addr} {n : Nat} {sl : Array (Option Value)} {a b : Int} {ta tb : Tok} (l : K.lookup Z = some ⟨.type "tuple", od, .seq #[.int a ta, .int b tb] n, sl⟩) (h : Addr) (H : Hp) : Den K mg h H (.ref Z) (.tup [.int a, .int b]) :=
  .tup (xs := [.int a, .int b]) (.inr ⟨_, _, _, l, rfl, rfl, (by show 2 ≤ sizeLine; decide), .cons ⟨ta, rfl⟩ (.cons ⟨tb, rfl⟩ .nil)⟩) (.cons (.int a) (.cons (.int b) .nil))
end
/-! ### keywords: f(e, .., k = v) where the defaults stand between -/
def mCallK (np nk n : Nat) (mid : List Dt) (m : List Dt → Hd → R Dt) (as ks : MA) : ME := fun ρ s => (as ρ s).bind fun ds s1 => (ks ρ s1).bind fun es s2 =>
  if ds.length = np ∧ es.length = nk ∧ (ds ++ (mid ++ es)).length = n then (match m (ds ++ (mid ++ es)) s2 with
    | .ok d s3 => .ok d s3
    | .err c fs _ s3 => .err c fs ρ s3
    | .bad => .bad) else .bad
def CalleeK (P : Program) (w : World) (K : Frag) (mg : Str → Option Value) (base : Heap) (k : Nat) (x : Str) (np : Nat) (ks : List Str) (n : Nat) (mid : List Dt) (m : List Dt → Hd → R Dt) : Prop :=
  ∃ (f : Addr) (fd : FuncData) (ps : List Str) (mv : List V) (mV : List Value), FnOk P w K mg base (L2.CX P w) k f fd ps (spM K mg n m) ∧ mg x = some (.ref f) ∧ PySem.W.keepIn K (.ref f) = true ∧
    KBn K fd ps np ks (fun us ws => us ++ (mV ++ ws)) (fun vs zs => vs ++ (mv ++ zs)) ∧ ∀ (h : Addr) (H : Hp), DenA K mg h H mv mid
def QK (X : Cx) (Wx : WX) (kws : List Keyword) (m : MA) : Prop := ∃ t, PK X kws t ∧ SA X.K X.mg Wx t m
section
variable {X : Cx} {Wx : WX} {e : Expr} {es : List Expr} {x : Str} {p pos kpos : Pos} {as ks' : MA} {k j n np : Nat} {mid : List Dt} {m : List Dt → Hd → R Dt} {ks : List Str} {kws : List Keyword} {nm : Option Str} {ma : ME} {E : XK}
theorem qk_nil : QK X Wx [] mNil := ⟨_, pk_nil, sa_nil⟩
theorem qk_cons (ha : QE X Wx e ma) (hr : QK X Wx kws as) : QK X Wx (⟨nm, e, kpos⟩ :: kws) (mCons ma as) := by
  obtain ⟨t, q, s⟩ := ha
  obtain ⟨t2, q2, s2⟩ := hr
  exact ⟨_, pk_cons q q2, sa_cons s s2⟩
theorem qe_ck (C : CalleeK X.prog X.w X.K X.mg X.base k x np ks n mid m) (hr : Room j X.A) (hk : k ≤ j) (tk : Takes X (wE E)) (ha : QA X (wE E) (e :: es) as) (hw : QK X (wE E) kws ks') (hg : Gl X x := by rfl)
    (hall : (backToKw pos (keywordEach kws X.env)).all (·.1.isSome) = true := by rfl) (hks : (backToKw pos (keywordEach kws X.env)).filterMap (·.1) = ks := by rfl)
    (hdb : (x == ("__debug__" : Str)) = false := by decide) (he : starEach (e :: es) X.env = (false, eval e X.env) :: starEach es X.env := by rfl)
    (hpl : ((backTo pos (starEach (e :: es) X.env)).any (·.1) || (backToKw pos (keywordEach kws X.env)).any (·.1.isNone)) = false := by rfl) :
    QE X (wE E) (.Call (.Name x p) (e :: es) kws pos) (mCallK np ks.length n mid m as ks') := by
  obtain ⟨f, fd, ps, mv, mV, F, hm, kp, hb, hdd⟩ := C
  obtain ⟨t, q, sa⟩ := ha
  obtain ⟨t2, q2, sa2⟩ := hw
  refine ⟨_, pe_callN (E := E) F (hr.mono hk) hg hm kp hb (passes_call tk fun _ _ _ _ z => z) q q2 hall hks hdb he hpl, ?_⟩
  intro h H0 H s σ ρ Q g S pp
  refine sa h H0 H s σ ρ _ g S (Post.bind pp fun ds s1 xs A B st g1 dx p1 => sa2 h A B s1 σ ρ _ g1 (S.step st) (Post.bind p1 fun es s2 ys A2 B2 st2 g2 dy p2 => ?_))
  by_cases c : ds.length = np ∧ es.length = ks.length ∧ (ds ++ (mid ++ es)).length = n
  · rw [if_pos c] at p2
    obtain ⟨c1, c2, c3⟩ := c
    have dz := (dx.mono st2.s0).append ((hdd h A2).append dy)
    refine ⟨dx.len.trans c1, dy.len.trans c2, dz.len.trans c3, h, A2, s2, _, g2, dz, ?_⟩
    cases hm : m (ds ++ (mid ++ es)) s2 with
    | ok d s3 =>
      rw [hm] at p2
      exact p2
    | err cc fs ρ' s3 =>
      rw [hm] at p2
      exact fun C e A3 B3 st3 g3 mc x => p2 σ C e A3 B3 st3.s0 g3 (S.step ((st.trans st2).trans st3)) mc x
    | bad =>
      rw [hm] at p2
      exact p2.elim
  · rw [if_neg c] at p2
    exact p2.elim
end
section
variable {K : Frag} {x qual : Str} {params : Arguments} {body : List Stmt} {scope : Scope} {dvs : List V} {f : Addr} {fd : FuncData} {ps : List Str}
/-- how f(e, .., k = v) binds: the first n written, the last ones by keywords, the defaults from the j-th on between -/
theorem kb_of (F : FunD K x qual params body scope dvs [] f fd) (n j c : Nat) (ks : List Str) (hd : dvs ≠ [])
    (hh : ∀ (T : Addr) (kV doc pm : Value) (an : Option Addr) (cdv ct : Value) (us its ws : List Value), us.length = n → its.length = dvs.length → ws.length = ks.length →
      ∃ k, bindArgs (PySem.W.fnOf x qual params body scope (.ref T) kV doc pm an cdv ct) ⟨us, ks.zip ws⟩ = seqItems? (.ref T) >>= k ∧ k (some its.toArray) = pure (ps.zip (us ++ ((its.drop j).take c ++ ws)))) :
    ∃ mV : List Value, KBn K fd ps n ks (fun us ws => us ++ (mV ++ ws)) (fun vs zs => vs ++ ((dvs.drop j).take c ++ zs)) := by
  obtain ⟨oc, od, dV, kV, doc, pm, an, cdv, ct, osl, rfl, lk, hcd, hD, hK⟩ := F.ex
  rcases hD with ⟨e, _⟩ | ⟨_, T, o, its, m, rfl, lT, oT, rT⟩
  · exact absurd e hd
  · refine ⟨(its.drop j).take c, ⟨fun s us ws X l1 l2 => ?_, fun r1 r2 => r1.append (((rT.drop j).take c).append r2)⟩⟩
    obtain ⟨k, e1, e2⟩ := hh T kV doc pm an cdv ct us its ws l1 rT.length.symm l2
    refine BindsTo.of_looks fun M => ?_
    rw [e1]
    exact looks_items X lT oT (.of_pure e2)
end
/-! ### while -/
def absS : Sl → Nat
  | .dat (.int i) => i.natAbs
  | _ => 0
def fuelE (ρ : Env') : Nat := (ρ.map absS).sum + 2
def mWhile (t : MT) (body : MS) : MS := fun ρ s => loopW t body (fuelE ρ) ρ s
section
variable {K : Frag} {mg : Str → Option Value} {Wx : WX} {tt : TT} {mt : MT} {tb : TS} {body : MS}
theorem ss_while (ht : ST K mg Wx tt mt) (hb : SS K mg Wx tb body) : SS K mg Wx (tWhile tt tb) (mWhile mt body) := by
  intro h H0 H s σ ρ D g S p
  refine ⟨fun n σ' H' => ∃ A s' ρ', Same H0 A ∧ G h A H' s' ∧ Slots K mg h A H' σ' ρ' ∧ PostS K mg h (loopW mt body n ρ' s') A H' Wx D, ⟨fuelE ρ, H0, s, ρ, Same.refl _, g, S, p⟩, ?_⟩
  rintro n σ' H' ⟨A, s', ρ', st, g', S', p'⟩
  cases n with
  | zero => exact p'.elim
  | succ n =>
    unfold loopW at p'
    refine ht h A H' s' σ' ρ' _ g' S' (PostS.bind p' fun b s1 b' A1 B1 st1 g1 e p1 => ?_)
    have e : b' = b := e
    subst e
    cases b' with
    | false => exact p1 σ' A1 B1 (Same.refl _) g1 (S'.step st1)
    | true =>
      refine iteT ⟨fun σ2 H2 => ∃ A2 s2 ρ2, Same H0 A2 ∧ G h A2 H2 s2 ∧ Slots K mg h A2 H2 σ2 ρ2 ∧ PostS K mg h (loopW mt body n ρ2 s2) A2 H2 Wx D, fun σ2 H2 w => ⟨n, Nat.lt_succ_self n, w⟩, hb h A1 B1 s1 σ' ρ' _ g1 (S'.step st1) ?_⟩
      rw [if_pos rfl] at p1
      cases eb : body ρ' s1 with
      | ok f s2 =>
        rw [eb] at p1
        cases f with
        | nx ρ2 => exact fun σ2 A2 B2 st2 g2 S2 => ⟨A2, s2, ρ2, (st.trans st1.s0).trans st2, g2, S2, PostS.step st2 p1⟩
        | ct ρ2 => exact fun σ2 A2 B2 st2 g2 S2 => ⟨A2, s2, ρ2, (st.trans st1.s0).trans st2, g2, S2, PostS.step st2 p1⟩
        | bk ρ2 => exact p1
        | rt d => exact p1
      | err c fs ρ2 s2 =>
        rw [eb] at p1
        exact p1
      | bad =>
        rw [eb] at p1
        exact p1
end
theorem qs_while {X : Cx} {Wx : WX} {c : Expr} {mt : MT} {sts : List Stmt} {ms : MS} {pos : Pos} (hp : PassesOwn (model X.prog X.w) X.A X.env X.xe) (hc : QT X Wx c mt) (hb : QSs X Wx sts ms) : QS X Wx (.While c sts [] pos) (mWhile mt ms) := by
  obtain ⟨t, q, s⟩ := hc
  obtain ⟨t2, q2, s2⟩ := hb
  exact ⟨_, ps_while hp q q2, ss_while s s2⟩
theorem _root_.L2.Room.units65 {k : Nat} {A : Around} (r : Room k A) : A.units + 65 < cLine := by have := r.un; omega
theorem cx_false {P : Program} {w : World} {l : List Env} {H : Hp} {s : Shared} {e : Value} {s' : Shared} (z : L2.CX P w l H s (fun _ _ _ => False) e s') : False := by
  obtain ⟨_, _, _, _, _, _, _, _, _, _, _, _, z⟩ := z
  exact z
end Mir


set_option Elab.async false
set_option linter.all false
set_option maxRecDepth 100000
/-! isinstance with two classes; math.isqrt; statements that are never reached; written couples of ratios. -/
namespace Mir
open PySem PySem.Spec PyProof.Rows L2
open PySem.W (Frag)
def fIsi2 (T U : String) (d : Dt) : Option Bool := (tyN d).bind fun n => (kitB n T).bind fun a => (kitB n U).map fun b => a || b
def mIsi2 (T U : String) (a : ME) : ME := fun ρ s => (a ρ s).bind fun d s1 => liftO ((fIsi2 T U d).map .bl) s1
section
variable {X : Cx} {Wx : WX} {a : Expr} {ma : ME} {pos p p2 p3 p4 : Pos} {T U : String} {x y : Str} {x1 : Nat}
theorem kit_any2 {K : PySem.W.Frag} {n T U : String} {a b : Bool} (ha : kitB n T = some a) (hb : kitB n U = some b) : PySem.W.kitAny K (.type n) [.type T, .type U] = some (a || b) := by
  refine kitAny_cons (b := a) (kit_ty ha) (fun e => ?_) (fun e => by rw [e]; rfl)
  rw [e, Bool.false_or]
  exact kitAny_cons (b := b) (kit_ty hb) (fun e2 => by rw [e2]; exact kitAny_nil) (fun e2 => e2)
theorem qe_isi2 (ha : QE X Wx a ma) (hg : Gl X "isinstance") (hm : X.mg "isinstance" = none) (hgT : Gl X x) (hmT : X.mg x = none) (hvT : bootBuiltins x = some (.type T)) (hgU : Gl X y) (hmU : X.mg y = none) (hvU : bootBuiltins y = some (.type U))
    (hn : x ≠ "__name__" := by decide) (hdb : (x == ("__debug__" : Str)) = false := by decide) (hn2 : y ≠ "__name__" := by decide) (hdb2 : (y == ("__debug__" : Str)) = false := by decide)
    (he : starEach [a, .Tuple [.Name x p2, .Name y p3] x1 p4] X.env = (false, eval a X.env) :: starEach [.Tuple [.Name x p2, .Name y p3] x1 p4] X.env := by rfl)
    (he2 : starEach [.Tuple [.Name x p2, .Name y p3] x1 p4] X.env = (false, eval (.Tuple [.Name x p2, .Name y p3] x1 p4) X.env) :: starEach [] X.env := by rfl)
    (he3 : starEach [.Name x p2, .Name y p3] X.env = (false, eval (.Name x p2) X.env) :: starEach [.Name y p3] X.env := by rfl)
    (he4 : starEach [.Name y p3] X.env = (false, eval (.Name y p3) X.env) :: starEach [] X.env := by rfl)
    (hpl : (backTo pos (starEach [.Tuple [.Name x p2, .Name y p3] x1 p4] X.env)).any (·.1) = false := by rfl) : QE X Wx (.Call (.Name "isinstance" p) [a, .Tuple [.Name x p2, .Name y p3] x1 p4] [] pos) (mIsi2 T U ma) := by
  obtain ⟨ta, pa, sa⟩ := ha
  refine ⟨_, pe_callB call_isiT hg hm (by decide +kernel) (pa_cons pa (pa_cons (pe_tup (pa_cons (pe_bltn (v := .ty T) hgT hmT hvT rfl hn hdb) (pa_cons (pe_bltn (v := .ty U) hgU hmU hvU rfl hn2 hdb2) pa_nil he4) he3)) pa_nil he2) he) (by decide) (by decide) he hpl, ?_⟩
  intro h H0 H s σ ρ Q g S pp
  refine sa h H0 H s σ ρ _ g S (Post.bind pp fun d s1 x A B st g1 dx p1 => ?_)
  obtain ⟨z, hz, p3⟩ := post_lift p1
  unfold fIsi2 at hz
  cases ht : tyN d with
  | none =>
    rw [ht] at hz
    cases hz
  | some n =>
    rw [ht] at hz
    have hz : ((kitB n T).bind fun a => (kitB n U).map fun b => a || b).map Dt.bl = some z := hz
    cases hb : kitB n T with
    | none =>
      rw [hb] at hz
      cases hz
    | some b =>
      rw [hb] at hz
      have hz : ((kitB n U).map fun c => b || c).map Dt.bl = some z := hz
      cases hc : kitB n U with
      | none =>
        rw [hc] at hz
        cases hz
      | some c =>
        rw [hc] at hz
        cases hz
        refine ⟨by show 2 ≤ sizeLine; decide, fun q hq => ?_⟩
        obtain ⟨g2, st2⟩ := g1.alloc (o := .tup [.ty T, .ty U]) hq
        exact ⟨x, q, _, .type n, [.type T, .type U], b || c, rfl, upd_same, .cons (.ty T) (.cons (.ty U) .nil), TyX.of ((dx.mono st2.s0).mono g2.ex) ht, kit_any2 hb hc, p3 _ _ _ st2 g2 (.bl _)⟩
end
/-! ### math.isqrt -/
def rIsqrt : List V → Hp → VK → Prop := fun vs H Q => ∃ a : Int, vs = [.int a] ∧ 0 ≤ a ∧ a < 2 ^ 64 ∧ Q (.int ((Float64.isqrt a.toNat : Nat) : Int)) H
theorem cr_isqrt {X : Cx} : CallR X (.builtin "math.isqrt") rIsqrt := by
  intro pins s σ H vs us Q I r h
  obtain ⟨a, rfl, h0, h1, q⟩ := h
  cases r with
  | cons ra rr =>
    cases rr
    obtain ⟨t, e⟩ := (show ∃ t, _ = Value.int a t from ra)
    cases e
    exact PySem.W.mg_isqrt h0 h1 ⟨.int _, H, I.tok _, ⟨_, rfl⟩, q⟩
def fIsqrt : List Dt → Option Dt
  | [.int a] => if 0 ≤ a ∧ a < 2 ^ 64 then some (.int ((Float64.isqrt a.toNat : Nat) : Int)) else none
  | _ => none
section
variable {K : Frag} {mg : Str → Option Value}
theorem cs_isqrt : CaS K mg rIsqrt fIsqrt := by
  intro h H0 H s xs ds z Q g0 hx hz q
  unfold fIsqrt at hz
  split at hz
  · split at hz
    · rename_i hh
      cases hz
      cases hx with
      | cons a r =>
        cases r
        cases a
        exact ⟨_, rfl, hh.1, hh.2, q _ H0 H (.refl _ _) g0 (.int _)⟩
    · cases hz
  · cases hz
end
/-! ### what is never reached -/
def mBad : MS := fun _ _ => .bad
theorem qs_bad {X : Cx} {Wx : WX} {st : Stmt} : QS X Wx st mBad := ⟨fun _ _ _ => False, ⟨fun _ _ _ _ _ _ z => z.elim⟩, fun _ _ _ _ _ _ _ _ _ z => z⟩
/-! ### a written couple of ratios -/
theorem two_den {K : Frag} {mg : Str → Option Value} {Z Y W : Addr} {od : Option Addr} {n : Nat} {sl : Array (Option Value)} {d e : Dt} (l : K.lookup Z = some ⟨.type "tuple", od, .seq #[.ref Y, .ref W] n, sl⟩) (h : Addr) (H : Hp) (a : Den K mg h H (.ref Y) d) (b : Den K mg h H (.ref W) e) : Den K mg h H (.ref Z) (.tup [d, e]) :=
  .tup (xs := [.ref Y, .ref W]) (.inr ⟨_, _, _, l, rfl, rfl, (by show 2 ≤ sizeLine; decide), .cons rfl (.cons rfl .nil)⟩) (.cons a (.cons b .nil))
end Mir


set_option Elab.async false
set_option linter.all false
set_option maxRecDepth 100000
/-! Lists of one's own: made, grown, changed at a place, read, handed on. -/
namespace Mir
open PySem PySem.Spec PyProof.Rows L2
open PySem.W (Frag)

section
variable (K : Frag) (mg : Str → Option Value) (Wx : WX)
def FreshTo (h : Ent) (σ : L2.St) (ρ : Env') (p : Addr) : Prop := NF h p ∧ ∀ (j : Nat) (l : Sl), ρ[j]? = some l → l.mine = true → σ[j]? ≠ some (some (.ref p))
/-- a new list, nobody's yet -/
def PostF (h : Ent) (r : R (List Dt)) (σ : L2.St) (ρ : Env') (H0 H : Hp) (Q : VK) : Prop := match r with
  | .ok ds s => ∀ p vs H0' H', Step h.a H0 H H0' H' → G h.a H0' H' s → FreshTo h σ ρ p → H0' p = none → ¬ isH h.a H' p → H' p = some (.lst vs) → DenA K mg h.a H0' vs ds → Q (.ref p) H'
  | .err c fs ρ' s => ErrP K mg h H0 c fs ρ' s Wx
  | .bad => False
def SF (te : TE) (m : MA) : Prop := ∀ (h : Ent) (H0 H : Hp) (s : Hd) (σ : L2.St) (ρ : Env') (Q : VK), G h.a H0 H s → Slots K mg h H0 H σ ρ → PostF K mg Wx h (m ρ s) σ ρ H0 H Q → te σ H Q
end
def QF (X : Cx) (Wx : WX) (e : Expr) (m : MA) : Prop := ∃ t, PE X e t ∧ SF X.K X.mg Wx t m
section
variable {K : Frag} {mg : Str → Option Value} {Wx : WX} {h : Ent} {H0 H H0' H' A B : Hp} {σ : L2.St} {ρ : Env'}
theorem fresh_to {p : Addr} (S : Slots K mg h A B σ ρ) (n : B p = none) : FreshTo h σ ρ p := by
  refine ⟨fun o e1 e2 => ?_, fun j l e m x => ?_⟩
  · by_cases c : isH h.a h.E p
    · exact c
    · have := (S.st.fr p o e1 e2 c).1
      rw [n] at this
      cases this
  · have q := S.at_ j _ l x e
    cases l with
    | no => cases m
    | dat d => cases m
    | own ds =>
      obtain ⟨p', vs, e1, e2, _⟩ := q
      cases e1
      rw [n] at e2
      cases e2
    | slf c fs =>
      obtain ⟨p', C, dx, vs, e1, _, _, e2, _⟩ := q
      cases e1
      rw [n] at e2
      cases e2
theorem PostF.step {r : R (List Dt)} {Q : VK} (st : Step h.a H0 H H0' H') (p : PostF K mg Wx h r σ ρ H0 H Q) : PostF K mg Wx h r σ ρ H0' H' Q := by
  cases r with
  | ok b s => exact fun a vs A B s2 g q => p a vs A B (st.trans s2) g q
  | err c fs ρ s => exact ErrP.step st.s0 p
  | bad => exact p
theorem PostF.bind {α β : Type} {rel : Hp → α → β → Prop} {r : R β} {k : β → Hd → R (List Dt)} {Q : VK} {Q1 : α → Hp → Prop} (p : PostF K mg Wx h (r.bind k) σ ρ H0 H Q)
    (f : ∀ b s a H0' H', Step h.a H0 H H0' H' → G h.a H0' H' s → rel H0' a b → PostF K mg Wx h (k b s) σ ρ H0' H' Q → Q1 a H') : Post K mg h rel r H0 H Wx Q1 := by
  cases r with
  | ok b s => exact fun a A B st g q => f b s a A B st g q (PostF.step st p)
  | err c fs ρ s => exact p
  | bad => exact p
end
def mLstO (as : MA) : MA := fun ρ s => (as ρ s).bind fun ds s1 => if ds.length ≤ 100000 then .ok ds s1 else .bad
def toL : R Dt → R (List Dt)
  | .ok (.lst ds) s => .ok ds s
  | .err c fs ρ s => .err c fs ρ s
  | _ => .bad
def mToL (m : ME) : MA := fun ρ s => toL (m ρ s)
def mSetO (i : Nat) (m : MA) : MS := fun ρ s => (m ρ s).bind fun ds s1 => .ok (.nx (ρ.set i (.own ds))) s1
/-- list(e) -/
def mListO (a : ME) : MA := fun ρ s => (a ρ s).bind fun d s1 => match d with
  | .tup ds => .ok ds s1
  | .lst ds => .ok ds s1
  | _ => .bad
def mCatO (a b : ME) : MA := fun ρ s => (a ρ s).bind fun d s1 => (b ρ s1).bind fun e s2 => match d, e with
  | .lst x, .lst y => if sizeOk (x.length + y.length) then .ok (x ++ y) s2 else .bad
  | _, _ => .bad
def mApp (i : Nat) (a : ME) : MS := fun ρ s => match ρ[i]? with
  | some (.own ds) => (a ρ s).bind fun d s1 => if sizeOk ds.length then .ok (.nx (ρ.set i (.own (ds ++ [d])))) s1 else .bad
  | _ => .bad
/-- x[e] = v: v first -/
def mSetI (i : Nat) (b a : ME) : MS := fun ρ s => (a ρ s).bind fun d s1 => match ρ[i]? with
  | some (.own ds) => (b ρ s1).bind fun k s2 => (match k with
    | .int k => (match ixN ds.length k with
      | some j => .ok (.nx (ρ.set i (.own (ds.set j d)))) s2
      | none => .bad)
    | _ => .bad)
  | _ => .bad
/-- x[e] = v where x is at data: for use behind which x is given up -/
def frzE (ρ : Env') (i : Nat) : Env' := match ρ[i]? with
  | some (.own ds) => ρ.set i (.dat (.lst ds))
  | _ => ρ
def mFrz (is : List Nat) (m : MS) : MS := fun ρ s => m (is.foldl frzE ρ) s
def mIxO (i : Nat) (b : ME) : ME := fun ρ s => match ρ[i]? with
  | some (.own ds) => (b ρ s).bind fun k s1 => match k with
    | .int j => liftO (atI ds j) s1
    | _ => .bad
  | some (.dat d) => (b ρ s).bind fun k s1 => liftO (fIx d k) s1
  | _ => .bad
/-! no list within -/
mutual
def lfree : Dt → Bool
  | .tup ds => lfreeA ds
  | .obj _ fs => lfreeF fs
  | .lst _ => false
  | _ => true
def lfreeA : List Dt → Bool
  | [] => true
  | d :: ds => lfree d && lfreeA ds
def lfreeF : List (Str × Dt) → Bool
  | [] => true
  | (_, d) :: ds => lfree d && lfreeF ds
end
def lfSl : Sl → Sl
  | .dat d => if lfree d = true then .dat d else .no
  | _ => .no
def mBor (i : Nat) (m : ME) : ME := fun ρ s => match ρ[i]? with
  | some (.own ds) => (match m (ρ.set i (.dat (.lst ds))) s with
    | .ok d s' => if lfree d = true then .ok d s' else .bad
    | .err c fs ρ' s' => if lfreeF fs = true then .err c fs (ρ'.map lfSl) s' else .bad
    | .bad => .bad)
  | _ => m ρ s
def mBorT (i : Nat) (m : MT) : MT := fun ρ s => match ρ[i]? with
  | some (.own ds) => (match m (ρ.set i (.dat (.lst ds))) s with
    | .ok d s' => .ok d s'
    | .err c fs ρ' s' => if lfreeF fs = true then .err c fs (ρ'.map lfSl) s' else .bad
    | .bad => .bad)
  | _ => m ρ s
theorem sqt_del {K : Frag} {H : Hp} {q a : Addr} {us xs : List V} (eq : H q = some (.lst us)) (e : SqT K H a xs) : SqT K (del H q) a xs := by
  rcases e with (e | ⟨o, e⟩) | e
  · exact .inl (.inl (by rw [del_ne fun z => by rw [z, eq] at e; cases e]; exact e))
  · exact .inl (.inr ⟨o, by rw [del_ne fun z => by rw [z, eq] at e; cases e]; exact e⟩)
  · exact .inr e
section
variable {K : Frag} {mg : Str → Option Value} {Wx : WX} {ta tb : TE} {a b : ME} {t : TA} {as : MA} {m : MA} {ts : TS} {ms : MS}
theorem sf_lst (ha : SA K mg Wx t as) : SF K mg Wx (tLst t) (mLstO as) := by
  intro h H0 H s σ ρ Q g S p
  refine ha h H0 H s σ ρ _ g S (PostF.bind p fun ds s1 xs A B st g1 dx p1 => ?_)
  by_cases c : ds.length ≤ 100000
  · rw [if_pos c] at p1
    refine ⟨by rw [dx.len]; exact sizeOk.le c, fun q hq => ?_⟩
    obtain ⟨g2, st2⟩ := g1.side (o := .lst xs) hq
    obtain ⟨gl, a1, a2, a3, a4⟩ := g1.gl
    exact p1 q xs A _ st2 g2 (fresh_to (S.step st) hq) (g1.ex.free hq) (notH g1 hq) upd_same dx
  · rw [if_neg c] at p1
    exact p1.elim
where
  notH {h : Addr} {A B : Hp} {s : Hd} {q : Addr} {u : HO} (g : G h A B s) (hq : B q = none) : ¬ isH h (upd B q u) q := by
    obtain ⟨gl, a1, a2, a3, a4⟩ := g.gl
    have n1 : h ≠ q := ne_of_none a3 hq
    intro z
    rcases z with z | ⟨r, z⟩
    · exact n1 z.symm
    · rw [upd_ne n1, a3] at z
      cases z
      rw [hq] at a4
      cases a4
theorem sf_lc {wi : TI} {mi : MA} (I : SI K mg Wx wi mi) {js vs : List Nat} {g : TG} {gm : GM} {tt : TT} {mt : MT} (hg : SG K mg js g gm) (hv : ∀ j ∈ js, j ∈ vs) (ht : ST K mg WF tt mt) (ha : SE K mg WF ta a) : SF K mg Wx (tLc wi g tt ta vs) (mToL (mLc gm mi mt a vs)) := by
  intro h H0 H s σ ρ Q g0 S p
  refine I.lcF hg hv ht ha h H0 H s σ ρ Q (fun r => PostF K mg Wx h (toL r) σ ρ H0 H Q) (fun z => z.elim) (fun c fs ρ s z => z) (fun A B st => ?_) g0 S p
  intro D A' B' s' acc vv hB st2 g2 hD nD eD da p2
  exact p2 D vv A' B' (st.trans st2) g2 (fresh_to (S.step st) hB) hD nD eD da
theorem sf_listc (ha : SE K mg Wx ta a) : SF K mg Wx (tCB (fun xs H Q => ∃ p ys, xs = [.ref p] ∧ (SqL K H p ys ∨ SqT K H p ys) ∧ ∀ l, H l = none → Q (.ref l) (upd H l (.lst ys))) (tCons ta tNil)) (mListO a) := by
  intro h H0 H s σ ρ Q g S p
  refine ha h H0 H s σ ρ _ g S (PostF.bind p fun d s1 x A B st g1 dx p1 => ?_)
  cases dx with
  | @lst aa xs ds qa ra =>
    refine ⟨_, _, rfl, .inl (SqL.of (g1.ex _ _ qa)), fun q hq => ?_⟩
    obtain ⟨g2, st2⟩ := g1.side (o := .lst xs) hq
    exact p1 q xs A _ st2 g2 (fresh_to (S.step st) hq) (g1.ex.free hq) (sf_lst.notH g1 hq) upd_same ra
  | @tup aa xs ds qa ra =>
    refine ⟨_, _, rfl, .inr (sqt_mono g1.ex qa), fun q hq => ?_⟩
    obtain ⟨g2, st2⟩ := g1.side (o := .lst xs) hq
    exact p1 q xs A _ st2 g2 (fresh_to (S.step st) hq) (g1.ex.free hq) (sf_lst.notH g1 hq) upd_same ra
  | _ => exact p1.elim
theorem sf_cat (ha : SE K mg Wx ta a) (hb : SE K mg Wx tb b) : SF K mg Wx (tOp (rAddA K) ta tb) (mCatO a b) := by
  intro h H0 H s σ ρ Q g S p
  refine ha h H0 H s σ ρ _ g S (PostF.bind p fun d s1 x A B st g1 dx p1 => hb h A B s1 σ ρ _ g1 (S.step st) (PostF.bind p1 fun e s2 y A2 B2 st2 g2 dy p2 => ?_))
  have dx := dx.mono st2.s0
  cases dx with
  | @lst aa xs ds qa ra =>
    cases dy with
    | @lst bb ys es qb rb =>
      by_cases c : sizeOk (ds.length + es.length)
      · simp only [c, if_true] at p2
        refine .inr (.inr (.inl ⟨_, _, _, _, rfl, rfl, g2.ex _ _ qa, g2.ex _ _ qb, ?_, fun q hq => ?_⟩))
        · rw [ra.len, rb.len]
          exact c.le
        · obtain ⟨g3, st3⟩ := g2.side (o := .lst (xs ++ ys)) hq
          exact p2 q _ A2 _ st3 g3 (fresh_to ((S.step st).step st2) hq) (g2.ex.free hq) (sf_lst.notH g2 hq) upd_same (ra.append rb)
      · simp only [c, if_false] at p2
        exact p2.elim
    | _ => exact p2.elim
  | _ => exact p2.elim
theorem ss_setO {i : Nat} (ha : SF K mg Wx ta m) : SS K mg Wx (tAsg ta (gName i)) (mSetO i m) := by
  intro h H0 H s σ ρ D g S p
  refine ha h H0 H s σ ρ _ g S ?_
  have p : PostS K mg h ((m ρ s).bind _) H0 H Wx D := p
  cases e : m ρ s with
  | ok ds s1 =>
    rw [e] at p
    exact fun q vs A B st g1 fr n0 nh eq da => p _ A B st.s0 g1 ((S.step st).put ⟨q, vs, rfl, eq, n0, nh, fr.1, da⟩ fun q2 e2 _ j l nj el ml => by
      cases e2
      exact fr.2 j l el ml)
  | err c fs ρ' s1 =>
    rw [e] at p
    exact p
  | bad =>
    rw [e] at p
    exact p
theorem isH_upd {h : Addr} {B : Hp} {q p : Addr} {u : HO} (n : p ≠ h) (nh : ¬ isH h B q) : ¬ isH h (upd B p u) q := fun z => by
  rcases z with z | ⟨r, z⟩
  · exact nh (.inl z)
  · rw [upd_ne fun y => n y.symm] at z
    exact nh (.inr ⟨r, z⟩)
theorem ss_app {i : Nat} (ha : SE K mg Wx ta a) : SS K mg Wx (tDrop (tBM K "list" rAppend (tVar i) (tCons ta tNil))) (mApp i a) := by
  intro h H0 H s σ ρ D g S p
  have p : PostS K mg h (mApp i a ρ s) H0 H Wx D := p
  unfold mApp at p
  split at p
  · rename_i ds ei
    obtain ⟨q, vs, es, eq, n0, nh, nf, da⟩ := S.own ei
    refine ⟨.ref q, es, .inl ⟨rfl, vs, SqL.of eq⟩, ha h H0 H s σ ρ _ g S (PostS.bind p fun d s1 x A B st g1 dx p1 => ?_)⟩
    obtain ⟨q2, vs2, es2, eq2, n02, nh2, nf2, da2⟩ := (S.step st).own ei
    obtain rfl : q = q2 := by
      rw [es] at es2
      cases es2
      rfl
    by_cases c : sizeOk ds.length
    · simp only [if_pos c] at p1
      refine ⟨q, vs2, x, rfl, rfl, eq2, by rw [da2.len]; exact c.lt, ?_⟩
      have nha : q ≠ h.a := fun z => nh2 (.inl z)
      exact p1 σ A _ (Same.refl _) (g1.at n02 nh2) ((S.step st).mut (u := .lst (vs2 ++ [x])) ei rfl es nh2 nf2 rfl ⟨q, vs2 ++ [x], rfl, upd_same, n02, isH_upd nha nh2, nf2, da2.append (.cons dx .nil)⟩)
    · simp only [if_neg c] at p1
      exact p1.elim
  · exact p.elim
theorem ss_setI {i : Nat} (hb : SE K mg Wx tb b) (ha : SE K mg Wx ta a) : SS K mg Wx (tAsg ta (gSub (tVar i) tb rSetL)) (mSetI i b a) := by
  intro h H0 H s σ ρ D g S p
  refine ha h H0 H s σ ρ _ g S (PostS.bind p fun d s1 x A B st g1 dx p1 => ?_)
  split at p1
  · rename_i ds ei
    obtain ⟨q, vs, es, eq, n0, nh, nf, da⟩ := (S.step st).own ei
    refine ⟨.ref q, es, hb h A B s1 σ ρ _ g1 (S.step st) (PostS.bind p1 fun k s2 y A2 B2 st2 g2 dy p2 => ?_)⟩
    obtain ⟨q2, vs2, es2, eq2, n02, nh2, nf2, da2⟩ := ((S.step st).step st2).own ei
    obtain rfl : q = q2 := by
      rw [es] at es2
      cases es2
      rfl
    cases dy with
    | int k =>
      cases ej : ixN ds.length k with
      | none =>
        simp only [ej] at p2
        exact p2.elim
      | some j =>
        simp only [ej] at p2
        refine ⟨q, vs2, k, j, rfl, rfl, eq2, by rw [da2.len]; exact ej, ?_⟩
        have nha : q ≠ h.a := fun z => nh2 (.inl z)
        exact p2 σ A2 _ (Same.refl _) (g2.at n02 nh2) (((S.step st).step st2).mut (u := .lst (vs2.set j x)) ei rfl es nh2 nf2 rfl ⟨q, vs2.set j x, rfl, upd_same, n02, isH_upd nha nh2, nf2, da2.set (dx.mono st2.s0) j⟩)
    | _ => exact p2.elim
  · exact p1.elim
/-! ### reading one's own list -/
theorem se_ixO {i : Nat} (hb : SE K mg Wx tb b) : SE K mg Wx (tOp (rIx K) (tVar i) tb) (mIxO i b) := by
  intro h H0 H s σ ρ Q g S p
  have p : Post K mg h (Den K mg h.a) (mIxO i b ρ s) H0 H Wx Q := p
  unfold mIxO at p
  split at p
  · rename_i ds ei
    obtain ⟨q, vs, es, eq, n0, nh, nf, da⟩ := S.own ei
    refine ⟨.ref q, es, hb h H0 H s σ ρ _ g S (Post.bind p fun k s2 y A2 B2 st2 g2 dy p2 => ?_)⟩
    obtain ⟨q2, vs2, es2, eq2, n02, nh2, nf2, da2⟩ := (S.step st2).own ei
    obtain rfl : q = q2 := by
      rw [es] at es2
      cases es2
      rfl
    cases dy with
    | int k =>
      obtain ⟨z, hz, p3⟩ := post_lift p2
      obtain ⟨v, e1, e2⟩ := da2.atI' hz
      exact .inl ⟨q, vs2, k, v, rfl, rfl, SqL.of eq2, e1, p3 v A2 B2 (.refl _ _) g2 e2⟩
    | _ => exact p2.elim
  · rename_i d ei
    obtain ⟨v, es, dv⟩ := S.dat ei
    refine ⟨v, es, hb h H0 H s σ ρ _ g S (Post.bind p fun k s2 y A2 B2 st2 g2 dy p2 => ?_)⟩
    obtain ⟨z, hz, p3⟩ := post_lift p2
    exact os_ix h A2 B2 s2 v y d k z Q g2 (dv.mono st2.s0) dy hz fun u A3 B3 st3 g3 du => p3 u A3 B3 st3 g3 du
  · exact p.elim
/-! ### an own list becomes data -/
theorem Slots.frz {h : Ent} {H0 H : Hp} {σ : L2.St} {ρ : Env'} {i : Nat} {ds : List Dt} {q : Addr} {vs : List V} (S : Slots K mg h H0 H σ ρ) (ei : ρ[i]? = some (.own ds)) (es : σ[i]? = some (some (.ref q))) (eq : H q = some (.lst vs)) (n0 : H0 q = none) (nh : ¬ isH h.a H q) (nf : NF h q)
    (da : DenA K mg h.a H0 vs ds) : Slots K mg h (upd H0 q (.lst vs)) H σ (ρ.set i (.dat (.lst ds))) := by
  have e0 : Same H0 (upd H0 q (.lst vs)) := same_upd' n0
  have hl : i < ρ.length := (List.getElem?_eq_some_iff.mp ei).1
  refine ⟨by rw [List.length_set]; exact S.len, fun j o l a b => ?_, fun j k p a b e1 e2 m1 m2 e3 e4 => ?_, ⟨S.st.s0.trans e0, fun p o x y z => ?_⟩⟩
  · by_cases hj : i = j
    · subst hj
      rw [List.getElem?_set_self hl] at b
      cases b
      rw [es] at a
      cases a
      exact .lst upd_same (da.mono e0)
    · rw [List.getElem?_set_ne hj] at b
      have w := S.at_ j o l a b
      cases o with
      | none =>
        cases l with
        | no => exact True.intro
        | dat d => exact w
        | own ds => exact w
        | slf c fs => exact w
      | some v =>
        cases l with
        | no => exact True.intro
        | dat d => exact Den.mono e0 w
        | own ds' =>
          obtain ⟨p', vs', rfl, a1, b1, c1, nf1, d1⟩ := w
          have ne : p' ≠ q := fun z => by
            subst z
            exact hj (S.ds i j p' _ _ ei b rfl rfl es a)
          exact ⟨p', vs', rfl, a1, by rw [upd_ne ne]; exact b1, c1, nf1, d1.mono e0⟩
        | slf c fs =>
          obtain ⟨p', C, dx, vs', rfl, ep, m, a1, b1, c1, nf1, d1⟩ := w
          have ne : p' ≠ q := fun z => by
            subst z
            exact hj (S.ds i j p' _ _ ei b rfl rfl es a)
          exact ⟨p', C, dx, vs', rfl, ep, m, a1, by rw [upd_ne ne]; exact b1, c1, nf1, d1.mono e0⟩
  · have ne : ∀ (j : Nat) (a : Sl), (ρ.set i (.dat (.lst ds)))[j]? = some a → a.mine = true → ρ[j]? = some a := fun j a e m => by
      by_cases hj : i = j
      · subst hj
        rw [List.getElem?_set_self hl] at e
        cases e
        cases m
      · rwa [List.getElem?_set_ne hj] at e
    exact S.ds j k p a b (ne j a e1 m1) (ne k b e2 m2) m1 m2 e3 e4
  · obtain ⟨a1, b1, c1⟩ := S.st.fr p o x y z
    have ne : p ≠ q := fun w => by
      subst w
      exact z (nf o x y)
    exact ⟨a1, by rw [upd_ne ne]; exact b1, c1⟩
theorem G.frz {h : Addr} {H0 H : Hp} {s : Hd} {q : Addr} {u : HO} (g : G h H0 H s) (eq : H q = some u) (nh : ¬ isH h H q) : G h (upd H0 q u) H s := by
  obtain ⟨gl, a1, a2, a3, a4⟩ := g.gl
  refine ⟨fun p o x => ?_, by rw [upd_ne fun z => nh (.inl z.symm)]; exact g.h0, gl, by rw [upd_ne fun z => nh (.inr ⟨_, by rw [← z]; exact a3⟩)]; exact a1, a2, a3, a4⟩
  by_cases e : p = q
  · subst e
    rw [upd_same] at x
    cases x
    exact eq
  · rw [upd_ne e] at x
    exact g.ex _ _ x
theorem ss_frz {i : Nat} (hs : SS K mg Wx ts ms) : SS K mg Wx ts (fun ρ s => ms (frzE ρ i) s) := by
  intro h H0 H s σ ρ D g S p
  have p : PostS K mg h (ms (frzE ρ i) s) H0 H Wx D := p
  unfold frzE at p
  split at p
  · rename_i ds ei
    obtain ⟨q, vs, es, eq, n0, nh, nf, da⟩ := S.own ei
    exact hs h _ H s σ _ D (g.frz eq nh) (S.frz ei es eq n0 nh nf da) (PostS.step (same_upd' n0) p)
  · exact hs h H0 H s σ ρ D g S p
theorem ss_frzs (hs : SS K mg Wx ts ms) : ∀ is : List Nat, SS K mg Wx ts (mFrz is ms)
  | [] => hs
  | i :: is => ss_frz (ms := mFrz is ms) (ss_frzs hs is)
/-! ### an own list lent to a reading whose result holds no list -/
mutual
theorem Den.lf {h : Addr} {H : Hp} {q : Addr} {us : List V} (eq : H q = some (.lst us)) : ∀ {v : V} {d : Dt}, Den K mg h H v d → lfree d = true → Den K mg h (del H q) v d
  | _, _, .non, _ => .non
  | _, _, .bl b, _ => .bl b
  | _, _, .int i, _ => .int i
  | _, _, .str x, _ => .str x
  | _, .tup ds, .tup e r, l => .tup (sqt_del eq e) (DenA.lf eq r (by unfold lfree at l; exact l))
  | _, .lst ds, .lst e r, l => by
    unfold lfree at l
    cases l
  | _, .obj c fs, .obj m e r, l => .obj m (by rw [del_ne fun z => by rw [z, eq] at e; cases e]; exact e) (DenF.lf eq r (by unfold lfree at l; exact l))
  | _, _, .hnd, _ => .hnd
  | _, _, .dct e, _ => .dct (by rw [del_ne fun z => by rw [z, eq] at e; cases e]; exact e)
  | _, _, .fn e, _ => .fn e
theorem DenA.lf {h : Addr} {H : Hp} {q : Addr} {us : List V} (eq : H q = some (.lst us)) : ∀ {v : List V} {d : List Dt}, DenA K mg h H v d → lfreeA d = true → DenA K mg h (del H q) v d
  | _, _, .nil, _ => .nil
  | _, d :: ds, .cons r t, l => by
    unfold lfreeA at l
    rw [Bool.and_eq_true] at l
    exact .cons (Den.lf eq r l.1) (DenA.lf eq t l.2)
theorem DenF.lf {h : Addr} {H : Hp} {q : Addr} {us : List V} (eq : H q = some (.lst us)) : ∀ {v : List (Str × V)} {d : List (Str × Dt)}, DenF K mg h H v d → lfreeF d = true → DenF K mg h (del H q) v d
  | _, _, .nil, _ => .nil
  | _, (n, d) :: ds, .cons r t, l => by
    unfold lfreeF at l
    rw [Bool.and_eq_true] at l
    exact .cons (Den.lf eq r l.1) (DenF.lf eq t l.2)
end
/-- behind the lending: the list is one's own again -/
theorem lend_back {h : Addr} {H0 H A B : Hp} {s' : Hd} {q : Addr} {us : List V} (eq : H q = some (.lst us)) (n0 : H0 q = none) (st : Step h (upd H0 q (.lst us)) H A B) (g : G h A B s') : Step h H0 H (del A q) B ∧ G h (del A q) B s' ∧ A q = some (.lst us) ∧ ¬ isH h B q ∧ Same H0 (del A q) := by
  have aq : A q = some (.lst us) := st.s0 _ _ upd_same
  obtain ⟨gl, a1, a2, a3, a4⟩ := g.gl
  have nh : ¬ isH h B q := fun z => by
    rcases z with z | ⟨r, z⟩
    · rw [z, g.h0] at aq
      cases aq
    · rw [a3] at z
      cases z
      rw [a1] at aq
      cases aq
  have sm : Same H0 (del A q) := fun b o e => by
    have nb : b ≠ q := ne_of_none e n0
    rw [del_ne nb]
    exact st.s0 _ _ (by rw [upd_ne nb]; exact e)
  refine ⟨⟨sm, fun b o x y z => ?_⟩, ⟨fun b o x => ?_, ?_, gl, ?_, a2, a3, a4⟩, aq, nh, sm⟩
  · by_cases e : b = q
    · subst e
      rw [x] at eq
      cases eq
      exact ⟨g.ex _ _ aq, del_same, nh⟩
    · obtain ⟨w1, w2, w3⟩ := st.fr b o x (by rw [upd_ne e]; exact y) z
      exact ⟨w1, by rw [del_ne e]; exact w2, w3⟩
  · by_cases e : b = q
    · subst e
      rw [del_same] at x
      cases x
    · rw [del_ne e] at x
      exact g.ex _ _ x
  · by_cases e : h = q
    · rw [e, del_same]
    · rw [del_ne e]
      exact g.h0
  · by_cases e : gl = q
    · rw [e, del_same]
    · rw [del_ne e]
      exact a1
theorem err_lend {h : Ent} {H0 H : Hp} {σ : L2.St} {ρ ρ' : Env'} {q : Addr} {us : List V} {s' : Hd} {c : Str} {fs : List (Str × Dt)} (S : Slots K mg h H0 H σ ρ) (eq : H q = some (.lst us)) (n0 : H0 q = none) (l : lfreeF fs = true) (p : ErrP K mg h H0 c fs (ρ'.map lfSl) s' Wx) : ErrP K mg h (upd H0 q (.lst us)) c fs ρ' s' Wx := by
  intro σ' C dd A B sm g S' mc x
  have aq : A q = some (.lst us) := sm _ _ upd_same
  have sm0 : Same H0 (del A q) := fun b o e => by
    have nb : b ≠ q := ne_of_none e n0
    rw [del_ne nb]
    exact sm _ _ (by rw [upd_ne nb]; exact e)
  have g2 : G h.a (del A q) B s' := by
    obtain ⟨gl, a1, a2, a3, a4⟩ := g.gl
    refine ⟨fun b o x => ?_, ?_, gl, ?_, a2, a3, a4⟩
    · by_cases e : b = q
      · subst e
        rw [del_same] at x
        cases x
      · rw [del_ne e] at x
        exact g.ex _ _ x
    · by_cases e : h.a = q
      · rw [e, del_same]
      · rw [del_ne e]
        exact g.h0
    · by_cases e : gl = q
      · rw [e, del_same]
      · rw [del_ne e]
        exact a1
  refine p σ' C dd (del A q) B sm0 g2 ⟨by rw [List.length_map]; exact S'.len, fun j o l' a b => ?_, fun i j p a b e1 _ m1 _ _ _ => ?_, ?_⟩ mc (by cases dd with | none => exact x | some dd => obtain ⟨nz, fv, x, f⟩ := x; exact ⟨nz, fv, x, f.lf aq l⟩)
  · rw [List.getElem?_map] at b
    cases e : ρ'[j]? with
    | none =>
      rw [e] at b
      cases b
    | some l0 =>
      rw [e] at b
      cases b
      have w := S'.at_ j o l0 a e
      cases l0 with
      | dat d =>
        by_cases c : lfree d = true
        · have e2 : lfSl (.dat d) = .dat d := if_pos c
          rw [e2]
          cases o with
          | none => exact w
          | some v => exact Den.lf aq w c
        · have e2 : lfSl (.dat d) = .no := if_neg c
          rw [e2]
          cases o <;> exact True.intro
      | no => cases o <;> exact True.intro
      | own ds => cases o <;> exact True.intro
      | slf c fs => cases o <;> exact True.intro
  · rw [List.getElem?_map] at e1
    cases e : ρ'[i]? with
    | none =>
      rw [e] at e1
      cases e1
    | some l0 =>
      rw [e] at e1
      cases e1
      cases l0 with
      | dat d =>
        by_cases c : lfree d = true
        · have e2 : lfSl (.dat d) = .dat d := if_pos c
          rw [e2] at m1
          cases m1
        · have e2 : lfSl (.dat d) = .no := if_neg c
          rw [e2] at m1
          cases m1
      | no => cases m1
      | own ds => cases m1
      | slf c fs => cases m1
  · refine ⟨S.st.s0.trans sm0, fun b o x y z => ?_⟩
    obtain ⟨w1, w2, w3⟩ := S'.st.fr b o x y z
    refine ⟨w1, ?_, w3⟩
    by_cases e : b = q
    · rw [e, del_same]
    · rw [del_ne e]
      exact w2
theorem se_bor {i : Nat} (ha : SE K mg Wx ta a) : SE K mg Wx ta (mBor i a) := by
  intro h H0 H s σ ρ Q g S p
  have p : Post K mg h (Den K mg h.a) (mBor i a ρ s) H0 H Wx Q := p
  unfold mBor at p
  split at p
  · rename_i ds ei
    obtain ⟨q, vs, es, eq, n0, nh, nf, da⟩ := S.own ei
    refine ha h _ H s σ _ Q (g.frz eq nh) (S.frz ei es eq n0 nh nf da) ?_
    split at p
    · rename_i d s' e
      rw [e]
      split at p
      · rename_i l
        intro v A B st g1 dv
        obtain ⟨st2, g2, aq, _⟩ := lend_back eq n0 st g1
        exact p v _ B st2 g2 (dv.lf aq l)
      · exact p.elim
    · rename_i c fs ρ' s' e
      rw [e]
      split at p
      · rename_i l
        exact err_lend S eq n0 l p
      · exact p.elim
    · exact p.elim
  · exact ha h H0 H s σ ρ Q g S p
theorem st_bor {i : Nat} {tt : TT} {mt : MT} (ha : ST K mg Wx tt mt) : ST K mg Wx tt (mBorT i mt) := by
  intro h H0 H s σ ρ Q g S p
  have p : Post K mg h EqB (mBorT i mt ρ s) H0 H Wx Q := p
  unfold mBorT at p
  split at p
  · rename_i ds ei
    obtain ⟨q, vs, es, eq, n0, nh, nf, da⟩ := S.own ei
    refine ha h _ H s σ _ Q (g.frz eq nh) (S.frz ei es eq n0 nh nf da) ?_
    split at p
    · rename_i d s' e
      rw [e]
      intro v A B st g1 dv
      obtain ⟨st2, g2, aq, _⟩ := lend_back eq n0 st g1
      exact p v _ B st2 g2 dv
    · rename_i c fs ρ' s' e
      rw [e]
      split at p
      · rename_i l
        exact err_lend S eq n0 l p
      · exact p.elim
    · exact p.elim
  · exact ha h H0 H s σ ρ Q g S p
end
end Mir


set_option Elab.async false
set_option linter.all false
set_option maxRecDepth 100000
/-! Texts of one's own lists; objects: made, their fields, methods, len, ==. -/
namespace Mir
open PySem PySem.Spec PyProof.Rows L2
open PySem.W (Frag)

/-! ### one's own lists: texts -/
section
variable {X : Cx} {Wx : WX} {a b e e2 : Expr} {ma mb : ME} {as m : MA} {es : List Expr} {pos p p2 p3 p4 : Pos} {mt : MT} {st : Stmt} {sts : List Stmt} {ms : MS}
theorem qf_lst (h : QA X Wx es as) : QF X Wx (.List es pos) (mLstO as) := by
  obtain ⟨t, q, s⟩ := h
  exact ⟨_, pe_lst q, sf_lst s⟩
theorem qf_list (ha : QE X Wx e ma) (hg : Gl X "list") (hm : X.mg "list" = none) (he : starEach [e] X.env = (false, eval e X.env) :: starEach [] X.env := by rfl) (hpl : (backTo pos (starEach [] X.env)).any (·.1) = false := by rfl) : QF X Wx (.Call (.Name "list" p) [e] [] pos) (mListO ma) := by
  obtain ⟨t, q, s⟩ := ha
  exact ⟨_, pe_callTy call_list_of hg hm (by decide +kernel) (pa_cons q pa_nil he) (by decide) (by decide) he hpl, sf_listc s⟩
theorem qf_cat (ha : QE X Wx a ma) (hb : QE X Wx b mb) : QF X Wx (.BinOp a .Add b pos) (mCatO ma mb) := by
  obtain ⟨ta, pa, sa⟩ := ha
  obtain ⟨tb, pb, sb⟩ := hb
  exact ⟨_, pe_op op_addA pa pb, sf_cat sa sb⟩
theorem qs_setO (i : Nat) {x : Str} {pos' : Pos} (hN : X.N.Nodup) (he : QF X Wx e m) (hi : X.N[i]? = some x := by rfl) (hx : Loc X.env.scope x := by first | exact Or.inl rfl | exact Or.inr rfl) (hs : swapsWith e (some (.Name x pos')) pos.line X.env = pure false := by rfl)
    (hf : X.fn x = true ∨ X.env.scope.names.lookup x = some .local := by first | exact .inl rfl | exact .inr rfl) : QS X Wx (.Assign [.Name x pos'] e pos) (mSetO i m) := by
  obtain ⟨t, q, s⟩ := he
  exact ⟨_, ps_set hN hi hx q hs hf, ss_setO s⟩
theorem qs_app (i : Nat) {x : Str} (hN : X.N[i]? = some x) (he : QE X Wx e ma) (hv : Vis X.env.scope x := by first | exact Or.inl rfl | exact Or.inr (Or.inl rfl) | exact Or.inr (Or.inr rfl)) (hd : (x == ("__debug__" : Str)) = false := by decide)
    (hcd : (x == ("__classdict__" : Str)) = false := by decide)
    (hbase : attributeBase (.Name x p) "append" X.env (eval (.Name x p) X.env) = eval (.Name x p) X.env := by rfl)
    (hfew : ((backTo p3 (starEach [e] X.env)).all (fun x => !x.1) && (backToKw p3 (keywordEach [] X.env)).all (fun x => x.1.isSome) && decide ([e].length + ([] : List Keyword).length + (if ([] : List Keyword).isEmpty then 0 else 1) < 30)) = true := by rfl)
    (hline : (p2.endLine == p3.line) = true := by rfl) (hse : starEach [e] X.env = (false, eval e X.env) :: starEach [] X.env := by rfl) (hplain : (backTo p3 (starEach [] X.env)).any (·.1) = false := by rfl)
    (hs : swapsWith (.Call (.Attribute (.Name x p) "append" p2) [e] [] p3) none pos.line X.env = pure false := by rfl) : QS X Wx (.Expr (.Call (.Attribute (.Name x p) "append" p2) [e] [] p3) pos) (mApp i ma) := by
  obtain ⟨t, q, s⟩ := he
  exact ⟨_, ps_expr (pe_bm PySem.F.plainAttrs_list PySem.F.slot_list_append PySem.F.type_list_append mt_append (pe_var hN hv hd hcd) (pa_cons q pa_nil hse) hbase hfew hline hse hplain) hs, ss_app s⟩
theorem qs_setI (i : Nat) {x : Str} (hN : X.N[i]? = some x) (hb : QE X Wx b mb) (ha : QE X Wx a ma) (hv : Vis X.env.scope x := by first | exact Or.inl rfl | exact Or.inr (Or.inl rfl) | exact Or.inr (Or.inr rfl)) (hd : (x == ("__debug__" : Str)) = false := by decide)
    (hcd : (x == ("__classdict__" : Str)) = false := by decide)
    (hh : ∀ v, assign (.Subscript (.Name x p) b p2) X.env v = (do
      let ov ← holding [v] (eval (.Name x p) X.env)
      let iv ← holding [v, ov] (eval b X.env)
      standAt p2
      holding [v, ov, iv] (setItem ov iv v)
      release [v, ov, iv] []) := by intro _; rfl)
    (hs : swapsWithSole [.Subscript (.Name x p) b p2] a pos.line X.env = pure false := by rfl) (hw : swappedStores [.Subscript (.Name x p) b p2] a X.env = pure none := by rfl)
    (h1 : (assignEach [.Subscript (.Name x p) b p2] X.env).map (·.2) = [assign (.Subscript (.Name x p) b p2) X.env] := by rfl) : QS X Wx (.Assign [.Subscript (.Name x p) b p2] a pos) (mSetI i mb ma) := by
  obtain ⟨ta, pa, sa⟩ := ha
  obtain ⟨tb, pb, sb⟩ := hb
  exact ⟨_, ps_asg pa (pg_sub (pe_var hN hv hd hcd) pb set_list hh) hs hw h1, ss_setI sb sa⟩
theorem qe_ixO (i : Nat) {x : Str} (hN : X.N[i]? = some x) (hb : QE X Wx b mb) (hv : Vis X.env.scope x := by first | exact Or.inl rfl | exact Or.inr (Or.inl rfl) | exact Or.inr (Or.inr rfl)) (hd : (x == ("__debug__" : Str)) = false := by decide)
    (hcd : (x == ("__classdict__" : Str)) = false := by decide) (hs : PlainIx b := by exact fun _ _ => rfl) : QE X Wx (.Subscript (.Name x p) b pos) (mIxO i mb) := by
  obtain ⟨tb, pb, sb⟩ := hb
  exact ⟨_, pe_ix ix_seq (pe_var hN hv hd hcd) pb hs, se_ixO sb⟩
theorem qe_bor (i : Nat) (ha : QE X Wx a ma) : QE X Wx a (mBor i ma) := by
  obtain ⟨t, q, s⟩ := ha
  exact ⟨t, q, se_bor s⟩
theorem qt_bor (i : Nat) (ha : QT X Wx a mt) : QT X Wx a (mBorT i mt) := by
  obtain ⟨t, q, s⟩ := ha
  exact ⟨t, q, st_bor s⟩
theorem qs_frz (is : List Nat) (hs : QS X Wx st ms) : QS X Wx st (mFrz is ms) := by
  obtain ⟨t, q, s⟩ := hs
  exact ⟨t, q, ss_frzs s is⟩
end
section
variable {X : Cx} {Wx : WX} {elt tg iter : Expr} {scope : Scope} {own : List (Str × Nat)} {pos : Pos} {g : TG} {m : GM} {js : List Nat} {ifs : List Expr} {mt : MT} {ma : ME}
theorem qf_lc {mi : MA} {vs : List Nat} (hc : X.calm = true) (hN : X.N.Nodup) (hi : QI X Wx iter mi) (ok : BlkOk X.N X.env.scope scope own) (hvs : own.map (·.2) = vs) (hv : ∀ j ∈ js, j ∈ vs) (hsg : SG X.K X.mg js g m)
    (hg : ∀ (s : Shared) (H : Hp) (C : Addr) (cl : List (Str × Addr)) (fp : List Addr), PG (X.blk s H scope (compEnvC scope cl C X.env) fp) tg g)
    (ht : ∀ (s : Shared) (H : Hp) (C : Addr) (cl : List (Str × Addr)) (fp : List Addr), QTs (X.blk s H scope (compEnvC scope cl C X.env) fp) ifs mt)
    (he : ∀ (s : Shared) (H : Hp) (C : Addr) (cl : List (Str × Addr)) (fp : List Addr), QE (X.blk s H scope (compEnvC scope cl C X.env) fp) WF elt ma) :
    QF X Wx (.ListComp elt [⟨tg, iter, ifs, 0⟩] scope pos) (mToL (mLc m mi mt ma vs)) := by
  subst hvs
  obtain ⟨wi, q, s, hs⟩ := hi
  exact ⟨_, pe_lc hc hN (q _) ok hg (fun s H C cl fp => (ht s H C cl fp).can) (fun s H C cl fp => (he s H C cl fp).can) hs, sf_lc s hsg hv st_cT se_cE⟩
theorem qs_setLcO {mi : MA} {vs : List Nat} (i : Nat) {y : Str} {py spos : Pos} (hc : X.calm = true) (hN : X.N.Nodup) (hi : QI X Wx iter mi) (ok : BlkOk X.N X.env.scope scope own) (hvs : own.map (·.2) = vs) (hv : ∀ j ∈ js, j ∈ vs) (hsg : SG X.K X.mg js g m)
    (hg : ∀ (s : Shared) (H : Hp) (C : Addr) (cl : List (Str × Addr)) (fp : List Addr), PG (X.blk s H scope (compEnvC scope cl C X.env) fp) tg g)
    (ht : ∀ (s : Shared) (H : Hp) (C : Addr) (cl : List (Str × Addr)) (fp : List Addr), QTs (X.blk s H scope (compEnvC scope cl C X.env) fp) ifs mt)
    (he : ∀ (s : Shared) (H : Hp) (C : Addr) (cl : List (Str × Addr)) (fp : List Addr), QE (X.blk s H scope (compEnvC scope cl C X.env) fp) WF elt ma)
    (hy : X.N[i]? = some y := by rfl) (hyl : X.env.scope.names.lookup y = some .local := by rfl) (hsw : swapsWith (.ListComp elt [⟨tg, iter, ifs, 0⟩] scope pos) (some (.Name y py)) spos.line X.env = pure true := by exact sw_true rfl rfl rfl (by decide +kernel)) :
    QS X Wx (.Assign [.Name y py] (.ListComp elt [⟨tg, iter, ifs, 0⟩] scope pos) spos) (mSetO i (mToL (mLc m mi mt ma vs))) := by
  subst hvs
  obtain ⟨wi, q, s, hs⟩ := hi
  exact ⟨_, ps_setLc hc hN hy hyl hsw (q _) ok hg (fun s H C cl fp => (ht s H C cl fp).can) (fun s H C cl fp => (he s H C cl fp).can) hs, ss_setO (sf_lc s hsg hv st_cT se_cE)⟩
end

/-! ### fields -/
def mAttr (cs : List Str) (f : Str) (a : ME) : ME := fun ρ s => (a ρ s).bind fun d s1 => match d with
  | .obj c fs => if c ∈ cs then liftO (fs.lookup f) s1 else .bad
  | _ => .bad
/-- in the classes cs the name f is a field -/
def FldOk (K : Frag) (mg : Str → Option Value) (cs : List Str) (f : Str) : Prop := ∀ c ∈ cs, ∀ C, mg c = some (.ref C) → Cls K C ∧ NoAttr K C f
def putFD (f : Str) (v : Dt) : List (Str × Dt) → List (Str × Dt)
  | [] => [(f, v)]
  | (g, x) :: r => if g = f then (g, v) :: r else (g, x) :: putFD f v r
/-- self.f = a, self at slot i still being made -/
def mFld (i : Nat) (cs : List Str) (f : Str) (a : ME) : MS := fun ρ s => (a ρ s).bind fun d s1 => match ρ[i]? with
  | some (.slf c fs) => if c ∈ cs ∧ fs.length < 1000 then .ok (.nx (ρ.set i (.slf c (putFD f d fs)))) s1 else .bad
  | _ => .bad
section
variable {K : Frag} {mg : Str → Option Value} {Wx : WX} {ta tb : TE} {a b : ME} {cs : List Str} {f : Str}
theorem DenF.put {h : Addr} {H : Hp} {v : V} {d : Dt} (q : Den K mg h H v d) : ∀ {fv : List (Str × V)} {fs : List (Str × Dt)}, DenF K mg h H fv fs → DenF K mg h H (putF f v fv) (putFD f d fs)
  | _, _, .nil => .cons q .nil
  | _, _, @DenF.cons _ _ _ _ n x vs d' ds r t => by
    unfold putF putFD
    by_cases c : n = f
    · rw [if_pos c, if_pos c]
      exact .cons q t
    · rw [if_neg c, if_neg c]
      exact .cons r (DenF.put q t)
theorem DenF.len {h : Addr} {H : Hp} : ∀ {fv : List (Str × V)} {fs : List (Str × Dt)}, DenF K mg h H fv fs → fv.length = fs.length
  | _, _, .nil => rfl
  | _, _, .cons _ t => congrArg Nat.succ (DenF.len t)
theorem DenF.no {h : Addr} {H : Hp} : ∀ {fv : List (Str × V)} {fs : List (Str × Dt)}, DenF K mg h H fv fs → fs.lookup f = none → fv.lookup f = none
  | _, _, .nil, _ => rfl
  | _, _, @DenF.cons _ _ _ _ n x vs d' ds r t, e => by
    by_cases c : f = n
    · subst c
      simp only [List.lookup, beq_self_eq_true] at e
      cases e
    · have c' : (f == n) = false := by simpa using c
      simp only [List.lookup, c'] at e ⊢
      exact DenF.no t e
theorem se_attr (hc : FldOk K mg cs f) (ha : SE K mg Wx ta a) : SE K mg Wx (tFld K ta f) (mAttr cs f a) := by
  intro h H0 H s σ ρ Q g S p
  refine ha h H0 H s σ ρ _ g S (Post.bind p fun d s1 x A B st g1 dx p1 => ?_)
  cases dx with
  | @obj aa C dxx c fv fs m e r =>
    by_cases cc : c ∈ cs
    · simp only [if_pos cc] at p1
      obtain ⟨z, hz, p2⟩ := post_lift p1
      obtain ⟨v, e1, e2⟩ := r.look hz
      obtain ⟨k1, k2⟩ := hc c cc C m
      exact ⟨aa, C, dxx, fv, v, rfl, g1.ex _ _ e, k1, k2, e1, p2 v A B (.refl _ _) g1 e2⟩
    · simp only [if_neg cc] at p1
      exact p1.elim
  | _ => exact p1.elim
theorem ss_fld {i : Nat} (hc : FldOk K mg cs f) (ha : SE K mg Wx ta a) : SS K mg Wx (sFld K (tVar i) ta f) (mFld i cs f a) := by
  intro h H0 H s σ ρ D g S p
  refine ha h H0 H s σ ρ _ g S (PostS.bind p fun d s1 x A B st g1 dx p1 => ?_)
  split at p1
  · rename_i c fs ei
    obtain ⟨q, C, dxx, vs, es, ep, m, eq, n0, nh, nf, da⟩ := (S.step st).slf ei
    by_cases cc : c ∈ cs ∧ fs.length < 1000
    · rw [if_pos cc] at p1
      obtain ⟨k1, k2⟩ := hc c cc.1 C m
      have nha : q ≠ h.a := fun z => nh (.inl z)
      refine ⟨.ref q, es, q, C, dxx, vs, rfl, eq, k1, k2, by rw [da.len]; exact cc.2, ?_⟩
      exact p1 σ A _ (Same.refl _) (g1.at n0 nh) ((S.step st).mut (u := .ins C dxx (putF f x vs)) ei rfl es nh nf rfl ⟨q, C, dxx, _, rfl, ep, m, upd_same, n0, isH_upd nha nh, nf, da.put dx⟩)
    · rw [if_neg cc] at p1
      exact p1.elim
  · exact p1.elim
end
section
variable {X : Cx} {Wx : WX} {a e : Expr} {ma : ME} {pos p p2 : Pos} {f : Str} {cs : List Str}
theorem qe_attr (hc : FldOk X.K X.mg cs f) (ha : QE X Wx a ma) (hb : attributeBase a f X.env (eval a X.env) = eval a X.env := by rfl) : QE X Wx (.Attribute a f pos) (mAttr cs f ma) := by
  obtain ⟨t, q, s⟩ := ha
  exact ⟨_, pe_fld q hb, se_attr hc s⟩
theorem qs_fld (i : Nat) {x : Str} (hc : FldOk X.K X.mg cs f) (hN : X.N[i]? = some x) (he : QE X Wx e ma) (hv : Vis X.env.scope x := by first | exact Or.inl rfl | exact Or.inr (Or.inl rfl) | exact Or.inr (Or.inr rfl)) (hd : (x == ("__debug__" : Str)) = false := by decide)
    (hcd : (x == ("__classdict__" : Str)) = false := by decide) (hs : swapsWith e (some (.Attribute (.Name x p) f p2)) pos.line X.env = pure false := by rfl) : QS X Wx (.Assign [.Attribute (.Name x p) f p2] e pos) (mFld i cs f ma) := by
  obtain ⟨t, q, s⟩ := he
  exact ⟨_, ps_fld (pe_var hN hv hd hcd) q hs, ss_fld hc s⟩
end

/-! ### objects that are made -/
section
variable (K : Frag) (mg : Str → Option Value)
/-- what __init__ of the class c promises: the fields that m says -/
def spN (c : Str) (n : Nat) (m : List Dt → Hd → R (List (Str × Dt))) : Sp := fun vs H Q E => vs.length = n + 1 ∧ ∃ (h : Addr) (H0 : Hp) (s : Hd) (p C dx : Addr) (ws : List V) (ds : List Dt), vs = .ref p :: ws ∧ mg c = some (.ref C) ∧ H p = some (.ins C dx []) ∧ H0 p = none ∧ ¬ isH h H p ∧ G h H0 H s ∧ DenA K mg h H0 ws ds ∧
  (match m ds s with
    | .ok fs s' => ∀ (dx' : Addr) (fv : List (Str × V)) (H0' H' : Hp), Step h H0 (del H p) H0' H' → G h H0' H' s' → H' p = some (.ins C dx' fv) → H0' p = none → ¬ isH h H' p → DenF K mg h H0' fv fs → Q .non H'
    | .err c' fs _ s' => ∀ (C' : Addr) (od : Option Addr) (H0' H' : Hp), Step h H0 (del H p) H0' H' → G h H0' H' s' → mg c' = some (.ref C') → XdOk K mg h H0' H' od fs → E (.ref C') od H'
    | .bad => False)
end
def mMake (c : Str) (n : Nat) (dd : List Dt) (m : List Dt → Hd → R (List (Str × Dt))) (as : MA) : ME := fun ρ s => (as ρ s).bind fun ds s1 =>
  if (ds ++ dd).length = n then (match m (ds ++ dd) s1 with
    | .ok fs s2 => .ok (.obj c fs) s2
    | .err c' fs _ s2 => .err c' fs ρ s2
    | .bad => .bad) else .bad
/-- the function of an __init__ -/
def startI (n : Nat) (c : Str) (ds : List Dt) : Env' := .slf c [] :: (ds.map .dat ++ List.replicate (n - (ds.length + 1)) .no)
def mInit (n : Nat) (c : Str) (ms : MS) : List Dt → Hd → R (List (Str × Dt)) := fun ds s => match ms (startI n c ds) s with
  | .ok (.nx ρ) s' => (match ρ[0]? with
    | some (Sl.slf c' fs) => if c' = c then .ok fs s' else .bad
    | _ => .bad)
  | .err c fs ρ s' => .err c fs ρ s'
  | _ => .bad
/-- C(e, ..) -/
def tMakeS (C : Addr) (sp : Sp) (dvs : List V) (E : L2.St → XK) (t : TA) : TE := fun σ H Q => t σ H fun vs H1 => ∀ x dx, H1 x = none → H1 dx = none → dx ≠ x → sp (.ref x :: (vs ++ dvs)) (upd (upd H1 dx (.own x)) x (.ins C dx [])) (fun v H2 => v = .non ∧ Q (.ref x) H2) (E σ)
section
variable {K : Frag} {mg : Str → Option Value} {Wx : WX} {t : TA} {as : MA}
theorem se_make {c : Str} {n : Nat} {C : Addr} {dvs : List V} {dd : List Dt} {m : List Dt → Hd → R (List (Str × Dt))} (hC : mg c = some (.ref C)) (hd : ∀ (h : Addr) (H : Hp), DenA K mg h H dvs dd) (ha : SA K mg Wx t as) : SE K mg Wx (tMakeS C (spN K mg c n m) dvs (WE Wx) t) (mMake c n dd m as) := by
  intro h H0 H s σ ρ Q g S p
  refine ha h H0 H s σ ρ _ g S (Post.bind p fun ds s1 xs A B st g1 dx p1 => ?_)
  by_cases cc : (ds ++ dd).length = n
  · rw [if_pos cc] at p1
    have dx2 := dx.append (hd h A)
    intro x dxx nx nd ne
    obtain ⟨g2, st2⟩ := g1.side (o := .own x) nd
    have nx2 : (upd B dxx (.own x)) x = none := by rw [upd_ne (Ne.symm ne)]; exact nx
    obtain ⟨g3, st3⟩ := g2.side (o := .ins C dxx []) nx2
    have ax : A x = none := g1.ex.free nx
    have back : ∀ {H0' H' : Hp}, Step h.a A (del (upd (upd B dxx (.own x)) x (.ins C dxx [])) x) H0' H' → Step h.a A B H0' H' := fun {H0' H'} w => ⟨w.s0, fun q o e1 e2 e3 => by
      have n1 : q ≠ x := ne_of_none e1 nx
      have n2 : q ≠ dxx := ne_of_none e1 nd
      obtain ⟨gl, a1, a2, a3, a4⟩ := g1.gl
      have n3 : h.a ≠ x := ne_of_none a3 nx
      have n4 : h.a ≠ dxx := ne_of_none a3 nd
      refine w.fr q o (by rw [del_ne n1, upd_ne n1, upd_ne n2]; exact e1) e2 fun z => e3 ?_
      rcases z with z | ⟨r, z⟩
      · exact .inl z
      · rw [del_ne n3, upd_ne n3, upd_ne n4] at z
        exact .inr ⟨r, z⟩⟩
    refine ⟨by show (xs ++ dvs).length + 1 = n + 1; rw [dx2.len, cc], h, A, s1, x, C, dxx, _, _, rfl, hC, upd_same, ax, sf_lst.notH g2 nx2, g3, dx2, ?_⟩
    cases hm : m (ds ++ dd) s1 with
    | ok fs s2 =>
      rw [hm] at p1
      intro dx' fv H0' H' w g4 e1 e2 e3 df
      have w2 := back w
      have e0 : Same H0' (upd H0' x (.ins C dx' fv)) := same_upd' e2
      refine ⟨rfl, p1 (.ref x) (upd H0' x (.ins C dx' fv)) H' ⟨w2.s0.trans e0, fun q o y1 y2 y3 => ?_⟩ (g4.frz e1 e3) (.obj hC upd_same (df.mono e0))⟩
      obtain ⟨z1, z2, z3⟩ := w2.fr q o y1 y2 y3
      exact ⟨z1, by rw [upd_ne (ne_of_none y1 nx)]; exact z2, z3⟩
    | err c' fs ρ' s2 =>
      rw [hm] at p1
      exact fun C' e A2 B2 w g4 mc xx => p1 σ C' e A2 B2 w.s0 g4 (S.step (st.trans (back w))) mc xx
    | bad =>
      rw [hm] at p1
      exact p1.elim
  · rw [if_neg cc] at p1
    exact p1.elim
theorem slots_init {h : Addr} {H0 H : Hp} {N : List Str} {vs : List V} {ds : List Dt} {c : Str} {p C dx : Addr} (hN : 0 < N.length) (hc : mg c = some (.ref C)) (hp : H p = some (.ins C dx [])) (h0 : H0 p = none) (nh : ¬ isH h H p) (da : DenA K mg h H0 vs ds) :
    Slots K mg ⟨h, H0, del H p, p⟩ H0 H (L2.start N (.ref p :: vs)) (startI N.length c ds) := by
  have l := da.len
  have nf : NF ⟨h, H0, del H p, p⟩ p := fun o e _ => by
    have e : del H p p = some o := e
    rw [del_same] at e
    cases e
  have st : Step h H0 (del H p) H0 H := by
    refine ⟨Same.refl _, fun q o x y z => ?_⟩
    have nq : q ≠ p := fun w => by
      subst w
      rw [del_same] at x
      cases x
    rw [del_ne nq] at x
    refine ⟨x, y, fun w => z ?_⟩
    rcases w with w | ⟨r, w⟩
    · exact .inl w
    · by_cases e : h = p
      · exact absurd (.inl e.symm) nh
      · exact .inr ⟨r, by rw [del_ne e]; exact w⟩
  have own : ∀ (i : Nat) (b : Sl), (ds.map Sl.dat ++ List.replicate (N.length - (ds.length + 1)) Sl.no)[i]? = some b → b.mine = true → False := fun i b z m => by
    by_cases hi : i < ds.length
    · rw [List.getElem?_append_left (by rw [List.length_map]; exact hi), List.getElem?_map, List.getElem?_eq_getElem hi] at z
      cases z
      cases m
    · rw [List.getElem?_append_right (by rw [List.length_map]; omega), List.getElem?_replicate] at z
      split at z <;> cases z
      cases m
  unfold L2.start startI
  refine ⟨by simp [l], fun i o sl a b => ?_, fun i j q x y e1 e2 m1 m2 _ _ => ?_, st⟩
  · match i, a, b with
    | 0, a, b =>
      cases a
      cases b
      exact ⟨p, C, dx, [], rfl, rfl, hc, hp, h0, nh, nf, .nil⟩
    | i + 1, a, b =>
      have a : (vs.map some ++ List.replicate (N.length - (vs.length + 1)) none)[i]? = some o := a
      have b : (ds.map Sl.dat ++ List.replicate (N.length - (ds.length + 1)) Sl.no)[i]? = some sl := b
      by_cases hi : i < ds.length
      · rw [List.getElem?_append_left (by rw [List.length_map]; omega), List.getElem?_map] at a
        rw [List.getElem?_append_left (by rw [List.length_map]; exact hi), List.getElem?_map, List.getElem?_eq_getElem hi] at b
        cases b
        obtain ⟨v, e1, e2⟩ := da.get (List.getElem?_eq_getElem hi)
        rw [e1] at a
        cases a
        exact e2
      · rw [List.getElem?_append_right (by rw [List.length_map]; omega), List.getElem?_replicate] at b
        split at b
        · cases b
          cases o <;> exact True.intro
        · cases b
  · match i, j, e1, e2 with
    | 0, 0, _, _ => rfl
    | i + 1, _, e1, _ => exact (own i x e1 m1).elim
    | 0, j + 1, _, e2 => exact (own j y e2 m2).elim
end
section
variable {P : Program} {w : World} {K : Frag} {mg : Str → Option Value} {base : Heap} {x qual c : Str} {st : Stmt} {f : Addr} {fd : FuncData} {N ps : List Str} {k : Nat} {ms : MS}
theorem init_back {h p C : Addr} {H0 H : Hp} {s : Hd} {ds : List Dt} {Q : VK} {E : XK} {n : Nat} (hc : mg c = some (.ref C))
    (q : match mInit n c ms ds s with
    | .ok fs s' => ∀ (dx' : Addr) (fv : List (Str × V)) (H0' H' : Hp), Step h H0 (del H p) H0' H' → G h H0' H' s' → H' p = some (.ins C dx' fv) → H0' p = none → ¬ isH h H' p → DenF K mg h H0' fv fs → Q .non H'
    | .err c' fs _ s' => ∀ (C' : Addr) (od : Option Addr) (H0' H' : Hp), Step h H0 (del H p) H0' H' → G h H0' H' s' → mg c' = some (.ref C') → XdOk K mg h H0' H' od fs → E (.ref C') od H'
    | .bad => False) : PostS K mg ⟨h, H0, del H p, p⟩ (ms (startI n c ds) s) H0 H (fun c d _ H' => E c d H') { nx := fun _ H' => Q .non H', rt := Q } := by
  unfold mInit at q
  cases e : ms (startI n c ds) s with
  | ok fl s2 =>
    rw [e] at q
    cases fl with
    | nx ρ =>
      cases e0 : ρ[0]? with
      | none =>
        simp only [e0] at q
      | some l =>
        cases l with
        | slf c' fs =>
          by_cases cc : c' = c
          · simp only [e0, if_pos cc] at q
            subst cc
            intro σ' H0' H' sm g' S'
            obtain ⟨q2, C2, dxx, vs, es2, ep, m2, eq2, n02, nh2, nf2, df⟩ := S'.slf e0
            have ep : q2 = p := ep
            subst ep
            rw [hc] at m2
            cases m2
            exact q dxx vs H0' H' S'.st g' eq2 n02 nh2 df
          · simp only [e0, if_neg cc] at q
        | no => simp only [e0] at q
        | dat d => simp only [e0] at q
        | own ds => simp only [e0] at q
    | rt d => exact q.elim
    | bk ρ => exact q.elim
    | ct ρ => exact q.elim
  | err c' fs ρ s2 =>
    rw [e] at q
    exact fun σ' C' dd A B sm g' S' mc xx => q C' dd A B S'.st g' mc xx
  | bad =>
    rw [e] at q
    exact q
/-- an __init__ follows its function -/
theorem okI {n nn : Nat} (F : Fun K x qual st f fd) (S : FnScope N ps (defScope st)) (hn : ps.length = n + 1) (hN : N.length = nn) (hN0 : 0 < nn)
    (hb : ∀ (cdv : Value) (A : Around) (outer : List Env) (s : Shared) (H : Hp) (E : XK), Room k (A.deeper (envOfC qual (defScope st) s.heap.objs.size f cdv)) → QSs (cxD P w K mg base N qual (defScope st) f cdv A outer s H E) (wE E) (defBody st) ms) :
    FnOk P w K mg base (L2.CX P w) (k + 1) f fd ps (spN K mg c n (mInit nn c ms)) := by
  subst hN
  refine F.okX S (fun vs H Q E h => h.1.trans hn.symm) (fun cdv A outer s H vs Q E hr h => ?_)
  obtain ⟨hl, hh, H0, s', p, C, dx, ws, ds, rfl, hc, hp, h0, nh, g, da, q⟩ := h
  obtain ⟨ts, qq, ss⟩ := hb cdv A outer s H E hr
  exact ⟨ts, qq, ss ⟨hh, H0, del H p, p⟩ H0 H s' _ _ _ g (slots_init hN0 hc hp h0 nh da) (init_back hc q)⟩
theorem okID {n nn : Nat} {params : Arguments} {body : List Stmt} {scope : Scope} {dvs : List V} (F : FunD K x qual params body scope dvs [] f fd) (S : FnScope N ps scope) (hn : ps.length = n + 1) (hN : N.length = nn) (hN0 : 0 < nn)
    (hb : ∀ (cdv : Value) (A : Around) (outer : List Env) (s : Shared) (H : Hp) (E : XK), Room k (A.deeper (envOfC qual scope s.heap.objs.size f cdv)) → QSs (cxD P w K mg base N qual scope f cdv A outer s H E) (wE E) body ms) :
    FnOk P w K mg base (L2.CX P w) (k + 1) f fd ps (spN K mg c n (mInit nn c ms)) := by
  subst hN
  refine F.ok S (fun vs H Q E h => h.1.trans hn.symm) (fun cdv A outer s H vs Q E hr h => ?_)
  obtain ⟨hl, hh, H0, s', p, C, dx, ws, ds, rfl, hc, hp, h0, nh, g, da, q⟩ := h
  obtain ⟨ts, qq, ss⟩ := hb cdv A outer s H E hr
  exact ⟨ts, qq, ss ⟨hh, H0, del H p, p⟩ H0 H s' _ _ _ g (slots_init hN0 hc hp h0 nh da) (init_back hc q)⟩
end
end Mir


set_option Elab.async false
set_option linter.all false
set_option maxRecDepth 100000
/-! Objects: made and asked by calls; len, ==, isinstance of them; errors without fields; except without a name. -/
namespace Mir
open PySem PySem.Spec PyProof.Rows L2
open PySem.W (Frag)

/-! ### C(e, ..), o.m(e, ..) -/
def tMethS (C : Addr) (m : Str) (sp : Sp) (dvs : List V) (E : L2.St → XK) (ta : TE) (t : TA) : TE := fun σ H Q => ta σ H fun x H1 => ∃ a dx fs, x = .ref a ∧ H1 a = some (.ins C dx fs) ∧ fs.lookup m = none ∧ t σ H1 fun vs H2 => sp (x :: (vs ++ dvs)) H2 Q (E σ)
section
variable {X : Cx} {k : Nat} {f C : Addr} {fd : FuncData} {ps : List Str} {sp : Sp} {dvs : List V} {dV : List Value} {E : L2.St → XK} {x m : Str} {p pos apos : Pos} {e o : Expr} {es : List Expr} {ta : TE} {t : TA}
theorem made_run {CX : CXT} {pins : List (Addr × Obj)} {σ : L2.St} {H : Hp} {s : Shared} {Q : VK} {us : List Value} {vs : List V} (M : Mk X.K C f) (F : FnOk X.prog X.w X.K X.mg X.base CX k f fd ps sp) (hr : Room (k + 1) X.A) (hb : Binds X.K fd ps dV) (hd : Vals dvs dV) (hx : PassesAt CX X σ (E σ)) (I : Inv X pins σ H s) (r : Vals vs us)
    (hh : ∀ y dx, H y = none → H dx = none → dx ≠ y → sp (.ref y :: (vs ++ dvs)) (upd (upd H dx (.own y)) y (.ins C dx [])) (fun v H2 => v = .non ∧ Q (.ref y) H2) (E σ)) : wpAny (model X.prog X.w) X.A (call (.ref C) us) (EP X pins σ Q) X.xe s := by
  have z := hh (s.heap.objs.size + 1) s.heap.objs.size (I.hok.fresh (by omega)) (I.hok.fresh (by omega)) (Nat.ne_of_lt (Nat.lt_succ_self _))
  have J := Inv.made (C := C) I
  have rr : Vals (V.ref (s.heap.objs.size + 1) :: (vs ++ dvs)) (Value.ref (s.heap.objs.size + 1) :: (us ++ dV)) := .cons rfl (r.append hd)
  have ln : (Value.ref (s.heap.objs.size + 1) :: us ++ dV).length = ps.length := by
    have q := F.len _ _ _ _ z
    rw [rr.length] at q
    exact q
  refine wpAny_call (make_map (f := f) I.kIn M.makes M.init (beq_iff_eq.mp M.fn) ?_)
  refine codeAny_mono (F.run _ X.stack _ _ ⟨Value.ref (s.heap.objs.size + 1) :: us, []⟩ (Value.ref (s.heap.objs.size + 1) :: (us ++ dV)) _ _ (E σ) (hr.make C us []) (J.env0.make C us []) (hb _ (Value.ref (s.heap.objs.size + 1) :: us) J.kIn ln) rr z) fun res s' w => ?_
  match res, w with
  | .error e, w => exact hx pins _ _ e s' J w
  | .ok (.ret u), w =>
    obtain ⟨v, H', J3, rv, ev, q3⟩ := J.after w
    subst ev
    exact ⟨rv, V.ref (s.heap.objs.size + 1), H', J3, rfl, q3⟩
  | .ok .next, w => exact w.elim
  | .ok .brk, w => exact w.elim
  | .ok .cont, w => exact w.elim
theorem pe_makeS {CX : CXT} (M : Mk X.K C f) (F : FnOk X.prog X.w X.K X.mg X.base CX k f fd ps sp) (hr : Room (k + 1) X.A) (hg : Gl X x) (hm : X.mg x = some (.ref C)) (hb : Binds X.K fd ps dV) (hd : Vals dvs dV) (hx : ∀ σ, PassesAt CX X σ (E σ)) (ha : PA X (e :: es) t)
    (hdb : (x == ("__debug__" : Str)) = false := by decide) (he : starEach (e :: es) X.env = (false, eval e X.env) :: starEach es X.env := by rfl) (hpl : (backTo pos (starEach es X.env)).any (·.1) = false := by rfl) : PE X (.Call (.Name x p) (e :: es) [] pos) (tMakeS C sp dvs E t) := by
  refine ⟨fun pins s σ H Q I z => wpAny_Call_Name_kw (ld_glob I hg hm ?_ hdb)⟩
  refine PySem.W.callWith_K (h₀ := X.base) I.ok.mod.kin M.kp (thn (ha.run pos pins s σ H _ I z) fun us s1 w => ?_) he hpl
  obtain ⟨vs, H1, I1, r, q⟩ := w
  exact ⟨I1.kIn, made_run M F hr hb hd (hx σ) I1 r q⟩
theorem pe_methS {CX : CXT} {pl : Sem Bool} (he : PE X o ta) (c : Cls X.K C) (hm : Meth X.K C m f) (F : FnOk X.prog X.w X.K X.mg X.base CX k f fd ps sp) (hr : Room k X.A) (hb : Binds X.K fd ps dV) (hd : Vals dvs dV) (hx : ∀ σ, PassesAt CX X σ (E σ)) (ha : PA X (e :: es) t)
    (hst : starEach (e :: es) X.env = (false, eval e X.env) :: starEach es X.env := by rfl) (hpl : (backTo pos (starEach es X.env)).any (·.1) = false := by rfl)
    (ht : eval (.Call (.Attribute o m apos) (e :: es) [] pos) X.env = (do
      let ov ← eval o X.env
      standAt apos.atName
      let (f, first) ← holding [ov] (getMethod ov m pl)
      callWith pos f first (backTo pos (starEach (e :: es) X.env)) (backToKw pos (keywordEach [] X.env))) := by rfl) : PE X (.Call (.Attribute o m apos) (e :: es) [] pos) (tMethS C m sp dvs E ta t) := by
  refine ⟨fun pins s σ H Q I z => PySem.W.methodCall_KW (pl := pl) (thn (he.run pins s σ H _ I z) fun u s1 w => ?_) ht⟩
  obtain ⟨y, H1, I1, rx, a, dx, fs, ex, ea, l, q⟩ := w
  subst ex
  cases (show u = Value.ref a from rx)
  refine getmeth_ok I1 ea c hm l (PySem.W.callWith_K (first := [.ref a]) (h₀ := X.base) I.ok.mod.kin hm.kp (thn (ha.run pos pins s1 σ H1 _ I1 q) fun us s2 w => ?_) hst hpl)
  obtain ⟨vs, H2, I2, r, q2⟩ := w
  exact ⟨I2.kIn, run_fnSD (us := .ref a :: us) (vs := .ref a :: vs) F hr hb hd (hx σ) I2 (.cons rfl r) q2⟩
theorem pe_methS0 {CX : CXT} {pl : Sem Bool} (he : PE X o ta) (c : Cls X.K C) (hm : Meth X.K C m f) (F : FnOk X.prog X.w X.K X.mg X.base CX k f fd ps sp) (hr : Room k X.A) (hb : Binds X.K fd ps dV) (hd : Vals dvs dV) (hx : ∀ σ, PassesAt CX X σ (E σ))
    (ht : eval (.Call (.Attribute o m apos) [] [] pos) X.env = (do
      let ov ← eval o X.env
      standAt apos.atName
      let (f, first) ← holding [ov] (getMethod ov m pl)
      callWith pos f first (backTo pos (starEach [] X.env)) (backToKw pos (keywordEach [] X.env))) := by rfl) : PE X (.Call (.Attribute o m apos) [] [] pos) (tMethS C m sp dvs E ta tNil) := by
  refine ⟨fun pins s σ H Q I z => PySem.W.methodCall_KW (pl := pl) (thn (he.run pins s σ H _ I z) fun u s1 w => ?_) ht⟩
  obtain ⟨y, H1, I1, rx, a, dx, fs, ex, ea, l, q⟩ := w
  subst ex
  cases (show u = Value.ref a from rx)
  exact getmeth_ok I1 ea c hm l (PySem.W.callWith_K0 (first := [.ref a]) I1.kIn hm.kp (run_fnSD (us := [.ref a]) (vs := [.ref a]) F hr hb hd (hx σ) I1 (.cons rfl .nil) q))
end
def mMeth (c : Str) (x : Str) (n : Nat) (dd : List Dt) (m : List Dt → Hd → R Dt) (a : ME) (as : MA) : ME := fun ρ s => (a ρ s).bind fun d s1 => match d with
  | .obj c' fs => if c' = c ∧ fs.lookup x = none then (as ρ s1).bind fun ds s2 => if (ds ++ dd).length + 1 = n then (match m (.obj c' fs :: (ds ++ dd)) s2 with
      | .ok d s3 => .ok d s3
      | .err c2 fs2 _ s3 => .err c2 fs2 ρ s3
      | .bad => .bad) else .bad
    else .bad
  | _ => .bad
section
variable {K : Frag} {mg : Str → Option Value} {Wx : WX} {t : TA} {as : MA} {ta : TE} {a : ME}
theorem se_meth {c x : Str} {n : Nat} {C : Addr} {dvs : List V} {dd : List Dt} {m : List Dt → Hd → R Dt} (hC : mg c = some (.ref C)) (hd : ∀ (h : Addr) (H : Hp), DenA K mg h H dvs dd) (he : SE K mg Wx ta a) (ha : SA K mg Wx t as) : SE K mg Wx (tMethS C x (spM K mg n m) dvs (WE Wx) ta t) (mMeth c x n dd m a as) := by
  intro h H0 H s σ ρ Q g S p
  refine he h H0 H s σ ρ _ g S (Post.bind p fun d s1 y A B st g1 dy p1 => ?_)
  cases dy with
  | @obj aa C' dxx c' fv fs mc e r =>
    by_cases cc : c' = c ∧ fs.lookup x = none
    · simp only [if_pos cc] at p1
      obtain ⟨rfl, nl⟩ := cc
      obtain rfl : C = C' := by
        rw [hC] at mc
        cases mc
        rfl
      refine ⟨aa, dxx, fv, rfl, g1.ex _ _ e, r.no nl, ha h A B s1 σ ρ _ g1 (S.step st) (Post.bind p1 fun ds s2 xs A2 B2 st2 g2 dx p2 => ?_)⟩
      by_cases c2 : (ds ++ dd).length + 1 = n
      · rw [if_pos c2] at p2
        have dx2 : DenA K mg h.a A2 (.ref aa :: (xs ++ dvs)) (.obj c' fs :: (ds ++ dd)) := .cons (.obj mc (st2.s0 _ _ e) (r.mono st2.s0)) (dx.append (hd h A2))
        refine ⟨by rw [dx2.len]; exact c2, h, A2, s2, _, g2, dx2, ?_⟩
        cases hm : m (.obj c' fs :: (ds ++ dd)) s2 with
        | ok d s3 =>
          rw [hm] at p2
          exact p2
        | err cc fs ρ' s3 =>
          rw [hm] at p2
          exact fun C e A3 B3 st3 g3 mc x => p2 σ C e A3 B3 st3.s0 g3 (S.step ((st.trans st2).trans st3)) mc x
        | bad =>
          rw [hm] at p2
          exact p2.elim
      · rw [if_neg c2] at p2
        exact p2.elim
    · simp only [if_neg cc] at p1
      exact p1.elim
  | _ => exact p1.elim
end
/-- what the text knows of a class whose objects it makes -/
structure ClsT (K : Frag) (mg : Str → Option Value) (c : Str) (C : Addr) : Prop where
  m : mg c = some (.ref C)
  cl : Cls K C
  ha : PySem.W.findIn K (.ref C) "__class__" = some (some (.builtin "object.__class__"))
  hn : PySem.W.specialIn K (.builtin "object.__class__") "__get__" = some (some (.builtin "getset_descriptor.__get__"))
  htk : PySem.W.takesIn K (.builtin "object.__class__") = some true
  hm : PySem.W.mroIn K C (.type "object") = some true
/-- a class that is made by calls -/
def Maker (P : Program) (w : World) (K : Frag) (mg : Str → Option Value) (base : Heap) (k : Nat) (c : Str) (n : Nat) (dd : List Dt) (m : List Dt → Hd → R (List (Str × Dt))) : Prop :=
  ∃ (C f : Addr) (fd : FuncData) (ps : List Str) (dvs : List V) (dsV : List Value), mg c = some (.ref C) ∧ Mk K C f ∧ FnOk P w K mg base (L2.CX P w) k f fd ps (spN K mg c n m) ∧ Binds K fd ps dsV ∧ Vals dvs dsV ∧ ∀ (h : Addr) (H : Hp), DenA K mg h H dvs dd
/-- a method -/
def Method (P : Program) (w : World) (K : Frag) (mg : Str → Option Value) (base : Heap) (k : Nat) (c x : Str) (n : Nat) (dd : List Dt) (m : List Dt → Hd → R Dt) : Prop :=
  ∃ (C f : Addr) (fd : FuncData) (ps : List Str) (dvs : List V) (dsV : List Value), mg c = some (.ref C) ∧ Cls K C ∧ Meth K C x f ∧ FnOk P w K mg base (L2.CX P w) k f fd ps (spM K mg n m) ∧ Binds K fd ps dsV ∧ Vals dvs dsV ∧ ∀ (h : Addr) (H : Hp), DenA K mg h H dvs dd
section
variable {X : Cx} {Wx : WX} {e o : Expr} {es : List Expr} {c x : Str} {p pos apos : Pos} {as : MA} {ma : ME} {k j n : Nat} {dd : List Dt} {m : List Dt → Hd → R Dt} {mi : List Dt → Hd → R (List (Str × Dt))}
theorem qe_make (M : Maker X.prog X.w X.K X.mg X.base k c n dd mi) (hr : Room j X.A) (hk : k + 1 ≤ j) (tk : Takes X Wx) (ha : QA X Wx (e :: es) as) (hg : Gl X c := by rfl)
    (hdb : (c == ("__debug__" : Str)) = false := by decide) (he : starEach (e :: es) X.env = (false, eval e X.env) :: starEach es X.env := by rfl) (hpl : (backTo pos (starEach es X.env)).any (·.1) = false := by rfl) : QE X Wx (.Call (.Name c p) (e :: es) [] pos) (mMake c n dd mi as) := by
  obtain ⟨C, f, fd, ps, dvs, dsV, hm, mk, F, hb, hd, hdd⟩ := M
  obtain ⟨t, q, s⟩ := ha
  exact ⟨_, pe_makeS mk F (hr.mono hk) hg hm hb hd (fun σ => passAt tk σ) q hdb he hpl, se_make hm hdd s⟩
theorem qe_meth {pl : Sem Bool} (M : Method X.prog X.w X.K X.mg X.base k c x n dd m) (hr : Room j X.A) (hk : k ≤ j) (tk : Takes X Wx) (ho : QE X Wx o ma) (ha : QA X Wx (e :: es) as)
    (hst : starEach (e :: es) X.env = (false, eval e X.env) :: starEach es X.env := by rfl) (hpl : (backTo pos (starEach es X.env)).any (·.1) = false := by rfl)
    (ht : eval (.Call (.Attribute o x apos) (e :: es) [] pos) X.env = (do
      let ov ← eval o X.env
      standAt apos.atName
      let (f, first) ← holding [ov] (getMethod ov x pl)
      callWith pos f first (backTo pos (starEach (e :: es) X.env)) (backToKw pos (keywordEach [] X.env))) := by rfl) : QE X Wx (.Call (.Attribute o x apos) (e :: es) [] pos) (mMeth c x n dd m ma as) := by
  obtain ⟨C, f, fd, ps, dvs, dsV, hm, cl, mt, F, hb, hd, hdd⟩ := M
  obtain ⟨to, po, so⟩ := ho
  obtain ⟨t, q, s⟩ := ha
  exact ⟨_, pe_methS (pl := pl) po cl mt F (hr.mono hk) hb hd (fun σ => passAt tk σ) q hst hpl ht, se_meth hm hdd so s⟩
theorem qe_meth0 {pl : Sem Bool} (M : Method X.prog X.w X.K X.mg X.base k c x n dd m) (hr : Room j X.A) (hk : k ≤ j) (tk : Takes X Wx) (ho : QE X Wx o ma)
    (ht : eval (.Call (.Attribute o x apos) [] [] pos) X.env = (do
      let ov ← eval o X.env
      standAt apos.atName
      let (f, first) ← holding [ov] (getMethod ov x pl)
      callWith pos f first (backTo pos (starEach [] X.env)) (backToKw pos (keywordEach [] X.env))) := by rfl) : QE X Wx (.Call (.Attribute o x apos) [] [] pos) (mMeth c x n dd m ma mNil) := by
  obtain ⟨C, f, fd, ps, dvs, dsV, hm, cl, mt, F, hb, hd, hdd⟩ := M
  obtain ⟨to, po, so⟩ := ho
  exact ⟨_, pe_methS0 (pl := pl) po cl mt F (hr.mono hk) hb hd (fun σ => passAt tk σ) ht, se_meth hm hdd so sa_nil⟩
end
/-- one of two readings -/
theorem qe_alt {X : Cx} {Wx : WX} {e : Expr} {m m1 m2 : ME} (h1 : QE X Wx e m1) (h2 : QE X Wx e m2) (hm : ∀ ρ s, m ρ s = m1 ρ s ∨ m ρ s = m2 ρ s) : QE X Wx e m := by
  obtain ⟨t1, p1, s1⟩ := h1
  obtain ⟨t2, p2, s2⟩ := h2
  refine ⟨fun σ H Q => t1 σ H Q ∨ t2 σ H Q, ⟨fun pins s σ H Q I z => z.elim (p1.run pins s σ H Q I) (p2.run pins s σ H Q I)⟩, fun h H0 H s σ ρ Q g S p => ?_⟩
  rcases hm ρ s with e | e
  · exact .inl (s1 h H0 H s σ ρ Q g S (e ▸ p))
  · exact .inr (s2 h H0 H s σ ρ Q g S (e ▸ p))

/-! ### len of an object whose class has __len__ -/
def rLenOwn (C : Addr) (sp : Sp) : List V → Hp → VK → Prop := fun xs H Q => ∃ a dx fs, xs = [.ref a] ∧ H a = some (.ins C dx fs) ∧ sp [.ref a] H (fun v H' => ∃ n : Int, v = .int n ∧ 0 ≤ n ∧ n < 2 ^ 63 ∧ Q (.int n) H') (fun _ _ _ => False)
section
variable {X : Cx} {k : Nat} {f C : Addr} {fd : FuncData} {ps : List Str} {sp : Sp}
theorem call_lenOwn (hs : PySem.W.findIn X.K (.ref C) "__len__" = some (some (.ref f))) (hf : PySem.W.isFn X.K (.ref f) = true) (F : FnOk X.prog X.w X.K X.mg X.base (L2.CX X.prog X.w) k f fd ps sp) (hr : Room (k + 1) X.A) (hb : Binds X.K fd ps []) : CallR X (.builtin "len") (rLenOwn C sp) := by
  intro pins s σ H xs us Q I r h
  obtain ⟨a, dx, fs, rfl, ha, hsp⟩ := h
  obtain ⟨u, rfl, ru⟩ := r.one
  cases (show u = Value.ref a from ru)
  obtain ⟨mA, J, _⟩ := ins_get I.hok ha
  obtain ⟨od, J, _⟩ := J.look
  obtain ⟨m, hF⟩ := I.fr
  refine PySem.W.len_K hF I.ok.mod.kin J hs hf ?_
  have rr : Vals [V.ref a] [Value.ref a] := .cons rfl .nil
  have ln := F.len _ _ _ _ hsp
  have bd : BindsTo s fd ⟨[.ref a], []⟩ (ps.zip [.ref a]) := by
    have q := hb s [.ref a] I.kIn (by simpa using ln)
    simpa using q
  refine wpAny_call (codeAny_mono (F.run X.A.in1 X.stack s H ⟨[.ref a], []⟩ [.ref a] [.ref a] _ _ hr.in1 I.env0.in1 bd rr hsp) fun res s' w => ?_)
  match res, w with
  | .error e, w => exact (cx_none w).elim
  | .ok (.ret u), w =>
    obtain ⟨v, H', I', rv, n, ev, h0, h1, q⟩ := I.after w
    subst ev
    obtain ⟨t, rfl⟩ := rv
    exact ⟨⟨h0, h1⟩, .int n, H', I'.tok _, ⟨_, rfl⟩, q⟩
  | .ok .next, w => exact w.elim
  | .ok .brk, w => exact w.elim
  | .ok .cont, w => exact w.elim
where
  cx_none {P : Program} {w : World} {l : List Env} {H : Hp} {s : Shared} {e : Value} {s' : Shared} (z : L2.CX P w l H s (fun _ _ _ => False) e s') : False := by
    obtain ⟨_, _, _, _, _, _, _, _, _, _, _, _, z⟩ := z
    exact z
end
end Mir


set_option Elab.async false
set_option linter.all false
set_option maxRecDepth 100000
/-! Defs that ask for repr: what stands around them holds no repr. -/
namespace Mir
open PySem PySem.Spec PyProof.Rows L2
open PySem.W (Frag)
/-- FnOk where no repr runs around -/
structure FnG (P : Program) (w : World) (K : Frag) (mg : Str → Option Value) (base : Heap) (k : Nat) (f : Addr) (fd : FuncData) (ps : List Str) (sp : Sp) : Prop where
  len : ∀ vs H Q E, sp vs H Q E → vs.length = ps.length
  run : ∀ (A : Around) (outer : List Env) (s : Shared) (H : Hp) (args : Args) (us : List Value) (vs : List V) (Q : VK) (E : XK), A.guards = some [] → Room k A → Env0 P w K mg base A outer s H → BindsTo s fd args (ps.zip us) → Vals vs us → sp vs H Q E →
    codeAny (model P w) A (.call (.ref f) args) (CR (L2.CX P w) outer P w H s Q E) s
section
variable {P : Program} {w : World} {K : Frag} {mg : Str → Option Value} {base : Heap} {x qual : Str} {st : Stmt} {f : Addr} {fd : FuncData} {N ps : List Str} {k : Nat} {ms : MS} {sp : Sp}
theorem FnG.of (F : Fun K x qual st f fd) (S : FnScope N ps (defScope st)) (len : ∀ vs H Q E, sp vs H Q E → vs.length = ps.length)
    (hb : ∀ (cdv : Value) (A : Around) (outer : List Env) (s : Shared) (H : Hp) (vs : List V) (Q : VK) (E : XK), A.guards = some [] → Room k (A.deeper (envOfC qual (defScope st) s.heap.objs.size f cdv)) → sp vs H Q E →
      ∃ t, PSs (cxD P w K mg base N qual (defScope st) f cdv A outer s H E) (defBody st) t ∧ t { nx := fun _ H' => Q .non H', rt := Q } (L2.start N vs) H) : FnG P w K mg base (k + 1) f fd ps sp := by
  obtain ⟨oc, od, kV, doc, pm, an, cdv, ct, osl, rfl, lk, hcd⟩ := F.ex
  constructor
  · exact len
  intro A outer s H args us vs Q E gd hr e0 hbi r hsp
  have ln := len _ _ _ _ hsp
  have kin : K.In s.heap := e0.mod.kin.keeps fun b o e => (e0.bs b o e).1
  have nol : s.heap.NoLimit := e0.mod.nolimit.keeps fun b o e => (e0.bs b o e).1
  have kinds : ∀ y ∈ ps.zip us, (defScope st).names.lookup y.1 = some .local ∨ ((defScope st).names.lookup y.1 = some .cell ∧ ((cellsFrom (s.heap.objs.size + 1) (defScope st).names []).lookup y.1).isSome = true) := by
    rintro ⟨n, v⟩ hy
    exact (S.par n (List.of_mem_zip hy).1).imp id fun q => ⟨q, PySem.W.cellsFrom_some _ _ _ (.inl q)⟩
  refine codeAny_call_function hr.depth (kin _ _ lk) rfl S.co S.gen rfl (PySem.W.codeRec_of kin hcd) (hbi _ _ _ _ (wpAny_newFunctionEnv_cells S.kind kinds fun env he s1 y => ?_))
  subst he
  refine ⟨nol.keeps y.toInCall.keep, codeAny_func ?_⟩
  obtain ⟨t, ht, hq⟩ := hb cdv A outer s H vs Q E gd (hr.deeper _) hsp
  have I := inv_start (CX := L2.CX P w) (E := E) S hr.hd e0 ln r y
  refine wpAny_mono (ht.run [] s1 (L2.start N vs) H _ I hq) (fun fl s' z => ?_) fun e s' z => z
  match fl, z with
  | .ret u, ⟨v, σ', H', J, rv, q⟩ => exact ⟨v, H', J.os, J.bare, J.base, J.hok, rv, q⟩
  | .next, ⟨σ', H', J, q⟩ => exact ⟨V.non, H', J.os, J.bare, J.base, J.hok, rfl, q⟩
  | .brk, ⟨_, _, _, q⟩ => exact q.elim
  | .cont, ⟨_, _, _, q⟩ => exact q.elim
/-- a def follows its function, no repr around -/
theorem okG {n nn : Nat} (F : Fun K x qual st f fd) (S : FnScope N ps (defScope st)) (hn : ps.length = n) (hN : N.length = nn)
    (hb : ∀ (cdv : Value) (A : Around) (outer : List Env) (s : Shared) (H : Hp) (E : XK), A.guards = some [] → Room k (A.deeper (envOfC qual (defScope st) s.heap.objs.size f cdv)) → QSs (cxD P w K mg base N qual (defScope st) f cdv A outer s H E) (wE E) (defBody st) ms) :
    FnG P w K mg base (k + 1) f fd ps (spM K mg n (mDef nn ms)) := by
  subst hn
  subst hN
  refine FnG.of F S (fun vs H Q E h => h.1) (fun cdv A outer s H vs Q E gd hr h => ?_)
  obtain ⟨hl, hh, H0, s', ds, g, da, p⟩ := h
  obtain ⟨ts, q, ss⟩ := hb cdv A outer s H E gd hr
  exact ⟨ts, q, ss ⟨hh, H0, H, hh⟩ H0 H s' _ _ _ g (slots_start (.refl _ _) da) (postS_of (h := ⟨hh, H0, H, hh⟩) p)⟩
end
/-! ### the law -/
section
variable {P : Program} {w : World} {K : Frag} {mg mb : Str → Option Value} {k : Nat} {fa a : Addr} {fd : FuncData} {x : Str} {sp : Sp} {s₁ : Shared} {vs : List Value} {ns : List Int}
theorem law_callG (KX : K.In s₁.heap) (hns : s₁.heap.Ns mainGlobals mg) (hb : s₁.heap.Ns builtinsNs mb) (hbb : ∀ x : Str, x ≠ "__name__" → mb x = bootBuiltins x) (hlim : s₁.heap.NoLimit) (hg : s₁.gens = #[])
    (ha : s₁.heap.get? a = some { cls := .type "list", data := .seq vs.toArray }) (hi : IntsAre vs ns) (hl : ns.length ≤ sizeLine) (hr : Room k callerA)
    (F : ∀ base : Heap, K.In base → base.Ns mainGlobals mg → FnG P w K mg base k fa fd [x] sp) (hbind : ∀ (s : Shared) (u : Value), BindsTo s fd ⟨[u], []⟩ [(x, u)])
    (hsp : ∀ H : Hp, Only H → SqL K H a (ns.map V.int) → sp [.ref a] H (fun v _ => v = .bl true) fun _ _ _ => False) :
    codeAny (model P w) callerA (.call (.ref fa) ⟨[.ref a], []⟩) (fun r s' => r = .ok (.ret (.bool true)) ∧ OldK s₁.heap s'.heap ∧ s'.os = s₁.os ∧ AllBare s'.gens) s₁ := by
  have rv := vals_ints hi
  have lv := hi.length
  have main : ∀ H : Hp, Only H → SqL K H a (ns.map V.int) → HOk P w H s₁.heap → (∀ b, H b ≠ none → b = a) → (H a ≠ none → K.lookup a = none) →
      codeAny (model P w) callerA (.call (.ref fa) ⟨[.ref a], []⟩) (fun r s' => r = .ok (.ret (.bool true)) ∧ OldK s₁.heap s'.heap ∧ s'.os = s₁.os ∧ AllBare s'.gens) s₁ := by
    intro H only hS hok at_a no_a
    have low : ∀ {b : Addr} {o : Obj}, s₁.heap.get? b = some o → H b = none → (hidT s₁.heap H).get? b = some o := fun e n => hidT_get e n
    have dict : ∀ {b : Addr} {o : Obj} {es : Array DictEntry} {ep : Nat}, s₁.heap.get? b = some o → o.data = .dict es ep → H b = none := by
      intro b o es ep e d
      by_cases q : H b = none
      · exact q
      · have eb := at_a b q
        subst eb
        rw [ha] at e
        cases e
        cases (show Data.seq vs.toArray _ = Data.dict es ep from d)
    have names : ∀ {b : Addr} {m : Str → Option Value}, s₁.heap.Ns b m → (hidT s₁.heap H).Ns b m := by
      rintro b m ⟨o, es, ep, e, d, r⟩
      exact ⟨o, es, ep, low e (dict e d), d, r⟩
    have kin : K.In (hidT s₁.heap H) := by
      intro b o e
      refine low (KX b o e) ?_
      by_cases q : H b = none
      · exact q
      · have eb := at_a b q
        subst eb
        rw [no_a q] at e
        cases e
    have md : Mod K mg (hidT s₁.heap H) := by
      refine ⟨kin, names hns, ⟨mb, names hb, hbb⟩, ?_⟩
      obtain ⟨mc, h1, h2⟩ := hlim
      exact ⟨mc, names h1, h2⟩
    have e0 : Env0 P w K mg (hidT s₁.heap H) callerA [] s₁ H :=
      { frames := rfl, mod := md, bs := fun b o e => of_hidT e, bsz := Nat.le_of_eq (hidT_size _ _), funs := True.intro, frf := fun b hb => absurd (show b ∈ ([] : List Addr) from hb) (by simp), hok := hok, bare := .of_eq hg }
    have run := (F _ kin (names hns)).run callerA [] s₁ H ⟨[.ref a], []⟩ [.ref a] [.ref a] _ _ rfl hr e0 (hbind s₁ (.ref a)) (.cons rfl .nil) (hsp H only hS)
    refine codeAny_mono run fun r s' z => ?_
    match r, z with
    | .error e, z => exact (cx_false z).elim
    | .ok .next, z => exact z.elim
    | .ok .brk, z => exact z.elim
    | .ok .cont, z => exact z.elim
    | .ok (.ret u), z =>
      obtain ⟨v, H', os, bare, un, hok', r', q⟩ := z
      cases (show v = .bl true from q)
      cases (show u = Value.bool true from r')
      refine ⟨rfl, OldK.of_keep fun b o e => ?_, os, bare⟩
      rcases only b with q | ⟨ob, xs, q⟩
      · exact un.keep b o e q (fun y => absurd (show b ∈ ([] : List Addr) from y) (by simp)) (by simp)
      · have q2 := un.frzs b ob _ q
        obtain ⟨e1, _⟩ := hok b _ q
        obtain ⟨e2, _⟩ := hok' b _ q2
        rw [e] at e1
        cases e1
        exact e2
  by_cases hk : ∃ o, K.lookup a = some o
  · obtain ⟨o, hk⟩ := hk
    have e := KX a o hk
    rw [ha] at e
    cases e
    exact main (fun _ => none) (fun _ => .inl rfl) (.inr ⟨_, vs.toArray, _, hk, rfl, rfl, rfl, by rw [List.size_toArray, lv]; exact hl, by simpa using rv⟩) (fun b u z => by cases (show (none : Option HO) = some u from z)) (fun b z => absurd rfl z) fun z => absurd rfl z
  · have hk : K.lookup a = none := by
      cases q : K.lookup a with
      | none => rfl
      | some o => exact absurd ⟨o, q⟩ hk
    refine main (fun b => if b = a then some (.frz { cls := .type "list", data := .seq vs.toArray } (.lst (ns.map V.int))) else none) (fun b => ?_) (.inl (.inr ⟨{ cls := .type "list", data := .seq vs.toArray }, if_pos rfl⟩)) (fun b u z => ?_) (fun b z => ?_) fun _ => hk
    · by_cases eb : b = a
      · exact .inr ⟨_, _, if_pos eb⟩
      · exact .inl (if_neg eb)
    · by_cases eb : b = a
      · have z2 := (if_pos eb).symm.trans z
        cases z2
        subst eb
        exact ⟨ha, by rw [List.length_map]; exact hl, vs, _, rv, ha⟩
      · have z2 := (if_neg eb).symm.trans z
        cases z2
    · by_cases eb : b = a
      · exact eb
      · exact absurd (if_neg eb) z
end
/-- the head's goal, from the law's promise where no repr runs around -/
theorem walk_ofG {l : PySem.W.OpenLaw} {n k : Nat} {q : Program} {loose : List Str} {XP : (Str → Option Value) → Heap → Prop} {YP : World → Heap → Prop} {d : DefRec} {K : Params → Frag} {sp : World → Sp} {x : Str}
    (hn : l.most = some n) (hn2 : n ≤ sizeLine) (hdf : d.params.defaults = []) (hr : Room k callerA) (hY : ∀ (w : World) (h : Heap), YP w h → (K w.params).In h)
    (F : ∀ (w : World) (mg : Str → Option Value) (fa : Addr) (h : Heap), (K w.params).In h → h.Ns mainGlobals mg → mg d.name = some (.ref fa) → ∃ fd : FuncData, (∀ (s : Shared) (u : Value), BindsTo s fd ⟨[u], []⟩ [(x, u)]) ∧
        ∀ base : Heap, (K w.params).In base → base.Ns mainGlobals mg → FnG l.prog w (K w.params) mg base k fa fd [x] (sp w))
    (hsp : ∀ (w : World) (H : Hp) (a : Addr) (ns : List Int), ns.length ≤ n → Only H → SqL (K w.params) H a (ns.map V.int) → sp w [.ref a] H (fun v _ => v = .bl true) fun _ _ _ => False) :
    PySem.W.WalkO q loose XP YP l.row.toRowW d [] (fun f vs => PySem.call f vs) := by
  refine Att.attach_call hn hdf fun w s₀ s₁ mg mb fa o pm cd doc a vs ns G Y ho hd hcd hmg hobj hi hle hgn => ?_
  obtain ⟨fd, hbi, hF⟩ := F w mg fa _ (hY w _ Y) G.T.g hmg
  exact law_callG (hY w _ Y) G.T.g G.T.b G.T.builtins G.T.nolimit hgn hobj hi (Nat.le_trans hle hn2) hr hF hbi (fun H only hS => hsp w H a ns hle only hS)
/-! ### repr -/
def fRepr : List Dt → Option Dt
  | [.lst ds] => (toPyA ds).bind fun ps => if (PyData.list ps).showable = true ∧ (PyData.list ps).hasDict = false ∧ (PyData.list ps).depth ≤ 60 ∧ (PyData.list ps).shown.length ≤ sizeLine then some (.str (PyData.list ps).shown) else none
  | _ => none
def rReprL (K : Frag) : List V → Hp → VK → Prop := fun xs H Q => ∃ (a : Addr) (p : PyData), xs = [.ref a] ∧ Dp K H (.ref a) p ∧ p.showable = true ∧ p.hasDict = false ∧ p.depth ≤ 60 ∧ p.shown.length ≤ sizeLine ∧ Q (.str p.shown) H
theorem cr_repr {X : Cx} (hg : X.A.guards = some []) (hu : X.A.units + 65 < cLine) : CallR X (.builtin "repr") (rReprL X.K) := by
  intro pins s σ H xs us Q I r h
  obtain ⟨a, p, rfl, dp, h1, h2, h3, h4, q⟩ := h
  obtain ⟨u, rfl, ru⟩ := r.one
  cases (show u = Value.ref a from ru)
  obtain ⟨as, rd⟩ := Dp.reads I p _ _ dp rfl
  exact repr_of_reads' rd h1 (PyData.noDict_hsm h2) hg (by omega) (fun _ _ e => e) (fun h' t tk hk => ⟨.str p.shown, H, I.kept hk, ⟨_, rfl⟩, q⟩) h4
theorem cs_repr {K : Frag} {mg : Str → Option Value} : CaS K mg (rReprL K) fRepr := by
  intro h H0 H s xs ds z Q g0 hx hz q
  unfold fRepr at hz
  split at hz
  · rename_i es
    cases hp : toPyA es with
    | none =>
      rw [hp] at hz
      cases hz
    | some ps =>
      rw [hp] at hz
      have hz : (if (PyData.list ps).showable = true ∧ (PyData.list ps).hasDict = false ∧ (PyData.list ps).depth ≤ 60 ∧ (PyData.list ps).shown.length ≤ sizeLine then some (Dt.str (PyData.list ps).shown) else none) = some z := hz
      split at hz
      · rename_i c
        cases hz
        cases hx with
        | cons a r =>
          cases r
          cases a with
          | lst qa ra => exact ⟨_, .list ps, rfl, .lst (SqL.of (g0.ex _ _ qa)) (DenA.dp (ra.mono g0.ex) hp), c.1, c.2.1, c.2.2.1, c.2.2.2, q _ H0 H (.refl _ _) g0 (.str _)⟩
      · cases hz
  · cases hz
end Mir


set_option Elab.async false
set_option linter.all false
set_option maxRecDepth 100000
/-! try with any clauses, each with a name or without; errors without fields. -/
namespace Mir
open PySem PySem.Spec PyProof.Rows L2
open PySem.W (Frag)
abbrev Cl := Value × Option Nat × (Addr → Value → Option Addr → TS)
def clEnds : Option Nat → Ends → Ends
  | none, D => D
  | some i, D => { nx := fun σ H => D.nx (σ.set i none) H, rt := D.rt, bk := fun σ H => D.bk (σ.set i none) H, ct := fun σ H => D.ct (σ.set i none) H }
def clStart : Option Nat → Addr → L2.St → L2.St
  | none, _, σ => σ
  | some i, a, σ => σ.set i (some (.ref a))
/-- what the clauses wish of a raised error, from the first on -/
def wCl (K : Frag) (Wout : WX) (D : Ends) : List Cl → WX
  | [] => Wout
  | (c, oi, ts) :: r => fun cls d σ H => ∃ b, PySem.W.exmOne K cls c = some b ∧ (b = true → ∀ a, H a = none → ts a cls d (clEnds oi D) (clStart oi a σ) H) ∧ (b = false → wCl K Wout D r cls d σ H)
def SuiteOk (X : Cx) (b₀ : Stmt) (rest : List Stmt) (ts : Addr → Value → Option Addr → TS) : Prop :=
  ∀ (a : Addr) (oe : Obj) (cls : Value) (d : Option Addr) (pn : List (Addr × Obj)), Zc cls d oe → (∃ vs, oe.data = .fields vs) → PSs (X.suite a ((a, oe) :: pn)) (b₀ :: rest) (ts a cls d)
inductive ClsOk (X : Cx) : List ExceptHandler → List Cl → Prop
  | nil : ClsOk X [] []
  | bare {x : Str} {c : Value} {ts : Addr → Value → Option Addr → TS} {b₀ : Stmt} {rest : List Stmt} {np p : Pos} {hs : List ExceptHandler} {l : List Cl} (hc : Names X x c) (hsu : SuiteOk X b₀ rest ts) (r : ClsOk X hs l) :
      ClsOk X (.ExceptHandler (some (.Name x np)) none (b₀ :: rest) p :: hs) ((c, none, ts) :: l)
  | name {x n : Str} {i : Nat} {c : Value} {ts : Addr → Value → Option Addr → TS} {b₀ : Stmt} {rest : List Stmt} {np p : Pos} {hs : List ExceptHandler} {l : List Cl} (hi : X.N[i]? = some n) (hln : X.env.kindOf n = some .local) (hc : Names X x c) (hsu : SuiteOk X b₀ rest ts) (r : ClsOk X hs l) :
      ClsOk X (.ExceptHandler (some (.Name x np)) (some n) (b₀ :: rest) p :: hs) ((c, some i, ts) :: l)
section
variable {X : Cx} {body : List Stmt} {h₁ : ExceptHandler} {hs : List ExceptHandler} {l : List Cl} {pos : Pos} {tb : WX → TS} {Wout : WX}
theorem ps_try_cl (hst : X.stack = X.env :: X.outer) (hfr : X.env.frame = some X.env.locals) (hN : X.N.Nodup) (tk : Takes X Wout)
    (hb : ∀ (W : WX) (pn : List (Addr × Obj)) (xe : Value → Shared → Prop), Takes (X.tr pn xe) W → PassesOwn (model X.prog X.w) X.A X.env xe → PSs (X.tr pn xe) body (tb W))
    (hh : ClsOk X (h₁ :: hs) l) : PS X (.Try body (h₁ :: hs) [] [] pos) (fun D σ H => tb (wCl X.K Wout D l) D σ H) := by
  refine ⟨fun pins s σ H D I hw => wpAny_Try_except ?_⟩
  have ok := I.ok
  have fr : X.A.frames = some (X.env :: X.outer) := ok.frames.trans (by rw [hst])
  have run := (hb (wCl X.K Wout D l) (X.pn ++ pins) (fun e t1 => wpAny (model X.prog X.w) X.A (noteFrame e X.env) (fun _ t2 => wpAny (model X.prog X.w) X.A (setFlight e none) (fun _ t3 =>
      wpAny (model X.prog X.w) X.A (handleBy e X.env (h₁ :: hs)) (SP X pins D) X.xe t3) X.xe t2) X.xe t1) (fun u sx xx => ?_) PassesOwn.looking).run [] s σ H D (I.toTry _) hw
  · refine wpAny_mono run (fun f t1 z => ?_) fun e t1 z => z
    match f, z with
    | .next, ⟨σ1, H1, J1, q⟩ => exact wpAny_execs_nil ⟨σ1, H1, J1.ofTry ok, q⟩
    | .brk, ⟨σ1, H1, J1, q⟩ => exact ⟨σ1, H1, J1.ofTry ok, q⟩
    | .cont, ⟨σ1, H1, J1, q⟩ => exact ⟨σ1, H1, J1.ofTry ok, q⟩
    | .ret u, ⟨v, σ1, H1, J1, r, q⟩ => exact ⟨v, σ1, H1, J1.ofTry ok, r, q⟩
  · obtain ⟨a, B, sI, pins1, σ1, H1, cls, d, rfl, J1, nb, up, sky, na, os, ag, w⟩ := xx
    have J := J1.ofTry ok
    have sky1 : Sky B (X.env :: X.outer) a (Zc cls d) X.env.locals sx.heap := by rw [← hst]; exact sky
    show wpAny (model X.prog X.w) X.A (noteFrame (.ref a) X.env) _ _ _
    refine Sky.land Zc.steady fr hfr sky1 fun g3 land3 up3 => ?_
    have K3 : Inv X pins σ1 H1 { sx with heap := g3 } := J.landed nb land3.1 (up.trans up3) os ag
    obtain ⟨ob3, vs3, at3, z3, dat3⟩ := land3.there
    have off : ∀ {g : Heap} {o : Obj} {vs : Array Value}, g.FunFrames B (X.env :: X.outer) → g.get? a = some o → o.data = .fields vs → a ∉ frs (X.env :: X.outer) := by
      intro g o vs ff e dd hm
      obtain ⟨_, o2, e2, n2⟩ := ff.mem hm
      have eo := e.symm.trans e2
      cases eo
      exact n2 _ dd
    have away := off land3.2.2.1 at3 dat3
    have nL : a ≠ X.env.locals := fun z => away (List.mem_filterMap.mpr ⟨X.env, List.mem_cons_self, by rw [hfr, z]⟩)
    have nF : a ∉ X.fs := by
      intro hm
      obtain ⟨e, he, q⟩ := List.mem_filterMap.mp hm
      exact away (List.mem_filterMap.mpr ⟨e, List.mem_cons_of_mem _ he, q⟩)
    have S3 := K3.suite at3 dat3 na nL nF
    have looks : PySem.W.Looks (model X.prog X.w) g3 (typeOf (.ref a)) cls := fun A Q E t k q => wpAny_typeOf_ref (k _ _ at3) (by rw [z3.1]; exact q)
    have test : ∀ {x : Str} {c : Value} {np : Pos} (hc : Names X x c) {Q : Value → Shared → Prop} {E : Value → Shared → Prop}, Q c { sx with heap := g3 } → wpAny (model X.prog X.w) (X.A.mark (some (.ref a))) (eval (.Name x np) X.env) Q E { sx with heap := g3 } := by
      intro x c np hc Q E q
      obtain ⟨hg, hdb, hm⟩ := hc
      rcases hm with hm | ⟨hm, hv, hn⟩
      · exact ld_glob (X := X.suite a ((a, ob3) :: (X.pn ++ pins))) S3 hg hm q hdb
      · exact ld_blt (X := X.suite a ((a, ob3) :: (X.pn ++ pins))) S3 hg hm hv q hn hdb
    have go : ∀ {hs2 : List ExceptHandler} {l2 : List Cl}, ClsOk X hs2 l2 → wCl X.K Wout D l2 cls d σ1 H1 → wpAny (model X.prog X.w) X.A (handleBy (.ref a) X.env hs2) (SP X pins D) X.xe { sx with heap := g3 } := by
      intro hs2 l2 hk
      induction hk with
      | nil =>
        intro w
        obtain ⟨k1, k2, k3, oe, vs, T, oT, ts', he, hz, hd, h1, hr⟩ := id land3
        refine wpAny_handleBy_nil ?_
        unfold PySem.passOn
        refine wpAny_bind (wpAny_field he hd h1 ?_)
        rw [if_neg (show ¬ ((Value.ref T == Value.none) = true) from by simp)]
        have out : wpAny (model X.prog X.w) X.A (setFlight (.ref a) X.env.frame) (fun _ t4 => wpAny (model X.prog X.w) X.A (throw (.ref a) : Sem Flow) (SP X pins D) X.xe t4) X.xe { sx with heap := g3 } := by
          rw [hfr]
          refine HandSPX.setFlight_upZ land3 fun g4 hg4 up4 => wpAny_throw (tk _ _ ⟨a, B, sI, pins, σ1, H1, cls, d, rfl, J, nb, (up.trans up3).trans up4, .inr (.inr ?_), na, os, ag, w⟩)
          rw [hst]
          exact hg4
        first | exact wpAny_bind (wpAny_pure (wpAny_bind out)) | exact wpAny_bind out
      | @bare x c ts b₀ rest np p hs3 l3 hc hsu r ih =>
        rintro ⟨b, hb1, yes, no⟩
        have LM := PySem.W.exm_one (M := model X.prog X.w) (K3.kIn) looks hb1
        refine wpAny_handleBy_cons (codeAny_handlers_test (test hc (LM.here ?_))) (by intro q; cases q)
        cases b with
        | false => exact ih (no rfl)
        | true =>
          refine codeAny_handlers_suite (HandSPX.lands_againZ land3 fun g4 land4 up4 => ?_)
          have K4 : Inv X pins σ1 H1 { sx with heap := g4 } := J.landed nb land4.1 ((up.trans up3).trans up4) os ag
          obtain ⟨ob4, vs4, at4, z4, dat4⟩ := land4.there
          refine wpAny_mono ((hsu a ob4 cls d (X.pn ++ pins) z4 ⟨_, dat4⟩).run [] _ _ H1 _ (K4.suite at4 dat4 na nL nF) (yes rfl a na)) (fun f t6 z => ?_) (fun _ _ z => z.elim)
          match f, z with
          | .next, ⟨_, _, S6, q6⟩ => exact ⟨_, _, S6.unsuite ok, q6⟩
          | .brk, ⟨_, _, S6, q6⟩ => exact ⟨_, _, S6.unsuite ok, q6⟩
          | .cont, ⟨_, _, S6, q6⟩ => exact ⟨_, _, S6.unsuite ok, q6⟩
          | .ret u, ⟨_, _, _, S6, r6, q6⟩ => exact ⟨_, _, _, S6.unsuite ok, r6, q6⟩
      | @name x n i c ts b₀ rest np p hs3 l3 hi hln hc hsu r ih =>
        rintro ⟨b, hb1, yes, no⟩
        have LM := PySem.W.exm_one (M := model X.prog X.w) (K3.kIn) looks hb1
        refine wpAny_handleBy_cons (codeAny_handlers_test (test hc (LM.here ?_))) (by intro q; cases q)
        cases b with
        | false => exact ih (no rfl)
        | true =>
          refine codeAny_handlers_suite_as (HandSPX.lands_againZ land3 fun g4 land4 up4 => ?_)
          have K4 : Inv X pins σ1 H1 { sx with heap := g4 } := J.landed nb land4.1 ((up.trans up3).trans up4) os ag
          obtain ⟨ob4, vs4, at4, z4, dat4⟩ := land4.there
          have S4 := K4.suite at4 dat4 na nL nF
          refine store_ok (X := X.suite a ((a, ob4) :: (X.pn ++ pins))) (v := .ref a) S4 hN hi (.inl hln) rfl (fun t5 S5 => ?_) (.inr hln)
          refine wpAny_mono ((hsu a ob4 cls d (X.pn ++ pins) z4 ⟨_, dat4⟩).run [] t5 _ H1 _ S5 (yes rfl a na)) (fun f t6 z => ?_) (fun _ _ z => z.elim)
          match f, z with
          | .next, ⟨_, _, S6, q6⟩ => exact gone_ok (S6.unsuite ok) hN hi hln fun t7 J7 => ⟨_, _, J7, q6⟩
          | .brk, ⟨_, _, S6, q6⟩ => exact gone_ok (S6.unsuite ok) hN hi hln fun t7 J7 => ⟨_, _, J7, q6⟩
          | .cont, ⟨_, _, S6, q6⟩ => exact gone_ok (S6.unsuite ok) hN hi hln fun t7 J7 => ⟨_, _, J7, q6⟩
          | .ret u, ⟨_, _, _, S6, r6, q6⟩ => exact gone_ok (S6.unsuite ok) hN hi hln fun t7 J7 => ⟨_, _, _, J7, r6, q6⟩
    exact go hh w
end
/-! ### the clauses by functions -/
/-- a clause: its class, its name's slot, its suite -/
abbrev MC := Str × Option Nat × MX
def clIn : Option Nat → Env' → Env'
  | none, ρ => ρ
  | some i, ρ => ρ.set i .no
def clOut : Option Nat → R Fl → R Fl
  | none, .err _ _ _ _ => .bad
  | none, r => r
  | some i, .ok (.nx ρ) s => .ok (.nx (ρ.set i .no)) s
  | some _, .ok (.rt d) s => .ok (.rt d) s
  | some i, .ok (.bk ρ) s => .ok (.bk (ρ.set i .no)) s
  | some i, .ok (.ct ρ) s => .ok (.ct (ρ.set i .no)) s
  | some _, _ => .bad
def clLt : Option Nat → Nat → Bool
  | none, _ => true
  | some i, n => decide (i < n)
/-- the first clause of the error's own class -/
def runCl (c : Str) (fs : List (Str × Dt)) (ρ : Env') (s : Hd) : List MC → R Fl
  | [] => .err c fs ρ s
  | (c', oi, m) :: r => if c' = c then (if clLt oi ρ.length = true then clOut oi (m fs (clIn oi ρ) s) else .bad) else runCl c fs ρ s r
def mTryCl (body : MS) (cls : List MC) : MS := fun ρ s => match body ρ s with
  | .err c fs ρ' s' => runCl c fs ρ' s' cls
  | r => r
/-- a suite, its name at slot i (or none), as text and as function -/
structure QXo (X : Cx) (oi : Option Nat) (C : Addr) (b₀ : Stmt) (rest : List Stmt) (ts : Addr → Value → Option Addr → TS) (m : MX) : Prop where
  text : SuiteOk X b₀ rest ts
  read : ∀ (a : Addr) (dd : Option Addr), match oi with
    | some i => XS' X.K X.mg i a dd (ts a (.ref C) dd) m
    | none => ∀ fs, SS X.K X.mg WF (ts a (.ref C) dd) (m fs)
/-- the classes' order: which error is caught by which clause -/
def Catch (K : Frag) (mg : Str → Option Value) (c c' : Str) : Prop := ∀ C C', mg c = some (.ref C) → mg c' = some (.ref C') → PySem.W.exmOne K (.ref C) (.ref C') = some (decide (c' = c))
inductive QCl (X : Cx) (all : List Str) : List ExceptHandler → List Cl → List MC → Prop
  | nil : QCl X all [] [] []
  | bare {c : Str} {C : Addr} {ts : Addr → Value → Option Addr → TS} {b₀ : Stmt} {rest : List Stmt} {np p : Pos} {hs : List ExceptHandler} {l : List Cl} {m : MX} {ml : List MC} (hm : X.mg c = some (.ref C)) (hg : Gl X c) (hdb : (c == ("__debug__" : Str)) = false) (hx : QXo X none C b₀ rest ts m)
      (hk : ∀ c' ∈ all, Catch X.K X.mg c' c) (r : QCl X all hs l ml) : QCl X all (.ExceptHandler (some (.Name c np)) none (b₀ :: rest) p :: hs) ((.ref C, none, ts) :: l) ((c, none, m) :: ml)
  | name {c n : Str} {i : Nat} {C : Addr} {ts : Addr → Value → Option Addr → TS} {b₀ : Stmt} {rest : List Stmt} {np p : Pos} {hs : List ExceptHandler} {l : List Cl} {m : MX} {ml : List MC} (hi : X.N[i]? = some n) (hln : X.env.kindOf n = some .local) (hm : X.mg c = some (.ref C)) (hg : Gl X c) (hdb : (c == ("__debug__" : Str)) = false)
      (hx : QXo X (some i) C b₀ rest ts m) (hk : ∀ c' ∈ all, Catch X.K X.mg c' c) (r : QCl X all hs l ml) : QCl X all (.ExceptHandler (some (.Name c np)) (some n) (b₀ :: rest) p :: hs) ((.ref C, some i, ts) :: l) ((c, some i, m) :: ml)
/-- errors of the classes all alone may come -/
def onlyOf (all : List Str) : R Fl → R Fl
  | .err c fs ρ s => if c ∈ all then .err c fs ρ s else .bad
  | r => r
def mTryQ (all : List Str) (body : MS) (cls : List MC) : MS := mTryCl (fun ρ s => onlyOf all (body ρ s)) cls
section
variable {X : Cx} {Wx : WX} {all : List Str}
theorem QCl.ok {hs : List ExceptHandler} {l : List Cl} {ml : List MC} (q : QCl X all hs l ml) : ClsOk X hs l := by
  induction q with
  | nil => exact .nil
  | bare hm hg hdb hx hk r ih => exact .bare ⟨hg, hdb, .inl hm⟩ hx.text ih
  | name hi hln hm hg hdb hx hk r ih => exact .name hi hln ⟨hg, hdb, .inl hm⟩ hx.text ih
theorem QCl.run {hs : List ExceptHandler} {l : List Cl} {ml : List MC} (q : QCl X all hs l ml) {h : Ent} {A B : Hp} {D : Ends} {c : Str} {C : Addr} {fs : List (Str × Dt)} {s : Hd} {σ : L2.St} {ρ : Env'} {od : Option Addr} (ca : c ∈ all) (mc : X.mg c = some (.ref C)) (g : G h.a A B s) (S : Slots X.K X.mg h A B σ ρ) (x : XdOk X.K X.mg h.a A B od fs)
    (p : PostS X.K X.mg h (runCl c fs ρ s ml) A B Wx D) : wCl X.K Wx D l (.ref C) od σ B := by
  induction q with
  | nil => exact p σ C od A B (Same.refl _) g S mc x
  | @bare c' C' ts b₀ rest np pp hs l m ml hm hg hdb hx hk r ih =>
    refine ⟨_, hk c ca C C' mc hm, fun e a na => ?_, fun e => ih ?_⟩
    · have e : c' = c := by simpa using e
      subst e
      obtain rfl : C' = C := by
        rw [hm] at mc
        cases mc
        rfl
      have p : PostS X.K X.mg h (if c' = c' then (if clLt none ρ.length = true then clOut none (m fs (clIn none ρ) s) else .bad) else runCl c' fs ρ s ml) A B Wx D := p
      rw [if_pos rfl, if_pos (show clLt none ρ.length = true from rfl)] at p
      refine (hx.read a od) fs h A B s σ ρ D g S ?_
      cases em : m fs ρ s with
      | ok f s2 =>
        rw [show clIn none ρ = ρ from rfl, em] at p
        cases f <;> exact p
      | err c2 fs2 ρ2 s2 =>
        rw [show clIn none ρ = ρ from rfl, em] at p
        exact p.elim
      | bad =>
        rw [show clIn none ρ = ρ from rfl, em] at p
        exact p.elim
    · have e : ¬ c' = c := by simpa using e
      have p : PostS X.K X.mg h (if c' = c then _ else runCl c fs ρ s ml) A B Wx D := p
      rw [if_neg e] at p
      exact p
  | @name c' n i C' ts b₀ rest np pp hs l m ml hi hln hm hg hdb hx hk r ih =>
    refine ⟨_, hk c ca C C' mc hm, fun e a na => ?_, fun e => ih ?_⟩
    · have e : c' = c := by simpa using e
      subst e
      obtain rfl : C' = C := by
        rw [hm] at mc
        cases mc
        rfl
      have p : PostS X.K X.mg h (if c' = c' then (if clLt (some i) ρ.length = true then clOut (some i) (m fs (clIn (some i) ρ) s) else .bad) else runCl c' fs ρ s ml) A B Wx D := p
      rw [if_pos rfl] at p
      by_cases hl : i < ρ.length
      · rw [if_pos (show clLt (some i) ρ.length = true from decide_eq_true hl)] at p
        refine (hx.read a od) h A B s (σ.set i (some (.ref a))) (ρ.set i .no) _ fs g (S.forget _) (List.getElem?_set_self (by rw [S.len]; exact hl)) x ?_
        cases em : m fs (ρ.set i .no) s with
        | ok f s2 =>
          rw [show clIn (some i) ρ = ρ.set i .no from rfl, em] at p
          cases f with
          | nx ρ2 => exact fun σ2 A2 B2 st2 g2 S2 => p (σ2.set i none) A2 B2 st2 g2 (S2.forget none)
          | rt d => exact p
          | bk ρ2 => exact fun σ2 A2 B2 st2 g2 S2 => p (σ2.set i none) A2 B2 st2 g2 (S2.forget none)
          | ct ρ2 => exact fun σ2 A2 B2 st2 g2 S2 => p (σ2.set i none) A2 B2 st2 g2 (S2.forget none)
        | err c2 fs2 ρ2 s2 =>
          rw [show clIn (some i) ρ = ρ.set i .no from rfl, em] at p
          exact p.elim
        | bad =>
          rw [show clIn (some i) ρ = ρ.set i .no from rfl, em] at p
          exact p.elim
      · rw [if_neg (show ¬ clLt (some i) ρ.length = true from by simpa [clLt] using hl)] at p
        exact p.elim
    · have e : ¬ c' = c := by simpa using e
      have p : PostS X.K X.mg h (if c' = c then _ else runCl c fs ρ s ml) A B Wx D := p
      rw [if_neg e] at p
      exact p
theorem qs_tryCl {body : List Stmt} {h₁ : ExceptHandler} {hs : List ExceptHandler} {l : List Cl} {ml : List MC} {pos : Pos} {mb : MS} (hst : X.stack = X.env :: X.outer) (hfr : X.env.frame = some X.env.locals) (hN : X.N.Nodup) (tk : Takes X Wx)
    (hb : ∀ (W : WX) (pn : List (Addr × Obj)) (xe : Value → Shared → Prop), Takes (X.tr pn xe) W → PassesOwn (model X.prog X.w) X.A X.env xe → QSs (X.tr pn xe) W body mb) (q : QCl X all (h₁ :: hs) l ml) : QS X Wx (.Try body (h₁ :: hs) [] [] pos) (mTryQ all mb ml) := by
  refine ⟨_, ps_try_cl (tb := fun W => cS X.K X.mg W mb) hst hfr hN tk (fun W pn xe t p => (hb W pn xe t p).can) q.ok, fun h H0 H s σ ρ D g S p => ⟨h, H0, s, ρ, g, S, ?_⟩⟩
  have p : PostS X.K X.mg h (mTryCl (fun ρ s => onlyOf all (mb ρ s)) ml ρ s) H0 H Wx D := p
  unfold mTryCl at p
  cases e : mb ρ s with
  | ok f s2 =>
    simp only [e, onlyOf] at p
    cases f <;> exact p
  | bad =>
    simp only [e, onlyOf] at p
    exact p
  | err c fs ρ' s' =>
    simp only [e] at p
    by_cases ca : c ∈ all
    · simp only [onlyOf, if_pos ca] at p
      exact fun σ' C od A B sm g' S' mc x => q.run ca mc g' S' x (PostS.step sm p)
    · simp only [onlyOf, if_neg ca] at p
      exact p.elim
end
inductive QClE (X : Cx) (all : List Str) : List ExceptHandler → List MC → Prop
  | nil : QClE X all [] []
  | bare {c : Str} {C : Addr} {b₀ : Stmt} {rest : List Stmt} {np p : Pos} {hs : List ExceptHandler} {m : MX} {ml : List MC} (hm : X.mg c = some (.ref C)) (hg : Gl X c) (hdb : (c == ("__debug__" : Str)) = false) (hx : ∃ ts, QXo X none C b₀ rest ts m)
      (hk : ∀ c' ∈ all, Catch X.K X.mg c' c) (r : QClE X all hs ml) : QClE X all (.ExceptHandler (some (.Name c np)) none (b₀ :: rest) p :: hs) ((c, none, m) :: ml)
  | name {c n : Str} {i : Nat} {C : Addr} {b₀ : Stmt} {rest : List Stmt} {np p : Pos} {hs : List ExceptHandler} {m : MX} {ml : List MC} (hi : X.N[i]? = some n) (hln : X.env.kindOf n = some .local) (hm : X.mg c = some (.ref C)) (hg : Gl X c) (hdb : (c == ("__debug__" : Str)) = false)
      (hx : ∃ ts, QXo X (some i) C b₀ rest ts m) (hk : ∀ c' ∈ all, Catch X.K X.mg c' c) (r : QClE X all hs ml) : QClE X all (.ExceptHandler (some (.Name c np)) (some n) (b₀ :: rest) p :: hs) ((c, some i, m) :: ml)
theorem QClE.ex {X : Cx} {all : List Str} {hs : List ExceptHandler} {ml : List MC} (q : QClE X all hs ml) : ∃ l, QCl X all hs l ml := by
  induction q with
  | nil => exact ⟨_, .nil⟩
  | bare hm hg hdb hx hk r ih =>
    obtain ⟨l, ih⟩ := ih
    obtain ⟨ts, hx⟩ := hx
    exact ⟨_, .bare hm hg hdb hx hk ih⟩
  | name hi hln hm hg hdb hx hk r ih =>
    obtain ⟨l, ih⟩ := ih
    obtain ⟨ts, hx⟩ := hx
    exact ⟨_, .name hi hln hm hg hdb hx hk ih⟩
theorem qs_tryE {X : Cx} {Wx : WX} {all : List Str} {body : List Stmt} {h₁ : ExceptHandler} {hs : List ExceptHandler} {ml : List MC} {pos : Pos} {mb : MS} (hst : X.stack = X.env :: X.outer) (hfr : X.env.frame = some X.env.locals) (hN : X.N.Nodup) (tk : Takes X Wx)
    (hb : ∀ (W : WX) (pn : List (Addr × Obj)) (xe : Value → Shared → Prop), Takes (X.tr pn xe) W → PassesOwn (model X.prog X.w) X.A X.env xe → QSs (X.tr pn xe) W body mb) (q : QClE X all (h₁ :: hs) ml) : QS X Wx (.Try body (h₁ :: hs) [] [] pos) (mTryQ all mb ml) := by
  obtain ⟨l, q⟩ := q.ex
  exact qs_tryCl hst hfr hN tk hb q
theorem qx_bare {X : Cx} {C : Addr} {b₀ : Stmt} {rest : List Stmt} {ms : MS} (hq : ∀ (a : Addr) (oe : Obj) (pn : List (Addr × Obj)), QSs (X.suite a ((a, oe) :: pn)) WF (b₀ :: rest) ms) : ∃ ts, QXo X none C b₀ rest ts (fun _ => ms) :=
  ⟨fun _ _ _ => cS X.K X.mg WF ms, ⟨fun a oe cls d pn _ _ => (hq a oe pn).can, fun a dd fs => ss_cS⟩⟩
/-! ### the suite  x = A if isinstance(e, C1) and isinstance(e, T2) else B,  e the caught error, which is both -/
def xIsSet (j : Nat) (x : Str) : MX := fun fs => if fs = [] then mSet j (mC (.str x)) else mBad
/-- isinstance of the class D's errors says yes for the class at C1 and for the built-in class T2 -/
structure IsBoth (K : Frag) (mg : Str → Option Value) (D : Addr) (c1 : Str) (T2 : String) : Prop where
  ex : ExcC K D
  one : ∃ C1, mg c1 = some (.ref C1) ∧ PySem.W.kitOne K (.ref D) (.ref C1) = some true
  two : PySem.W.kitOne K (.ref D) (.type T2) = some true
section
variable {X : Cx} {i j : Nat} {n y c1 t2 : Str} {T2 : String} {C : Addr} {p1 p2 p3 p4 p5 p6 p7 p8 p9 pa pb pc pd pe : Pos} {A B : Str} {ja jb : Nat}
open Classical in
theorem qx_is (hB : IsBoth X.K X.mg C c1 T2) (hN : X.N.Nodup) (hi : X.N[i]? = some n) (hj : X.N[j]? = some y) (hvi : Vis X.env.scope n) (hlj : Loc X.env.scope y) (hg : Gl X "isinstance") (hm : X.mg "isinstance" = none) (hg1 : Gl X c1) (hg2 : Gl X t2) (hm2 : X.mg t2 = none) (hv2 : bootBuiltins t2 = some (.type T2))
    (hdn : (n == ("__debug__" : Str)) = false) (hcn : (n == ("__classdict__" : Str)) = false) (hd1 : (c1 == ("__debug__" : Str)) = false) (hn2 : t2 ≠ "__name__") (hd2 : (t2 == ("__debug__" : Str)) = false)
    (hlp : ∀ (a : Addr) (oe : Obj) (pn : List (Addr × Obj)), swapsWith (.IfExp (.BoolOp .And [.Call (.Name "isinstance" p1) [.Name n p2, .Name c1 p3] [] p4, .Call (.Name "isinstance" p5) [.Name n p6, .Name t2 p7] [] p8] p9) (.Constant (.str A) ja pa) (.Constant (.str B) jb pb) pc) (some (.Name y pd)) pe.line (X.suite a ((a, oe) :: pn)).env = pure false)
    (hf : ∀ (a : Addr) (oe : Obj) (pn : List (Addr × Obj)), (X.suite a ((a, oe) :: pn)).fn y = true ∨ (X.suite a ((a, oe) :: pn)).env.scope.names.lookup y = some .local)
    (h1 : ∀ (a : Addr) (oe : Obj) (pn : List (Addr × Obj)), starEach [.Name n p2, .Name c1 p3] (X.suite a ((a, oe) :: pn)).env = (false, eval (.Name n p2) (X.suite a ((a, oe) :: pn)).env) :: starEach [.Name c1 p3] (X.suite a ((a, oe) :: pn)).env)
    (h2 : ∀ (a : Addr) (oe : Obj) (pn : List (Addr × Obj)), starEach [.Name c1 p3] (X.suite a ((a, oe) :: pn)).env = (false, eval (.Name c1 p3) (X.suite a ((a, oe) :: pn)).env) :: starEach [] (X.suite a ((a, oe) :: pn)).env)
    (h3 : ∀ (a : Addr) (oe : Obj) (pn : List (Addr × Obj)), starEach [.Name n p6, .Name t2 p7] (X.suite a ((a, oe) :: pn)).env = (false, eval (.Name n p6) (X.suite a ((a, oe) :: pn)).env) :: starEach [.Name t2 p7] (X.suite a ((a, oe) :: pn)).env)
    (h4 : ∀ (a : Addr) (oe : Obj) (pn : List (Addr × Obj)), starEach [.Name t2 p7] (X.suite a ((a, oe) :: pn)).env = (false, eval (.Name t2 p7) (X.suite a ((a, oe) :: pn)).env) :: starEach [] (X.suite a ((a, oe) :: pn)).env)
    (h5 : ∀ (a : Addr) (oe : Obj) (pn : List (Addr × Obj)), (backTo p4 (starEach [.Name c1 p3] (X.suite a ((a, oe) :: pn)).env)).any (·.1) = false) (h6 : ∀ (a : Addr) (oe : Obj) (pn : List (Addr × Obj)), (backTo p8 (starEach [.Name t2 p7] (X.suite a ((a, oe) :: pn)).env)).any (·.1) = false) :
    ∃ ts, QXo X (some i) C (.Assign [.Name y pd] (.IfExp (.BoolOp .And [.Call (.Name "isinstance" p1) [.Name n p2, .Name c1 p3] [] p4, .Call (.Name "isinstance" p5) [.Name n p6, .Name t2 p7] [] p8] p9) (.Constant (.str A) ja pa) (.Constant (.str B) jb pb) pc) pe) [] ts (xIsSet j A) := by
  obtain ⟨C1, hm1, k1⟩ := hB.one
  let te (a : Addr) (v : V) : TE := tCB (rIsE X.K C a) (tCons (tVar i) (tCons (tC v) tNil))
  let real (a : Addr) : TS := tAsg (tIf (tAnd (tB (te a (.ref C1))) (tB (te a (.ty T2)))) (tC (.str A)) (tC (.str B))) (gName j)
  refine ⟨fun a cls d => if cls = .ref C ∧ d = none then real a else fun _ _ _ => False, ⟨fun a oe cls d pn hz hv => ?_, fun a dd => ?_⟩⟩
  · by_cases c : cls = .ref C ∧ d = none
    · obtain ⟨rfl, rfl⟩ := c
      rw [if_pos ⟨rfl, rfl⟩]
      have e1 : PE (X.suite a ((a, oe) :: pn)) (.Name n p2) (tVar i) := pe_var hi hvi hdn hcn
      have e2 : PE (X.suite a ((a, oe) :: pn)) (.Name n p6) (tVar i) := pe_var hi hvi hdn hcn
      have c1 := pe_callB (X := X.suite a ((a, oe) :: pn)) (p := p1) (pos := p4) (call_isE (pn := pn) hB.ex hz hv) hg hm (by decide +kernel) (pa_cons e1 (pa_cons (pe_glob (v := .ref C1) (pos := p3) hg1 hm1 rfl hd1) pa_nil (h2 a oe pn)) (h1 a oe pn)) (by decide) (by decide) (h1 a oe pn) (h5 a oe pn)
      have c2 := pe_callB (X := X.suite a ((a, oe) :: pn)) (p := p5) (pos := p8) (call_isE (pn := pn) hB.ex hz hv) hg hm (by decide +kernel) (pa_cons e2 (pa_cons (pe_bltn (v := .ty T2) (pos := p7) hg2 hm2 hv2 rfl hn2 hd2) pa_nil (h4 a oe pn)) (h3 a oe pn)) (by decide) (by decide) (h3 a oe pn) (h6 a oe pn)
      exact pss_one (ps_set hN hj hlj (pe_ifExp (PW.pt (pw_and (pt_val c1) (pw_and1 (pt_val c2)))) pe_str pe_str) (hlp a oe pn) (hf a oe pn))
    · rw [if_neg c]
      exact ⟨fun _ _ _ _ _ _ z => z.elim⟩
  · show XS' X.K X.mg i a dd (if Value.ref C = .ref C ∧ dd = none then real a else fun _ _ _ => False) (xIsSet j A)
    intro h H0 H s σ ρ D fs g S ei ed p
    unfold xIsSet at p
    by_cases c : fs = []
    · rw [if_pos c] at p
      have dn : dd = none := by
        cases dd with
        | none => rfl
        | some dd => exact absurd c ed.1
      rw [if_pos ⟨rfl, dn⟩]
      have p : ∀ σ' H0' H', Same H0 H0' → G h.a H0' H' s → Slots X.K X.mg h H0' H' σ' (ρ.set j (.dat (.str A))) → D.nx σ' H' := p
      refine ⟨.ref a, ei, _, .ref C1, true, rfl, fun u r => r, k1, true, rfl, ?_⟩
      refine iteT ⟨.ref a, ei, _, .type T2, true, rfl, fun u r => r, hB.two, true, rfl, ?_⟩
      exact iteT (p _ H0 H (Same.refl _) g (S.set (.str A)))
    · rw [if_neg c] at p
      exact p.elim
end
/-! ### raise C() -/
def mRaise0 (c : Str) : MS := fun ρ s => .err c [] ρ s
/-- a class of errors without __init__ of its own -/
def Thrown0 (K : Frag) (mg : Str → Option Value) (c : Str) : Prop := ∃ (C : Addr) (B newId initId : String) (bmB : List Value), mg c = some (.ref C) ∧ ExcBaseFacts B newId initId bmB ∧ PySem.W.excIn K C bmB newId = true ∧ PySem.W.keepIn K (.ref C) = true ∧ PySem.W.subIn K (.ref C) (.type "BaseException") = some true ∧ PySem.W.typeIn K (.ref C) = some (.type "type")
theorem pmk_none {X : Cx} {C : Addr} {bmB : List Value} {B newId initId : String} {x : Str} {p pos : Pos} (F : ExcBaseFacts B newId initId bmB) (q : PySem.W.excIn X.K C bmB newId = true) (gC : X.mg x = some (.ref C)) (kC : PySem.W.keepIn X.K (.ref C) = true) (r : Raises X (.ref C)) (hg : Gl X x)
    (hdb : (x == ("__debug__" : Str)) = false := by decide) : PMk X (.Call (.Name x p) [] [] pos) (fun _ H Q => Q (.ref C) none H) := by
  intro pins s σ H Q I h
  refine wpAny_Call_Name_kw (ld_glob I hg gC (PySem.W.callWith_K0 I.kIn kC ?_) hdb)
  show wpAny _ _ (call (.ref C) []) _ _ _
  obtain ⟨bm, N, nm, qn, bs, hdct, sn, sub, ab, col, dd, k0, k1, k2, k3, k5, mN, hC, hN, hni, T⟩ := exc_obj I.kIn q
  exact wpAny_call_exc_subT F T hC hN hni (fun h' e hm => mk_of I hm r h (I.hok.gone hm.new)) (Nat.zero_le _)
theorem qs_throw0 {X : Cx} {Wx : WX} {c : Str} {p pos pos2 : Pos} (T : Thrown0 X.K X.mg c) (hc : X.calm = true) (tk : Takes X Wx) (hg : Gl X c := by rfl) (hdb : (c == ("__debug__" : Str)) = false := by decide) : QS X Wx (.Raise (some (.Call (.Name c p) [] [] pos)) none pos2) (mRaise0 c) := by
  obtain ⟨C, B, newId, initId, bmB, hm, F, q, kC, h1, h2⟩ := T
  refine ⟨_, ps_raise hc tk (pmk_none F q hm kC (raises_own h1 h2) hg hdb), ?_⟩
  intro h H0 H s σ ρ D g S p
  exact p σ C none H0 H (Same.refl _) g S hm rfl
end Mir


set_option Elab.async false
set_option linter.all false
set_option maxRecDepth 100000
/-! Texts: str of an int, int of a text, divmod, methods of texts, text * int, a list backwards. -/
namespace Mir
open PySem PySem.Spec PyProof.Rows L2
open PySem.W (Frag)
/-! ### str(int), int(text), divmod -/
def fStr : List Dt → Option Dt
  | [.int i] => if i.natAbs.log2 < 1920 then some (.str (toString i)) else none
  | _ => none
def fIntS : List Dt → Option Dt
  | [.str a] => if a.length ≤ 640 then (PySem.intText? a).map .int else none
  | _ => none
def fIntT : List Dt → Option Dt
  | [.str a] => if a.length ≤ 640 then (PySem.intText? a).map .int else none
  | ds => fIntC ds
def fDivmod : List Dt → Option Dt
  | [.int i, .int j] => if DivOk j then some (.tup [.int (i.fdiv j), .int (i.fmod j)]) else none
  | _ => none
section
variable {K : Frag} {mg : Str → Option Value}
theorem cs_str : CaS K mg (fun xs H Q => ∃ i, xs = [.int i] ∧ i.natAbs.log2 < 1920 ∧ Q (.str (toString i)) H) fStr := by
  intro h H0 H s xs ds z Q g0 hx hz q
  unfold fStr at hz
  split at hz
  · split at hz
    · rename_i c
      cases hz
      cases hx with
      | cons a r =>
        cases r
        cases a
        exact ⟨_, rfl, c, q _ H0 H (.refl _ _) g0 (.str _)⟩
    · cases hz
  · cases hz
theorem cs_intS : CaS K mg (fun xs H Q => ∃ a n, xs = [.str a] ∧ PySem.intText? a = some n ∧ a.length ≤ 640 ∧ Q (.int n) H) fIntS := by
  intro h H0 H s xs ds z Q g0 hx hz q
  unfold fIntS at hz
  split at hz
  · rename_i a
    split at hz
    · rename_i c
      cases e : PySem.intText? a with
      | none =>
        rw [e] at hz
        cases hz
      | some n =>
        rw [e] at hz
        cases hz
        cases hx with
        | cons a r =>
          cases r
          cases a
          exact ⟨_, _, rfl, e, c, q _ H0 H (.refl _ _) g0 (.int _)⟩
    · cases hz
  · cases hz
theorem cs_intT : CaS K mg (fun xs H Q => ((∃ i, xs = [.int i] ∧ Q (.int i) H) ∨ ∃ k, xs = [.bl k] ∧ Q (.int (if k then 1 else 0)) H) ∨ ∃ a n, xs = [.str a] ∧ PySem.intText? a = some n ∧ a.length ≤ 640 ∧ Q (.int n) H) fIntT :=
  CaS.or cs_int cs_intS fun d z e => by
    unfold fIntT at e
    split at e
    · exact .inr e
    · exact .inl e
def rDivmod : List V → Hp → VK → Prop := fun xs H Q => ∃ i j, xs = [.int i, .int j] ∧ DivOk j ∧ ∀ p, H p = none → Q (.ref p) (upd H p (.tup [.int (i.fdiv j), .int (i.fmod j)]))
theorem cs_divmod : CaS K mg rDivmod fDivmod := by
  intro h H0 H s xs ds z Q g0 hx hz q
  unfold fDivmod at hz
  split at hz
  · split at hz
    · rename_i c
      cases hz
      cases hx with
      | cons a r =>
        cases r with
        | cons b r =>
          cases r
          cases a
          cases b
          refine ⟨_, _, rfl, c, fun p hp => ?_⟩
          obtain ⟨g1, st⟩ := g0.alloc (o := .tup _) hp
          exact q _ _ _ st g1 (.tup (SqT.of upd_same) (.cons (.int _) (.cons (.int _) .nil)))
    · cases hz
  · cases hz
end
section
variable {X : Cx}
theorem call_divmodW : CallR X (.builtin "divmod") rDivmod := by
  intro pins s σ H xs us Q I r h
  obtain ⟨i, j, rfl, ⟨h1, h2⟩, q⟩ := h
  obtain ⟨u, w', rfl, ⟨t, rfl⟩, ⟨t', rfl⟩⟩ := vals2 r
  refine divmod_int h1 ?_ (.inl (PyProof.noPylong_of_log2 h2))
  have hn : H s.heap.objs.size = none := I.hok.fresh (Nat.le_refl _)
  refine ⟨.ref s.heap.objs.size, _, ?_, rfl, q _ hn⟩
  refine I.laid (fun b o e => Heap.get?_push_of_some _ e) (Nat.le_refl _) ⟨by simp only [List.length_cons, List.length_nil]; rw [sizeLine_eq]; decide, [.int (i.fdiv j) s.toks, .int (i.fmod j) (s.toks + 1)], .cons ⟨_, rfl⟩ (.cons ⟨_, rfl⟩ .nil), ?_⟩
  exact ⟨_, Heap.get?_push_size s.heap rfl, rfl, 0, rfl⟩
theorem call_intAny : CallR X (.type "int") (fun xs H Q => ((∃ i, xs = [.int i] ∧ Q (.int i) H) ∨ ∃ k, xs = [.bl k] ∧ Q (.int (if k then 1 else 0)) H) ∨ ∃ a n, xs = [.str a] ∧ PySem.intText? a = some n ∧ a.length ≤ 640 ∧ Q (.int n) H) := CallR.or call_int1 call_int_str
end
/-! ### methods of texts -/
def MtS (K : Frag) (mg : Str → Option Value) (r : V → List V → Hp → VK → Prop) (f : Str → List Dt → Option Dt) : Prop := ∀ (h : Addr) (H0 H : Hp) (s : Hd) (x : Str) (xs : List V) (ds : List Dt) (z : Dt) (Q : VK), G h H0 H s → DenA K mg h H0 xs ds → f x ds = some z →
  (∀ u H0' H', Step h H0 H H0' H' → G h H0' H' s → Den K mg h H0' u z → Q u H') → r (.str x) xs H Q
def mMt (f : Str → List Dt → Option Dt) (a : ME) (as : MA) : ME := fun ρ s => (a ρ s).bind fun d s1 => match d with
  | .str x => (as ρ s1).bind fun ds s2 => liftO (f x ds) s2
  | _ => .bad
section
variable {X : Cx} {Wx : WX} {K : Frag} {mg : Str → Option Value} {to : TE} {ta : TA} {o e : Expr} {es : List Expr} {mo : ME} {as : MA} {r : V → List V → Hp → VK → Prop} {f : Str → List Dt → Option Dt} {name : Str} {id : String} {apos cpos : Pos}
theorem se_mt (hr : MtS K mg r f) (hb : SE K mg Wx to mo) (ha : SA K mg Wx ta as) : SE K mg Wx (tBM K "str" r to ta) (mMt f mo as) := by
  intro h H0 H s σ ρ Q g S p
  refine hb h H0 H s σ ρ _ g S (Post.bind p fun d s1 x A B st g1 dx p1 => ?_)
  cases dx with
  | str y =>
    refine ⟨rfl, ha h A B s1 σ ρ _ g1 (S.step st) (Post.bind p1 fun ds s2 xs A2 B2 st2 g2 dxs p2 => ?_)⟩
    obtain ⟨z, hz, p3⟩ := post_lift p2
    exact hr h A2 B2 s2 y xs ds z Q g2 dxs hz fun u A3 B3 st3 g3 du => p3 u A3 B3 st3 g3 du
  | _ => exact p1.elim
theorem se_mt0 (hr : MtS K mg r f) (hb : SE K mg Wx to mo) : SE K mg Wx (tBM0 K "str" r to) (mMt f mo mNil) := by
  intro h H0 H s σ ρ Q g S p
  refine hb h H0 H s σ ρ _ g S (Post.bind p fun d s1 x A B st g1 dx p1 => ?_)
  cases dx with
  | str y =>
    refine ⟨rfl, ?_⟩
    obtain ⟨z, hz, p3⟩ := post_lift p1
    exact hr h A B s1 y [] [] z Q g1 .nil hz fun u A3 B3 st3 g3 du => p3 u A3 B3 st3 g3 du
  | _ => exact p1.elim
theorem qe_mt (slot : Slot "str" name id) (hty : typeOf (.builtin id) = pure (.type "method_descriptor")) (hm : MtR X id r) (hr : MtS X.K X.mg r f) (ho : QE X Wx o mo) (ha : QA X Wx (e :: es) as)
    (hbase : attributeBase o name X.env (eval o X.env) = eval o X.env := by rfl)
    (hfew : ((backTo cpos (starEach (e :: es) X.env)).all (fun x => !x.1) && (backToKw cpos (keywordEach [] X.env)).all (fun x => x.1.isSome)
      && decide ((e :: es).length + ([] : List Keyword).length + (if ([] : List Keyword).isEmpty then 0 else 1) < 30)) = true := by rfl)
    (hline : (apos.endLine == cpos.line) = true := by rfl) (hs : starEach (e :: es) X.env = (false, eval e X.env) :: starEach es X.env := by rfl) (hplain : (backTo cpos (starEach es X.env)).any (·.1) = false := by rfl) :
    QE X Wx (.Call (.Attribute o name apos) (e :: es) [] cpos) (mMt f mo as) := by
  obtain ⟨t, p, so⟩ := ho
  obtain ⟨t2, p2, sa⟩ := ha
  exact ⟨_, pe_bm PySem.F.plainAttrs_str slot hty hm p p2 hbase hfew hline hs hplain, se_mt hr so sa⟩
theorem qe_mt0 (slot : Slot "str" name id) (hty : typeOf (.builtin id) = pure (.type "method_descriptor")) (hm : MtR X id r) (hr : MtS X.K X.mg r f) (ho : QE X Wx o mo)
    (hbase : attributeBase o name X.env (eval o X.env) = eval o X.env := by rfl) (hline : (apos.endLine == cpos.line) = true := by rfl) : QE X Wx (.Call (.Attribute o name apos) [] [] cpos) (mMt f mo mNil) := by
  obtain ⟨t, p, so⟩ := ho
  exact ⟨_, pe_bm0 PySem.F.plainAttrs_str slot hty hm p hbase hline, se_mt0 hr so⟩
end
def fZfill (x : Str) : List Dt → Option Dt
  | [.int i] => if PadOk i = true then some (.str (Txt.zfill x i)) else none
  | _ => none
def fRemovePre (x : Str) : List Dt → Option Dt
  | [.str b] => if sizeOk x.length then some (.str (Txt.removeprefix x b)) else none
  | _ => none
def fIsAscii (x : Str) : List Dt → Option Dt
  | [] => some (.bl (Txt.isascii x))
  | _ => none
def fIsDigit (x : Str) : List Dt → Option Dt
  | [] => some (.bl (Txt.isdigit x))
  | _ => none
def fPartition (x : Str) : List Dt → Option Dt
  | [.str b] => if (b.length == 0) = false ∧ sizeOk x.length then some (.tup [.str (Txt.partition x b).1, .str (Txt.partition x b).2.1, .str (Txt.partition x b).2.2]) else none
  | _ => none
def strsD : List Dt → Option (List Str)
  | [] => some []
  | .str x :: ds => (strsD ds).map fun l => x :: l
  | _ => none
def fJoin (x : Str) : List Dt → Option Dt
  | [.lst ds] => (strsD ds).bind fun ys => if (ys.map (·.length)).sum + ys.length * x.length ≤ 16777216 then some (.str (Txt.join x ys)) else none
  | _ => none
section
variable {K : Frag} {mg : Str → Option Value}
theorem ms_zfill : MtS K mg (fun x xs H Q => ∃ (a : Str) (i : Int), x = .str a ∧ xs = [.int i] ∧ PadOk i = true ∧ Q (.str (Txt.zfill a i)) H) fZfill := by
  intro h H0 H s x xs ds z Q g0 hx hz q
  unfold fZfill at hz
  split at hz
  · split at hz
    · rename_i c
      cases hz
      cases hx with
      | cons a r =>
        cases r
        cases a
        exact ⟨_, _, rfl, rfl, c, q _ H0 H (.refl _ _) g0 (.str _)⟩
    · cases hz
  · cases hz
theorem ms_removepre : MtS K mg (fun x xs H Q => ∃ a b, x = .str a ∧ xs = [.str b] ∧ a.length ≤ sizeLine ∧ Q (.str (Txt.removeprefix a b)) H) fRemovePre := by
  intro h H0 H s x xs ds z Q g0 hx hz q
  unfold fRemovePre at hz
  split at hz
  · split at hz
    · rename_i c
      cases hz
      cases hx with
      | cons a r =>
        cases r
        cases a
        exact ⟨_, _, rfl, rfl, c.le, q _ H0 H (.refl _ _) g0 (.str _)⟩
    · cases hz
  · cases hz
theorem ms_isascii : MtS K mg (fun x xs H Q => ∃ a, x = .str a ∧ xs = [] ∧ True ∧ Q (.bl (Txt.isascii a)) H) fIsAscii := by
  intro h H0 H s x xs ds z Q g0 hx hz q
  unfold fIsAscii at hz
  split at hz
  · cases hz
    cases hx
    exact ⟨_, rfl, rfl, trivial, q _ H0 H (.refl _ _) g0 (.bl _)⟩
  · cases hz
theorem ms_isdigit : MtS K mg (fun x xs H Q => ∃ a, x = .str a ∧ xs = [] ∧ True ∧ Q (.bl (Txt.isdigit a)) H) fIsDigit := by
  intro h H0 H s x xs ds z Q g0 hx hz q
  unfold fIsDigit at hz
  split at hz
  · cases hz
    cases hx
    exact ⟨_, rfl, rfl, trivial, q _ H0 H (.refl _ _) g0 (.bl _)⟩
  · cases hz
theorem ms_partition : MtS K mg (fun x xs H Q => ∃ a b, x = .str a ∧ xs = [.str b] ∧ (b.length == 0) = false ∧ a.length ≤ sizeLine ∧
    ∀ p, H p = none → Q (.ref p) (upd H p (.tup [.str (Txt.partition a b).1, .str (Txt.partition a b).2.1, .str (Txt.partition a b).2.2]))) fPartition := by
  intro h H0 H s x xs ds z Q g0 hx hz q
  unfold fPartition at hz
  split at hz
  · split at hz
    · rename_i c
      cases hz
      cases hx with
      | cons a r =>
        cases r
        cases a
        refine ⟨_, _, rfl, rfl, c.1, c.2.le, fun p hp => ?_⟩
        obtain ⟨g1, st⟩ := g0.alloc (o := .tup _) hp
        exact q _ _ _ st g1 (.tup (SqT.of upd_same) (.cons (.str _) (.cons (.str _) (.cons (.str _) .nil))))
    · cases hz
  · cases hz
theorem strsD_vals {h : Addr} {H : Hp} : ∀ {ds : List Dt} {vs : List V} {ys : List Str}, DenA K mg h H vs ds → strsD ds = some ys → vs = ys.map V.str
  | [], _, ys, .nil, e => by
    cases e
    rfl
  | d :: ds, _, ys, .cons (v := v) (vs := vs) dv da, e => by
    cases dv with
    | str x =>
      cases e2 : strsD ds with
      | none =>
        simp [strsD, e2] at e
      | some l =>
        simp [strsD, e2] at e
        subst e
        rw [strsD_vals da e2]
        rfl
    | _ => cases e
theorem ms_join : MtS K mg (fun x xs H Q => ∃ a p, ∃ ys : List Str, x = .str a ∧ xs = [.ref p] ∧ (SqL K H p (ys.map V.str) ∨ SqT K H p (ys.map V.str)) ∧
    (ys.map (·.length)).sum + ys.length * a.length ≤ 16777216 ∧ Q (.str (Txt.join a ys)) H) fJoin := by
  intro h H0 H s x xs ds z Q g0 hx hz q
  unfold fJoin at hz
  split at hz
  · rename_i es
    cases e : strsD es with
    | none =>
      rw [e] at hz
      cases hz
    | some ys =>
      rw [e] at hz
      have hz : (if (ys.map (·.length)).sum + ys.length * x.length ≤ 16777216 then some (Dt.str (Txt.join x ys)) else none) = some z := hz
      split at hz
      · rename_i c
        cases hz
        cases hx with
        | cons a r =>
          cases r
          cases a with
          | lst qa ra =>
            have ev := strsD_vals ra e
            subst ev
            exact ⟨_, _, _, rfl, rfl, .inl (SqL.of (g0.ex _ _ qa)), c, q _ H0 H (.refl _ _) g0 (.str _)⟩
      · cases hz
  · cases hz
end
/-! ### xs[::-1] -/
def mRev (a : ME) : ME := fun ρ s => (a ρ s).bind fun d s1 => match d with
  | .lst ds => .ok (.lst ds.reverse) s1
  | _ => .bad
section
variable {X : Cx} {Wx : WX} {K : Frag} {mg : Str → Option Value} {te : TE} {ma : ME} {e : Expr} {k : Nat} {p1 p2 p3 pos : Pos}
theorem DenA.rev {h : Addr} {H : Hp} {vs : List V} {ds : List Dt} (d : DenA K mg h H vs ds) : DenA K mg h H vs.reverse ds.reverse := by
  induction ds generalizing vs with
  | nil =>
    cases d
    exact .nil
  | cons x ds ih =>
    cases d with
    | cons a r =>
      rw [List.reverse_cons, List.reverse_cons]
      exact (ih r).append (.cons a .nil)
theorem se_rev (ha : SE K mg Wx te ma) : SE K mg Wx (tRevL K te) (mRev ma) := by
  intro h H0 H s σ ρ Q g S p
  refine ha h H0 H s σ ρ _ g S (Post.bind p fun d s1 x A B st g1 dx p1 => ?_)
  cases dx with
  | lst qa ra =>
    refine ⟨_, _, rfl, SqL.of (g1.ex _ _ qa), fun p hp => ?_⟩
    obtain ⟨g2, st2⟩ := g1.alloc (o := .lst _) hp
    exact p1 _ _ _ st2 g2 (.lst upd_same (ra.rev.mono st2.s0))
  | _ => exact p1.elim
theorem qe_rev (ha : QE X Wx e ma) : QE X Wx (.Subscript e (.Slice none none (some (.UnaryOp .USub (.Constant (.int 1) k p1) p2)) p3) pos) (mRev ma) := by
  obtain ⟨t, p, s⟩ := ha
  exact ⟨_, pe_revL p, se_rev s⟩
end
/-! ### text * int -/
def fRep : Dt → Dt → Option Dt
  | .str a, .int j => if 1 ≤ j ∧ j ≤ 10000 ∧ a.length ≤ 9 ∧ a.length ≠ 0 ∧ j ≠ 1 then some (.str ⟨(List.replicate j.toNat a.cps).foldl (· ++ ·) #[]⟩) else none
  | _, _ => none
def rRepS : R2 := fun x y H Q => ∃ a j, x = .str a ∧ y = .int j ∧ (1 ≤ j ∧ j ≤ 10000 ∧ a.length ≤ 9 ∧ a.length ≠ 0 ∧ j ≠ 1) ∧ Q (.str ⟨(List.replicate j.toNat a.cps).foldl (· ++ ·) #[]⟩) H
section
variable {X : Cx} {K : Frag} {mg : Str → Option Value}
theorem op_repS : OpR X (binaryOp .Mult) rRepS := by
  intro pins s σ H x y v u Q I rx ry h
  obtain ⟨a, j, rfl, rfl, ⟨h1, h2, h3, h4, h5⟩, q⟩ := h
  obtain ⟨t, rfl⟩ := rx
  obtain ⟨t', rfl⟩ := ry
  have b1 : (j == 1) = false := beq_eq_false_iff_ne.mpr h5
  have b2 : (a.length == 0) = false := beq_eq_false_iff_ne.mpr h4
  have ok : PySem.MulOk a j := by
    refine ⟨by simp; omega, fun _ _ => ?_, fun _ _ => ?_⟩
    · have m : (a.length : Int) * j ≤ 9 * 10000 := Int.mul_le_mul (by omega) (by omega) (by omega) (by omega)
      have := Int.le_ediv_of_mul_le (a := (a.length : Int)) (b := 2 ^ 63 - 1) (c := j) (by omega) (by omega)
      omega
    · have m : a.length * j.toNat ≤ 9 * 10000 := Nat.mul_le_mul h3 (by omega)
      unfold PySem.Builtin.Str.tooLong
      have e : sizeLine = 16777216 := rfl
      exact decide_eq_false (by omega)
  refine PySem.SB.mul ok fun t2 k => ?_
  have em : Txt.mul a j = ⟨(List.replicate j.toNat a.cps).foldl (· ++ ·) #[]⟩ := by
    unfold Txt.mul
    rw [if_neg (by omega), b1, b2]
    rfl
  rw [em]
  exact ⟨.str _, H, I.tok _, ⟨_, rfl⟩, q⟩
theorem os_rep : OpS K mg rRepS fRep := by
  intro h H0 H s x y d e z Q g0 hx hy hz q
  unfold fRep at hz
  split at hz
  · split at hz
    · rename_i c
      cases hz
      cases hx
      cases hy
      exact ⟨_, _, rfl, rfl, c, q _ H0 H (.refl _ _) g0 (.str _)⟩
    · cases hz
  · cases hz
end
end Mir


set_option Elab.async false
set_option linter.all false
set_option maxRecDepth 100000
/-! Walks that give pairs: zip, enumerate. -/
namespace Mir
open PySem PySem.Spec PyProof.Rows L2
open PySem.W (Frag)
section
variable {K : Frag} {mg : Str → Option Value} {Wx : WX} {ta : TE} {tb : TS} {a : ME} {body : MS} {tt : TT} {mt : MT} {js vs : List Nat} {g : TG} {m : GM}
theorem cw_turnX {h : Ent} {A B A' B' : Hp} {s' : Hd} {acc : List Dt} {vv : List V} {σ : L2.St} {ρ : Env'} {D : Addr} {PF : R Dt → Prop} (hbad : PF .bad → False) {x : V} {d : Dt} {ds : List Dt} (hg : SG K mg js g m) (hv : ∀ j ∈ js, j ∈ vs) (ht : ST K mg WF tt mt) (ha : SE K mg WF ta a) (S : Slots K mg h A B σ ρ)
    (st : Step h A B A' B') (g0 : G h A' B' s') (hB : B D = none) (hD : A' D = none) (nD : ¬ isH h B' D) (eD : B' D = some (.lst vv)) (da : DenA K mg h A' vv acc) (p : PF (loopC m mt a vs (d :: ds) acc ρ s')) (dx : Den K mg h A' x d) :
    g x (L2.wipe σ vs) B' fun σ2 H2 => L2.wipe σ2 vs = L2.wipe σ vs ∧ tt σ2 H2 fun b H3 =>
      if b = true then ta σ2 H3 fun y H4 => ∃ acc, H4 D = some (.lst acc) ∧ acc.length < sizeLine ∧ CW K mg PF m mt a vs h A B ρ D ds (upd H4 D (.lst (acc ++ [y]))) else CW K mg PF m mt a vs h A B ρ D ds H3 := by
  unfold loopC at p
  cases e : m d (wipeE ρ vs) with
  | none =>
    rw [e] at p
    exact (hbad p).elim
  | some ρ1 =>
    simp only [e] at p
    refine hg h A' B' s' x d _ _ ρ1 _ g0 ((S.step st).wipe vs) dx e fun σ1 o1 S1 => ⟨wipe_off hv o1, ht h A' B' s' σ1 ρ1 _ g0 S1 (Post.noErr hbad p fun c s1 c' A2 B2 st2 g2 ec p2 => ?_)⟩
    have ec : c' = c := ec
    subst ec
    have f2 := st2.fr D _ eD hD nD
    cases c' with
    | false => exact ⟨A2, s1, acc, vv, st.trans st2, g2, hB, f2.2.1, f2.2.2, f2.1, da.mono st2.s0, p2⟩
    | true =>
      show ta σ1 B2 _
      rw [if_pos rfl] at p2
      refine ha h A2 B2 s1 σ1 ρ1 _ g2 (S1.step st2) (Post.noErr hbad p2 fun z s3 y A3 B3 st3 g3 dy p3 => ?_)
      have f3 := st3.fr D _ f2.1 f2.2.1 f2.2.2
      by_cases c : sizeOk acc.length
      · rw [if_pos c] at p3
        refine ⟨vv, f3.1, by rw [da.len]; exact c.lt, ?_⟩
        obtain ⟨gl, a1, a2, a3, a4⟩ := g3.gl
        have n1 : h ≠ D := fun z => f3.2.2 (.inl z.symm)
        have n2 : gl ≠ D := fun z => f3.2.2 (.inr ⟨_, by rw [← z]; exact a3⟩)
        have nH : ∀ q, isH h (upd B3 D (.lst (vv ++ [y]))) q → isH h B3 q := fun q w => by
          rcases w with w | ⟨r, w⟩
          · exact .inl w
          · rw [upd_ne n1] at w
            exact .inr ⟨r, w⟩
        have st4 : Step h A B A3 (upd B3 D (.lst (vv ++ [y]))) := ⟨(st.trans (st2.trans st3)).s0, fun q u x1 x2 x3 => by
          have nq : q ≠ D := ne_of_none x1 hB
          obtain ⟨y1, y2, y3⟩ := (st.trans (st2.trans st3)).fr q u x1 x2 x3
          exact ⟨by rw [upd_ne nq]; exact y1, y2, fun w => y3 (nH q w)⟩⟩
        refine ⟨A3, s3, acc ++ [z], vv ++ [y], st4, ⟨fun q u w => ?_, g3.h0, gl, a1, a2, by rw [upd_ne n1]; exact a3, by rw [upd_ne n2]; exact a4⟩, hB, f3.2.1, fun w => f3.2.2 (nH D w), upd_same, ((da.mono st2.s0).mono st3.s0).append (.cons dy .nil), p3⟩
        rw [upd_ne fun z => by rw [z, f3.2.1] at w; cases w]
        exact g3.ex _ _ w
      · rw [if_neg c] at p3
        exact (hbad p3).elim
/-- an iterator whose turns give new couples -/
structure PairW (J : It) (Ok : Hp → Prop) (n : Nat) (px : Nat → V × V) : Prop where
  go : ∀ {i H}, Ok H → i < n → J.go i H
  yld : ∀ {i H v H'}, Ok H → i < n → J.yld i H v H' → ∃ T, v = .ref T ∧ H T = none ∧ H' = upd H T (.tup [(px i).1, (px i).2])
  stop : ∀ {H}, Ok H → J.stop n H
theorem for_pairs {h : Ent} {A B : Hp} {s : Hd} {σ : L2.St} {ρ : Env'} {D : Ends} {J : It} {Ok : Hp → Prop} {n : Nat} {px : Nat → V × V} {ds : List Dt} (P : PairW J Ok n px) (hok : ∀ A' B' s', Same A A' → G h A' B' s' → Ok B') (hl : ds.length = n)
    (hd : ∀ i, i < n → ∃ d e, ds[i]? = some (.tup [d, e]) ∧ Den K mg h A (px i).1 d ∧ Den K mg h A (px i).2 e) (hg : SG K mg js g m) (hb : SS K mg Wx tb body) (g1 : G h A B s) (S1 : Slots K mg h A B σ ρ) (p1 : PostS K mg h (loopF m body ds ρ s) A B Wx D) :
    ∃ W : Nat → Nat → L2.St → Hp → Prop, (∃ m, W 0 m σ B) ∧ ∀ i m σ H, W i m σ H →
      (J.stop i H ∧ D.nx σ H) ∨ (J.go i H ∧ ∃ N : L2.St → Hp → Prop, (∀ σ' H', N σ' H' → ∃ m', m' < m ∧ W (i + 1) m' σ' H') ∧ ∀ v H', J.yld i H v H' → g v σ H' fun σ2 H2 => tb { D with nx := N, ct := N, bk := D.nx } σ2 H2) := by
  let Pv : Nat → L2.St → Hp → Prop := fun i σ' H' => ∃ A' s' ρ', Same A A' ∧ G h A' H' s' ∧ Slots K mg h A' H' σ' ρ' ∧ PostS K mg h (loopF m body (ds.drop i) ρ' s') A' H' Wx D
  refine ⟨fun i m σ' H' => m = n - i ∧ i ≤ n ∧ Pv i σ' H', ⟨n, rfl, Nat.zero_le _, A, s, ρ, Same.refl _, g1, S1, p1⟩, ?_⟩
  rintro i m0 σ' H' ⟨rfl, hi, A', s', ρ', st', g', S', p'⟩
  have ok := hok A' H' s' st' g'
  by_cases hlt : i < n
  · obtain ⟨d, e, h1, h2, h3⟩ := hd i hlt
    refine .inr ⟨P.go ok hlt, Pv (i + 1), fun σ2 H2 q => ⟨n - (i + 1), by omega, rfl, hlt, q⟩, fun v H2 y => ?_⟩
    obtain ⟨T, rfl, hT, rfl⟩ := P.yld ok hlt y
    obtain ⟨g2, st2⟩ := g'.alloc (o := .tup [(px i).1, (px i).2]) hT
    have dx : Den K mg h (upd A' T (.tup [(px i).1, (px i).2])) (.ref T) (.tup [d, e]) := .tup (SqT.of upd_same) (.cons ((h2.mono st').mono st2.s0) (.cons ((h3.mono st').mono st2.s0) .nil))
    rw [drop_cons h1] at p'
    exact turn_ok hg hb g2 (S'.step st2) dx (PostS.step st2.s0 p') fun σ3 A3 B3 s3 ρ3 st3 g3 S3 p3 => ⟨A3, s3, ρ3, st'.trans (st2.s0.trans st3), g3, S3, p3⟩
  · have e : i = n := by omega
    subst e
    have ed : ds.drop i = [] := List.drop_eq_nil_of_le (Nat.le_of_eq hl)
    rw [ed] at p'
    exact .inl ⟨P.stop ok, p' σ' A' H' (Same.refl _) g' S'⟩
theorem lc_pairs {h : Ent} {A B : Hp} {s : Hd} {σ : L2.St} {ρ : Env'} {Q : VK} {PF : R Dt → Prop} {J : It} {Ok : Hp → Prop} {n : Nat} {px : Nat → V × V} {ds : List Dt} (P : PairW J Ok n px) (hok : ∀ A' B' s', Same A A' → G h A' B' s' → Ok B') (hl : ds.length = n)
    (hd : ∀ i, i < n → ∃ d e, ds[i]? = some (.tup [d, e]) ∧ Den K mg h A (px i).1 d ∧ Den K mg h A (px i).2 e) (hbad : PF .bad → False) (fin : CWFin K mg PF h A B Q) (hg : SG K mg js g m) (hv : ∀ j ∈ js, j ∈ vs) (ht : ST K mg WF tt mt) (ha : SE K mg WF ta a) (g1 : G h A B s) (S1 : Slots K mg h A B σ ρ)
    (p1 : PF (loopC m mt a vs ds [] ρ s)) (D : Addr) (hD : B D = none) :
    ∃ W : Nat → Nat → Hp → Prop, (∃ m, W 0 m (upd B D (.lst []))) ∧ ∀ i m H, W i m H →
      (J.stop i H ∧ Q (.ref D) H) ∨ (J.go i H ∧ ∃ Nx : Hp → Prop, (∀ H', Nx H' → ∃ m', m' < m ∧ W (i + 1) m' H') ∧ ∀ x H', J.yld i H x H' → g x (L2.wipe σ vs) H' fun σ2 H2 => L2.wipe σ2 vs = L2.wipe σ vs ∧ tt σ2 H2 fun b H3 =>
        if b = true then ta σ2 H3 fun y H4 => ∃ acc, H4 D = some (.lst acc) ∧ acc.length < sizeLine ∧ Nx (upd H4 D (.lst (acc ++ [y]))) else Nx H3) := by
  refine ⟨fun i m0 H' => m0 = n - i ∧ i ≤ n ∧ CW K mg PF m mt a vs h A B ρ D (ds.drop i) H', ⟨n, rfl, Nat.zero_le _, cw_start g1 hD p1⟩, ?_⟩
  rintro i m0 H' ⟨rfl, hi, w⟩
  obtain ⟨A', s', acc, vv, st, g0, hB, hD', nD, eD, da, p⟩ := id w
  have ok := hok A' H' s' st.s0 g0
  by_cases hlt : i < n
  · obtain ⟨d, e, h1, h2, h3⟩ := hd i hlt
    refine .inr ⟨P.go ok hlt, fun H2 => CW K mg PF m mt a vs h A B ρ D (ds.drop (i + 1)) H2, fun H2 q => ⟨n - (i + 1), by omega, rfl, hlt, q⟩, fun v H2 y => ?_⟩
    obtain ⟨T, rfl, hT, rfl⟩ := P.yld ok hlt y
    obtain ⟨g2, st2⟩ := g0.alloc (o := .tup [(px i).1, (px i).2]) hT
    have dx : Den K mg h (upd A' T (.tup [(px i).1, (px i).2])) (.ref T) (.tup [d, e]) := .tup (SqT.of upd_same) (.cons ((h2.mono st.s0).mono st2.s0) (.cons ((h3.mono st.s0).mono st2.s0) .nil))
    have f2 := st2.fr D _ eD hD' nD
    rw [drop_cons h1] at p
    exact cw_turnX hbad hg hv ht ha S1 (st.trans st2) g2 hB f2.2.1 f2.2.2 f2.1 (da.mono st2.s0) p dx
  · have e : i = n := by omega
    subst e
    have ed : ds.drop i = [] := List.drop_eq_nil_of_le (Nat.le_of_eq hl)
    rw [ed] at w
    exact .inl ⟨P.stop ok, cw_end fin w⟩
end
end Mir


set_option Elab.async false
set_option linter.all false
set_option maxRecDepth 100000
/-! zip of two lists or of two tuples, enumerate of a list: loops and comprehensions over them. -/
namespace Mir
open PySem PySem.Spec PyProof.Rows L2
open PySem.W (Frag)
def zipD (xs ys : List Dt) : List Dt := List.zipWith (fun x y => Dt.tup [x, y]) xs ys
def enumD : Nat → List Dt → List Dt
  | _, [] => []
  | k, d :: ds => .tup [.int (k : Int), d] :: enumD (k + 1) ds
theorem enumD_get : ∀ (ds : List Dt) (k i : Nat), (enumD k ds)[i]? = ds[i]?.map fun d => .tup [.int ((k + i : Nat) : Int), d]
  | [], k, i => by simp [enumD]
  | d :: ds, k, 0 => by simp [enumD]
  | d :: ds, k, i + 1 => by
    show (enumD (k + 1) ds)[i]? = ds[i]?.map _
    rw [enumD_get ds (k + 1) i]
    have : k + 1 + i = k + (i + 1) := by omega
    rw [this]
theorem enumD_len : ∀ (ds : List Dt) (k : Nat), (enumD k ds).length = ds.length
  | [], _ => rfl
  | d :: ds, k => by
    show (enumD (k + 1) ds).length + 1 = _
    rw [enumD_len ds (k + 1)]
    rfl
section
variable {K : Frag} {mg : Str → Option Value} {Wx : WX} {tl tl2 : TE} {b b2 : ME}
def pxZ (vx vy : List V) (i : Nat) : V × V := (vx.getD i .non, vy.getD i .non)
def pxE (vx : List V) (i : Nat) : V × V := (.int (i : Nat), vx.getD i .non)
theorem getD_of {vx : List V} {i : Nat} (h : i < vx.length) : vx[i]? = some (vx.getD i .non) := by
  rw [List.getD_eq_getElem?_getD, List.getElem?_eq_getElem h]
  rfl
theorem den_at {h : Addr} {H : Hp} {vs : List V} {ds : List Dt} {i : Nat} (da : DenA K mg h H vs ds) (hi : i < vs.length) : ∃ d, ds[i]? = some d ∧ Den K mg h H (vs.getD i .non) d := da.getV (getD_of hi)
theorem zip_den {h : Addr} {H : Hp} {vx vy : List V} {xs ys : List Dt} (da : DenA K mg h H vx xs) (db : DenA K mg h H vy ys) : (zipD xs ys).length = min vx.length vy.length ∧ ∀ i, i < min vx.length vy.length → ∃ d e, (zipD xs ys)[i]? = some (.tup [d, e]) ∧ Den K mg h H (pxZ vx vy i).1 d ∧ Den K mg h H (pxZ vx vy i).2 e := by
  refine ⟨by rw [da.len, db.len]; exact List.length_zipWith, fun i hi => ?_⟩
  obtain ⟨d, h1, h2⟩ := den_at da (i := i) (by omega)
  obtain ⟨e, h3, h4⟩ := den_at db (i := i) (by omega)
  refine ⟨d, e, ?_, h2, h4⟩
  unfold zipD
  rw [List.getElem?_zipWith, h1, h3]
theorem enum_den {h : Addr} {H : Hp} {vx : List V} {xs : List Dt} (da : DenA K mg h H vx xs) : (enumD 0 xs).length = vx.length ∧ ∀ i, i < vx.length → ∃ d e, (enumD 0 xs)[i]? = some (.tup [d, e]) ∧ Den K mg h H (pxE vx i).1 d ∧ Den K mg h H (pxE vx i).2 e := by
  refine ⟨by rw [enumD_len, da.len], fun i hi => ?_⟩
  obtain ⟨d, h1, h2⟩ := den_at da hi
  refine ⟨_, d, ?_, .int _, h2⟩
  rw [enumD_get, h1]
  simp
end
end Mir


set_option Elab.async false
set_option linter.all false
set_option maxRecDepth 100000
/-! Loops and comprehensions over what gives couples, and over ranges with a step. -/
namespace Mir
open PySem PySem.Spec PyProof.Rows L2
open PySem.W (Frag)
section
variable {X : Cx} {Wx : WX} {e e2 e3 elt tg iter : Expr} {elts : List Expr} {kk : Nat} {tpos : Pos} {scope : Scope} {own : List (Str × Nat)} {pos p : Pos} {g : TG} {m : GM} {js : List Nat} {ifs body' : List Expr} {body : List Stmt} {mt : MT} {ma ma2 ma3 : ME} {mb : MS}
/-- what is walked, for one target -/
def QIp (X : Cx) (Wx : WX) (tg iter : Expr) (mi : MA) : Prop := ∃ wi, PI X tg iter wi ∧ SI X.K X.mg Wx wi mi ∧ ∀ x, foldedSetIterable iter X.env x = pure x
theorem qs_forp {mi : MA} (hp : PassesOwn (model X.prog X.w) X.A X.env X.xe) (hc : X.calm = true) (hi : QIp X Wx tg iter mi) (hg : QG X js tg g m) (hb : QSs X Wx body mb) : QS X Wx (.For tg iter body [] pos) (mFor m mi mb) := by
  obtain ⟨wi, q, s, hs⟩ := hi
  obtain ⟨tb, qb, sb⟩ := hb
  exact ⟨_, ps_for hp hc q hg.1 qb hs, s.for_ hg.2 sb⟩
theorem qe_lcp {mi : MA} {vs : List Nat} (hc : X.calm = true) (hN : X.N.Nodup) (hi : QIp X Wx tg iter mi) (ok : BlkOk X.N X.env.scope scope own) (hvs : own.map (·.2) = vs) (hv : ∀ j ∈ js, j ∈ vs) (hsg : SG X.K X.mg js g m)
    (hg : ∀ (s : Shared) (H : Hp) (C : Addr) (cl : List (Str × Addr)) (fp : List Addr), PG (X.blk s H scope (compEnvC scope cl C X.env) fp) tg g)
    (ht : ∀ (s : Shared) (H : Hp) (C : Addr) (cl : List (Str × Addr)) (fp : List Addr), QTs (X.blk s H scope (compEnvC scope cl C X.env) fp) ifs mt)
    (he : ∀ (s : Shared) (H : Hp) (C : Addr) (cl : List (Str × Addr)) (fp : List Addr), QE (X.blk s H scope (compEnvC scope cl C X.env) fp) WF elt ma) :
    QE X Wx (.ListComp elt [⟨tg, iter, ifs, 0⟩] scope pos) (mLc m mi mt ma vs) := by
  subst hvs
  obtain ⟨wi, q, s, hs⟩ := hi
  exact ⟨_, pe_lc hc hN q ok hg (fun s H C cl fp => (ht s H C cl fp).can) (fun s H C cl fp => (he s H C cl fp).can) hs, s.lc hsg hv st_cT se_cE⟩
theorem qs_setLcp {mi : MA} {vs : List Nat} (i : Nat) {y : Str} {py spos : Pos} (hc : X.calm = true) (hN : X.N.Nodup) (hi : QIp X Wx tg iter mi) (ok : BlkOk X.N X.env.scope scope own) (hvs : own.map (·.2) = vs) (hv : ∀ j ∈ js, j ∈ vs) (hsg : SG X.K X.mg js g m)
    (hg : ∀ (s : Shared) (H : Hp) (C : Addr) (cl : List (Str × Addr)) (fp : List Addr), PG (X.blk s H scope (compEnvC scope cl C X.env) fp) tg g)
    (ht : ∀ (s : Shared) (H : Hp) (C : Addr) (cl : List (Str × Addr)) (fp : List Addr), QTs (X.blk s H scope (compEnvC scope cl C X.env) fp) ifs mt)
    (he : ∀ (s : Shared) (H : Hp) (C : Addr) (cl : List (Str × Addr)) (fp : List Addr), QE (X.blk s H scope (compEnvC scope cl C X.env) fp) WF elt ma)
    (hy : X.N[i]? = some y := by rfl) (hyl : X.env.scope.names.lookup y = some .local := by rfl) (hsw : swapsWith (.ListComp elt [⟨tg, iter, ifs, 0⟩] scope pos) (some (.Name y py)) spos.line X.env = pure true := by exact sw_true rfl rfl rfl (by decide +kernel)) :
    QS X Wx (.Assign [.Name y py] (.ListComp elt [⟨tg, iter, ifs, 0⟩] scope pos) spos) (mSet i (mLc m mi mt ma vs)) := by
  subst hvs
  obtain ⟨wi, q, s, hs⟩ := hi
  exact ⟨_, ps_setLc hc hN hy hyl hsw q ok hg (fun s H C cl fp => (ht s H C cl fp).can) (fun s H C cl fp => (he s H C cl fp).can) hs, ss_set (s.lc hsg hv st_cT se_cE)⟩
theorem qf_lcp {mi : MA} {vs : List Nat} (hc : X.calm = true) (hN : X.N.Nodup) (hi : QIp X Wx tg iter mi) (ok : BlkOk X.N X.env.scope scope own) (hvs : own.map (·.2) = vs) (hv : ∀ j ∈ js, j ∈ vs) (hsg : SG X.K X.mg js g m)
    (hg : ∀ (s : Shared) (H : Hp) (C : Addr) (cl : List (Str × Addr)) (fp : List Addr), PG (X.blk s H scope (compEnvC scope cl C X.env) fp) tg g)
    (ht : ∀ (s : Shared) (H : Hp) (C : Addr) (cl : List (Str × Addr)) (fp : List Addr), QTs (X.blk s H scope (compEnvC scope cl C X.env) fp) ifs mt)
    (he : ∀ (s : Shared) (H : Hp) (C : Addr) (cl : List (Str × Addr)) (fp : List Addr), QE (X.blk s H scope (compEnvC scope cl C X.env) fp) WF elt ma) :
    QF X Wx (.ListComp elt [⟨tg, iter, ifs, 0⟩] scope pos) (mToL (mLc m mi mt ma vs)) := by
  subst hvs
  obtain ⟨wi, q, s, hs⟩ := hi
  exact ⟨_, pe_lc hc hN q ok hg (fun s H C cl fp => (ht s H C cl fp).can) (fun s H C cl fp => (he s H C cl fp).can) hs, sf_lc s hsg hv st_cT se_cE⟩
theorem qs_setLcOp {mi : MA} {vs : List Nat} (i : Nat) {y : Str} {py spos : Pos} (hc : X.calm = true) (hN : X.N.Nodup) (hi : QIp X Wx tg iter mi) (ok : BlkOk X.N X.env.scope scope own) (hvs : own.map (·.2) = vs) (hv : ∀ j ∈ js, j ∈ vs) (hsg : SG X.K X.mg js g m)
    (hg : ∀ (s : Shared) (H : Hp) (C : Addr) (cl : List (Str × Addr)) (fp : List Addr), PG (X.blk s H scope (compEnvC scope cl C X.env) fp) tg g)
    (ht : ∀ (s : Shared) (H : Hp) (C : Addr) (cl : List (Str × Addr)) (fp : List Addr), QTs (X.blk s H scope (compEnvC scope cl C X.env) fp) ifs mt)
    (he : ∀ (s : Shared) (H : Hp) (C : Addr) (cl : List (Str × Addr)) (fp : List Addr), QE (X.blk s H scope (compEnvC scope cl C X.env) fp) WF elt ma)
    (hy : X.N[i]? = some y := by rfl) (hyl : X.env.scope.names.lookup y = some .local := by rfl) (hsw : swapsWith (.ListComp elt [⟨tg, iter, ifs, 0⟩] scope pos) (some (.Name y py)) spos.line X.env = pure true := by exact sw_true rfl rfl rfl (by decide +kernel)) :
    QS X Wx (.Assign [.Name y py] (.ListComp elt [⟨tg, iter, ifs, 0⟩] scope pos) spos) (mSetO i (mToL (mLc m mi mt ma vs))) := by
  subst hvs
  obtain ⟨wi, q, s, hs⟩ := hi
  exact ⟨_, ps_setLc hc hN hy hyl hsw q ok hg (fun s H C cl fp => (ht s H C cl fp).can) (fun s H C cl fp => (he s H C cl fp).can) hs, ss_setO (sf_lc s hsg hv st_cT se_cE)⟩
end
end Mir


set_option Elab.async false
set_option linter.all false
set_option maxRecDepth 100000
/-! range(i, j, -1). -/
namespace Mir
open PySem PySem.Spec PyProof.Rows L2
open PySem.W (Frag)
/-- range downwards -/
def downD (i : Int) (n : Nat) : List Dt := (List.range n).map fun (k : Nat) => Dt.int (i + (k : Int) * -1)
theorem downD_len (i : Int) (n : Nat) : (downD i n).length = n := by
  unfold downD
  rw [List.length_map, List.length_range]
theorem downD_get {i : Int} {n k : Nat} (h : k < n) : (downD i n)[k]? = some (.int (i + (k : Int) * -1)) := by
  unfold downD
  rw [List.getElem?_map, List.getElem?_range h]
  rfl
def mRngD (a b : ME) : MA := fun ρ s => (a ρ s).bind fun d s1 => (b ρ s1).bind fun e s2 => match d, e with
  | .int i, .int j => if rngOk i ∧ rngOk j then .ok (downD i (i - j).toNat) s2 else .bad
  | _, _ => .bad
section
variable {K : Frag} {mg : Str → Option Value} {Wx : WX} {ta tl tl2 : TE} {tb : TS} {a b b2 : ME} {body : MS} {tt : TT} {mt : MT} {js vs : List Nat} {g : TG} {m : GM}
theorem for_down {h : Ent} {A B : Hp} {s : Hd} {σ : L2.St} {ρ : Env'} {D : Ends} {i0 : Int} {n : Nat} (hg : SG K mg js g m) (hb : SS K mg Wx tb body) (g1 : G h A B s) (S1 : Slots K mg h A B σ ρ) (p1 : PostS K mg h (loopF m body (downD i0 n) ρ s) A B Wx D) :
    ∃ W : Nat → Nat → L2.St → Hp → Prop, (∃ m, W 0 m σ B) ∧ ∀ i m σ H, W i m σ H →
      ((Itc i0 (-1) n).stop i H ∧ D.nx σ H) ∨ ((Itc i0 (-1) n).go i H ∧ ∃ N : L2.St → Hp → Prop, (∀ σ' H', N σ' H' → ∃ m', m' < m ∧ W (i + 1) m' σ' H') ∧ ∀ v H', (Itc i0 (-1) n).yld i H v H' → g v σ H' fun σ2 H2 => tb { D with nx := N, ct := N, bk := D.nx } σ2 H2) := by
  let Pv : Nat → L2.St → Hp → Prop := fun i σ' H' => ∃ A' s' ρ', Same A A' ∧ G h A' H' s' ∧ Slots K mg h A' H' σ' ρ' ∧ PostS K mg h (loopF m body ((downD i0 n).drop i) ρ' s') A' H' Wx D
  refine ⟨fun i m σ' H' => m = n - i ∧ i ≤ n ∧ Pv i σ' H', ⟨n, rfl, Nat.zero_le _, A, s, ρ, Same.refl _, g1, S1, p1⟩, ?_⟩
  rintro i m0 σ' H' ⟨rfl, hi, A', s', ρ', st', g', S', p'⟩
  by_cases hlt : i < n
  · refine .inr ⟨hlt, Pv (i + 1), fun σ2 H2 q => ⟨n - (i + 1), by omega, rfl, hlt, q⟩, fun v H2 y => ?_⟩
    obtain ⟨rfl, rfl⟩ := y
    rw [drop_cons (downD_get hlt)] at p'
    exact turn_ok hg hb g' S' (.int _) p' fun σ3 A3 B3 s3 ρ3 st3 g3 S3 p3 => ⟨A3, s3, ρ3, st'.trans st3, g3, S3, p3⟩
  · have e : i = n := by omega
    subst e
    have ed : (downD i0 i).drop i = [] := List.drop_eq_nil_of_le (Nat.le_of_eq (downD_len _ _))
    rw [ed] at p'
    exact .inl ⟨Nat.le_refl _, p' σ' A' H' (Same.refl _) g' S'⟩
theorem lc_down {h : Ent} {A B : Hp} {s : Hd} {σ : L2.St} {ρ : Env'} {Q : VK} {PF : R Dt → Prop} {i0 : Int} {n : Nat} (hbad : PF .bad → False) (fin : CWFin K mg PF h A B Q) (hg : SG K mg js g m) (hv : ∀ j ∈ js, j ∈ vs) (ht : ST K mg WF tt mt) (ha : SE K mg WF ta a) (g1 : G h A B s) (S1 : Slots K mg h A B σ ρ)
    (p1 : PF (loopC m mt a vs (downD i0 n) [] ρ s)) (D : Addr) (hD : B D = none) :
    ∃ W : Nat → Nat → Hp → Prop, (∃ m, W 0 m (upd B D (.lst []))) ∧ ∀ i m H, W i m H →
      ((Itc i0 (-1) n).stop i H ∧ Q (.ref D) H) ∨ ((Itc i0 (-1) n).go i H ∧ ∃ Nx : Hp → Prop, (∀ H', Nx H' → ∃ m', m' < m ∧ W (i + 1) m' H') ∧ ∀ x H', (Itc i0 (-1) n).yld i H x H' → g x (L2.wipe σ vs) H' fun σ2 H2 => L2.wipe σ2 vs = L2.wipe σ vs ∧ tt σ2 H2 fun b H3 =>
        if b = true then ta σ2 H3 fun y H4 => ∃ acc, H4 D = some (.lst acc) ∧ acc.length < sizeLine ∧ Nx (upd H4 D (.lst (acc ++ [y]))) else Nx H3) := by
  refine ⟨fun i m0 H' => m0 = n - i ∧ i ≤ n ∧ CW K mg PF m mt a vs h A B ρ D ((downD i0 n).drop i) H', ⟨n, rfl, Nat.zero_le _, cw_start g1 hD p1⟩, ?_⟩
  rintro i m0 H' ⟨rfl, hi, w⟩
  by_cases hlt : i < n
  · refine .inr ⟨hlt, fun H2 => CW K mg PF m mt a vs h A B ρ D ((downD i0 n).drop (i + 1)) H2, fun H2 q => ⟨n - (i + 1), by omega, rfl, hlt, q⟩, fun v H2 y => ?_⟩
    obtain ⟨rfl, rfl⟩ := y
    rw [drop_cons (downD_get hlt)] at w
    exact cw_turn hbad hg hv ht ha S1 w fun A' e => .int _
  · have e : i = n := by omega
    subst e
    have ed : (downD i0 i).drop i = [] := List.drop_eq_nil_of_le (Nat.le_of_eq (downD_len _ _))
    rw [ed] at w
    exact .inl ⟨Nat.le_refl _, cw_end fin w⟩
theorem se_m1 : SE K mg Wx (tUn (rU fun i => .int (-i)) (tC (.int 1))) (mUn fNeg (mC (.int 1))) := se_un us_neg (se_c fun _ _ => .int _)
theorem rng_neg {i j : Int} (c : rngOk i ∧ rngOk j) : RgC i j (-1) (i - j).toNat := by
  obtain ⟨⟨c1, c2⟩, c3, c4⟩ := c
  exact RgC.neg (by omega) (by omega) (by omega) (by omega)
theorem si_rngD {tm : TE} (hm : SE K mg Wx tm (mUn fNeg (mC (.int 1)))) (hb : SE K mg Wx tl b) (hb2 : SE K mg Wx tl2 b2) : SI K mg Wx (iRng3 (tCons tl (tCons tl2 (tCons tm tNil)))) (mRngD b b2) where
  for_ := by
    intro js g m tb body hg hbb h H0 H s σ ρ D g0 S p
    have p : PostS K mg h (((b ρ s).bind _).bind _) H0 H Wx D := p
    rw [R.bind_assoc] at p
    refine hb h H0 H s σ ρ _ g0 S (PostS.bind p fun d s1 x A B st g1 dx p1 => ?_)
    rw [R.bind_assoc] at p1
    refine hb2 h A B s1 σ ρ _ g1 (S.step st) (PostS.bind p1 fun d2 s2 x2 A2 B2 st2 g2 dx2 p2 => ?_)
    have S2 := S.step (st.trans st2)
    cases dx with
    | int i =>
      cases dx2 with
      | int j =>
        by_cases c : rngOk i ∧ rngOk j
        · simp only [if_pos c] at p2
          refine hm h A2 B2 s2 σ ρ _ g2 S2 ?_
          show Post K mg h (Den K mg h.a) (R.ok (.int (-1)) s2) A2 B2 Wx _
          intro v A3 B3 st3 g3 dv
          cases dv
          exact ⟨i, j, -1, (i - j).toNat, rfl, rng_neg c, for_down hg hbb g3 (S2.step st3) (PostS.step st3.s0 p2)⟩
        · simp only [if_neg c] at p2
          exact p2.elim
      | _ => exact p2.elim
    | _ => cases dx2 <;> exact p2.elim
  lcF := by
    intro js g m tt mt ta a vs hg hv ht ha h H0 H s σ ρ Q PF hbad herr fin0 g0 S p
    have p : PF (((b ρ s).bind _).bind _) := p
    rw [R.bind_assoc] at p
    refine hb h H0 H s σ ρ _ g0 S (Post.bindF hbad herr p fun d s1 x A B st g1 dx p1 => ?_)
    rw [R.bind_assoc] at p1
    refine hb2 h A B s1 σ ρ _ g1 (S.step st) (Post.bindF hbad (fun c fs ρ s z => ErrP.step st.s0 (herr c fs ρ s z)) p1 fun d2 s2 x2 A2 B2 st2 g2 dx2 p2 => ?_)
    have S2 := S.step (st.trans st2)
    cases dx with
    | int i =>
      cases dx2 with
      | int j =>
        by_cases c : rngOk i ∧ rngOk j
        · simp only [if_pos c] at p2
          refine hm h A2 B2 s2 σ ρ _ g2 S2 ?_
          show Post K mg h (Den K mg h.a) (R.ok (.int (-1)) s2) A2 B2 Wx _
          intro v A3 B3 st3 g3 dv
          cases dv
          exact ⟨i, j, -1, (i - j).toNat, rfl, rng_neg c, fun D hD => lc_down hbad (fin0 A3 B3 ((st.trans st2).trans st3)) hg hv ht ha g3 (S2.step st3) p2 D hD⟩
        · simp only [if_neg c] at p2
          exact (hbad p2).elim
      | _ => exact (hbad p2).elim
    | _ => cases dx2 <;> exact (hbad p2).elim
end
section
variable {X : Cx} {Wx : WX} {e e2 : Expr} {k : Nat} {p p1 p2 pos : Pos} {ma ma2 : ME}
theorem qi_rngD (hgr : Gl X "range") (hm : X.mg "range" = none) (hi : QE X Wx e ma) (hi2 : QE X Wx e2 ma2)
    (hs : starEach [e, e2, .UnaryOp .USub (.Constant (.int 1) k p1) p2] X.env = (false, eval e X.env) :: starEach [e2, .UnaryOp .USub (.Constant (.int 1) k p1) p2] X.env := by rfl)
    (hs2 : starEach [e2, .UnaryOp .USub (.Constant (.int 1) k p1) p2] X.env = (false, eval e2 X.env) :: starEach [.UnaryOp .USub (.Constant (.int 1) k p1) p2] X.env := by rfl)
    (hs3 : starEach [.UnaryOp .USub (.Constant (.int 1) k p1) p2] X.env = (false, eval (.UnaryOp .USub (.Constant (.int 1) k p1) p2) X.env) :: starEach [] X.env := by rfl)
    (hpl : (backTo pos (starEach [e2, .UnaryOp .USub (.Constant (.int 1) k p1) p2] X.env)).any (·.1) = false := by rfl)
    (hf : ∀ x, foldedSetIterable (.Call (.Name "range" p) [e, e2, .UnaryOp .USub (.Constant (.int 1) k p1) p2] [] pos) X.env x = pure x := by intro _; rfl) : QI X Wx (.Call (.Name "range" p) [e, e2, .UnaryOp .USub (.Constant (.int 1) k p1) p2] [] pos) (mRngD ma ma2) := by
  obtain ⟨t, q, s⟩ := hi
  obtain ⟨t2, q2, s2⟩ := hi2
  exact ⟨_, fun _ => pi_range3 hgr hm (pa_cons q (pa_cons q2 (pa_cons (pe_un un_neg pe_int) pa_nil hs3) hs2) hs) hs hpl, si_rngD se_m1 s s2, hf⟩
end
end Mir


set_option Elab.async false
set_option linter.all false
set_option maxRecDepth 100000
/-! zip and enumerate of lists and of tuples, mixed too. -/
namespace Mir
open PySem PySem.Spec PyProof.Rows L2
open PySem.W (Frag)
/-- a sequence of one kind: true a list, false a tuple -/
def SqK (k : Bool) (K : Frag) (H : Hp) (a : Addr) (xs : List V) : Prop := if k = true then SqL K H a xs else SqT K H a xs
def SrK (k : Bool) (h : Heap) (a : Addr) (its : Array Value) : Prop := if k = true then h.IsList a its else h.IsTuple a its
def ItK (k : Bool) (h : Heap) (it a : Addr) (i : Nat) : Prop := if k = true then h.IsListIter it a i else h.IsTupleIter it a i
def obK (k : Bool) (a : Addr) : Obj := if k = true then { cls := .type "list_iterator", data := .fields #[.ref a, .int 0 0] } else { cls := .type "tuple_iterator", data := .fields #[.ref a, .int 0 0] }
theorem begK (k : Bool) (a : Addr) (its : Array Value) : Begins (.ref a) (obK k a) fun h => SrK k h a its := by
  cases k with
  | true => exact begins_list a its
  | false => exact begins_tuple a its
theorem itK_of {k : Bool} {h : Heap} {it a : Addr} (e : h.get? it = some (obK k a)) : ItK k h it a 0 := by
  cases k with
  | true => exact ⟨_, e, rfl, rfl⟩
  | false => exact ⟨_, e, rfl, rfl⟩
theorem itK_get {k : Bool} {h : Heap} {it a : Addr} {i : Nat} (e : ItK k h it a i) : ∃ o, h.get? it = some o ∧ ∀ v, o.data ≠ .cell v := by
  cases k with
  | true =>
    obtain ⟨o, e1, _, d⟩ := e
    exact ⟨o, e1, fun v q => by rw [d] at q; cases q⟩
  | false =>
    obtain ⟨o, e1, _, d⟩ := e
    exact ⟨o, e1, fun v q => by rw [d] at q; cases q⟩
theorem itK_at {k : Bool} {h h' : Heap} {it a : Addr} {i : Nat} (e : ItK k h it a i) (q : ∀ o, h.get? it = some o → h'.get? it = some o) : ItK k h' it a i := by
  cases k with
  | true => exact Heap.IsListIter.at e q
  | false => exact Heap.IsTupleIter.at e q
theorem drawK {P : Program} {w : World} {A : Around} (hh : A.handled = none) (k : Bool) (it a : Addr) (hne : a ≠ it) (its : Array Value) : Draws P w A it [it, a] its.size (fun i v => its[i]? = some v) (fun i h => ItK k h it a i ∧ SrK k h a its) := by
  cases k with
  | true => exact Draws.list hh it a hne its
  | false => exact Draws.tuple hh it a hne its
section
variable {X : Cx} {pins : List (Addr × Obj)} {σ : L2.St} {H : Hp} {s : Shared} {a : Addr} {xs ys : List V}
theorem invK (I : Inv X pins σ H s) {k : Bool} (h : SqK k X.K H a xs) : ∃ its : List Value, Vals xs its ∧ SrK k s.heap a its.toArray ∧ a < s.heap.objs.size := by
  cases k with
  | true =>
    obtain ⟨its, r, p, _⟩ := I.list h
    exact ⟨its, r, p.isList, p.lt⟩
  | false =>
    obtain ⟨its, r, p, _⟩ := I.tuple h
    obtain ⟨o, e, _⟩ := id p
    exact ⟨its, r, p, Heap.lt_size e⟩
theorem injK (I : Inv X pins σ H s) {k : Bool} (h : SqK k X.K H a xs) (h' : SqK k X.K H a ys) : xs = ys := by
  cases k with
  | true => exact I.list_inj h h'
  | false => exact I.tuple_inj h h'
end
/-- the turns of zip: both sequences as they stand, the items in new couples -/
def ItZ (k1 k2 : Bool) (K : Frag) (a b : Addr) : It where
  go := fun i H => ∃ (xs ys : List V) (x y : V), SqK k1 K H a xs ∧ SqK k2 K H b ys ∧ xs[i]? = some x ∧ ys[i]? = some y
  yld := fun i H v H' => ∃ T x y, v = .ref T ∧ H T = none ∧ H' = upd H T (.tup [x, y]) ∧ (∀ xs, SqK k1 K H a xs → xs[i]? = some x) ∧ ∀ ys, SqK k2 K H b ys → ys[i]? = some y
  stop := fun i H => ∃ xs ys : List V, SqK k1 K H a xs ∧ SqK k2 K H b ys ∧ i = min xs.length ys.length
def tnZ (k1 k2 : Bool) (a b z TI TO i1 i2 : Addr) (i : Nat) (h : Heap) : Prop := IsZip h z TI TO .none ∧ IsTupOf2 h TI (.ref i1) (.ref i2) ∧ (∃ u v, IsTupOf2 h TO u v) ∧ ItK k1 h i1 a i ∧ ItK k2 h i2 b i
theorem turnZ {P : Program} {w : World} {K : Frag} {elts : List Expr} {kk : Nat} {tpos : Pos} {k1 k2 : Bool} {a b z TI TO i1 i2 : Addr} (S : ZipSep2 z TI TO i1 i2 [i1, a] [i2, b]) (na : a ≠ i1) (nb : b ≠ i2) :
    Turn P w K (.Tuple elts kk tpos) (ItZ k1 k2 K a b) [z, TI, TO, i1, i2] z (tnZ k1 k2 a b z TI TO i1 i2) where
  mem := by simp
  obj := fun i h st c hc => by
    obtain ⟨hz, hTI, ⟨u, v, hTO⟩, s1, s2⟩ := st
    have cs : c = z ∨ c = TI ∨ c = TO ∨ c = i1 ∨ c = i2 := by simpa using hc
    rcases cs with rfl | rfl | rfl | rfl | rfl
    · exact ⟨_, hz, fun v q => nomatch q⟩
    · exact ⟨_, hTI, fun v q => nomatch q⟩
    · exact ⟨_, hTO, fun v q => nomatch q⟩
    · exact itK_get s1
    · exact itK_get s2
  keep := fun i h h' st q => by
    obtain ⟨hz, hTI, ⟨u, v, hTO⟩, s1, s2⟩ := st
    exact ⟨q z (by simp) _ hz, q TI (by simp) _ hTI, ⟨u, v, q TO (by simp) _ hTO⟩, itK_at s1 fun o e => q i1 (by simp) o e, itK_at s2 fun o e => q i2 (by simp) o e⟩
  item := by
    intro X hP hw hK hc i pins s σ H E I hf st hg
    subst hP hw hK
    obtain ⟨hz, hTI, hTO, s1, s2⟩ := id st
    obtain ⟨xs, ys, x, y, qx, qy, hx, hy⟩ := hg
    obtain ⟨its, rv, p1, _⟩ := invK I qx
    obtain ⟨its2, rv2, p2, _⟩ := invK I qy
    obtain ⟨u, hu, ru⟩ := rv.get hx
    obtain ⟨u2, hu2, ru2⟩ := rv2.get hy
    have hh : (X.A.in1).handled = none := I.ok.hd hc
    have W := WalksT.zipD2 (prog := X.prog) (w := X.w) (A := X.A) S (drawK hh k1 i1 a na its.toArray) (drawK hh k2 i2 b nb its2.toArray)
    have li : i < its.length := (List.getElem?_eq_some_iff.mp hu).1
    have li2 : i < its2.length := (List.getElem?_eq_some_iff.mp hu2).1
    refine W.item i s _ _ (by rw [List.size_toArray, List.size_toArray]; omega) ⟨hz, hTI, hTO, ⟨s1, p1⟩, ⟨s2, p2⟩⟩ fun T vals h1 tk pt hT tT mid kp => ⟨_, rfl, ?_⟩
    refine W.go elts kk tpos i T { s with heap := h1, toks := tk } _ _ mid fun h2 st2 kp2 => ?_
    obtain ⟨v1, v2, e1, e2, rfl⟩ := pt
    have e1 : v1 = u := by
      have : its[i]? = some v1 := by simpa using e1
      rw [hu] at this
      cases this
      rfl
    have e2 : v2 = u2 := by
      have : its2[i]? = some v2 := by simpa using e2
      rw [hu2] at this
      cases this
      rfl
    subst e1 e2
    have nT : T ∉ [z, TO, i1, i2] := W.apart i T _ mid
    have tT2 : h2.IsTuple T #[v1, v2] := by
      obtain ⟨o, g1, g2⟩ := tT
      exact ⟨o, kp2 T o nT g1, g2⟩
    have hff : ∀ c ∈ [z, TO, i1, i2], FpOk X pins H c := fun c hcm => hf c (by
      have cs : c = z ∨ c = TO ∨ c = i1 ∨ c = i2 := by simpa using hcm
      rcases cs with rfl | rfl | rfl | rfl <;> simp)
    have I1 : Inv X pins σ (upd H T (.tup [x, y])) { s with heap := h2, toks := tk } :=
      I.turnedNew (ch := [z, TO, i1, i2]) (fun c o hb q => kp2 c o hb (kp c o hb q)) hff hT ⟨by show 2 ≤ sizeLine; decide, [v1, v2], .cons ru (.cons ru2 .nil), tT2⟩
    obtain ⟨hz', hTI', hTO', ⟨s1', _⟩, ⟨s2', _⟩⟩ := st2
    refine ⟨.ref T, _, I1, rfl, ⟨T, x, y, rfl, I.hok.fresh hT, rfl, fun l hl => by rw [injK I hl qx]; exact hx, fun l hl => by rw [injK I hl qy]; exact hy⟩, ⟨hz', hTI', hTO', s1', s2'⟩, fun c hcm => ?_⟩
    have lt : c < s.heap.objs.size := by
      have cs : c = z ∨ c = TI ∨ c = TO ∨ c = i1 ∨ c = i2 := by simpa using hcm
      obtain ⟨u', v', hTO⟩ := hTO
      rcases cs with rfl | rfl | rfl | rfl | rfl
      · exact Heap.lt_size hz
      · exact Heap.lt_size hTI
      · exact Heap.lt_size hTO
      · obtain ⟨_, q, _⟩ := itK_get s1
        exact Heap.lt_size q
      · obtain ⟨_, q, _⟩ := itK_get s2
        exact Heap.lt_size q
    rw [upd_ne (Nat.ne_of_lt (Nat.lt_of_lt_of_le lt hT))]
    exact (hf c hcm).1
  done := by
    intro X hP hw hK hc i pins s σ H E I hf st hg
    subst hP hw hK
    obtain ⟨hz, hTI, hTO, s1, s2⟩ := id st
    obtain ⟨xs, ys, qx, qy, hend⟩ := hg
    obtain ⟨its, rv, p1, _⟩ := invK I qx
    obtain ⟨its2, rv2, p2, _⟩ := invK I qy
    have l1 := rv.length
    have l2 := rv2.length
    have hh : (X.A.in1).handled = none := I.ok.hd hc
    have W := WalksT.zipD2 (prog := X.prog) (w := X.w) (A := X.A) S (drawK hh k1 i1 a na its.toArray) (drawK hh k2 i2 b nb its2.toArray)
    have hn : i = min its.toArray.size its2.toArray.size := by
      rw [List.size_toArray, List.size_toArray]
      omega
    subst hn
    refine W.done s _ _ ⟨hz, hTI, hTO, ⟨s1, p1⟩, ⟨s2, p2⟩⟩ fun h' tk kp => ⟨rfl, I.turnedL (t' := tk) (ch := [z, TI, TO, i1, i2]) (fun c o hb q => kp c o (fun m => hb (by
      have cs : c = z ∨ c = TO ∨ c = i1 ∨ c = i2 := by simpa using m
      rcases cs with rfl | rfl | rfl | rfl <;> simp)) q) hf⟩
  self := fun A i s Q E st h => wpAny_pyIter_zip st.1 h
def iZipK (K : Frag) (ta : TA) : TI := fun σ H R => ta σ H fun vs H1 => ∃ (k1 k2 : Bool) (a b : Addr) (xs ys : List V), vs = [.ref a, .ref b] ∧ SqK k1 K H1 a xs ∧ SqK k2 K H1 b ys ∧ R (ItZ k1 k2 K a b) H1
theorem pi_zipK {X : Cx} {e e2 : Expr} {ta : TA} {p pos tpos : Pos} {elts : List Expr} {kk : Nat} (hg : Gl X "zip") (hm : X.mg "zip" = none) (ha : PA X [e, e2] ta)
    (hs : starEach [e, e2] X.env = (false, eval e X.env) :: starEach [e2] X.env := by rfl) (hpl : (backTo pos (starEach [e2] X.env)).any (·.1) = false := by rfl) : PI X (.Tuple elts kk tpos) (.Call (.Name "zip" p) [e, e2] [] pos) (iZipK X.K ta) := by
  refine ⟨fun pins s σ H R I h => Call_ (ld_blt I hg hm PyProof.Rows.boot_zip (PyProof.Rows.callWith_type1 (thn (ha.run pos pins s σ H _ I h) fun us s1 ⟨vs, H1, I1, r1, q1⟩ => ?_) hs hpl))⟩
  obtain ⟨k1, k2, a, b, xs, ys, rfl, qx, qy, q⟩ := q1
  obtain ⟨u1, u2, rfl, hr1, hr2⟩ := vals2 r1
  cases hr1
  cases hr2
  obtain ⟨its, rv, p1, la⟩ := invK I1 qx
  obtain ⟨its2, rv2, p2, lb⟩ := invK I1 qy
  refine zip_begins2 (begK k1 a its.toArray) (begK k2 b its2.toArray) p1 p2 fun h' hz hTI hTO g1 g2 hsz hk => wpAny_pyIter_zip hz ?_
  have I2 : Inv X pins σ H1 { s1 with heap := h' } := I1.kept (t' := s1.toks) hk
  have S := zip_sep2 (N := s1.heap.objs.size) (fp1 := [a]) (fp2 := [b]) (fun c hc => by rw [List.mem_singleton.mp hc]; exact la) (fun c hc => by rw [List.mem_singleton.mp hc]; exact lb)
  refine ⟨_, [s1.heap.objs.size + 4, s1.heap.objs.size + 2, s1.heap.objs.size + 3, s1.heap.objs.size, s1.heap.objs.size + 1], _, _, H1, rfl, I2, turnZ (k1 := k1) (k2 := k2) S (Nat.ne_of_lt la) (Nat.ne_of_lt (Nat.lt_succ_of_lt lb)), ⟨hz, hTI, ⟨_, _, hTO⟩, itK_of g1, itK_of g2⟩, fun c hcm => ?_, q⟩
  have hle : s1.heap.objs.size ≤ c := by
    have cs : c = s1.heap.objs.size + 4 ∨ c = s1.heap.objs.size + 2 ∨ c = s1.heap.objs.size + 3 ∨ c = s1.heap.objs.size ∨ c = s1.heap.objs.size + 1 := by simpa using hcm
    rcases cs with z | z | z | z | z <;> rw [z]
    · exact Nat.le_add_right _ _
    · exact Nat.le_add_right _ _
    · exact Nat.le_add_right _ _
    · exact Nat.le_refl _
    · exact Nat.le_add_right _ _
  exact I1.fpOk hle (I1.hok.fresh hle)
end Mir


set_option Elab.async false
set_option linter.all false
set_option maxRecDepth 100000
/-! enumerate of lists and of tuples; the loops over zip and enumerate. -/
namespace Mir
open PySem PySem.Spec PyProof.Rows L2
open PySem.W (Frag)
set_option maxHeartbeats 2000000 in
theorem meets_enumK {v : Value} {o : Obj} {H : Heap → Prop} (B : Begins v o H) : Meets (Builtin.«enumerate.__new__» ⟨[.type "enumerate", v], []⟩) (fun _ R s => H s.heap ∧ R (.ok (.ret (.ref (s.heap.push o).objs.size))) { s with heap := (s.heap.push o).push { cls := .type "enumerate", data := .fields #[.none, .bool false, .ref s.heap.objs.size, rawInt 0, .none, .none] } }) := by
  refine .of_wp fun prog w A R s h => ?_
  obtain ⟨hp, g, d, tk, os⟩ := s
  obtain ⟨h1, h⟩ := h
  have hsub := sub_enumerate
  have q1 : ∀ {A' : Around} {E : Value → Shared → Prop} {Q : Value → Shared → Prop}, Q (.ref hp.objs.size) ⟨hp.push o, g, d, tk, os⟩ → wpAny (model prog w) A' (pyIter v) Q E ⟨hp, g, d, tk, os⟩ := fun q => B.iter prog w _ _ _ _ h1 q
  wp_walk using q1; refine wpAny_stack_any fun st => wpAny_pure ?_; split
  · rename_i c _ _ _ _ _; cases (c == Value.type "enumerate") <;> (wp_walk using q1; exact ⟨_, rfl, h⟩)
  · wp_walk using q1; exact ⟨_, rfl, h⟩
section
variable {prog : Program} {w : World} {A : Around} {E : Value → Shared → Prop} {s : Shared}
theorem call_enumK {v : Value} {o : Obj} {H : Heap → Prop} {Q : Value → Shared → Prop} (B : Begins v o H) (h1 : H s.heap)
    (h : ∀ h', IsEnum h' (s.heap.objs.size + 1) s.heap.objs.size 0 .none → h'.get? s.heap.objs.size = some o → (∀ b o, s.heap.get? b = some o → h'.get? b = some o) → Q (.ref (s.heap.objs.size + 1)) { s with heap := h' }) : wpAny (model prog w) A (call (.type "enumerate") [v]) Q E s := by
  refine callType_new F.called_enumerate (by decide) (F.typeCall_enumerate_1 _) (F.newCall_enumerate_1 _) (fun obj => F.args_object_init_2 obj _) F.entry_enumerate_new (meets_enumK B) ⟨h1, ?_⟩
  have hz : (s.heap.push o).objs.size = s.heap.objs.size + 1 := Heap.size_push ..
  have he := Heap.get?_push_size (s.heap.push o) (o := { cls := .type "enumerate", data := .fields #[.none, .bool false, .ref s.heap.objs.size, rawInt 0, .none, .none] }) rfl
  show _ ∧ _
  rw [hz] at he ⊢
  exact ⟨⟨_, he, rfl⟩, h _ he (Heap.get?_push_of_some _ (Heap.get?_push_size _ B.free)) fun b o x => Heap.get?_push_of_some _ (Heap.get?_push_of_some _ x)⟩
end
/-- the turns of enumerate -/
def ItE (k : Bool) (K : Frag) (a : Addr) : It where
  go := fun i H => ∃ (xs : List V) (x : V), SqK k K H a xs ∧ xs[i]? = some x
  yld := fun i H v H' => ∃ T x, v = .ref T ∧ H T = none ∧ H' = upd H T (.tup [.int (i : Nat), x]) ∧ ∀ xs, SqK k K H a xs → xs[i]? = some x
  stop := fun i H => ∃ xs : List V, SqK k K H a xs ∧ i = xs.length
def tnE (k : Bool) (a e it : Addr) (i : Nat) (h : Heap) : Prop := (∃ old, IsEnum h e it ((i : Nat) : Int) old) ∧ ItK k h it a i
theorem turnE {P : Program} {w : World} {K : Frag} {elts : List Expr} {kk : Nat} {tpos : Pos} {k : Bool} {a e it : Addr} (na : a ≠ it) (ne : e ≠ it) (nea : e ≠ a) : Turn P w K (.Tuple elts kk tpos) (ItE k K a) [e, it] e (tnE k a e it) where
  mem := by simp
  obj := fun i h st c hc => by
    obtain ⟨⟨old, he⟩, s1⟩ := st
    have cs : c = e ∨ c = it := by simpa using hc
    rcases cs with rfl | rfl
    · exact ⟨_, he, fun v q => nomatch q⟩
    · exact itK_get s1
  keep := fun i h h' st q => by
    obtain ⟨⟨old, he⟩, s1⟩ := st
    exact ⟨⟨old, q e (by simp) _ he⟩, itK_at s1 fun o w => q it (by simp) o w⟩
  item := by
    intro X hP hw hK hc i pins s σ H E I hf st hg
    subst hP hw hK
    obtain ⟨he, s1⟩ := id st
    obtain ⟨xs, x, qx, hx⟩ := hg
    obtain ⟨its, rv, p1, _⟩ := invK I qx
    obtain ⟨u, hu, ru⟩ := rv.get hx
    have hh : (X.A.in1).handled = none := I.ok.hd hc
    have W := WalksT.enumerateD (drawK (P := X.prog) (w := X.w) hh k it a na its.toArray) e ne (by simp [ne, nea]) (by simp)
    have li : i < its.length := (List.getElem?_eq_some_iff.mp hu).1
    refine W.item i s _ _ (by rw [List.size_toArray]; exact li) ⟨he, s1, p1⟩ fun T vals h1 tk pt hT tT mid kp => ⟨_, rfl, ?_⟩
    refine W.go elts kk tpos i T { s with heap := h1, toks := tk } _ _ mid fun h2 st2 kp2 => ?_
    obtain ⟨t, v1, e1, rfl⟩ := pt
    have e1 : v1 = u := by
      have : its[i]? = some v1 := by simpa using e1
      rw [hu] at this
      cases this
      rfl
    subst e1
    have nT : T ∉ [e, it] := W.apart i T _ mid
    have tT2 : h2.IsTuple T #[.int i t, v1] := by
      obtain ⟨o, g1, g2⟩ := tT
      exact ⟨o, kp2 T o nT g1, g2⟩
    have I1 : Inv X pins σ (upd H T (.tup [.int (i : Nat), x])) { s with heap := h2, toks := tk } :=
      I.turnedNew (ch := [e, it]) (fun c o hb q => kp2 c o hb (kp c o hb q)) hf hT ⟨by show 2 ≤ sizeLine; decide, [.int i t, v1], .cons ⟨_, rfl⟩ (.cons ru .nil), tT2⟩
    obtain ⟨⟨old2, he2⟩, s1', _⟩ := st2
    refine ⟨.ref T, _, I1, rfl, ⟨T, x, rfl, I.hok.fresh hT, rfl, fun l hl => by rw [injK I hl qx]; exact hx⟩, ⟨⟨old2, he2⟩, s1'⟩, fun c hcm => ?_⟩
    have lt : c < s.heap.objs.size := by
      have cs : c = e ∨ c = it := by simpa using hcm
      obtain ⟨old, he⟩ := he
      rcases cs with rfl | rfl
      · exact Heap.lt_size he
      · obtain ⟨_, q, _⟩ := itK_get s1
        exact Heap.lt_size q
    rw [upd_ne (Nat.ne_of_lt (Nat.lt_of_lt_of_le lt hT))]
    exact (hf c hcm).1
  done := by
    intro X hP hw hK hc i pins s σ H E I hf st hg
    subst hP hw hK
    obtain ⟨he, s1⟩ := id st
    obtain ⟨xs, qx, hend⟩ := hg
    obtain ⟨its, rv, p1, _⟩ := invK I qx
    have hh : (X.A.in1).handled = none := I.ok.hd hc
    have W := WalksT.enumerateD (drawK (P := X.prog) (w := X.w) hh k it a na its.toArray) e ne (by simp [ne, nea]) (by simp)
    have hn : i = its.toArray.size := by
      rw [List.size_toArray, hend]
      exact rv.length
    subst hn
    exact W.done s _ _ ⟨he, s1, p1⟩ fun h' tk kp => ⟨rfl, I.turnedL (t' := tk) (ch := [e, it]) (fun c o hb q => kp c o hb q) hf⟩
  self := fun A i s Q E st h => by
    obtain ⟨⟨_, he⟩, _⟩ := st
    exact wpAny_pyIter_enum he h
def iEnumK (K : Frag) (ta : TA) : TI := fun σ H R => ta σ H fun vs H1 => ∃ (k : Bool) (a : Addr) (xs : List V), vs = [.ref a] ∧ SqK k K H1 a xs ∧ R (ItE k K a) H1
theorem pi_enumK {X : Cx} {e : Expr} {ta : TA} {p pos tpos : Pos} {elts : List Expr} {kk : Nat} (hg : Gl X "enumerate") (hm : X.mg "enumerate" = none) (ha : PA X [e] ta) (hs : starEach [e] X.env = [(false, eval e X.env)] := by rfl) : PI X (.Tuple elts kk tpos) (.Call (.Name "enumerate" p) [e] [] pos) (iEnumK X.K ta) := by
  refine ⟨fun pins s σ H R I h => Call_ (ld_blt I hg hm boot_enumerate (PyProof.Rows.callWith_type1 (thn (ha.run pos pins s σ H _ I h) fun us s1 ⟨vs, H1, I1, r1, q1⟩ => ?_) hs rfl))⟩
  obtain ⟨k, a, xs, rfl, qx, q⟩ := q1
  obtain ⟨u1, rfl, hr1⟩ := vals1 r1
  cases hr1
  obtain ⟨its, rv, p1, la⟩ := invK I1 qx
  refine call_enumK (begK k a its.toArray) p1 fun h' he g1 hk => wpAny_pyIter_enum he ?_
  refine ⟨_, [s1.heap.objs.size + 1, s1.heap.objs.size], _, _, H1, rfl, I1.kept (t' := s1.toks) hk, turnE (k := k) (Nat.ne_of_lt la) (Nat.succ_ne_self _) (Nat.ne_of_gt (Nat.lt_succ_of_lt la)), ⟨⟨_, he⟩, itK_of g1⟩, fun c hcm => ?_, q⟩
  have hle : s1.heap.objs.size ≤ c := by
    have cs : c = s1.heap.objs.size + 1 ∨ c = s1.heap.objs.size := by simpa using hcm
    rcases cs with z | z <;> rw [z]
    · exact Nat.le_add_right _ _
    · exact Nat.le_refl _
  exact I1.fpOk hle (I1.hok.fresh hle)
end Mir


set_option Elab.async false
set_option linter.all false
set_option maxRecDepth 100000
/-! zip and enumerate: what a loop and a comprehension over them say. -/
namespace Mir
open PySem PySem.Spec PyProof.Rows L2
open PySem.W (Frag)
def seqD : Dt → Option (List Dt)
  | .lst xs => some xs
  | .tup xs => some xs
  | _ => none
def mZip (a b : ME) : MA := fun ρ s => (a ρ s).bind fun d s1 => (b ρ s1).bind fun e s2 => match seqD d, seqD e with
  | some xs, some ys => .ok (zipD xs ys) s2
  | _, _ => .bad
def mEnum (a : ME) : MA := fun ρ s => (a ρ s).bind fun d s1 => match seqD d with
  | some xs => .ok (enumD 0 xs) s1
  | _ => .bad
section
variable {K : Frag} {mg : Str → Option Value} {Wx : WX} {tl tl2 : TE} {b b2 : ME}
theorem sqK_mono {k : Bool} {H H' : Hp} {a : Addr} {xs : List V} (e : ∀ b o, H b = some o → H' b = some o) (q : SqK k K H a xs) (hl : k = true → H a = some (.lst xs)) : SqK k K H' a xs := by
  cases k with
  | true => exact SqL.of (e _ _ (hl rfl))
  | false => exact sqt_mono e q
/-- a sequence among the data -/
structure SeqAt' (K : Frag) (mg : Str → Option Value) (h : Addr) (H : Hp) (x : V) (xs : List Dt) (k : Bool) (a : Addr) (vs : List V) : Prop where
  ref : x = .ref a
  da : DenA K mg h H vs xs
  at' : ∀ H', (∀ b o, H b = some o → H' b = some o) → SqK k K H' a vs
theorem seq_at {h : Addr} {H : Hp} {x : V} {d : Dt} {xs : List Dt} (dx : Den K mg h H x d) (e : seqD d = some xs) : ∃ k a vs, SeqAt' K mg h H x xs k a vs := by
  cases dx with
  | @lst a vs ds qa ra =>
    cases e
    exact ⟨true, a, vs, rfl, ra, fun H' q => SqL.of (q _ _ qa)⟩
  | @tup a vs ds qa ra =>
    cases e
    exact ⟨false, a, vs, rfl, ra, fun H' q => sqt_mono q qa⟩
  | _ => cases e
theorem pw_zip {k1 k2 : Bool} {a c : Addr} {vx vy : List V} : PairW (ItZ k1 k2 K a c) (fun H => SqK k1 K H a vx ∧ SqK k2 K H c vy) (min vx.length vy.length) (pxZ vx vy) where
  go := fun ok hi => ⟨vx, vy, _, _, ok.1, ok.2, getD_of (by omega), getD_of (by omega)⟩
  yld := fun {i H v H'} ok hi y => by
    obtain ⟨T, x, z, rfl, hT, rfl, f1, f2⟩ := y
    have e1 := f1 vx ok.1
    have e2 := f2 vy ok.2
    rw [getD_of (show i < vx.length by omega)] at e1
    rw [getD_of (show i < vy.length by omega)] at e2
    cases e1
    cases e2
    exact ⟨T, rfl, hT, rfl⟩
  stop := fun ok => ⟨vx, vy, ok.1, ok.2, rfl⟩
theorem pw_enum {k : Bool} {a : Addr} {vx : List V} : PairW (ItE k K a) (fun H => SqK k K H a vx) vx.length (pxE vx) where
  go := fun ok hi => ⟨vx, _, ok, getD_of hi⟩
  yld := fun {i H v H'} ok hi y => by
    obtain ⟨T, x, rfl, hT, rfl, f1⟩ := y
    have e1 := f1 vx ok
    rw [getD_of hi] at e1
    cases e1
    exact ⟨T, rfl, hT, rfl⟩
  stop := fun ok => ⟨vx, ok, rfl⟩
theorem si_zip (hb : SE K mg Wx tl b) (hb2 : SE K mg Wx tl2 b2) : SI K mg Wx (iZipK K (tCons tl (tCons tl2 tNil))) (mZip b b2) where
  for_ := by
    intro js g m tb body hg hbb h H0 H s σ ρ D g0 S p
    have p : PostS K mg h (((b ρ s).bind _).bind _) H0 H Wx D := p
    rw [R.bind_assoc] at p
    refine hb h H0 H s σ ρ _ g0 S (PostS.bind p fun d s1 x A B st g1 dx p1 => ?_)
    rw [R.bind_assoc] at p1
    refine hb2 h A B s1 σ ρ _ g1 (S.step st) (PostS.bind p1 fun d2 s2 x2 A2 B2 st2 g2 dx2 p2 => ?_)
    cases e1 : seqD d with
    | none =>
      simp only [e1] at p2
      exact p2.elim
    | some xs =>
      cases e2 : seqD d2 with
      | none =>
        simp only [e1, e2] at p2
        exact p2.elim
      | some ys =>
        simp only [e1, e2] at p2
        obtain ⟨k1, a, vx, q1⟩ := seq_at (dx.mono st2.s0) e1
        obtain ⟨k2, c, vy, q2⟩ := seq_at dx2 e2
        obtain ⟨z1, z2⟩ := zip_den q1.da q2.da
        exact ⟨k1, k2, a, c, vx, vy, by rw [q1.ref, q2.ref], q1.at' _ g2.ex, q2.at' _ g2.ex, for_pairs pw_zip (fun A' B' s' e g' => ⟨q1.at' _ fun b o w => g'.ex _ _ (e _ _ w), q2.at' _ fun b o w => g'.ex _ _ (e _ _ w)⟩) z1 z2 hg hbb g2 (S.step (st.trans st2)) p2⟩
  lcF := by
    intro js g m tt mt ta a vs hg hv ht ha h H0 H s σ ρ Q PF hbad herr fin0 g0 S p
    have p : PF (((b ρ s).bind _).bind _) := p
    rw [R.bind_assoc] at p
    refine hb h H0 H s σ ρ _ g0 S (Post.bindF hbad herr p fun d s1 x A B st g1 dx p1 => ?_)
    rw [R.bind_assoc] at p1
    refine hb2 h A B s1 σ ρ _ g1 (S.step st) (Post.bindF hbad (fun c fs ρ s z => ErrP.step st.s0 (herr c fs ρ s z)) p1 fun d2 s2 x2 A2 B2 st2 g2 dx2 p2 => ?_)
    cases e1 : seqD d with
    | none =>
      simp only [e1] at p2
      exact (hbad p2).elim
    | some xs =>
      cases e2 : seqD d2 with
      | none =>
        simp only [e1, e2] at p2
        exact (hbad p2).elim
      | some ys =>
        simp only [e1, e2] at p2
        obtain ⟨k1, aa, vx, q1⟩ := seq_at (dx.mono st2.s0) e1
        obtain ⟨k2, c, vy, q2⟩ := seq_at dx2 e2
        obtain ⟨z1, z2⟩ := zip_den q1.da q2.da
        exact ⟨k1, k2, aa, c, vx, vy, by rw [q1.ref, q2.ref], q1.at' _ g2.ex, q2.at' _ g2.ex, fun D hD => lc_pairs pw_zip (fun A' B' s' e g' => ⟨q1.at' _ fun b o w => g'.ex _ _ (e _ _ w), q2.at' _ fun b o w => g'.ex _ _ (e _ _ w)⟩) z1 z2 hbad (fin0 A2 B2 (st.trans st2)) hg hv ht ha g2 (S.step (st.trans st2)) p2 D hD⟩
theorem si_enum (hb : SE K mg Wx tl b) : SI K mg Wx (iEnumK K (tCons tl tNil)) (mEnum b) where
  for_ := by
    intro js g m tb body hg hbb h H0 H s σ ρ D g0 S p
    have p : PostS K mg h (((b ρ s).bind _).bind _) H0 H Wx D := p
    rw [R.bind_assoc] at p
    refine hb h H0 H s σ ρ _ g0 S (PostS.bind p fun d s1 x A B st g1 dx p1 => ?_)
    cases e1 : seqD d with
    | none =>
      simp only [e1] at p1
      exact p1.elim
    | some xs =>
      simp only [e1] at p1
      obtain ⟨k, a, vx, q1⟩ := seq_at dx e1
      obtain ⟨z1, z2⟩ := enum_den q1.da
      exact ⟨k, a, vx, by rw [q1.ref], q1.at' _ g1.ex, for_pairs pw_enum (fun A' B' s' e g' => q1.at' _ fun b o w => g'.ex _ _ (e _ _ w)) z1 z2 hg hbb g1 (S.step st) p1⟩
  lcF := by
    intro js g m tt mt ta a vs hg hv ht ha h H0 H s σ ρ Q PF hbad herr fin0 g0 S p
    have p : PF (((b ρ s).bind _).bind _) := p
    rw [R.bind_assoc] at p
    refine hb h H0 H s σ ρ _ g0 S (Post.bindF hbad herr p fun d s1 x A B st g1 dx p1 => ?_)
    cases e1 : seqD d with
    | none =>
      simp only [e1] at p1
      exact (hbad p1).elim
    | some xs =>
      simp only [e1] at p1
      obtain ⟨k, aa, vx, q1⟩ := seq_at dx e1
      obtain ⟨z1, z2⟩ := enum_den q1.da
      exact ⟨k, aa, vx, by rw [q1.ref], q1.at' _ g1.ex, fun D hD => lc_pairs pw_enum (fun A' B' s' e g' => q1.at' _ fun b o w => g'.ex _ _ (e _ _ w)) z1 z2 hbad (fin0 A B st) hg hv ht ha g1 (S.step st) p1 D hD⟩
end
section
variable {X : Cx} {Wx : WX} {e e2 : Expr} {elts : List Expr} {kk : Nat} {tpos p pos : Pos} {ma ma2 : ME}
theorem qip_zip (hgr : Gl X "zip") (hm : X.mg "zip" = none) (hi : QE X Wx e ma) (hi2 : QE X Wx e2 ma2) (hs : starEach [e, e2] X.env = (false, eval e X.env) :: starEach [e2] X.env := by rfl) (hs2 : starEach [e2] X.env = (false, eval e2 X.env) :: starEach [] X.env := by rfl) (hpl : (backTo pos (starEach [e2] X.env)).any (·.1) = false := by rfl)
    (hf : ∀ x, foldedSetIterable (.Call (.Name "zip" p) [e, e2] [] pos) X.env x = pure x := by intro _; rfl) : QIp X Wx (.Tuple elts kk tpos) (.Call (.Name "zip" p) [e, e2] [] pos) (mZip ma ma2) := by
  obtain ⟨t, q, s⟩ := hi
  obtain ⟨t2, q2, s2⟩ := hi2
  exact ⟨_, pi_zipK hgr hm (pa_cons q (pa_cons q2 pa_nil hs2) hs) hs hpl, si_zip s s2, hf⟩
theorem qip_enum (hgr : Gl X "enumerate") (hm : X.mg "enumerate" = none) (hi : QE X Wx e ma) (hs : starEach [e] X.env = [(false, eval e X.env)] := by rfl)
    (hf : ∀ x, foldedSetIterable (.Call (.Name "enumerate" p) [e] [] pos) X.env x = pure x := by intro _; rfl) : QIp X Wx (.Tuple elts kk tpos) (.Call (.Name "enumerate" p) [e] [] pos) (mEnum ma) := by
  obtain ⟨t, q, s⟩ := hi
  exact ⟨_, pi_enumK hgr hm (pa_cons q pa_nil hs) hs, si_enum s, hf⟩
end
end Mir


set_option Elab.async false
set_option linter.all false
set_option maxRecDepth 100000
/-! slices of lists and tuples; max, min, sum, any, all. -/
namespace Mir
open PySem PySem.Spec PyProof.Rows L2
open PySem.W (Frag)
/-! ### slices -/
def cutD (xs : List Dt) (lo hi : Option Int) : List Dt := (xs.drop (HT.sIx xs.length 0 lo)).take (HT.sIx xs.length xs.length hi - HT.sIx xs.length 0 lo)
abbrev MO := Env' → Hd → R (Option Int)
def mPartN : MO := fun _ s => .ok none s
def mPart (a : ME) : MO := fun ρ s => (a ρ s).bind fun d s1 => match d with
  | .int i => .ok (some i) s1
  | _ => .bad
def fSl (d : Dt) (lo hi : Option Int) : Option Dt := match d with
  | .lst xs => some (.lst (cutD xs lo hi))
  | .tup xs => some (.tup (cutD xs lo hi))
  | _ => none
def mSl (a : ME) (l u : MO) : ME := fun ρ s => (a ρ s).bind fun d s1 => (l ρ s1).bind fun lo s2 => (u ρ s2).bind fun hi s3 => liftO (fSl d lo hi) s3
def EqO : Hp → Option Int → Option Int → Prop := fun _ a b => a = b
section
variable {K : Frag} {mg : Str → Option Value} {Wx : WX} {ta : TE} {tl th : TO} {a : ME} {l u : MO}
def SO (K : Frag) (mg : Str → Option Value) (Wx : WX) (t : TO) (m : MO) : Prop := ∀ (h : Ent) (H0 H : Hp) (s : Hd) (σ : L2.St) (ρ : Env') (Q : Option Int → Hp → Prop), G h.a H0 H s → Slots K mg h H0 H σ ρ → Post K mg h EqO (m ρ s) H0 H Wx Q → t σ H Q
theorem so_none : SO K mg Wx tNoPart mPartN := fun h H0 H s σ ρ Q g S p => p none H0 H (.refl _ _) g rfl
theorem so_some (ha : SE K mg Wx ta a) : SO K mg Wx (tPart ta) (mPart a) := by
  intro h H0 H s σ ρ Q g S p
  refine ha h H0 H s σ ρ _ g S (Post.bind p fun d s1 x A B st g1 dx p1 => ?_)
  cases dx with
  | int i => exact ⟨i, rfl, p1 (some i) A B (.refl _ _) g1 rfl⟩
  | _ => exact p1.elim
theorem cut_len {h : Addr} {H : Hp} {vs : List V} {ds : List Dt} (d : DenA K mg h H vs ds) (lo hi : Option Int) : DenA K mg h H (cutV vs lo hi) (cutD ds lo hi) := by
  have drop : ∀ (n : Nat) {vs : List V} {ds : List Dt}, DenA K mg h H vs ds → DenA K mg h H (vs.drop n) (ds.drop n) := by
    intro n
    induction n with
    | zero => exact fun d => d
    | succ n ih =>
      intro vs ds d
      cases d with
      | nil => exact .nil
      | cons a r => exact ih r
  have take : ∀ (n : Nat) {vs : List V} {ds : List Dt}, DenA K mg h H vs ds → DenA K mg h H (vs.take n) (ds.take n) := by
    intro n
    induction n with
    | zero => exact fun _ => .nil
    | succ n ih =>
      intro vs ds d
      cases d with
      | nil => exact .nil
      | cons a r => exact .cons a (ih r)
  unfold cutV cutD
  rw [d.len]
  exact take _ (drop _ d)
def rSlD (K : Frag) : V → Option Int → Option Int → Hp → VK → Prop := fun x lo hi H Q => rSlL K x lo hi H Q ∨ rSlA K x lo hi H Q
theorem se_sl (ha : SE K mg Wx ta a) (hl : SO K mg Wx tl l) (hu : SO K mg Wx th u) : SE K mg Wx (tSl (rSlD K) ta tl th) (mSl a l u) := by
  intro h H0 H s σ ρ Q g S p
  refine ha h H0 H s σ ρ _ g S (Post.bind p fun d s1 x A B st g1 dx p1 => ?_)
  refine hl h A B s1 σ ρ _ g1 (S.step st) (Post.bind p1 fun lo s2 lo' A2 B2 st2 g2 el p2 => ?_)
  refine hu h A2 B2 s2 σ ρ _ g2 (S.step (st.trans st2)) (Post.bind p2 fun hi s3 hi' A3 B3 st3 g3 eh p3 => ?_)
  have el : lo' = lo := el
  have eh : hi' = hi := eh
  subst el eh
  obtain ⟨z, hz, p4⟩ := post_lift p3
  have dx3 := (dx.mono st2.s0).mono st3.s0
  unfold fSl at hz
  cases dx3 with
  | lst qa ra =>
    cases hz
    refine .inl ⟨_, _, rfl, SqL.of (g3.ex _ _ qa), fun q hq => ?_⟩
    obtain ⟨g4, st4⟩ := g3.alloc (o := .lst _) hq
    exact p4 _ _ _ st4 g4 (.lst upd_same ((cut_len ra _ _).mono st4.s0))
  | @tup aa xs ds qa ra =>
    cases hz
    refine .inr ⟨_, _, rfl, sqt_mono g3.ex qa, fun w => ?_, fun w q hq => ?_⟩
    · have e : cutD ds lo' hi' = ds := by
        unfold cutD
        have l := ra.len
        rw [← l, w.1, w.2]
        rw [List.drop_zero, Nat.sub_zero, l, List.take_length]
      rw [e] at p4
      exact p4 _ _ _ (.refl _ _) g3 (.tup qa ra)
    · obtain ⟨g4, st4⟩ := g3.alloc (o := .tup _) hq
      exact p4 _ _ _ st4 g4 (.tup (SqT.of upd_same) ((cut_len ra _ _).mono st4.s0))
  | _ => cases hz
end
section
variable {X : Cx} {Wx : WX} {e e1 e2 : Expr} {p2 pos : Pos} {ma m1 m2 : ME} {lo hi : Option Expr} {l u : MO}
def QO (X : Cx) (Wx : WX) (e : Option Expr) (m : MO) : Prop := ∃ t, PO X e t ∧ SO X.K X.mg Wx t m
theorem qo_none : QO X Wx none mPartN := ⟨_, po_none, so_none⟩
theorem qo_some (h : QE X Wx e ma) : QO X Wx (some e) (mPart ma) := by
  obtain ⟨t, p, s⟩ := h
  exact ⟨_, po_some p, so_some s⟩
theorem qe_sl (h : QE X Wx e ma) (hl : QO X Wx lo l) (hu : QO X Wx hi u) : QE X Wx (.Subscript e (.Slice lo hi none p2) pos) (mSl ma l u) := by
  obtain ⟨t, p, s⟩ := h
  obtain ⟨tl, pl, sl⟩ := hl
  obtain ⟨tu, pu, su⟩ := hu
  exact ⟨_, pe_slice (SlR.or sl_list sl_tupA) p pl pu, se_sl s sl su⟩
end
/-! ### max, min, sum, any, all -/
def intsD : List Dt → Option (List Int)
  | [] => some []
  | .int i :: ds => (intsD ds).map fun l => i :: l
  | _ => none
def boolsD : List Dt → Option (List Bool)
  | [] => some []
  | .bl i :: ds => (boolsD ds).map fun l => i :: l
  | _ => none
def maxI : Int → List Int → Int
  | m, [] => m
  | m, i :: l => maxI (if m < i then i else m) l
def minI : Int → List Int → Int
  | m, [] => m
  | m, i :: l => minI (if i < m then i else m) l
theorem maxI_ge : ∀ (l : List Int) (m : Int), m ≤ maxI m l ∧ ∀ i ∈ l, i ≤ maxI m l
  | [], m => ⟨Int.le_refl _, fun i h => nomatch h⟩
  | j :: l, m => by
    have e : maxI m (j :: l) = maxI (if m < j then j else m) l := rfl
    rw [e]
    by_cases c : m < j
    · rw [if_pos c]
      obtain ⟨h1, h2⟩ := maxI_ge l j
      refine ⟨by omega, fun i hi => ?_⟩
      rcases List.mem_cons.mp hi with rfl | hi
      · exact h1
      · exact h2 i hi
    · rw [if_neg c]
      obtain ⟨h1, h2⟩ := maxI_ge l m
      refine ⟨h1, fun i hi => ?_⟩
      rcases List.mem_cons.mp hi with rfl | hi
      · omega
      · exact h2 i hi
theorem maxI_mem : ∀ (l : List Int) (m : Int), maxI m l = m ∨ maxI m l ∈ l
  | [], m => .inl rfl
  | j :: l, m => by
    show maxI (if m < j then j else m) l = m ∨ _
    rcases maxI_mem l (if m < j then j else m) with h | h
    · by_cases c : m < j
      · rw [if_pos c] at h ⊢
        exact .inr (by show maxI _ l ∈ _; simp only [if_pos c]; rw [h]; exact List.mem_cons_self ..)
      · rw [if_neg c] at h ⊢
        exact .inl h
    · exact .inr (List.mem_cons_of_mem _ h)
theorem minI_le : ∀ (l : List Int) (m : Int), minI m l ≤ m ∧ ∀ i ∈ l, minI m l ≤ i
  | [], m => ⟨Int.le_refl _, fun i h => nomatch h⟩
  | j :: l, m => by
    have e : minI m (j :: l) = minI (if j < m then j else m) l := rfl
    rw [e]
    by_cases c : j < m
    · rw [if_pos c]
      obtain ⟨h1, h2⟩ := minI_le l j
      refine ⟨by omega, fun i hi => ?_⟩
      rcases List.mem_cons.mp hi with rfl | hi
      · exact h1
      · exact h2 i hi
    · rw [if_neg c]
      obtain ⟨h1, h2⟩ := minI_le l m
      refine ⟨h1, fun i hi => ?_⟩
      rcases List.mem_cons.mp hi with rfl | hi
      · omega
      · exact h2 i hi
theorem minI_mem : ∀ (l : List Int) (m : Int), minI m l = m ∨ minI m l ∈ l
  | [], m => .inl rfl
  | j :: l, m => by
    show minI (if j < m then j else m) l = m ∨ _
    rcases minI_mem l (if j < m then j else m) with h | h
    · by_cases c : j < m
      · rw [if_pos c] at h ⊢
        exact .inr (by show minI _ l ∈ _; simp only [if_pos c]; rw [h]; exact List.mem_cons_self ..)
      · rw [if_neg c] at h ⊢
        exact .inl h
    · exact .inr (List.mem_cons_of_mem _ h)
def fMax : List Dt → Option Dt
  | [.int i, .int j] => some (.int (if j > i then j else i))
  | [.lst ds] => match intsD ds with
    | some (i :: l) => some (.int (maxI i l))
    | _ => none
  | _ => none
def fMin : List Dt → Option Dt
  | [.int i, .int j] => some (.int (if j < i then j else i))
  | [.lst ds] => match intsD ds with
    | some (i :: l) => some (.int (minI i l))
    | _ => none
  | _ => none
def fSum : List Dt → Option Dt
  | [.lst ds] => (intsD ds).map fun l => .int l.sum
  | _ => none
def fAny : List Dt → Option Dt
  | [.lst ds] => (boolsD ds).map fun l => .bl (l.any id)
  | _ => none
def fAll : List Dt → Option Dt
  | [.lst ds] => (boolsD ds).map fun l => .bl (l.all id)
  | _ => none
section
variable {K : Frag} {mg : Str → Option Value}
theorem intsD_vals {h : Addr} {H : Hp} : ∀ {ds : List Dt} {vs : List V} {ys : List Int}, DenA K mg h H vs ds → intsD ds = some ys → vs = ys.map V.int
  | [], _, ys, .nil, e => by
    cases e
    rfl
  | d :: ds, _, ys, .cons (v := v) (vs := vs) dv da, e => by
    cases dv with
    | int x =>
      cases e2 : intsD ds with
      | none => simp [intsD, e2] at e
      | some l =>
        simp [intsD, e2] at e
        subst e
        rw [intsD_vals da e2]
        rfl
    | _ => cases e
theorem boolsD_vals {h : Addr} {H : Hp} : ∀ {ds : List Dt} {vs : List V} {ys : List Bool}, DenA K mg h H vs ds → boolsD ds = some ys → vs = ys.map V.bl
  | [], _, ys, .nil, e => by
    cases e
    rfl
  | d :: ds, _, ys, .cons (v := v) (vs := vs) dv da, e => by
    cases dv with
    | bl x =>
      cases e2 : boolsD ds with
      | none => simp [boolsD, e2] at e
      | some l =>
        simp [boolsD, e2] at e
        subst e
        rw [boolsD_vals da e2]
        rfl
    | _ => cases e
theorem lst_ints {h : Addr} {H0 H : Hp} {s : Hd} {xs : List V} {es : List Dt} {l : List Int} (g0 : G h H0 H s) (hx : DenA K mg h H0 xs [.lst es]) (e : intsD es = some l) : ∃ a, xs = [.ref a] ∧ SqL K H a (l.map V.int) := by
  cases hx with
  | cons a r =>
    cases r
    cases a with
    | lst qa ra =>
      have ev := intsD_vals ra e
      subst ev
      exact ⟨_, rfl, SqL.of (g0.ex _ _ qa)⟩
theorem lst_bools {h : Addr} {H0 H : Hp} {s : Hd} {xs : List V} {es : List Dt} {l : List Bool} (g0 : G h H0 H s) (hx : DenA K mg h H0 xs [.lst es]) (e : boolsD es = some l) : ∃ a, xs = [.ref a] ∧ SqL K H a (l.map V.bl) := by
  cases hx with
  | cons a r =>
    cases r
    cases a with
    | lst qa ra =>
      have ev := boolsD_vals ra e
      subst ev
      exact ⟨_, rfl, SqL.of (g0.ex _ _ qa)⟩
theorem cs_max : CaS K mg (fun xs H Q => (∃ i j, xs = [.int i, .int j] ∧ Q (.int (if j > i then j else i)) H) ∨ rMax K xs H Q) fMax := by
  intro h H0 H s xs ds z Q g0 hx hz q
  unfold fMax at hz
  split at hz
  · cases hz
    cases hx with
    | cons a r =>
      cases r with
      | cons b r =>
        cases r
        cases a
        cases b
        exact .inl ⟨_, _, rfl, q _ H0 H (.refl _ _) g0 (.int _)⟩
  · split at hz
    · rename_i es i l e
      cases hz
      obtain ⟨a, rfl, w⟩ := lst_ints g0 hx e
      refine .inr ⟨a, i :: l, rfl, w, Nat.succ_pos _, fun m hm hall => ?_⟩
      have e1 : m = maxI i l := by
        obtain ⟨g1, g2⟩ := maxI_ge l i
        have a1 : m ≤ maxI i l := by
          rcases List.mem_cons.mp hm with rfl | hm
          · exact g1
          · exact g2 m hm
        have a2 : maxI i l ≤ m := by
          rcases maxI_mem l i with h | h
          · rw [h]
            exact hall i (List.mem_cons_self ..)
          · exact hall _ (List.mem_cons_of_mem _ h)
        omega
      rw [e1]
      exact q _ H0 H (.refl _ _) g0 (.int _)
    · cases hz
  · cases hz
theorem cs_min : CaS K mg (fun xs H Q => (∃ i j, xs = [.int i, .int j] ∧ Q (.int (if j < i then j else i)) H) ∨ rMin K xs H Q) fMin := by
  intro h H0 H s xs ds z Q g0 hx hz q
  unfold fMin at hz
  split at hz
  · cases hz
    cases hx with
    | cons a r =>
      cases r with
      | cons b r =>
        cases r
        cases a
        cases b
        exact .inl ⟨_, _, rfl, q _ H0 H (.refl _ _) g0 (.int _)⟩
  · split at hz
    · rename_i es i l e
      cases hz
      obtain ⟨a, rfl, w⟩ := lst_ints g0 hx e
      refine .inr ⟨a, i :: l, rfl, w, Nat.succ_pos _, fun m hm hall => ?_⟩
      have e1 : m = minI i l := by
        obtain ⟨g1, g2⟩ := minI_le l i
        have a1 : minI i l ≤ m := by
          rcases List.mem_cons.mp hm with rfl | hm
          · exact g1
          · exact g2 m hm
        have a2 : m ≤ minI i l := by
          rcases minI_mem l i with h | h
          · rw [h]
            exact hall i (List.mem_cons_self ..)
          · exact hall _ (List.mem_cons_of_mem _ h)
        omega
      rw [e1]
      exact q _ H0 H (.refl _ _) g0 (.int _)
    · cases hz
  · cases hz
theorem cs_sum : CaS K mg (rSum K) fSum := by
  intro h H0 H s xs ds z Q g0 hx hz q
  unfold fSum at hz
  split at hz
  · rename_i es
    cases e : intsD es with
    | none =>
      rw [e] at hz
      cases hz
    | some l =>
      rw [e] at hz
      cases hz
      obtain ⟨a, rfl, w⟩ := lst_ints g0 hx e
      exact ⟨a, l, rfl, w, q _ H0 H (.refl _ _) g0 (.int _)⟩
  · cases hz
theorem cs_any : CaS K mg (rAny K) fAny := by
  intro h H0 H s xs ds z Q g0 hx hz q
  unfold fAny at hz
  split at hz
  · rename_i es
    cases e : boolsD es with
    | none =>
      rw [e] at hz
      cases hz
    | some l =>
      rw [e] at hz
      cases hz
      obtain ⟨a, rfl, w⟩ := lst_bools g0 hx e
      exact ⟨a, l, rfl, w, q _ H0 H (.refl _ _) g0 (.bl _)⟩
  · cases hz
theorem cs_all : CaS K mg (rAll K) fAll := by
  intro h H0 H s xs ds z Q g0 hx hz q
  unfold fAll at hz
  split at hz
  · rename_i es
    cases e : boolsD es with
    | none =>
      rw [e] at hz
      cases hz
    | some l =>
      rw [e] at hz
      cases hz
      obtain ⟨a, rfl, w⟩ := lst_bools g0 hx e
      exact ⟨a, l, rfl, w, q _ H0 H (.refl _ _) g0 (.bl _)⟩
  · cases hz
end
section
variable {X : Cx}
theorem call_maxA (hc : X.calm = true) : CallR X (.builtin "max") (fun xs H Q => (∃ i j, xs = [.int i, .int j] ∧ Q (.int (if j > i then j else i)) H) ∨ rMax X.K xs H Q) := CallR.or (call_max2 hc) (cr_max hc)
theorem call_minA (hc : X.calm = true) : CallR X (.builtin "min") (fun xs H Q => (∃ i j, xs = [.int i, .int j] ∧ Q (.int (if j < i then j else i)) H) ∨ rMin X.K xs H Q) := CallR.or (call_min2 hc) (cr_min hc)
end
end Mir


set_option Elab.async false
set_option linter.all false
set_option maxRecDepth 100000
/-! Recursion: a def that says nothing, to begin with. -/
namespace Mir
open PySem PySem.Spec PyProof.Rows L2
open PySem.W (Frag)
def mNone : List Dt → Hd → R Dt := fun _ _ => .bad
theorem none_ok {P : Program} {w : World} {K : Frag} {mg : Str → Option Value} {base : Heap} {CX : CXT} {k n : Nat} {f : Addr} {fd : FuncData} {ps : List Str} : FnOk P w K mg base CX k f fd ps (spM K mg n mNone) :=
  ⟨fun vs H Q E z => by
    obtain ⟨_, _, _, _, _, _, _, z⟩ := z
    exact z.elim, fun A outer s H args us vs Q E _ _ _ _ z => by
    obtain ⟨_, _, _, _, _, _, _, z⟩ := z
    exact z.elim⟩
/-- a method and what it takes -/
theorem method_of {P : Program} {w : World} {K : Frag} {mg : Str → Option Value} {base : Heap} {k n : Nat} {c x qual : Str} {st : Stmt} {ps : List Str} {m : List Dt → Hd → R Dt} {C f : Addr} {fd : FuncData} (hm : mg c = some (.ref C)) (cl : Cls K C) (mt : Meth K C x f) (F : FnOk P w K mg base (L2.CX P w) k f fd ps (spM K mg n m)) (hb : Binds K fd ps []) : Method P w K mg base k c x n [] m :=
  ⟨C, f, fd, ps, [], [], hm, cl, mt, F, hb, .nil, fun _ _ => .nil⟩
theorem maker_of {P : Program} {w : World} {K : Frag} {mg : Str → Option Value} {base : Heap} {k n : Nat} {c : Str} {ps : List Str} {m : List Dt → Hd → R (List (Str × Dt))} {C f : Addr} {fd : FuncData} (hm : mg c = some (.ref C)) (mk : Mk K C f) (F : FnOk P w K mg base (L2.CX P w) k f fd ps (spN K mg c n m)) (hb : Binds K fd ps []) : Maker P w K mg base k c n [] m :=
  ⟨C, f, fd, ps, [], [], hm, mk, F, hb, .nil, fun _ _ => .nil⟩
end Mir


set_option Elab.async false
set_option linter.all false
set_option maxRecDepth 100000
/-! Two places of one's own list at once. -/
namespace Mir
open PySem PySem.Spec PyProof.Rows L2
open PySem.W (Frag)
def setR (i : Nat) (b : ME) (d : Dt) (ρ : Env') (s : Hd) : R Env' := match ρ[i]? with
  | some (.own ds) => (b ρ s).bind fun k s2 => (match k with
    | .int k => (match ixN ds.length k with
      | some j => .ok (ρ.set i (.own (ds.set j d))) s2
      | none => .bad)
    | _ => .bad)
  | _ => .bad
def mSwp (i : Nat) (b1 b2 a1 a2 : ME) : MS := fun ρ s => (mTup (mCons a1 (mCons a2 mNil)) ρ s).bind fun d s2 => match d with
  | .tup [d1, d2] => (setR i b1 d1 ρ s2).bind fun ρ1 s3 => (setR i b2 d2 ρ1 s3).bind fun ρ2 s4 => .ok (.nx ρ2) s4
  | _ => .bad
section
variable {K : Frag} {mg : Str → Option Value} {Wx : WX} {ta1 ta2 tb1 tb2 tb : TE} {a1 a2 b1 b2 b : ME}
theorem set_ok {i : Nat} {h : Ent} {A B : Hp} {s : Hd} {σ : L2.St} {ρ : Env'} {D : Ends} {x : V} {d : Dt} {k : Env' → Hd → R Fl} {Qn : L2.St → Hp → Prop} (hb : SE K mg Wx tb b) (g : G h.a A B s) (S : Slots K mg h A B σ ρ) (dx : Den K mg h.a A x d) (p : PostS K mg h ((setR i b d ρ s).bind k) A B Wx D)
    (next : ∀ ρ' s' A' B', Same A A' → G h.a A' B' s' → Slots K mg h A' B' σ ρ' → PostS K mg h (k ρ' s') A' B' Wx D → Qn σ B') : gSub (tVar i) tb rSetL x σ B Qn := by
  unfold setR at p
  split at p
  · rename_i ds ei
    obtain ⟨q, vs, es, eq, n0, nh, nf, da⟩ := S.own ei
    rw [R.bind_assoc] at p
    refine ⟨.ref q, es, hb h A B s σ ρ _ g S (PostS.bind p fun k' s2 y A2 B2 st2 g2 dy p2 => ?_)⟩
    obtain ⟨q2, vs2, es2, eq2, n02, nh2, nf2, da2⟩ := (S.step st2).own ei
    obtain rfl : q = q2 := by
      rw [es] at es2
      cases es2
      rfl
    cases dy with
    | int kk =>
      cases ej : ixN ds.length kk with
      | none =>
        simp only [ej] at p2
        exact p2.elim
      | some j =>
        simp only [ej] at p2
        refine ⟨q, vs2, kk, j, rfl, rfl, eq2, by rw [da2.len]; exact ej, ?_⟩
        have nha : q ≠ h.a := fun z => nh2 (.inl z)
        exact next (ρ.set i (.own (ds.set j d))) s2 A2 _ st2.s0 (g2.at n02 nh2) ((S.step st2).mut (u := .lst (vs2.set j x)) ei rfl es nh2 nf2 rfl ⟨q, vs2.set j x, rfl, upd_same, n02, isH_upd nha nh2, nf2, da2.set (dx.mono st2.s0) j⟩) p2
    | _ => exact p2.elim
  · exact p.elim
theorem ss_swp {i : Nat} (h1 : SE K mg Wx tb1 b1) (h2 : SE K mg Wx tb2 b2) (ha1 : SE K mg Wx ta1 a1) (ha2 : SE K mg Wx ta2 a2) : SS K mg Wx (tAsg (tTup (tCons ta1 (tCons ta2 tNil))) (gSeq K 2 (gCons (gSub (tVar i) tb1 rSetL) (gCons (gSub (tVar i) tb2 rSetL) gNil)))) (mSwp i b1 b2 a1 a2) := by
  intro h H0 H s σ ρ D g S p
  refine se_tup (sa_cons ha1 (sa_cons ha2 sa_nil)) h H0 H s σ ρ _ g S (PostS.bind p fun d s1 x A B st g1 dx p1 => ?_)
  split at p1
  · rename_i d1 d2
    cases dx with
    | @tup aa xs ds qa ra =>
      cases ra with
      | cons r1 rr =>
        cases rr with
        | cons r2 rr =>
          cases rr
          refine .inl ⟨aa, _, rfl, sqt_mono g1.ex qa, rfl, _, _, rfl, set_ok h1 g1 (S.step st) r1 p1 fun ρ1 s3 A3 B3 e3 g3 S3 p3 => ⟨_, _, rfl, set_ok h2 g3 S3 (r2.mono e3) p3 fun ρ2 s4 A4 B4 e4 g4 S4 p4 => ⟨rfl, p4 σ A4 B4 (Same.refl _) g4 S4⟩⟩⟩
  · exact p1.elim
end
section
variable {X : Cx} {Wx : WX} {e1 e2 f1 f2 : Expr} {b1 b2 a1 a2 : ME} {p p' q1 q2 tp tp2 pos : Pos} {kk kk2 : Nat}
theorem qs_swp (i : Nat) {x : Str} (hc : X.calm = true) (hN : X.N[i]? = some x) (h1 : QE X Wx f1 b1) (h2 : QE X Wx f2 b2) (g1 : QE X Wx e1 a1) (g2 : QE X Wx e2 a2) (hv : Vis X.env.scope x := by first | exact Or.inl rfl | exact Or.inr (Or.inl rfl) | exact Or.inr (Or.inr rfl)) (hd : (x == ("__debug__" : Str)) = false := by decide) (hcd : (x == ("__classdict__" : Str)) = false := by decide)
    (k1 : ∀ v, assign (.Subscript (.Name x p) f1 q1) X.env v = (do
      let ov ← holding [v] (eval (.Name x p) X.env)
      let iv ← holding [v, ov] (eval f1 X.env)
      standAt q1
      holding [v, ov, iv] (setItem ov iv v)
      release [v, ov, iv] []) := by intro _; rfl)
    (k2 : ∀ v, assign (.Subscript (.Name x p') f2 q2) X.env v = (do
      let ov ← holding [v] (eval (.Name x p') X.env)
      let iv ← holding [v, ov] (eval f2 X.env)
      standAt q2
      holding [v, ov, iv] (setItem ov iv v)
      release [v, ov, iv] []) := by intro _; rfl)
    (c1 : (assignEach [.Subscript (.Name x p) f1 q1, .Subscript (.Name x p') f2 q2] X.env).map (·.2) = assign (.Subscript (.Name x p) f1 q1) X.env :: (assignEach [.Subscript (.Name x p') f2 q2] X.env).map (·.2) := by rfl)
    (c2 : (assignEach [.Subscript (.Name x p') f2 q2] X.env).map (·.2) = assign (.Subscript (.Name x p') f2 q2) X.env :: (assignEach [] X.env).map (·.2) := by rfl)
    (hn : (assignEach [.Subscript (.Name x p) f1 q1, .Subscript (.Name x p') f2 q2] X.env).length = 2 := by rfl) (hst : (assignEach [.Subscript (.Name x p) f1 q1, .Subscript (.Name x p') f2 q2] X.env).findIdx? (·.1) = none := by rfl)
    (s1 : starEach [e1, e2] X.env = (false, eval e1 X.env) :: starEach [e2] X.env := by rfl) (s2 : starEach [e2] X.env = (false, eval e2 X.env) :: starEach [] X.env := by rfl)
    (hs : swapsWithSole [.Tuple [.Subscript (.Name x p) f1 q1, .Subscript (.Name x p') f2 q2] kk tp] (.Tuple [e1, e2] kk2 tp2) pos.line X.env = pure false := by rfl) (hw : swappedStores [.Tuple [.Subscript (.Name x p) f1 q1, .Subscript (.Name x p') f2 q2] kk tp] (.Tuple [e1, e2] kk2 tp2) X.env = pure none := by rfl)
    (hz : (assignEach [.Tuple [.Subscript (.Name x p) f1 q1, .Subscript (.Name x p') f2 q2] kk tp] X.env).map (·.2) = [assign (.Tuple [.Subscript (.Name x p) f1 q1, .Subscript (.Name x p') f2 q2] kk tp) X.env] := by rfl) :
    QS X Wx (.Assign [.Tuple [.Subscript (.Name x p) f1 q1, .Subscript (.Name x p') f2 q2] kk tp] (.Tuple [e1, e2] kk2 tp2) pos) (mSwp i b1 b2 a1 a2) := by
  obtain ⟨t1, p1, r1⟩ := h1
  obtain ⟨t2, p2, r2⟩ := h2
  obtain ⟨u1, w1, v1⟩ := g1
  obtain ⟨u2, w2, v2⟩ := g2
  exact ⟨_, ps_asg (pe_tup (pa_cons w1 (pa_cons w2 pa_nil s2) s1)) (pg_seq hc (pgs_cons (pg_sub (pe_var hN hv hd hcd) p1 set_list k1) (pgs_cons (pg_sub (pe_var hN hv hd hcd) p2 set_list k2) pgs_nil c2) c1) hn hst) hs hw hz, ss_swp r1 r2 v1 v2⟩
end
end Mir


set_option Elab.async false
set_option linter.all false
set_option maxRecDepth 100000
/-! Functions as values, chained comparisons, a suite that keeps a caught error's field. -/
namespace Mir
open PySem PySem.Spec PyProof.Rows L2
open PySem.W (Frag)
/-! ### a suite  x = (.., e.f) -/
def xSet (j : Nat) (a : List (Str × Dt) → ME) : MX := fun fs ρ s => (a fs ρ s).bind fun d s1 => .ok (.nx (ρ.set j (.dat d))) s1
section
variable {K : Frag} {mg : Str → Option Value} {i j : Nat} {a : Addr} {dd : Option Addr} {te : TE} {m : List (Str × Dt) → ME}
theorem xs_set (h1 : XE' K mg i a dd te m) : XS' K mg i a dd (tAsg te (gName j)) (xSet j m) := by
  intro h H0 H s σ ρ D fs g S ei ed p
  refine h1 h H0 H s σ ρ _ fs g S ei ed (PostS.bind p fun d s1 x A B st g1 dx p1 => ?_)
  exact p1 _ A B (Same.refl _) g1 ((S.step st).set dx)
end
section
variable {X : Cx} {C : Addr} {i j : Nat} {y : Str} {e : Expr} {pd pe : Pos} {te : Addr → Value → Option Addr → TE} {m : List (Str × Dt) → ME}
theorem qx_set (hN : X.N.Nodup) (hj : X.N[j]? = some y) (hlj : Loc X.env.scope y)
    (hlp : ∀ (a : Addr) (oe : Obj) (pn : List (Addr × Obj)), swapsWith e (some (.Name y pd)) pe.line (X.suite a ((a, oe) :: pn)).env = pure false)
    (hf : ∀ (a : Addr) (oe : Obj) (pn : List (Addr × Obj)), (X.suite a ((a, oe) :: pn)).fn y = true ∨ (X.suite a ((a, oe) :: pn)).env.scope.names.lookup y = some .local)
    (ht : ∀ (a : Addr) (oe : Obj) (cls : Value) (d : Option Addr) (pn : List (Addr × Obj)), Zc cls d oe → (∃ vs, oe.data = .fields vs) → PE (X.suite a ((a, oe) :: pn)) e (te a cls d))
    (hr : ∀ (a : Addr) (dd : Option Addr), XE' X.K X.mg i a dd (te a (.ref C) dd) m) :
    ∃ ts, QXo X (some i) C (.Assign [.Name y pd] e pe) [] ts (xSet j m) :=
  ⟨fun a cls d => tAsg (te a cls d) (gName j), ⟨fun a oe cls d pn hz hd => pss_one (ps_set hN hj hlj (ht a oe cls d pn hz hd) (hlp a oe pn) (hf a oe pn)), fun a dd => xs_set (hr a dd)⟩⟩
end
/-! ### a < b < c -/
def mChain (f g : Dt → Dt → Option Dt) (a b c : ME) : ME := fun ρ s => (a ρ s).bind fun d s1 => (b ρ s1).bind fun e s2 => match f d e with
  | some (.bl true) => (c ρ s2).bind fun k s3 => liftO (g e k) s3
  | some (.bl false) => .ok (.bl false) s2
  | _ => .bad
section
variable {K : Frag} {mg : Str → Option Value} {Wx : WX} {ta tb tc : TE} {a b c : ME}
theorem se_chain {r r' : R2} {f g : Dt → Dt → Option Dt} (hr : OpS K mg r f) (hr' : OpS K mg r' g) (ha : SE K mg Wx ta a) (hb : SE K mg Wx tb b) (hc : SE K mg Wx tc c) : SE K mg Wx (tChain r r' ta tb tc) (mChain f g a b c) := by
  intro h H0 H s σ ρ Q g0 S p
  refine ha h H0 H s σ ρ _ g0 S (Post.bind p fun d s1 x A B st g1 dx p1 => hb h A B s1 σ ρ _ g1 (S.step st) (Post.bind p1 fun e s2 y A2 B2 st2 g2 dy p2 => ?_))
  have dx2 := dx.mono st2.s0
  have S2 := (S.step st).step st2
  cases hf : f d e with
  | none =>
    rw [hf] at p2
    exact p2.elim
  | some z =>
    rw [hf] at p2
    refine hr h A2 B2 s2 x y d e z _ g2 dx2 dy hf fun u A3 B3 st3 g3 du => ?_
    cases z with
    | bl k =>
      cases du
      refine ⟨k, rfl, ?_⟩
      cases k with
      | true =>
        simp only [if_true]
        have p3 : Post K mg h (Den K mg h.a) ((c ρ s2).bind fun k s3 => liftO (g e k) s3) A2 B2 Wx Q := p2
        refine hc h A3 B3 s2 σ ρ _ g3 (S2.step st3) (Post.bind (Post.step st3 p3) fun k s4 w A4 B4 st4 g4 dw p4 => ?_)
        obtain ⟨z2, hz2, p5⟩ := post_lift p4
        exact hr' h A4 B4 s4 y w e k z2 Q g4 ((dy.mono st3.s0).mono st4.s0) dw hz2 fun u2 A5 B5 st5 g5 du2 => p5 u2 A5 B5 st5 g5 du2
      | false =>
        have p3 : Post K mg h (Den K mg h.a) (.ok (.bl false) s2) A2 B2 Wx Q := p2
        exact p3 (.bl false) A3 B3 st3 g3 (.bl false)
    | _ => exact p2.elim
end
section
variable {X : Cx} {Wx : WX} {a b c : Expr} {ma mb mc : ME} {pos : Pos} {op op' : CmpOp} {r r' : R2} {f g : Dt → Dt → Option Dt}
theorem qe_chain (ho : OpR X (compareOp op) r) (hs : OpS X.K X.mg r f) (ho' : OpR X (compareOp op') r') (hs' : OpS X.K X.mg r' g) (ha : QE X Wx a ma) (hb : QE X Wx b mb) (hc : QE X Wx c mc) (hm : lastMarks [op, op'] [b, c] = false) : QE X Wx (.Compare a [op, op'] [b, c] pos) (mChain f g ma mb mc) := by
  obtain ⟨ta, pa, sa⟩ := ha
  obtain ⟨tb, pb, sb⟩ := hb
  obtain ⟨tc, pc, sc⟩ := hc
  exact ⟨_, pe_chain ho ho' pa pb pc hm, se_chain hs hs' sa sb sc⟩
theorem qt_chain (ho : OpR X (compareOp op) r) (hs : OpS X.K X.mg r f) (ho' : OpR X (compareOp op') r') (hs' : OpS X.K X.mg r' g) (ha : QE X Wx a ma) (hb : QE X Wx b mb) (hc : QE X Wx c mc) (hm : lastMarks [op, op'] [b, c] = false) : QT X Wx (.Compare a [op, op'] [b, c] pos) (mTest (mChain f g ma mb mc)) := by
  obtain ⟨ta, pa, sa⟩ := ha
  obtain ⟨tb, pb, sb⟩ := hb
  obtain ⟨tc, pc, sc⟩ := hc
  exact ⟨_, pt_chain ho ho' pa pb pc hm, st_test (se_chain hs hs' sa sb sc)⟩
end
/-! ### functions as values -/
theorem qe_fn {X : Cx} {Wx : WX} {x : Str} {k n : Nat} {dd : List Dt} {m : List Dt → Hd → R Dt} {pos : Pos} (C : Callee X.prog X.w X.K X.mg X.base k x n dd m) (hg : Gl X x := by rfl) (hdb : (x == ("__debug__" : Str)) = false := by decide) : QE X Wx (.Name x pos) (mC (.fn x)) := by
  obtain ⟨f, fd, ps, dvs, dsV, F, hm, kp, hb, hd, hdd⟩ := C
  exact qe_glob (v := .ref f) hg hm rfl (fun _ _ => .fn hm) hdb
/-- a parameter called: what it is is known -/
def mCallV (i : Nat) (c : Str) (n : Nat) (m : List Dt → Hd → R Dt) (as : MA) : ME := fun ρ s => match ρ[i]? with
  | some (.dat (.fn c')) => if c' = c then (as ρ s).bind fun ds s1 => (if ds.length = n then (match m ds s1 with
    | .ok d s2 => .ok d s2
    | _ => .bad) else .bad) else .bad
  | _ => .bad
section
variable {X : Cx} {Wx : WX} {e : Expr} {es : List Expr} {x c : Str} {p pos : Pos} {as : MA} {k j n : Nat} {m : List Dt → Hd → R Dt}
theorem qe_cv (i : Nat) (C : Callee X.prog X.w X.K X.mg X.base k c n [] m) (hr : Room j X.A) (hk : k ≤ j) (tk : Takes X Wx) (ha : QA X Wx (e :: es) as) (hN : X.N[i]? = some x := by rfl) (hv : Vis X.env.scope x := by first | exact Or.inl rfl | exact Or.inr (Or.inl rfl) | exact Or.inr (Or.inr rfl))
    (hdb : (x == ("__debug__" : Str)) = false := by decide) (hcd : (x == ("__classdict__" : Str)) = false := by decide) (he : starEach (e :: es) X.env = (false, eval e X.env) :: starEach es X.env := by rfl) (hpl : (backTo pos (starEach es X.env)).any (·.1) = false := by rfl) :
    QE X Wx (.Call (.Name x p) (e :: es) [] pos) (mCallV i c n m as) := by
  obtain ⟨f, fd, ps, dvs, dsV, F, hm, kp, hb, hd, hdd⟩ := C
  obtain ⟨t, q, sa⟩ := ha
  refine ⟨_, pe_callL (i := i) (E := fun _ _ _ => False) F (hr.mono hk) hN hv kp hb hd (fun pins σ H s e s' I z => by
    obtain ⟨_, _, _, _, _, _, _, _, _, _, _, _, z⟩ := z
    exact z.elim) q hdb hcd he hpl, ?_⟩
  · intro h H0 H s σ ρ Q g S pp
    unfold mCallV at pp
    split at pp
    · rename_i c' ei
      by_cases cc : c' = c
      · rw [if_pos cc] at pp
        subst cc
        obtain ⟨v, ev, dv⟩ := S.dat ei
        cases dv with
        | fn hm2 =>
          rw [hm] at hm2
          cases hm2
          refine ⟨ev, sa h H0 H s σ ρ _ g S (Post.bind pp fun ds s1 xs A B st g1 dx p1 => ?_)⟩
          by_cases c2 : ds.length = n
          · rw [if_pos c2] at p1
            have dx2 := dx.append (hdd h.a A)
            rw [List.append_nil] at dx2
            refine ⟨by rw [dx2.len]; exact c2, h.a, A, s1, ds, g1, dx2, ?_⟩
            cases hm : m ds s1 with
            | ok d s2 =>
              rw [hm] at p1
              exact p1
            | err cc fs ρ' s2 =>
              rw [hm] at p1
              exact p1.elim
            | bad =>
              rw [hm] at p1
              exact p1.elim
          · rw [if_neg c2] at p1
            exact p1.elim
      · rw [if_neg cc] at pp
        exact pp.elim
    · exact pp.elim
end
end Mir


set_option Elab.async false
set_option linter.all false
set_option maxRecDepth 100000
/-! Calls of defs in which a repr is asked. -/
namespace Mir
open PySem PySem.Spec PyProof.Rows L2
open PySem.W (Frag)
def CalleeG (P : Program) (w : World) (K : Frag) (mg : Str → Option Value) (base : Heap) (k : Nat) (x : Str) (n : Nat) (m : List Dt → Hd → R Dt) : Prop :=
  ∃ (f : Addr) (fd : FuncData) (ps : List Str), FnG P w K mg base k f fd ps (spM K mg n m) ∧ mg x = some (.ref f) ∧ PySem.W.keepIn K (.ref f) = true ∧ Binds K fd ps []
def mCallG (n : Nat) (m : List Dt → Hd → R Dt) (as : MA) : ME := fun ρ s => (as ρ s).bind fun ds s1 => if ds.length = n then (match m ds s1 with
    | .ok d s2 => .ok d s2
    | _ => .bad) else .bad
section
variable {X : Cx} {Wx : WX} {e : Expr} {es : List Expr} {x : Str} {p pos : Pos} {as : MA} {k j n : Nat} {m : List Dt → Hd → R Dt} {f : Addr} {fd : FuncData} {ps : List Str} {sp : Sp} {t : TA}
/-- no error comes out -/
def noX : XK := fun _ _ _ => False
theorem run_G {pl : List (Addr × Obj)} {σ : L2.St} {H : Hp} {s0 : Shared} {Z : VK} {ws : List Value} {xs : List V} (FG : FnG X.prog X.w X.K X.mg X.base k f fd ps sp) (gd : X.A.guards = some []) (room : Room k X.A) (bi : Binds X.K fd ps [])
    (I0 : Inv X pl σ H s0) (rel : Vals xs ws) (pr : sp xs H Z noX) : wpAny (model X.prog X.w) X.A (call (.ref f) ws) (EP X pl σ Z) X.xe s0 := by
  have hn : ws.length = ps.length := by rw [← rel.length]; exact FG.len _ _ _ _ pr
  have bd : BindsTo s0 fd ⟨ws, []⟩ (ps.zip ws) := by
    have q := bi s0 ws I0.kIn (by simpa using hn)
    simpa using q
  refine wpAny_call (codeAny_mono (FG.run X.A X.stack s0 H ⟨ws, []⟩ ws xs Z noX gd room I0.env0 bd rel pr) fun out s1 done => ?_)
  match out, done with
  | .error er, done =>
    obtain ⟨_, _, _, _, _, _, _, _, _, _, _, _, none⟩ := done
    exact none.elim
  | .ok (.ret u), done => exact I0.after done
  | .ok .next, done => exact done.elim
  | .ok .brk, done => exact done.elim
  | .ok .cont, done => exact done.elim
theorem qe_cg (C : CalleeG X.prog X.w X.K X.mg X.base k x n m) (gd : X.A.guards = some []) (room : Room j X.A) (kj : k ≤ j) (args : QA X Wx (e :: es) as) (hg : Gl X x := by rfl) (hdb : (x == ("__debug__" : Str)) = false := by decide)
    (hst : starEach (e :: es) X.env = (false, eval e X.env) :: starEach es X.env := by rfl) (hno : (backTo pos (starEach es X.env)).any (·.1) = false := by rfl) : QE X Wx (.Call (.Name x p) (e :: es) [] pos) (mCallG n m as) := by
  obtain ⟨f, fd, ps, FG, hm, kp, bi⟩ := C
  obtain ⟨t, q, sa⟩ := args
  refine ⟨fun σ H Q => t σ H fun vs H1 => spM X.K X.mg n m vs H1 Q noX, ⟨fun pins s σ H Q I0 h => ?_⟩, ?_⟩
  · apply wpAny_Call_Name_kw
    apply ld_glob I0 hg hm _ hdb
    apply PySem.W.callWith_K (h₀ := X.base) I0.ok.mod.kin kp _ hst hno
    refine thn (q.run pos pins s σ H _ I0 h) fun ws s1 got => ?_
    obtain ⟨vs, H1, I1, rel, pr⟩ := got
    exact ⟨I1.kIn, run_G FG gd (room.mono kj) bi I1 rel pr⟩
  · intro h H0 H s σ ρ Q g S pp
    refine sa h H0 H s σ ρ _ g S (Post.bind pp fun ds s1 xs A B st g1 dx p1 => ?_)
    by_cases c2 : ds.length = n
    · rw [if_pos c2] at p1
      refine ⟨by rw [dx.len]; exact c2, h.a, A, s1, ds, g1, dx, ?_⟩
      cases hm : m ds s1 with
      | ok d s2 =>
        rw [hm] at p1
        exact p1
      | err cc fs ρ' s2 =>
        rw [hm] at p1
        exact p1.elim
      | bad =>
        rw [hm] at p1
        exact p1.elim
    · rw [if_neg c2] at p1
      exact p1.elim
end
end Mir


set_option Elab.async false
set_option linter.all false
/-! Mathematics for the laws: kinds of data, sizes, lowest terms. -/
namespace Mir
open PySem PySem.Spec PyProof.Rows L2

/-! ### isinstance of plain data -/
theorem kit_table : kitB "int" "int" = some true ∧ kitB "bool" "int" = some true ∧ kitB "NoneType" "int" = some false ∧ kitB "str" "int" = some false ∧ kitB "tuple" "int" = some false ∧ kitB "list" "int" = some false ∧
    kitB "int" "bool" = some false ∧ kitB "bool" "bool" = some true ∧ kitB "NoneType" "bool" = some false ∧ kitB "str" "bool" = some false ∧ kitB "tuple" "bool" = some false ∧ kitB "list" "bool" = some false ∧
    kitB "int" "tuple" = some false ∧ kitB "bool" "tuple" = some false ∧ kitB "NoneType" "tuple" = some false ∧ kitB "str" "tuple" = some false ∧ kitB "tuple" "tuple" = some true ∧ kitB "list" "tuple" = some false := by decide +kernel
theorem kit_table2 : kitB "int" "list" = some false ∧ kitB "bool" "list" = some false ∧ kitB "NoneType" "list" = some false ∧ kitB "str" "list" = some false ∧ kitB "tuple" "list" = some false ∧ kitB "list" "list" = some true ∧
    kitB "int" "str" = some false ∧ kitB "bool" "str" = some false ∧ kitB "NoneType" "str" = some false ∧ kitB "str" "str" = some true ∧ kitB "tuple" "str" = some false ∧ kitB "list" "str" = some false := by decide +kernel
theorem kit_table3 : kitB "dict" "int" = some false ∧ kitB "dict" "bool" = some false ∧ kitB "dict" "tuple" = some false ∧ kitB "dict" "list" = some false ∧ kitB "dict" "str" = some false := by decide +kernel
@[simp] theorem isi_int (d : Dt) : fIsi "int" d = (match d with | .int _ => some true | .bl _ => some true | .obj _ _ => none | .hnd => none | .fn _ => none | _ => some false) := by
  obtain ⟨a1, a2, a3, a4, a5, a6, _⟩ := kit_table
  obtain ⟨d1, d2, d3, d4, d5⟩ := kit_table3
  cases d <;> first | rfl | assumption
@[simp] theorem isi_bool (d : Dt) : fIsi "bool" d = (match d with | .bl _ => some true | .obj _ _ => none | .hnd => none | .fn _ => none | _ => some false) := by
  obtain ⟨_, _, _, _, _, _, a1, a2, a3, a4, a5, a6, _⟩ := kit_table
  obtain ⟨d1, d2, d3, d4, d5⟩ := kit_table3
  cases d <;> first | rfl | assumption
@[simp] theorem isi_tuple (d : Dt) : fIsi "tuple" d = (match d with | .tup _ => some true | .obj _ _ => none | .hnd => none | .fn _ => none | _ => some false) := by
  obtain ⟨_, _, _, _, _, _, _, _, _, _, _, _, a1, a2, a3, a4, a5, a6⟩ := kit_table
  obtain ⟨d1, d2, d3, d4, d5⟩ := kit_table3
  cases d <;> first | rfl | assumption
@[simp] theorem isi_list (d : Dt) : fIsi "list" d = (match d with | .lst _ => some true | .obj _ _ => none | .hnd => none | .fn _ => none | _ => some false) := by
  obtain ⟨a1, a2, a3, a4, a5, a6, _⟩ := kit_table2
  obtain ⟨d1, d2, d3, d4, d5⟩ := kit_table3
  cases d <;> first | rfl | assumption
@[simp] theorem isi_str (d : Dt) : fIsi "str" d = (match d with | .str _ => some true | .obj _ _ => none | .hnd => none | .fn _ => none | _ => some false) := by
  obtain ⟨_, _, _, _, _, _, a1, a2, a3, a4, a5, a6⟩ := kit_table2
  obtain ⟨d1, d2, d3, d4, d5⟩ := kit_table3
  cases d <;> first | rfl | assumption

/-! ### sizes -/
def Sz (n : Nat) (i : Int) : Prop := i.natAbs < 2 ^ n
theorem Sz.mono {m n : Nat} {i : Int} (h : Sz m i) (e : m ≤ n) : Sz n i := Nat.lt_of_lt_of_le h (Nat.pow_le_pow_right (by decide) e)
theorem Sz.mul {m n : Nat} {i j : Int} (a : Sz m i) (b : Sz n j) : Sz (m + n) (i * j) := wide_lt a b
theorem Sz.add {m : Nat} {i j : Int} (a : Sz m i) (b : Sz m j) : Sz (m + 1) (i + j) := by
  unfold Sz at *
  have := Int.natAbs_add_le i j
  rw [Nat.pow_succ]
  omega
theorem Sz.neg {m : Nat} {i : Int} (a : Sz m i) : Sz m (-i) := by
  unfold Sz at *
  rw [Int.natAbs_neg]
  exact a
theorem Sz.sub {m : Nat} {i j : Int} (a : Sz m i) (b : Sz m j) : Sz (m + 1) (i - j) := by
  rw [Int.sub_eq_add_neg]
  exact a.add b.neg
theorem Sz.le {m : Nat} {i j : Int} (a : Sz m j) (h : i.natAbs ≤ j.natAbs) : Sz m i := Nat.lt_of_le_of_lt h a
theorem MulOk.of {m n : Nat} {i j : Int} (a : Sz m i) (b : Sz n j) (h : m + n ≤ 900000) : MulOk i j := by
  have a' := a.mono (Nat.le_succ m)
  have b' := b.mono (Nat.le_succ n)
  exact wide_mul a' b' (Nat.succ_pos _) (Nat.succ_pos _) (by omega)
theorem DivOk.of {n : Nat} {j : Int} (h0 : j ≠ 0) (a : Sz n j) (h : n ≤ 8900) : DivOk j :=
  ⟨h0, Nat.lt_of_lt_of_le (PySem.Flt.log2_lt_of (Nat.succ_pos n) (a.mono (Nat.le_succ n))) (by omega)⟩

/-! ### lowest terms -/
def sgcd (t b : Int) : Int := if b < 0 then -((Nat.gcd t.natAbs b.natAbs : Nat) : Int) else ((Nat.gcd t.natAbs b.natAbs : Nat) : Int)
def lowT (t b : Int) : Int := t.fdiv (sgcd t b)
def lowB (t b : Int) : Int := b.fdiv (sgcd t b)
abbrev rat (a b : Int) : Dt := .tup [.int a, .int b]
def low (t b : Int) : Dt := rat (lowT t b) (lowB t b)
theorem gcd_pos {t b : Int} (h : b ≠ 0) : 0 < Nat.gcd t.natAbs b.natAbs := Nat.gcd_pos_of_pos_right _ (by omega)
theorem sgcd_ne {t b : Int} (h : b ≠ 0) : sgcd t b ≠ 0 := by
  have := gcd_pos (t := t) h
  unfold sgcd
  split <;> omega
theorem sgcd_abs (t b : Int) : (sgcd t b).natAbs = Nat.gcd t.natAbs b.natAbs := by
  unfold sgcd
  split <;> omega
theorem sgcd_dvd_t (t b : Int) : sgcd t b ∣ t := by
  rw [← Int.natAbs_dvd_natAbs, sgcd_abs]
  exact Nat.gcd_dvd_left _ _
theorem sgcd_dvd_b (t b : Int) : sgcd t b ∣ b := by
  rw [← Int.natAbs_dvd_natAbs, sgcd_abs]
  exact Nat.gcd_dvd_right _ _
theorem low_t {t b : Int} : lowT t b * sgcd t b = t := by
  unfold lowT
  rw [Int.fdiv_eq_ediv_of_dvd (sgcd_dvd_t t b)]
  exact Int.ediv_mul_cancel (sgcd_dvd_t t b)
theorem low_b {t b : Int} : lowB t b * sgcd t b = b := by
  unfold lowB
  rw [Int.fdiv_eq_ediv_of_dvd (sgcd_dvd_b t b)]
  exact Int.ediv_mul_cancel (sgcd_dvd_b t b)
theorem lowT_abs {t b : Int} (h : b ≠ 0) : (lowT t b).natAbs ≤ t.natAbs := by
  have e : (lowT t b).natAbs * (sgcd t b).natAbs = t.natAbs := by rw [← Int.natAbs_mul, low_t]
  have p : 0 < (sgcd t b).natAbs := by rw [sgcd_abs]; exact gcd_pos h
  rw [← e]
  exact Nat.le_mul_of_pos_right _ p
theorem lowB_abs {t b : Int} (h : b ≠ 0) : (lowB t b).natAbs ≤ b.natAbs := by
  have e : (lowB t b).natAbs * (sgcd t b).natAbs = b.natAbs := by rw [← Int.natAbs_mul, low_b]
  have p : 0 < (sgcd t b).natAbs := by rw [sgcd_abs]; exact gcd_pos h
  calc (lowB t b).natAbs ≤ (lowB t b).natAbs * (sgcd t b).natAbs := Nat.le_mul_of_pos_right _ p
    _ = b.natAbs := e
theorem lowB_pos {t b : Int} (h : b ≠ 0) : 0 < lowB t b := by
  have e := low_b (t := t) (b := b)
  have p := gcd_pos (t := t) h
  have hs : (0 < b → 0 < sgcd t b) ∧ (b < 0 → sgcd t b < 0) := by
    unfold sgcd
    constructor <;> intro z
    · rw [if_neg (by omega)]
      omega
    · rw [if_pos z]
      omega
  rcases Int.lt_trichotomy b 0 with z | z | z
  · have q := hs.2 z
    rcases (Int.lt_or_le 0 (lowB t b)) with w | w
    · exact w
    · have := Int.mul_nonneg_of_nonpos_of_nonpos w (Int.le_of_lt q)
      omega
  · exact absurd z h
  · have q := hs.1 z
    rcases (Int.lt_or_le 0 (lowB t b)) with w | w
    · exact w
    · have := Int.mul_nonpos_of_nonpos_of_nonneg w (Int.le_of_lt q)
      omega
theorem low_gcd {t b : Int} (h : b ≠ 0) : Nat.gcd (lowT t b).natAbs (lowB t b).natAbs = 1 := by
  have e1 : (lowT t b).natAbs * (sgcd t b).natAbs = t.natAbs := by rw [← Int.natAbs_mul, low_t]
  have e2 : (lowB t b).natAbs * (sgcd t b).natAbs = b.natAbs := by rw [← Int.natAbs_mul, low_b]
  have p : 0 < (sgcd t b).natAbs := by rw [sgcd_abs]; exact gcd_pos h
  have e3 : Nat.gcd t.natAbs b.natAbs = Nat.gcd (lowT t b).natAbs (lowB t b).natAbs * (sgcd t b).natAbs := by rw [← Nat.gcd_mul_right, e1, e2]
  rw [← sgcd_abs] at e3
  have e4 : 1 * (sgcd t b).natAbs = Nat.gcd (lowT t b).natAbs (lowB t b).natAbs * (sgcd t b).natAbs := by rw [Nat.one_mul]; exact e3
  exact (Nat.eq_of_mul_eq_mul_right p e4).symm
/-- a ratio in lowest terms -/
structure IsR (a b : Int) : Prop where
  pos : 0 < b
  co : Nat.gcd a.natAbs b.natAbs = 1
theorem low_is {t b : Int} (h : b ≠ 0) : IsR (lowT t b) (lowB t b) := ⟨lowB_pos h, low_gcd h⟩
/-! ### stepping -/
theorem seq_nx {a b : MS} {ρ ρ' : Env'} {s s' : Hd} (h : a ρ s = .ok (.nx ρ') s') : mSeq a b ρ s = b ρ' s' := by
  unfold mSeq
  rw [h]
theorem seq_rt {a b : MS} {ρ : Env'} {d : Dt} {s s' : Hd} (h : a ρ s = .ok (.rt d) s') : mSeq a b ρ s = .ok (.rt d) s' := by
  unfold mSeq
  rw [h]
theorem def_rt {n : Nat} {b : MS} {ds : List Dt} {d : Dt} {s s' : Hd} (h : b (startE n ds) s = .ok (.rt d) s') : mDef n b ds s = .ok d s' := by
  unfold mDef
  rw [h]
theorem for_of {g : GM} {it : MA} {body : MS} {ρ : Env'} {s s' : Hd} {ds : List Dt} (h : it ρ s = .ok ds s') : mFor g it body ρ s = loopF g body ds ρ s' := by
  unfold mFor
  rw [h]
  rfl
theorem lc_of {g : GM} {it : MA} {t : MT} {a : ME} {vs : List Nat} {ρ : Env'} {s s' : Hd} {ds : List Dt} (h : it ρ s = .ok ds s') : mLc g it t a vs ρ s = loopC g t a vs ds [] ρ s' := by
  unfold mLc
  rw [h]
  rfl
end Mir


set_option Elab.async false
set_option linter.all false
/-! Ratios in lowest terms are the core's rational numbers. -/
namespace Mir
open PySem PySem.Spec PyProof.Rows L2
abbrev tp (q : Rat) : Int := q.num
abbrev bt (q : Rat) : Int := (q.den : Int)
/-- a rational number as the program writes it -/
abbrev dq (q : Rat) : Dt := rat q.num (q.den : Int)
theorem bt_pos (q : Rat) : (0 : Int) < (q.den : Int) := by
  have := q.den_pos
  omega
theorem bt_ne (q : Rat) : (q.den : Int) ≠ 0 := Int.ne_of_gt (bt_pos q)
theorem dq_is (q : Rat) : IsR q.num (q.den : Int) := ⟨bt_pos q, by rw [Int.natAbs_natCast]; exact q.reduced⟩
theorem rat_of {a b : Int} (h : IsR a b) : ∃ q : Rat, q.num = a ∧ (q.den : Int) = b ∧ q = Rat.divInt a b := by
  have hb : (((b.natAbs : Nat)) : Int) = b := by
    have := h.pos
    omega
  have e := Rat.num_divInt_den ⟨a, b.natAbs, by have := h.pos; omega, h.co⟩
  refine ⟨⟨a, b.natAbs, by have := h.pos; omega, h.co⟩, rfl, hb, ?_⟩
  rw [← e]
  simp only
  rw [hb]
theorem low_val (t b : Int) (h : b ≠ 0) : ∃ q : Rat, q.num = lowT t b ∧ (q.den : Int) = lowB t b ∧ q = Rat.divInt t b := by
  obtain ⟨q, e1, e2, e3⟩ := rat_of (low_is (t := t) h)
  refine ⟨q, e1, e2, e3.trans ?_⟩
  rw [Rat.divInt_eq_divInt_iff (Int.ne_of_gt (lowB_pos h)) h]
  have x := low_t (t := t) (b := b)
  have y := low_b (t := t) (b := b)
  have g0 := sgcd_ne (t := t) h
  refine Int.eq_of_mul_eq_mul_right g0 ?_
  generalize lowT t b = u at *
  generalize lowB t b = v at *
  generalize sgcd t b = w at *
  grind
theorem low_dq (t b : Int) (h : b ≠ 0) : low t b = dq (Rat.divInt t b) := by
  obtain ⟨q, e1, e2, e3⟩ := low_val t b h
  unfold low
  rw [← e1, ← e2, e3]
theorem divInt_eq {t b : Int} (h : b ≠ 0) : Rat.divInt t b = (t : Rat) / (b : Rat) := Rat.divInt_eq_div t b
theorem q_eq (q : Rat) : q = (q.num : Rat) / ((q.den : Int) : Rat) := by
  rw [← Rat.divInt_eq_div]
  exact (Rat.num_divInt_den q).symm
theorem cast_ne {b : Int} (h : b ≠ 0) : (b : Rat) ≠ 0 := by
  intro e
  exact h (Rat.intCast_inj.mp (by rw [e]; rfl))
theorem low_add (p q : Rat) : low (p.num * (q.den : Int) + q.num * (p.den : Int)) ((p.den : Int) * (q.den : Int)) = dq (p + q) := by
  have h : (p.den : Int) * (q.den : Int) ≠ 0 := Int.mul_ne_zero (bt_ne p) (bt_ne q)
  rw [low_dq _ _ h, divInt_eq h]
  have e1 := q_eq p
  have e2 := q_eq q
  have n1 := cast_ne (bt_ne p)
  have n2 := cast_ne (bt_ne q)
  congr 1
  rw [Rat.intCast_add, Rat.intCast_mul, Rat.intCast_mul, Rat.intCast_mul]
  generalize hp1 : ((p.num : Int) : Rat) = a at *
  generalize hp2 : (((p.den : Int)) : Rat) = b at *
  generalize hq1 : ((q.num : Int) : Rat) = c at *
  generalize hq2 : (((q.den : Int)) : Rat) = d at *
  grind
theorem low_sub (p q : Rat) : low (p.num * (q.den : Int) - q.num * (p.den : Int)) ((p.den : Int) * (q.den : Int)) = dq (p - q) := by
  have h : (p.den : Int) * (q.den : Int) ≠ 0 := Int.mul_ne_zero (bt_ne p) (bt_ne q)
  rw [low_dq _ _ h, divInt_eq h]
  have e1 := q_eq p
  have e2 := q_eq q
  have n1 := cast_ne (bt_ne p)
  have n2 := cast_ne (bt_ne q)
  congr 1
  rw [Rat.intCast_sub, Rat.intCast_mul, Rat.intCast_mul, Rat.intCast_mul]
  generalize hp1 : ((p.num : Int) : Rat) = a at *
  generalize hp2 : (((p.den : Int)) : Rat) = b at *
  generalize hq1 : ((q.num : Int) : Rat) = c at *
  generalize hq2 : (((q.den : Int)) : Rat) = d at *
  grind
theorem low_mul' (p q : Rat) : low (p.num * q.num) ((p.den : Int) * (q.den : Int)) = dq (p * q) := by
  have h : (p.den : Int) * (q.den : Int) ≠ 0 := Int.mul_ne_zero (bt_ne p) (bt_ne q)
  rw [low_dq _ _ h, divInt_eq h]
  have e1 := q_eq p
  have e2 := q_eq q
  have n1 := cast_ne (bt_ne p)
  have n2 := cast_ne (bt_ne q)
  congr 1
  rw [Rat.intCast_mul, Rat.intCast_mul]
  generalize hp1 : ((p.num : Int) : Rat) = a at *
  generalize hp2 : (((p.den : Int)) : Rat) = b at *
  generalize hq1 : ((q.num : Int) : Rat) = c at *
  generalize hq2 : (((q.den : Int)) : Rat) = d at *
  grind
theorem num_ne {q : Rat} (h : q ≠ 0) : q.num ≠ 0 := fun e => h (Rat.num_eq_zero.mp e)
theorem low_div (p q : Rat) (hq : q ≠ 0) : low (p.num * (q.den : Int)) ((p.den : Int) * q.num) = dq (p / q) := by
  have h : (p.den : Int) * q.num ≠ 0 := Int.mul_ne_zero (bt_ne p) (num_ne hq)
  rw [low_dq _ _ h, divInt_eq h]
  have e1 := q_eq p
  have e2 := q_eq q
  have n1 := cast_ne (bt_ne p)
  have n2 := cast_ne (bt_ne q)
  have n3 := cast_ne (num_ne hq)
  congr 1
  rw [Rat.intCast_mul, Rat.intCast_mul]
  generalize hp1 : ((p.num : Int) : Rat) = a at *
  generalize hp2 : (((p.den : Int)) : Rat) = b at *
  generalize hq1 : ((q.num : Int) : Rat) = c at *
  generalize hq2 : (((q.den : Int)) : Rat) = d at *
  grind
theorem low_frac (t b : Int) (h : b ≠ 0) : low t b = dq ((t : Rat) / (b : Rat)) := by rw [low_dq _ _ h, divInt_eq h]
theorem neg_dq (q : Rat) : rat (-q.num) (q.den : Int) = dq (-q) := rfl
theorem dq_inj {p q : Rat} : dq p = dq q ↔ p = q := by
  constructor
  · intro h
    injection h with h
    injection h with h1 h2
    injection h1 with h1
    injection h2 with h2
    injection h2 with h2
    exact Rat.ext h1 (Int.ofNat_inj.mp h2)
  · intro h
    rw [h]
theorem dq_beq (p q : Rat) : ((p.num == q.num) && ((p.den : Int) == (q.den : Int))) = decide (p = q) := by
  by_cases h : p = q
  · rw [h]
    simp
  · rw [decide_eq_false h]
    by_cases c : p.num = q.num
    · by_cases c2 : p.den = q.den
      · exact absurd (Rat.ext c c2) h
      · have c3 : ¬ ((p.den : Int) = (q.den : Int)) := fun e => c2 (Int.ofNat_inj.mp e)
        have c4 : ((p.den : Int) == (q.den : Int)) = false := beq_eq_false_iff_ne.mpr c3
        rw [c4, Bool.and_false]
    · have c4 : (p.num == q.num) = false := beq_eq_false_iff_ne.mpr c
      rw [c4, Bool.false_and]
theorem lt_dq (p q : Rat) : p.num * (q.den : Int) < q.num * (p.den : Int) ↔ p < q := (Rat.lt_iff p q).symm
theorem dq_zero : dq 0 = rat 0 1 := rfl
theorem dq_one : dq 1 = rat 1 1 := rfl
theorem dq_int (i : Int) : dq (i : Rat) = rat i 1 := rfl
/-- how many figures -/
structure Bd (n : Nat) (q : Rat) : Prop where
  t : Sz n q.num
  b : Sz n (q.den : Int)
theorem Bd.mono {m n : Nat} {q : Rat} (h : Bd m q) (e : m ≤ n) : Bd n q := ⟨h.t.mono e, h.b.mono e⟩
theorem Bd.frac {n : Nat} {t b : Int} (h : b ≠ 0) (ht : Sz n t) (hb : Sz n b) : Bd n ((t : Rat) / (b : Rat)) := by
  obtain ⟨q, e1, e2, e3⟩ := low_val t b h
  rw [divInt_eq h] at e3
  rw [← e3]
  exact ⟨by rw [e1]; exact ht.le (lowT_abs h), by rw [e2]; exact hb.le (lowB_abs h)⟩
theorem Bd.of {n : Nat} {t b : Int} {q : Rat} (h : b ≠ 0) (ht : Sz n t) (hb : Sz n b) (e : low t b = dq q) : Bd n q := by
  rw [low_frac t b h] at e
  rw [← dq_inj.mp e]
  exact Bd.frac h ht hb
theorem Bd.add {m n : Nat} {p q : Rat} (a : Bd m p) (b : Bd n q) : Bd (m + n + 1) (p + q) :=
  Bd.of (Int.mul_ne_zero (bt_ne p) (bt_ne q)) ((a.t.mul b.b).add ((b.t.mul a.b).mono (by omega))) ((a.b.mul b.b).mono (by omega)) (low_add p q)
theorem Bd.sub {m n : Nat} {p q : Rat} (a : Bd m p) (b : Bd n q) : Bd (m + n + 1) (p - q) :=
  Bd.of (Int.mul_ne_zero (bt_ne p) (bt_ne q)) ((a.t.mul b.b).sub ((b.t.mul a.b).mono (by omega))) ((a.b.mul b.b).mono (by omega)) (low_sub p q)
theorem Bd.mul {m n : Nat} {p q : Rat} (a : Bd m p) (b : Bd n q) : Bd (m + n) (p * q) :=
  Bd.of (Int.mul_ne_zero (bt_ne p) (bt_ne q)) (a.t.mul b.t) (a.b.mul b.b) (low_mul' p q)
theorem Bd.div {m n : Nat} {p q : Rat} (h : q ≠ 0) (a : Bd m p) (b : Bd n q) : Bd (m + n) (p / q) :=
  Bd.of (Int.mul_ne_zero (bt_ne p) (num_ne h)) (a.t.mul b.b) (a.b.mul b.t) (low_div p q h)
theorem Bd.neg {m : Nat} {p : Rat} (a : Bd m p) : Bd m (-p) := ⟨a.t.neg, a.b⟩
end Mir


set_option Elab.async false
set_option linter.all false
namespace Mir
open PySem PySem.Spec PyProof.Rows L2
/-! Lists: comprehensions and loops that go through a list of known things -/
section
variable {α : Type} {g : GM} {t : MT} {a : ME} {vs : List Nat} {ρ : Env'} {s : Hd}
/-- a comprehension that changes no state -/
theorem lc_some (dv f : α → Dt) (c : α → Bool) : ∀ (xs : List α) (acc : List Dt), acc.length + xs.length ≤ 100000 →
    (∀ x ∈ xs, ∃ ρ1, g (dv x) (wipeE ρ vs) = some ρ1 ∧ t ρ1 s = .ok (c x) s ∧ (c x = true → a ρ1 s = .ok (f x) s)) →
    loopC g t a vs (xs.map dv) acc ρ s = .ok (.lst (acc ++ (xs.filter c).map f)) s
  | [], acc, _, _ => by simp [loopC]
  | x :: xs, acc, hl, hx => by
    obtain ⟨ρ1, e1, e2, e3⟩ := hx x List.mem_cons_self
    have hl2 : acc.length + (xs.length + 1) ≤ 100000 := hl
    rw [List.map_cons]
    unfold loopC
    rw [e1]
    simp only [e2, noErr, R.bind]
    cases hc : c x with
    | true =>
      have so : sizeOk acc.length := by unfold sizeOk; omega
      simp only [if_pos, e3 hc, noErr, R.bind, if_pos so]
      rw [lc_some dv f c xs (acc ++ [f x]) (by rw [List.length_append]; simp; omega) (fun y hy => hx y (List.mem_cons_of_mem _ hy)), List.filter_cons, if_pos hc]
      simp
    | false =>
      simp only [Bool.false_eq_true, if_false]
      rw [lc_some dv f c xs acc (by omega) (fun y hy => hx y (List.mem_cons_of_mem _ hy)), List.filter_cons, if_neg (by simp [hc])]
theorem lc_map (dv f : α → Dt) (xs : List α) (hl : xs.length ≤ 100000) (hx : ∀ x ∈ xs, ∃ ρ1, g (dv x) (wipeE ρ vs) = some ρ1 ∧ a ρ1 s = .ok (f x) s) :
    loopC g mYes a vs (xs.map dv) [] ρ s = .ok (.lst (xs.map f)) s := by
  rw [lc_some (t := mYes) dv f (fun _ => true) xs [] (by simpa using hl) (fun x h => let ⟨ρ1, e1, e2⟩ := hx x h; ⟨ρ1, e1, rfl, fun _ => e2⟩), List.filter_eq_self.2 (fun _ _ => rfl)]
  simp
theorem lc_range {lo : Int} {n : Nat} (f : Nat → Dt) (hl : n ≤ 100000) (hx : ∀ j : Nat, j < n → ∃ ρ1, g (.int (lo + j)) (wipeE ρ vs) = some ρ1 ∧ a ρ1 s = .ok (f j) s) :
    loopC g mYes a vs (rangeD lo n) [] ρ s = .ok (.lst ((List.range n).map f)) s := by
  unfold rangeD
  exact lc_map _ f (List.range n) (by rw [List.length_range]; exact hl) (fun j h => hx j (List.mem_range.1 h))
theorem rng_nat {n : Nat} (h : n ≤ 1000) : rngOk (n : Int) := ⟨by omega, by omega⟩
theorem rng1_of {b : ME} {s' : Hd} {i : Int} (n : Nat) (h : b ρ s = .ok (.int i) s') (e : i = (n : Int)) (hn : n ≤ 1000) : mRng1 b ρ s = .ok (rangeD 0 n) s' := by
  have k : rngOk i := by rw [e]; exact rng_nat hn
  have t : i.toNat = n := by omega
  clear e
  unfold mRng1
  rw [h]
  simp only [R.bind]
  rw [if_pos k, t]
theorem rng2_of {b c : ME} {s1 s' : Hd} {i j : Int} (n : Nat) (h : b ρ s = .ok (.int i) s1) (h2 : c ρ s1 = .ok (.int j) s') (e : j = i + (n : Int)) (h0 : -1000 ≤ i) (h1 : i ≤ 1000) (hn : n ≤ 1000) : mRng2 b c ρ s = .ok (rangeD i n) s' := by
  have k : rngOk i := ⟨by omega, by omega⟩
  have k2 : rngOk j := ⟨by omega, by omega⟩
  have t : (j - i).toNat = n := by omega
  clear e
  unfold mRng2
  rw [h]
  simp only [R.bind]
  rw [h2]
  simp only [R.bind]
  rw [if_pos ⟨k, k2⟩, t]
/-- these speak of any expression: the kernel never evaluates it (a range of unknown length must not be evaluated) -/
theorem ret_of {c : ME} {d : Dt} {s' : Hd} (h : c ρ s = .ok d s') : mRet c ρ s = .ok (.rt d) s' := by
  unfold mRet
  rw [h]
  rfl
theorem tup_of {c : ME} {ds : List Dt} {s' : Hd} (h : c ρ s = .ok (.lst ds) s') : mCB fTupC (mCons c mNil) ρ s = .ok (.tup ds) s' := by
  simp only [mCB, mCons, mNil, h, R.bind, fTupC, liftO]
theorem all_of {c : ME} {bs : List Bool} {s' : Hd} (h : c ρ s = .ok (.lst (bs.map Dt.bl)) s') : mCB fAll (mCons c mNil) ρ s = .ok (.bl (bs.all id)) s' := by
  have e : ∀ l : List Bool, boolsD (l.map Dt.bl) = some l := by
    intro l
    induction l with
    | nil => rfl
    | cons b l ih => simp [boolsD, ih]
  simp only [mCB, mCons, mNil, h, R.bind, fAll, e, Option.map, liftO]
/-- a comprehension of which each turn takes from the hand -/
theorem lc_hand (dv : α → Dt) (P : α → Dt → Prop) : ∀ (xs : List α) (acc : List Dt) (s : Hd), acc.length + xs.length ≤ 100000 →
    (∀ x ∈ xs, ∀ s, ∃ ρ1 d s', g (dv x) (wipeE ρ vs) = some ρ1 ∧ a ρ1 s = .ok d s' ∧ P x d) →
    ∃ ds s', loopC g mYes a vs (xs.map dv) acc ρ s = .ok (.lst (acc ++ ds)) s' ∧ ds.length = xs.length ∧ ∀ (i : Nat) (x : α) (d : Dt), xs[i]? = some x → ds[i]? = some d → P x d
  | [], acc, s, _, _ => ⟨[], s, by simp [loopC], rfl, fun i x d e => by simp at e⟩
  | x :: xs, acc, s, hl, hx => by
    obtain ⟨ρ1, d, s', e1, e2, e3⟩ := hx x List.mem_cons_self s
    have hl2 : acc.length + (xs.length + 1) ≤ 100000 := hl
    have so : sizeOk acc.length := by unfold sizeOk; omega
    obtain ⟨ds, s2, h1, h2, h3⟩ := lc_hand dv P xs (acc ++ [d]) s' (by rw [List.length_append]; simp; omega) (fun y hy => hx y (List.mem_cons_of_mem _ hy))
    refine ⟨d :: ds, s2, ?_, by simp [h2], fun i y z ey ez => ?_⟩
    · rw [List.map_cons]
      unfold loopC
      rw [e1]
      simp only [mYes, noErr, R.bind, if_pos, e2, if_pos so]
      rw [h1]
      simp
    · cases i with
      | zero => simp at ey ez; subst ey; subst ez; exact e3
      | succ i => simp at ey ez; exact h3 i y z ey ez
/-- a loop with what it keeps -/
theorem for_inv {body : MS} (dv : α → Dt) (I : List α → Env' → Hd → Prop) : ∀ (xs pre : List α) (ρ : Env') (s : Hd), I pre ρ s →
    (∀ (p : List α) (x : α) (q : List α) (ρ : Env') (s : Hd), pre ++ xs = p ++ x :: q → I p ρ s → ∃ ρ1 ρ2 s2, g (dv x) ρ = some ρ1 ∧ body ρ1 s = .ok (.nx ρ2) s2 ∧ I (p ++ [x]) ρ2 s2) →
    ∃ ρ' s', loopF g body (xs.map dv) ρ s = .ok (.nx ρ') s' ∧ I (pre ++ xs) ρ' s'
  | [], pre, ρ, s, h0, _ => ⟨ρ, s, rfl, by simpa using h0⟩
  | x :: xs, pre, ρ, s, h0, hs => by
    obtain ⟨ρ1, ρ2, s2, e1, e2, e3⟩ := hs pre x xs ρ s rfl h0
    obtain ⟨ρ', s', h1, h2⟩ := for_inv dv I xs (pre ++ [x]) ρ2 s2 e3 (fun p y q ρ s e i => hs p y q ρ s (by rw [← e]; simp) i)
    refine ⟨ρ', s', ?_, by simpa using h2⟩
    rw [List.map_cons]
    unfold loopF
    rw [e1]
    simp only [e2]
    exact h1
theorem for_range {body : MS} (dv : Nat → Dt) (I : Nat → Env' → Hd → Prop) (n : Nat) (h0 : I 0 ρ s)
    (hs : ∀ (i : Nat) (ρ : Env') (s : Hd), i < n → I i ρ s → ∃ ρ1 ρ2 s2, g (dv i) ρ = some ρ1 ∧ body ρ1 s = .ok (.nx ρ2) s2 ∧ I (i + 1) ρ2 s2) :
    ∃ ρ' s', loopF g body ((List.range n).map dv) ρ s = .ok (.nx ρ') s' ∧ I n ρ' s' := by
  obtain ⟨ρ', s', h1, h2⟩ := for_inv (g := g) (body := body) dv (fun p ρ s => I p.length ρ s) (List.range n) [] ρ s h0 (fun p x q ρ s e i => by
    rw [List.nil_append] at e
    have hx : (List.range n)[p.length]? = some x := by rw [e]; simp
    have hn : p.length < n := by
      have := congrArg List.length e
      simp at this
      omega
    rw [List.getElem?_range hn] at hx
    have ex : x = p.length := by simpa using hx.symm
    subst ex
    obtain ⟨ρ1, ρ2, s2, a1, a2, a3⟩ := hs p.length ρ s hn i
    exact ⟨ρ1, ρ2, s2, a1, a2, by simpa using a3⟩)
  exact ⟨ρ', s', h1, by simpa using h2⟩
end
end Mir


set_option Elab.async false
set_option linter.all false
/-! Steps of expressions and statements, one lemma each, and a tactic that puts them together. -/
namespace Mir
open PySem PySem.Spec PyProof.Rows L2
section
variable {ρ ρ1 ρ2 : Env'} {s s1 s2 s3 s4 : Hd} {d e r : Dt} {ds es : List Dt} {a b : ME} {as : MA} {t t2 : MT} {b1 b2 : MS} {c : Bool} {i j : Nat}
theorem ev_var (h : ρ[i]? = some (.dat d)) : mVar i ρ s = .ok d s := by unfold mVar; rw [h]
theorem ev_c : mC d ρ s = .ok d s := rfl
theorem ev_op {f : Dt → Dt → Option Dt} (h1 : a ρ s = .ok d s1) (h2 : b ρ s1 = .ok e s2) (h3 : f d e = some r) : mOp f a b ρ s = .ok r s2 := by
  unfold mOp; rw [h1]; simp only [R.bind_ok]; rw [h2]; simp only [R.bind_ok]; rw [h3]; rfl
theorem ev_un {f : Dt → Option Dt} (h1 : a ρ s = .ok d s1) (h3 : f d = some r) : mUn f a ρ s = .ok r s1 := by
  unfold mUn; rw [h1]; simp only [R.bind_ok]; rw [h3]; rfl
theorem ev_test (h : a ρ s = .ok (.bl c) s1) : mTest a ρ s = .ok c s1 := by unfold mTest; rw [h]; rfl
theorem ev_tru (h : a ρ s = .ok d s1) (h2 : fTru d = some c) : mTru a ρ s = .ok c s1 := by unfold mTru; rw [h]; simp only [R.bind_ok]; rw [h2]; rfl
theorem ev_not_f (h : t ρ s = .ok true s1) : mNot t ρ s = .ok false s1 := by unfold mNot; rw [h]; rfl
theorem ev_not_t (h : t ρ s = .ok false s1) : mNot t ρ s = .ok true s1 := by unfold mNot; rw [h]; rfl
theorem ev_or_t (h : t ρ s = .ok true s1) : mOr t t2 ρ s = .ok true s1 := by unfold mOr; rw [h]; rfl
theorem ev_or_f (h : t ρ s = .ok false s1) (h2 : t2 ρ s1 = .ok c s2) : mOr t t2 ρ s = .ok c s2 := by unfold mOr; rw [h]; exact h2
theorem ev_and_f (h : t ρ s = .ok false s1) : mAnd t t2 ρ s = .ok false s1 := by unfold mAnd; rw [h]; rfl
theorem ev_and_t (h : t ρ s = .ok true s1) (h2 : t2 ρ s1 = .ok c s2) : mAnd t t2 ρ s = .ok c s2 := by unfold mAnd; rw [h]; exact h2
theorem ev_if_t (h : t ρ s = .ok true s1) (h2 : a ρ s1 = .ok d s2) : mIf t a b ρ s = .ok d s2 := by unfold mIf; rw [h]; exact h2
theorem ev_if_f (h : t ρ s = .ok false s1) (h2 : b ρ s1 = .ok d s2) : mIf t a b ρ s = .ok d s2 := by unfold mIf; rw [h]; exact h2
theorem ev_andv_t (h : a ρ s = .ok d s1) (h1 : fTru d = some true) (h2 : b ρ s1 = .ok e s2) : mAndV a b ρ s = .ok e s2 := by
  unfold mAndV; rw [h]; simp only [R.bind_ok]; rw [h1]; exact h2
theorem ev_andv_f (h : a ρ s = .ok d s1) (h1 : fTru d = some false) : mAndV a b ρ s = .ok d s1 := by
  unfold mAndV; rw [h]; simp only [R.bind_ok]; rw [h1]; rfl
theorem ev_orv_f (h : a ρ s = .ok d s1) (h1 : fTru d = some false) (h2 : b ρ s1 = .ok e s2) : mOrV a b ρ s = .ok e s2 := by
  unfold mOrV; rw [h]; simp only [R.bind_ok]; rw [h1]; exact h2
theorem ev_orv_t (h : a ρ s = .ok d s1) (h1 : fTru d = some true) : mOrV a b ρ s = .ok d s1 := by
  unfold mOrV; rw [h]; simp only [R.bind_ok]; rw [h1]; rfl
theorem ev_notv (h : a ρ s = .ok d s1) (h1 : fTru d = some c) : mNotV a ρ s = .ok (.bl (!c)) s1 := by
  unfold mNotV; rw [h]; simp only [R.bind_ok]; rw [h1]; rfl
theorem ev_nil : mNil ρ s = .ok [] s := rfl
theorem ev_cons (h : a ρ s = .ok d s1) (h2 : as ρ s1 = .ok ds s2) : mCons a as ρ s = .ok (d :: ds) s2 := by
  unfold mCons; rw [h]; simp only [R.bind_ok]; rw [h2]; rfl
theorem ev_tup (h : as ρ s = .ok ds s1) (hl : ds.length ≤ 100000) : mTup as ρ s = .ok (.tup ds) s1 := by
  unfold mTup; rw [h]; simp only [R.bind_ok]; rw [if_pos hl]
theorem ev_lst (h : as ρ s = .ok ds s1) (hl : ds.length ≤ 100000) : mLst as ρ s = .ok (.lst ds) s1 := by
  unfold mLst; rw [h]; simp only [R.bind_ok]; rw [if_pos hl]
theorem ev_cb {f : List Dt → Option Dt} (h : as ρ s = .ok ds s1) (h1 : f ds = some r) : mCB f as ρ s = .ok r s1 := by
  unfold mCB; rw [h]; simp only [R.bind_ok]; rw [h1]; rfl
theorem ev_call {n : Nat} {dd : List Dt} {m : List Dt → Hd → R Dt} (h : as ρ s = .ok ds s1) (hl : (ds ++ dd).length = n) (hm : m (ds ++ dd) s1 = .ok r s2) : mCall n dd m as ρ s = .ok r s2 := by
  unfold mCall; rw [h]; simp only [R.bind_ok]; rw [if_pos hl, hm]
theorem ev_call0 {n : Nat} {m : List Dt → Hd → R Dt} (h : as ρ s = .ok ds s1) (hl : ds.length = n) (hm : m ds s1 = .ok r s2) : mCall n [] m as ρ s = .ok r s2 := ev_call h (by rw [List.append_nil]; exact hl) (by rw [List.append_nil]; exact hm)
theorem ev_call_err {n : Nat} {dd : List Dt} {m : List Dt → Hd → R Dt} {cl : Str} {fs : List (Str × Dt)} {ρ' : Env'} (h : as ρ s = .ok ds s1) (hl : (ds ++ dd).length = n) (hm : m (ds ++ dd) s1 = .err cl fs ρ' s2) : mCall n dd m as ρ s = .err cl fs ρ s2 := by
  unfold mCall; rw [h]; simp only [R.bind_ok]; rw [if_pos hl, hm]
theorem ev_meth {cl x : Str} {n : Nat} {dd : List Dt} {m : List Dt → Hd → R Dt} {fs : List (Str × Dt)} (h : a ρ s = .ok (.obj cl fs) s1) (hx : fs.lookup x = none) (h2 : as ρ s1 = .ok ds s2) (hl : (ds ++ dd).length + 1 = n) (hm : m (.obj cl fs :: (ds ++ dd)) s2 = .ok r s3) : mMeth cl x n dd m a as ρ s = .ok r s3 := by
  unfold mMeth; rw [h]; simp only [R.bind_ok]; simp only [hx, and_self, if_true]; rw [h2]; simp only [R.bind_ok]; rw [if_pos hl, hm]
theorem ev_meth0 {cl x : Str} {n : Nat} {m : List Dt → Hd → R Dt} {fs : List (Str × Dt)} (h : a ρ s = .ok (.obj cl fs) s1) (hx : fs.lookup x = none) (h2 : as ρ s1 = .ok ds s2) (hl : ds.length + 1 = n) (hm : m (.obj cl fs :: ds) s2 = .ok r s3) : mMeth cl x n [] m a as ρ s = .ok r s3 := ev_meth h hx h2 (by rw [List.append_nil]; exact hl) (by rw [List.append_nil]; exact hm)
theorem ev_make0 {cl : Str} {n : Nat} {m : List Dt → Hd → R (List (Str × Dt))} {fs : List (Str × Dt)} (h : as ρ s = .ok ds s1) (hl : ds.length = n) (hm : m ds s1 = .ok fs s2) : mMake cl n [] m as ρ s = .ok (.obj cl fs) s2 := by
  unfold mMake; rw [h]; simp only [R.bind_ok, List.append_nil]; rw [if_pos hl, hm]
theorem ev_meth_err {cl x : Str} {n : Nat} {dd : List Dt} {m : List Dt → Hd → R Dt} {fs : List (Str × Dt)} {c2 : Str} {f2 : List (Str × Dt)} {ρ' : Env'} (h : a ρ s = .ok (.obj cl fs) s1) (hx : fs.lookup x = none) (h2 : as ρ s1 = .ok ds s2) (hl : (ds ++ dd).length + 1 = n) (hm : m (.obj cl fs :: (ds ++ dd)) s2 = .err c2 f2 ρ' s3) : mMeth cl x n dd m a as ρ s = .err c2 f2 ρ s3 := by
  unfold mMeth; rw [h]; simp only [R.bind_ok]; simp only [hx, and_self, if_true]; rw [h2]; simp only [R.bind_ok]; rw [if_pos hl, hm]
theorem ev_attr {cs : List Str} {f cl : Str} {fs : List (Str × Dt)} (h : a ρ s = .ok (.obj cl fs) s1) (hc : cl ∈ cs) (h2 : fs.lookup f = some d) : mAttr cs f a ρ s = .ok d s1 := by
  unfold mAttr; rw [h]; simp only [R.bind_ok]; rw [if_pos hc, h2]; rfl
theorem ev_make {cl : Str} {n : Nat} {dd : List Dt} {m : List Dt → Hd → R (List (Str × Dt))} {fs : List (Str × Dt)} (h : as ρ s = .ok ds s1) (hl : (ds ++ dd).length = n) (hm : m (ds ++ dd) s1 = .ok fs s2) : mMake cl n dd m as ρ s = .ok (.obj cl fs) s2 := by
  unfold mMake; rw [h]; simp only [R.bind_ok]; rw [if_pos hl, hm]
theorem ev_isi {T : String} (h : a ρ s = .ok d s1) (h2 : fIsi T d = some c) : mIsi T a ρ s = .ok (.bl c) s1 := by
  unfold mIsi; rw [h]; simp only [R.bind_ok]; rw [h2]; rfl
theorem ev_isi2 {T U : String} (h : a ρ s = .ok d s1) (h2 : fIsi2 T U d = some c) : mIsi2 T U a ρ s = .ok (.bl c) s1 := by
  unfold mIsi2; rw [h]; simp only [R.bind_ok]; rw [h2]; rfl
theorem ev_lc {g : GM} {it : MA} {vs : List Nat} (h : it ρ s = .ok ds s1) (h2 : loopC g t a vs ds [] ρ s1 = .ok d s2) : mLc g it t a vs ρ s = .ok d s2 := (lc_of h).trans h2
theorem ev_seqI (h : a ρ s = .ok d s1) (k : seqD d = some ds) : mSeqI a ρ s = .ok ds s1 := by
  unfold mSeqI
  rw [h]
  cases d <;> simp_all [seqD, R.bind]
theorem ev_ixo_own {k : Int} (h : ρ[i]? = some (.own ds)) (h2 : b ρ s = .ok (.int k) s1) (h3 : atI ds k = some r) : mIxO i b ρ s = .ok r s1 := by
  unfold mIxO; rw [h]; simp only; rw [h2]; simp only [R.bind_ok]; rw [h3]; rfl
theorem ev_ixo_dat (h : ρ[i]? = some (.dat d)) (h2 : b ρ s = .ok e s1) (h3 : fIx d e = some r) : mIxO i b ρ s = .ok r s1 := by
  unfold mIxO; rw [h]; simp only; rw [h2]; simp only [R.bind_ok]; rw [h3]; rfl
/-! statements -/
theorem es_next : mNext ρ s = .ok (.nx ρ) s := rfl
theorem es_seq {q : R Fl} (h : b1 ρ s = .ok (.nx ρ1) s1) (h2 : b2 ρ1 s1 = q) : mSeq b1 b2 ρ s = q := (seq_nx h).trans h2
theorem es_set (h : a ρ s = .ok d s1) : mSet i a ρ s = .ok (.nx (ρ.set i (.dat d))) s1 := by unfold mSet; rw [h]; rfl
theorem es_break : mBreak ρ s = .ok (.bk ρ) s := rfl
theorem seq_bk (h : b1 ρ s = .ok (.bk ρ1) s1) : mSeq b1 b2 ρ s = .ok (.bk ρ1) s1 := by unfold mSeq; rw [h]
theorem es_ret (h : a ρ s = .ok d s1) : mRet a ρ s = .ok (.rt d) s1 := ret_of h
theorem es_drop (h : a ρ s = .ok d s1) : mDrop a ρ s = .ok (.nx ρ) s1 := by unfold mDrop; rw [h]; rfl
theorem es_if_t {q : R Fl} (h : t ρ s = .ok true s1) (h2 : b1 ρ s1 = q) : mIfS t b1 b2 ρ s = q := by unfold mIfS; rw [h]; exact h2
theorem es_if_f {q : R Fl} (h : t ρ s = .ok false s1) (h2 : b2 ρ s1 = q) : mIfS t b1 b2 ρ s = q := by unfold mIfS; rw [h]; exact h2
theorem es_asg {g : GM} (h : a ρ s = .ok d s1) (h2 : g d ρ = some ρ1) : mAsg g a ρ s = .ok (.nx ρ1) s1 := by
  unfold mAsg; rw [h]; simp only [R.bind_ok]; rw [h2]
theorem es_par (h : as ρ s = .ok [d, e] s1) : mPar i j as ρ s = .ok (.nx ((ρ.set i (.dat d)).set j (.dat e))) s1 := by
  unfold mPar; rw [h]; rfl
theorem es_setO {m : MA} (h : m ρ s = .ok ds s1) : mSetO i m ρ s = .ok (.nx (ρ.set i (.own ds))) s1 := by unfold mSetO; rw [h]; rfl
theorem ev_lstO (h : as ρ s = .ok ds s1) (hl : ds.length ≤ 100000) : mLstO as ρ s = .ok ds s1 := by
  unfold mLstO; rw [h]; simp only [R.bind_ok]; rw [if_pos hl]
theorem es_for {g : GM} {it : MA} {q : R Fl} (h : it ρ s = .ok ds s1) (h2 : loopF g b1 ds ρ s1 = q) : mFor g it b1 ρ s = q := (for_of h).trans h2
theorem es_def {n : Nat} {b : MS} {ρ : Env'} (hρ : startE n ds = ρ) (h : b ρ s = .ok (.rt d) s1) : mDef n b ds s = .ok d s1 := by
  subst hρ
  exact def_rt h
theorem es_def_nx {n : Nat} {b : MS} {ρ : Env'} (hρ : startE n ds = ρ) (h : b ρ s = .ok (.nx ρ1) s1) : mDef n b ds s = .ok .non s1 := by
  subst hρ
  unfold mDef
  rw [h]
theorem es_def_err {n : Nat} {b : MS} {ρ : Env'} {cl : Str} {fs : List (Str × Dt)} (hρ : startE n ds = ρ) (h : b ρ s = .err cl fs ρ1 s1) : mDef n b ds s = .err cl fs ρ1 s1 := by
  subst hρ
  unfold mDef
  rw [h]
theorem es_app (h : ρ[i]? = some (.own ds)) (h2 : a ρ s = .ok d s1) (hl : ds.length ≤ 100000) : mApp i a ρ s = .ok (.nx (ρ.set i (.own (ds ++ [d])))) s1 := by
  unfold mApp; rw [h]; simp only; rw [h2]; simp only [R.bind_ok]; rw [if_pos (show sizeOk ds.length from hl)]
theorem es_setI {k : Int} (h1 : a ρ s = .ok d s1) (h : ρ[i]? = some (.own ds)) (h2 : b ρ s1 = .ok (.int k) s2) (hj : ixN ds.length k = some j) : mSetI i b a ρ s = .ok (.nx (ρ.set i (.own (ds.set j d)))) s2 := by
  unfold mSetI; rw [h1]; simp only [R.bind_ok]; rw [h]; simp only; rw [h2]; simp only [R.bind_ok]; rw [hj]
theorem ev_bor (h : ρ[i]? = some (.own ds)) (h2 : a (ρ.set i (.dat (.lst ds))) s = .ok d s1) (hf : lfree d = true) : mBor i a ρ s = .ok d s1 := by
  unfold mBor; rw [h]; simp only; rw [h2]; simp only; rw [if_pos hf]
theorem es_fld {cl f : Str} {cs : List Str} {fs : List (Str × Dt)} (h : a ρ s = .ok d s1) (h2 : ρ[i]? = some (.slf cl fs)) (hc : cl ∈ cs) (hl : fs.length < 1000) : mFld i cs f a ρ s = .ok (.nx (ρ.set i (.slf cl (putFD f d fs)))) s1 := by
  unfold mFld; rw [h]; simp only [R.bind_ok]; rw [h2]; simp only; rw [if_pos ⟨hc, hl⟩]
theorem es_init {n : Nat} {cl : Str} {ms : MS} {fs : List (Str × Dt)} (hρ : startI n cl ds = ρ) (h : ms ρ s = .ok (.nx ρ1) s1) (h2 : ρ1[0]? = some (.slf cl fs)) : mInit n cl ms ds s = .ok fs s1 := by
  subst hρ
  unfold mInit; rw [h]; simp only; rw [h2]; simp
theorem es_frz {is : List Nat} (h : is.foldl frzE ρ = ρ1) {q : R Fl} (h2 : b1 ρ1 s = q) : mFrz is b1 ρ s = q := by
  unfold mFrz; rw [h]; exact h2
theorem loop_nx {g : GM} {q : R Fl} (h : g d ρ = some ρ1) (h2 : b1 ρ1 s = .ok (.nx ρ2) s1) (h3 : loopF g b1 ds ρ2 s1 = q) : loopF g b1 (d :: ds) ρ s = q := by
  unfold loopF; rw [h]; simp only; rw [h2]; exact h3
theorem loop_bk {g : GM} (h : g d ρ = some ρ1) (h2 : b1 ρ1 s = .ok (.bk ρ2) s1) : loopF g b1 (d :: ds) ρ s = .ok (.nx ρ2) s1 := by
  unfold loopF; rw [h]; simp only; rw [h2]
theorem loop_rt {g : GM} (h : g d ρ = some ρ1) (h2 : b1 ρ1 s = .ok (.rt e) s1) : loopF g b1 (d :: ds) ρ s = .ok (.rt e) s1 := by
  unfold loopF; rw [h]; simp only; rw [h2]
theorem loop_err {g : GM} {cl : Str} {fs : List (Str × Dt)} (h : g d ρ = some ρ1) (h2 : b1 ρ1 s = .err cl fs ρ2 s1) : loopF g b1 (d :: ds) ρ s = .err cl fs ρ2 s1 := by
  unfold loopF; rw [h]; simp only; rw [h2]
/-- a loop that ends with a return -/
theorem for_until {α : Type} {g : GM} {body : MS} (dv : α → Dt) (I : List α → Env' → Hd → Prop) (P : Dt → Hd → Prop) (x : α) (ys : List α) : ∀ (xs pre : List α) (ρ : Env') (s : Hd), I pre ρ s →
    (∀ (p : List α) (y : α) (q : List α) (ρ : Env') (s : Hd), pre ++ xs = p ++ y :: q → I p ρ s → ∃ ρ1 ρ2 s2, g (dv y) ρ = some ρ1 ∧ body ρ1 s = .ok (.nx ρ2) s2 ∧ I (p ++ [y]) ρ2 s2) →
    (∀ (ρ : Env') (s : Hd), I (pre ++ xs) ρ s → ∃ ρ1 d s2, g (dv x) ρ = some ρ1 ∧ body ρ1 s = .ok (.rt d) s2 ∧ P d s2) →
    ∃ d s', loopF g body ((xs ++ x :: ys).map dv) ρ s = .ok (.rt d) s' ∧ P d s'
  | [], pre, ρ, s, h0, _, hx => by
    obtain ⟨ρ1, d, s2, e1, e2, e3⟩ := hx ρ s (by simpa using h0)
    refine ⟨d, s2, ?_, e3⟩
    rw [List.nil_append, List.map_cons]
    unfold loopF
    rw [e1]
    simp only [e2]
  | y :: xs, pre, ρ, s, h0, hs, hx => by
    obtain ⟨ρ1, ρ2, s2, e1, e2, e3⟩ := hs pre y xs ρ s rfl h0
    obtain ⟨d, s', h1, h2⟩ := for_until dv I P x ys xs (pre ++ [y]) ρ2 s2 e3 (fun p z q ρ s e i => hs p z q ρ s (by rw [← e]; simp) i) (fun ρ s i => hx ρ s (by simpa using i))
    refine ⟨d, s', ?_, h2⟩
    rw [List.cons_append, List.map_cons]
    unfold loopF
    rw [e1]
    simp only [e2]
    exact h1
theorem for_stop {g : GM} {body : MS} (dv : Nat → Dt) (I : Nat → Env' → Hd → Prop) (P : Dt → Hd → Prop) {n w : Nat} (hw : w < n) {ρ : Env'} {s : Hd} (h0 : I 0 ρ s)
    (hs : ∀ (i : Nat) (ρ : Env') (s : Hd), i < w → I i ρ s → ∃ ρ1 ρ2 s2, g (dv i) ρ = some ρ1 ∧ body ρ1 s = .ok (.nx ρ2) s2 ∧ I (i + 1) ρ2 s2)
    (hx : ∀ (ρ : Env') (s : Hd), I w ρ s → ∃ ρ1 d s2, g (dv w) ρ = some ρ1 ∧ body ρ1 s = .ok (.rt d) s2 ∧ P d s2) :
    ∃ d s', loopF g body ((List.range n).map dv) ρ s = .ok (.rt d) s' ∧ P d s' := by
  obtain ⟨r, rfl⟩ : ∃ r, n = w + (r + 1) := ⟨n - w - 1, by omega⟩
  have e : List.range (w + (r + 1)) = List.range w ++ w :: ((List.range r).map Nat.succ).map (w + ·) := by
    rw [List.range_add, List.range_succ_eq_map, List.map_cons]
    rfl
  rw [e]
  refine for_until dv (fun p ρ s => I p.length ρ s) P w _ (List.range w) [] ρ s h0 (fun p x q ρ s e i => ?_) (fun ρ s i => hx ρ s (by simpa using i))
  rw [List.nil_append] at e
  have hx : (List.range w)[p.length]? = some x := by rw [e]; simp
  have hn : p.length < w := by
    have := congrArg List.length e
    simp at this
    omega
  rw [List.getElem?_range hn] at hx
  have ex : x = p.length := by simpa using hx.symm
  subst ex
  obtain ⟨ρ1, ρ2, s2, a1, a2, a3⟩ := hs p.length ρ s hn i
  exact ⟨ρ1, ρ2, s2, a1, a2, by simpa using a3⟩
theorem rangeD_succ (lo : Int) (n : Nat) : rangeD lo (n + 1) = .int lo :: rangeD (lo + 1) n := by
  unfold rangeD
  rw [List.range_succ_eq_map, List.map_cons, List.map_map]
  congr 1
  · simp
  · refine List.map_congr_left fun i _ => ?_
    simp only [Function.comp, Dt.int.injEq]
    omega
section
variable {cl : Str} {fs : List (Str × Dt)} {ρ' : Env'}
theorem ev_cons_e1 (h : a ρ s = .err cl fs ρ' s1) : mCons a as ρ s = .err cl fs ρ' s1 := by unfold mCons; rw [h]; rfl
theorem ev_cons_e2 (h : a ρ s = .ok d s1) (h2 : as ρ s1 = .err cl fs ρ' s2) : mCons a as ρ s = .err cl fs ρ' s2 := by unfold mCons; rw [h]; simp only [R.bind_ok]; rw [h2]; rfl
theorem ev_call_ae {n : Nat} {dd : List Dt} {m : List Dt → Hd → R Dt} (h : as ρ s = .err cl fs ρ' s1) : mCall n dd m as ρ s = .err cl fs ρ' s1 := by unfold mCall; rw [h]; rfl
theorem ev_meth_ae {c x : Str} {n : Nat} {dd : List Dt} {m : List Dt → Hd → R Dt} {f2 : List (Str × Dt)} (h : a ρ s = .ok (.obj c f2) s1) (hx : f2.lookup x = none) (h2 : as ρ s1 = .err cl fs ρ' s2) : mMeth c x n dd m a as ρ s = .err cl fs ρ' s2 := by
  unfold mMeth; rw [h]; simp only [R.bind_ok]; simp only [hx, and_self, if_true]; rw [h2]; rfl
theorem ev_call0_e {n : Nat} {m : List Dt → Hd → R Dt} (h : as ρ s = .ok ds s1) (hl : ds.length = n) (hm : m ds s1 = .err cl fs ρ' s2) : mCall n [] m as ρ s = .err cl fs ρ s2 := by
  unfold mCall; rw [h]; simp only [R.bind_ok, List.append_nil]; rw [if_pos hl, hm]
theorem ev_meth0_e {c x : Str} {n : Nat} {m : List Dt → Hd → R Dt} {f2 : List (Str × Dt)} (h : a ρ s = .ok (.obj c f2) s1) (hx : f2.lookup x = none) (h2 : as ρ s1 = .ok ds s2) (hl : ds.length + 1 = n) (hm : m (.obj c f2 :: ds) s2 = .err cl fs ρ' s3) : mMeth c x n [] m a as ρ s = .err cl fs ρ s3 := by
  unfold mMeth; rw [h]; simp only [R.bind_ok]; simp only [hx, and_self, if_true]; rw [h2]; simp only [R.bind_ok, List.append_nil]; rw [if_pos hl, hm]
theorem ev_make0_e {c : Str} {n : Nat} {m : List Dt → Hd → R (List (Str × Dt))} (h : as ρ s = .ok ds s1) (hl : ds.length = n) (hm : m ds s1 = .err cl fs ρ' s2) : mMake c n [] m as ρ s = .err cl fs ρ s2 := by
  unfold mMake; rw [h]; simp only [R.bind_ok, List.append_nil]; rw [if_pos hl, hm]
theorem ev_op_e1 {f : Dt → Dt → Option Dt} (h : a ρ s = .err cl fs ρ' s1) : mOp f a b ρ s = .err cl fs ρ' s1 := by unfold mOp; rw [h]; rfl
theorem es_ret_e (h : a ρ s = .err cl fs ρ' s1) : mRet a ρ s = .err cl fs ρ' s1 := by unfold mRet; rw [h]; rfl
theorem es_drop_e (h : a ρ s = .err cl fs ρ' s1) : mDrop a ρ s = .err cl fs ρ' s1 := by unfold mDrop; rw [h]; rfl
theorem es_set_e (h : a ρ s = .err cl fs ρ' s1) : mSet i a ρ s = .err cl fs ρ' s1 := by unfold mSet; rw [h]; rfl
theorem es_asg_e {g : GM} (h : a ρ s = .err cl fs ρ' s1) : mAsg g a ρ s = .err cl fs ρ' s1 := by unfold mAsg; rw [h]; rfl
theorem es_raise0 {c : Str} : mRaise0 c ρ s = .err c [] ρ s := rfl
theorem es_raise {c : Str} {names : List Str} (h : as ρ s = .ok ds s1) (hl : ds.length = names.length ∧ names.length ≤ 100 ∧ 0 < names.length) : mRaise c names as ρ s = .err c (names.zip ds).reverse ρ s1 := by
  unfold mRaise; rw [h]; simp only [R.bind_ok]; rw [if_pos hl]
/-! try -/
theorem es_tryq {f : Fl} {all : List Str} {cls : List MC} (h : b1 ρ s = .ok f s1) : mTryQ all b1 cls ρ s = .ok f s1 := by
  have e : (fun ρ s => onlyOf all (b1 ρ s)) ρ s = .ok f s1 := by
    show onlyOf all (b1 ρ s) = _
    rw [h]
    rfl
  unfold mTryQ mTryCl
  rw [e]
theorem es_tryq_e {all : List Str} {cls : List MC} {m : MX} {q : R Fl} (h : b1 ρ s = .err cl fs ρ' s1) (ha : cl ∈ all) (hm : m fs ρ' s1 = q) : mTryQ all b1 ((cl, none, m) :: cls) ρ s = clOut none q := by
  have e : (fun ρ s => onlyOf all (b1 ρ s)) ρ s = .err cl fs ρ' s1 := by
    show onlyOf all (b1 ρ s) = _
    rw [h]
    simp only [onlyOf, if_pos ha]
  unfold mTryQ mTryCl
  rw [e]
  simp only [runCl, if_true, clLt, clIn]
  rw [hm]
theorem es_tryq_n {all : List Str} {cls : List MC} {m : MX} (h : b1 ρ s = .err cl fs ρ' s1) (ha : cl ∈ all) (hi : i < ρ'.length) (hm : m fs (ρ'.set i .no) s1 = .ok (.nx ρ2) s2) : mTryQ all b1 ((cl, some i, m) :: cls) ρ s = .ok (.nx (ρ2.set i .no)) s2 := by
  have e : (fun ρ s => onlyOf all (b1 ρ s)) ρ s = .err cl fs ρ' s1 := by
    show onlyOf all (b1 ρ s) = _
    rw [h]
    simp only [onlyOf, if_pos ha]
  unfold mTryQ mTryCl
  rw [e]
  simp only [runCl, if_true, clLt, decide_eq_true hi, clIn]
  rw [hm]
  rfl
theorem es_tryq_2 {all : List Str} {cls : List MC} {c1 : Str} {o1 : Option Nat} {m1 m : MX} (h : b1 ρ s = .err cl fs ρ' s1) (ha : cl ∈ all) (ne : ¬ c1 = cl) (hm : m fs ρ' s1 = .ok (.nx ρ2) s2) : mTryQ all b1 ((c1, o1, m1) :: (cl, none, m) :: cls) ρ s = .ok (.nx ρ2) s2 := by
  have e : (fun ρ s => onlyOf all (b1 ρ s)) ρ s = .err cl fs ρ' s1 := by
    show onlyOf all (b1 ρ s) = _
    rw [h]
    simp only [onlyOf, if_pos ha]
  unfold mTryQ mTryCl
  rw [e]
  simp only [runCl, if_neg ne, if_true, clLt, clIn]
  rw [hm]
  rfl
theorem es_tryas {f : Fl} {c : Str} {m : MX} (h : b1 ρ s = .ok f s1) : mTryAs i c b1 m ρ s = .ok f s1 := by
  unfold mTryAs
  rw [h]
theorem es_tryas_rt {c : Str} {m : MX} (h : b1 ρ s = .err c fs ρ' s1) (hi : i < ρ'.length) (hm : m fs (ρ'.set i .no) s1 = .ok (.rt d) s2) : mTryAs i c b1 m ρ s = .ok (.rt d) s2 := by
  unfold mTryAs
  rw [h]
  simp only [hi, and_self, if_true]
  rw [hm]
end
theorem es_seq_err {cl : Str} {fs : List (Str × Dt)} (h : b1 ρ s = .err cl fs ρ1 s1) : mSeq b1 b2 ρ s = .err cl fs ρ1 s1 := by
  unfold mSeq
  rw [h]
end
end Mir
local macro_rules | `(tactic| array_get_dec) => `(tactic| with_reducible assumption)
local macro_rules | `(tactic| array_mem_dec) => `(tactic| first
  | ((with_reducible apply Mir.ev_test); sizeOf_list_dec)
  | ((with_reducible apply Mir.ev_not_t); array_mem_dec)
  | ((with_reducible apply Mir.ev_not_f); array_mem_dec)
  | ((with_reducible apply Mir.ev_or_t); array_mem_dec)
  | ((with_reducible apply Mir.ev_or_f); array_mem_dec; array_mem_dec)
  | ((with_reducible apply Mir.ev_tru); sizeOf_list_dec; array_get_dec))
local macro_rules | `(tactic| sizeOf_list_dec) => `(tactic| first
  | array_get_dec
  | ((with_reducible apply Mir.ev_var); rfl)
  | with_reducible exact Mir.ev_c
  | with_reducible exact Mir.ev_nil
  | ((with_reducible apply Mir.ev_cons); sizeOf_list_dec; sizeOf_list_dec)
  | ((with_reducible apply Mir.ev_op); sizeOf_list_dec; sizeOf_list_dec; (first | array_get_dec | rfl))
  | ((with_reducible apply Mir.ev_un); sizeOf_list_dec; (first | array_get_dec | rfl))
  | ((with_reducible apply Mir.ev_cb); sizeOf_list_dec; (first | array_get_dec | rfl))
  | ((with_reducible apply Mir.ev_call0); sizeOf_list_dec; rfl; array_get_dec)
  | ((with_reducible apply Mir.ev_call); sizeOf_list_dec; rfl; (simp only [List.append_nil, List.cons_append, List.nil_append]; array_get_dec))
  | ((with_reducible apply Mir.ev_meth0); sizeOf_list_dec; (first | array_get_dec | rfl); sizeOf_list_dec; rfl; array_get_dec)
  | ((with_reducible apply Mir.ev_make0); sizeOf_list_dec; rfl; array_get_dec)
  | ((with_reducible apply Mir.ev_attr); sizeOf_list_dec; (first | array_get_dec | decide | simp); (first | array_get_dec | rfl))
  | ((with_reducible apply Mir.ev_tup); sizeOf_list_dec; (first | array_get_dec | exact Nat.le_of_ble_eq_true rfl))
  | ((with_reducible apply Mir.ev_lst); sizeOf_list_dec; (first | array_get_dec | exact Nat.le_of_ble_eq_true rfl))
  | ((with_reducible apply Mir.ev_if_t); array_mem_dec; sizeOf_list_dec)
  | ((with_reducible apply Mir.ev_if_f); array_mem_dec; sizeOf_list_dec)
  | array_mem_dec)


set_option Elab.async false
set_option linter.all false
/-! Plain data: it equals itself. -/
namespace Mir
open PySem PySem.Spec PyProof.Rows L2
def plD : Nat → Dt → Bool
  | _, .non => true
  | _, .bl _ => true
  | _, .int _ => true
  | _, .str x => PyData.canLay0 (.str x)
  | n + 1, .tup ds => ds.all (plD n)
  | n + 1, .lst ds => ds.all (plD n)
  | _, _ => false
theorem pl_list {n : Nat} (h : ∀ d, plD n d = true → ∃ p, toPy d = some p ∧ p.canLay0 = true ∧ p.depth ≤ n ∧ PyData.eqv p p = true) : ∀ ds : List Dt, ds.all (plD n) = true → ∃ ps, toPyA ds = some ps ∧ PyData.canLayAll0 ps = true ∧ PyData.depthAll ps ≤ n ∧ PyData.eqvAll ps ps = true
  | [], _ => ⟨[], rfl, by simp [PyData.canLayAll0], by simp [PyData.depthAll], by simp [PyData.eqvAll]⟩
  | d :: ds, e => by
    rw [List.all_cons, Bool.and_eq_true] at e
    obtain ⟨p, a1, a2, a3, a4⟩ := h d e.1
    obtain ⟨ps, b1, b2, b3, b4⟩ := pl_list h ds e.2
    refine ⟨p :: ps, by simp [toPyA, a1, b1], by simp [PyData.canLayAll0, a2, b2], by simp [PyData.depthAll]; omega, by simp [PyData.eqvAll, a4, b4]⟩
theorem pl_py : ∀ (n : Nat) (d : Dt), plD n d = true → ∃ p, toPy d = some p ∧ p.canLay0 = true ∧ p.depth ≤ n ∧ PyData.eqv p p = true := by
  intro n
  induction n with
  | zero =>
    intro d h
    cases d with
    | non => exact ⟨_, rfl, by simp [PyData.canLay0], by simp [PyData.depth], by simp [PyData.eqv]⟩
    | bl b => exact ⟨_, rfl, by simp [PyData.canLay0], by simp [PyData.depth], by simp [PyData.eqv]⟩
    | int b => exact ⟨_, rfl, by simp [PyData.canLay0], by simp [PyData.depth], by simp [PyData.eqv]⟩
    | str x => exact ⟨.str x, rfl, by simpa [plD] using h, by simp [PyData.depth], by simp [PyData.eqv]⟩
    | _ => simp [plD] at h
  | succ n ih =>
    intro d h
    cases d with
    | non => exact ⟨_, rfl, by simp [PyData.canLay0], by simp [PyData.depth], by simp [PyData.eqv]⟩
    | bl b => exact ⟨_, rfl, by simp [PyData.canLay0], by simp [PyData.depth], by simp [PyData.eqv]⟩
    | int b => exact ⟨_, rfl, by simp [PyData.canLay0], by simp [PyData.depth], by simp [PyData.eqv]⟩
    | str x => exact ⟨.str x, rfl, by simpa [plD] using h, by simp [PyData.depth], by simp [PyData.eqv]⟩
    | tup ds =>
      obtain ⟨ps, b1, b2, b3, b4⟩ := pl_list ih ds (by simpa only [plD] using h)
      exact ⟨.tuple ps, by simp [toPy, b1], by simp [PyData.canLay0, b2], by simp [PyData.depth]; omega, by simp [PyData.eqv, b4]⟩
    | lst ds =>
      obtain ⟨ps, b1, b2, b3, b4⟩ := pl_list ih ds (by simpa only [plD] using h)
      exact ⟨.list ps, by simp [toPy, b1], by simp [PyData.canLay0, b2], by simp [PyData.depth]; omega, by simp [PyData.eqv, b4]⟩
    | _ => simp [plD] at h
theorem pl_ok {n : Nat} {d : Dt} (hn : n ≤ 64) (h : plD n d = true) : ∃ p, pyOk d = some p ∧ PyData.eqv p p = true := by
  obtain ⟨p, a1, a2, a3, a4⟩ := pl_py n d h
  have e : SeqAt.shaped p = true := by
    show (p.canLay0 && decide (p.depth ≤ 64)) = true
    rw [a2, decide_eq_true (by omega)]
    rfl
  refine ⟨p, ?_, a4⟩
  unfold pyOk
  rw [a1]
  simp [e]
theorem eqB_self {d : Dt} (n : Nat) (hn : n ≤ 64) (h : plD n d = true) : fEqB d d = some true := by
  obtain ⟨p, e1, e2⟩ := pl_ok hn h
  unfold fEqB
  rw [e1]
  simp [e2]
theorem eq_self {d : Dt} (n : Nat) (hn : n ≤ 64) (h : plD n d = true) : fEq d d = some (.bl true) := by
  unfold fEq
  rw [eqB_self n hn h]
  rfl
theorem ne_self {d : Dt} (n : Nat) (hn : n ≤ 64) (h : plD n d = true) : fNe d d = some (.bl false) := by
  unfold fNe
  rw [eqB_self n hn h]
  rfl
/-- a choice along a row -/
theorem choose_row {α : Type} [Inhabited α] {n : Nat} {Q : Nat → α → Prop} (h : ∀ i, i < n → ∃ a, Q i a) : ∃ f : Nat → α, ∀ i, i < n → Q i (f i) := by
  refine ⟨fun i => if c : i < n then Classical.choose (h i c) else default, fun i hi => ?_⟩
  simp only [dif_pos hi]
  exact Classical.choose_spec (h i hi)
/-- a row of data by a function -/
def fD {α : Type} (g : α → Dt) (n : Nat) (f : Nat → α) : List Dt := (List.range n).map fun i => g (f i)
theorem fD_len {α : Type} {g : α → Dt} {n : Nat} {f : Nat → α} : (fD g n f).length = n := by simp [fD]
theorem fD_get {α : Type} {g : α → Dt} {n : Nat} {f : Nat → α} {i : Nat} (h : i < n) : (fD g n f)[i]? = some (g (f i)) := by
  unfold fD
  rw [List.getElem?_map, List.getElem?_range h]
  rfl
theorem fD_at {α : Type} {g : α → Dt} {n : Nat} {f : Nat → α} {i : Int} (h0 : 0 ≤ i) (h : i < n) : atI (fD g n f) i = some (g (f i.toNat)) := by
  have e : ixN (fD g n f).length i = some i.toNat := by
    unfold ixN
    rw [if_pos h0, fD_len, if_pos h]
  unfold atI
  rw [e]
  exact fD_get (by omega)
theorem fD_set {α : Type} {g : α → Dt} {n : Nat} {f : Nat → α} {i : Nat} {a : α} (h : i < n) : (fD g n f).set i (g a) = fD g n (fun j => if j = i then a else f j) := by
  apply List.ext_getElem?
  intro j
  by_cases hj : j < n
  · rw [List.getElem?_set]
    by_cases e : i = j
    · subst e
      rw [if_pos rfl, if_pos (by rw [fD_len]; exact hj), fD_get hj, if_pos rfl]
    · rw [if_neg e, fD_get hj, fD_get hj, if_neg (fun z => e z.symm)]
  · rw [List.getElem?_eq_none (by rw [List.length_set, fD_len]; omega), List.getElem?_eq_none (by rw [fD_len]; omega)]
theorem fD_congr {α : Type} {g : α → Dt} {n : Nat} {f f2 : Nat → α} (h : ∀ i, i < n → f i = f2 i) : fD g n f = fD g n f2 := by
  unfold fD
  exact List.map_congr_left fun i hi => by rw [h i (List.mem_range.1 hi)]
theorem fD_succ {α : Type} {g : α → Dt} {n : Nat} {f : Nat → α} : fD g (n + 1) f = fD g n f ++ [g (f n)] := by simp [fD, List.range_succ]
theorem fD_of {α : Type} [Inhabited α] {g : α → Dt} {n : Nat} {ds : List Dt} {P : Nat → α → Prop} (hl : ds.length = n) (h : ∀ i, i < n → ∃ a, ds[i]? = some (g a) ∧ P i a) : ∃ f : Nat → α, ds = fD g n f ∧ ∀ i, i < n → P i (f i) := by
  obtain ⟨f, hf⟩ := choose_row h
  refine ⟨f, ?_, fun i hi => (hf i hi).2⟩
  apply List.ext_getElem?
  intro j
  by_cases hj : j < n
  · rw [fD_get hj, (hf j hj).1]
  · rw [List.getElem?_eq_none (by omega), List.getElem?_eq_none (by rw [fD_len]; omega)]
theorem fD_all {α : Type} {g : α → Dt} {n : Nat} {f : Nat → α} {P : Dt → Bool} (h : ∀ i, i < n → P (g (f i)) = true) : (fD g n f).all P = true := by
  unfold fD
  rw [List.all_map, List.all_eq_true]
  exact fun i hi => h i (List.mem_range.1 hi)
theorem lfreeA_all : ∀ ds : List Dt, lfreeA ds = ds.all lfree
  | [] => rfl
  | d :: ds => by rw [List.all_cons, ← lfreeA_all ds]; rfl
end Mir


set_option Elab.async false
set_option linter.all false
set_option maxRecDepth 100000
namespace Law
open PySem PySem.Spec PyProof.Rows L2 Mir
open PySem.W (Frag)
def m__law_take : List Dt → Hd → R Dt := mTake
def b_is_whole : MS :=
  (mSeq (mIfS (mOr (mNot (mTru (mIsi "int" (mVar 0)))) (mTru (mIsi "bool" (mVar 0)))) (mRet (mC (.bl false))) mNext)
    (mRet (mAndV (mOrV (mOp fIs (mVar 1) (mC .non)) (mOp fGe (mVar 0) (mVar 1))) (mOrV (mOp fIs (mVar 2) (mC .non)) (mOp fLe (mVar 0) (mVar 2))))))
def m_is_whole : List Dt → Hd → R Dt := mDef 3 b_is_whole
def b_is_ratio : MS :=
  (mSeq (mIfS (mOr (mNot (mTru (mIsi "tuple" (mVar 0)))) (mTest (mOp fNe (mCB fLen (mCons (mVar 0) mNil)) (mC (.int 2))))) (mRet (mC (.bl false))) mNext)
    (mSeq (mAsg (gmSeq 2 (gmCons (gmName 1) (gmCons (gmName 2) gmNil))) (mVar 0))
    (mRet (mAndV (mCall 3 [.non, .non] m_is_whole (mCons (mVar 1) mNil)) (mAndV (mCall 3 [.non] m_is_whole (mCons (mVar 2) (mCons (mC (.int 1)) mNil))) (mOp fEq (mCB fGcd (mCons (mVar 1) (mCons (mVar 2) mNil))) (mC (.int 1))))))))
def m_is_ratio : List Dt → Hd → R Dt := mDef 3 b_is_ratio
def b_is_row : MS :=
  (mSeq (mIfS (mNot (mTru (mIsi2 "list" "tuple" (mVar 0)))) (mRet (mC (.bl false))) mNext)
    (mRet (mAndV (mOp fGe (mCB fLen (mCons (mVar 0) mNil)) (mVar 1)) (mOrV (mOp fIs (mVar 2) (mC .non)) (mOp fLe (mCB fLen (mCons (mVar 0) mNil)) (mVar 2))))))
def m_is_row : List Dt → Hd → R Dt := mDef 3 b_is_row
def b__check_bar : MS :=
  (mSeq (mIfS (mNot (mTru (mCall 3 [] m_is_row (mCons (mVar 1) (mCons (mC (.int 3)) (mCons (mC (.int 3)) mNil)))))) (mRaise "BadArms" ["index", "what"] (mCons (mVar 0) (mCons (mC (.str "bar")) mNil))) mNext)
    (mSeq (mAsg (gmSeq 3 (gmCons (gmName 2) (gmCons (gmName 3) (gmCons (gmName 4) gmNil)))) (mVar 1))
    (mSeq (mIfS (mNot (mTru (mCall 3 [] m_is_whole (mCons (mVar 2) (mCons (mC (.int (-1))) (mCons (mOp fSub (mVar 0) (mC (.int 1))) mNil)))))) (mRaise "BadArms" ["index", "what"] (mCons (mVar 0) (mCons (mC (.str "host")) mNil))) mNext)
    (mSeq (mIfS (mNot (mTru (mCall 1 [] m_is_ratio (mCons (mVar 3) mNil)))) (mRaise "BadArms" ["index", "what"] (mCons (mVar 0) (mCons (mC (.str "mark")) mNil))) mNext)
    (mIfS (mNot (mTru (mCall 3 [] m_is_whole (mCons (mVar 4) (mCons (mC (.int 0)) (mCons (mC (.int 4)) mNil)))))) (mRaise "BadArms" ["index", "what"] (mCons (mVar 0) (mCons (mC (.str "letter")) mNil))) mNext)))))
def m__check_bar : List Dt → Hd → R Dt := mDef 5 b__check_bar
def b__check_bars : MS :=
  (mSeq (mIfS (mNot (mTru (mCall 3 [] m_is_row (mCons (mVar 0) (mCons (mC (.int 1)) (mCons (mC (.int 6)) mNil)))))) (mRaise "BadArms" ["index", "what"] (mCons (mC (.int 0)) (mCons (mC (.str "many")) mNil))) mNext)
    (mFor (gmSeq 2 (gmCons (gmName 1) (gmCons (gmName 2) gmNil))) (mEnum (mVar 0))
      (mDrop (mCall 2 [] m__check_bar (mCons (mVar 1) (mCons (mVar 2) mNil))))))
def m__check_bars : List Dt → Hd → R Dt := mDef 3 b__check_bars
def b__count_letters : MS :=
  (mSeq (mSet 1 (mLc (gmName 2) (mSeqI (mVar 0)) mYes (mOp fIx (mVar 2) (mC (.int 2))) [2]))
    (mSeq (mSet 3 (mCB fMax (mCons (mVar 1) mNil)))
    (mSeq (mIfS (mOr (mTest (mOp fEq (mVar 3) (mC (.int 0)))) (mNot (mTru (mCB fAll (mCons (mLc (gmName 4) (mRng2 (mC (.int 1)) (mOp fAdd (mVar 3) (mC (.int 1)))) mYes (mOp fIn (mVar 4) (mVar 1)) [4]) mNil))))) (mRaise "BadArms" ["index", "what"] (mCons (mC (.int 0)) (mCons (mC (.str "gap")) mNil))) mNext)
    (mRet (mVar 3)))))
def m__count_letters : List Dt → Hd → R Dt := mDef 5 b__count_letters
def b_Arms____init__ : MS :=
  (mSeq (mDrop (mCall 1 [] m__check_bars (mCons (mVar 1) mNil)))
    (mSeq (mFld 0 ["Arms"] "letters" (mCall 1 [] m__count_letters (mCons (mVar 1) mNil)))
    (mFld 0 ["Arms"] "bars" (mCB fTupC (mCons (mLc (gmName 2) (mSeqI (mVar 1)) mYes (mCB fTupC (mCons (mVar 2) mNil)) [2]) mNil)))))
def m_Arms____init__ : List Dt → Hd → R (List (Str × Dt)) := mInit 3 "Arms" b_Arms____init__
def b__law_gcd : MS :=
  (mSeq (mPar 0 1 (mCons (mCB fAbs (mCons (mVar 0) mNil)) (mCons (mCB fAbs (mCons (mVar 1) mNil)) mNil)))
    (mSeq (mWhile (mTru (mVar 1)) (mPar 0 1 (mCons (mVar 1) (mCons (mOp fMod (mCB fIntC (mCons (mVar 0) mNil)) (mVar 1)) mNil))))
    (mRet (mVar 0))))
def m__law_gcd : List Dt → Hd → R Dt := mDef 2 b__law_gcd
def b__law_ratio : MS :=
  (mSeq (mSet 2 (mCall 2 [] m__law_gcd (mCons (mVar 0) (mCons (mVar 1) mNil))))
    (mSeq (mIfS (mTest (mOp fLt (mVar 1) (mC (.int 0)))) (mSet 2 (mUn fNeg (mVar 2))) mNext)
    (mRet (mTup (mCons (mOp fDiv (mVar 0) (mVar 2)) (mCons (mOp fDiv (mVar 1) (mVar 2)) mNil))))))
def m__law_ratio : List Dt → Hd → R Dt := mDef 3 b__law_ratio
def b__law_half : MS :=
  (mSeq (mSet 1 (mCall 2 [] m__law_take (mCons (mVar 0) (mCons (mC (.int 14)) mNil))))
    (mSeq (mIfS (mTest (mOp fEq (mVar 1) (mC (.int 12)))) (mRet (mC .non)) mNext)
    (mSeq (mIfS (mTest (mOp fEq (mVar 1) (mC (.int 13)))) (mRet (mCall 2 [] m__law_ratio (mCons (mOp fSub (mCall 2 [] m__law_take (mCons (mVar 0) (mCons (mC (.int 41)) mNil))) (mC (.int 20))) (mCons (mOp fAdd (mC (.int 1)) (mCall 2 [] m__law_take (mCons (mVar 0) (mCons (mC (.int 9)) mNil)))) mNil)))) mNext)
    (mRet (mOp fIx (mLst (mCons (mTup (mCons (mC (.int 0)) (mCons (mC (.int 1)) mNil))) (mCons (mTup (mCons (mC (.int 1)) (mCons (mC (.int 3)) mNil))) (mCons (mTup (mCons (mC (.int 1)) (mCons (mC (.int 2)) mNil))) (mCons (mTup (mCons (mC (.int 1)) (mCons (mC (.int 1)) mNil))) (mCons (mTup (mCons (mC (.int 2)) (mCons (mC (.int 1)) mNil))) (mCons (mTup (mCons (mC (.int 3)) (mCons (mC (.int 1)) mNil))) (mCons (mTup (mCons (mUn fNeg (mC (.int 1))) (mCons (mC (.int 3)) mNil))) (mCons (mTup (mCons (mUn fNeg (mC (.int 1))) (mCons (mC (.int 2)) mNil))) (mCons (mTup (mCons (mUn fNeg (mC (.int 1))) (mCons (mC (.int 1)) mNil))) (mCons (mTup (mCons (mUn fNeg (mC (.int 2))) (mCons (mC (.int 1)) mNil))) (mCons (mTup (mCons (mUn fNeg (mC (.int 3))) (mCons (mC (.int 1)) mNil))) (mCons (mTup (mCons (mC (.int 0)) (mCons (mC (.int 1)) mNil))) mNil))))))))))))) (mVar 1))))))
def m__law_half : List Dt → Hd → R Dt := mDef 2 b__law_half
def b__law_any_half : MS :=
  (mSeq (mIfS (mTest (mOp fEq (mCall 2 [] m__law_take (mCons (mVar 0) (mCons (mC (.int 8)) mNil))) (mC (.int 0)))) (mRet (mCall 2 [] m__law_ratio (mCons (mOp fSub (mCall 2 [] m__law_take (mCons (mVar 0) (mCons (mOp fAdd (mOp fMul (mC (.int 2)) (mOp fPow (mC (.int 10)) (mC (.int 3)))) (mC (.int 1))) mNil))) (mOp fPow (mC (.int 10)) (mC (.int 3)))) (mCons (mOp fAdd (mC (.int 1)) (mCall 2 [] m__law_take (mCons (mVar 0) (mCons (mC (.int 60)) mNil)))) mNil)))) mNext)
    (mRet (mCall 1 [] m__law_half (mCons (mVar 0) mNil))))
def m__law_any_half : List Dt → Hd → R Dt := mDef 1 b__law_any_half
def b__law_less : MS :=
  (mRet (mCall 2 [] m__law_ratio (mCons (mOp fSub (mOp fMul (mOp fIx (mVar 0) (mC (.int 0))) (mOp fIx (mVar 1) (mC (.int 1)))) (mOp fMul (mOp fIx (mVar 1) (mC (.int 0))) (mOp fIx (mVar 0) (mC (.int 1))))) (mCons (mOp fMul (mOp fIx (mVar 0) (mC (.int 1))) (mOp fIx (mVar 1) (mC (.int 1)))) mNil))))
def m__law_less : List Dt → Hd → R Dt := mDef 2 b__law_less
def b__law_over : MS :=
  (mRet (mCall 2 [] m__law_ratio (mCons (mOp fMul (mOp fIx (mVar 0) (mC (.int 0))) (mOp fIx (mVar 1) (mC (.int 1)))) (mCons (mOp fMul (mOp fIx (mVar 0) (mC (.int 1))) (mOp fIx (mVar 1) (mC (.int 0)))) mNil))))
def m__law_over : List Dt → Hd → R Dt := mDef 2 b__law_over
def b__law_plus : MS :=
  (mRet (mCall 2 [] m__law_ratio (mCons (mOp fAdd (mOp fMul (mOp fIx (mVar 0) (mC (.int 0))) (mOp fIx (mVar 1) (mC (.int 1)))) (mOp fMul (mOp fIx (mVar 1) (mC (.int 0))) (mOp fIx (mVar 0) (mC (.int 1))))) (mCons (mOp fMul (mOp fIx (mVar 0) (mC (.int 1))) (mOp fIx (mVar 1) (mC (.int 1)))) mNil))))
def m__law_plus : List Dt → Hd → R Dt := mDef 2 b__law_plus
def b__law_times : MS :=
  (mRet (mCall 2 [] m__law_ratio (mCons (mOp fMul (mOp fIx (mVar 0) (mC (.int 0))) (mOp fIx (mVar 1) (mC (.int 0)))) (mCons (mOp fMul (mOp fIx (mVar 0) (mC (.int 1))) (mOp fIx (mVar 1) (mC (.int 1)))) mNil))))
def m__law_times : List Dt → Hd → R Dt := mDef 2 b__law_times
def b__law_direction : MS :=
  (mSeq (mIfS (mTest (mOp fIs (mVar 0) (mC .non))) (mRet (mTup (mCons (mTup (mCons (mC (.int 0)) (mCons (mC (.int 1)) mNil))) (mCons (mTup (mCons (mUn fNeg (mC (.int 1))) (mCons (mC (.int 1)) mNil))) mNil)))) mNext)
    (mSeq (mSet 1 (mCall 2 [] m__law_times (mCons (mVar 0) (mCons (mVar 0) mNil))))
    (mSeq (mSet 2 (mCall 2 [] m__law_plus (mCons (mTup (mCons (mC (.int 1)) (mCons (mC (.int 1)) mNil))) (mCons (mVar 1) mNil))))
    (mRet (mTup (mCons (mCall 2 [] m__law_over (mCons (mCall 2 [] m__law_times (mCons (mTup (mCons (mUn fNeg (mC (.int 2))) (mCons (mC (.int 1)) mNil))) (mCons (mVar 0) mNil))) (mCons (mVar 2) mNil))) (mCons (mCall 2 [] m__law_over (mCons (mCall 2 [] m__law_less (mCons (mTup (mCons (mC (.int 1)) (mCons (mC (.int 1)) mNil))) (mCons (mVar 1) mNil))) (mCons (mVar 2) mNil))) mNil)))))))
def m__law_direction : List Dt → Hd → R Dt := mDef 3 b__law_direction
def b__law_any_pose : MS :=
  (mRet (mCB fTupC (mCons (mLc (gmName 2) (mRng1 (mVar 1)) mYes (mCall 1 [] m__law_direction (mCons (mCall 1 [] m__law_any_half (mCons (mVar 0) mNil)) mNil)) [2]) mNil)))
def m__law_any_pose : List Dt → Hd → R Dt := mDef 3 b__law_any_pose
def b_is_place : MS :=
  (mSeq (mIfS (mNot (mTru (mCall 3 [] m_is_row (mCons (mVar 1) (mCons (mC (.int 2)) (mCons (mC (.int 2)) mNil)))))) (mRet (mC (.bl false))) mNext)
    (mSeq (mAsg (gmSeq 2 (gmCons (gmName 2) (gmCons (gmName 3) gmNil))) (mVar 1))
    (mRet (mAndV (mCall 3 [] m_is_whole (mCons (mVar 2) (mCons (mC (.int (-1))) (mCons (mOp fSub (mCB fLen (mCons (mAttr ["Arms"] "bars" (mVar 0)) mNil)) (mC (.int 1))) mNil)))) (mCall 1 [] m_is_ratio (mCons (mVar 3) mNil))))))
def m_is_place : List Dt → Hd → R Dt := mDef 4 b_is_place
def b_check_place : MS :=
  (mSeq (mIfS (mNot (mTru (mCall 2 [] m_is_place (mCons (mVar 0) (mCons (mVar 1) mNil))))) (mRaise0 "BadPlace") mNext)
    (mRet (mCB fTupC (mCons (mVar 1) mNil))))
def m_check_place : List Dt → Hd → R Dt := mDef 2 b_check_place
def b_lowest_terms : MS :=
  (mSeq (mSet 2 (mCB fGcd (mCons (mVar 0) (mCons (mVar 1) mNil))))
    (mSeq (mIfS (mTest (mOp fLt (mVar 1) (mC (.int 0)))) (mSet 2 (mUn fNeg (mVar 2))) mNext)
    (mRet (mTup (mCons (mOp fDiv (mVar 0) (mVar 2)) (mCons (mOp fDiv (mVar 1) (mVar 2)) mNil))))))
def m_lowest_terms : List Dt → Hd → R Dt := mDef 3 b_lowest_terms
def b_plus : MS :=
  (mRet (mCall 2 [] m_lowest_terms (mCons (mOp fAdd (mOp fMul (mOp fIx (mVar 0) (mC (.int 0))) (mOp fIx (mVar 1) (mC (.int 1)))) (mOp fMul (mOp fIx (mVar 1) (mC (.int 0))) (mOp fIx (mVar 0) (mC (.int 1))))) (mCons (mOp fMul (mOp fIx (mVar 0) (mC (.int 1))) (mOp fIx (mVar 1) (mC (.int 1)))) mNil))))
def m_plus : List Dt → Hd → R Dt := mDef 2 b_plus
def b_join_rows : MS :=
  (mRet (mCB fTupC (mCons (mLc (gmSeq 2 (gmCons (gmName 2) (gmCons (gmName 3) gmNil))) (mZip (mVar 0) (mVar 1)) mYes (mCall 2 [] m_plus (mCons (mVar 2) (mCons (mVar 3) mNil))) [2, 3]) mNil)))
def m_join_rows : List Dt → Hd → R Dt := mDef 4 b_join_rows
def b_row_at : MS :=
  (mRet (mCB fTupC (mCons (mLc (gmName 3) (mRng1 (mOp fAdd (mVar 0) (mC (.int 1)))) mYes (mIf (mTest (mOp fEq (mVar 3) (mVar 1))) (mVar 2) (mC (.tup [.int 0, .int 1]))) [3]) mNil)))
def m_row_at : List Dt → Hd → R Dt := mDef 4 b_row_at
def b_Arms__hinge_row (m_Arms__hinge_row m_Arms__row_of : List Dt → Hd → R Dt) : MS :=
  (mSeq (mIfS (mNot (mTru (mCall 3 [] m_is_whole (mCons (mVar 1) (mCons (mC (.int 0)) (mCons (mOp fSub (mCB fLen (mCons (mAttr ["Arms"] "bars" (mVar 0)) mNil)) (mC (.int 1))) mNil)))))) (mRaise "NoBar" ["number"] (mCons (mVar 1) mNil)) mNext)
    (mSeq (mAsg (gmSeq 3 (gmCons (gmName 2) (gmCons (gmName 3) (gmCons (gmName 4) gmNil)))) (mOp fIx (mAttr ["Arms"] "bars" (mVar 0)) (mVar 1)))
    (mRet (mMeth "Arms" "row_of" 2 [] m_Arms__row_of (mVar 0) (mCons (mTup (mCons (mVar 2) (mCons (mVar 3) mNil))) mNil)))))
def b_Arms__row_of (m_Arms__hinge_row m_Arms__row_of : List Dt → Hd → R Dt) : MS :=
  (mSeq (mAsg (gmSeq 2 (gmCons (gmName 2) (gmCons (gmName 3) gmNil))) (mCall 2 [] m_check_place (mCons (mVar 0) (mCons (mVar 1) mNil))))
    (mSeq (mIfS (mTest (mOp fEq (mVar 2) (mC (.int (-1))))) (mRet (mCall 3 [] m_row_at (mCons (mAttr ["Arms"] "letters" (mVar 0)) (mCons (mC (.int 0)) (mCons (mVar 3) mNil))))) mNext)
    (mSeq (mSet 4 (mOp fIx (mOp fIx (mAttr ["Arms"] "bars" (mVar 0)) (mVar 2)) (mC (.int 2))))
    (mRet (mCall 2 [] m_join_rows (mCons (mMeth "Arms" "hinge_row" 2 [] m_Arms__hinge_row (mVar 0) (mCons (mVar 2) mNil)) (mCons (mCall 3 [] m_row_at (mCons (mAttr ["Arms"] "letters" (mVar 0)) (mCons (mVar 4) (mCons (mVar 3) mNil)))) mNil)))))))
def rec_Arms__hinge_row : Nat → (List Dt → Hd → R Dt) × (List Dt → Hd → R Dt)
  | 0 => (mNone, mNone)
  | n + 1 => (mDef 5 (b_Arms__hinge_row (rec_Arms__hinge_row n).1 (rec_Arms__hinge_row n).2), mDef 5 (b_Arms__row_of (rec_Arms__hinge_row n).1 (rec_Arms__hinge_row n).2))
def m_Arms__hinge_row : List Dt → Hd → R Dt := (rec_Arms__hinge_row 16).1
def m_Arms__row_of : List Dt → Hd → R Dt := (rec_Arms__hinge_row 16).2
def b_times : MS :=
  (mRet (mCall 2 [] m_lowest_terms (mCons (mOp fMul (mOp fIx (mVar 0) (mC (.int 0))) (mOp fIx (mVar 1) (mC (.int 0)))) (mCons (mOp fMul (mOp fIx (mVar 0) (mC (.int 1))) (mOp fIx (mVar 1) (mC (.int 1)))) mNil))))
def m_times : List Dt → Hd → R Dt := mDef 2 b_times
def b_dot_of : MS :=
  (mRet (mCall 2 [] m_plus (mCons (mCall 2 [] m_times (mCons (mOp fIx (mVar 0) (mC (.int 0))) (mCons (mOp fIx (mVar 1) (mC (.int 0))) mNil))) (mCons (mCall 2 [] m_times (mCons (mOp fIx (mVar 0) (mC (.int 1))) (mCons (mOp fIx (mVar 1) (mC (.int 1))) mNil))) mNil))))
def m_dot_of : List Dt → Hd → R Dt := mDef 2 b_dot_of
def b_is_spot : MS :=
  (mRet (mAndV (mCall 3 [] m_is_row (mCons (mVar 0) (mCons (mC (.int 2)) (mCons (mC (.int 2)) mNil)))) (mAndV (mCall 1 [] m_is_ratio (mCons (mOp fIx (mVar 0) (mC (.int 0))) mNil)) (mCall 1 [] m_is_ratio (mCons (mOp fIx (mVar 0) (mC (.int 1))) mNil)))))
def m_is_spot : List Dt → Hd → R Dt := mDef 1 b_is_spot
def b_is_direction : MS :=
  (mRet (mAndV (mCall 1 [] m_is_spot (mCons (mVar 0) mNil)) (mOp fEq (mCall 2 [] m_dot_of (mCons (mVar 0) (mCons (mVar 0) mNil))) (mC (.tup [.int 1, .int 1])))))
def m_is_direction : List Dt → Hd → R Dt := mDef 1 b_is_direction
def b_first_wrong : MS :=
  (mSeq (mIfS (mNot (mTru (mCall 3 [.int 0, .non] m_is_row (mCons (mVar 0) mNil)))) (mRet (mC (.int 0))) mNext)
    (mSeq (mFor (gmSeq 2 (gmCons (gmName 3) (gmCons (gmName 4) gmNil))) (mEnum (mVar 0))
      (mIfS (mOr (mTest (mOp fGe (mVar 3) (mVar 1))) (mNot (mTru (mCallV 2 "is_direction" 1 m_is_direction (mCons (mVar 4) mNil))))) (mRet (mVar 3)) mNext))
    (mRet (mIf (mTest (mOp fEq (mCB fLen (mCons (mVar 0) mNil)) (mVar 1))) (mC .non) (mCB fLen (mCons (mVar 0) mNil))))))
def m_first_wrong : List Dt → Hd → R Dt := mDef 5 b_first_wrong
def b_check_pose : MS :=
  (mSeq (mSet 2 (mCall 3 [] m_first_wrong (mCons (mVar 1) (mCons (mAttr ["Arms"] "letters" (mVar 0)) (mCons (mC (.fn "is_direction")) mNil)))))
    (mSeq (mIfS (mTest (mOp fIsNot (mVar 2) (mC .non))) (mRaise "BadPose" ["index"] (mCons (mVar 2) mNil)) mNext)
    (mRet (mCB fTupC (mCons (mLc (gmName 3) (mSeqI (mVar 1)) mYes (mCB fTupC (mCons (mVar 3) mNil)) [3]) mNil)))))
def m_check_pose : List Dt → Hd → R Dt := mDef 4 b_check_pose
def b_sum_of : MS :=
  (mSeq (mSet 1 (mC (.tup [.int 0, .int 1])))
    (mSeq (mFor (gmName 2) (mSeqI (mVar 0))
      (mSet 1 (mCall 2 [] m_plus (mCons (mVar 1) (mCons (mVar 2) mNil)))))
    (mRet (mVar 1))))
def m_sum_of : List Dt → Hd → R Dt := mDef 3 b_sum_of
def b_product_of : MS :=
  (mRet (mCall 1 [] m_sum_of (mCons (mLc (gmSeq 2 (gmCons (gmName 2) (gmCons (gmName 3) gmNil))) (mZip (mVar 0) (mVar 1)) mYes (mCall 2 [] m_times (mCons (mVar 2) (mCons (mVar 3) mNil))) [2, 3]) mNil)))
def m_product_of : List Dt → Hd → R Dt := mDef 4 b_product_of
def b_spot_by : MS :=
  (mSeq (mSet 2 (mCall 2 [] m_product_of (mCons (mSl (mVar 0) (mPart (mC (.int 1))) mPartN) (mCons (mLc (gmName 3) (mSeqI (mVar 1)) mYes (mOp fIx (mVar 3) (mC (.int 0))) [3]) mNil))))
    (mSeq (mSet 4 (mCall 2 [] m_product_of (mCons (mSl (mVar 0) (mPart (mC (.int 1))) mPartN) (mCons (mLc (gmName 3) (mSeqI (mVar 1)) mYes (mOp fIx (mVar 3) (mC (.int 1))) [3]) mNil))))
    (mRet (mTup (mCons (mVar 2) (mCons (mCall 2 [] m_plus (mCons (mOp fIx (mVar 0) (mC (.int 0))) (mCons (mVar 4) mNil))) mNil))))))
def m_spot_by : List Dt → Hd → R Dt := mDef 5 b_spot_by
def b_place_at : MS :=
  (mSeq (mSet 1 (mCall 2 [] m_check_pose (mCons (mVar 0) (mCons (mVar 1) mNil))))
    (mRet (mCall 2 [] m_spot_by (mCons (mMeth "Arms" "row_of" 2 [] m_Arms__row_of (mVar 0) (mCons (mVar 2) mNil)) (mCons (mVar 1) mNil)))))
def m_place_at : List Dt → Hd → R Dt := mDef 3 b_place_at
def b_height_at : MS :=
  (mRet (mOp fIx (mCall 3 [] m_place_at (mCons (mVar 0) (mCons (mVar 1) (mCons (mVar 2) mNil)))) (mC (.int 1))))
def m_height_at : List Dt → Hd → R Dt := mDef 3 b_height_at
def b_hinges_at : MS :=
  (mSeq (mSet 1 (mCall 2 [] m_check_pose (mCons (mVar 0) (mCons (mVar 1) mNil))))
    (mRet (mCB fTupC (mCons (mLc (gmName 2) (mRng1 (mCB fLen (mCons (mAttr ["Arms"] "bars" (mVar 0)) mNil))) mYes (mCall 2 [] m_spot_by (mCons (mMeth "Arms" "hinge_row" 2 [] m_Arms__hinge_row (mVar 0) (mCons (mVar 2) mNil)) (mCons (mVar 1) mNil))) [2]) mNil))))
def m_hinges_at : List Dt → Hd → R Dt := mDef 3 b_hinges_at
def b_minus : MS :=
  (mRet (mCall 2 [] m_lowest_terms (mCons (mOp fSub (mOp fMul (mOp fIx (mVar 0) (mC (.int 0))) (mOp fIx (mVar 1) (mC (.int 1)))) (mOp fMul (mOp fIx (mVar 1) (mC (.int 0))) (mOp fIx (mVar 0) (mC (.int 1))))) (mCons (mOp fMul (mOp fIx (mVar 0) (mC (.int 1))) (mOp fIx (mVar 1) (mC (.int 1)))) mNil))))
def m_minus : List Dt → Hd → R Dt := mDef 2 b_minus
def b_take_row : MS :=
  (mRet (mCB fTupC (mCons (mLc (gmSeq 2 (gmCons (gmName 2) (gmCons (gmName 3) gmNil))) (mZip (mVar 0) (mVar 1)) mYes (mCall 2 [] m_minus (mCons (mVar 2) (mCons (mVar 3) mNil))) [2, 3]) mNil)))
def m_take_row : List Dt → Hd → R Dt := mDef 4 b_take_row
def b_Arms__difference_row : MS :=
  (mRet (mCall 2 [] m_take_row (mCons (mMeth "Arms" "row_of" 2 [] m_Arms__row_of (mVar 0) (mCons (mVar 1) mNil)) (mCons (mMeth "Arms" "row_of" 2 [] m_Arms__row_of (mVar 0) (mCons (mVar 2) mNil)) mNil))))
def m_Arms__difference_row : List Dt → Hd → R Dt := mDef 3 b_Arms__difference_row
def b_square_by : MS :=
  (mSeq (mSet 2 (mCall 2 [] m_spot_by (mCons (mVar 0) (mCons (mVar 1) mNil))))
    (mRet (mCall 2 [] m_dot_of (mCons (mVar 2) (mCons (mVar 2) mNil)))))
def m_square_by : List Dt → Hd → R Dt := mDef 3 b_square_by
def b_square_between : MS :=
  (mSeq (mSet 1 (mCall 2 [] m_check_pose (mCons (mVar 0) (mCons (mVar 1) mNil))))
    (mRet (mCall 2 [] m_square_by (mCons (mMeth "Arms" "difference_row" 3 [] m_Arms__difference_row (mVar 0) (mCons (mVar 2) (mCons (mVar 3) mNil))) (mCons (mVar 1) mNil)))))
def m_square_between : List Dt → Hd → R Dt := mDef 4 b_square_between
def b__law_called : MS :=
  (mSeq (mSet 5 (mTup (mCons (mC (.str "let")) (mCons (mC .non) mNil))))
    (mSeq (mTryQ ["BadPose", "BadPlace"] (mIfS (mTest (mOp fEq (mVar 0) (mC (.int 0)))) (mSet 5 (mTup (mCons (mC (.str "told")) (mCons (mCall 3 [] m_place_at (mCons (mVar 1) (mCons (mVar 2) (mCons (mVar 3) mNil)))) mNil)))) (mIfS (mTest (mOp fEq (mVar 0) (mC (.int 1)))) (mSet 5 (mTup (mCons (mC (.str "told")) (mCons (mCall 3 [] m_height_at (mCons (mVar 1) (mCons (mVar 2) (mCons (mVar 3) mNil)))) mNil)))) (mIfS (mTest (mOp fEq (mVar 0) (mC (.int 2)))) (mSet 5 (mTup (mCons (mC (.str "told")) (mCons (mCall 2 [] m_hinges_at (mCons (mVar 1) (mCons (mVar 2) mNil))) mNil)))) (mSet 5 (mTup (mCons (mC (.str "told")) (mCons (mCall 4 [] m_square_between (mCons (mVar 1) (mCons (mVar 2) (mCons (mVar 3) (mCons (mVar 4) mNil))))) mNil))))))) [("BadPose", some 6, xSet 5 (xTup (xCons (xC (.str "pose")) (xCons (xFld "index") xNil)))), ("BadPlace", none, fun _ => (mSet 5 (mTup (mCons (mC (.str "place")) (mCons (mC .non) mNil)))))])
    (mRet (mVar 5))))
def m__law_called : List Dt → Hd → R Dt := mDef 7 b__law_called
def b__law_form : MS :=
  (mRet (mIf (mTest (mOp fEq (mCall 2 [] m__law_take (mCons (mVar 0) (mCons (mC (.int 2)) mNil))) (mC (.int 0)))) (mCB fListC (mCons (mVar 1) mNil)) (mCB fTupC (mCons (mVar 1) mNil))))
def m__law_form : List Dt → Hd → R Dt := mDef 2 b__law_form
def b__law_is_ratio : MS :=
  (mSeq (mIfS (mOr (mNot (mTru (mIsi "tuple" (mVar 0)))) (mTest (mOp fNe (mCB fLen (mCons (mVar 0) mNil)) (mC (.int 2))))) (mRet (mC (.bl false))) mNext)
    (mSeq (mFor (gmName 1) (mSeqI (mVar 0))
      (mIfS (mOr (mNot (mTru (mIsi "int" (mVar 1)))) (mTru (mIsi "bool" (mVar 1)))) (mRet (mC (.bl false))) mNext))
    (mRet (mAndV (mOp fGe (mOp fIx (mVar 0) (mC (.int 1))) (mC (.int 1))) (mOp fEq (mCall 2 [] m__law_gcd (mCons (mOp fIx (mVar 0) (mC (.int 0))) (mCons (mOp fIx (mVar 0) (mC (.int 1))) mNil))) (mC (.int 1)))))))
def m__law_is_ratio : List Dt → Hd → R Dt := mDef 2 b__law_is_ratio
def b__law_is_place : MS :=
  (mSeq (mIfS (mOr (mNot (mTru (mIsi2 "list" "tuple" (mVar 0)))) (mTest (mOp fNe (mCB fLen (mCons (mVar 0) mNil)) (mC (.int 2))))) (mRet (mC (.bl false))) mNext)
    (mSeq (mIfS (mOr (mNot (mTru (mIsi "int" (mOp fIx (mVar 0) (mC (.int 0)))))) (mOr (mTru (mIsi "bool" (mOp fIx (mVar 0) (mC (.int 0))))) (mNot (mTest (mChain fLe fLt (mUn fNeg (mC (.int 1))) (mOp fIx (mVar 0) (mC (.int 0))) (mVar 1)))))) (mRet (mC (.bl false))) mNext)
    (mRet (mCall 1 [] m__law_is_ratio (mCons (mOp fIx (mVar 0) (mC (.int 1))) mNil)))))
def m__law_is_place : List Dt → Hd → R Dt := mDef 2 b__law_is_place
def b__law_stand : MS :=
  (mSeq (mAsg (gmSeq 2 (gmCons (gmName 3) (gmCons (gmName 4) gmNil))) (mVar 2))
    (mSeq (mSet 5 (mTup (mCons (mC (.int 0)) (mCons (mC (.int 1)) mNil))))
    (mSeq (mSet 6 (mTup (mCons (mC (.int 0)) (mCons (mC (.int 1)) mNil))))
    (mSeq (mFor (gmName 7) (mRng1 (mOp fAdd (mCB fLen (mCons (mVar 0) mNil)) (mC (.int 1))))
      (mSeq (mSet 8 (mIf (mTest (mOp fLt (mVar 3) (mC (.int 0)))) (mC (.int 0)) (mOp fIx (mOp fIx (mVar 0) (mVar 3)) (mC (.int 2)))))
    (mSeq (mSet 9 (mIf (mTest (mOp fEq (mVar 8) (mC (.int 0)))) (mTup (mCons (mTup (mCons (mC (.int 0)) (mCons (mC (.int 1)) mNil))) (mCons (mTup (mCons (mC (.int 1)) (mCons (mC (.int 1)) mNil))) mNil))) (mOp fIx (mVar 1) (mOp fSub (mVar 8) (mC (.int 1))))))
    (mSeq (mSet 5 (mCall 2 [] m__law_plus (mCons (mVar 5) (mCons (mCall 2 [] m__law_times (mCons (mVar 4) (mCons (mOp fIx (mVar 9) (mC (.int 0))) mNil))) mNil))))
    (mSeq (mSet 6 (mCall 2 [] m__law_plus (mCons (mVar 6) (mCons (mCall 2 [] m__law_times (mCons (mVar 4) (mCons (mOp fIx (mVar 9) (mC (.int 1))) mNil))) mNil))))
    (mSeq (mIfS (mTest (mOp fLt (mVar 3) (mC (.int 0)))) mBreak mNext)
    (mPar 3 4 (mCons (mOp fIx (mOp fIx (mVar 0) (mVar 3)) (mC (.int 0))) (mCons (mOp fIx (mOp fIx (mVar 0) (mVar 3)) (mC (.int 1))) mNil)))))))))
    (mRet (mTup (mCons (mVar 5) (mCons (mVar 6) mNil))))))))
def m__law_stand : List Dt → Hd → R Dt := mDef 10 b__law_stand
def b__law_gap : MS :=
  (mSeq (mSet 4 (mCall 3 [] m__law_stand (mCons (mVar 0) (mCons (mVar 1) (mCons (mVar 2) mNil)))))
    (mSeq (mSet 5 (mCall 3 [] m__law_stand (mCons (mVar 0) (mCons (mVar 1) (mCons (mVar 3) mNil)))))
    (mRet (mTup (mCons (mCall 2 [] m__law_less (mCons (mOp fIx (mVar 4) (mC (.int 0))) (mCons (mOp fIx (mVar 5) (mC (.int 0))) mNil))) (mCons (mCall 2 [] m__law_less (mCons (mOp fIx (mVar 4) (mC (.int 1))) (mCons (mOp fIx (mVar 5) (mC (.int 1))) mNil))) mNil))))))
def m__law_gap : List Dt → Hd → R Dt := mDef 6 b__law_gap
def b__law_same : MS :=
  (mSeq (mIfS (mOr (mNot (mTru (mIsi "tuple" (mVar 0)))) (mTest (mOp fNe (mCB fLen (mCons (mVar 0) mNil)) (mC (.int 2))))) (mRet (mC (.bl false))) mNext)
    (mSeq (mFor (gmName 2) (mSeqI (mVar 0))
      (mIfS (mOr (mNot (mTru (mIsi "int" (mVar 2)))) (mTru (mIsi "bool" (mVar 2)))) (mRet (mC (.bl false))) mNext))
    (mRet (mAndV (mOp fEq (mOp fIx (mVar 0) (mC (.int 0))) (mOp fIx (mVar 1) (mC (.int 0)))) (mOp fEq (mOp fIx (mVar 0) (mC (.int 1))) (mOp fIx (mVar 1) (mC (.int 1))))))))
def m__law_same : List Dt → Hd → R Dt := mDef 3 b__law_same
def b__law_same_row : MS :=
  (mSeq (mIfS (mOr (mNot (mTru (mIsi "tuple" (mVar 0)))) (mTest (mOp fNe (mCB fLen (mCons (mVar 0) mNil)) (mCB fLen (mCons (mVar 1) mNil))))) (mRet (mC (.bl false))) mNext)
    (mRet (mOp fEq (mLc (gmName 2) (mRng1 (mCB fLen (mCons (mVar 1) mNil))) (mNot (mTru (mCall 2 [] m__law_same (mCons (mOp fIx (mVar 0) (mVar 2)) (mCons (mOp fIx (mVar 1) (mVar 2)) mNil))))) (mVar 2) [2]) (mLst mNil))))
def m__law_same_row : List Dt → Hd → R Dt := mDef 3 b__law_same_row
def b__law_same_rows : MS :=
  (mSeq (mIfS (mOr (mNot (mTru (mIsi "tuple" (mVar 0)))) (mTest (mOp fNe (mCB fLen (mCons (mVar 0) mNil)) (mCB fLen (mCons (mVar 1) mNil))))) (mRet (mC (.bl false))) mNext)
    (mRet (mOp fEq (mLc (gmName 2) (mRng1 (mCB fLen (mCons (mVar 1) mNil))) (mNot (mTru (mCall 2 [] m__law_same_row (mCons (mOp fIx (mVar 0) (mVar 2)) (mCons (mOp fIx (mVar 1) (mVar 2)) mNil))))) (mVar 2) [2]) (mLst mNil))))
def m__law_same_rows : List Dt → Hd → R Dt := mDef 3 b__law_same_rows
def b__law_square : MS :=
  (mRet (mCall 2 [] m__law_plus (mCons (mCall 2 [] m__law_times (mCons (mOp fIx (mVar 0) (mC (.int 0))) (mCons (mOp fIx (mVar 0) (mC (.int 0))) mNil))) (mCons (mCall 2 [] m__law_times (mCons (mOp fIx (mVar 0) (mC (.int 1))) (mCons (mOp fIx (mVar 0) (mC (.int 1))) mNil))) mNil))))
def m__law_square : List Dt → Hd → R Dt := mDef 1 b__law_square
def b__law_right : MS :=
  (mSeq (mIfS (mTest (mOp fEq (mVar 0) (mC (.int 0)))) (mRet (mCall 2 [] m__law_same_row (mCons (mVar 5) (mCons (mCall 3 [] m__law_stand (mCons (mVar 1) (mCons (mVar 2) (mCons (mVar 3) mNil)))) mNil)))) mNext)
    (mSeq (mIfS (mTest (mOp fEq (mVar 0) (mC (.int 1)))) (mRet (mCall 2 [] m__law_same (mCons (mVar 5) (mCons (mOp fIx (mCall 3 [] m__law_stand (mCons (mVar 1) (mCons (mVar 2) (mCons (mVar 3) mNil)))) (mC (.int 1))) mNil)))) mNext)
    (mSeq (mIfS (mTest (mOp fEq (mVar 0) (mC (.int 2)))) (mRet (mCall 2 [] m__law_same_rows (mCons (mVar 5) (mCons (mCB fTupC (mCons (mLc (gmName 6) (mSeqI (mVar 1)) mYes (mCall 3 [] m__law_stand (mCons (mVar 1) (mCons (mVar 2) (mCons (mTup (mCons (mOp fIx (mVar 6) (mC (.int 0))) (mCons (mOp fIx (mVar 6) (mC (.int 1))) mNil))) mNil)))) [6]) mNil)) mNil)))) mNext)
    (mRet (mCall 2 [] m__law_same (mCons (mVar 5) (mCons (mCall 1 [] m__law_square (mCons (mCall 4 [] m__law_gap (mCons (mVar 1) (mCons (mVar 2) (mCons (mVar 3) (mCons (mVar 4) mNil))))) mNil)) mNil)))))))
def m__law_right : List Dt → Hd → R Dt := mDef 7 b__law_right
def b__law_asked : MS :=
  (mSeq (mSet 6 (mCall 2 [] m__law_is_place (mCons (mVar 4) (mCons (mCB fLen (mCons (mVar 1) mNil)) mNil))))
    (mSeq (mSet 7 (mCall 2 [] m__law_is_place (mCons (mVar 5) (mCons (mCB fLen (mCons (mVar 1) mNil)) mNil))))
    (mSeq (mSet 8 (mUn fNeg (mC (.int 1))))
    (mSeq (mSetO 9 (mToL (mLc (gmName 10) (mSeqI (mVar 3)) mYes (mCall 2 [] m__law_form (mCons (mVar 0) (mCons (mVar 10) mNil))) [10])))
    (mSeq (mIfS (mTest (mOp fEq (mCall 2 [] m__law_take (mCons (mVar 0) (mCons (mC (.int 6)) mNil))) (mC (.int 0)))) (mSeq (mSet 8 (mCall 2 [] m__law_take (mCons (mVar 0) (mCons (mCB fLen (mCons (mVar 3) mNil)) mNil))))
    (mSetI 9 (mVar 8) (mOp fIx (mLst (mCons (mTup (mCons (mTup (mCons (mC (.int 1)) (mCons (mC (.int 1)) mNil))) (mCons (mTup (mCons (mC (.int 1)) (mCons (mC (.int 1)) mNil))) mNil))) (mCons (mC .non) (mCons (mTup (mCons (mTup (mCons (mC (.int 0)) (mCons (mC (.int 1)) mNil))) mNil)) (mCons (mTup (mCons (mTup (mCons (mC (.int 1)) (mCons (mC (.int 2)) mNil))) (mCons (mTup (mCons (mC (.int 1)) (mCons (mC (.int 2)) mNil))) mNil))) mNil))))) (mCall 2 [] m__law_take (mCons (mVar 0) (mCons (mC (.int 4)) mNil)))))) mNext)
    (mSeq (mFrz [9] (mSet 9 (mCall 2 [] m__law_form (mCons (mVar 0) (mCons (mVar 9) mNil)))))
    (mSeq (mSet 11 (mBor 9 (mCB fRepr (mCons (mLst (mCons (mVar 9) (mCons (mVar 4) (mCons (mVar 5) mNil)))) mNil))))
    (mSeq (mFor (gmName 12) (mRng1 (mC (.int 4)))
      (mSeq (mSet 13 (mBor 9 (mCall 5 [] m__law_called (mCons (mVar 12) (mCons (mVar 2) (mCons (mVar 9) (mCons (mVar 4) (mCons (mVar 5) mNil))))))))
    (mIfS (mTest (mOp fGe (mVar 8) (mC (.int 0)))) (mIfS (mTest (mOp fNe (mVar 13) (mTup (mCons (mC (.str "pose")) (mCons (mVar 8) mNil))))) (mRet (mC (.bl false))) mNext) (mIfS (mAnd (mTest (mOp fNe (mVar 12) (mC (.int 2)))) (mOr (mNot (mTru (mVar 6))) (mAnd (mTest (mOp fEq (mVar 12) (mC (.int 3)))) (mNot (mTru (mVar 7)))))) (mIfS (mTest (mOp fNe (mOp fIx (mVar 13) (mC (.int 0))) (mC (.str "place")))) (mRet (mC (.bl false))) mNext) (mIfS (mOr (mTest (mOp fNe (mOp fIx (mVar 13) (mC (.int 0))) (mC (.str "told")))) (mNot (mTru (mCall 6 [] m__law_right (mCons (mVar 12) (mCons (mVar 1) (mCons (mVar 3) (mCons (mVar 4) (mCons (mVar 5) (mCons (mOp fIx (mVar 13) (mC (.int 1))) mNil)))))))))) (mRet (mC (.bl false))) mNext)))))
    (mFrz [9] (mRet (mOp fEq (mCB fRepr (mCons (mLst (mCons (mVar 9) (mCons (mVar 4) (mCons (mVar 5) mNil)))) mNil)) (mVar 11))))))))))))
def m__law_asked : List Dt → Hd → R Dt := mDef 14 b__law_asked
def b__law_most : MS :=
  (mRet (mCB fMax (mCons (mLc (gmName 1) (mSeqI (mVar 0)) mYes (mOp fIx (mVar 1) (mC (.int 2))) [1]) mNil)))
def m__law_most : List Dt → Hd → R Dt := mDef 2 b__law_most
def b__law_mark : MS :=
  (mRet (mCall 2 [] m__law_ratio (mCons (mOp fSub (mCall 2 [] m__law_take (mCons (mVar 0) (mCons (mC (.int 13)) mNil))) (mC (.int 4))) (mCons (mC (.int 2)) mNil))))
def m__law_mark : List Dt → Hd → R Dt := mDef 1 b__law_mark
def b__law_wide : MS :=
  (mSeq (mSet 1 (mCall 2 [] m__law_take (mCons (mVar 0) (mCons (mC (.int 8)) mNil))))
    (mSeq (mIfS (mTest (mOp fEq (mVar 1) (mC (.int 0)))) (mRet (mTup (mCons (mC (.int 0)) (mCons (mC (.int 1)) mNil)))) mNext)
    (mSeq (mIfS (mTest (mOp fEq (mVar 1) (mC (.int 1)))) (mRet (mCall 2 [] m__law_ratio (mCons (mOp fSub (mCall 2 [] m__law_take (mCons (mVar 0) (mCons (mOp fAdd (mOp fMul (mC (.int 2)) (mOp fPow (mC (.int 10)) (mC (.int 6)))) (mC (.int 1))) mNil))) (mOp fPow (mC (.int 10)) (mC (.int 6)))) (mCons (mOp fAdd (mC (.int 1)) (mCall 2 [] m__law_take (mCons (mVar 0) (mCons (mC (.int 12)) mNil)))) mNil)))) mNext)
    (mRet (mCall 1 [] m__law_mark (mCons (mVar 0) mNil))))))
def m__law_wide : List Dt → Hd → R Dt := mDef 2 b__law_wide
def b__law_any_place : MS :=
  (mSeq (mSet 2 (mIf (mTest (mOp fEq (mCall 2 [] m__law_take (mCons (mVar 0) (mCons (mC (.int 3)) mNil))) (mC (.int 0)))) (mOp fSub (mCB fLen (mCons (mVar 1) mNil)) (mC (.int 1))) (mOp fSub (mCall 2 [] m__law_take (mCons (mVar 0) (mCons (mOp fAdd (mCB fLen (mCons (mVar 1) mNil)) (mC (.int 1))) mNil))) (mC (.int 1)))))
    (mRet (mTup (mCons (mVar 2) (mCons (mCall 1 [] m__law_wide (mCons (mVar 0) mNil)) mNil)))))
def m__law_any_place : List Dt → Hd → R Dt := mDef 3 b__law_any_place
def b__law_odd : MS :=
  (mSeq (mSet 1 (mLst (mCons (mC .non) (mCons (mC (.bl true)) (mCons (mC (.int 3)) (mCons (mC (.str "1")) (mCons (mTup (mCons (mC (.int 2)) (mCons (mC (.int 4)) mNil))) (mCons (mTup (mCons (mC (.int 1)) (mCons (mC (.int 0)) mNil))) (mCons (mTup (mCons (mC (.int 1)) (mCons (mUn fNeg (mC (.int 2))) mNil))) (mCons (mLst (mCons (mC (.int 1)) (mCons (mC (.int 2)) mNil))) (mCons (mTup (mCons (mC (.bl true)) (mCons (mC (.int 1)) mNil))) (mCons (mTup (mCons (mC (.int 1)) (mCons (mC (.bl true)) mNil))) (mCons (mTup (mCons (mC (.int 1)) mNil)) (mCons (mTup (mCons (mC (.int 1)) (mCons (mC (.int 2)) (mCons (mC (.int 3)) mNil)))) (mCons (mTup (mCons (mC (.int 0)) (mCons (mC (.int 5)) mNil))) (mCons (mTup (mCons (mTup (mCons (mC (.int 1)) (mCons (mC (.int 1)) mNil))) (mCons (mC (.int 1)) mNil))) (mCons (mTup (mCons (mC (.int 1)) (mCons (mC (.int 1)) mNil))) mNil)))))))))))))))))
    (mRet (mOp fIx (mVar 1) (mCall 2 [] m__law_take (mCons (mVar 0) (mCons (mCB fLen (mCons (mVar 1) mNil)) mNil))))))
def m__law_odd : List Dt → Hd → R Dt := mDef 2 b__law_odd
def b__law_some_place : MS :=
  (mSeq (mSet 2 (mCall 2 [] m__law_any_place (mCons (mVar 0) (mCons (mVar 1) mNil))))
    (mSeq (mSet 3 (mCall 2 [] m__law_take (mCons (mVar 0) (mCons (mC (.int 8)) mNil))))
    (mSeq (mIfS (mTest (mOp fEq (mVar 3) (mC (.int 0)))) (mRet (mCall 2 [] m__law_form (mCons (mVar 0) (mCons (mTup (mCons (mOp fAdd (mCB fLen (mCons (mVar 1) mNil)) (mCall 2 [] m__law_take (mCons (mVar 0) (mCons (mC (.int 3)) mNil)))) (mCons (mOp fIx (mVar 2) (mC (.int 1))) mNil))) mNil)))) mNext)
    (mSeq (mIfS (mTest (mOp fEq (mVar 3) (mC (.int 1)))) (mRet (mOp fIx (mLst (mCons (mTup (mCons (mUn fNeg (mC (.int 2))) (mCons (mOp fIx (mVar 2) (mC (.int 1))) mNil))) (mCons (mTup (mCons (mOp fIx (mVar 2) (mC (.int 0))) (mCons (mCall 1 [] m__law_odd (mCons (mVar 0) mNil)) mNil))) (mCons (mTup (mCons (mC (.bl true)) (mCons (mOp fIx (mVar 2) (mC (.int 1))) mNil))) (mCons (mTup (mCons (mOp fIx (mVar 2) (mC (.int 0))) mNil)) (mCons (mC .non) (mCons (mC (.str "mast")) mNil))))))) (mCall 2 [] m__law_take (mCons (mVar 0) (mCons (mC (.int 6)) mNil))))) mNext)
    (mSeq (mIfS (mTest (mOp fEq (mVar 3) (mC (.int 2)))) (mSet 2 (mTup (mCons (mOp fIx (mVar 2) (mC (.int 0))) (mCons (mCall 2 [] m__law_ratio (mCons (mOp fSub (mCall 2 [] m__law_take (mCons (mVar 0) (mCons (mOp fMul (mC (.int 2)) (mOp fPow (mC (.int 10)) (mC (.int 40)))) mNil))) (mOp fPow (mC (.int 10)) (mC (.int 40)))) (mCons (mOp fAdd (mC (.int 1)) (mCall 2 [] m__law_take (mCons (mVar 0) (mCons (mOp fPow (mC (.int 10)) (mC (.int 9))) mNil)))) mNil))) mNil)))) mNext)
    (mRet (mCall 2 [] m__law_form (mCons (mVar 0) (mCons (mVar 2) mNil)))))))))
def m__law_some_place : List Dt → Hd → R Dt := mDef 4 b__law_some_place
def b__law_world : MS :=
  (mSeq (mSet 1 (mOp fIx (mLst (mCons (mC (.int 2)) (mCons (mC (.int 1)) (mCons (mC (.int 3)) (mCons (mC (.int 2)) (mCons (mC (.int 3)) (mCons (mC (.int 4)) (mCons (mC (.int 3)) (mCons (mC (.int 6)) mNil))))))))) (mCall 2 [] m__law_take (mCons (mVar 0) (mCons (mC (.int 8)) mNil)))))
    (mSeq (mSet 2 (mCB fMin (mCons (mVar 1) (mCons (mOp fIx (mLst (mCons (mC (.int 2)) (mCons (mC (.int 1)) (mCons (mC (.int 2)) (mCons (mC (.int 3)) (mCons (mC (.int 2)) (mCons (mC (.int 2)) (mCons (mC (.int 3)) (mCons (mC (.int 4)) mNil))))))))) (mCall 2 [] m__law_take (mCons (mVar 0) (mCons (mC (.int 8)) mNil)))) mNil))))
    (mSeq (mSetO 3 (mToL (mLc (gmName 4) (mRng1 (mVar 1)) mYes (mIf (mTest (mOp fLt (mVar 4) (mVar 2))) (mOp fAdd (mVar 4) (mC (.int 1))) (mCall 2 [] m__law_take (mCons (mVar 0) (mCons (mOp fAdd (mVar 2) (mC (.int 1))) mNil)))) [4])))
    (mSeq (mFor (gmName 4) (mRngD (mOp fSub (mVar 1) (mC (.int 1))) (mC (.int 0)))
      (mSeq (mSet 5 (mCall 2 [] m__law_take (mCons (mVar 0) (mCons (mOp fAdd (mVar 4) (mC (.int 1))) mNil))))
    (mSwp 3 (mVar 4) (mVar 5) (mIxO 3 (mVar 5)) (mIxO 3 (mVar 4)))))
    (mSeq (mSetO 6 (mLstO mNil))
    (mSeq (mFor (gmName 4) (mRng1 (mVar 1))
      (mSeq (mSet 7 (mIf (mTest (mOp fEq (mCall 2 [] m__law_take (mCons (mVar 0) (mCons (mC (.int 2)) mNil))) (mC (.int 0)))) (mOp fSub (mVar 4) (mC (.int 1))) (mOp fSub (mCall 2 [] m__law_take (mCons (mVar 0) (mCons (mOp fAdd (mVar 4) (mC (.int 1))) mNil))) (mC (.int 1)))))
    (mApp 6 (mTup (mCons (mVar 7) (mCons (mCall 1 [] m__law_wide (mCons (mVar 0) mNil)) (mCons (mIxO 3 (mVar 4)) mNil)))))))
    (mRet (mBor 6 (mCB fTupC (mCons (mVar 6) mNil))))))))))
def m__law_world : List Dt → Hd → R Dt := mDef 8 b__law_world
def b_law : MS :=
  (mSeq (mSet 2 (mCall 1 [] m__law_world (mCons (mVar 1) mNil)))
    (mSeq (mSet 3 (mMake "Arms" 1 [] m_Arms____init__ (mCons (mCall 2 [] m__law_form (mCons (mVar 1) (mCons (mVar 2) mNil))) mNil)))
    (mSeq (mSet 4 (mLst (mCons (mCall 2 [] m__law_any_pose (mCons (mVar 1) (mCons (mCall 1 [] m__law_most (mCons (mVar 2) mNil)) mNil))) (mCons (mCall 2 [] m__law_any_pose (mCons (mVar 1) (mCons (mCall 1 [] m__law_most (mCons (mVar 2) mNil)) mNil))) mNil))))
    (mSeq (mFor (gmName 5) (mRng1 (mC (.int 6)))
      (mSeq (mSet 6 (mCall 2 [] m__law_some_place (mCons (mVar 1) (mCons (mVar 2) mNil))))
    (mSeq (mSet 7 (mCall 2 [] m__law_some_place (mCons (mVar 1) (mCons (mVar 2) mNil))))
    (mIfS (mNot (mTru (mCallG 6 m__law_asked (mCons (mVar 1) (mCons (mVar 2) (mCons (mVar 3) (mCons (mOp fIx (mVar 4) (mOp fMod (mVar 5) (mC (.int 2)))) (mCons (mVar 6) (mCons (mVar 7) mNil))))))))) (mRet (mC (.bl false))) mNext))))
    (mRet (mC (.bl true)))))))
end Law


set_option Elab.async false
set_option linter.all false
set_option maxRecDepth 100000
namespace Law
open PySem PySem.Spec PyProof.Rows L2 Mir

theorem take_ok (s : Hd) {n : Int} (h : manyOk n) : m__law_take [.hnd, .int n] s = .ok (.int (takeV s n)) (takeS s n) := by
  show (if manyOk n then R.ok (Dt.int (takeV s n)) (takeS s n) else .bad) = _
  rw [if_pos h]
theorem is_whole_int (i : Int) (s : Hd) : m_is_whole [.int i, .non, .non] s = .ok (.bl true) s := by
  simp [m_is_whole, mDef, b_is_whole, startE, mSeq, mIfS, mOr, mNot, mTru, mIsi, mVar, mRet, mAndV, mOrV, mOp, mC, mNext, fTru, fIs]
theorem is_whole_bl (i : Bool) (a b : Dt) (s : Hd) : m_is_whole [.bl i, a, b] s = .ok (.bl false) s := by
  simp [m_is_whole, mDef, b_is_whole, startE, mSeq, mIfS, mOr, mNot, mTru, mIsi, mVar, mRet, mAndV, mOrV, mOp, mC, mNext, fTru, fIs]
theorem is_whole_tup (i : List Dt) (a b : Dt) (s : Hd) : m_is_whole [.tup i, a, b] s = .ok (.bl false) s := by
  simp [m_is_whole, mDef, b_is_whole, startE, mSeq, mIfS, mOr, mNot, mTru, mIsi, mVar, mRet, mAndV, mOrV, mOp, mC, mNext, fTru, fIs]
theorem is_whole_lst (i : List Dt) (a b : Dt) (s : Hd) : m_is_whole [.lst i, a, b] s = .ok (.bl false) s := by
  simp [m_is_whole, mDef, b_is_whole, startE, mSeq, mIfS, mOr, mNot, mTru, mIsi, mVar, mRet, mAndV, mOrV, mOp, mC, mNext, fTru, fIs]
theorem is_whole_non (a b : Dt) (s : Hd) : m_is_whole [.non, a, b] s = .ok (.bl false) s := by
  simp [m_is_whole, mDef, b_is_whole, startE, mSeq, mIfS, mOr, mNot, mTru, mIsi, mVar, mRet, mAndV, mOrV, mOp, mC, mNext, fTru, fIs]
theorem is_whole_str (x : Str) (a b : Dt) (s : Hd) : m_is_whole [.str x, a, b] s = .ok (.bl false) s := by
  simp [m_is_whole, mDef, b_is_whole, startE, mSeq, mIfS, mOr, mNot, mTru, mIsi, mVar, mRet, mAndV, mOrV, mOp, mC, mNext, fTru, fIs]
theorem is_whole_low (i l : Int) (s : Hd) : m_is_whole [.int i, .int l, .non] s = .ok (.bl (decide (l ≤ i))) s := by
  by_cases c : l ≤ i <;> simp [m_is_whole, mDef, b_is_whole, startE, mSeq, mIfS, mOr, mNot, mTru, mIsi, mVar, mRet, mAndV, mOrV, mOp, mC, mNext, fTru, fIs, fI, c]
theorem is_whole_high (i l : Int) (s : Hd) : m_is_whole [.int i, .non, .int l] s = .ok (.bl (decide (i ≤ l))) s := by
  by_cases c : i ≤ l <;> simp [m_is_whole, mDef, b_is_whole, startE, mSeq, mIfS, mOr, mNot, mTru, mIsi, mVar, mRet, mAndV, mOrV, mOp, mC, mNext, fTru, fIs, fI, c]
theorem is_whole_both (i l k : Int) (s : Hd) : m_is_whole [.int i, .int l, .int k] s = .ok (.bl (decide (l ≤ i) && decide (i ≤ k))) s := by
  by_cases c : l ≤ i <;> by_cases c2 : i ≤ k <;> simp [m_is_whole, mDef, b_is_whole, startE, mSeq, mIfS, mOr, mNot, mTru, mIsi, mVar, mRet, mAndV, mOrV, mOp, mC, mNext, fTru, fIs, fI, c, c2]
theorem sgcd_sz {t b : Int} {n : Nat} (h : b ≠ 0) (hs : Sz n b) : Sz n (sgcd t b) := by
  refine hs.le ?_
  rw [sgcd_abs]
  exact Nat.le_of_dvd (by omega) (Nat.gcd_dvd_right _ _)
theorem lowest_ok {t b : Int} (h : b ≠ 0) (hs : Sz 8000 b) (s : Hd) : m_lowest_terms [.int t, .int b] s = .ok (low t b) s := by
  have hd : DivOk (sgcd t b) := DivOk.of (sgcd_ne h) (sgcd_sz h hs) (by decide)
  have e : sgcd t b = if b < 0 then -((Nat.gcd t.natAbs b.natAbs : Nat) : Int) else ((Nat.gcd t.natAbs b.natAbs : Nat) : Int) := rfl
  by_cases c : b < 0
  · rw [if_pos c] at e
    rw [e] at hd
    simp [m_lowest_terms, mDef, b_lowest_terms, startE, mSeq, mSet, mCB, mCons, mVar, mNil, fGcd, mIfS, mTest, mOp, fI, mC, mUn, fNeg, mNext, mRet, mTup, c, hd, low, lowT, lowB, e]
  · rw [if_neg c] at e
    rw [e] at hd
    simp [m_lowest_terms, mDef, b_lowest_terms, startE, mSeq, mSet, mCB, mCons, mVar, mNil, fGcd, mIfS, mTest, mOp, fI, mC, mUn, fNeg, mNext, mRet, mTup, c, hd, low, lowT, lowB, e]
/-- the law's own greatest divisor -/
def gcdBody : MS := mPar 0 1 (mCons (mVar 1) (mCons (mOp fMod (mCB fIntC (mCons (mVar 0) mNil)) (mVar 1)) mNil))
theorem gcd_loop (s : Hd) : ∀ (n x y : Nat), y < n → loopW (mTru (mVar 1)) gcdBody n [.dat (.int x), .dat (.int y)] s = .ok (.nx [.dat (.int (Nat.gcd x y : Nat)), .dat (.int 0)]) s
  | 0, x, y, h => by omega
  | n + 1, x, y, h => by
    unfold loopW
    by_cases c : y = 0
    · subst c
      simp [mTru, mVar, fTru]
    · have c' : ((y : Int) != 0) = true := by
        simp
        omega
      have c2 : (y : Int) ≠ 0 := by omega
      have ih := gcd_loop s n y (x % y) (by have := Nat.mod_lt x (show 0 < y by omega); omega)
      have e : Int.fmod (x : Int) (y : Int) = ((x % y : Nat) : Int) := by
        rw [Int.fmod_eq_emod_of_nonneg _ (by omega)]
        rfl
      have eb : gcdBody [.dat (.int x), .dat (.int y)] s = .ok (.nx [.dat (.int y), .dat (.int ((x % y : Nat) : Int))]) s := by
        simp [gcdBody, mPar, mCons, mVar, mOp, mCB, mNil, fIntC, fI, c2, c, e]
      have eg : Nat.gcd y (x % y) = Nat.gcd x y := by rw [Nat.gcd_comm y, ← Nat.gcd_rec, Nat.gcd_comm]
      simp only [mTru, mVar, fTru, List.getElem?_cons_succ, List.getElem?_cons_zero, R.bind_ok, liftO_some, c', if_true, eb]
      rw [ih, eg]
theorem gcd_ok (a b : Int) (s : Hd) : m__law_gcd [.int a, .int b] s = .ok (.int (Nat.gcd a.natAbs b.natAbs : Nat)) s := by
  have ea : ∀ i : Int, (if i < 0 then -i else i) = ((i.natAbs : Nat) : Int) := fun i => by split <;> omega
  have h1 : mPar 0 1 (mCons (mCB fAbs (mCons (mVar 0) mNil)) (mCons (mCB fAbs (mCons (mVar 1) mNil)) mNil)) (startE 2 [.int a, .int b]) s = .ok (.nx [.dat (.int a.natAbs), .dat (.int b.natAbs)]) s := by
    simp [mPar, mCons, mCB, mVar, mNil, fAbs, startE, ea]
  have h2 := gcd_loop s (fuelE [.dat (.int a.natAbs), .dat (.int b.natAbs)]) a.natAbs b.natAbs (by simp [fuelE, absS]; omega)
  have h3 : mWhile (mTru (mVar 1)) gcdBody [.dat (.int a.natAbs), .dat (.int b.natAbs)] s = _ := h2
  show mDef 2 (mSeq _ (mSeq (mWhile (mTru (mVar 1)) gcdBody) _)) _ _ = _
  unfold mDef mSeq
  rw [h1]
  simp only [h3]
  simp [mRet, mVar]
theorem ratio_ok {t b : Int} (h : b ≠ 0) (hs : Sz 8000 b) (s : Hd) : m__law_ratio [.int t, .int b] s = .ok (low t b) s := by
  have hd : DivOk (sgcd t b) := DivOk.of (sgcd_ne h) (sgcd_sz h hs) (by decide)
  have e : sgcd t b = if b < 0 then -((Nat.gcd t.natAbs b.natAbs : Nat) : Int) else ((Nat.gcd t.natAbs b.natAbs : Nat) : Int) := rfl
  by_cases c : b < 0
  · rw [if_pos c] at e
    rw [e] at hd
    simp [m__law_ratio, mDef, b__law_ratio, startE, mSeq, mSet, mCall, mCons, mVar, mNil, gcd_ok, mIfS, mTest, mOp, fI, mC, mUn, fNeg, mNext, mRet, mTup, c, hd, low, lowT, lowB, e]
  · rw [if_neg c] at e
    rw [e] at hd
    simp [m__law_ratio, mDef, b__law_ratio, startE, mSeq, mSet, mCall, mCons, mVar, mNil, gcd_ok, mIfS, mTest, mOp, fI, mC, mUn, fNeg, mNext, mRet, mTup, c, hd, low, lowT, lowB, e]
/-! ### ratios -/
theorem sz_ok {a b c d : Int} {n : Nat} (hn : n ≤ 4000) (h1 : Sz n a) (h2 : Sz n b) (h3 : Sz n c) (h4 : Sz n d) : MulOk a d ∧ MulOk c b ∧ MulOk b d ∧ MulOk a c ∧ MulOk b c ∧ MulOk d a :=
  ⟨MulOk.of h1 h4 (by omega), MulOk.of h3 h2 (by omega), MulOk.of h2 h4 (by omega), MulOk.of h1 h3 (by omega), MulOk.of h2 h3 (by omega), MulOk.of h4 h1 (by omega)⟩
theorem at0 (a b : Int) : atI [Dt.int a, Dt.int b] 0 = some (.int a) := rfl
theorem at1 (a b : Int) : atI [Dt.int a, Dt.int b] 1 = some (.int b) := rfl
/-- two ratios whose numbers are small enough -/
structure Rs (n : Nat) (a b c d : Int) : Prop where
  hn : n ≤ 4000
  sa : Sz n a
  sb : Sz n b
  sc : Sz n c
  sd : Sz n d
  b0 : b ≠ 0
  d0 : d ≠ 0
theorem Rs.bd {n : Nat} {a b c d : Int} (r : Rs n a b c d) : b * d ≠ 0 ∧ Sz 8000 (b * d) := ⟨Int.mul_ne_zero r.b0 r.d0, (r.sb.mul r.sd).mono (by have := r.hn; omega)⟩
theorem plus_ok {n : Nat} {a b c d : Int} (r : Rs n a b c d) (s : Hd) : m_plus [rat a b, rat c d] s = .ok (low (a * d + c * b) (b * d)) s := by
  obtain ⟨m1, m2, m3, m4, m5, m6⟩ := sz_ok r.hn r.sa r.sb r.sc r.sd
  have l := lowest_ok (t := a * d + c * b) r.bd.1 r.bd.2 s
  simp [m_plus, mDef, b_plus, startE, mRet, mCall, mCons, mNil, mOp, mVar, mC, fIx, at0, at1, fMul, fAdd, m1, m2, m3, l]
theorem lplus_ok {n : Nat} {a b c d : Int} (r : Rs n a b c d) (s : Hd) : m__law_plus [rat a b, rat c d] s = .ok (low (a * d + c * b) (b * d)) s := by
  obtain ⟨m1, m2, m3, m4, m5, m6⟩ := sz_ok r.hn r.sa r.sb r.sc r.sd
  have l := ratio_ok (t := a * d + c * b) r.bd.1 r.bd.2 s
  simp [m__law_plus, mDef, b__law_plus, startE, mRet, mCall, mCons, mNil, mOp, mVar, mC, fIx, at0, at1, fMul, fAdd, m1, m2, m3, l]
theorem minus_ok {n : Nat} {a b c d : Int} (r : Rs n a b c d) (s : Hd) : m_minus [rat a b, rat c d] s = .ok (low (a * d - c * b) (b * d)) s := by
  obtain ⟨m1, m2, m3, m4, m5, m6⟩ := sz_ok r.hn r.sa r.sb r.sc r.sd
  have l := lowest_ok (t := a * d - c * b) r.bd.1 r.bd.2 s
  simp [m_minus, mDef, b_minus, startE, mRet, mCall, mCons, mNil, mOp, mVar, mC, fIx, at0, at1, fMul, fI, m1, m2, m3, l]
theorem lless_ok {n : Nat} {a b c d : Int} (r : Rs n a b c d) (s : Hd) : m__law_less [rat a b, rat c d] s = .ok (low (a * d - c * b) (b * d)) s := by
  obtain ⟨m1, m2, m3, m4, m5, m6⟩ := sz_ok r.hn r.sa r.sb r.sc r.sd
  have l := ratio_ok (t := a * d - c * b) r.bd.1 r.bd.2 s
  simp [m__law_less, mDef, b__law_less, startE, mRet, mCall, mCons, mNil, mOp, mVar, mC, fIx, at0, at1, fMul, fI, m1, m2, m3, l]
theorem times_ok {n : Nat} {a b c d : Int} (r : Rs n a b c d) (s : Hd) : m_times [rat a b, rat c d] s = .ok (low (a * c) (b * d)) s := by
  obtain ⟨m1, m2, m3, m4, m5, m6⟩ := sz_ok r.hn r.sa r.sb r.sc r.sd
  have l := lowest_ok (t := a * c) r.bd.1 r.bd.2 s
  simp [m_times, mDef, b_times, startE, mRet, mCall, mCons, mNil, mOp, mVar, mC, fIx, at0, at1, fMul, m3, m4, l]
theorem ltimes_ok {n : Nat} {a b c d : Int} (r : Rs n a b c d) (s : Hd) : m__law_times [rat a b, rat c d] s = .ok (low (a * c) (b * d)) s := by
  obtain ⟨m1, m2, m3, m4, m5, m6⟩ := sz_ok r.hn r.sa r.sb r.sc r.sd
  have l := ratio_ok (t := a * c) r.bd.1 r.bd.2 s
  simp [m__law_times, mDef, b__law_times, startE, mRet, mCall, mCons, mNil, mOp, mVar, mC, fIx, at0, at1, fMul, m3, m4, l]
theorem py_int (i : Int) : pyOk (.int i) = some (.int i) := by
  have e : SeqAt.shaped (.int i) = true := rfl
  simp [pyOk, toPy, e]
theorem py_str (x : Str) (h : SeqAt.shaped (.str x) = true) : pyOk (.str x) = some (.str x) := by simp [pyOk, toPy, h]
theorem py_rat (a b : Int) : pyOk (rat a b) = some (.tuple [.int a, .int b]) := by
  have e : SeqAt.shaped (.tuple [.int a, .int b]) = true := rfl
  simp [pyOk, toPy, toPyA, e]
theorem eq_int (i j : Int) : fEqB (.int i) (.int j) = some (i == j) := by simp [fEqB, py_int, PyData.eqv]
theorem eq_rat (a b c d : Int) : fEqB (rat a b) (rat c d) = some ((a == c) && (b == d)) := by simp [fEqB, py_rat, PyData.eqv, PyData.eqvAll]
end Law


set_option Elab.async false
set_option linter.all false
set_option maxRecDepth 100000
namespace Law
open PySem PySem.Spec PyProof.Rows L2 Mir
theorem isr_tup (a b : Int) (s : Hd) : m_is_ratio [rat a b] s = .ok (.bl (decide (1 ≤ b) && decide (Nat.gcd a.natAbs b.natAbs = 1))) s := by
  have e1 : fEqB (.int 2) (.int 2) = some true := by rw [eq_int]; rfl
  by_cases c : 1 ≤ b
  · by_cases c2 : Nat.gcd a.natAbs b.natAbs = 1
    · simp [m_is_ratio, mDef, b_is_ratio, startE, mSeq, mIfS, mOr, mNot, mTru, mIsi, mVar, fTru, mTest, mOp, mCB, mCons, mNil, fLen, fNe, e1, mC, mNext, mAsg, gmSeq, gmCons, gmName, gmNil, mRet, mAndV, mCall, is_whole_int, is_whole_low, c, fGcd, fEq, eq_int, c2]
    · have c3 : ((Nat.gcd a.natAbs b.natAbs : Nat) : Int) ≠ 1 := by omega
      simp [m_is_ratio, mDef, b_is_ratio, startE, mSeq, mIfS, mOr, mNot, mTru, mIsi, mVar, fTru, mTest, mOp, mCB, mCons, mNil, fLen, fNe, e1, mC, mNext, mAsg, gmSeq, gmCons, gmName, gmNil, mRet, mAndV, mCall, is_whole_int, is_whole_low, c, fGcd, fEq, eq_int, c2, c3]
  · simp [m_is_ratio, mDef, b_is_ratio, startE, mSeq, mIfS, mOr, mNot, mTru, mIsi, mVar, fTru, mTest, mOp, mCB, mCons, mNil, fLen, fNe, e1, mC, mNext, mAsg, gmSeq, gmCons, gmName, gmNil, mRet, mAndV, mCall, is_whole_int, is_whole_low, c]
section
variable {n : Nat} {p q : Rat}
theorem rs_of (hn : n ≤ 4000) (a : Bd n p) (b : Bd n q) : Rs n p.num (p.den : Int) q.num (q.den : Int) := ⟨hn, a.t, a.b, b.t, b.b, bt_ne p, bt_ne q⟩
theorem plus_q (hn : n ≤ 4000) (a : Bd n p) (b : Bd n q) (s : Hd) : m_plus [dq p, dq q] s = .ok (dq (p + q)) s := by
  rw [plus_ok (rs_of hn a b) s, low_add]
theorem lplus_q (hn : n ≤ 4000) (a : Bd n p) (b : Bd n q) (s : Hd) : m__law_plus [dq p, dq q] s = .ok (dq (p + q)) s := by
  rw [lplus_ok (rs_of hn a b) s, low_add]
theorem minus_q (hn : n ≤ 4000) (a : Bd n p) (b : Bd n q) (s : Hd) : m_minus [dq p, dq q] s = .ok (dq (p - q)) s := by
  rw [minus_ok (rs_of hn a b) s, low_sub]
theorem lless_q (hn : n ≤ 4000) (a : Bd n p) (b : Bd n q) (s : Hd) : m__law_less [dq p, dq q] s = .ok (dq (p - q)) s := by
  rw [lless_ok (rs_of hn a b) s, low_sub]
theorem times_q (hn : n ≤ 4000) (a : Bd n p) (b : Bd n q) (s : Hd) : m_times [dq p, dq q] s = .ok (dq (p * q)) s := by
  rw [times_ok (rs_of hn a b) s, low_mul']
theorem ltimes_q (hn : n ≤ 4000) (a : Bd n p) (b : Bd n q) (s : Hd) : m__law_times [dq p, dq q] s = .ok (dq (p * q)) s := by
  rw [ltimes_ok (rs_of hn a b) s, low_mul']
theorem isr_q (s : Hd) : m_is_ratio [dq p] s = .ok (.bl true) s := by
  have h := dq_is p
  rw [isr_tup, decide_eq_true (show 1 ≤ (p.den : Int) from h.pos), decide_eq_true (show Nat.gcd p.num.natAbs ((p.den : Int)).natAbs = 1 from h.co), Bool.and_self]
theorem eq_q : fEqB (dq p) (dq q) = some (decide (p = q)) := by
  rw [eq_rat, dq_beq]
end
/-- small numbers -/
theorem bd1 : Bd 1 (1 : Rat) := ⟨by unfold Sz; decide, by unfold Sz; decide⟩
theorem bd0 : Bd 1 (0 : Rat) := ⟨by unfold Sz; decide, by unfold Sz; decide⟩
theorem lratio_q {t b : Int} {n : Nat} (h : b ≠ 0) (hn : n ≤ 8000) (z1 : Sz n t) (z2 : Sz n b) (s : Hd) : ∃ q : Rat, m__law_ratio [.int t, .int b] s = .ok (dq q) s ∧ Bd n q ∧ q = (t : Rat) / (b : Rat) ∧ q.num = lowT t b ∧ (q.den : Int) = lowB t b := by
  have l := ratio_ok (t := t) h (z2.mono hn) s
  obtain ⟨q, e1, e2, e3⟩ := low_val t b h
  refine ⟨q, ?_, ⟨?_, ?_⟩, e3.trans (divInt_eq h), e1, e2⟩
  · rw [l]
    unfold low
    rw [← e1, ← e2]
  · rw [e1]
    exact z1.le (lowT_abs h)
  · rw [e2]
    exact z2.le (lowB_abs h)
end Law


set_option Elab.async false
set_option linter.all false
set_option maxRecDepth 100000
namespace Law
open PySem PySem.Spec PyProof.Rows L2 Mir
/-- a row of entries -/
def rD (N : Nat) (f : Nat → Rat) : List Dt := (List.range (N + 1)).map fun j => dq (f j)
def dR (N : Nat) (f : Nat → Rat) : Dt := .tup (rD N f)
def one (l : Nat) (q : Rat) : Nat → Rat := fun j => if j = l then q else 0
theorem zip_map {α : Type} (a b : α → Dt) : ∀ xs : List α, zipD (xs.map a) (xs.map b) = xs.map fun x => Dt.tup [a x, b x]
  | [] => rfl
  | x :: xs => by
    have h := zip_map a b xs
    unfold zipD at h ⊢
    simp [h]
theorem dq0 : (Dt.tup [.int 0, .int 1]) = dq 0 := rfl
theorem dq1 : (Dt.tup [.int 1, .int 1]) = dq 1 := rfl
theorem row_at_lc {N : Nat} (hN : N ≤ 10) (l : Nat) (q : Rat) (s : Hd) : loopC (gmName 3) mYes (mIf (mTest (mOp fEq (mVar 3) (mVar 1))) (mVar 2) (mC (.tup [.int 0, .int 1]))) [3] (rangeD 0 (N + 1)) [] [.dat (.int N), .dat (.int l), .dat (dq q), .no] s = .ok (.lst (rD N (one l q))) s := by
  refine lc_range (fun j => dq (one l q j)) (by omega) fun j _ => ⟨_, rfl, ?_⟩
  by_cases c : j = l
  · simp [mIf, mTest, mOp, mVar, fEq, eq_int, wipeE, one, mC, c]
  · have c2 : ¬ ((j : Int) = (l : Int)) := by omega
    simp [mIf, mTest, mOp, mVar, fEq, eq_int, wipeE, one, mC, c, c2, ← dq0]
theorem row_at_ok {N : Nat} (hN : N ≤ 10) (l : Nat) (q : Rat) (s : Hd) : m_row_at [.int N, .int l, dq q] s = .ok (dR N (one l q)) s := by
  have r := rng1_of (b := mOp fAdd (mVar 0) (mC (.int 1))) (ρ := [.dat (.int N), .dat (.int l), .dat (dq q), .no]) (s := s) (s' := s) (i := (N : Int) + 1) (N + 1) rfl (by omega) (by omega)
  have hh := (lc_of (g := gmName 3) (t := mYes) (a := mIf (mTest (mOp fEq (mVar 3) (mVar 1))) (mVar 2) (mC (.tup [.int 0, .int 1]))) (vs := [3]) r).trans (row_at_lc hN l q s)
  exact def_rt (ret_of (tup_of hh))
end Law


set_option Elab.async false
set_option linter.all false
set_option maxRecDepth 100000
namespace Law
open PySem PySem.Spec PyProof.Rows L2 Mir
def gm2 : GM := gmSeq 2 (gmCons (gmName 2) (gmCons (gmName 3) gmNil))
theorem zip_of {a b : ME} {ρ : Env'} {s s1 s2 : Hd} {d e : Dt} {xs ys : List Dt} (h1 : a ρ s = .ok d s1) (h2 : b ρ s1 = .ok e s2) (k1 : seqD d = some xs) (k2 : seqD e = some ys) : mZip a b ρ s = .ok (zipD xs ys) s2 := by
  unfold mZip
  rw [h1]
  simp only [R.bind]
  rw [h2]
  simp only [R.bind, k1, k2]
theorem zip_rD (N : Nat) (f g : Nat → Rat) : zipD (rD N f) (rD N g) = (List.range (N + 1)).map fun j => Dt.tup [dq (f j), dq (g j)] := zip_map _ _ _
/-- a comprehension over the couples of two rows -/
theorem pairs_lc {N n : Nat} (hN : N ≤ 10) (hn : n ≤ 4000) {f g : Nat → Rat} (op : Rat → Rat → Rat) {m : List Dt → Hd → R Dt} {d e : Dt} (hd : seqD d = some (rD N f)) (he : seqD e = some (rD N g))
    (hm : ∀ (p q : Rat) (s : Hd), Bd n p → Bd n q → m [dq p, dq q] s = .ok (dq (op p q)) s) (hf : ∀ j, j ≤ N → Bd n (f j)) (hg : ∀ j, j ≤ N → Bd n (g j)) (s : Hd) :
    mDef 4 (mRet (mCB fTupC (mCons (mLc gm2 (mZip (mVar 0) (mVar 1)) mYes (mCall 2 [] m (mCons (mVar 2) (mCons (mVar 3) mNil))) [2, 3]) mNil))) [d, e] s = .ok (dR N fun j => op (f j) (g j)) s := by
  have z : mZip (mVar 0) (mVar 1) [.dat d, .dat e, .no, .no] s = .ok (zipD (rD N f) (rD N g)) s := zip_of rfl rfl hd he
  refine def_rt (ret_of (tup_of ((lc_of z).trans ?_)))
  rw [zip_rD]
  refine lc_map (ρ := [.dat d, .dat e, .no, .no]) (fun j => Dt.tup [dq (f j), dq (g j)]) (fun j => dq (op (f j) (g j))) (List.range (N + 1)) (by rw [List.length_range]; omega) fun j hj => ⟨[.dat d, .dat e, .dat (dq (f j)), .dat (dq (g j))], rfl, ?_⟩
  have hj2 : j ≤ N := by have := List.mem_range.1 hj; omega
  have k := hm (f j) (g j) s (hf j hj2) (hg j hj2)
  simp [mCall, mCons, mVar, mNil, k]
section
variable {N n : Nat} {f g : Nat → Rat}
theorem join_ok (hN : N ≤ 10) (hn : n ≤ 4000) (hf : ∀ j, j ≤ N → Bd n (f j)) (hg : ∀ j, j ≤ N → Bd n (g j)) (s : Hd) : m_join_rows [dR N f, dR N g] s = .ok (dR N fun j => f j + g j) s :=
  pairs_lc hN hn (· + ·) rfl rfl (fun p q s a b => plus_q hn a b s) hf hg s
theorem take_rows_ok (hN : N ≤ 10) (hn : n ≤ 4000) (hf : ∀ j, j ≤ N → Bd n (f j)) (hg : ∀ j, j ≤ N → Bd n (g j)) {d : Dt} (hd : seqD d = some (rD N f)) (s : Hd) : m_take_row [d, dR N g] s = .ok (dR N fun j => f j - g j) s :=
  pairs_lc hN hn (· - ·) hd rfl (fun p q s a b => minus_q hn a b s) hf hg s
theorem seqI_of {a : ME} {ρ : Env'} {s s1 : Hd} {d : Dt} {xs : List Dt} (h1 : a ρ s = .ok d s1) (k1 : seqD d = some xs) : mSeqI a ρ s = .ok xs s1 := by
  unfold mSeqI
  rw [h1]
  cases d <;> simp_all [seqD, R.bind]
end
end Law


set_option Elab.async false
set_option linter.all false
set_option maxRecDepth 100000
namespace Law
open PySem PySem.Spec PyProof.Rows L2 Mir
structure Bars where
  n : Nat
  N : Nat
  h : Nat → Int
  m : Nat → Rat
  l : Nat → Nat
structure Bars.Ok (B : Bars) : Prop where
  n1 : 1 ≤ B.n
  n6 : B.n ≤ 6
  N1 : 1 ≤ B.N
  N4 : B.N ≤ 4
  h0 : ∀ i, i < B.n → -1 ≤ B.h i
  h1 : ∀ i, i < B.n → B.h i < i
  m : ∀ i, i < B.n → Bd 22 (B.m i)
  l : ∀ i, i < B.n → B.l i ≤ B.N
  all : ∀ k, 1 ≤ k → k ≤ B.N → ∃ i, i < B.n ∧ B.l i = k
def Bars.bar (B : Bars) (i : Nat) : Dt := .tup [.int (B.h i), dq (B.m i), .int (B.l i : Nat)]
def Bars.row (B : Bars) : List Dt := (List.range B.n).map B.bar
def Bars.d (B : Bars) : Dt := .tup B.row
def Bars.arms (B : Bars) : Dt := .obj "Arms" [("letters", .int (B.N : Nat)), ("bars", B.d)]
/-- the row of a place -/
def W (B : Bars) : Nat → Int → Rat → Nat → Rat
  | 0, _, q => one 0 q
  | k + 1, b, q => if b < 0 then one 0 q else fun j => W B k (B.h b.toNat) (B.m b.toNat) j + one (B.l b.toNat) q j
theorem eq22 : fEqB (.int 2) (.int 2) = some true := by rw [eq_int]; rfl
theorem i2_tup (ds : List Dt) : fIsi2 "list" "tuple" (.tup ds) = some true := by simp [fIsi2, tyN]; decide
theorem i2_lst (ds : List Dt) : fIsi2 "list" "tuple" (.lst ds) = some true := by simp [fIsi2, tyN]; decide
theorem row2_tup (a b : Dt) (s : Hd) : m_is_row [.tup [a, b], .int 2, .int 2] s = .ok (.bl true) s := by
  simp [m_is_row, mDef, b_is_row, startE, mSeq, mIfS, mNot, mTru, mIsi2, i2_tup, mVar, fTru, mNext, mRet, mAndV, mOrV, mOp, mCB, mCons, mNil, fLen, fI, fIs, mC, fGe, fLe]
theorem row2_lst (a b : Dt) (s : Hd) : m_is_row [.lst [a, b], .int 2, .int 2] s = .ok (.bl true) s := by
  simp [m_is_row, mDef, b_is_row, startE, mSeq, mIfS, mNot, mTru, mIsi2, i2_lst, mVar, fTru, mNext, mRet, mAndV, mOrV, mOp, mCB, mCons, mNil, fLen, fI, fIs, mC, fGe, fLe]
theorem bl_ne : (("bars" : Str) == ("letters" : Str)) = false := by decide +kernel
theorem lk_bars (x d : Dt) : List.lookup ("bars" : Str) [(("letters" : Str), x), (("bars" : Str), d)] = some d := by
  simp only [List.lookup, bl_ne, beq_self_eq_true]
theorem lk_letters (x d : Dt) : List.lookup ("letters" : Str) [(("letters" : Str), x), (("bars" : Str), d)] = some x := by
  simp only [List.lookup, beq_self_eq_true]
theorem whole_both (i l k : Int) (s : Hd) : m_is_whole [.int i, .int l, .int k] s = .ok (.bl (decide (l ≤ i) && decide (i ≤ k))) s := is_whole_both i l k s
theorem bars_len (B : Bars) : B.row.length = B.n := by simp [Bars.row]
section
variable {B : Bars} (ok : B.Ok) {b : Int} {q : Rat} (h0 : -1 ≤ b) (h1 : b < B.n)
include ok h0 h1
/-- a place as a list or a tuple -/
theorem place_ok {d : Dt} (hd : d = .tup [.int b, dq q] ∨ d = .lst [.int b, dq q]) (s : Hd) : m_is_place [B.arms, d] s = .ok (.bl true) s := by
  have e1 : m_is_row [d, .int 2, .int 2] s = .ok (.bl true) s := by rcases hd with rfl | rfl <;> simp [row2_tup, row2_lst]
  have e2 : m_is_whole [.int b, .int (-1), .int ((B.n : Int) - 1)] s = .ok (.bl true) s := by
    rw [is_whole_both, decide_eq_true h0, decide_eq_true (show b ≤ (B.n : Int) - 1 by omega)]; rfl
  have e3 : m_is_ratio [dq q] s = .ok (.bl true) s := isr_q s
  have e4 : fLen [B.d] = some (.int B.n) := by simp [Bars.d, fLen, bars_len]
  generalize hq : dq q = Q at *
  generalize hB : B.d = D at *
  rcases hd with rfl | rfl <;>
  simp [m_is_place, mDef, b_is_place, startE, mSeq, mIfS, mNot, mTru, mCall, mCons, mNil, mVar, mC, e1, fTru, mNext, mAsg, gmSeq, gmCons, gmName, gmNil, mRet, mAndV, mOp, mCB, mAttr, Bars.arms, hB, e4, fI, fSub, e2, e3, lk_bars, liftO, R.bind]
theorem checked_ok {d : Dt} (hd : d = .tup [.int b, dq q] ∨ d = .lst [.int b, dq q]) (s : Hd) : m_check_place [B.arms, d] s = .ok (.tup [.int b, dq q]) s := by
  have e := place_ok ok h0 h1 hd s
  generalize hB : B.arms = A at *
  generalize hq : dq q = Q at *
  rcases hd with rfl | rfl <;>
  simp [m_check_place, mDef, b_check_place, startE, mSeq, mIfS, mNot, mTru, mCall, mCons, mNil, mVar, e, fTru, mNext, mRet, mCB, fTupC]
end
end Law


set_option Elab.async false
set_option linter.all false
set_option maxRecDepth 100000
namespace Law
open PySem PySem.Spec PyProof.Rows L2 Mir
theorem one_bd {n : Nat} {l : Nat} {q : Rat} (hn : 1 ≤ n) (h : Bd n q) (j : Nat) : Bd n (one l q j) := by
  unfold one
  by_cases c : j = l
  · rw [if_pos c]; exact h
  · rw [if_neg c]; exact bd0.mono hn
theorem W_bd {B : Bars} (ok : B.Ok) : ∀ (k n : Nat) (b : Int) (q : Rat), b < B.n → 1 ≤ n → Bd n q → ∀ j, Bd (n + 24 * k) (W B k b q j)
  | 0, n, b, q, _, hn, hq, j => one_bd hn hq j
  | k + 1, n, b, q, hb, hn, hq, j => by
    unfold W
    by_cases c : b < 0
    · rw [if_pos c]; exact (one_bd hn hq j).mono (by omega)
    · rw [if_neg c]
      have hi : b.toNat < B.n := by omega
      have h1 := ok.h1 b.toNat hi
      have a := W_bd ok k 22 (B.h b.toNat) (B.m b.toNat) (by omega) (by omega) (ok.m b.toNat hi) j
      exact (a.add (one_bd hn hq j)).mono (by omega)
theorem lk_row_of (x d : Dt) : List.lookup ("row_of" : Str) [(("letters" : Str), x), (("bars" : Str), d)] = none := by
  have e1 : (("row_of" : Str) == ("letters" : Str)) = false := by decide +kernel
  have e2 : (("row_of" : Str) == ("bars" : Str)) = false := by decide +kernel
  simp only [List.lookup, e1, e2]
theorem lk_hinge (x d : Dt) : List.lookup ("hinge_row" : Str) [(("letters" : Str), x), (("bars" : Str), d)] = none := by
  have e1 : (("hinge_row" : Str) == ("letters" : Str)) = false := by decide +kernel
  have e2 : (("hinge_row" : Str) == ("bars" : Str)) = false := by decide +kernel
  simp only [List.lookup, e1, e2]
theorem atI_row (B : Bars) {b : Int} (h0 : 0 ≤ b) (h1 : b < B.n) : atI B.row b = some (B.bar b.toNat) := by
  have e : B.row[b.toNat]? = some (B.bar b.toNat) := by
    unfold Bars.row
    rw [List.getElem?_map, List.getElem?_range (by omega)]
    rfl
  have e2 : ixN B.row.length b = some b.toNat := by
    unfold ixN
    rw [if_pos h0, if_pos (by rw [bars_len]; exact h1)]
  unfold atI
  rw [e2]
  exact e
abbrev rc := rec_Arms__hinge_row
section
variable {B : Bars} (ok : B.Ok)
include ok
theorem hinge_step {t : Nat} {b : Int} (h0 : 0 ≤ b) (h1 : b < B.n) {d : Dt} {s s' : Hd} (hr : (rc t).2 [B.arms, .tup [.int (B.h b.toNat), dq (B.m b.toNat)]] s = .ok d s') : (rc (t + 1)).1 [B.arms, .int b] s = .ok d s' := by
  show mDef 5 (b_Arms__hinge_row (rc t).1 (rc t).2) [B.arms, .int b] s = _
  have e2 : m_is_whole [.int b, .int 0, .int ((B.n : Int) - 1)] s = .ok (.bl true) s := by
    rw [is_whole_both, decide_eq_true h0, decide_eq_true (show b ≤ (B.n : Int) - 1 by omega)]; rfl
  have e4 : fLen [B.d] = some (.int B.n) := by simp [Bars.d, fLen, bars_len]
  have e5 : fIx B.d (.int b) = some (B.bar b.toNat) := atI_row B h0 h1
  unfold Bars.bar at e5
  unfold Bars.arms at hr ⊢
  generalize (rc t).1 = m1 at *
  generalize (rc t).2 = m2 at *
  generalize dq (B.m b.toNat) = Q at *
  generalize B.h b.toNat = hh at *
  generalize B.l b.toNat = ll at *
  generalize B.d = D at *
  simp [mDef, b_Arms__hinge_row, startE, mSeq, mIfS, mNot, mTru, mCall, mCons, mNil, mVar, mC, mOp, mCB, mAttr, lk_bars, e4, fI, fSub, e2, fTru, mNext, mAsg, e5, gmSeq, gmCons, gmName, gmNil, mRet, mMeth, lk_row_of, mTup, hr]
end
end Law


set_option Elab.async false
set_option linter.all false
set_option maxRecDepth 100000
namespace Law
open PySem PySem.Spec PyProof.Rows L2 Mir
theorem feq_t (i j : Int) (h : i = j) : fEq (.int i) (.int j) = some (.bl true) := by simp [fEq, eq_int, h]
theorem feq_f (i j : Int) (h : i ≠ j) : fEq (.int i) (.int j) = some (.bl false) := by simp [fEq, eq_int, h]
section
variable {B : Bars} (ok : B.Ok)
include ok
theorem row_step0 {t : Nat} {q : Rat} {d : Dt} (hd : d = .tup [.int (-1), dq q] ∨ d = .lst [.int (-1), dq q]) (s : Hd) : (rc (t + 1)).2 [B.arms, d] s = .ok (dR B.N (one 0 q)) s := by
  have e1 := checked_ok ok (b := -1) (q := q) (by omega) (by omega) hd s
  have e2 : m_row_at [.int B.N, .int 0, dq q] s = .ok (dR B.N (one 0 q)) s := row_at_ok (by have := ok.N4; omega) 0 q s
  have e3 := feq_t (-1) (-1) rfl
  have l1 := lk_letters (.int (B.N : Nat)) B.d
  show mDef 5 (b_Arms__row_of (rc t).1 (rc t).2) [B.arms, d] s = _
  refine es_def (ρ := [.dat B.arms, .dat d, .no, .no, .no]) rfl ?_
  unfold b_Arms__row_of
  refine es_seq (es_asg (by sizeOf_list_dec) rfl) ?_
  refine seq_rt (es_if_t (by array_mem_dec) (es_ret ?_))
  sizeOf_list_dec
theorem row_step {t n : Nat} {b : Int} {q : Rat} (h0 : 0 ≤ b) (h1 : b < B.n) {f : Nat → Rat} {d : Dt} (hd : d = .tup [.int b, dq q] ∨ d = .lst [.int b, dq q]) {s : Hd} (hh : (rc t).1 [B.arms, .int b] s = .ok (dR B.N f) s) (hn : n ≤ 4000) (n1 : 1 ≤ n)
    (hf : ∀ j, j ≤ B.N → Bd n (f j)) (hq : Bd n q) : (rc (t + 1)).2 [B.arms, d] s = .ok (dR B.N fun j => f j + one (B.l b.toNat) q j) s := by
  have N4 := ok.N4
  have e1 := checked_ok ok (b := b) (q := q) (by omega) (by omega) hd s
  have e2 := row_at_ok (N := B.N) (by omega) (B.l b.toNat) q s
  have e3 := feq_f b (-1) (by omega)
  have e5 : fIx B.d (.int b) = some (B.bar b.toNat) := atI_row B h0 h1
  have e7 := join_ok (N := B.N) (by omega) hn hf (fun j _ => one_bd n1 hq (l := B.l b.toNat) j) s
  have l1 := lk_letters (.int (B.N : Nat)) B.d
  have l2 := lk_bars (.int (B.N : Nat)) B.d
  have l3 := lk_hinge (.int (B.N : Nat)) B.d
  show mDef 5 (b_Arms__row_of (rc t).1 (rc t).2) [B.arms, d] s = _
  refine es_def (ρ := [.dat B.arms, .dat d, .no, .no, .no]) rfl ?_
  unfold b_Arms__row_of
  unfold Bars.arms at *
  refine es_seq (es_asg (by sizeOf_list_dec) rfl) ?_
  refine es_seq (es_if_f (by array_mem_dec) es_next) ?_
  refine es_seq (es_set (d := .int (B.l b.toNat)) (by sizeOf_list_dec)) ?_
  refine es_ret ?_
  sizeOf_list_dec
theorem row_rec : ∀ (k x : Nat) (b : Int) (n : Nat) (q : Rat) (d : Dt), -1 ≤ b → b < B.n → b < k → 22 ≤ n → n + 24 * k ≤ 4000 → Bd n q → (d = .tup [.int b, dq q] ∨ d = .lst [.int b, dq q]) → ∀ s, (rc (2 * k + 1 + x)).2 [B.arms, d] s = .ok (dR B.N (W B k b q)) s
  | 0, x, b, n, q, d, h0, h1, hk, hn, hm, hq, hd, s => by
    have e : b = -1 := by omega
    subst e
    rw [show 2 * 0 + 1 + x = x + 1 by omega]
    exact row_step0 ok hd s
  | k + 1, x, b, n, q, d, h0, h1, hk, hn, hm, hq, hd, s => by
    unfold W
    rw [show 2 * (k + 1) + 1 + x = (2 * k + 2 + x) + 1 by omega]
    by_cases c : b < 0
    · have e : b = -1 := by omega
      subst e
      rw [if_pos c]
      exact row_step0 ok hd s
    · rw [if_neg c]
      have hi : b.toNat < B.n := by omega
      have m1 := ok.h1 _ hi
      have m0 := ok.h0 _ hi
      have ih := row_rec k x (B.h b.toNat) 22 (B.m b.toNat) (.tup [.int (B.h b.toNat), dq (B.m b.toNat)]) m0 (by omega) (by omega) (by omega) (by omega) (ok.m _ hi) (.inl rfl) s
      have hh := hinge_step ok (t := 2 * k + 1 + x) (by omega) h1 ih
      rw [show 2 * k + 1 + x + 1 = 2 * k + 2 + x by omega] at hh
      exact row_step ok (n := n + 24 * k) (by omega) h1 hd hh (by omega) (by omega) (fun j _ => (W_bd ok k 22 _ _ (by omega) (by omega) (ok.m _ hi) j).mono (by omega)) (hq.mono (by omega))
/-- the row of a place -/
def Rw (B : Bars) (b : Int) (q : Rat) : Nat → Rat := W B 7 b q
theorem row_of_ok {b : Int} {n : Nat} {q : Rat} {d : Dt} (h0 : -1 ≤ b) (h1 : b < B.n) (hn : n ≤ 2900) (hq : Bd n q) (hd : d = .tup [.int b, dq q] ∨ d = .lst [.int b, dq q]) (s : Hd) : m_Arms__row_of [B.arms, d] s = .ok (dR B.N (Rw B b q)) s := by
  have n6 := ok.n6
  have h := row_rec ok 7 1 b (n + 22) q d h0 h1 (by omega) (by omega) (by omega) (hq.mono (by omega)) hd s
  exact h
theorem W_fuel : ∀ (k : Nat) (b : Int) (q : Rat), b < k → b < B.n → W B (k + 1) b q = W B k b q
  | 0, b, q, h, _ => by
    unfold W
    rw [if_pos (by omega)]
  | k + 1, b, q, h, h1 => by
    rw [W]
    conv => rhs; rw [W]
    by_cases c : b < 0
    · rw [if_pos c, if_pos c]
    · rw [if_neg c, if_neg c]
      have m1 := ok.h1 _ (show b.toNat < B.n by omega)
      rw [W_fuel k (B.h b.toNat) (B.m b.toNat) (by omega) (by omega)]
theorem R_zero {b : Int} (h0 : 0 ≤ b) (h1 : b < B.n) : Rw B b 0 = Rw B (B.h b.toNat) (B.m b.toNat) := by
  have n6 := ok.n6
  have m1 := ok.h1 _ (show b.toNat < B.n by omega)
  unfold Rw
  rw [show (7 : Nat) = 6 + 1 from rfl, W_fuel ok 6 (B.h b.toNat) (B.m b.toNat) (by omega) (by omega), W, if_neg (by omega)]
  funext j
  unfold one
  split <;> exact Rat.add_zero _
theorem hinge_ok {b : Int} (h0 : 0 ≤ b) (h1 : b < B.n) (s : Hd) : m_Arms__hinge_row [B.arms, .int b] s = .ok (dR B.N (Rw B b 0)) s := by
  have n6 := ok.n6
  have hi : b.toNat < B.n := by omega
  have m1 := ok.h1 _ hi
  have m0 := ok.h0 _ hi
  rw [R_zero ok h0 h1]
  have h := row_rec ok 7 0 (B.h b.toNat) 22 (B.m b.toNat) (.tup [.int (B.h b.toNat), dq (B.m b.toNat)]) m0 (by omega) (by omega) (by omega) (by omega) (ok.m _ hi) (.inl rfl) s
  exact hinge_step ok (t := 15) h0 h1 h
theorem R_bd {b : Int} {n : Nat} {q : Rat} (h1 : b < B.n) (hn : 1 ≤ n) (hq : Bd n q) (j : Nat) : Bd (n + 168) (Rw B b q j) := W_bd ok 7 n b q h1 hn hq j
theorem diff_ok {b b2 : Int} {n : Nat} {q q2 : Rat} {d d2 : Dt} (h0 : -1 ≤ b) (h1 : b < B.n) (g0 : -1 ≤ b2) (g1 : b2 < B.n) (n1 : 1 ≤ n) (hn : n ≤ 2900) (hq : Bd n q) (hq2 : Bd n q2) (hd : d = .tup [.int b, dq q] ∨ d = .lst [.int b, dq q]) (hd2 : d2 = .tup [.int b2, dq q2] ∨ d2 = .lst [.int b2, dq q2]) (s : Hd) :
    m_Arms__difference_row [B.arms, d, d2] s = .ok (dR B.N fun j => Rw B b q j - Rw B b2 q2 j) s := by
  have N4 := ok.N4
  have e1 := row_of_ok ok h0 h1 hn hq hd s
  have e2 := row_of_ok ok g0 g1 hn hq2 hd2 s
  have e3 := take_rows_ok (N := B.N) (by omega) (by omega) (fun j _ => R_bd ok h1 n1 hq j) (fun j _ => R_bd ok g1 n1 hq2 j) (d := dR B.N (Rw B b q)) rfl s
  have l3 := lk_row_of (.int (B.N : Nat)) B.d
  refine es_def (ρ := [.dat B.arms, .dat d, .dat d2]) rfl ?_
  unfold b_Arms__difference_row
  unfold Bars.arms at *
  refine es_ret ?_
  sizeOf_list_dec
end
end Law


set_option Elab.async false
set_option linter.all false
set_option maxRecDepth 100000
namespace Law
open PySem PySem.Spec PyProof.Rows L2 Mir
theorem intsD_map {α : Type} (f : α → Int) : ∀ l : List α, intsD (l.map fun x => Dt.int (f x)) = some (l.map f)
  | [] => rfl
  | x :: l => by
    rw [List.map_cons]
    unfold intsD
    rw [intsD_map f l]
    rfl
theorem max_of {a : ME} {ρ : Env'} {s s1 : Hd} {n : Nat} {f : Nat → Int} {m : Int} (h : a ρ s = .ok (.lst ((List.range n).map fun i => Dt.int (f i))) s1) (hm : ∀ i, i < n → f i ≤ m) (hx : ∃ i, i < n ∧ f i = m) : mCB fMax (mCons a mNil) ρ s = .ok (.int m) s1 := by
  refine ev_cb (ev_cons h ev_nil) ?_
  obtain ⟨i, hi, e⟩ := hx
  unfold fMax
  simp only [intsD_map f]
  cases n with
  | zero => omega
  | succ n =>
    rw [List.range_succ_eq_map, List.map_cons]
    simp only [Option.some.injEq, Dt.int.injEq]
    generalize hl : List.map f (List.map Nat.succ (List.range n)) = l
    have all : ∀ x ∈ l, x ≤ m := by
      intro x hx
      rw [← hl] at hx
      simp only [List.mem_map, List.mem_range] at hx
      obtain ⟨y, ⟨z, hz, rfl⟩, rfl⟩ := hx
      exact hm _ (by omega)
    have h0 := hm 0 (by omega)
    obtain ⟨g0, g1⟩ := maxI_ge l (f 0)
    have hmem : f i = f 0 ∨ f i ∈ l := by
      rcases Nat.eq_zero_or_pos i with rfl | hp
      · exact .inl rfl
      · refine .inr ?_
        rw [← hl]
        simp only [List.mem_map, List.mem_range]
        exact ⟨i, ⟨i - 1, by omega, by omega⟩, rfl⟩
    have up : maxI (f 0) l ≤ m := by
      rcases maxI_mem l (f 0) with q | q
      · rw [q]; exact h0
      · exact all _ q
    have low : m ≤ maxI (f 0) l := by
      rcases hmem with q | q
      · rw [← e, q]; exact g0
      · rw [← e]; exact g1 _ q
    omega
section
variable {B : Bars} (ok : B.Ok)
include ok
theorem most_ok (s : Hd) : m__law_most [B.d] s = .ok (.int (B.N : Nat)) s := by
  have z : mSeqI (mVar 0) [.dat B.d, .no] s = .ok B.row s := ev_seqI (ev_var rfl) rfl
  obtain ⟨i, hi, ei⟩ := ok.all B.N ok.N1 (Nat.le_refl _)
  have N4 := ok.N4
  have n6 := ok.n6
  refine es_def (ρ := [.dat B.d, .no]) rfl ?_
  unfold b__law_most
  refine es_ret (max_of (n := B.n) (f := fun i => (B.l i : Int)) (ev_lc z ?_) (fun i hi => by have := ok.l i hi; omega) ⟨i, hi, by omega⟩)
  exact lc_map (ρ := [.dat B.d, .no]) B.bar (fun i => .int (B.l i : Nat)) (List.range B.n) (by rw [List.length_range]; omega) fun j hj => ⟨[.dat B.d, .dat (B.bar j)], rfl, by
    have e6 : fIx (B.bar j) (.int 2) = some (.int (B.l j)) := rfl
    sizeOf_list_dec⟩
end
theorem rD_fD (N : Nat) (f : Nat → Rat) : rD N f = fD dq (N + 1) f := rfl
theorem toL_of {m : ME} {ρ : Env'} {s s1 : Hd} {ds : List Dt} (h : m ρ s = .ok (.lst ds) s1) : mToL m ρ s = .ok ds s1 := by
  unfold mToL
  rw [h]
  rfl
theorem lfree_dR (N : Nat) (f : Nat → Rat) : lfree (dR N f) = true := by
  show lfreeA (rD N f) = true
  rw [lfreeA_all, rD_fD]
  exact fD_all fun i hi => rfl
theorem flt_t {i j : Int} (h : i < j) : fLt (.int i) (.int j) = some (.bl true) := by simp [fI, h]
theorem flt_f {i j : Int} (h : ¬ i < j) : fLt (.int i) (.int j) = some (.bl false) := by simp [fI, h]
end Law


set_option Elab.async false
set_option linter.all false
set_option maxRecDepth 100000
namespace Law
open PySem PySem.Spec PyProof.Rows L2 Mir
def sumR : Nat → (Nat → Rat) → Rat
  | 0, _ => 0
  | n + 1, h => sumR n h + h n
theorem sumR_bd {m : Nat} (hm : 1 ≤ m) {h : Nat → Rat} : ∀ n : Nat, (∀ i, i < n → Bd m (h i)) → Bd ((m + 1) * n + 1) (sumR n h)
  | 0, _ => bd0.mono (by omega)
  | n + 1, hh => by
    have a := sumR_bd hm n (fun i hi => hh i (by omega))
    have b := hh n (by omega)
    refine (a.add b).mono ?_
    rw [Nat.mul_succ]
    omega
theorem sumR_congr {h h2 : Nat → Rat} : ∀ n : Nat, (∀ i, i < n → h i = h2 i) → sumR n h = sumR n h2
  | 0, _ => rfl
  | n + 1, hh => by
    unfold sumR
    rw [sumR_congr n (fun i hi => hh i (by omega)), hh n (by omega)]
theorem sum_ok {N m : Nat} (hN : N ≤ 10) (hm : 1 ≤ m) (hb : (m + 1) * N + 1 ≤ 4000) {h : Nat → Rat} (hh : ∀ i, i < N → Bd m (h i)) {D : Dt} (hD : seqD D = some (fD dq N h)) (s : Hd) : m_sum_of [D] s = .ok (dq (sumR N h)) s := by
  have z : mSeqI (mVar 0) [.dat D, .dat (dq 0), .no] s = .ok (fD dq N h) s := ev_seqI (ev_var rfl) hD
  obtain ⟨ρ', s', hl, x2, rfl, rfl⟩ := for_range (g := gmName 2) (body := mSet 1 (mCall 2 [] m_plus (mCons (mVar 1) (mCons (mVar 2) mNil)))) (ρ := [.dat D, .dat (dq 0), .no]) (s := s) (fun i => dq (h i)) (fun i ρ s1 => ∃ x2 : Sl, ρ = [.dat D, .dat (dq (sumR i h)), x2] ∧ s1 = s) N ⟨.no, rfl, rfl⟩ (fun i ρ s1 hi hI => by
    obtain ⟨x2, rfl, rfl⟩ := hI
    have b1 := sumR_bd hm (h := h) i (fun j hj => hh j (by omega))
    have le : (m + 1) * i + 1 ≤ (m + 1) * N + 1 := Nat.succ_le_succ (Nat.mul_le_mul_left _ (by omega))
    have le2 : m ≤ (m + 1) * N + 1 := by
      have : (m + 1) * 1 ≤ (m + 1) * N := Nat.mul_le_mul_left _ (by omega)
      omega
    have k : m_plus [dq (sumR i h), dq (h i)] s1 = .ok (dq (sumR (i + 1) h)) s1 := plus_q hb (b1.mono le) ((hh i hi).mono le2) s1
    exact ⟨_, _, s1, rfl, es_set (by sizeOf_list_dec), _, rfl, rfl⟩)
  refine es_def (ρ := [.dat D, .no, .no]) rfl ?_
  unfold b_sum_of
  refine es_seq (es_set (d := dq 0) ev_c) ?_
  refine es_seq (es_for z hl) ?_
  exact es_ret (ev_var rfl)
theorem prod_ok {N n m : Nat} (hN : N ≤ 10) (hn : n ≤ 4000) (hm : 1 ≤ m) (hb : (m + 1) * N + 1 ≤ 4000) {f g : Nat → Rat} (hf : ∀ i, i < N → Bd n (f i)) (hg : ∀ i, i < N → Bd n (g i)) (hh : ∀ i, i < N → Bd m (f i * g i)) {D E : Dt} (hD : seqD D = some (fD dq N f)) (hE : seqD E = some (fD dq N g)) (s : Hd) :
    m_product_of [D, E] s = .ok (dq (sumR N fun i => f i * g i)) s := by
  have z : mZip (mVar 0) (mVar 1) [.dat D, .dat E, .no, .no] s = .ok ((List.range N).map fun i => Dt.tup [dq (f i), dq (g i)]) s := by
    have q := zip_of (a := mVar 0) (b := mVar 1) (ρ := [.dat D, .dat E, .no, .no]) (s := s) (s1 := s) (s2 := s) (d := D) (e := E) rfl rfl hD hE
    rw [q]
    congr 1
    exact zip_map (fun i => dq (f i)) (fun i => dq (g i)) (List.range N)
  have lc := lc_map (g := gmSeq 2 (gmCons (gmName 2) (gmCons (gmName 3) gmNil))) (a := mCall 2 [] m_times (mCons (mVar 2) (mCons (mVar 3) mNil))) (vs := [2, 3]) (ρ := [.dat D, .dat E, .no, .no]) (s := s) (fun i => Dt.tup [dq (f i), dq (g i)]) (fun i => dq (f i * g i)) (List.range N) (by rw [List.length_range]; omega) fun i hi => ⟨[.dat D, .dat E, .dat (dq (f i)), .dat (dq (g i))], rfl, by
    have hi := List.mem_range.1 hi
    have k := times_q hn (hf i hi) (hg i hi) s
    sizeOf_list_dec⟩
  have k := sum_ok (h := fun i => f i * g i) hN hm hb hh (D := .lst ((List.range N).map fun i => dq (f i * g i))) rfl s
  refine es_def (ρ := [.dat D, .dat E, .no, .no]) rfl ?_
  unfold b_product_of
  exact es_ret (ev_call0 (ev_cons (ev_lc z lc) ev_nil) rfl k)
theorem rD_cons (N : Nat) (c : Nat → Rat) : rD N c = dq (c 0) :: fD dq N fun i => c (i + 1) := by
  unfold rD fD
  rw [List.range_succ_eq_map, List.map_cons, List.map_map]
  rfl
theorem cut1 (N : Nat) (c : Nat → Rat) : fSl (dR N c) (some 1) none = some (.tup (fD dq N fun i => c (i + 1))) := by
  have l : (rD N c).length = N + 1 := by simp [rD]
  have e1 : HT.sIx (rD N c).length 0 (some 1) = 1 := by
    rw [show HT.sIx (rD N c).length 0 (some 1) = min 1 (rD N c).length from HT.sIx_nat _ 0 1, l]
    omega
  have e2 : HT.sIx (rD N c).length (rD N c).length none = N + 1 := by rw [HT.sIx_none, l]
  have e3 : Mir.cutD (rD N c) (some 1) none = fD dq N fun i => c (i + 1) := by
    unfold Mir.cutD
    rw [e1, e2, rD_cons, List.drop_succ_cons, List.drop_zero, List.take_of_length_le (by rw [fD_len]; omega)]
  show some (Dt.tup (Mir.cutD (rD N c) (some 1) none)) = _
  rw [e3]
abbrev dirD (d : Rat × Rat) : Dt := .tup [dq d.1, dq d.2]
/-- a pose as the program keeps it: the letters 1 to N -/
def poseL (N : Nat) (P : Nat → Rat × Rat) : List Dt := fD dirD N fun i => P (i + 1)
/-- a pose of ratios -/
structure Pz (N : Nat) (P : Nat → Rat × Rat) : Prop where
  z : P 0 = (0, 1)
  u : ∀ k, k ≤ N → (P k).1 * (P k).1 + (P k).2 * (P k).2 = 1
  b1 : ∀ k, Bd 52 (P k).1
  b2 : ∀ k, Bd 52 (P k).2
/-- the spot of a row -/
def spX (N : Nat) (P : Nat → Rat × Rat) (c : Nat → Rat) : Rat := sumR N fun i => c (i + 1) * (P (i + 1)).1
def spY (N : Nat) (P : Nat → Rat × Rat) (c : Nat → Rat) : Rat := c 0 + sumR N fun i => c (i + 1) * (P (i + 1)).2
theorem spot_ok {N n : Nat} (hN : N ≤ 4) (hn : 1 ≤ n) (h2 : (n + 54) * 4 ≤ 3990) {P : Nat → Rat × Rat} (hP : Pz N P) {c : Nat → Rat} (hc : ∀ j, Bd n (c j)) (s : Hd) : m_spot_by [dR N c, .tup (poseL N P)] s = .ok (.tup [dq (spX N P c), dq (spY N P c)]) s := by
  have cut := cut1 N c
  have lcF : ∀ (f : Rat × Rat → Rat) (k : Int), (∀ d : Rat × Rat, fIx (dirD d) (.int k) = some (dq (f d))) → ∀ x2 x4 : Sl, mLc (gmName 3) (mSeqI (mVar 1)) mYes (mOp fIx (mVar 3) (mC (.int k))) [3] [.dat (dR N c), .dat (.tup (poseL N P)), x2, .no, x4] s = .ok (.lst (fD dq N fun i => f (P (i + 1)))) s := fun f k hk x2 x4 => by
    have z : mSeqI (mVar 1) [.dat (dR N c), .dat (.tup (poseL N P)), x2, .no, x4] s = .ok (poseL N P) s := ev_seqI (ev_var rfl) rfl
    exact ev_lc z (lc_map (fun i => dirD (P (i + 1))) (fun i => dq (f (P (i + 1)))) (List.range N) (by rw [List.length_range]; omega) fun i hi => ⟨_, rfl, by
      have k1 := hk (P (i + 1))
      sizeOf_list_dec⟩)
  have bt : ∀ i, Bd (n + 53) (c (i + 1) * (P (i + 1)).1) := fun i => ((hc (i + 1)).mul (hP.b1 (i + 1))).mono (by omega)
  have bt2 : ∀ i, Bd (n + 53) (c (i + 1) * (P (i + 1)).2) := fun i => ((hc (i + 1)).mul (hP.b2 (i + 1))).mono (by omega)
  have le : (n + 53 + 1) * N + 1 ≤ (n + 54) * 4 + 1 := Nat.succ_le_succ (Nat.mul_le_mul_left _ hN)
  have p1 := prod_ok (N := N) (n := n + 52) (m := n + 53) (f := fun i => c (i + 1)) (g := fun i => (P (i + 1)).1) (by omega) (by omega) (by omega) (by omega) (fun i _ => (hc (i + 1)).mono (by omega)) (fun i _ => (hP.b1 (i + 1)).mono (by omega)) (fun i _ => bt i) (D := .tup (fD dq N fun i => c (i + 1))) (E := .lst (fD dq N fun i => (P (i + 1)).1)) rfl rfl s
  have p2 := prod_ok (N := N) (n := n + 52) (m := n + 53) (f := fun i => c (i + 1)) (g := fun i => (P (i + 1)).2) (by omega) (by omega) (by omega) (by omega) (fun i _ => (hc (i + 1)).mono (by omega)) (fun i _ => (hP.b2 (i + 1)).mono (by omega)) (fun i _ => bt2 i) (D := .tup (fD dq N fun i => c (i + 1))) (E := .lst (fD dq N fun i => (P (i + 1)).2)) rfl rfl s
  have bs := sumR_bd (m := n + 53) (by omega) (h := fun i => c (i + 1) * (P (i + 1)).2) N (fun i _ => bt2 i)
  have pl := plus_q (n := 4000) (by omega) ((hc 0).mono (by omega)) (bs.mono (by omega)) s
  have at0 : fIx (dR N c) (.int 0) = some (dq (c 0)) := by
    show atI (rD N c) 0 = _
    rw [rD_fD]
    exact fD_at (by omega) (by omega)
  have cutE : ∀ (ρ : Env'), ρ[0]? = some (.dat (dR N c)) → mSl (mVar 0) (mPart (mC (.int 1))) mPartN ρ s = .ok (.tup (fD dq N fun i => c (i + 1))) s := fun ρ h => by
    unfold mSl
    rw [ev_var h]
    simp only [R.bind_ok, mPartN, mPart, mC]
    rw [cut]
    rfl
  refine es_def (ρ := [.dat (dR N c), .dat (.tup (poseL N P)), .no, .no, .no]) rfl ?_
  unfold b_spot_by
  refine es_seq (es_set (d := dq (spX N P c)) (ev_call0 (ev_cons (cutE _ rfl) (ev_cons (lcF (fun d => d.1) 0 (fun d => rfl) .no .no) ev_nil)) rfl p1)) ?_
  refine es_seq (es_set (d := dq (sumR N fun i => c (i + 1) * (P (i + 1)).2)) (ev_call0 (ev_cons (cutE _ rfl) (ev_cons (lcF (fun d => d.2) 1 (fun d => rfl) _ .no) ev_nil)) rfl p2)) ?_
  exact es_ret (ev_tup (ev_cons (ev_var rfl) (ev_cons (ev_call0 (ev_cons (ev_op (ev_var rfl) ev_c at0) (ev_cons (ev_var rfl) ev_nil)) rfl pl) ev_nil)) (Nat.le_of_ble_eq_true rfl))
end Law


set_option Elab.async false
set_option linter.all false
set_option maxRecDepth 100000
namespace Law
open PySem PySem.Spec PyProof.Rows L2 Mir
theorem row22 {d x y : Dt} (hd : d = .tup [x, y] ∨ d = .lst [x, y]) (s : Hd) : m_is_row [d, .int 2, .int 2] s = .ok (.bl true) s := by rcases hd with rfl | rfl <;> simp [row2_tup, row2_lst]
theorem isdir_q {d : Dt} {x y : Rat} (hd : d = .tup [dq x, dq y] ∨ d = .lst [dq x, dq y]) (bx : Bd 52 x) (by' : Bd 52 y) (s : Hd) : m_is_direction [d] s = .ok (.bl (decide (x * x + y * y = 1))) s := by
  have e0 := row22 hd s
  have i0 : fIx d (.int 0) = some (dq x) := by rcases hd with rfl | rfl <;> rfl
  have i1 : fIx d (.int 1) = some (dq y) := by rcases hd with rfl | rfl <;> rfl
  have e1 := isr_q (p := x) s
  have e2 := isr_q (p := y) s
  have tt : fTru (.bl true) = some true := rfl
  have sp : m_is_spot [d] s = .ok (.bl true) s := by
    refine es_def (ρ := [.dat d]) rfl ?_
    unfold b_is_spot
    exact es_ret (ev_andv_t (d := .bl true) (by sizeOf_list_dec) rfl (ev_andv_t (d := .bl true) (by sizeOf_list_dec) rfl (by sizeOf_list_dec)))
  have k1 := times_q (by omega) bx bx s
  have k2 := times_q (by omega) by' by' s
  have k3 := plus_q (n := 105) (by omega) ((bx.mul bx).mono (by omega)) ((by'.mul by').mono (by omega)) s
  have dt : m_dot_of [d, d] s = .ok (dq (x * x + y * y)) s := by
    refine es_def (ρ := [.dat d, .dat d]) rfl ?_
    unfold b_dot_of
    exact es_ret (by sizeOf_list_dec)
  have q : fEq (dq (x * x + y * y)) (.tup [.int 1, .int 1]) = some (.bl (decide (x * x + y * y = 1))) := by
    rw [dq1]
    unfold fEq
    rw [eq_q]
    rfl
  refine es_def (ρ := [.dat d]) rfl ?_
  unfold b_is_direction
  exact es_ret (ev_andv_t (d := .bl true) (by sizeOf_list_dec) rfl (by sizeOf_list_dec))
theorem isdir_row {d : Dt} (h : ∀ s, m_is_row [d, .int 2, .int 2] s = .ok (.bl false) s) (s : Hd) : m_is_direction [d] s = .ok (.bl false) s := by
  have e0 := h s
  have sp : m_is_spot [d] s = .ok (.bl false) s := by
    refine es_def (ρ := [.dat d]) rfl ?_
    unfold b_is_spot
    exact es_ret (ev_andv_f (d := .bl false) (by sizeOf_list_dec) rfl)
  refine es_def (ρ := [.dat d]) rfl ?_
  unfold b_is_direction
  exact es_ret (ev_andv_f (d := .bl false) (by sizeOf_list_dec) rfl)
/-- rows of items -/
theorem enum_items {D : Dt} {N : Nat} {it : Nat → Dt} (hD : seqD D = some (fD (fun d => d) N it)) {ρ : Env'} {s : Hd} (h : ρ[0]? = some (.dat D)) : mEnum (mVar 0) ρ s = .ok ((List.range N).map fun (i : Nat) => Dt.tup [.int (i : Nat), it i]) s := by
  unfold mEnum
  rw [ev_var h]
  simp only [R.bind_ok, hD]
  congr 1
  apply List.ext_getElem?
  intro j
  rw [enumD_get, List.getElem?_map]
  by_cases c : j < N
  · rw [fD_get c, List.getElem?_range c]
    simp
  · rw [List.getElem?_eq_none (by rw [fD_len]; omega), List.getElem?_eq_none (by rw [List.length_range]; omega)]
    rfl
theorem row0 {D : Dt} {ds : List Dt} (h2 : fIsi2 "list" "tuple" D = some true) (hD : seqD D = some ds) (s : Hd) : m_is_row [D, .int 0, .non] s = .ok (.bl true) s := by
  have l : fLen [D] = some (.int ds.length) := by cases D <;> simp_all [seqD, fLen]
  have e1 : fGe (.int ds.length) (.int 0) = some (.bl true) := by simp [fI]
  refine es_def (ρ := [.dat D, .dat (.int 0), .dat .non]) rfl ?_
  unfold b_is_row
  refine es_seq (es_if_f (ev_not_f (ev_tru (ev_isi2 (ev_var rfl) h2) rfl)) es_next) (es_ret ?_)
  exact ev_andv_t (d := .bl true) (by sizeOf_list_dec) rfl (ev_orv_t (d := .bl true) (ev_op (ev_var rfl) ev_c rfl) rfl)
def fwBody : MS := (mIfS (mOr (mTest (mOp fGe (mVar 3) (mVar 1))) (mNot (mTru (mCallV 2 "is_direction" 1 m_is_direction (mCons (mVar 4) mNil))))) (mRet (mVar 3)) mNext)
theorem ev_callV {i n : Nat} {c : Str} {m : List Dt → Hd → R Dt} {as : MA} {ρ : Env'} {s s1 s2 : Hd} {ds : List Dt} {r : Dt} (h : ρ[i]? = some (.dat (.fn c))) (ha : as ρ s = .ok ds s1) (hl : ds.length = n) (hm : m ds s1 = .ok r s2) : mCallV i c n m as ρ s = .ok r s2 := by
  unfold mCallV
  rw [h]
  simp only [if_true]
  rw [ha]
  simp only [R.bind_ok]
  rw [if_pos hl, hm]
theorem fge_t {i j : Int} (h : j ≤ i) : fGe (.int i) (.int j) = some (.bl true) := by simp [fI, h]
theorem fge_f {i j : Int} (h : ¬ j ≤ i) : fGe (.int i) (.int j) = some (.bl false) := by simp [fI, h]
theorem fw_good {D : Dt} {N : Nat} (x3 x4 : Sl) {it : Dt} {i : Nat} (hi : i < N) (hg : ∀ s, m_is_direction [it] s = .ok (.bl true) s) (s : Hd) : fwBody [.dat D, .dat (.int N), .dat (.fn "is_direction"), .dat (.int (i : Nat)), .dat it] s = .ok (.nx [.dat D, .dat (.int N), .dat (.fn "is_direction"), .dat (.int (i : Nat)), .dat it]) s := by
  have e := hg s
  have f := fge_f (i := (i : Int)) (j := N) (by omega)
  exact es_if_f (ev_or_f (by array_mem_dec) (ev_not_f (ev_tru (ev_callV rfl (ev_cons (ev_var rfl) ev_nil) rfl e) rfl))) es_next
theorem fw_bad {D : Dt} {N : Nat} (x3 x4 : Sl) {it : Dt} {i : Nat} (hi : i < N) (hg : ∀ s, m_is_direction [it] s = .ok (.bl false) s) (s : Hd) : fwBody [.dat D, .dat (.int N), .dat (.fn "is_direction"), .dat (.int (i : Nat)), .dat it] s = .ok (.rt (.int (i : Nat))) s := by
  have e := hg s
  have f := fge_f (i := (i : Int)) (j := N) (by omega)
  exact es_if_t (ev_or_f (by array_mem_dec) (ev_not_t (ev_tru (ev_callV rfl (ev_cons (ev_var rfl) ev_nil) rfl e) rfl))) (es_ret (ev_var rfl))
section
variable {D : Dt} {N : Nat} {it : Nat → Dt} (h2 : fIsi2 "list" "tuple" D = some true) (hD : seqD D = some (fD (fun d => d) N it))
include h2 hD
theorem first_good (hg : ∀ i, i < N → ∀ s, m_is_direction [it i] s = .ok (.bl true) s) (s : Hd) : m_first_wrong [D, .int N, .fn "is_direction"] s = .ok .non s := by
  have e0 := row0 h2 hD s
  have en := enum_items hD (ρ := [.dat D, .dat (.int N), .dat (.fn "is_direction"), .no, .no]) (s := s) rfl
  have len : fLen [D] = some (.int N) := by
    have : (fD (fun d => d) N it).length = N := fD_len
    cases D <;> simp_all [seqD, fLen]
  have fq := feq_t (N : Int) N rfl
  obtain ⟨ρ', s', hl, x3, x4, rfl, rfl⟩ := for_range (g := gmSeq 2 (gmCons (gmName 3) (gmCons (gmName 4) gmNil))) (body := fwBody) (ρ := [.dat D, .dat (.int N), .dat (.fn "is_direction"), .no, .no]) (s := s) (fun (i : Nat) => Dt.tup [.int (i : Nat), it i]) (fun i ρ s1 => ∃ x3 x4 : Sl, ρ = [.dat D, .dat (.int N), .dat (.fn "is_direction"), x3, x4] ∧ s1 = s) N ⟨.no, .no, rfl, rfl⟩ (fun i ρ s1 hi hI => by
    obtain ⟨x3, x4, rfl, rfl⟩ := hI
    exact ⟨_, _, s1, rfl, fw_good x3 x4 hi (hg i hi) s1, _, _, rfl, rfl⟩)
  have tt : fTru (.bl true) = some true := rfl
  refine es_def (ρ := [.dat D, .dat (.int N), .dat (.fn "is_direction"), .no, .no]) rfl ?_
  unfold b_first_wrong
  refine es_seq (es_if_f (by array_mem_dec) es_next) ?_
  refine es_seq (es_for (b1 := fwBody) en hl) ?_
  exact es_ret (ev_if_t (by array_mem_dec) ev_c)
theorem first_bad {w : Nat} (hw : w < N) (hg : ∀ i, i < w → ∀ s, m_is_direction [it i] s = .ok (.bl true) s) (hb : ∀ s, m_is_direction [it w] s = .ok (.bl false) s) (s : Hd) : m_first_wrong [D, .int N, .fn "is_direction"] s = .ok (.int (w : Nat)) s := by
  have e0 := row0 h2 hD s
  have en := enum_items hD (ρ := [.dat D, .dat (.int N), .dat (.fn "is_direction"), .no, .no]) (s := s) rfl
  obtain ⟨d, s', hl, rfl, rfl⟩ := for_stop (g := gmSeq 2 (gmCons (gmName 3) (gmCons (gmName 4) gmNil))) (body := fwBody) (ρ := [.dat D, .dat (.int N), .dat (.fn "is_direction"), .no, .no]) (s := s) (fun (i : Nat) => Dt.tup [.int (i : Nat), it i]) (fun i ρ s1 => ∃ x3 x4 : Sl, ρ = [.dat D, .dat (.int N), .dat (.fn "is_direction"), x3, x4] ∧ s1 = s) (fun d s1 => d = .int (w : Nat) ∧ s1 = s) hw ⟨.no, .no, rfl, rfl⟩ (fun i ρ s1 hi hI => by
    obtain ⟨x3, x4, rfl, rfl⟩ := hI
    exact ⟨_, _, s1, rfl, fw_good x3 x4 (by omega) (hg i hi) s1, _, _, rfl, rfl⟩) (fun ρ s1 hI => by
    obtain ⟨x3, x4, rfl, rfl⟩ := hI
    exact ⟨_, _, s1, rfl, fw_bad x3 x4 hw hb s1, rfl, rfl⟩)
  have tt : fTru (.bl true) = some true := rfl
  refine es_def (ρ := [.dat D, .dat (.int N), .dat (.fn "is_direction"), .no, .no]) rfl ?_
  unfold b_first_wrong
  refine es_seq (es_if_f (by array_mem_dec) es_next) ?_
  exact seq_rt (es_for (b1 := fwBody) en hl)
end
end Law


set_option Elab.async false
set_option linter.all false
set_option maxRecDepth 100000
namespace Law
open PySem PySem.Spec PyProof.Rows L2 Mir
/-! values of spots -/
def full (N : Nat) (p : Nat → Rat) (c : Nat → Rat) : Rat := c 0 * p 0 + sumR N fun i => c (i + 1) * p (i + 1)
theorem sumR_add (f g p : Nat → Rat) : ∀ N : Nat, sumR N (fun i => (f (i + 1) + g (i + 1)) * p (i + 1)) = sumR N (fun i => f (i + 1) * p (i + 1)) + sumR N (fun i => g (i + 1) * p (i + 1))
  | 0 => (Rat.zero_add 0).symm
  | n + 1 => by
    unfold sumR
    rw [sumR_add f g p n]
    grind
theorem sumR_sub (f g p : Nat → Rat) : ∀ N : Nat, sumR N (fun i => (f (i + 1) - g (i + 1)) * p (i + 1)) = sumR N (fun i => f (i + 1) * p (i + 1)) - sumR N (fun i => g (i + 1) * p (i + 1))
  | 0 => by unfold sumR; grind
  | n + 1 => by
    unfold sumR
    rw [sumR_sub f g p n]
    grind
theorem full_add (N : Nat) (p f g : Nat → Rat) : full N p (fun j => f j + g j) = full N p f + full N p g := by
  unfold full
  rw [sumR_add f g p N]
  grind
theorem full_sub (N : Nat) (p f g : Nat → Rat) : full N p (fun j => f j - g j) = full N p f - full N p g := by
  unfold full
  rw [sumR_sub f g p N]
  grind
theorem sumR_one (l : Nat) (q : Rat) (p : Nat → Rat) : ∀ N : Nat, sumR N (fun i => one l q (i + 1) * p (i + 1)) = if 1 ≤ l ∧ l ≤ N then q * p l else 0
  | 0 => by rw [if_neg (by omega)]; rfl
  | n + 1 => by
    unfold sumR
    rw [sumR_one l q p n]
    show _ + one l q (n + 1) * p (n + 1) = _
    unfold one
    by_cases c : n + 1 = l
    · subst c
      rw [if_neg (by omega), if_pos rfl, if_pos (by omega), Rat.zero_add]
    · rw [if_neg c]
      by_cases c2 : 1 ≤ l ∧ l ≤ n
      · rw [if_pos c2, if_pos (by omega)]
        grind
      · rw [if_neg c2, if_neg (by omega)]
        grind
theorem full_one {N l : Nat} (hl : l ≤ N) (q : Rat) (p : Nat → Rat) : full N p (one l q) = q * p l := by
  unfold full
  rw [sumR_one]
  unfold one
  by_cases c : l = 0
  · subst c
    rw [if_pos rfl, if_neg (by omega), Rat.add_zero]
  · rw [if_neg (fun z => c z.symm), if_pos (by omega)]
    grind
/-- the walk's number of one coordinate -/
def Sp (B : Bars) (p : Nat → Rat) : Nat → Int → Rat → Rat
  | 0, _, q => q * p 0
  | k + 1, b, q => if b < 0 then q * p 0 else Sp B p k (B.h b.toNat) (B.m b.toNat) + q * p (B.l b.toNat)
section
variable {B : Bars} (ok : B.Ok)
include ok
theorem full_W (p : Nat → Rat) : ∀ (k : Nat) (b : Int) (q : Rat), b < B.n → full B.N p (W B k b q) = Sp B p k b q
  | 0, b, q, h => full_one (by omega) q p
  | k + 1, b, q, h => by
    unfold W Sp
    by_cases c : b < 0
    · rw [if_pos c, if_pos c]
      exact full_one (by omega) q p
    · rw [if_neg c, if_neg c]
      have hi : b.toNat < B.n := by omega
      have m1 := ok.h1 _ hi
      rw [full_add, full_W p k _ _ (by omega), full_one (ok.l _ hi)]
theorem Sp_bd {p : Nat → Rat} (hp : ∀ j, Bd 52 (p j)) : ∀ (k n : Nat) (b : Int) (q : Rat), b < B.n → Bd n q → Bd (n + 54 + 76 * k) (Sp B p k b q)
  | 0, n, b, q, _, hq => (hq.mul (hp 0)).mono (by omega)
  | k + 1, n, b, q, hb, hq => by
    unfold Sp
    by_cases c : b < 0
    · rw [if_pos c]
      exact (hq.mul (hp 0)).mono (by omega)
    · rw [if_neg c]
      have hi : b.toNat < B.n := by omega
      have m1 := ok.h1 _ hi
      exact ((Sp_bd hp k 22 _ _ (by omega) (ok.m _ hi)).add (hq.mul (hp (B.l b.toNat)))).mono (by omega)
theorem Sp_fuel (p : Nat → Rat) : ∀ (k : Nat) (b : Int) (q : Rat), b < k → b < B.n → Sp B p (k + 1) b q = Sp B p k b q
  | 0, b, q, h, _ => by
    unfold Sp
    rw [if_pos (by omega)]
  | k + 1, b, q, h, h1 => by
    rw [Sp]
    conv => rhs; rw [Sp]
    by_cases c : b < 0
    · rw [if_pos c, if_pos c]
    · rw [if_neg c, if_neg c]
      have m1 := ok.h1 _ (show b.toNat < B.n by omega)
      rw [Sp_fuel p k (B.h b.toNat) (B.m b.toNat) (by omega) (by omega)]
theorem Sp_more (p : Nat → Rat) (k : Nat) (b : Int) (q : Rat) (h : b < k) (h1 : b < B.n) : ∀ i, Sp B p (k + i) b q = Sp B p k b q
  | 0 => rfl
  | i + 1 => by
    rw [← Sp_more p k b q h h1 i]
    exact Sp_fuel ok p (k + i) b q (by omega) h1
end
/-- where a place stands -/
def X (B : Bars) (P : Nat → Rat × Rat) (b : Int) (q : Rat) : Rat := Sp B (fun j => (P j).1) 7 b q
def Y (B : Bars) (P : Nat → Rat × Rat) (b : Int) (q : Rat) : Rat := Sp B (fun j => (P j).2) 7 b q
section
variable {N : Nat} {P : Nat → Rat × Rat} (hP : Pz N P)
include hP
theorem spX_full (c : Nat → Rat) : spX N P c = full N (fun j => (P j).1) c := by
  unfold spX full
  show _ = c 0 * (P 0).1 + sumR N fun i => c (i + 1) * (P (i + 1)).1
  rw [hP.z]
  show _ = c 0 * 0 + _
  rw [Rat.mul_zero, Rat.zero_add]
theorem spY_full (c : Nat → Rat) : spY N P c = full N (fun j => (P j).2) c := by
  unfold spY full
  show _ = c 0 * (P 0).2 + sumR N fun i => c (i + 1) * (P (i + 1)).2
  rw [hP.z]
  show _ = c 0 * 1 + _
  rw [Rat.mul_one]
end
/-- a pose as it is handed in: rows as lists or tuples -/
structure Handed (N : Nat) (P : Nat → Rat × Rat) (D : Dt) (it : Nat → Dt) : Prop where
  h2 : fIsi2 "list" "tuple" D = some true
  hD : seqD D = some (fD (fun d => d) N it)
  f : ∀ i, i < N → it i = .tup [dq (P (i + 1)).1, dq (P (i + 1)).2] ∨ it i = .lst [dq (P (i + 1)).1, dq (P (i + 1)).2]
/-- .. with a wrong item -/
structure HandedW (N w : Nat) (P : Nat → Rat × Rat) (D : Dt) (it : Nat → Dt) : Prop where
  h2 : fIsi2 "list" "tuple" D = some true
  hD : seqD D = some (fD (fun d => d) N it)
  hw : w < N
  f : ∀ i, i < w → it i = .tup [dq (P (i + 1)).1, dq (P (i + 1)).2] ∨ it i = .lst [dq (P (i + 1)).1, dq (P (i + 1)).2]
  b : ∀ s, m_is_direction [it w] s = .ok (.bl false) s
section
variable {B : Bars} (ok : B.Ok) {P : Nat → Rat × Rat} (hP : Pz B.N P) {D : Dt} {it : Nat → Dt}
include ok hP
theorem check_pose_ok (H : Handed B.N P D it) (s : Hd) : m_check_pose [B.arms, D] s = .ok (.tup (poseL B.N P)) s := by
  have N4 := ok.N4
  have dirs : ∀ i, i < B.N → ∀ s, m_is_direction [it i] s = .ok (.bl true) s := fun i hi s => by
    rw [isdir_q (H.f i hi) (hP.b1 _) (hP.b2 _) s, decide_eq_true (hP.u (i + 1) (by omega))]
  have e1 := first_good H.h2 H.hD dirs s
  have l1 := lk_letters (.int (B.N : Nat)) B.d
  have z : mSeqI (mVar 1) [.dat B.arms, .dat D, .dat .non, .no] s = .ok (fD (fun d => d) B.N it) s := ev_seqI (ev_var rfl) H.hD
  have lc := tup_of (ev_lc z (lc_map (g := gmName 3) (a := mCB fTupC (mCons (mVar 3) mNil)) (vs := [3]) (ρ := [.dat B.arms, .dat D, .dat .non, .no]) (s := s) it (fun i => dirD (P (i + 1))) (List.range B.N) (by rw [List.length_range]; omega) fun i hi => ⟨_, rfl, by
    refine ev_cb (ev_cons (ev_var rfl) ev_nil) ?_
    rcases H.f i (List.mem_range.1 hi) with e | e <;> rw [e] <;> rfl⟩))
  have nn : fIsNot .non .non = some (.bl false) := rfl
  refine es_def (ρ := [.dat B.arms, .dat D, .no, .no]) rfl ?_
  unfold b_check_pose
  refine es_seq (s1 := s) (es_set (d := .non) ?_) ?_
  · unfold Bars.arms
    sizeOf_list_dec
  refine es_seq (es_if_f (by array_mem_dec) es_next) ?_
  exact es_ret lc
theorem check_pose_f {w : Nat} (H : HandedW B.N w P D it) (s : Hd) : ∃ ρ, m_check_pose [B.arms, D] s = .err "BadPose" [("index", .int (w : Nat))] ρ s := by
  have N4 := ok.N4
  have hw := H.hw
  have dirs : ∀ i, i < w → ∀ s, m_is_direction [it i] s = .ok (.bl true) s := fun i hi s => by
    rw [isdir_q (H.f i hi) (hP.b1 _) (hP.b2 _) s, decide_eq_true (hP.u (i + 1) (by omega))]
  have e1 := first_bad H.h2 H.hD hw dirs H.b s
  have l1 := lk_letters (.int (B.N : Nat)) B.d
  have nn : fIsNot (.int (w : Nat)) .non = some (.bl true) := rfl
  refine ⟨[.dat B.arms, .dat D, .dat (.int (w : Nat)), .no], es_def_err (ρ := [.dat B.arms, .dat D, .no, .no]) rfl ?_⟩
  unfold b_check_pose
  refine es_seq (s1 := s) (es_set (d := .int (w : Nat)) ?_) ?_
  · unfold Bars.arms
    sizeOf_list_dec
  exact es_seq_err (es_if_t (by array_mem_dec) (es_raise (ev_cons (ev_var rfl) ev_nil) (by simp)))
end
end Law


set_option Elab.async false
set_option linter.all false
set_option maxRecDepth 100000
namespace Law
open PySem PySem.Spec PyProof.Rows L2 Mir
/-! places and bars that are none -/
abbrev NotR (d : Dt) : Prop := ∀ s, m_is_ratio [d] s = .ok (.bl false) s
theorem isi2_non : fIsi2 "list" "tuple" .non = some false := by decide +kernel
theorem isi2_str (x : Str) : fIsi2 "list" "tuple" (.str x) = some false := by
  have e : fIsi2 "list" "tuple" (.str x) = fIsi2 "list" "tuple" (.str "") := rfl
  rw [e]
  decide +kernel
theorem row_f {d : Dt} (h : fIsi2 "list" "tuple" d = some false) (s : Hd) : m_is_row [d, .int 2, .int 2] s = .ok (.bl false) s := by
  refine es_def (ρ := [.dat d, .dat (.int 2), .dat (.int 2)]) rfl ?_
  unfold b_is_row
  exact seq_rt (es_if_t (ev_not_t (ev_tru (ev_isi2 (ev_var rfl) h) rfl)) (es_ret ev_c))
theorem row_len {ds : List Dt} (h : ds.length ≠ 2) (s : Hd) : m_is_row [.tup ds, .int 2, .int 2] s = .ok (.bl false) s := by
  refine es_def (ρ := [.dat (.tup ds), .dat (.int 2), .dat (.int 2)]) rfl ?_
  unfold b_is_row
  refine es_seq (es_if_f (ev_not_f (ev_tru (ev_isi2 (ev_var rfl) (i2_tup ds)) rfl)) es_next) (es_ret ?_)
  have e1 : fLen [.tup ds] = some (.int ds.length) := rfl
  by_cases c : (2 : Int) ≤ ds.length
  · have e2 : fGe (.int ds.length) (.int 2) = some (.bl true) := by simp [fI]; omega
    have e3 : fLe (.int ds.length) (.int 2) = some (.bl false) := by simp [fI]; omega
    exact ev_andv_t (d := .bl true) (by sizeOf_list_dec) rfl (ev_orv_f (d := .bl false) (ev_op (ev_var rfl) ev_c rfl) rfl (by sizeOf_list_dec))
  · have e2 : fGe (.int ds.length) (.int 2) = some (.bl false) := by simp [fI]; omega
    exact ev_andv_f (by sizeOf_list_dec) rfl
section
variable {B : Bars} (ok : B.Ok)
theorem place_f {d : Dt} (h : ∀ s, m_is_row [d, .int 2, .int 2] s = .ok (.bl false) s) (s : Hd) : m_is_place [B.arms, d] s = .ok (.bl false) s := by
  have e := h s
  refine es_def (ρ := [.dat B.arms, .dat d, .no, .no]) rfl ?_
  unfold b_is_place
  exact seq_rt (es_if_t (ev_not_t (ev_tru (ev_call0 (by sizeOf_list_dec) rfl e) rfl)) (es_ret ev_c))
theorem place_w {d x y : Dt} (hd : d = .tup [x, y] ∨ d = .lst [x, y]) (h : ∀ s, m_is_whole [x, .int (-1), .int ((B.n : Int) - 1)] s = .ok (.bl false) s) (s : Hd) : m_is_place [B.arms, d] s = .ok (.bl false) s := by
  have e1 : m_is_row [d, .int 2, .int 2] s = .ok (.bl true) s := by rcases hd with rfl | rfl <;> simp [row2_tup, row2_lst]
  have e2 := h s
  have e4 : fLen [B.d] = some (.int B.n) := by simp [Bars.d, fLen, bars_len]
  have l2 := lk_bars (.int (B.N : Nat)) B.d
  refine es_def (ρ := [.dat B.arms, .dat d, .no, .no]) rfl ?_
  unfold b_is_place
  unfold Bars.arms
  refine es_seq (es_if_f (ev_not_f (ev_tru (ev_call0 (by sizeOf_list_dec) rfl e1) rfl)) es_next) ?_
  refine es_seq (ρ1 := [.dat (.obj "Arms" [("letters", .int (B.N : Nat)), ("bars", B.d)]), .dat d, .dat x, .dat y]) (s1 := s) (es_asg (ev_var rfl) (by rcases hd with rfl | rfl <;> rfl)) ?_
  exact es_ret (ev_andv_f (ev_call0 (by sizeOf_list_dec) rfl e2) rfl)
theorem place_r {d y : Dt} {b : Int} (h0 : -1 ≤ b) (h1 : b < B.n) (hd : d = .tup [.int b, y] ∨ d = .lst [.int b, y]) (h : NotR y) (s : Hd) : m_is_place [B.arms, d] s = .ok (.bl false) s := by
  have e1 : m_is_row [d, .int 2, .int 2] s = .ok (.bl true) s := by rcases hd with rfl | rfl <;> simp [row2_tup, row2_lst]
  have e2 : m_is_whole [.int b, .int (-1), .int ((B.n : Int) - 1)] s = .ok (.bl true) s := by
    rw [is_whole_both, decide_eq_true h0, decide_eq_true (show b ≤ (B.n : Int) - 1 by omega)]; rfl
  have e3 := h s
  have e4 : fLen [B.d] = some (.int B.n) := by simp [Bars.d, fLen, bars_len]
  have l2 := lk_bars (.int (B.N : Nat)) B.d
  refine es_def (ρ := [.dat B.arms, .dat d, .no, .no]) rfl ?_
  unfold b_is_place
  unfold Bars.arms
  refine es_seq (es_if_f (ev_not_f (ev_tru (ev_call0 (by sizeOf_list_dec) rfl e1) rfl)) es_next) ?_
  refine es_seq (ρ1 := [.dat (.obj "Arms" [("letters", .int (B.N : Nat)), ("bars", B.d)]), .dat d, .dat (.int b), .dat y]) (s1 := s) (es_asg (ev_var rfl) (by rcases hd with rfl | rfl <;> rfl)) ?_
  exact es_ret (ev_andv_t (ev_call0 (by sizeOf_list_dec) rfl e2) rfl (by sizeOf_list_dec))
/-- no place of the arms -/
abbrev NotP (B : Bars) (d : Dt) : Prop := ∀ s, m_is_place [B.arms, d] s = .ok (.bl false) s
theorem check_f {d : Dt} (h : NotP B d) (s : Hd) : m_check_place [B.arms, d] s = .err "BadPlace" [] [.dat B.arms, .dat d] s := by
  have e := h s
  refine es_def_err (ρ := [.dat B.arms, .dat d]) rfl ?_
  unfold b_check_place
  exact es_seq_err (es_if_t (ev_not_t (ev_tru (ev_call0 (by sizeOf_list_dec) rfl e) rfl)) es_raise0)
theorem row_of_f {d : Dt} (h : NotP B d) (s : Hd) : ∃ ρ, m_Arms__row_of [B.arms, d] s = .err "BadPlace" [] ρ s := by
  have e := check_f h s
  refine ⟨[.dat B.arms, .dat d, .no, .no, .no], es_def_err (ρ := [.dat B.arms, .dat d, .no, .no, .no]) rfl ?_⟩
  show b_Arms__row_of (rc 15).1 (rc 15).2 _ _ = _
  unfold b_Arms__row_of
  exact es_seq_err (es_asg_e (ev_call0_e (by sizeOf_list_dec) rfl e))
theorem diff_f1 {d d2 : Dt} (h : NotP B d) (s : Hd) : ∃ ρ, m_Arms__difference_row [B.arms, d, d2] s = .err "BadPlace" [] ρ s := by
  obtain ⟨ρ, e⟩ := row_of_f h s
  have l3 := lk_row_of (.int (B.N : Nat)) B.d
  refine ⟨[.dat B.arms, .dat d, .dat d2], es_def_err (ρ := [.dat B.arms, .dat d, .dat d2]) rfl ?_⟩
  unfold b_Arms__difference_row
  unfold Bars.arms at *
  exact es_ret_e (ev_call_ae (ev_cons_e1 (ev_meth0_e (ev_var rfl) l3 (by sizeOf_list_dec) rfl e)))
theorem diff_f2 {d d2 r : Dt} (s : Hd) (h1 : m_Arms__row_of [B.arms, d] s = .ok r s) (h : NotP B d2) : ∃ ρ, m_Arms__difference_row [B.arms, d, d2] s = .err "BadPlace" [] ρ s := by
  obtain ⟨ρ, e⟩ := row_of_f h s
  have l3 := lk_row_of (.int (B.N : Nat)) B.d
  refine ⟨[.dat B.arms, .dat d, .dat d2], es_def_err (ρ := [.dat B.arms, .dat d, .dat d2]) rfl ?_⟩
  unfold b_Arms__difference_row
  unfold Bars.arms at *
  exact es_ret_e (ev_call_ae (ev_cons_e2 (by sizeOf_list_dec) (ev_cons_e1 (ev_meth0_e (ev_var rfl) l3 (by sizeOf_list_dec) rfl e))))
end
end Law


set_option Elab.async false
set_option linter.all false
set_option maxRecDepth 100000
namespace Law
open PySem PySem.Spec PyProof.Rows L2 Mir
theorem fLen_d (B : Bars) : fLen [B.d] = some (.int B.n) := by simp [Bars.d, fLen, bars_len]
theorem lk_diff (x d : Dt) : List.lookup ("difference_row" : Str) [(("letters" : Str), x), (("bars" : Str), d)] = none := by
  have e1 : (("difference_row" : Str) == ("letters" : Str)) = false := by decide +kernel
  have e2 : (("difference_row" : Str) == ("bars" : Str)) = false := by decide +kernel
  simp only [List.lookup, e1, e2]
section
variable {B : Bars} (ok : B.Ok) {P : Nat → Rat × Rat} (hP : Pz B.N P) {D : Dt} {it : Nat → Dt}
include ok hP
theorem spot_of {b : Int} {n : Nat} {q : Rat} (h1 : b < B.n) (n1 : 1 ≤ n) (hn : n ≤ 700) (hq : Bd n q) (s : Hd) : m_spot_by [dR B.N (Rw B b q), .tup (poseL B.N P)] s = .ok (.tup [dq (X B P b q), dq (Y B P b q)]) s := by
  have e := spot_ok (n := n + 168) ok.N4 (by omega) (by omega) hP (c := Rw B b q) (fun j => R_bd ok h1 n1 hq j) s
  rw [spX_full hP, spY_full hP] at e
  unfold Rw at e
  rw [full_W ok _ 7 b q h1, full_W ok _ 7 b q h1] at e
  exact e
theorem X_bd {b : Int} {n : Nat} {q : Rat} (h1 : b < B.n) (hq : Bd n q) : Bd (n + 586) (X B P b q) := (Sp_bd ok hP.b1 7 n b q h1 hq).mono (by omega)
theorem Y_bd {b : Int} {n : Nat} {q : Rat} (h1 : b < B.n) (hq : Bd n q) : Bd (n + 586) (Y B P b q) := (Sp_bd ok hP.b2 7 n b q h1 hq).mono (by omega)
theorem place_at_ok (H : Handed B.N P D it) {b : Int} {n : Nat} {q : Rat} {d : Dt} (h0 : -1 ≤ b) (h1 : b < B.n) (n1 : 1 ≤ n) (hn : n ≤ 700) (hq : Bd n q) (hd : d = .tup [.int b, dq q] ∨ d = .lst [.int b, dq q]) (s : Hd) : m_place_at [B.arms, D, d] s = .ok (.tup [dq (X B P b q), dq (Y B P b q)]) s := by
  have e1 := check_pose_ok ok hP H s
  have e2 := row_of_ok ok h0 h1 (by omega) hq hd s
  have e3 := spot_of ok hP h1 n1 hn hq s
  have l3 := lk_row_of (.int (B.N : Nat)) B.d
  refine es_def (ρ := [.dat B.arms, .dat D, .dat d]) rfl ?_
  unfold b_place_at
  unfold Bars.arms at *
  refine es_seq (es_set (by sizeOf_list_dec)) ?_
  exact es_ret (by sizeOf_list_dec)
theorem place_at_p {w : Nat} (H : HandedW B.N w P D it) (d : Dt) (s : Hd) : ∃ ρ, m_place_at [B.arms, D, d] s = .err "BadPose" [("index", .int (w : Nat))] ρ s := by
  obtain ⟨ρ, e⟩ := check_pose_f ok hP H s
  refine ⟨[.dat B.arms, .dat D, .dat d], es_def_err (ρ := [.dat B.arms, .dat D, .dat d]) rfl ?_⟩
  unfold b_place_at
  exact es_seq_err (es_set_e (ev_call0_e (by sizeOf_list_dec) rfl e))
theorem place_at_f (H : Handed B.N P D it) {d : Dt} (hd : NotP B d) (s : Hd) : ∃ ρ, m_place_at [B.arms, D, d] s = .err "BadPlace" [] ρ s := by
  have e1 := check_pose_ok ok hP H s
  obtain ⟨ρ, e2⟩ := row_of_f hd s
  have l3 := lk_row_of (.int (B.N : Nat)) B.d
  refine ⟨[.dat B.arms, .dat (.tup (poseL B.N P)), .dat d], es_def_err (ρ := [.dat B.arms, .dat D, .dat d]) rfl ?_⟩
  unfold b_place_at
  unfold Bars.arms at *
  refine es_seq (es_set (by sizeOf_list_dec)) ?_
  exact es_ret_e (ev_call_ae (ev_cons_e1 (ev_meth0_e (ev_var rfl) l3 (by sizeOf_list_dec) rfl e2)))
theorem height_at_ok (H : Handed B.N P D it) {b : Int} {n : Nat} {q : Rat} {d : Dt} (h0 : -1 ≤ b) (h1 : b < B.n) (n1 : 1 ≤ n) (hn : n ≤ 700) (hq : Bd n q) (hd : d = .tup [.int b, dq q] ∨ d = .lst [.int b, dq q]) (s : Hd) : m_height_at [B.arms, D, d] s = .ok (dq (Y B P b q)) s := by
  have e1 := place_at_ok ok hP H h0 h1 n1 hn hq hd s
  have f : fIx (.tup [dq (X B P b q), dq (Y B P b q)]) (.int 1) = some (dq (Y B P b q)) := rfl
  refine es_def (ρ := [.dat B.arms, .dat D, .dat d]) rfl ?_
  unfold b_height_at
  exact es_ret (by sizeOf_list_dec)
theorem height_at_p {w : Nat} (H : HandedW B.N w P D it) (d : Dt) (s : Hd) : ∃ ρ, m_height_at [B.arms, D, d] s = .err "BadPose" [("index", .int (w : Nat))] ρ s := by
  obtain ⟨ρ, e⟩ := place_at_p ok hP H d s
  refine ⟨[.dat B.arms, .dat D, .dat d], es_def_err (ρ := [.dat B.arms, .dat D, .dat d]) rfl ?_⟩
  unfold b_height_at
  exact es_ret_e (ev_op_e1 (ev_call0_e (by sizeOf_list_dec) rfl e))
theorem height_at_f (H : Handed B.N P D it) {d : Dt} (hd : NotP B d) (s : Hd) : ∃ ρ, m_height_at [B.arms, D, d] s = .err "BadPlace" [] ρ s := by
  obtain ⟨ρ, e⟩ := place_at_f ok hP H hd s
  refine ⟨[.dat B.arms, .dat D, .dat d], es_def_err (ρ := [.dat B.arms, .dat D, .dat d]) rfl ?_⟩
  unfold b_height_at
  exact es_ret_e (ev_op_e1 (ev_call0_e (by sizeOf_list_dec) rfl e))
/-- a spot -/
def spD (B : Bars) (P : Nat → Rat × Rat) (b : Int) (q : Rat) : Dt := .tup [dq (X B P b q), dq (Y B P b q)]
theorem hinges_ok (H : Handed B.N P D it) (s : Hd) : m_hinges_at [B.arms, D] s = .ok (.tup ((List.range B.n).map fun (i : Nat) => spD B P i 0)) s := by
  have n6 := ok.n6
  have e1 := check_pose_ok ok hP H s
  have l2 := lk_bars (.int (B.N : Nat)) B.d
  have l3 := lk_hinge (.int (B.N : Nat)) B.d
  have e4 := fLen_d B
  refine es_def (ρ := [.dat B.arms, .dat D, .no]) rfl ?_
  unfold b_hinges_at
  have hg := fun (b : Int) (h0 : 0 ≤ b) (h1 : b < B.n) (s : Hd) => hinge_ok ok h0 h1 s
  unfold Bars.arms at *
  refine es_seq (es_set (by sizeOf_list_dec)) ?_
  refine es_ret (tup_of (ev_lc (rng1_of (i := B.n) B.n (by sizeOf_list_dec) rfl (by omega)) (lc_range (fun (j : Nat) => spD B P j 0) (by omega) fun j hj => ⟨_, rfl, ?_⟩)))
  have k1 := hg (0 + (j : Int)) (by omega) (by omega) s
  have z : (0 + (j : Int)) = j := Int.zero_add _
  have k2 : m_spot_by [dR B.N (Rw B (0 + (j : Int)) 0), .tup (poseL B.N P)] s = .ok (spD B P j 0) s := by
    rw [z]
    exact spot_of ok hP (by omega) (n := 1) (by omega) (by omega) bd0 s
  sizeOf_list_dec
theorem hinges_p {w : Nat} (H : HandedW B.N w P D it) (s : Hd) : ∃ ρ, m_hinges_at [B.arms, D] s = .err "BadPose" [("index", .int (w : Nat))] ρ s := by
  obtain ⟨ρ, e⟩ := check_pose_f ok hP H s
  refine ⟨[.dat B.arms, .dat D, .no], es_def_err (ρ := [.dat B.arms, .dat D, .no]) rfl ?_⟩
  unfold b_hinges_at
  exact es_seq_err (es_set_e (ev_call0_e (by sizeOf_list_dec) rfl e))
/-- the square of a distance -/
def Sq (B : Bars) (P : Nat → Rat × Rat) (b : Int) (q : Rat) (b2 : Int) (q2 : Rat) : Rat := (X B P b q - X B P b2 q2) * (X B P b q - X B P b2 q2) + (Y B P b q - Y B P b2 q2) * (Y B P b q - Y B P b2 q2)
theorem square_ok (H : Handed B.N P D it) {b b2 : Int} {q q2 : Rat} {d d2 : Dt} (h0 : -1 ≤ b) (h1 : b < B.n) (g0 : -1 ≤ b2) (g1 : b2 < B.n) (hq : Bd 140 q) (hq2 : Bd 140 q2) (hd : d = .tup [.int b, dq q] ∨ d = .lst [.int b, dq q]) (hd2 : d2 = .tup [.int b2, dq q2] ∨ d2 = .lst [.int b2, dq q2]) (s : Hd) :
    m_square_between [B.arms, D, d, d2] s = .ok (dq (Sq B P b q b2 q2)) s := by
  have e1 := check_pose_ok ok hP H s
  have e2 := diff_ok ok h0 h1 g0 g1 (n := 140) (by omega) (by omega) hq hq2 hd hd2 s
  have e3 := spot_ok (n := 617) ok.N4 (by omega) (by omega) hP (c := fun j => Rw B b q j - Rw B b2 q2 j) (fun j => ((R_bd ok h1 (by omega) hq j).sub (R_bd ok g1 (by omega) hq2 j)).mono (by omega)) s
  rw [spX_full hP, spY_full hP, full_sub, full_sub] at e3
  unfold Rw at e3
  rw [full_W ok _ 7 b q h1, full_W ok _ 7 b q h1, full_W ok _ 7 b2 q2 g1, full_W ok _ 7 b2 q2 g1] at e3
  have bx : Bd 1460 (X B P b q - X B P b2 q2) := ((X_bd ok hP h1 hq).sub (X_bd ok hP g1 hq2)).mono (by omega)
  have by' : Bd 1460 (Y B P b q - Y B P b2 q2) := ((Y_bd ok hP h1 hq).sub (Y_bd ok hP g1 hq2)).mono (by omega)
  have e3 : m_spot_by [dR B.N fun j => Rw B b q j - Rw B b2 q2 j, .tup (poseL B.N P)] s = .ok (.tup [dq (X B P b q - X B P b2 q2), dq (Y B P b q - Y B P b2 q2)]) s := e3
  have k1 := times_q (by omega) bx bx s
  have k2 := times_q (by omega) by' by' s
  have k3 : m_plus [dq ((X B P b q - X B P b2 q2) * (X B P b q - X B P b2 q2)), dq ((Y B P b q - Y B P b2 q2) * (Y B P b q - Y B P b2 q2))] s = .ok (dq (Sq B P b q b2 q2)) s := plus_q (n := 2950) (by omega) ((bx.mul bx).mono (by omega)) ((by'.mul by').mono (by omega)) s
  generalize hx : X B P b q - X B P b2 q2 = x at *
  generalize hy : Y B P b q - Y B P b2 q2 = y at *
  have i0 : fIx (.tup [dq x, dq y]) (.int 0) = some (dq x) := rfl
  have i1 : fIx (.tup [dq x, dq y]) (.int 1) = some (dq y) := rfl
  have dt : m_dot_of [.tup [dq x, dq y], .tup [dq x, dq y]] s = .ok (dq (Sq B P b q b2 q2)) s := by
    refine es_def (ρ := [.dat (.tup [dq x, dq y]), .dat (.tup [dq x, dq y])]) rfl ?_
    unfold b_dot_of
    exact es_ret (by sizeOf_list_dec)
  have sq : m_square_by [dR B.N fun j => Rw B b q j - Rw B b2 q2 j, .tup (poseL B.N P)] s = .ok (dq (Sq B P b q b2 q2)) s := by
    refine es_def (ρ := [.dat (dR B.N fun j => Rw B b q j - Rw B b2 q2 j), .dat (.tup (poseL B.N P)), .no]) rfl ?_
    unfold b_square_by
    refine es_seq (es_set (by sizeOf_list_dec)) ?_
    exact es_ret (by sizeOf_list_dec)
  have l4 := lk_diff (.int (B.N : Nat)) B.d
  refine es_def (ρ := [.dat B.arms, .dat D, .dat d, .dat d2]) rfl ?_
  unfold b_square_between
  unfold Bars.arms at *
  refine es_seq (es_set (by sizeOf_list_dec)) ?_
  exact es_ret (by sizeOf_list_dec)
theorem square_p {w : Nat} (H : HandedW B.N w P D it) (d d2 : Dt) (s : Hd) : ∃ ρ, m_square_between [B.arms, D, d, d2] s = .err "BadPose" [("index", .int (w : Nat))] ρ s := by
  obtain ⟨ρ, e⟩ := check_pose_f ok hP H s
  refine ⟨[.dat B.arms, .dat D, .dat d, .dat d2], es_def_err (ρ := [.dat B.arms, .dat D, .dat d, .dat d2]) rfl ?_⟩
  unfold b_square_between
  exact es_seq_err (es_set_e (ev_call0_e (by sizeOf_list_dec) rfl e))
theorem square_f (H : Handed B.N P D it) {d d2 : Dt} (s : Hd) (hd : ∃ ρ, m_Arms__difference_row [B.arms, d, d2] s = .err "BadPlace" [] ρ s) : ∃ ρ, m_square_between [B.arms, D, d, d2] s = .err "BadPlace" [] ρ s := by
  have e1 := check_pose_ok ok hP H s
  obtain ⟨ρ, e2⟩ := hd
  have l4 := lk_diff (.int (B.N : Nat)) B.d
  refine ⟨[.dat B.arms, .dat (.tup (poseL B.N P)), .dat d, .dat d2], es_def_err (ρ := [.dat B.arms, .dat D, .dat d, .dat d2]) rfl ?_⟩
  unfold b_square_between
  unfold Bars.arms at *
  refine es_seq (es_set (by sizeOf_list_dec)) ?_
  exact es_ret_e (ev_call_ae (ev_cons_e1 (ev_meth0_e (ev_var rfl) l4 (by sizeOf_list_dec) rfl e2)))
end
end Law


set_option Elab.async false
set_option linter.all false
set_option maxRecDepth 100000
namespace Law
open PySem PySem.Spec PyProof.Rows L2 Mir
def standBody : MS := (mSeq (mSet 8 (mIf (mTest (mOp fLt (mVar 3) (mC (.int 0)))) (mC (.int 0)) (mOp fIx (mOp fIx (mVar 0) (mVar 3)) (mC (.int 2)))))
    (mSeq (mSet 9 (mIf (mTest (mOp fEq (mVar 8) (mC (.int 0)))) (mTup (mCons (mTup (mCons (mC (.int 0)) (mCons (mC (.int 1)) mNil))) (mCons (mTup (mCons (mC (.int 1)) (mCons (mC (.int 1)) mNil))) mNil))) (mOp fIx (mVar 1) (mOp fSub (mVar 8) (mC (.int 1))))))
    (mSeq (mSet 5 (mCall 2 [] m__law_plus (mCons (mVar 5) (mCons (mCall 2 [] m__law_times (mCons (mVar 4) (mCons (mOp fIx (mVar 9) (mC (.int 0))) mNil))) mNil))))
    (mSeq (mSet 6 (mCall 2 [] m__law_plus (mCons (mVar 6) (mCons (mCall 2 [] m__law_times (mCons (mVar 4) (mCons (mOp fIx (mVar 9) (mC (.int 1))) mNil))) mNil))))
    (mSeq (mIfS (mTest (mOp fLt (mVar 3) (mC (.int 0)))) mBreak mNext)
    (mPar 3 4 (mCons (mOp fIx (mOp fIx (mVar 0) (mVar 3)) (mC (.int 0))) (mCons (mOp fIx (mOp fIx (mVar 0) (mVar 3)) (mC (.int 1))) mNil))))))))
section
variable {B : Bars} (ok : B.Ok) {P : Nat → Rat × Rat} (hP : Pz B.N P)
include ok hP
theorem dir_at {l : Nat} (hl : l ≤ B.N) (ρ : Env') (s : Hd) (h8 : ρ[8]? = some (.dat (.int (l : Nat)))) (h1 : ρ[1]? = some (.dat (.tup (poseL B.N P)))) :
    mIf (mTest (mOp fEq (mVar 8) (mC (.int 0)))) (mTup (mCons (mTup (mCons (mC (.int 0)) (mCons (mC (.int 1)) mNil))) (mCons (mTup (mCons (mC (.int 1)) (mCons (mC (.int 1)) mNil))) mNil))) (mOp fIx (mVar 1) (mOp fSub (mVar 8) (mC (.int 1)))) ρ s = .ok (dirD (P l)) s := by
  by_cases c : l = 0
  · subst c
    rw [hP.z]
    exact ev_if_t (ev_test (ev_op (ev_var h8) ev_c (feq_t 0 0 rfl))) (ev_tup (ev_cons (ev_tup (ev_cons ev_c (ev_cons ev_c ev_nil)) (Nat.le_of_ble_eq_true rfl)) (ev_cons (ev_tup (ev_cons ev_c (ev_cons ev_c ev_nil)) (Nat.le_of_ble_eq_true rfl)) ev_nil)) (Nat.le_of_ble_eq_true rfl))
  · have e : fIx (.tup (poseL B.N P)) (.int ((l : Int) - 1)) = some (dirD (P l)) := by
      show atI (fD dirD B.N fun i => P (i + 1)) _ = _
      rw [fD_at (by omega) (by omega)]
      rw [show ((l : Int) - 1).toNat + 1 = l by omega]
    exact ev_if_f (ev_test (ev_op (ev_var h8) ev_c (feq_f l 0 (by omega)))) (ev_op (ev_var h1) (ev_op (ev_var h8) ev_c rfl) e)
theorem stand_loop : ∀ (k n m : Nat) (x y : Rat) (b : Int) (q : Rat) (p x7 x8 x9 : Sl) (i0 : Int) (r : Nat) (s : Hd), b < k → -1 ≤ b → b < B.n → k ≤ r → 22 ≤ m → n + m + 80 * (k + 1) ≤ 4000 → Bd n x → Bd n y → Bd m q →
    ∃ y3 y4 y7 y8 y9 : Sl, loopF (gmName 7) standBody (rangeD i0 (r + 1)) [.dat B.d, .dat (.tup (poseL B.N P)), p, .dat (.int b), .dat (dq q), .dat (dq x), .dat (dq y), x7, x8, x9] s =
      .ok (.nx [.dat B.d, .dat (.tup (poseL B.N P)), p, y3, y4, .dat (dq (x + Sp B (fun j => (P j).1) k b q)), .dat (dq (y + Sp B (fun j => (P j).2) k b q)), y7, y8, y9]) s
  | k, n, m, x, y, b, q, p, x7, x8, x9, i0, r, s, hk, h0, h1, hr, hm, hn, hx, hy, hq => by
    rw [rangeD_succ]
    have tm : ∀ l, m__law_times [dq q, dq (P l).1] s = .ok (dq (q * (P l).1)) s := fun l => ltimes_q (n := m + 52) (by omega) (hq.mono (by omega)) ((hP.b1 l).mono (by omega)) s
    have tm2 : ∀ l, m__law_times [dq q, dq (P l).2] s = .ok (dq (q * (P l).2)) s := fun l => ltimes_q (n := m + 52) (by omega) (hq.mono (by omega)) ((hP.b2 l).mono (by omega)) s
    have bt : ∀ l, Bd (m + 53) (q * (P l).1) := fun l => (hq.mul (hP.b1 l)).mono (by omega)
    have bt2 : ∀ l, Bd (m + 53) (q * (P l).2) := fun l => (hq.mul (hP.b2 l)).mono (by omega)
    have pl : ∀ l, m__law_plus [dq x, dq (q * (P l).1)] s = .ok (dq (x + q * (P l).1)) s := fun l => lplus_q (n := n + m + 53) (by omega) (hx.mono (by omega)) ((bt l).mono (by omega)) s
    have pl2 : ∀ l, m__law_plus [dq y, dq (q * (P l).2)] s = .ok (dq (y + q * (P l).2)) s := fun l => lplus_q (n := n + m + 53) (by omega) (hy.mono (by omega)) ((bt2 l).mono (by omega)) s
    have c0 : (x8' : Sl) → (∀ p, Sp B p k b q = q * p 0) → b < 0 → standBody [.dat B.d, .dat (.tup (poseL B.N P)), p, .dat (.int b), .dat (dq q), .dat (dq x), .dat (dq y), .dat (.int i0), x8', x9] s = .ok (.bk [.dat B.d, .dat (.tup (poseL B.N P)), p, .dat (.int b), .dat (dq q), .dat (dq (x + Sp B (fun j => (P j).1) k b q)), .dat (dq (y + Sp B (fun j => (P j).2) k b q)), .dat (.int i0), .dat (.int 0), .dat (dirD (P 0))]) s := by
      intro x8' hw hb
      have t1 := flt_t hb
      rw [hw, hw]
      have a1 := tm 0
      have a2 := tm2 0
      have a3 := pl 0
      have a4 := pl2 0
      have i0' : fIx (dirD (P 0)) (.int 0) = some (dq (P 0).1) := rfl
      have i1' : fIx (dirD (P 0)) (.int 1) = some (dq (P 0).2) := rfl
      refine es_seq (es_set (d := .int 0) (ev_if_t (ev_test (by sizeOf_list_dec)) ev_c)) ?_
      refine es_seq (es_set (dir_at ok hP (l := 0) (by omega) _ s rfl rfl)) ?_
      refine es_seq (es_set (d := dq (x + q * (P 0).1)) (by sizeOf_list_dec)) ?_
      refine es_seq (es_set (d := dq (y + q * (P 0).2)) (by sizeOf_list_dec)) ?_
      exact (seq_bk (es_if_t (by array_mem_dec) es_break)).trans rfl
    cases k with
    | zero => exact ⟨_, _, _, _, _, loop_bk rfl (c0 x8 (fun p => rfl) (by omega))⟩
    | succ k =>
      by_cases c : b < 0
      · exact ⟨_, _, _, _, _, loop_bk rfl (c0 x8 (fun p => by unfold Sp; rw [if_pos c]) c)⟩
      · obtain ⟨r, rfl⟩ : ∃ r', r = r' + 1 := ⟨r - 1, by omega⟩
        have hi : b.toNat < B.n := by omega
        have m1 := ok.h1 _ hi
        have m0 := ok.h0 _ hi
        have lb := ok.l _ hi
        have mb := ok.m _ hi
        have t1 := flt_f c
        have t2 : fIx B.d (.int b) = some (B.bar b.toNat) := atI_row B (by omega) h1
        have t3 : fIx (B.bar b.toNat) (.int 2) = some (.int (B.l b.toNat)) := rfl
        have t4 : fIx (B.bar b.toNat) (.int 0) = some (.int (B.h b.toNat)) := rfl
        have t5 : fIx (B.bar b.toNat) (.int 1) = some (dq (B.m b.toNat)) := rfl
        have a1 := tm (B.l b.toNat)
        have a2 := tm2 (B.l b.toNat)
        have a3 := pl (B.l b.toNat)
        have a4 := pl2 (B.l b.toNat)
        have i0' : fIx (dirD (P (B.l b.toNat))) (.int 0) = some (dq (P (B.l b.toNat)).1) := rfl
        have i1' : fIx (dirD (P (B.l b.toNat))) (.int 1) = some (dq (P (B.l b.toNat)).2) := rfl
        have st : standBody [.dat B.d, .dat (.tup (poseL B.N P)), p, .dat (.int b), .dat (dq q), .dat (dq x), .dat (dq y), .dat (.int i0), x8, x9] s = .ok (.nx [.dat B.d, .dat (.tup (poseL B.N P)), p, .dat (.int (B.h b.toNat)), .dat (dq (B.m b.toNat)), .dat (dq (x + q * (P (B.l b.toNat)).1)), .dat (dq (y + q * (P (B.l b.toNat)).2)), .dat (.int i0), .dat (.int (B.l b.toNat)), .dat (dirD (P (B.l b.toNat)))]) s := by
          refine es_seq (es_set (d := .int (B.l b.toNat)) (ev_if_f (ev_test (by sizeOf_list_dec)) (by sizeOf_list_dec))) ?_
          refine es_seq (es_set (dir_at ok hP (l := B.l b.toNat) lb _ s rfl rfl)) ?_
          refine es_seq (es_set (d := dq (x + q * (P (B.l b.toNat)).1)) (by sizeOf_list_dec)) ?_
          refine es_seq (es_set (d := dq (y + q * (P (B.l b.toNat)).2)) (by sizeOf_list_dec)) ?_
          refine es_seq (es_if_f (by array_mem_dec) es_next) ?_
          exact es_par (by sizeOf_list_dec)
        obtain ⟨y3, y4, y7, y8, y9, ih⟩ := stand_loop k (n + m + 54) 22 (x + q * (P (B.l b.toNat)).1) (y + q * (P (B.l b.toNat)).2) (B.h b.toNat) (B.m b.toNat) p (.dat (.int i0)) (.dat (.int (B.l b.toNat))) (.dat (dirD (P (B.l b.toNat)))) (i0 + 1) r s (by omega) m0 (by omega) (by omega) (by omega) (by omega)
          ((hx.add (bt _)).mono (by omega)) ((hy.add (bt2 _)).mono (by omega)) mb
        refine ⟨y3, y4, y7, y8, y9, loop_nx rfl st ?_⟩
        rw [ih]
        have e : ∀ (p : Nat → Rat) (x : Rat), x + Sp B p (k + 1) b q = x + q * p (B.l b.toNat) + Sp B p k (B.h b.toNat) (B.m b.toNat) := fun p x => by
          rw [Sp, if_neg c]
          grind
        rw [e, e]
theorem stand_ok {b : Int} {q : Rat} {d : Dt} (h0 : -1 ≤ b) (h1 : b < B.n) (hq : Bd 140 q) (hd : d = .tup [.int b, dq q] ∨ d = .lst [.int b, dq q]) (s : Hd) : m__law_stand [B.d, .tup (poseL B.N P), d] s = .ok (spD B P b q) s := by
  have n6 := ok.n6
  have e4 := fLen_d B
  obtain ⟨y3, y4, y7, y8, y9, lp⟩ := stand_loop ok hP (b + 1).toNat 1 140 0 0 b q (.dat d) .no .no .no 0 B.n s (by omega) h0 h1 (by omega) (by omega) (by omega) bd0 bd0 hq
  have e : ∀ p : Nat → Rat, (0 : Rat) + Sp B p (b + 1).toNat b q = Sp B p 7 b q := fun p => by
    rw [Rat.zero_add]
    conv => rhs; rw [show (7 : Nat) = (b + 1).toNat + (7 - (b + 1).toNat) by omega]
    exact (Sp_more ok p _ b q (by omega) h1 _).symm
  rw [e, e] at lp
  refine es_def (ρ := [.dat B.d, .dat (.tup (poseL B.N P)), .dat d, .no, .no, .no, .no, .no, .no, .no]) rfl ?_
  unfold b__law_stand
  refine es_seq (ρ1 := [.dat B.d, .dat (.tup (poseL B.N P)), .dat d, .dat (.int b), .dat (dq q), .no, .no, .no, .no, .no]) (s1 := s) (es_asg (ev_var rfl) (by rcases hd with rfl | rfl <;> rfl)) ?_
  refine es_seq (es_set (d := dq 0) (ev_tup (ds := [.int 0, .int 1]) (by sizeOf_list_dec) (by decide))) ?_
  refine es_seq (es_set (d := dq 0) (ev_tup (ds := [.int 0, .int 1]) (by sizeOf_list_dec) (by decide))) ?_
  refine es_seq (es_for (b1 := standBody) (rng1_of (i := (B.n : Int) + 1) (B.n + 1) (by sizeOf_list_dec) (by omega) (by omega)) lp) ?_
  exact es_ret (ev_tup (ev_cons (ev_var rfl) (ev_cons (ev_var rfl) ev_nil)) (Nat.le_of_ble_eq_true rfl))
end
end Law


set_option Elab.async false
set_option linter.all false
set_option maxRecDepth 100000
namespace Law
open PySem PySem.Spec PyProof.Rows L2 Mir
theorem ne22 : fNe (.int 2) (.int 2) = some (.bl false) := by simp [fNe, eq_int]
/-- a told ratio is the due one -/
theorem same_ok (v : Rat) (s : Hd) : m__law_same [dq v, dq v] s = .ok (.bl true) s := by
  have k1 : fLen [dq v] = some (.int 2) := rfl
  have k2 := ne22
  have i0 : fIx (dq v) (.int 0) = some (.int v.num) := rfl
  have i1 : fIx (dq v) (.int 1) = some (.int (v.den : Int)) := rfl
  have q0 := feq_t v.num v.num rfl
  have q1 := feq_t (v.den : Int) (v.den : Int) rfl
  have z : mSeqI (mVar 0) [.dat (dq v), .dat (dq v), .no] s = .ok [.int v.num, .int (v.den : Int)] s := ev_seqI (ev_var rfl) rfl
  have st : ∀ (i : Int), (mIfS (mOr (mNot (mTru (mIsi "int" (mVar 2)))) (mTru (mIsi "bool" (mVar 2)))) (mRet (mC (.bl false))) mNext) [.dat (dq v), .dat (dq v), .dat (.int i)] s = .ok (.nx [.dat (dq v), .dat (dq v), .dat (.int i)]) s := fun i =>
    es_if_f (ev_or_f (ev_not_f (ev_tru (ev_isi (c := true) (ev_var rfl) (by simp)) rfl)) (ev_tru (ev_isi (c := false) (ev_var rfl) (by simp)) rfl)) es_next
  refine es_def (ρ := [.dat (dq v), .dat (dq v), .no]) rfl ?_
  unfold b__law_same
  refine es_seq (es_if_f (ev_or_f (ev_not_f (ev_tru (ev_isi (c := true) (ev_var rfl) (by simp)) rfl)) (ev_test (by sizeOf_list_dec))) es_next) ?_
  refine es_seq (ρ1 := [.dat (dq v), .dat (dq v), .dat (.int (v.den : Int))]) (s1 := s) (es_for z (loop_nx rfl (st _) (loop_nx rfl (st _) rfl))) ?_
  exact es_ret (ev_andv_t (d := .bl true) (by sizeOf_list_dec) rfl (by sizeOf_list_dec))
/-- rows that are the same all along -/
theorem same_all {n : Nat} (hn : n ≤ 10) {m : List Dt → Hd → R Dt} {it : Nat → Dt} (hm : ∀ i, i < n → ∀ s, m [it i, it i] s = .ok (.bl true) s) (s : Hd) :
    mDef 3 (mSeq (mIfS (mOr (mNot (mTru (mIsi "tuple" (mVar 0)))) (mTest (mOp fNe (mCB fLen (mCons (mVar 0) mNil)) (mCB fLen (mCons (mVar 1) mNil))))) (mRet (mC (.bl false))) mNext)
      (mRet (mOp fEq (mLc (gmName 2) (mRng1 (mCB fLen (mCons (mVar 1) mNil))) (mNot (mTru (mCall 2 [] m (mCons (mOp fIx (mVar 0) (mVar 2)) (mCons (mOp fIx (mVar 1) (mVar 2)) mNil))))) (mVar 2) [2]) (mLst mNil)))) [.tup (fD (fun d => d) n it), .tup (fD (fun d => d) n it)] s = .ok (.bl true) s := by
  generalize hL : fD (fun d : Dt => d) n it = L
  have len : fLen [.tup L] = some (.int n) := by
    show some (Dt.int (L.length : Nat)) = _
    rw [← hL, fD_len]
  have nn : fNe (.int (n : Int)) (.int n) = some (.bl false) := by simp [fNe, eq_int]
  have at' : ∀ i : Nat, i < n → fIx (.tup L) (.int (0 + (i : Int))) = some (it i) := fun i hi => by
    show atI L _ = _
    rw [← hL, Int.zero_add]
    exact fD_at (by omega) (by omega)
  have rg : mRng1 (mCB fLen (mCons (mVar 1) mNil)) [.dat (.tup L), .dat (.tup L), .no] s = .ok (rangeD 0 n) s := rng1_of (i := n) n (by sizeOf_list_dec) rfl (by omega)
  have lc := lc_some (g := gmName 2) (t := mNot (mTru (mCall 2 [] m (mCons (mOp fIx (mVar 0) (mVar 2)) (mCons (mOp fIx (mVar 1) (mVar 2)) mNil))))) (a := mVar 2) (vs := [2]) (ρ := [.dat (.tup L), .dat (.tup L), .no]) (s := s) (fun (i : Nat) => .int (0 + (i : Int))) (fun (i : Nat) => .int (0 + (i : Int))) (fun _ => false) (List.range n) [] (by simp; omega) fun i hi => ⟨[.dat (.tup L), .dat (.tup L), .dat (.int (0 + (i : Int)))], rfl, by
    have k := hm i (List.mem_range.1 hi) s
    have k2 := at' i (List.mem_range.1 hi)
    exact ev_not_f (ev_tru (c := true) (by sizeOf_list_dec) rfl), fun z => by cases z⟩
  have lc2 : loopC (gmName 2) (mNot (mTru (mCall 2 [] m (mCons (mOp fIx (mVar 0) (mVar 2)) (mCons (mOp fIx (mVar 1) (mVar 2)) mNil))))) (mVar 2) [2] (rangeD 0 n) [] [.dat (.tup L), .dat (.tup L), .no] s = .ok (.lst []) s := by
    unfold rangeD
    rw [lc]
    simp
  refine es_def (ρ := [.dat (.tup L), .dat (.tup L), .no]) rfl ?_
  refine es_seq (es_if_f (ev_or_f (ev_not_f (ev_tru (ev_isi (c := true) (ev_var rfl) (by simp)) rfl)) (ev_test (by sizeOf_list_dec))) es_next) ?_
  exact es_ret (ev_op (ev_lc rg lc2) (ev_lst ev_nil (by simp)) (eq_self 1 (by decide) rfl))
theorem same_row_ok (x y : Rat) (s : Hd) : m__law_same_row [.tup [dq x, dq y], .tup [dq x, dq y]] s = .ok (.bl true) s := by
  have e : fD (fun d : Dt => d) 2 (fun i => if i = 0 then dq x else dq y) = [dq x, dq y] := rfl
  have h := same_all (n := 2) (by decide) (m := m__law_same) (it := fun i => if i = 0 then dq x else dq y) (fun i hi s => by
    by_cases c : i = 0
    · simp only [if_pos c]
      exact same_ok x s
    · simp only [if_neg c]
      exact same_ok y s) s
  rw [e] at h
  exact h
theorem same_rows_ok {n : Nat} (hn : n ≤ 10) (f g : Nat → Rat) (s : Hd) : m__law_same_rows [.tup ((List.range n).map fun i => Dt.tup [dq (f i), dq (g i)]), .tup ((List.range n).map fun i => Dt.tup [dq (f i), dq (g i)])] s = .ok (.bl true) s :=
  same_all hn (m := m__law_same_row) (it := fun i => Dt.tup [dq (f i), dq (g i)]) (fun i hi s => same_row_ok _ _ s) s
section
variable {B : Bars} (ok : B.Ok) {P : Nat → Rat × Rat} (hP : Pz B.N P)
include ok hP
theorem gap_ok {b b2 : Int} {q q2 : Rat} {d d2 : Dt} (h0 : -1 ≤ b) (h1 : b < B.n) (g0 : -1 ≤ b2) (g1 : b2 < B.n) (hq : Bd 140 q) (hq2 : Bd 140 q2) (hd : d = .tup [.int b, dq q] ∨ d = .lst [.int b, dq q]) (hd2 : d2 = .tup [.int b2, dq q2] ∨ d2 = .lst [.int b2, dq q2]) (s : Hd) :
    m__law_gap [B.d, .tup (poseL B.N P), d, d2] s = .ok (.tup [dq (X B P b q - X B P b2 q2), dq (Y B P b q - Y B P b2 q2)]) s := by
  have e1 := stand_ok ok hP h0 h1 hq hd s
  have e2 := stand_ok ok hP g0 g1 hq2 hd2 s
  have k1 := lless_q (n := 726) (by omega) (X_bd ok hP h1 hq) (X_bd ok hP g1 hq2) s
  have k2 := lless_q (n := 726) (by omega) (Y_bd ok hP h1 hq) (Y_bd ok hP g1 hq2) s
  have a0 : fIx (spD B P b q) (.int 0) = some (dq (X B P b q)) := rfl
  have a1 : fIx (spD B P b q) (.int 1) = some (dq (Y B P b q)) := rfl
  have c0 : fIx (spD B P b2 q2) (.int 0) = some (dq (X B P b2 q2)) := rfl
  have c1 : fIx (spD B P b2 q2) (.int 1) = some (dq (Y B P b2 q2)) := rfl
  refine es_def (ρ := [.dat B.d, .dat (.tup (poseL B.N P)), .dat d, .dat d2, .no, .no]) rfl ?_
  unfold b__law_gap
  refine es_seq (es_set (by sizeOf_list_dec)) ?_
  refine es_seq (es_set (by sizeOf_list_dec)) ?_
  exact es_ret (by sizeOf_list_dec)
theorem lsquare_ok {b b2 : Int} {q q2 : Rat} (h1 : b < B.n) (g1 : b2 < B.n) (hq : Bd 140 q) (hq2 : Bd 140 q2) (s : Hd) : m__law_square [.tup [dq (X B P b q - X B P b2 q2), dq (Y B P b q - Y B P b2 q2)]] s = .ok (dq (Sq B P b q b2 q2)) s := by
  have bx : Bd 1460 (X B P b q - X B P b2 q2) := ((X_bd ok hP h1 hq).sub (X_bd ok hP g1 hq2)).mono (by omega)
  have by' : Bd 1460 (Y B P b q - Y B P b2 q2) := ((Y_bd ok hP h1 hq).sub (Y_bd ok hP g1 hq2)).mono (by omega)
  have k1 := ltimes_q (by omega) bx bx s
  have k2 := ltimes_q (by omega) by' by' s
  have k3 : m__law_plus [dq ((X B P b q - X B P b2 q2) * (X B P b q - X B P b2 q2)), dq ((Y B P b q - Y B P b2 q2) * (Y B P b q - Y B P b2 q2))] s = .ok (dq (Sq B P b q b2 q2)) s := lplus_q (n := 2950) (by omega) ((bx.mul bx).mono (by omega)) ((by'.mul by').mono (by omega)) s
  generalize hx : X B P b q - X B P b2 q2 = x at *
  generalize hy : Y B P b q - Y B P b2 q2 = y at *
  have i0 : fIx (.tup [dq x, dq y]) (.int 0) = some (dq x) := rfl
  have i1 : fIx (.tup [dq x, dq y]) (.int 1) = some (dq y) := rfl
  refine es_def (ρ := [.dat (.tup [dq x, dq y])]) rfl ?_
  unfold b__law_square
  exact es_ret (by sizeOf_list_dec)
end
end Law


set_option Elab.async false
set_option linter.all false
set_option maxRecDepth 100000
namespace Law
open PySem PySem.Spec PyProof.Rows L2 Mir
/-- a list or a tuple -/
def sq (k : Bool) (l : List Dt) : Dt := if k = true then .lst l else .tup l
/-! ### how long a thing's text is -/
structure Rp (n w : Nat) (d : Dt) : Prop where
  ex : ∃ p : PyData, toPy d = some p ∧ p.showable = true ∧ p.hasDict = false ∧ p.depth ≤ n ∧ p.leavesShort 151 = true ∧ p.weight ≤ w ∧ ∀ k, 0x110000 ≤ k → k ∉ p.shown.cps.toList
theorem Rp.mono {n w n' w' : Nat} {d : Dt} (h : Rp n w d) (a : n ≤ n') (b : w ≤ w') : Rp n' w' d := by
  obtain ⟨p, h1, h2, h3, h4, h5, h6, h7⟩ := h.ex
  exact ⟨p, h1, h2, h3, Nat.le_trans h4 a, h5, Nat.le_trans h6 b, h7⟩
theorem rp_int {i : Int} (z : Sz 150 i) : Rp 0 151 (.int i) := by
  have lg : i.natAbs.log2 < 150 := PySem.Flt.log2_lt_of (by decide) z
  refine ⟨.int i, rfl, ?_, by simp only [PyData.hasDict], by simp only [PyData.depth]; omega, ?_, ?_, fun k hk => shown_int_free' ⟨by omega, by omega⟩ i⟩
  · simp only [PyData.showable]
    exact decide_eq_true (by omega)
  · simp only [PyData.leavesShort, PyData.shown]
    refine decide_eq_true ?_
    have := int_text_length_le (k := 150) (by decide) lg
    rw [PySem.ofString_length]
    omega
  · simp only [PyData.weight]
    split <;> omega
theorem rp_bl (b : Bool) : Rp 0 151 (.bl b) := by
  refine ⟨.bool b, rfl, by simp only [PyData.showable], by simp only [PyData.hasDict], by simp only [PyData.depth]; omega, by simp only [PyData.leavesShort], by simp only [PyData.weight]; omega, fun k hk => ?_⟩
  rw [PyData.shown_bool]
  cases b
  · show k ∉ (Str.ofString "False").cps.toList
    have e : (Str.ofString "False").cps.toList = [70, 97, 108, 115, 101] := by decide
    rw [e]; intro hm; simp only [List.mem_cons, List.not_mem_nil, or_false] at hm
    rcases hm with h | h | h | h | h <;> omega
  · show k ∉ (Str.ofString "True").cps.toList
    have e : (Str.ofString "True").cps.toList = [84, 114, 117, 101] := by decide
    rw [e]; intro hm; simp only [List.mem_cons, List.not_mem_nil, or_false] at hm
    rcases hm with h | h | h | h <;> omega
theorem rp_non : Rp 0 151 .non := by
  refine ⟨.none, rfl, by simp only [PyData.showable], by simp only [PyData.hasDict], by simp only [PyData.depth]; omega, by simp only [PyData.leavesShort], by simp only [PyData.weight]; omega, fun k hk => ?_⟩
  rw [PyData.shown_none]
  have e : (("None" : String) : Str).cps.toList = [78, 111, 110, 101] := by decide
  rw [e]; intro hm; simp only [List.mem_cons, List.not_mem_nil, or_false] at hm
  rcases hm with h | h | h | h <;> omega
theorem rp_one : Rp 0 151 (.str "1") := by
  refine ⟨.str "1", rfl, by simp only [PyData.showable], by simp only [PyData.hasDict], by simp only [PyData.depth]; omega, by simp only [PyData.leavesShort]; decide, by simp only [PyData.weight]; decide, fun k hk => ?_⟩
  simp only [PyData.shown]
  have e : (reprText "1").cps.toList = [39, 49, 39] := by decide +kernel
  rw [e]; intro hm; simp only [List.mem_cons, List.not_mem_nil, or_false] at hm
  rcases hm with h | h | h <;> omega
theorem rp_mast : Rp 0 151 (.str "mast") := by
  refine ⟨.str "mast", rfl, by simp only [PyData.showable], by simp only [PyData.hasDict], by simp only [PyData.depth]; omega, by simp only [PyData.leavesShort]; decide, by simp only [PyData.weight]; decide, fun k hk => ?_⟩
  simp only [PyData.shown]
  have e : (reprText "mast").cps.toList = [39, 109, 97, 115, 116, 39] := by decide +kernel
  rw [e]; intro hm; simp only [List.mem_cons, List.not_mem_nil, or_false] at hm
  rcases hm with h | h | h | h | h | h <;> omega
theorem rp_all {n w : Nat} : ∀ {l : List Dt}, (∀ d ∈ l, Rp n w d) → ∃ ps, toPyA l = some ps ∧ PyData.showableAll ps = true ∧ PyData.hasDictAll ps = false ∧ PyData.depthAll ps ≤ n ∧ PyData.leavesShortAll 151 ps = true ∧ PyData.weightAll ps ≤ l.length * (w + 1) ∧ ∀ k, 0x110000 ≤ k → ∀ p ∈ ps, k ∉ p.shown.cps.toList
  | [], _ => ⟨[], rfl, by simp only [PyData.showableAll], by simp only [PyData.hasDictAll], by simp only [PyData.depthAll]; omega, by simp only [PyData.leavesShortAll], by simp only [PyData.weightAll]; omega, fun _ _ p hp => nomatch hp⟩
  | d :: l, h => by
    obtain ⟨p, h1, h2, h3, h4, h5, h6, h7⟩ := (h d (List.mem_cons_self ..)).ex
    obtain ⟨ps, g1, g2, g3, g4, g5, g6, g7⟩ := rp_all (l := l) (fun x hx => h x (List.mem_cons_of_mem _ hx))
    refine ⟨p :: ps, ?_, ?_, ?_, ?_, ?_, ?_, ?_⟩
    · simp [toPyA, h1, g1]
    · simp only [PyData.showableAll, h2, g2, Bool.and_self]
    · simp only [PyData.hasDictAll, h3, g3, Bool.or_self]
    · simp only [PyData.depthAll]
      omega
    · simp only [PyData.leavesShortAll, h5, g5, Bool.and_self]
    · simp only [PyData.weightAll, List.length_cons, Nat.succ_mul]
      omega
    · intro k hk x hx
      rcases List.mem_cons.mp hx with rfl | hx
      · exact h7 k hk
      · exact g7 k hk x hx

theorem free_list {ps : List PyData} {k : Nat} (hk : 0x110000 ≤ k) (h : ∀ p ∈ ps, k ∉ p.shown.cps.toList) : k ∉ (PyData.list ps).shown.cps.toList := by
  have f := shownAll_free h
  simp only [PyData.shown]
  rw [listText_eq_join, mem_cps_append, mem_cps_append, signs_lbrack, signs_rbrack, mem_join, signs_sep]
  rintro ((hm | (⟨t, ht, hc⟩ | ⟨_, hm⟩)) | hm)
  · simp only [List.mem_cons, List.not_mem_nil, or_false] at hm
    omega
  · exact f t ht hc
  · simp only [List.mem_cons, List.not_mem_nil, or_false] at hm
    omega
  · simp only [List.mem_cons, List.not_mem_nil, or_false] at hm
    omega
theorem free_tuple {ps : List PyData} {k : Nat} (hk : 0x110000 ≤ k) (h : ∀ p ∈ ps, k ∉ p.shown.cps.toList) : k ∉ (PyData.tuple ps).shown.cps.toList := by
  have f := shownAll_free h
  simp only [PyData.shown, tupleText]
  rw [mem_cps_append, mem_cps_append, signs_lparen, mem_join, signs_sep, signs_tuple_end]
  rintro ((hm | (⟨t, ht, hc⟩ | ⟨_, hm⟩)) | hm)
  · simp only [List.mem_cons, List.not_mem_nil, or_false] at hm
    omega
  · exact f t ht hc
  · simp only [List.mem_cons, List.not_mem_nil, or_false] at hm
    omega
  · split at hm <;> simp only [List.mem_cons, List.not_mem_nil, or_false] at hm <;> omega
theorem rp_sq {n w : Nat} {l : List Dt} (k : Bool) (h : ∀ d ∈ l, Rp n w d) (hl : l.length ≤ 4) : Rp (n + 1) (4 * (w + 1)) (sq k l) := by
  obtain ⟨ps, g1, g2, g3, g4, g5, g6, g7⟩ := rp_all h
  have m : l.length * (w + 1) ≤ 4 * (w + 1) := Nat.mul_le_mul_right _ hl
  cases k with
  | true =>
    refine ⟨.list ps, ?_, ?_, ?_, ?_, ?_, ?_, fun k hk => free_list hk (g7 k hk)⟩
    · simp [sq, toPy, g1]
    · simpa only [PyData.showable] using g2
    · simpa only [PyData.hasDict] using g3
    · simp only [PyData.depth]
      omega
    · simpa only [PyData.leavesShort] using g5
    · simp only [PyData.weight]
      omega
  | false =>
    refine ⟨.tuple ps, ?_, ?_, ?_, ?_, ?_, ?_, fun k hk => free_tuple hk (g7 k hk)⟩
    · simp [sq, toPy, g1]
    · simpa only [PyData.showable] using g2
    · simpa only [PyData.hasDict] using g3
    · simp only [PyData.depth]
      omega
    · simpa only [PyData.leavesShort] using g5
    · simp only [PyData.weight]
      omega
theorem rp_two {n w : Nat} {x y : Dt} (k : Bool) (h1 : Rp n w x) (h2 : Rp n w y) : Rp (n + 1) (4 * (w + 1)) (sq k [x, y]) := rp_sq k (fun d hd => by
  simp only [List.mem_cons, List.not_mem_nil, or_false] at hd
  rcases hd with rfl | rfl
  · exact h1
  · exact h2) (by simp)
theorem rp_three {n w : Nat} {x y z : Dt} (k : Bool) (h1 : Rp n w x) (h2 : Rp n w y) (h3 : Rp n w z) : Rp (n + 1) (4 * (w + 1)) (sq k [x, y, z]) := rp_sq k (fun d hd => by
  simp only [List.mem_cons, List.not_mem_nil, or_false] at hd
  rcases hd with rfl | rfl | rfl
  · exact h1
  · exact h2
  · exact h3) (by simp)
theorem rp_single {n w : Nat} {x : Dt} (k : Bool) (h1 : Rp n w x) : Rp (n + 1) (4 * (w + 1)) (sq k [x]) := rp_sq k (fun d hd => by
  simp only [List.mem_cons, List.not_mem_nil, or_false] at hd
  rcases hd with rfl
  exact h1) (by simp)
theorem rp_q {q : Rat} (b : Bd 150 q) : Rp 1 608 (dq q) := rp_two false (rp_int b.t) (rp_int b.b)
theorem repr_ok {a b h : Dt} (ha : Rp 3 9748 a) (hb : Rp 3 9748 b) (hh : Rp 3 9748 h) : ∃ x : Str, fRepr [.lst [a, b, h]] = some (.str x) ∧ fEq (.str x) (.str x) = some (.bl true) := by
  obtain ⟨ps, g1, g2, g3, g4, g5, g6, g7⟩ := rp_all (n := 3) (w := 9748) (l := [a, b, h]) (fun d hd => by
    simp only [List.mem_cons, List.not_mem_nil, or_false] at hd
    rcases hd with rfl | rfl | rfl
    · exact ha
    · exact hb
    · exact hh)
  have sz : (PyData.list ps).shown.length ≤ sizeLine := by
    have s := PyData.shown_le 151 (by decide) (.list ps) (by simpa only [PyData.leavesShort] using g5)
    have wt : (PyData.list ps).weight ≤ 4 * 9749 := by
      simp only [PyData.weight]
      have g9 : PyData.weightAll ps ≤ 29247 := by simpa using g6
      exact Nat.le_trans g9 (by decide)
    have : (151 + 2) * (PyData.list ps).weight ≤ (151 + 2) * (4 * 9749) := Nat.mul_le_mul_left _ wt
    rw [sizeLine_eq]
    omega
  refine ⟨(PyData.list ps).shown, ?_, ?_⟩
  · have c : (PyData.list ps).showable = true ∧ (PyData.list ps).hasDict = false ∧ (PyData.list ps).depth ≤ 60 ∧ (PyData.list ps).shown.length ≤ sizeLine := by
      refine ⟨by simpa only [PyData.showable] using g2, by simpa only [PyData.hasDict] using g3, ?_, sz⟩
      simp only [PyData.depth]
      omega
    unfold fRepr
    simp only [g1, Option.bind_some, if_pos c]
  · have f : ∀ k, 0x110000 ≤ k → k ∉ (PyData.list ps).shown.cps.toList := fun k hk => free_list hk (g7 k hk)
    generalize (PyData.list ps).shown = x at *
    have ok : PyData.strOk x = true := by
      unfold PyData.strOk
      rw [Array.all_eq_true']
      intro c hc
      refine decide_eq_true ?_
      rcases Nat.lt_or_ge c 0x110000 with h | h
      · exact h
      · exact absurd (Array.mem_toList_iff.mpr hc) (f c h)
    have sh : SeqAt.shaped (.str x) = true := by
      unfold SeqAt.shaped
      simp only [PyData.canLay0, PyData.depth, ok, Bool.true_and]
      exact decide_eq_true (Nat.zero_le 64)
    have e : fEqB (.str x) (.str x) = some true := by simp [fEqB, py_str x sh, PyData.eqv]
    simp [fEq, e]
end Law


set_option Elab.async false
set_option linter.all false
set_option maxRecDepth 100000
namespace Law
open PySem PySem.Spec PyProof.Rows L2 Mir
/-- plain data that is no whole number -/
inductive NW : Dt → Prop
  | non : NW .non
  | bl (b : Bool) : NW (.bl b)
  | str (x : Str) : NW (.str x)
  | tup (l : List Dt) : NW (.tup l)
  | lst (l : List Dt) : NW (.lst l)
theorem NW.whole {d : Dt} (h : NW d) (a b : Dt) (s : Hd) : m_is_whole [d, a, b] s = .ok (.bl false) s := by
  cases h with
  | non => exact is_whole_non a b s
  | bl x => exact is_whole_bl x a b s
  | str x => exact is_whole_str x a b s
  | tup l => exact is_whole_tup l a b s
  | lst l => exact is_whole_lst l a b s
def wTest (i : Nat) : MT := mOr (mNot (mTru (mIsi "int" (mVar i)))) (mTru (mIsi "bool" (mVar i)))
theorem NW.test {d : Dt} (h : NW d) {i : Nat} {ρ : Env'} (e : ρ[i]? = some (.dat d)) (s : Hd) : wTest i ρ s = .ok true s := by
  cases h <;> simp [wTest, mOr, mNot, mTru, mIsi, mVar, e, fTru]
theorem int_test {v : Int} {i : Nat} {ρ : Env'} (e : ρ[i]? = some (.dat (.int v))) (s : Hd) : wTest i ρ s = .ok false s := by
  simp [wTest, mOr, mNot, mTru, mIsi, mVar, e, fTru]
/-- both sides' word whether a thing is a ratio -/
structure RtF (d : Dt) (b : Bool) : Prop where
  mine : ∀ s, m_is_ratio [d] s = .ok (.bl b) s
  laws : ∀ s, m__law_is_ratio [d] s = .ok (.bl b) s
theorem e22 : fEqB (.int 2) (.int 2) = some true := by rw [eq_int]; rfl
theorem rt_not {d : Dt} (h : NW d) (n : ∀ l, d ≠ .tup l) : RtF d false := by
  cases h with
  | non => exact ⟨fun s => by simp [m_is_ratio, mDef, b_is_ratio, startE, mSeq, mIfS, mOr, mNot, mTru, mIsi, mVar, fTru, mRet, mC], fun s => by simp [m__law_is_ratio, mDef, b__law_is_ratio, startE, mSeq, mIfS, mOr, mNot, mTru, mIsi, mVar, fTru, mRet, mC]⟩
  | bl x => exact ⟨fun s => by simp [m_is_ratio, mDef, b_is_ratio, startE, mSeq, mIfS, mOr, mNot, mTru, mIsi, mVar, fTru, mRet, mC], fun s => by simp [m__law_is_ratio, mDef, b__law_is_ratio, startE, mSeq, mIfS, mOr, mNot, mTru, mIsi, mVar, fTru, mRet, mC]⟩
  | str x => exact ⟨fun s => by simp [m_is_ratio, mDef, b_is_ratio, startE, mSeq, mIfS, mOr, mNot, mTru, mIsi, mVar, fTru, mRet, mC], fun s => by simp [m__law_is_ratio, mDef, b__law_is_ratio, startE, mSeq, mIfS, mOr, mNot, mTru, mIsi, mVar, fTru, mRet, mC]⟩
  | tup l => exact absurd rfl (n l)
  | lst l => exact ⟨fun s => by simp [m_is_ratio, mDef, b_is_ratio, startE, mSeq, mIfS, mOr, mNot, mTru, mIsi, mVar, fTru, mRet, mC], fun s => by simp [m__law_is_ratio, mDef, b__law_is_ratio, startE, mSeq, mIfS, mOr, mNot, mTru, mIsi, mVar, fTru, mRet, mC]⟩
theorem rt_int (i : Int) : RtF (.int i) false := ⟨fun s => by simp [m_is_ratio, mDef, b_is_ratio, startE, mSeq, mIfS, mOr, mNot, mTru, mIsi, mVar, fTru, mRet, mC], fun s => by simp [m__law_is_ratio, mDef, b__law_is_ratio, startE, mSeq, mIfS, mOr, mNot, mTru, mIsi, mVar, fTru, mRet, mC]⟩
theorem rt_len {l : List Dt} (h : l.length ≠ 2) : RtF (.tup l) false := by
  have e : fEqB (.int (l.length : Int)) (.int 2) = some false := by
    rw [eq_int]
    have : (l.length : Int) ≠ 2 := by omega
    simp [this]
  exact ⟨fun s => by simp [m_is_ratio, mDef, b_is_ratio, startE, mSeq, mIfS, mOr, mNot, mTru, mIsi, mVar, fTru, mRet, mC, mTest, mOp, mCB, mCons, mNil, fLen, fNe, e], fun s => by simp [m__law_is_ratio, mDef, b__law_is_ratio, startE, mSeq, mIfS, mOr, mNot, mTru, mIsi, mVar, fTru, mRet, mC, mTest, mOp, mCB, mCons, mNil, fLen, fNe, e]⟩
theorem rt_first {x y : Dt} (h : NW x) : RtF (.tup [x, y]) false := by
  refine ⟨fun s => ?_, fun s => ?_⟩
  · have w := h.whole .non .non s
    simp [m_is_ratio, mDef, b_is_ratio, startE, mSeq, mIfS, mOr, mNot, mTru, mIsi, mVar, fTru, mTest, mOp, mCB, mCons, mNil, fLen, fNe, e22, mC, mNext, mAsg, gmSeq, gmCons, gmName, gmNil, mRet, mAndV, mCall, w]
  · cases h <;> simp [m__law_is_ratio, mDef, b__law_is_ratio, startE, mSeq, mIfS, mOr, mNot, mTru, mIsi, mVar, fTru, mTest, mOp, mCB, mCons, mNil, fLen, fNe, e22, mC, mNext, mFor, mSeqI, loopF, gmName, mRet]
theorem rt_second {i : Int} {y : Dt} (h : NW y) : RtF (.tup [.int i, y]) false := by
  refine ⟨fun s => ?_, fun s => ?_⟩
  · have w := h.whole (.int 1) .non s
    simp [m_is_ratio, mDef, b_is_ratio, startE, mSeq, mIfS, mOr, mNot, mTru, mIsi, mVar, fTru, mTest, mOp, mCB, mCons, mNil, fLen, fNe, e22, mC, mNext, mAsg, gmSeq, gmCons, gmName, gmNil, mRet, mAndV, mCall, is_whole_int, w]
  · cases h <;> simp [m__law_is_ratio, mDef, b__law_is_ratio, startE, mSeq, mIfS, mOr, mNot, mTru, mIsi, mVar, fTru, mTest, mOp, mCB, mCons, mNil, fLen, fNe, e22, mC, mNext, mFor, mSeqI, loopF, gmName, mRet]
theorem rt_ints (a b : Int) : RtF (rat a b) (decide (1 ≤ b) && decide (Nat.gcd a.natAbs b.natAbs = 1)) := by
  refine ⟨fun s => isr_tup a b s, fun s => ?_⟩
  have g := gcd_ok a b s
  by_cases c : 1 ≤ b
  · rw [decide_eq_true c, Bool.true_and]
    by_cases c2 : Nat.gcd a.natAbs b.natAbs = 1
    · have e3 : fEqB (.int ((Nat.gcd a.natAbs b.natAbs : Nat) : Int)) (.int 1) = some true := by
        rw [eq_int]
        exact congrArg some (beq_iff_eq.mpr (by omega))
      rw [decide_eq_true c2]
      clear c2
      generalize ((Nat.gcd a.natAbs b.natAbs : Nat) : Int) = G at *
      simp [m__law_is_ratio, mDef, b__law_is_ratio, startE, mSeq, mIfS, mOr, mNot, mTru, mIsi, mVar, fTru, mTest, mOp, mCB, mCons, mNil, fLen, fNe, e22, mC, mNext, mFor, mSeqI, loopF, gmName, mRet, mAndV, fIx, at0, at1, fI, fGe, c, mCall, g, fEq, e3]
    · have e3 : fEqB (.int ((Nat.gcd a.natAbs b.natAbs : Nat) : Int)) (.int 1) = some false := by
        rw [eq_int]
        exact congrArg some (beq_eq_false_iff_ne.mpr (by omega))
      rw [decide_eq_false c2]
      clear c2
      generalize ((Nat.gcd a.natAbs b.natAbs : Nat) : Int) = G at *
      simp [m__law_is_ratio, mDef, b__law_is_ratio, startE, mSeq, mIfS, mOr, mNot, mTru, mIsi, mVar, fTru, mTest, mOp, mCB, mCons, mNil, fLen, fNe, e22, mC, mNext, mFor, mSeqI, loopF, gmName, mRet, mAndV, fIx, at0, at1, fI, fGe, c, mCall, g, fEq, e3]
  · rw [decide_eq_false c, Bool.false_and]
    simp [m__law_is_ratio, mDef, b__law_is_ratio, startE, mSeq, mIfS, mOr, mNot, mTru, mIsi, mVar, fTru, mTest, mOp, mCB, mCons, mNil, fLen, fNe, e22, mC, mNext, mFor, mSeqI, loopF, gmName, mRet, mAndV, fIx, at0, at1, fI, fGe, c]
theorem rt_q (q : Rat) : RtF (dq q) true := by
  have h := rt_ints q.num (q.den : Int)
  have i := dq_is q
  rw [decide_eq_true (show 1 ≤ (q.den : Int) from i.pos), decide_eq_true (show Nat.gcd q.num.natAbs ((q.den : Int)).natAbs = 1 from i.co), Bool.and_self] at h
  exact h
end Law


set_option Elab.async false
set_option linter.all false
set_option maxRecDepth 100000
namespace Law
open PySem PySem.Spec PyProof.Rows L2 Mir
theorem lover_ok {n : Nat} {a b c d : Int} (r : Rs n a b c d) (hc : c ≠ 0) (s : Hd) : m__law_over [rat a b, rat c d] s = .ok (low (a * d) (b * c)) s := by
  obtain ⟨m1, m2, m3, m4, m5, m6⟩ := sz_ok r.hn r.sa r.sb r.sc r.sd
  have l := ratio_ok (t := a * d) (Int.mul_ne_zero r.b0 hc) ((r.sb.mul r.sc).mono (by have := r.hn; omega)) s
  simp [m__law_over, mDef, b__law_over, startE, mRet, mCall, mCons, mNil, mOp, mVar, mC, fIx, at0, at1, fMul, m1, m5, l]
section
variable {n : Nat} {p q : Rat}
theorem lover_q (hn : n ≤ 4000) (a : Bd n p) (b : Bd n q) (h : q ≠ 0) (s : Hd) : m__law_over [dq p, dq q] s = .ok (dq (p / q)) s := by
  rw [lover_ok (rs_of hn a b) (num_ne h) s, low_div p q h]
end
theorem bdm1 : Bd 1 (-1 : Rat) := ⟨by unfold Sz; decide, by unfold Sz; decide⟩
theorem bd2 : Bd 2 (2 : Rat) := ⟨by unfold Sz; decide, by unfold Sz; decide⟩
theorem bdm2 : Bd 2 (-2 : Rat) := ⟨by unfold Sz; decide, by unfold Sz; decide⟩
def hd : Option Rat → Dt
  | none => .non
  | some h => dq h
def dr (d : Rat × Rat) : Dt := .tup [dq d.1, dq d.2]
def dirOf : Option Rat → Rat × Rat
  | none => (0, -1)
  | some h => (-2 * h / (1 + h * h), (1 - h * h) / (1 + h * h))
def Unit1 (d : Rat × Rat) : Prop := d.1 * d.1 + d.2 * d.2 = 1
theorem sq_nn (h : Rat) : 0 ≤ h * h := by
  rcases Rat.le_total (a := 0) (b := h) with c | c
  · exact Rat.mul_nonneg c c
  · have c2 : 0 ≤ -h := by grind
    have := Rat.mul_nonneg c2 c2
    grind
theorem den_ne (h : Rat) : 1 + h * h ≠ 0 := by
  have := sq_nn h
  intro e
  have : (0 : Rat) < 1 + h * h := by grind
  grind
theorem dir_unit (o : Option Rat) : Unit1 (dirOf o) := by
  cases o with
  | none =>
    show (0 : Rat) * 0 + -1 * -1 = 1
    grind
  | some h =>
    have := den_ne h
    unfold Unit1 dirOf
    simp only
    grind
def BdO (n : Nat) (o : Option Rat) : Prop := ∀ h, o = some h → Bd n h
def BdD (n : Nat) (d : Rat × Rat) : Prop := Bd n d.1 ∧ Bd n d.2
theorem BdO.some {n : Nat} {h : Rat} (b : BdO n (some h)) : Bd n h := b h rfl
theorem dir_bd {n : Nat} {o : Option Rat} (b : BdO n o) : BdD (4 * n + 8) (dirOf o) := by
  cases o with
  | none => exact ⟨bd0.mono (by omega), bdm1.mono (by omega)⟩
  | some h =>
    have b := b.some
    have d : Bd (1 + (n + n) + 1) (1 + h * h) := bd1.add (b.mul b)
    exact ⟨(Bd.div (den_ne h) (bdm2.mul b) d).mono (by omega), (Bd.div (den_ne h) (bd1.sub (b.mul b)) d).mono (by omega)⟩
theorem ne_non {q : Rat} : fIs (dq q) .non = some (.bl false) := rfl
theorem direction_ok {n : Nat} (hn : n ≤ 500) {o : Option Rat} (b : BdO n o) (s : Hd) : m__law_direction [hd o] s = .ok (dr (dirOf o)) s := by
  cases o with
  | none => rfl
  | some h =>
    have b := b.some
    have l1 : m__law_times [dq h, dq h] s = _ := ltimes_q (n := n) (by omega) b b s
    have b2 : Bd (2 * n) (h * h) := (b.mul b).mono (by omega)
    have l2 : m__law_plus [rat 1 1, dq (h * h)] s = _ := lplus_q (n := 2 * n + 1) (p := 1) (by omega) (bd1.mono (by omega)) (b2.mono (by omega)) s
    have l3 : m__law_less [rat 1 1, dq (h * h)] s = _ := lless_q (n := 2 * n + 1) (p := 1) (by omega) (bd1.mono (by omega)) (b2.mono (by omega)) s
    have l4 : m__law_times [rat (-2) 1, dq h] s = _ := ltimes_q (n := n + 2) (p := -2) (by omega) (bdm2.mono (by omega)) (b.mono (by omega)) s
    have b3 : Bd (2 * n + 2) (1 + h * h) := (bd1.add b2).mono (by omega)
    have b4 : Bd (2 * n + 2) (1 - h * h) := (bd1.sub b2).mono (by omega)
    have b5 : Bd (2 * n + 2) (-2 * h) := (bdm2.mul b).mono (by omega)
    have l5 := lover_q (by omega) b5 b3 (den_ne h) s
    have l6 := lover_q (by omega) b4 b3 (den_ne h) s
    show _ = R.ok (Dt.tup [dq (-2 * h / (1 + h * h)), dq ((1 - h * h) / (1 + h * h))]) s
    generalize h * h = u at *
    generalize 1 + u = v at *
    generalize 1 - u = w at *
    generalize -2 * h = x at *
    generalize x / v = y at *
    generalize w / v = z at *
    simp [m__law_direction, mDef, b__law_direction, hd, startE, mSeq, mIfS, mTest, mOp, mVar, mC, fIs, mNext, mSet, mCall, mCons, mNil, l1, l2, l3, l4, l5, l6, mRet, mTup, mUn, fNeg]
theorem mo12 : manyOk 12 := by decide +kernel
theorem mo8 : manyOk 8 := by decide +kernel
theorem mo13 : manyOk 13 := by decide +kernel
theorem moM : manyOk 2000001 := by decide +kernel
theorem mo401 : manyOk 401 := by decide +kernel
theorem mo400 : manyOk 400 := by decide +kernel
theorem cp6 : CPow 10 6 := ⟨by decide, by decide, by decide⟩
theorem p6 : (10 : Int) ^ (6 : Int).toNat = 1000000 := by decide
theorem m26 : Mir.MulOk 2 1000000 := MulOk.of (m := 3) (n := 20) (by unfold Sz; decide) (by unfold Sz; decide) (by decide)
theorem mark_ok (s : Hd) : ∃ (q : Rat) (s' : Hd), m__law_mark [.hnd] s = .ok (dq q) s' ∧ Bd 21 q := by
  have b0 : 0 ≤ takeV s 13 := takeV_ge (by decide)
  have b1 : takeV s 13 < 13 := takeV_lt (by decide)
  obtain ⟨q, e, b, _⟩ := lratio_q (t := takeV s 13 - 4) (b := 2) (n := 21) (by decide) (by decide) (Sz.mono (m := 5) (by unfold Sz; omega) (by decide)) (by unfold Sz; decide) (takeS s 13)
  refine ⟨q, takeS s 13, ?_, b⟩
  simp [m__law_mark, mDef, b__law_mark, startE, mRet, mCall, mCons, mNil, mVar, mC, mOp, take_ok _ mo13, fI, fSub, e]
theorem wide_ok (s : Hd) : ∃ (q : Rat) (s' : Hd), m__law_wide [.hnd] s = .ok (dq q) s' ∧ Bd 21 q := by
  by_cases c0 : takeV s 8 = 0
  · have e0 : fEqB (.int (takeV s 8)) (.int 0) = some true := by rw [eq_int, c0]; rfl
    refine ⟨0, takeS s 8, ?_, bd0.mono (by decide)⟩
    show _ = R.ok (rat 0 1) _
    simp [m__law_wide, mDef, b__law_wide, startE, mSeq, mSet, mCall, mCons, mNil, mVar, mC, take_ok _ mo8, mIfS, mTest, mOp, fEq, e0, mRet, mTup]
  · have e0 : fEqB (.int (takeV s 8)) (.int 0) = some false := by rw [eq_int]; simp [c0]
    by_cases c1 : takeV s 8 = 1
    · have e1 : fEqB (.int (takeV s 8)) (.int 1) = some true := by rw [eq_int, c1]; rfl
      have b0 : 0 ≤ takeV (takeS s 8) 2000001 := takeV_ge (by decide)
      have b1 : takeV (takeS s 8) 2000001 < 2000001 := takeV_lt (by decide)
      have b2 : 0 ≤ takeV (takeS (takeS s 8) 2000001) 12 := takeV_ge (by decide)
      have b3 : takeV (takeS (takeS s 8) 2000001) 12 < 12 := takeV_lt (by decide)
      obtain ⟨q, e, b, _⟩ := lratio_q (t := takeV (takeS s 8) 2000001 - 1000000) (b := 1 + takeV (takeS (takeS s 8) 2000001) 12) (n := 21) (by omega) (by decide) (by unfold Sz; omega) (Sz.mono (m := 4) (by unfold Sz; omega) (by decide)) (takeS (takeS (takeS s 8) 2000001) 12)
      refine ⟨q, takeS (takeS (takeS s 8) 2000001) 12, ?_, b⟩
      simp [m__law_wide, mDef, b__law_wide, startE, mSeq, mSet, mCall, mCons, mNil, mVar, mC, take_ok _ mo8, mIfS, mTest, mOp, fEq, e0, e1, mNext, mRet, fPow, fI, cp6, p6, fMul, m26, fAdd, fSub, take_ok _ moM, take_ok _ mo12, e]
    · have e1 : fEqB (.int (takeV s 8)) (.int 1) = some false := by rw [eq_int]; simp [c1]
      obtain ⟨q, s', e, b⟩ := mark_ok (takeS s 8)
      refine ⟨q, s', ?_, b⟩
      simp [m__law_wide, mDef, b__law_wide, startE, mSeq, mSet, mCall, mCons, mNil, mVar, mC, take_ok _ mo8, mIfS, mTest, mOp, fEq, e0, e1, mNext, mRet, e]
theorem mo14 : manyOk 14 := by decide +kernel
theorem mo41 : manyOk 41 := by decide +kernel
theorem mo9 : manyOk 9 := by decide +kernel
theorem mo6 : manyOk 6 := by decide +kernel
theorem mo60 : manyOk 60 := by decide +kernel
theorem mo2001 : manyOk 2001 := by decide +kernel
theorem cp3 : CPow 10 3 := ⟨by decide, by decide, by decide⟩
theorem p3 : (10 : Int) ^ (3 : Int).toNat = 1000 := by decide
theorem m23 : Mir.MulOk 2 1000 := MulOk.of (m := 3) (n := 20) (by unfold Sz; decide) (by unfold Sz; decide) (by decide)
theorem half_of_rat {a b : Int} (h : IsR a b) (z1 : Sz 11 a) (z2 : Sz 11 b) : ∃ o : Option Rat, hd o = rat a b ∧ BdO 11 o := by
  obtain ⟨q, e1, e2, _⟩ := rat_of h
  refine ⟨some q, ?_, fun h e => ?_⟩
  · show rat q.num (q.den : Int) = _
    rw [e1, e2]
  · cases e
    exact ⟨by rw [e1]; exact z1, by rw [e2]; exact z2⟩
def halves : List Dt := [rat 0 1, rat 1 3, rat 1 2, rat 1 1, rat 2 1, rat 3 1, rat (-1) 3, rat (-1) 2, rat (-1) 1, rat (-2) 1, rat (-3) 1, rat 0 1]
theorem halves_at : ∀ k : Nat, k < 12 → ∃ o : Option Rat, halves[k]? = some (hd o) ∧ BdO 11 o := by
  have key : ∀ (k : Nat) (a b : Int), halves[k]? = some (rat a b) → IsR a b → Sz 11 a → Sz 11 b → ∃ o : Option Rat, halves[k]? = some (hd o) ∧ BdO 11 o := by
    intro k a b e h z1 z2
    obtain ⟨o, e2, b⟩ := half_of_rat h z1 z2
    exact ⟨o, by rw [e, e2], b⟩
  intro k hk
  match k, hk with
  | 0, _ => exact key 0 0 1 rfl ⟨by decide, by decide⟩ (by unfold Sz; decide) (by unfold Sz; decide)
  | 1, _ => exact key 1 1 3 rfl ⟨by decide, by decide⟩ (by unfold Sz; decide) (by unfold Sz; decide)
  | 2, _ => exact key 2 1 2 rfl ⟨by decide, by decide⟩ (by unfold Sz; decide) (by unfold Sz; decide)
  | 3, _ => exact key 3 1 1 rfl ⟨by decide, by decide⟩ (by unfold Sz; decide) (by unfold Sz; decide)
  | 4, _ => exact key 4 2 1 rfl ⟨by decide, by decide⟩ (by unfold Sz; decide) (by unfold Sz; decide)
  | 5, _ => exact key 5 3 1 rfl ⟨by decide, by decide⟩ (by unfold Sz; decide) (by unfold Sz; decide)
  | 6, _ => exact key 6 (-1) 3 rfl ⟨by decide, by decide⟩ (by unfold Sz; decide) (by unfold Sz; decide)
  | 7, _ => exact key 7 (-1) 2 rfl ⟨by decide, by decide⟩ (by unfold Sz; decide) (by unfold Sz; decide)
  | 8, _ => exact key 8 (-1) 1 rfl ⟨by decide, by decide⟩ (by unfold Sz; decide) (by unfold Sz; decide)
  | 9, _ => exact key 9 (-2) 1 rfl ⟨by decide, by decide⟩ (by unfold Sz; decide) (by unfold Sz; decide)
  | 10, _ => exact key 10 (-3) 1 rfl ⟨by decide, by decide⟩ (by unfold Sz; decide) (by unfold Sz; decide)
  | 11, _ => exact key 11 0 1 rfl ⟨by decide, by decide⟩ (by unfold Sz; decide) (by unfold Sz; decide)
theorem bdo_some {q : Rat} {m n : Nat} (b : Bd m q) (h : m ≤ n) : BdO n (some q) := fun h' e => by
  cases e
  exact b.mono h
theorem lhalf_ok (s : Hd) : ∃ (o : Option Rat) (s' : Hd), m__law_half [.hnd] s = .ok (hd o) s' ∧ BdO 11 o := by
  have b0 : 0 ≤ takeV s 14 := takeV_ge (by decide)
  have b1 : takeV s 14 < 14 := takeV_lt (by decide)
  by_cases c0 : takeV s 14 = 12
  · have e0 : fEqB (.int (takeV s 14)) (.int 12) = some true := by rw [eq_int, c0]; rfl
    refine ⟨none, takeS s 14, ?_, fun h e => by cases e⟩
    show _ = R.ok Dt.non _
    simp [m__law_half, mDef, b__law_half, startE, mSeq, mSet, mCall, mCons, mNil, mVar, mC, take_ok _ mo14, mIfS, mTest, mOp, fEq, e0, mRet]
  · have e0 : fEqB (.int (takeV s 14)) (.int 12) = some false := by rw [eq_int]; simp [c0]
    by_cases c1 : takeV s 14 = 13
    · have e1 : fEqB (.int (takeV s 14)) (.int 13) = some true := by rw [eq_int, c1]; rfl
      have b0 : 0 ≤ takeV (takeS s 14) 41 := takeV_ge (by decide)
      have b1 : takeV (takeS s 14) 41 < 41 := takeV_lt (by decide)
      have b2 : 0 ≤ takeV (takeS (takeS s 14) 41) 9 := takeV_ge (by decide)
      have b3 : takeV (takeS (takeS s 14) 41) 9 < 9 := takeV_lt (by decide)
      obtain ⟨q, e, b, _⟩ := lratio_q (t := takeV (takeS s 14) 41 - 20) (b := 1 + takeV (takeS (takeS s 14) 41) 9) (n := 6) (by omega) (by decide) (by unfold Sz; omega) (by unfold Sz; omega) (takeS (takeS (takeS s 14) 41) 9)
      refine ⟨some q, takeS (takeS (takeS s 14) 41) 9, ?_, bdo_some b (by decide)⟩
      show _ = R.ok (dq q) _
      simp [m__law_half, mDef, b__law_half, startE, mSeq, mSet, mCall, mCons, mNil, mVar, mC, take_ok _ mo14, mIfS, mTest, mOp, fEq, e0, e1, mNext, mRet, fI, fAdd, fSub, take_ok _ mo41, take_ok _ mo9, e]
    · have e1 : fEqB (.int (takeV s 14)) (.int 13) = some false := by rw [eq_int]; simp [c1]
      obtain ⟨o, ha, b⟩ := halves_at (takeV s 14).toNat (by omega)
      have hb : atI halves (takeV s 14) = some (hd o) := by
        have := atI_nat ha
        rwa [Int.toNat_of_nonneg b0] at this
      refine ⟨o, takeS s 14, ?_, b⟩
      unfold halves at hb
      simp [m__law_half, mDef, b__law_half, startE, mSeq, mSet, mCall, mCons, mNil, mVar, mC, take_ok _ mo14, mIfS, mTest, mOp, fEq, e0, e1, mNext, mRet, fIx, mLst, mTup, mUn, fNeg, hb]
theorem any_half_ok (s : Hd) : ∃ (o : Option Rat) (s' : Hd), m__law_any_half [.hnd] s = .ok (hd o) s' ∧ BdO 11 o := by
  by_cases c0 : takeV s 8 = 0
  · have e0 : fEqB (.int (takeV s 8)) (.int 0) = some true := by rw [eq_int, c0]; rfl
    have b0 : 0 ≤ takeV (takeS s 8) 2001 := takeV_ge (by decide)
    have b1 : takeV (takeS s 8) 2001 < 2001 := takeV_lt (by decide)
    have b2 : 0 ≤ takeV (takeS (takeS s 8) 2001) 60 := takeV_ge (by decide)
    have b3 : takeV (takeS (takeS s 8) 2001) 60 < 60 := takeV_lt (by decide)
    obtain ⟨q, e, b, _⟩ := lratio_q (t := takeV (takeS s 8) 2001 - 1000) (b := 1 + takeV (takeS (takeS s 8) 2001) 60) (n := 11) (by omega) (by decide) (by unfold Sz; omega) (by unfold Sz; omega) (takeS (takeS (takeS s 8) 2001) 60)
    refine ⟨some q, takeS (takeS (takeS s 8) 2001) 60, ?_, bdo_some b (by decide)⟩
    show _ = R.ok (dq q) _
    simp [m__law_any_half, mDef, b__law_any_half, startE, mSeq, mCall, mCons, mNil, mVar, mC, take_ok _ mo8, mIfS, mTest, mOp, fEq, e0, mRet, fPow, fI, cp3, p3, fMul, m23, fAdd, fSub, take_ok _ mo2001, take_ok _ mo60, e]
  · have e0 : fEqB (.int (takeV s 8)) (.int 0) = some false := by rw [eq_int]; simp [c0]
    obtain ⟨o, s', e, b⟩ := lhalf_ok (takeS s 8)
    refine ⟨o, s', ?_, b⟩
    simp [m__law_any_half, mDef, b__law_any_half, startE, mSeq, mCall, mCons, mNil, mVar, mC, take_ok _ mo8, mIfS, mTest, mOp, fEq, e0, mNext, mRet, e]
end Law


set_option Elab.async false
set_option linter.all false
set_option maxRecDepth 100000
namespace Law
open PySem PySem.Spec PyProof.Rows L2 Mir
theorem ev_chain_t {f g : Dt → Dt → Option Dt} {a b c : ME} {ρ : Env'} {s s1 s2 s3 : Hd} {d e k r : Dt} (h1 : a ρ s = .ok d s1) (h2 : b ρ s1 = .ok e s2) (h3 : f d e = some (.bl true)) (h4 : c ρ s2 = .ok k s3) (h5 : g e k = some r) : mChain f g a b c ρ s = .ok r s3 := by
  unfold mChain; rw [h1]; simp only [R.bind_ok]; rw [h2]; simp only [R.bind_ok, h3]; rw [h4]; simp only [R.bind_ok]; rw [h5]; rfl
theorem ev_chain_f {f g : Dt → Dt → Option Dt} {a b c : ME} {ρ : Env'} {s s1 s2 : Hd} {d e : Dt} (h1 : a ρ s = .ok d s1) (h2 : b ρ s1 = .ok e s2) (h3 : f d e = some (.bl false)) : mChain f g a b c ρ s = .ok (.bl false) s2 := by
  unfold mChain; rw [h1]; simp only [R.bind_ok]; rw [h2]; simp only [R.bind_ok, h3]
theorem fle_t {i j : Int} (h : i ≤ j) : fLe (.int i) (.int j) = some (.bl true) := by simp [fI, h]
theorem fle_f {i j : Int} (h : ¬ i ≤ j) : fLe (.int i) (.int j) = some (.bl false) := by simp [fI, h]
/-- a thing of no place: both sides say so -/
structure Bad (B : Bars) (t : Dt) : Prop where
  mine : NotP B t
  laws : ∀ s, m__law_is_place [t, .int B.n] s = .ok (.bl false) s
structure Good (B : Bars) (t : Dt) (b : Int) (q : Rat) : Prop where
  h0 : -1 ≤ b
  h1 : b < B.n
  bd : Bd 140 q
  f : t = .tup [.int b, dq q] ∨ t = .lst [.int b, dq q]
theorem sq_cases (k : Bool) (l : List Dt) : sq k l = .tup l ∨ sq k l = .lst l := by
  cases k
  · exact .inl rfl
  · exact .inr rfl
section
variable {B : Bars}
theorem isp_kind {t : Dt} (h : fIsi2 "list" "tuple" t = some false) (s : Hd) : m__law_is_place [t, .int B.n] s = .ok (.bl false) s := by
  refine es_def (ρ := [.dat t, .dat (.int B.n)]) rfl ?_
  unfold b__law_is_place
  exact seq_rt (es_if_t (ev_or_t (ev_not_t (ev_tru (ev_isi2 (ev_var rfl) h) rfl))) (es_ret ev_c))
theorem isp_len {l : List Dt} (h : l.length ≠ 2) (s : Hd) : m__law_is_place [.tup l, .int B.n] s = .ok (.bl false) s := by
  have e : fNe (.int l.length) (.int 2) = some (.bl true) := by
    have c : ¬ ((l.length : Int) = 2) := by omega
    simp [fNe, eq_int, c]
  refine es_def (ρ := [.dat (.tup l), .dat (.int B.n)]) rfl ?_
  unfold b__law_is_place
  exact seq_rt (es_if_t (ev_or_f (ev_not_f (ev_tru (ev_isi2 (ev_var rfl) (i2_tup l)) rfl)) (ev_test (ev_op (ev_cb (ev_cons (ev_var rfl) ev_nil) rfl) ev_c e))) (es_ret ev_c))
section
variable {t x y : Dt} (ht : t = .tup [x, y] ∨ t = .lst [x, y])
include ht
theorem two_kind : fIsi2 "list" "tuple" t = some true := by rcases ht with rfl | rfl; exact i2_tup _; exact i2_lst _
theorem two_len : fLen [t] = some (.int 2) := by rcases ht with rfl | rfl <;> rfl
theorem two_at0 : fIx t (.int 0) = some x := by rcases ht with rfl | rfl <;> rfl
theorem two_at1 : fIx t (.int 1) = some y := by rcases ht with rfl | rfl <;> rfl
theorem isp_w (hx : NW x) (s : Hd) : m__law_is_place [t, .int B.n] s = .ok (.bl false) s := by
  have a := two_kind ht
  have b := two_len ht
  have c := two_at0 ht
  have n := ne22
  refine es_def (ρ := [.dat t, .dat (.int B.n)]) rfl ?_
  unfold b__law_is_place
  refine es_seq (es_if_f (ev_or_f (ev_not_f (ev_tru (ev_isi2 (ev_var rfl) a) rfl)) (ev_test (by sizeOf_list_dec))) es_next) ?_
  refine seq_rt (es_if_t ?_ (es_ret ev_c))
  have g : mOp fIx (mVar 0) (mC (.int 0)) [.dat t, .dat (.int B.n)] s = .ok x s := by sizeOf_list_dec
  cases hx with
  | non => exact ev_or_t (ev_not_t (ev_tru (ev_isi (c := false) g (by simp)) rfl))
  | bl b => exact ev_or_f (ev_not_f (ev_tru (ev_isi (c := true) g (by simp)) rfl)) (ev_or_t (ev_tru (ev_isi (c := true) g (by simp)) rfl))
  | str x => exact ev_or_t (ev_not_t (ev_tru (ev_isi (c := false) g (by simp)) rfl))
  | tup l => exact ev_or_t (ev_not_t (ev_tru (ev_isi (c := false) g (by simp)) rfl))
  | lst l => exact ev_or_t (ev_not_t (ev_tru (ev_isi (c := false) g (by simp)) rfl))
end
section
variable {t y : Dt} {b : Int} (ht : t = .tup [.int b, y] ∨ t = .lst [.int b, y])
include ht
theorem isp_out (hb : ¬ (-1 ≤ b ∧ b < B.n)) (s : Hd) : m__law_is_place [t, .int B.n] s = .ok (.bl false) s := by
  have a := two_kind ht
  have l := two_len ht
  have c := two_at0 ht
  have n := ne22
  have g : mOp fIx (mVar 0) (mC (.int 0)) [.dat t, .dat (.int B.n)] s = .ok (.int b) s := by sizeOf_list_dec
  have m1 : mUn fNeg (mC (.int 1)) [.dat t, .dat (.int B.n)] s = .ok (.int (-1)) s := ev_un ev_c rfl
  have ch : mChain fLe fLt (mUn fNeg (mC (.int 1))) (mOp fIx (mVar 0) (mC (.int 0))) (mVar 1) [.dat t, .dat (.int B.n)] s = .ok (.bl false) s := by
    by_cases c1 : -1 ≤ b
    · exact ev_chain_t m1 g (fle_t c1) (ev_var rfl) (flt_f (by omega))
    · exact ev_chain_f m1 g (fle_f c1)
  refine es_def (ρ := [.dat t, .dat (.int B.n)]) rfl ?_
  unfold b__law_is_place
  refine es_seq (es_if_f (ev_or_f (ev_not_f (ev_tru (ev_isi2 (ev_var rfl) a) rfl)) (ev_test (by sizeOf_list_dec))) es_next) ?_
  exact seq_rt (es_if_t (ev_or_f (ev_not_f (ev_tru (ev_isi (c := true) g (by simp)) rfl)) (ev_or_f (ev_tru (ev_isi (c := false) g (by simp)) rfl) (ev_not_t (ev_test ch)))) (es_ret ev_c))
theorem isp_in (h0 : -1 ≤ b) (h1 : b < B.n) {k : Bool} (hy : RtF y k) (s : Hd) : m__law_is_place [t, .int B.n] s = .ok (.bl k) s := by
  have a := two_kind ht
  have l := two_len ht
  have c := two_at0 ht
  have c1 := two_at1 ht
  have n := ne22
  have e := hy.laws s
  have g : mOp fIx (mVar 0) (mC (.int 0)) [.dat t, .dat (.int B.n)] s = .ok (.int b) s := by sizeOf_list_dec
  have m1 : mUn fNeg (mC (.int 1)) [.dat t, .dat (.int B.n)] s = .ok (.int (-1)) s := ev_un ev_c rfl
  have ch : mChain fLe fLt (mUn fNeg (mC (.int 1))) (mOp fIx (mVar 0) (mC (.int 0))) (mVar 1) [.dat t, .dat (.int B.n)] s = .ok (.bl true) s := ev_chain_t m1 g (fle_t h0) (ev_var rfl) (flt_t h1)
  refine es_def (ρ := [.dat t, .dat (.int B.n)]) rfl ?_
  unfold b__law_is_place
  refine es_seq (es_if_f (ev_or_f (ev_not_f (ev_tru (ev_isi2 (ev_var rfl) a) rfl)) (ev_test (by sizeOf_list_dec))) es_next) ?_
  refine es_seq (es_if_f (ev_or_f (ev_not_f (ev_tru (ev_isi (c := true) g (by simp)) rfl)) (ev_or_f (ev_tru (ev_isi (c := false) g (by simp)) rfl) (ev_not_f (ev_test ch)))) es_next) ?_
  exact es_ret (by sizeOf_list_dec)
theorem bad_out (hb : ¬ (-1 ≤ b ∧ b < B.n)) : Bad B t := ⟨fun s => place_w ht (fun s => by
  rw [is_whole_both]
  by_cases c : -1 ≤ b
  · rw [decide_eq_false (p := b ≤ (B.n : Int) - 1) (by omega), Bool.and_false]
  · rw [decide_eq_false c, Bool.false_and]) s, isp_out ht hb⟩
theorem bad_r (h0 : -1 ≤ b) (h1 : b < B.n) (hy : RtF y false) : Bad B t := ⟨fun s => place_r h0 h1 ht hy.mine s, isp_in ht h0 h1 hy⟩
end
theorem bad_w {t x y : Dt} (ht : t = .tup [x, y] ∨ t = .lst [x, y]) (hx : NW x) : Bad B t := ⟨fun s => place_w ht (fun s => hx.whole _ _ s) s, isp_w ht hx⟩
theorem bad_len {l : List Dt} (h : l.length ≠ 2) : Bad B (.tup l) := ⟨fun s => place_f (fun s => row_len h s) s, isp_len h⟩
theorem bad_kind {t : Dt} (h : fIsi2 "list" "tuple" t = some false) : Bad B t := ⟨fun s => place_f (fun s => row_f h s) s, isp_kind h⟩
theorem good_is {t : Dt} {b : Int} {q : Rat} (g : Good B t b q) (s : Hd) : m__law_is_place [t, .int B.n] s = .ok (.bl true) s := isp_in g.f g.h0 g.h1 (rt_q q) s
end
/-- a thing that is handed in as a place -/
structure Th (B : Bars) (t : Dt) : Prop where
  rp : Rp 3 9748 t
  cl : (∃ b q, Good B t b q) ∨ Bad B t
theorem form_ok (d : Dt) (l : List Dt) (hd : seqD d = some l) (s : Hd) : ∃ (k : Bool) (s' : Hd), m__law_form [.hnd, d] s = .ok (sq k l) s' := by
  have t := take_ok s (n := 2) (by decide)
  generalize takeV s 2 = v at *
  generalize takeS s 2 = s1 at *
  have c1 : fListC [d] = some (sq true l) := by cases d <;> simp_all [seqD, fListC, sq]
  have c2 : fTupC [d] = some (sq false l) := by cases d <;> simp_all [seqD, fTupC, sq]
  by_cases c : v = 0
  · have f := feq_t v 0 c
    refine ⟨true, s1, ?_⟩
    refine es_def (ρ := [.dat .hnd, .dat d]) rfl ?_
    unfold b__law_form
    exact es_ret (ev_if_t (by array_mem_dec) (by sizeOf_list_dec))
  · have f := feq_f v 0 c
    refine ⟨false, s1, ?_⟩
    refine es_def (ρ := [.dat .hnd, .dat d]) rfl ?_
    unfold b__law_form
    exact es_ret (ev_if_f (by array_mem_dec) (by sizeOf_list_dec))
end Law


set_option Elab.async false
set_option linter.all false
set_option maxRecDepth 100000
namespace Law
open PySem PySem.Spec PyProof.Rows L2 Mir
theorem rp_i (i : Int) (h : i.natAbs < 2 ^ 100) : Rp 0 151 (.int i) := rp_int (Nat.lt_of_lt_of_le h (by decide))
theorem small100 {n : Nat} (h : n < 100) : n < 2 ^ 100 := Nat.lt_of_lt_of_le h (by decide)
theorem rp_up {n w : Nat} {d : Dt} (h : Rp n w d) (a : n ≤ 3) (b : w ≤ 9748) : Rp 3 9748 d := h.mono a b
/-- what _law_odd gives: mostly no ratio -/
def OddR (o : Dt) : Prop := Rp 2 2436 o ∧ (RtF o false ∨ ∃ q, o = dq q ∧ Bd 140 q)
theorem odd_list (v : Int) (h0 : 0 ≤ v) (h1 : v < 15) : ∃ o, fIx (.lst [.non, .bl true, .int 3, .str "1", .tup [.int 2, .int 4], .tup [.int 1, .int 0], .tup [.int 1, .int (-2)], .lst [.int 1, .int 2], .tup [.bl true, .int 1], .tup [.int 1, .bl true], .tup [.int 1], .tup [.int 1, .int 2, .int 3], .tup [.int 0, .int 5], .tup [.tup [.int 1, .int 1], .int 1], .tup [.int 1, .int 1]]) (.int v) = some o ∧ OddR o := by
  have hu : v = 0 ∨ v = 1 ∨ v = 2 ∨ v = 3 ∨ v = 4 ∨ v = 5 ∨ v = 6 ∨ v = 7 ∨ v = 8 ∨ v = 9 ∨ v = 10 ∨ v = 11 ∨ v = 12 ∨ v = 13 ∨ v = 14 := by omega
  have r : ∀ i : Int, i.natAbs < 2 ^ 100 → Rp 0 151 (.int i) := rp_i
  have i1 := r 1 (by decide)
  have i2 := r 2 (by decide)
  have p2 : ∀ {x y : Dt}, Rp 0 151 x → Rp 0 151 y → Rp 2 2436 (.tup [x, y]) := fun a b => (rp_two false a b).mono (by decide) (by decide)
  have nums : ∀ a b : Int, (decide (1 ≤ b) && decide (Nat.gcd a.natAbs b.natAbs = 1)) = false → RtF (.tup [.int a, .int b]) false := fun a b h => by
    have q := rt_ints a b
    rw [h] at q
    exact q
  rcases hu with rfl | rfl | rfl | rfl | rfl | rfl | rfl | rfl | rfl | rfl | rfl | rfl | rfl | rfl | rfl
  · exact ⟨_, rfl, rp_non.mono (by decide) (by decide), .inl (rt_not .non (fun l e => by cases e))⟩
  · exact ⟨_, rfl, (rp_bl true).mono (by decide) (by decide), .inl (rt_not (.bl true) (fun l e => by cases e))⟩
  · exact ⟨_, rfl, (r 3 (by decide)).mono (by decide) (by decide), .inl (rt_int 3)⟩
  · exact ⟨_, rfl, rp_one.mono (by decide) (by decide), .inl (rt_not (.str _) (fun l e => by cases e))⟩
  · exact ⟨_, rfl, p2 i2 (r 4 (by decide)), .inl (nums 2 4 (by decide))⟩
  · exact ⟨_, rfl, p2 i1 (r 0 (by decide)), .inl (nums 1 0 (by decide))⟩
  · exact ⟨_, rfl, p2 i1 (r (-2) (by decide)), .inl (nums 1 (-2) (by decide))⟩
  · exact ⟨_, rfl, (rp_two true i1 i2).mono (by decide) (by decide), .inl (rt_not (.lst _) (fun l e => by cases e))⟩
  · exact ⟨_, rfl, p2 (rp_bl true) i1, .inl (rt_first (.bl true))⟩
  · exact ⟨_, rfl, p2 i1 (rp_bl true), .inl (rt_second (.bl true))⟩
  · exact ⟨_, rfl, (rp_single false i1).mono (by decide) (by decide), .inl (rt_len (by simp))⟩
  · exact ⟨_, rfl, (rp_three false i1 i2 (r 3 (by decide))).mono (by decide) (by decide), .inl (rt_len (by simp))⟩
  · exact ⟨_, rfl, p2 (r 0 (by decide)) (r 5 (by decide)), .inl (nums 0 5 (by decide))⟩
  · exact ⟨_, rfl, rp_two (n := 1) (w := 608) false ((rp_two false i1 i1).mono (by decide) (by decide)) (i1.mono (by decide) (by decide)), .inl (rt_first (.tup _))⟩
  · exact ⟨_, rfl, p2 i1 i1, .inr ⟨1, rfl, bd1.mono (by decide)⟩⟩
theorem odd_ok (s : Hd) : ∃ (o : Dt) (s' : Hd), m__law_odd [.hnd] s = .ok o s' ∧ OddR o := by
  have t := take_ok s (n := 15) (by decide)
  have g0 := takeV_ge (s := s) (n := 15) (by decide)
  have g1 := takeV_lt (s := s) (n := 15) (by decide)
  generalize takeV s 15 = v at *
  generalize takeS s 15 = s1 at *
  obtain ⟨o, e, h⟩ := odd_list v g0 g1
  refine ⟨o, s1, ?_, h⟩
  generalize hL : ([.non, .bl true, .int 3, .str "1", .tup [.int 2, .int 4], .tup [.int 1, .int 0], .tup [.int 1, .int (-2)], .lst [.int 1, .int 2], .tup [.bl true, .int 1], .tup [.int 1, .bl true], .tup [.int 1], .tup [.int 1, .int 2, .int 3], .tup [.int 0, .int 5], .tup [.tup [.int 1, .int 1], .int 1], .tup [.int 1, .int 1]] : List Dt) = L at *
  have len : fLen [.lst L] = some (.int 15) := by rw [← hL]; rfl
  refine es_def (ρ := [.dat .hnd, .no]) rfl ?_
  unfold b__law_odd
  refine es_seq (es_set (d := .lst L) (s1 := s) ?_) ?_
  · rw [← hL]
    sizeOf_list_dec
  exact es_ret (by sizeOf_list_dec)
theorem len_d (B : Bars) : B.d = .tup B.row := rfl
section
variable {B : Bars} (ok : B.Ok)
include ok
theorem any_place_ok (s : Hd) : ∃ (b : Int) (q : Rat) (s' : Hd), m__law_any_place [.hnd, B.d] s = .ok (.tup [.int b, dq q]) s' ∧ -1 ≤ b ∧ b < B.n ∧ Bd 22 q := by
  have n1 := ok.n1
  have n6 := ok.n6
  have e4 := fLen_d B
  have t := take_ok s (n := 3) (by decide)
  generalize takeV s 3 = v at *
  generalize takeS s 3 = s1 at *
  have hb : ∃ (b : Int) (s2 : Hd), mIf (mTest (mOp fEq (mCall 2 [] m__law_take (mCons (mVar 0) (mCons (mC (.int 3)) mNil))) (mC (.int 0)))) (mOp fSub (mCB fLen (mCons (mVar 1) mNil)) (mC (.int 1))) (mOp fSub (mCall 2 [] m__law_take (mCons (mVar 0) (mCons (mOp fAdd (mCB fLen (mCons (mVar 1) mNil)) (mC (.int 1))) mNil))) (mC (.int 1))) [.dat .hnd, .dat B.d, .no] s = .ok (.int b) s2 ∧ -1 ≤ b ∧ b < B.n := by
    by_cases c : v = 0
    · have f := feq_t v 0 c
      exact ⟨(B.n : Int) - 1, s1, ev_if_t (by array_mem_dec) (by sizeOf_list_dec), by omega, by omega⟩
    · have f := feq_f v 0 c
      have mk : manyOk ((B.n : Int) + 1) := ⟨by omega, by
        have : ((B.n : Int) + 1).natAbs < 2 ^ 3 := by omega
        have := PySem.Flt.log2_lt_of (Nat.succ_pos 2) this
        omega⟩
      have t2 := take_ok s1 mk
      have g0 := takeV_ge (s := s1) (n := (B.n : Int) + 1) (by omega)
      have g1 := takeV_lt (s := s1) (n := (B.n : Int) + 1) (by omega)
      generalize takeV s1 ((B.n : Int) + 1) = u at *
      generalize takeS s1 ((B.n : Int) + 1) = s2 at *
      exact ⟨u - 1, s2, ev_if_f (by array_mem_dec) (by sizeOf_list_dec), by omega, by omega⟩
  obtain ⟨b, s2, eb, h0, h1⟩ := hb
  obtain ⟨q, s3, eq, bq⟩ := wide_ok s2
  refine ⟨b, q, s3, ?_, h0, h1, bq.mono (by omega)⟩
  refine es_def (ρ := [.dat .hnd, .dat B.d, .no]) rfl ?_
  unfold b__law_any_place
  refine es_seq (es_set eb) ?_
  exact es_ret (by sizeOf_list_dec)
theorem some_place_ok (s : Hd) : ∃ (t : Dt) (s' : Hd), m__law_some_place [.hnd, B.d] s = .ok t s' ∧ Th B t := by
  have n1 := ok.n1
  have n6 := ok.n6
  have e4 := fLen_d B
  obtain ⟨b, q, s1, e1, h0, h1, bq⟩ := any_place_ok ok s
  have t := take_ok s1 (n := 8) (by decide)
  generalize takeV s1 8 = v at *
  generalize takeS s1 8 = s2 at *
  have i0 : fIx (.tup [.int b, dq q]) (.int 0) = some (.int b) := rfl
  have i1 : fIx (.tup [.int b, dq q]) (.int 1) = some (dq q) := rfl
  have rb : Rp 0 151 (.int b) := rp_i b (small100 (by omega))
  have rq : Rp 1 608 (dq q) := rp_q (bq.mono (by omega))
  have st : ∀ d s', b__law_some_place [.dat .hnd, .dat B.d, .no, .no] s = .ok (.rt d) s' → m__law_some_place [.hnd, B.d] s = .ok d s' := fun d s' h => es_def rfl h
  unfold b__law_some_place at st
  -- the end: the place as it is, in some form
  have fin : ∀ (q : Rat) (s5 : Hd), Bd 140 q → ∃ (t : Dt) (s' : Hd), m__law_form [.hnd, .tup [.int b, dq q]] s5 = .ok t s' ∧ Th B t := fun q s5 bq => by
    obtain ⟨k, s6, e⟩ := form_ok (.tup [.int b, dq q]) [.int b, dq q] rfl s5
    exact ⟨_, s6, e, (rp_two k (rb.mono (by decide) (by decide)) (rp_q (bq.mono (by omega)))).mono (by decide) (by decide), .inl ⟨b, q, h0, h1, bq, sq_cases k _⟩⟩
  by_cases c0 : v = 0
  · have f0 := feq_t v 0 c0
    have t3 := take_ok s2 (n := 3) (by decide)
    have g0 := takeV_ge (s := s2) (n := 3) (by decide)
    have g1 := takeV_lt (s := s2) (n := 3) (by decide)
    generalize takeV s2 3 = u at *
    generalize takeS s2 3 = s3 at *
    obtain ⟨k, s4, ef⟩ := form_ok (.tup [.int ((B.n : Int) + u), dq q]) [.int ((B.n : Int) + u), dq q] rfl s3
    refine ⟨_, s4, st _ _ ?_, (rp_two k ((rp_i ((B.n : Int) + u) (small100 (by omega))).mono (by decide) (by decide)) rq).mono (by decide) (by decide), .inr (bad_out (sq_cases k _) (by omega))⟩
    refine es_seq (es_set (by sizeOf_list_dec)) ?_
    refine es_seq (es_set (by sizeOf_list_dec)) ?_
    exact seq_rt (es_if_t (by array_mem_dec) (es_ret (by sizeOf_list_dec)))
  · have f0 := feq_f v 0 c0
    by_cases c1 : v = 1
    · have f1 := feq_t v 1 c1
      obtain ⟨o, s3, eo, ro, ho⟩ := odd_ok s2
      have t3 := take_ok s3 (n := 6) (by decide)
      have g0 := takeV_ge (s := s3) (n := 6) (by decide)
      have g1 := takeV_lt (s := s3) (n := 6) (by decide)
      generalize takeV s3 6 = u at *
      generalize takeS s3 6 = s4 at *
      have r2 := rp_i (-2) (by decide)
      have pick : ∃ t, fIx (.lst [.tup [.int (-2), dq q], .tup [.int b, o], .tup [.bl true, dq q], .tup [.int b], .non, .str "mast"]) (.int u) = some t ∧ Th B t := by
        have hu : u = 0 ∨ u = 1 ∨ u = 2 ∨ u = 3 ∨ u = 4 ∨ u = 5 := by omega
        rcases hu with rfl | rfl | rfl | rfl | rfl | rfl
        · exact ⟨_, rfl, (rp_two false (r2.mono (by decide) (by decide)) rq).mono (by decide) (by decide), .inr (bad_out (.inl rfl) (by omega))⟩
        · refine ⟨_, rfl, rp_two false (rb.mono (by decide) (by decide)) ro, ?_⟩
          rcases ho with ho | ⟨p, rfl, bp⟩
          · exact .inr (bad_r (.inl rfl) h0 h1 ho)
          · exact .inl ⟨b, p, h0, h1, bp, .inl rfl⟩
        · exact ⟨_, rfl, (rp_two false ((rp_bl true).mono (by decide) (by decide)) rq).mono (by decide) (by decide), .inr (bad_w (.inl rfl) (.bl true))⟩
        · exact ⟨_, rfl, (rp_single false rb).mono (by decide) (by decide), .inr (bad_len (by simp))⟩
        · exact ⟨_, rfl, rp_non.mono (by decide) (by decide), .inr (bad_kind isi2_non)⟩
        · exact ⟨_, rfl, rp_mast.mono (by decide) (by decide), .inr (bad_kind (isi2_str _))⟩
      obtain ⟨t, et, ht⟩ := pick
      refine ⟨t, s4, st _ _ ?_, ht⟩
      refine es_seq (es_set (by sizeOf_list_dec)) ?_
      refine es_seq (es_set (by sizeOf_list_dec)) ?_
      refine es_seq (es_if_f (by array_mem_dec) es_next) ?_
      exact seq_rt (es_if_t (by array_mem_dec) (es_ret (by sizeOf_list_dec)))
    · have f1 := feq_f v 1 c1
      by_cases c2 : v = 2
      · have f2 := feq_t v 2 c2
        have mk40 : manyOk (2 * 10 ^ 40) := by decide +kernel
        have t3 := take_ok s2 mk40
        have g0 := takeV_ge (s := s2) (n := 2 * 10 ^ 40) (by decide)
        have g1 := takeV_lt (s := s2) (n := 2 * 10 ^ 40) (by decide)
        generalize takeV s2 (2 * 10 ^ 40) = u at *
        generalize takeS s2 (2 * 10 ^ 40) = s3 at *
        have t4 := take_ok s3 (n := 1000000000) (by decide)
        have g2 := takeV_ge (s := s3) (n := 1000000000) (by decide)
        have g3 := takeV_lt (s := s3) (n := 1000000000) (by decide)
        generalize takeV s3 1000000000 = w at *
        generalize takeS s3 1000000000 = s4 at *
        have p40 : fPow (.int 10) (.int 40) = some (.int (10 ^ 40)) := rfl
        have p9 : fPow (.int 10) (.int 9) = some (.int 1000000000) := rfl
        have mk2 : Mir.MulOk 2 (10 ^ 40) := by decide +kernel
        have mu : fMul (.int 2) (.int (10 ^ 40)) = some (.int (2 * 10 ^ 40)) := by
          show (if Mir.MulOk 2 (10 ^ 40) then some (Dt.int (2 * 10 ^ 40)) else none) = _
          exact if_pos mk2
        obtain ⟨p, e5, bp, _⟩ := lratio_q (t := u - 10 ^ 40) (b := 1 + w) (n := 140) (by omega) (by decide) (by unfold Sz; omega) (by unfold Sz; omega) s4
        obtain ⟨t, s5, ef, ht⟩ := fin p s4 bp
        refine ⟨t, s5, st _ _ ?_, ht⟩
        refine es_seq (es_set (by sizeOf_list_dec)) ?_
        refine es_seq (es_set (by sizeOf_list_dec)) ?_
        refine es_seq (es_if_f (by array_mem_dec) es_next) ?_
        refine es_seq (es_if_f (by array_mem_dec) es_next) ?_
        refine es_seq (es_if_t (by array_mem_dec) (es_set (d := .tup [.int b, dq p]) (by sizeOf_list_dec))) ?_
        exact es_ret (by sizeOf_list_dec)
      · have f2 := feq_f v 2 c2
        obtain ⟨t, s5, ef, ht⟩ := fin q s2 (bq.mono (by omega))
        refine ⟨t, s5, st _ _ ?_, ht⟩
        refine es_seq (es_set (by sizeOf_list_dec)) ?_
        refine es_seq (es_set (by sizeOf_list_dec)) ?_
        refine es_seq (es_if_f (by array_mem_dec) es_next) ?_
        refine es_seq (es_if_f (by array_mem_dec) es_next) ?_
        refine es_seq (es_if_f (by array_mem_dec) es_next) ?_
        exact es_ret (by sizeOf_list_dec)
end
end Law


set_option Elab.async false
set_option linter.all false
set_option maxRecDepth 100000
namespace Law
open PySem PySem.Spec PyProof.Rows L2 Mir
theorem es_swp {i : Nat} {b1 b2 a1 a2 : ME} {ρ : Env'} {s s1 s2 s3 s4 : Hd} {ds : List Dt} {d1 d2 : Dt} {k1 k2 : Int} {j1 j2 : Nat} (h : ρ[i]? = some (.own ds)) (ha1 : a1 ρ s = .ok d1 s1) (ha2 : a2 ρ s1 = .ok d2 s2) (hb1 : b1 ρ s2 = .ok (.int k1) s3) (hj1 : ixN ds.length k1 = some j1)
    (hb2 : b2 (ρ.set i (.own (ds.set j1 d1))) s3 = .ok (.int k2) s4) (hj2 : ixN ds.length k2 = some j2) : mSwp i b1 b2 a1 a2 ρ s = .ok (.nx (ρ.set i (.own ((ds.set j1 d1).set j2 d2)))) s4 := by
  have hi : i < ρ.length := by
    rcases Nat.lt_or_ge i ρ.length with c | c
    · exact c
    · rw [List.getElem?_eq_none c] at h
      cases h
  have t : mTup (mCons a1 (mCons a2 mNil)) ρ s = .ok (.tup [d1, d2]) s2 := ev_tup (ev_cons ha1 (ev_cons ha2 ev_nil)) (Nat.le_of_ble_eq_true rfl)
  have r1 : setR i b1 d1 ρ s2 = .ok (ρ.set i (.own (ds.set j1 d1))) s3 := by
    unfold setR
    rw [h]
    simp only
    rw [hb1]
    simp only [R.bind_ok, hj1]
  have r2 : setR i b2 d2 (ρ.set i (.own (ds.set j1 d1))) s3 = .ok (ρ.set i (.own ((ds.set j1 d1).set j2 d2))) s4 := by
    unfold setR
    rw [List.getElem?_set_self hi]
    simp only
    rw [hb2]
    simp only [R.bind_ok, List.length_set, hj2, List.set_set]
  unfold mSwp
  rw [t]
  simp only [R.bind_ok]
  rw [r1]
  simp only [R.bind_ok]
  rw [r2]
  rfl
abbrev dn : Nat → Dt := fun n => .int (n : Nat)
/-- letters of bars: 1 .. n all there -/
structure Lets (m n : Nat) (g : Nat → Nat) : Prop where
  le : ∀ t, t < m → g t ≤ n
  all : ∀ k, 1 ≤ k → k ≤ n → ∃ t, t < m ∧ g t = k
def swG (g : Nat → Nat) (i o : Nat) : Nat → Nat := fun t => if t = o then g i else if t = i then g o else g t
theorem good_sw {m n i o : Nat} {g : Nat → Nat} (h : Lets m n g) (hi : i < m) (ho : o < m) : Lets m n (swG g i o) := by
  refine ⟨fun t ht => ?_, fun k k1 k2 => ?_⟩
  · unfold swG
    split
    · exact h.le _ hi
    · split
      · exact h.le _ ho
      · exact h.le _ ht
  · obtain ⟨t, ht, e⟩ := h.all k k1 k2
    by_cases c : t = i
    · exact ⟨o, ho, by unfold swG; rw [if_pos rfl, ← c, e]⟩
    · by_cases c2 : t = o
      · refine ⟨i, hi, ?_⟩
        unfold swG
        by_cases c3 : i = o
        · omega
        · rw [if_neg c3, if_pos rfl, ← c2, e]
      · exact ⟨t, ht, by unfold swG; rw [if_neg c2, if_neg c, e]⟩
def swBody : MS := (mSeq (mSet 5 (mCall 2 [] m__law_take (mCons (mVar 0) (mCons (mOp fAdd (mVar 4) (mC (.int 1))) mNil))))
    (mSwp 3 (mVar 4) (mVar 5) (mIxO 3 (mVar 5)) (mIxO 3 (mVar 4))))
theorem swap_step {m n : Nat} {g : Nat → Nat} (hg : Lets m n g) {i : Nat} (hi : i < m) (hm : m ≤ 6) (k2 x5 : Sl) (x : Int) (hx : x = i) (s : Hd) : ∃ (g' : Nat → Nat) (x5' : Sl) (s' : Hd), swBody [.dat .hnd, .dat (.int m), k2, .own (fD dn m g), .dat (.int x), x5, .no, .no] s = .ok (.nx [.dat .hnd, .dat (.int m), k2, .own (fD dn m g'), .dat (.int x), x5', .no, .no]) s' ∧ Lets m n g' := by
  subst hx
  have mk : manyOk ((i : Int) + 1) := ⟨by omega, by
    have : ((i : Int) + 1).natAbs < 2 ^ 3 := by omega
    have := PySem.Flt.log2_lt_of (Nat.succ_pos 2) this
    omega⟩
  have t := take_ok s mk
  have g0 := takeV_ge (s := s) (n := (i : Int) + 1) (by omega)
  have g1 := takeV_lt (s := s) (n := (i : Int) + 1) (by omega)
  generalize takeV s ((i : Int) + 1) = v at *
  generalize takeS s ((i : Int) + 1) = s1 at *
  obtain ⟨o, rfl⟩ : ∃ o : Nat, v = o := ⟨v.toNat, by omega⟩
  have ho : o < m := by omega
  have a1 : atI (fD dn m g) (o : Int) = some (dn (g o)) := fD_at (by omega) (by omega)
  have a2 : atI (fD dn m g) (i : Int) = some (dn (g i)) := fD_at (by omega) (by omega)
  have ix : ∀ j : Nat, j < m → ixN (fD dn m g).length (j : Int) = some j := fun j hj => by
    unfold ixN
    rw [if_pos (by omega), fD_len, if_pos (by omega)]
    rfl
  have e : ((fD dn m g).set i (dn (g o))).set o (dn (g i)) = fD dn m (swG g i o) := by
    rw [fD_set hi, fD_set ho]
    refine fD_congr fun t ht => ?_
    rfl
  refine ⟨swG g i o, .dat (.int o), s1, ?_, good_sw hg hi ho⟩
  refine es_seq (es_set (by sizeOf_list_dec)) ?_
  refine (es_swp (ds := fD dn m g) (d1 := dn (g o)) (d2 := dn (g i)) (k1 := i) (k2 := o) (j1 := i) (j2 := o) rfl (ev_ixo_own (ds := fD dn m g) (k := o) rfl (ev_var rfl) a1) (ev_ixo_own (ds := fD dn m g) (k := i) rfl (ev_var rfl) a2) (ev_var rfl) (ix i hi) (ev_var rfl) (ix o ho)).trans ?_
  rw [e]
  rfl
theorem fmin_ok (i j : Int) : fMin [.int i, .int j] = some (.int (if j < i then j else i)) := rfl
/-- a comprehension of drawn letters -/
theorem draw_letters {m n0 : Nat} (hm : m ≤ 6) (hn : n0 ≤ 4) (h1 : n0 ≤ m) (s : Hd) : ∃ (g : Nat → Nat) (s' : Hd), loopC (gmName 4) mYes (mIf (mTest (mOp fLt (mVar 4) (mVar 2))) (mOp fAdd (mVar 4) (mC (.int 1))) (mCall 2 [] m__law_take (mCons (mVar 0) (mCons (mOp fAdd (mVar 2) (mC (.int 1))) mNil)))) [4] (rangeD 0 m) [] [.dat .hnd, .dat (.int m), .dat (.int n0), .no, .no, .no, .no, .no] s = .ok (.lst (fD dn m g)) s' ∧ Lets m n0 g := by
  obtain ⟨ds, s', e, hl, hp⟩ := lc_hand (g := gmName 4) (a := mIf (mTest (mOp fLt (mVar 4) (mVar 2))) (mOp fAdd (mVar 4) (mC (.int 1))) (mCall 2 [] m__law_take (mCons (mVar 0) (mCons (mOp fAdd (mVar 2) (mC (.int 1))) mNil)))) (vs := [4]) (ρ := [.dat .hnd, .dat (.int m), .dat (.int n0), .no, .no, .no, .no, .no]) (fun (i : Nat) => .int (0 + i)) (fun i d => ∃ v : Nat, d = dn v ∧ v ≤ n0 ∧ (i < n0 → v = i + 1)) (List.range m) [] s (by simp; omega) fun i hi s => by
    refine ⟨[.dat .hnd, .dat (.int m), .dat (.int n0), .no, .dat (.int (0 + i)), .no, .no, .no], ?_⟩
    by_cases c : i < n0
    · have t1 := flt_t (i := 0 + (i : Int)) (j := n0) (by omega)
      refine ⟨.int (0 + i + 1), s, rfl, ev_if_t (by array_mem_dec) (by sizeOf_list_dec), i + 1, ?_, by omega, fun _ => rfl⟩
      show Dt.int _ = Dt.int _
      congr 1
      omega
    · have t1 := flt_f (i := 0 + (i : Int)) (j := n0) (by omega)
      have mk : manyOk ((n0 : Int) + 1) := ⟨by omega, by
        have : ((n0 : Int) + 1).natAbs < 2 ^ 3 := by omega
        have := PySem.Flt.log2_lt_of (Nat.succ_pos 2) this
        omega⟩
      have t := take_ok s mk
      have g0 := takeV_ge (s := s) (n := (n0 : Int) + 1) (by omega)
      have g1 := takeV_lt (s := s) (n := (n0 : Int) + 1) (by omega)
      generalize takeV s ((n0 : Int) + 1) = v at *
      generalize takeS s ((n0 : Int) + 1) = s1 at *
      refine ⟨.int v, s1, rfl, ev_if_f (by array_mem_dec) (by sizeOf_list_dec), v.toNat, ?_, by omega, fun h => absurd h c⟩
      show Dt.int _ = Dt.int _
      congr 1
      omega
  rw [List.length_range] at hl
  obtain ⟨g, e2, hg⟩ := fD_of (g := dn) (P := fun i v => v ≤ n0 ∧ (i < n0 → v = i + 1)) hl fun i hi => by
    have hi2 : i < ds.length := by omega
    obtain ⟨v, e1, e2, e3⟩ := hp i i ds[i] (List.getElem?_range hi) (List.getElem?_eq_getElem hi2)
    exact ⟨v, by rw [List.getElem?_eq_getElem hi2, e1], e2, e3⟩
  refine ⟨g, s', ?_, fun t ht => (hg t ht).1, fun k k1 k2 => ⟨k - 1, by omega, ?_⟩⟩
  · unfold rangeD
    rw [e, e2]
    rfl
  · have := (hg (k - 1) (by omega)).2 (by omega)
    omega
theorem many_le (i : Nat) (h : i ≤ 5) : manyOk (0 + (i : Int) + 1) := ⟨by omega, by
  have : (0 + (i : Int) + 1).natAbs < 2 ^ 3 := by omega
  have := PySem.Flt.log2_lt_of (Nat.succ_pos 2) this
  omega⟩
def hostE : ME := mIf (mTest (mOp fEq (mCall 2 [] m__law_take (mCons (mVar 0) (mCons (mC (.int 2)) mNil))) (mC (.int 0)))) (mOp fSub (mVar 4) (mC (.int 1))) (mOp fSub (mCall 2 [] m__law_take (mCons (mVar 0) (mCons (mOp fAdd (mVar 4) (mC (.int 1))) mNil))) (mC (.int 1)))
def barsBody : MS := (mSeq (mSet 7 hostE)
    (mApp 6 (mTup (mCons (mVar 7) (mCons (mCall 1 [] m__law_wide (mCons (mVar 0) mNil)) (mCons (mIxO 3 (mVar 4)) mNil))))))
theorem host_ok {i : Nat} (hi : i ≤ 5) {ρ : Env'} (h0 : ρ[0]? = some (.dat .hnd)) (h4 : ρ[4]? = some (.dat (.int (0 + (i : Int))))) (s : Hd) : ∃ (v : Int) (s' : Hd), hostE ρ s = .ok (.int v) s' ∧ -1 ≤ v ∧ v < i := by
  have v0 := ev_var (s := s) h0
  have t := take_ok s (n := 2) (by decide)
  generalize takeV s 2 = v at *
  generalize takeS s 2 = s1 at *
  have v0' := ev_var (s := s1) h0
  have v4 := ev_var (s := s1) h4
  have e : mCall 2 [] m__law_take (mCons (mVar 0) (mCons (mC (.int 2)) mNil)) ρ s = .ok (.int v) s1 := ev_call0 (ev_cons v0 (ev_cons ev_c ev_nil)) rfl t
  by_cases c : v = 0
  · have f := feq_t v 0 c
    exact ⟨0 + (i : Int) - 1, s1, ev_if_t (ev_test (ev_op e ev_c f)) (ev_op v4 ev_c rfl), by omega, by omega⟩
  · have f := feq_f v 0 c
    have t2 := take_ok s1 (many_le i hi)
    have g0 := takeV_ge (s := s1) (n := 0 + (i : Int) + 1) (by omega)
    have g1 := takeV_lt (s := s1) (n := 0 + (i : Int) + 1) (by omega)
    generalize takeV s1 (0 + (i : Int) + 1) = w at *
    generalize takeS s1 (0 + (i : Int) + 1) = s2 at *
    have e2 : mCall 2 [] m__law_take (mCons (mVar 0) (mCons (mOp fAdd (mVar 4) (mC (.int 1))) mNil)) ρ s1 = .ok (.int w) s2 := ev_call0 (ev_cons v0' (ev_cons (ev_op v4 ev_c rfl) ev_nil)) rfl t2
    exact ⟨w - 1, s2, ev_if_f (ev_test (ev_op e ev_c f)) (ev_op e2 ev_c rfl), by omega, by omega⟩
theorem pick_m (v : Int) (g0 : 0 ≤ v) (g1 : v < 8) : ∃ m : Nat, 1 ≤ m ∧ m ≤ 6 ∧ fIx (.lst [.int 2, .int 1, .int 3, .int 2, .int 3, .int 4, .int 3, .int 6]) (.int v) = some (.int (m : Nat)) := by
  have hu : v = 0 ∨ v = 1 ∨ v = 2 ∨ v = 3 ∨ v = 4 ∨ v = 5 ∨ v = 6 ∨ v = 7 := by omega
  rcases hu with rfl | rfl | rfl | rfl | rfl | rfl | rfl | rfl
  · exact ⟨2, by decide, by decide, rfl⟩
  · exact ⟨1, by decide, by decide, rfl⟩
  · exact ⟨3, by decide, by decide, rfl⟩
  · exact ⟨2, by decide, by decide, rfl⟩
  · exact ⟨3, by decide, by decide, rfl⟩
  · exact ⟨4, by decide, by decide, rfl⟩
  · exact ⟨3, by decide, by decide, rfl⟩
  · exact ⟨6, by decide, by decide, rfl⟩
theorem pick_n (v : Int) (g0 : 0 ≤ v) (g1 : v < 8) : ∃ m : Nat, 1 ≤ m ∧ m ≤ 4 ∧ fIx (.lst [.int 2, .int 1, .int 2, .int 3, .int 2, .int 2, .int 3, .int 4]) (.int v) = some (.int (m : Nat)) := by
  have hu : v = 0 ∨ v = 1 ∨ v = 2 ∨ v = 3 ∨ v = 4 ∨ v = 5 ∨ v = 6 ∨ v = 7 := by omega
  rcases hu with rfl | rfl | rfl | rfl | rfl | rfl | rfl | rfl
  · exact ⟨2, by decide, by decide, rfl⟩
  · exact ⟨1, by decide, by decide, rfl⟩
  · exact ⟨2, by decide, by decide, rfl⟩
  · exact ⟨3, by decide, by decide, rfl⟩
  · exact ⟨2, by decide, by decide, rfl⟩
  · exact ⟨2, by decide, by decide, rfl⟩
  · exact ⟨3, by decide, by decide, rfl⟩
  · exact ⟨4, by decide, by decide, rfl⟩
theorem world_ok (s : Hd) : ∃ (B : Bars) (s' : Hd), B.Ok ∧ m__law_world [.hnd] s = .ok B.d s' := by
  have t := take_ok s (n := 8) (by decide)
  have g0 := takeV_ge (s := s) (n := 8) (by decide)
  have g1 := takeV_lt (s := s) (n := 8) (by decide)
  generalize takeV s 8 = v at *
  generalize takeS s 8 = s1 at *
  obtain ⟨m, h1, h6, ix⟩ := pick_m v g0 g1
  have t2 := take_ok s1 (n := 8) (by decide)
  have g2 := takeV_ge (s := s1) (n := 8) (by decide)
  have g3 := takeV_lt (s := s1) (n := 8) (by decide)
  generalize takeV s1 8 = v2 at *
  generalize takeS s1 8 = s2 at *
  obtain ⟨k, k1, k4, ix2⟩ := pick_n v2 g2 g3
  have fm := fmin_ok m k
  obtain ⟨n0, hn0⟩ : ∃ n0 : Nat, (if (k : Int) < m then (k : Int) else m) = n0 := ⟨if k < m then k else m, by split <;> split <;> omega⟩
  have n1 : 1 ≤ n0 ∧ n0 ≤ 4 ∧ n0 ≤ m := by split at hn0 <;> omega
  rw [hn0] at fm
  obtain ⟨g, s3, lc, hg⟩ := draw_letters (m := m) (n0 := n0) h6 n1.2.1 n1.2.2 s2
  have rg0 : mRng1 (mVar 1) [.dat .hnd, .dat (.int m), .dat (.int n0), .no, .no, .no, .no, .no] s2 = .ok (rangeD 0 m) s2 := rng1_of m (ev_var rfl) rfl (by omega)
  have dg : mRngD (mOp fSub (mVar 1) (mC (.int 1))) (mC (.int 0)) [.dat .hnd, .dat (.int m), .dat (.int n0), .own (fD dn m g), .no, .no, .no, .no] s3 = .ok ((List.range (m - 1)).map fun (t : Nat) => Dt.int ((m : Int) - 1 + (t : Int) * -1)) s3 := by
    have k1 : rngOk ((m : Int) - 1) := ⟨by omega, by omega⟩
    have k2 : rngOk 0 := ⟨by omega, by omega⟩
    have a : mOp fSub (mVar 1) (mC (.int 1)) [.dat .hnd, .dat (.int m), .dat (.int n0), .own (fD dn m g), .no, .no, .no, .no] s3 = .ok (.int ((m : Int) - 1)) s3 := by sizeOf_list_dec
    unfold mRngD
    rw [a]
    simp only [R.bind_ok, mC]
    rw [if_pos ⟨k1, k2⟩]
    unfold downD
    rw [show ((m : Int) - 1 - 0).toNat = m - 1 by omega]
  obtain ⟨ρ1, s4, hl1, g', x4, x5, rfl, hg'⟩ := for_range (g := gmName 4) (body := swBody) (ρ := [.dat .hnd, .dat (.int m), .dat (.int n0), .own (fD dn m g), .no, .no, .no, .no]) (s := s3) (fun (t : Nat) => Dt.int ((m : Int) - 1 + (t : Int) * -1)) (fun i ρ s => ∃ (g : Nat → Nat) (x4 x5 : Sl), ρ = [.dat .hnd, .dat (.int m), .dat (.int n0), .own (fD dn m g), x4, x5, .no, .no] ∧ Lets m n0 g) (m - 1) ⟨g, .no, .no, rfl, hg⟩ (fun i ρ s hi hI => by
    obtain ⟨g, x4, x5, rfl, hg⟩ := hI
    obtain ⟨g', x5', s', e, hg'⟩ := swap_step hg (i := m - 1 - i) (by omega) h6 (.dat (.int n0)) x5 ((m : Int) - 1 + (i : Int) * -1) (by omega) s
    exact ⟨_, _, s', rfl, e, g', _, _, rfl, hg'⟩)
  have rg : mRng1 (mVar 1) [.dat .hnd, .dat (.int m), .dat (.int n0), .own (fD dn m g'), x4, x5, .own [], .no] s4 = .ok (rangeD 0 m) s4 := rng1_of m (ev_var rfl) rfl (by omega)
  obtain ⟨ρ', s5, hl, hh, mm, y4, y7, rfl, hp⟩ := for_range (g := gmName 4) (body := barsBody) (ρ := [.dat .hnd, .dat (.int m), .dat (.int n0), .own (fD dn m g'), x4, x5, .own [], .no]) (s := s4) (fun (i : Nat) => .int (0 + (i : Int)))
    (fun i ρ s => ∃ (hh : Nat → Int) (mm : Nat → Rat) (y4 y7 : Sl), ρ = [.dat .hnd, .dat (.int m), .dat (.int n0), .own (fD dn m g'), y4, x5, .own ((List.range i).map fun t => .tup [.int (hh t), dq (mm t), .int (g' t : Nat)]), y7] ∧ ∀ t, t < i → -1 ≤ hh t ∧ hh t < t ∧ Bd 22 (mm t)) m ⟨fun _ => 0, fun _ => 0, x4, .no, rfl, fun t h => by omega⟩ (fun i ρ s hi hI => by
    obtain ⟨hh, mm, y4, y7, rfl, hp⟩ := hI
    obtain ⟨w, s6, eh, w0, w1⟩ := host_ok (i := i) (by omega) (ρ := [.dat .hnd, .dat (.int m), .dat (.int n0), .own (fD dn m g'), .dat (.int (0 + (i : Int))), x5, .own ((List.range i).map fun t => .tup [.int (hh t), dq (mm t), .int (g' t : Nat)]), y7]) rfl rfl s
    obtain ⟨q, s7, eq, bq⟩ := wide_ok s6
    have a1 : atI (fD dn m g') (0 + (i : Int)) = some (dn (g' i)) := by
      rw [Int.zero_add, fD_at (by omega) (by omega)]
      rfl
    refine ⟨_, _, s7, rfl, es_seq (es_set eh) (es_app (ds := (List.range i).map fun t => .tup [.int (hh t), dq (mm t), .int (g' t : Nat)]) (d := .tup [.int w, dq q, .int (g' i : Nat)]) rfl ?_ (by simp; omega)), fun t => if t = i then w else hh t, fun t => if t = i then q else mm t, .dat (.int (0 + (i : Int))), .dat (.int w), ?_, fun t ht => ?_⟩
    · refine ev_tup (ev_cons (ev_var rfl) (ev_cons (by sizeOf_list_dec) (ev_cons (ev_ixo_own (ds := fD dn m g') (k := 0 + (i : Int)) rfl (ev_var rfl) a1) ev_nil))) (Nat.le_of_ble_eq_true rfl)
    · have e : ((List.range i).map fun t => Dt.tup [.int (hh t), dq (mm t), .int (g' t : Nat)]) ++ [.tup [.int w, dq q, .int (g' i : Nat)]] = (List.range (i + 1)).map fun t => Dt.tup [.int (if t = i then w else hh t), dq (if t = i then q else mm t), .int (g' t : Nat)] := by
        rw [List.range_succ, List.map_append, List.map_singleton, if_pos rfl, if_pos rfl]
        congr 1
        refine List.map_congr_left fun t ht => ?_
        have : t ≠ i := by have := List.mem_range.1 ht; omega
        rw [if_neg this, if_neg this]
      rw [e]
      rfl
    · by_cases c : t = i
      · simp only [if_pos c]
        subst c
        exact ⟨by omega, by omega, bq.mono (by decide)⟩
      · simp only [if_neg c]
        exact hp t (by omega))
  let B : Bars := ⟨m, n0, hh, mm, g'⟩
  refine ⟨B, s5, ⟨h1, h6, n1.1, n1.2.1, fun i hi => (hp i hi).1, fun i hi => (hp i hi).2.1, fun i hi => (hp i hi).2.2, fun i hi => hg'.le i hi, hg'.all⟩, ?_⟩
  refine es_def (ρ := [.dat .hnd, .no, .no, .no, .no, .no, .no, .no]) rfl ?_
  unfold b__law_world
  refine es_seq (es_set (d := .int (m : Nat)) (by sizeOf_list_dec)) ?_
  refine es_seq (es_set (d := .int (n0 : Nat)) (by sizeOf_list_dec)) ?_
  refine es_seq (es_setO (toL_of (ev_lc rg0 lc))) ?_
  refine es_seq (es_for (b1 := swBody) dg hl1) ?_
  refine es_seq (es_setO (ev_lstO ev_nil (by simp))) ?_
  refine es_seq (es_for (b1 := barsBody) rg hl) ?_
  refine es_ret (ev_bor rfl (ev_cb (ev_cons (ev_var rfl) ev_nil) rfl) ?_)
  show lfreeA _ = true
  rw [lfreeA_all, List.all_eq_true]
  intro d hd
  obtain ⟨i, _, e⟩ := List.mem_map.1 hd
  rw [← e]
  rfl
end Law


set_option Elab.async false
set_option linter.all false
set_option maxRecDepth 100000
namespace Law
open PySem PySem.Spec PyProof.Rows L2 Mir
theorem any_pose_ok {N : Nat} (hN : N ≤ 4) (s : Hd) : ∃ (P : Nat → Rat × Rat) (s' : Hd), m__law_any_pose [.hnd, .int N] s = .ok (.tup (poseL N P)) s' ∧ Pz N P := by
  obtain ⟨ds, s', e, hl, hp⟩ := lc_hand (g := gmName 2) (a := mCall 1 [] m__law_direction (mCons (mCall 1 [] m__law_any_half (mCons (mVar 0) mNil)) mNil)) (vs := [2]) (ρ := [.dat .hnd, .dat (.int N), .no]) (fun (i : Nat) => .int (0 + i)) (fun i d => ∃ D : Rat × Rat, d = dirD D ∧ Unit1 D ∧ BdD 52 D) (List.range N) [] s (by simp; omega) fun i hi s => by
    obtain ⟨o, s1, e1, b1⟩ := any_half_ok s
    have e2 := direction_ok (n := 11) (by omega) b1 s1
    exact ⟨[.dat .hnd, .dat (.int N), .dat (.int (0 + i))], dr (dirOf o), s1, rfl, by sizeOf_list_dec, dirOf o, rfl, dir_unit o, (dir_bd b1)⟩
  rw [List.length_range] at hl
  obtain ⟨f, e2, hf⟩ := fD_of (g := dirD) (P := fun i D => Unit1 D ∧ BdD 52 D) hl fun i hi => by
    have hi2 : i < ds.length := by omega
    obtain ⟨D, e1, e2, e3⟩ := hp i i ds[i] (List.getElem?_range hi) (List.getElem?_eq_getElem hi2)
    exact ⟨D, by rw [List.getElem?_eq_getElem hi2, e1], e2, e3⟩
  have b01 : Bd 52 (0 : Rat) := bd0.mono (by decide)
  have b11 : Bd 52 (1 : Rat) := bd1.mono (by decide)
  let P : Nat → Rat × Rat := fun k => if k = 0 then (0, 1) else if k ≤ N then f (k - 1) else (0, 1)
  have pf : ∀ i, i < N → P (i + 1) = f i := fun i hi => by
    show (if i + 1 = 0 then _ else if i + 1 ≤ N then f (i + 1 - 1) else _) = _
    rw [if_neg (by omega), if_pos (by omega), Nat.add_sub_cancel]
  have bd : ∀ k, Bd 52 (P k).1 ∧ Bd 52 (P k).2 := fun k => by
    show Bd 52 (if k = 0 then _ else if k ≤ N then f (k - 1) else _ : Rat × Rat).1 ∧ Bd 52 (if k = 0 then _ else if k ≤ N then f (k - 1) else _ : Rat × Rat).2
    split
    · exact ⟨b01, b11⟩
    · split
      · exact (hf (k - 1) (by omega)).2
      · exact ⟨b01, b11⟩
  refine ⟨P, s', ?_, rfl, fun k hk => ?_, fun k => (bd k).1, fun k => (bd k).2⟩
  · have rg : mRng1 (mVar 1) [.dat .hnd, .dat (.int N), .no] s = .ok (rangeD 0 N) s := rng1_of N (ev_var rfl) rfl (by omega)
    have ep : fD dirD N f = poseL N P := fD_congr fun i hi => (pf i hi).symm
    rw [e2] at e
    refine es_def (ρ := [.dat .hnd, .dat (.int N), .no]) rfl ?_
    unfold b__law_any_pose
    refine es_ret (ev_cb (ds := [.lst (poseL N P)]) (ev_cons (ev_lc rg ?_) ev_nil) rfl)
    unfold rangeD
    rw [e, List.nil_append, ep]
  · rcases Nat.eq_zero_or_pos k with c | c
    · subst c
      show (0 : Rat) * 0 + 1 * 1 = 1
      grind
    · obtain ⟨j, rfl⟩ : ∃ j, k = j + 1 := ⟨k - 1, by omega⟩
      rw [pf j (by omega)]
      exact (hf j (by omega)).1
/-! asked of one act -/
def callBody : MS := (mIfS (mTest (mOp fEq (mVar 0) (mC (.int 0)))) (mSet 5 (mTup (mCons (mC (.str "told")) (mCons (mCall 3 [] m_place_at (mCons (mVar 1) (mCons (mVar 2) (mCons (mVar 3) mNil)))) mNil)))) (mIfS (mTest (mOp fEq (mVar 0) (mC (.int 1)))) (mSet 5 (mTup (mCons (mC (.str "told")) (mCons (mCall 3 [] m_height_at (mCons (mVar 1) (mCons (mVar 2) (mCons (mVar 3) mNil)))) mNil)))) (mIfS (mTest (mOp fEq (mVar 0) (mC (.int 2)))) (mSet 5 (mTup (mCons (mC (.str "told")) (mCons (mCall 2 [] m_hinges_at (mCons (mVar 1) (mCons (mVar 2) mNil))) mNil)))) (mSet 5 (mTup (mCons (mC (.str "told")) (mCons (mCall 4 [] m_square_between (mCons (mVar 1) (mCons (mVar 2) (mCons (mVar 3) (mCons (mVar 4) mNil))))) mNil)))))))
abbrev cEnv (x A D t1 t2 r : Dt) : Env' := [.dat x, .dat A, .dat D, .dat t1, .dat t2, .dat r, .no]
section
variable {x A D t1 t2 d : Dt} {s s1 : Hd}
theorem called_ok (h : callBody (cEnv x A D t1 t2 (.tup [.str "let", .non])) s = .ok (.nx (cEnv x A D t1 t2 d)) s1) : m__law_called [x, A, D, t1, t2] s = .ok d s1 := by
  refine es_def (ρ := [.dat x, .dat A, .dat D, .dat t1, .dat t2, .no, .no]) rfl ?_
  unfold b__law_called
  refine es_seq (ρ1 := cEnv x A D t1 t2 (.tup [.str "let", .non])) (s1 := s) (es_set (by sizeOf_list_dec)) ?_
  exact es_seq (es_tryq (b1 := callBody) h) (es_ret (ev_var rfl))
theorem called_pose {i : Dt} (h : callBody (cEnv x A D t1 t2 (.tup [.str "let", .non])) s = .err "BadPose" [("index", i)] (cEnv x A D t1 t2 (.tup [.str "let", .non])) s1) : m__law_called [x, A, D, t1, t2] s = .ok (.tup [.str "pose", i]) s1 := by
  refine es_def (ρ := [.dat x, .dat A, .dat D, .dat t1, .dat t2, .no, .no]) rfl ?_
  unfold b__law_called
  refine es_seq (ρ1 := cEnv x A D t1 t2 (.tup [.str "let", .non])) (s1 := s) (es_set (by sizeOf_list_dec)) ?_
  refine es_seq (es_tryq_n (b1 := callBody) (ρ2 := cEnv x A D t1 t2 (.tup [.str "pose", i])) (s2 := s1) h (by simp) (by simp) ?_) (es_ret (ev_var rfl))
  rfl
theorem called_place (h : callBody (cEnv x A D t1 t2 (.tup [.str "let", .non])) s = .err "BadPlace" [] (cEnv x A D t1 t2 (.tup [.str "let", .non])) s1) : m__law_called [x, A, D, t1, t2] s = .ok (.tup [.str "place", .non]) s1 := by
  refine es_def (ρ := [.dat x, .dat A, .dat D, .dat t1, .dat t2, .no, .no]) rfl ?_
  unfold b__law_called
  refine es_seq (ρ1 := cEnv x A D t1 t2 (.tup [.str "let", .non])) (s1 := s) (es_set (by sizeOf_list_dec)) ?_
  refine es_seq (es_tryq_2 (b1 := callBody) (ρ2 := cEnv x A D t1 t2 (.tup [.str "place", .non])) (s2 := s1) h (by simp) (by decide +kernel) ?_) (es_ret (ev_var rfl))
  exact es_set (by sizeOf_list_dec)
theorem ev_tup_e {as : MA} {ρ ρ' : Env'} {cl : Str} {fs : List (Str × Dt)} (h : as ρ s = .err cl fs ρ' s1) : mTup as ρ s = .err cl fs ρ' s1 := by
  unfold mTup
  rw [h]
  rfl
variable {r0 : Dt} {cl : Str} {fs : List (Str × Dt)} {ρ' : Env'}
theorem f_t (i : Int) : fEq (.int i) (.int i) = some (.bl true) := feq_t i i rfl
theorem cb0 (h : m_place_at [A, D, t1] s = .ok d s1) : callBody (cEnv (.int 0) A D t1 t2 r0) s = .ok (.nx (cEnv (.int 0) A D t1 t2 (.tup [.str "told", d]))) s1 := by
  have a := f_t 0
  unfold callBody
  exact es_if_t (by array_mem_dec) (es_set (by sizeOf_list_dec))
theorem cb1 (h : m_height_at [A, D, t1] s = .ok d s1) : callBody (cEnv (.int 1) A D t1 t2 r0) s = .ok (.nx (cEnv (.int 1) A D t1 t2 (.tup [.str "told", d]))) s1 := by
  have a := feq_f 1 0 (by decide)
  have b := f_t 1
  unfold callBody
  exact es_if_f (by array_mem_dec) (es_if_t (by array_mem_dec) (es_set (by sizeOf_list_dec)))
theorem cb2 (h : m_hinges_at [A, D] s = .ok d s1) : callBody (cEnv (.int 2) A D t1 t2 r0) s = .ok (.nx (cEnv (.int 2) A D t1 t2 (.tup [.str "told", d]))) s1 := by
  have a := feq_f 2 0 (by decide)
  have b := feq_f 2 1 (by decide)
  have c := f_t 2
  unfold callBody
  exact es_if_f (by array_mem_dec) (es_if_f (by array_mem_dec) (es_if_t (by array_mem_dec) (es_set (by sizeOf_list_dec))))
theorem cb3 (h : m_square_between [A, D, t1, t2] s = .ok d s1) : callBody (cEnv (.int 3) A D t1 t2 r0) s = .ok (.nx (cEnv (.int 3) A D t1 t2 (.tup [.str "told", d]))) s1 := by
  have a := feq_f 3 0 (by decide)
  have b := feq_f 3 1 (by decide)
  have c := feq_f 3 2 (by decide)
  unfold callBody
  exact es_if_f (by array_mem_dec) (es_if_f (by array_mem_dec) (es_if_f (by array_mem_dec) (es_set (by sizeOf_list_dec))))
theorem ce0 (h : m_place_at [A, D, t1] s = .err cl fs ρ' s1) : callBody (cEnv (.int 0) A D t1 t2 r0) s = .err cl fs (cEnv (.int 0) A D t1 t2 r0) s1 := by
  have a := f_t 0
  unfold callBody
  exact es_if_t (by array_mem_dec) (es_set_e (ev_tup_e (ev_cons_e2 ev_c (ev_cons_e1 (ev_call0_e (by sizeOf_list_dec) rfl h)))))
theorem ce1 (h : m_height_at [A, D, t1] s = .err cl fs ρ' s1) : callBody (cEnv (.int 1) A D t1 t2 r0) s = .err cl fs (cEnv (.int 1) A D t1 t2 r0) s1 := by
  have a := feq_f 1 0 (by decide)
  have b := f_t 1
  unfold callBody
  exact es_if_f (by array_mem_dec) (es_if_t (by array_mem_dec) (es_set_e (ev_tup_e (ev_cons_e2 ev_c (ev_cons_e1 (ev_call0_e (by sizeOf_list_dec) rfl h))))))
theorem ce2 (h : m_hinges_at [A, D] s = .err cl fs ρ' s1) : callBody (cEnv (.int 2) A D t1 t2 r0) s = .err cl fs (cEnv (.int 2) A D t1 t2 r0) s1 := by
  have a := feq_f 2 0 (by decide)
  have b := feq_f 2 1 (by decide)
  have c := f_t 2
  unfold callBody
  exact es_if_f (by array_mem_dec) (es_if_f (by array_mem_dec) (es_if_t (by array_mem_dec) (es_set_e (ev_tup_e (ev_cons_e2 ev_c (ev_cons_e1 (ev_call0_e (by sizeOf_list_dec) rfl h)))))))
theorem ce3 (h : m_square_between [A, D, t1, t2] s = .err cl fs ρ' s1) : callBody (cEnv (.int 3) A D t1 t2 r0) s = .err cl fs (cEnv (.int 3) A D t1 t2 r0) s1 := by
  have a := feq_f 3 0 (by decide)
  have b := feq_f 3 1 (by decide)
  have c := feq_f 3 2 (by decide)
  unfold callBody
  exact es_if_f (by array_mem_dec) (es_if_f (by array_mem_dec) (es_if_f (by array_mem_dec) (es_set_e (ev_tup_e (ev_cons_e2 ev_c (ev_cons_e1 (ev_call0_e (by sizeOf_list_dec) rfl h)))))))
end
section
variable {B : Bars} (ok : B.Ok) {P : Nat → Rat × Rat} (hP : Pz B.N P) {D : Dt} {it : Nat → Dt}
include ok hP
theorem called_wrong {w : Nat} (H : HandedW B.N w P D it) {a : Nat} (ha : a < 4) (t1 t2 : Dt) (s : Hd) : m__law_called [.int (a : Nat), B.arms, D, t1, t2] s = .ok (.tup [.str "pose", .int (w : Nat)]) s := by
  obtain ⟨_, e0⟩ := place_at_p ok hP H t1 s
  obtain ⟨_, e1⟩ := height_at_p ok hP H t1 s
  obtain ⟨_, e2⟩ := hinges_p ok hP H s
  obtain ⟨_, e3⟩ := square_p ok hP H t1 t2 s
  rcases (show a = 0 ∨ a = 1 ∨ a = 2 ∨ a = 3 by omega) with rfl | rfl | rfl | rfl
  · exact called_pose (ce0 e0)
  · exact called_pose (ce1 e1)
  · exact called_pose (ce2 e2)
  · exact called_pose (ce3 e3)
theorem called_bad (H : Handed B.N P D it) {a : Nat} (ha : a < 4) (h2 : a ≠ 2) {t1 t2 : Dt} (hb : Bad B t1) (s : Hd) : m__law_called [.int (a : Nat), B.arms, D, t1, t2] s = .ok (.tup [.str "place", .non]) s := by
  obtain ⟨_, e0⟩ := place_at_f ok hP H hb.mine s
  obtain ⟨_, e1⟩ := height_at_f ok hP H hb.mine s
  obtain ⟨_, e3⟩ := square_f ok hP H s (diff_f1 (d2 := t2) hb.mine s)
  rcases (show a = 0 ∨ a = 1 ∨ a = 3 by omega) with rfl | rfl | rfl
  · exact called_place (ce0 e0)
  · exact called_place (ce1 e1)
  · exact called_place (ce3 e3)
theorem called_bad2 (H : Handed B.N P D it) {t1 t2 : Dt} {b : Int} {q : Rat} (hg : Good B t1 b q) (hb : Bad B t2) (s : Hd) : m__law_called [.int 3, B.arms, D, t1, t2] s = .ok (.tup [.str "place", .non]) s := by
  have r := row_of_ok ok (n := 140) hg.h0 hg.h1 (by omega) hg.bd hg.f s
  obtain ⟨_, e3⟩ := square_f ok hP H s (diff_f2 s r hb.mine)
  exact called_place (ce3 e3)
end
end Law


set_option Elab.async false
set_option linter.all false
set_option maxRecDepth 100000
namespace Law
open PySem PySem.Spec PyProof.Rows L2 Mir
section
variable {B : Bars} (ok : B.Ok) {P : Nat → Rat × Rat} (hP : Pz B.N P) {D : Dt} {it : Nat → Dt}
include ok hP
theorem told0 (H : Handed B.N P D it) {t1 t2 : Dt} {b : Int} {q : Rat} (hg : Good B t1 b q) (s : Hd) : m__law_called [.int 0, B.arms, D, t1, t2] s = .ok (.tup [.str "told", spD B P b q]) s :=
  called_ok (cb0 (place_at_ok ok hP H hg.h0 hg.h1 (n := 140) (by omega) (by omega) hg.bd hg.f s))
theorem told1 (H : Handed B.N P D it) {t1 t2 : Dt} {b : Int} {q : Rat} (hg : Good B t1 b q) (s : Hd) : m__law_called [.int 1, B.arms, D, t1, t2] s = .ok (.tup [.str "told", dq (Y B P b q)]) s :=
  called_ok (cb1 (height_at_ok ok hP H hg.h0 hg.h1 (n := 140) (by omega) (by omega) hg.bd hg.f s))
theorem told2 (H : Handed B.N P D it) (t1 t2 : Dt) (s : Hd) : m__law_called [.int 2, B.arms, D, t1, t2] s = .ok (.tup [.str "told", .tup ((List.range B.n).map fun (i : Nat) => spD B P i 0)]) s :=
  called_ok (cb2 (hinges_ok ok hP H s))
theorem told3 (H : Handed B.N P D it) {t1 t2 : Dt} {b b2 : Int} {q q2 : Rat} (hg : Good B t1 b q) (hg2 : Good B t2 b2 q2) (s : Hd) : m__law_called [.int 3, B.arms, D, t1, t2] s = .ok (.tup [.str "told", dq (Sq B P b q b2 q2)]) s :=
  called_ok (cb3 (square_ok ok hP H hg.h0 hg.h1 hg2.h0 hg2.h1 hg.bd hg2.bd hg.f hg2.f s))
/-! what is due -/
theorem right0 {t1 t2 : Dt} {b : Int} {q : Rat} (hg : Good B t1 b q) (s : Hd) : m__law_right [.int 0, B.d, .tup (poseL B.N P), t1, t2, spD B P b q] s = .ok (.bl true) s := by
  have e1 := stand_ok ok hP hg.h0 hg.h1 hg.bd hg.f s
  have e2 : m__law_same_row [spD B P b q, spD B P b q] s = .ok (.bl true) s := same_row_ok _ _ s
  have a := f_t 0
  generalize spD B P b q = S at *
  refine es_def (ρ := [.dat (.int 0), .dat B.d, .dat (.tup (poseL B.N P)), .dat t1, .dat t2, .dat S, .no]) rfl ?_
  unfold b__law_right
  exact seq_rt (es_if_t (by array_mem_dec) (es_ret (by sizeOf_list_dec)))
theorem right1 {t1 t2 : Dt} {b : Int} {q : Rat} (hg : Good B t1 b q) (s : Hd) : m__law_right [.int 1, B.d, .tup (poseL B.N P), t1, t2, dq (Y B P b q)] s = .ok (.bl true) s := by
  have e1 := stand_ok ok hP hg.h0 hg.h1 hg.bd hg.f s
  have e2 := same_ok (Y B P b q) s
  have c : fIx (spD B P b q) (.int 1) = some (dq (Y B P b q)) := rfl
  have a := feq_f 1 0 (by decide)
  have a2 := f_t 1
  refine es_def (ρ := [.dat (.int 1), .dat B.d, .dat (.tup (poseL B.N P)), .dat t1, .dat t2, .dat (dq (Y B P b q)), .no]) rfl ?_
  unfold b__law_right
  refine es_seq (es_if_f (by array_mem_dec) es_next) ?_
  exact seq_rt (es_if_t (by array_mem_dec) (es_ret (by sizeOf_list_dec)))
omit hP in
theorem hinge_same (p : Nat → Rat) {i : Nat} (hi : i < B.n) : Sp B p 7 (i : Int) 0 = Sp B p 7 (B.h i) (B.m i) := by
  have h1 := ok.h1 i hi
  have n6 := ok.n6
  have f := Sp_fuel ok p 6 (B.h i) (B.m i) (by omega) (by omega)
  rw [f]
  show (if (i : Int) < 0 then _ else Sp B p 6 (B.h (i : Int).toNat) (B.m (i : Int).toNat) + 0 * p (B.l (i : Int).toNat)) = _
  rw [if_neg (by omega), Int.toNat_natCast]
  grind
theorem right2 (t1 t2 : Dt) (s : Hd) : m__law_right [.int 2, B.d, .tup (poseL B.N P), t1, t2, .tup ((List.range B.n).map fun (i : Nat) => spD B P i 0)] s = .ok (.bl true) s := by
  have n6 := ok.n6
  have sr : m__law_same_rows [.tup ((List.range B.n).map fun (i : Nat) => spD B P i 0), .tup ((List.range B.n).map fun (i : Nat) => spD B P i 0)] s = .ok (.bl true) s := same_rows_ok (by omega) (fun i => X B P i 0) (fun i => Y B P i 0) s
  have z : mSeqI (mVar 1) [.dat (.int 2), .dat B.d, .dat (.tup (poseL B.N P)), .dat t1, .dat t2, .dat (.tup ((List.range B.n).map fun (i : Nat) => spD B P i 0)), .no] s = .ok B.row s := ev_seqI (ev_var rfl) rfl
  have lc := ev_lc z (lc_map (g := gmName 6) (a := mCall 3 [] m__law_stand (mCons (mVar 1) (mCons (mVar 2) (mCons (mTup (mCons (mOp fIx (mVar 6) (mC (.int 0))) (mCons (mOp fIx (mVar 6) (mC (.int 1))) mNil))) mNil)))) (vs := [6]) (ρ := [.dat (.int 2), .dat B.d, .dat (.tup (poseL B.N P)), .dat t1, .dat t2, .dat (.tup ((List.range B.n).map fun (i : Nat) => spD B P i 0)), .no]) (s := s) B.bar (fun i => spD B P i 0) (List.range B.n) (by rw [List.length_range]; omega) fun i hi => ⟨_, rfl, by
    have hi := List.mem_range.1 hi
    have h0 := ok.h0 i hi
    have h1 := ok.h1 i hi
    have e1 := stand_ok ok hP (b := B.h i) (q := B.m i) h0 (by omega) ((ok.m i hi).mono (by decide)) (.inl rfl) s
    have es : spD B P (B.h i) (B.m i) = spD B P (i : Int) 0 := by
      unfold spD X Y
      rw [hinge_same ok _ hi, hinge_same ok _ hi]
    rw [es] at e1
    have i0 : fIx (B.bar i) (.int 0) = some (.int (B.h i)) := rfl
    have i1 : fIx (B.bar i) (.int 1) = some (dq (B.m i)) := rfl
    sizeOf_list_dec⟩)
  have a := feq_f 2 0 (by decide)
  have a2 := feq_f 2 1 (by decide)
  have a3 := f_t 2
  generalize (List.range B.n).map (fun (i : Nat) => spD B P i 0) = L at *
  have tc : fTupC [.lst L] = some (.tup L) := rfl
  refine es_def (ρ := [.dat (.int 2), .dat B.d, .dat (.tup (poseL B.N P)), .dat t1, .dat t2, .dat (.tup L), .no]) rfl ?_
  unfold b__law_right
  refine es_seq (es_if_f (by array_mem_dec) es_next) ?_
  refine es_seq (es_if_f (by array_mem_dec) es_next) ?_
  exact seq_rt (es_if_t (by array_mem_dec) (es_ret (by sizeOf_list_dec)))
theorem right3 {t1 t2 : Dt} {b b2 : Int} {q q2 : Rat} (hg : Good B t1 b q) (hg2 : Good B t2 b2 q2) (s : Hd) : m__law_right [.int 3, B.d, .tup (poseL B.N P), t1, t2, dq (Sq B P b q b2 q2)] s = .ok (.bl true) s := by
  have e1 := gap_ok ok hP hg.h0 hg.h1 hg2.h0 hg2.h1 hg.bd hg2.bd hg.f hg2.f s
  have e2 := lsquare_ok ok hP hg.h1 hg2.h1 hg.bd hg2.bd s
  have e3 := same_ok (Sq B P b q b2 q2) s
  generalize Sq B P b q b2 q2 = S at *
  generalize Dt.tup [dq (X B P b q - X B P b2 q2), dq (Y B P b q - Y B P b2 q2)] = G at *
  have a := feq_f 3 0 (by decide)
  have a2 := feq_f 3 1 (by decide)
  have a3 := feq_f 3 2 (by decide)
  refine es_def (ρ := [.dat (.int 3), .dat B.d, .dat (.tup (poseL B.N P)), .dat t1, .dat t2, .dat (dq S), .no]) rfl ?_
  unfold b__law_right
  refine es_seq (es_if_f (by array_mem_dec) es_next) ?_
  refine es_seq (es_if_f (by array_mem_dec) es_next) ?_
  refine es_seq (es_if_f (by array_mem_dec) es_next) ?_
  exact es_ret (by sizeOf_list_dec)
end
end Law


set_option Elab.async false
set_option linter.all false
set_option maxRecDepth 100000
namespace Law
open PySem PySem.Spec PyProof.Rows L2 Mir
def wrongB : MS := (mSeq (mSet 8 (mCall 2 [] m__law_take (mCons (mVar 0) (mCons (mCB fLen (mCons (mVar 3) mNil)) mNil))))
    (mSetI 9 (mVar 8) (mOp fIx (mLst (mCons (mTup (mCons (mTup (mCons (mC (.int 1)) (mCons (mC (.int 1)) mNil))) (mCons (mTup (mCons (mC (.int 1)) (mCons (mC (.int 1)) mNil))) mNil))) (mCons (mC .non) (mCons (mTup (mCons (mTup (mCons (mC (.int 0)) (mCons (mC (.int 1)) mNil))) mNil)) (mCons (mTup (mCons (mTup (mCons (mC (.int 1)) (mCons (mC (.int 2)) mNil))) (mCons (mTup (mCons (mC (.int 1)) (mCons (mC (.int 2)) mNil))) mNil))) mNil))))) (mCall 2 [] m__law_take (mCons (mVar 0) (mCons (mC (.int 4)) mNil))))))
def actBody : MS := (mSeq (mSet 13 (mBor 9 (mCall 5 [] m__law_called (mCons (mVar 12) (mCons (mVar 2) (mCons (mVar 9) (mCons (mVar 4) (mCons (mVar 5) mNil))))))))
    (mIfS (mTest (mOp fGe (mVar 8) (mC (.int 0)))) (mIfS (mTest (mOp fNe (mVar 13) (mTup (mCons (mC (.str "pose")) (mCons (mVar 8) mNil))))) (mRet (mC (.bl false))) mNext) (mIfS (mAnd (mTest (mOp fNe (mVar 12) (mC (.int 2)))) (mOr (mNot (mTru (mVar 6))) (mAnd (mTest (mOp fEq (mVar 12) (mC (.int 3)))) (mNot (mTru (mVar 7)))))) (mIfS (mTest (mOp fNe (mOp fIx (mVar 13) (mC (.int 0))) (mC (.str "place")))) (mRet (mC (.bl false))) mNext) (mIfS (mOr (mTest (mOp fNe (mOp fIx (mVar 13) (mC (.int 0))) (mC (.str "told")))) (mNot (mTru (mCall 6 [] m__law_right (mCons (mVar 12) (mCons (mVar 1) (mCons (mVar 3) (mCons (mVar 4) (mCons (mVar 5) (mCons (mOp fIx (mVar 13) (mC (.int 1))) mNil)))))))))) (mRet (mC (.bl false))) mNext))))
def restB : MS := (mSeq (mSet 11 (mBor 9 (mCB fRepr (mCons (mLst (mCons (mVar 9) (mCons (mVar 4) (mCons (mVar 5) mNil)))) mNil))))
    (mSeq (mFor (gmName 12) (mRng1 (mC (.int 4)))
      actBody)
    (mFrz [9] (mRet (mOp fEq (mCB fRepr (mCons (mLst (mCons (mVar 9) (mCons (mVar 4) (mCons (mVar 5) mNil)))) mNil)) (mVar 11))))))
theorem ev_bor_dat {i : Nat} {a : ME} {ρ : Env'} {s s1 : Hd} {d r : Dt} (h : ρ[i]? = some (.dat d)) (h2 : a ρ s = .ok r s1) : mBor i a ρ s = .ok r s1 := by
  unfold mBor
  rw [h]
  exact h2
/-- the wrong items -/
theorem pick_wrong (v : Int) (g0 : 0 ≤ v) (g1 : v < 4) : ∃ W, fIx (.lst [.tup [.tup [.int 1, .int 1], .tup [.int 1, .int 1]], .non, .tup [.tup [.int 0, .int 1]], .tup [.tup [.int 1, .int 2], .tup [.int 1, .int 2]]]) (.int v) = some W ∧ Rp 2 2436 W ∧ ∀ s, m_is_direction [W] s = .ok (.bl false) s := by
  have hu : v = 0 ∨ v = 1 ∨ v = 2 ∨ v = 3 := by omega
  have b1 : Bd 150 (1 : Rat) := bd1.mono (by decide)
  have b0 : Bd 150 (0 : Rat) := bd0.mono (by decide)
  have e2 : dq ((1 : Rat) / 2) = .tup [.int 1, .int 2] := by
    have a : ((1 : Rat) / 2).num = 1 := by decide +kernel
    have b : ((1 : Rat) / 2).den = 2 := by decide +kernel
    show rat _ _ = _
    rw [a, b]
    rfl
  have b2 : Bd 52 ((1 : Rat) / 2) := by
    have a : ((1 : Rat) / 2).num = 1 := by decide +kernel
    have b : ((1 : Rat) / 2).den = 2 := by decide +kernel
    refine ⟨?_, ?_⟩
    · rw [a]; unfold Sz; decide
    · rw [b]; unfold Sz; decide
  rcases hu with rfl | rfl | rfl | rfl
  · refine ⟨_, rfl, rp_two (n := 1) (w := 608) false (rp_q b1) (rp_q b1), fun s => ?_⟩
    have e := isdir_q (d := .tup [dq 1, dq 1]) (.inl rfl) (bd1.mono (by decide)) (bd1.mono (by decide)) s
    rw [decide_eq_false (by grind)] at e
    exact e
  · exact ⟨_, rfl, rp_non.mono (by decide) (by decide), fun s => isdir_row (fun s => row_f isi2_non s) s⟩
  · exact ⟨_, rfl, rp_single (n := 1) (w := 608) false (rp_q b0), fun s => isdir_row (fun s => row_len (by simp) s) s⟩
  · refine ⟨_, rfl, ?_, fun s => ?_⟩
    · rw [← e2]
      exact rp_two (n := 1) (w := 608) false (rp_q (b2.mono (by decide))) (rp_q (b2.mono (by decide)))
    · rw [← e2]
      have e := isdir_q (d := .tup [dq ((1 : Rat) / 2), dq ((1 : Rat) / 2)]) (.inl rfl) b2 b2 s
      rw [decide_eq_false (by grind)] at e
      exact e
abbrev aEnv (B : Bars) (P : Nat → Rat × Rat) (t1 t2 : Dt) (g1 g2 : Bool) (wr : Int) (x9 x10 x11 x12 x13 : Sl) : Env' := [.dat .hnd, .dat B.d, .dat B.arms, .dat (.tup (poseL B.N P)), .dat t1, .dat t2, .dat (.bl g1), .dat (.bl g2), .dat (.int wr), x9, x10, x11, x12, x13]
theorem fge0_t {i : Int} (h : 0 ≤ i) : fGe (.int i) (.int 0) = some (.bl true) := by simp [fI, h]
theorem fge0_f {i : Int} (h : ¬ 0 ≤ i) : fGe (.int i) (.int 0) = some (.bl false) := by simp [fI, h]
theorem fne_i (i j : Int) (h : i ≠ j) : fNe (.int i) (.int j) = some (.bl true) := by simp [fNe, eq_int, h]
theorem fne_s (i : Int) : fNe (.int i) (.int i) = some (.bl false) := by simp [fNe, eq_int]
section
variable {B : Bars} (ok : B.Ok) {P : Nat → Rat × Rat} (hP : Pz B.N P) {D : Dt} {it : Nat → Dt} {t1 t2 : Dt}
include ok hP
theorem act_wrong {w : Nat} (H : HandedW B.N w P D it) {a : Nat} (ha : a < 4) (g1 g2 : Bool) (x10 x11 x13 : Sl) (s : Hd) : ∃ y13 : Sl, actBody (aEnv B P t1 t2 g1 g2 w (.dat D) x10 x11 (.dat (.int (a : Nat))) x13) s = .ok (.nx (aEnv B P t1 t2 g1 g2 w (.dat D) x10 x11 (.dat (.int (a : Nat))) y13)) s := by
  have e := called_wrong ok hP H ha t1 t2 s
  have g := fge0_t (i := (w : Int)) (by omega)
  have n : fNe (.tup [.str "pose", .int (w : Nat)]) (.tup [.str "pose", .int (w : Nat)]) = some (.bl false) := ne_self 2 (by decide) (by
    have c : PyData.canLay0 (.str "pose") = true := by decide +kernel
    simp only [plD, List.all_cons, List.all_nil, Bool.and_true, c])
  refine ⟨.dat (.tup [.str "pose", .int (w : Nat)]), ?_⟩
  unfold actBody
  refine es_seq (es_set (ev_bor_dat (d := D) rfl (by sizeOf_list_dec))) ?_
  refine es_if_t (by array_mem_dec) ?_
  exact es_if_f (by array_mem_dec) es_next
omit ok hP in
theorem ne_place0 : fNe (.str "place") (.str "place") = some (.bl false) := ne_self 1 (by decide) (by decide +kernel)
omit ok hP in
theorem ne_told : fNe (.str "told") (.str "told") = some (.bl false) := ne_self 1 (by decide) (by decide +kernel)
def condT : MT := mAnd (mTest (mOp fNe (mVar 12) (mC (.int 2)))) (mOr (mNot (mTru (mVar 6))) (mAnd (mTest (mOp fEq (mVar 12) (mC (.int 3)))) (mNot (mTru (mVar 7)))))
variable {g1 g2 : Bool} {x10 x11 x13 : Sl} {s : Hd}
omit ok hP in
theorem act_told {x : Int} {r : Dt} (e : m__law_called [.int x, B.arms, D, t1, t2] s = .ok (.tup [.str "told", r]) s) (rt : m__law_right [.int x, B.d, .tup (poseL B.N P), t1, t2, r] s = .ok (.bl true) s)
    (c : condT (aEnv B P t1 t2 g1 g2 (-1) (.dat D) x10 x11 (.dat (.int x)) (.dat (.tup [.str "told", r]))) s = .ok false s) : ∃ y13 : Sl, actBody (aEnv B P t1 t2 g1 g2 (-1) (.dat D) x10 x11 (.dat (.int x)) x13) s = .ok (.nx (aEnv B P t1 t2 g1 g2 (-1) (.dat D) x10 x11 (.dat (.int x)) y13)) s := by
  have g := fge0_f (i := -1) (by decide)
  have n := ne_told
  have i0 : fIx (.tup [.str "told", r]) (.int 0) = some (.str "told") := rfl
  have i1 : fIx (.tup [.str "told", r]) (.int 1) = some r := rfl
  have tt : fTru (.bl true) = some true := rfl
  refine ⟨.dat (.tup [.str "told", r]), ?_⟩
  unfold actBody
  refine es_seq (es_set (ev_bor_dat (d := D) rfl (by sizeOf_list_dec))) ?_
  refine es_if_f (by array_mem_dec) ?_
  refine es_if_f c ?_
  exact es_if_f (ev_or_f (by array_mem_dec) (by array_mem_dec)) es_next
omit ok hP in
theorem act_placed {x : Int} (e : m__law_called [.int x, B.arms, D, t1, t2] s = .ok (.tup [.str "place", .non]) s)
    (c : condT (aEnv B P t1 t2 g1 g2 (-1) (.dat D) x10 x11 (.dat (.int x)) (.dat (.tup [.str "place", .non]))) s = .ok true s) : ∃ y13 : Sl, actBody (aEnv B P t1 t2 g1 g2 (-1) (.dat D) x10 x11 (.dat (.int x)) x13) s = .ok (.nx (aEnv B P t1 t2 g1 g2 (-1) (.dat D) x10 x11 (.dat (.int x)) y13)) s := by
  have g := fge0_f (i := -1) (by decide)
  have n := ne_place0
  have i0 : fIx (.tup [.str "place", .non]) (.int 0) = some (.str "place") := rfl
  refine ⟨.dat (.tup [.str "place", .non]), ?_⟩
  unfold actBody
  refine es_seq (es_set (ev_bor_dat (d := D) rfl (by sizeOf_list_dec))) ?_
  refine es_if_f (by array_mem_dec) ?_
  refine es_if_t c ?_
  exact es_if_f (by array_mem_dec) es_next
/-- whether a thing is a place -/
def Cl (B : Bars) (t : Dt) (g : Bool) : Prop := (g = true ∧ ∃ b q, Good B t b q) ∨ (g = false ∧ Bad B t)
theorem act_right (H : Handed B.N P D it) (c1 : Cl B t1 g1) (c2 : Cl B t2 g2) {a : Nat} (ha : a < 4) (x10 x11 x13 : Sl) (s : Hd) : ∃ y13 : Sl, actBody (aEnv B P t1 t2 g1 g2 (-1) (.dat D) x10 x11 (.dat (.int (a : Nat))) x13) s = .ok (.nx (aEnv B P t1 t2 g1 g2 (-1) (.dat D) x10 x11 (.dat (.int (a : Nat))) y13)) s := by
  have n02 := fne_i 0 2 (by decide)
  have n12 := fne_i 1 2 (by decide)
  have n32 := fne_i 3 2 (by decide)
  have n22 := fne_s 2
  have q03 := feq_f 0 3 (by decide)
  have q13 := feq_f 1 3 (by decide)
  have q33 := f_t 3
  have tt : fTru (.bl true) = some true := rfl
  have tf : fTru (.bl false) = some false := rfl
  rcases (show a = 0 ∨ a = 1 ∨ a = 2 ∨ a = 3 by omega) with rfl | rfl | rfl | rfl
  · rcases c1 with ⟨rfl, b, q, h1⟩ | ⟨rfl, h1⟩
    · exact act_told (told0 ok hP H h1 s) (right0 ok hP h1 s) (ev_and_t (by array_mem_dec) (ev_or_f (by array_mem_dec) (ev_and_f (by array_mem_dec))))
    · exact act_placed (called_bad ok hP H (a := 0) (by decide) (by decide) h1 s) (ev_and_t (by array_mem_dec) (ev_or_t (by array_mem_dec)))
  · rcases c1 with ⟨rfl, b, q, h1⟩ | ⟨rfl, h1⟩
    · exact act_told (told1 ok hP H h1 s) (right1 ok hP h1 s) (ev_and_t (by array_mem_dec) (ev_or_f (by array_mem_dec) (ev_and_f (by array_mem_dec))))
    · exact act_placed (called_bad ok hP H (a := 1) (by decide) (by decide) h1 s) (ev_and_t (by array_mem_dec) (ev_or_t (by array_mem_dec)))
  · exact act_told (told2 ok hP H t1 t2 s) (right2 ok hP t1 t2 s) (ev_and_f (by array_mem_dec))
  · rcases c1 with ⟨rfl, b, q, h1⟩ | ⟨rfl, h1⟩
    · rcases c2 with ⟨rfl, b2, q2, h2⟩ | ⟨rfl, h2⟩
      · exact act_told (told3 ok hP H h1 h2 s) (right3 ok hP h1 h2 s) (ev_and_t (by array_mem_dec) (ev_or_f (by array_mem_dec) (ev_and_t (by array_mem_dec) (by array_mem_dec))))
      · exact act_placed (called_bad2 ok hP H h1 h2 s) (ev_and_t (by array_mem_dec) (ev_or_f (by array_mem_dec) (ev_and_t (by array_mem_dec) (by array_mem_dec))))
    · exact act_placed (called_bad ok hP H (a := 3) (by decide) (by decide) h1 s) (ev_and_t (by array_mem_dec) (ev_or_t (by array_mem_dec)))
omit ok hP in
theorem rest_ok {wr : Int} (hD : Rp 3 9748 D) (h1 : Rp 3 9748 t1) (h2 : Rp 3 9748 t2) (x10 : Sl) (s : Hd)
    (act : ∀ (a : Nat) (x11 x13 : Sl) (s : Hd), a < 4 → ∃ y13 : Sl, actBody (aEnv B P t1 t2 g1 g2 wr (.dat D) x10 x11 (.dat (.int (a : Nat))) x13) s = .ok (.nx (aEnv B P t1 t2 g1 g2 wr (.dat D) x10 x11 (.dat (.int (a : Nat))) y13)) s) :
    restB (aEnv B P t1 t2 g1 g2 wr (.dat D) x10 .no .no .no) s = .ok (.rt (.bl true)) s := by
  obtain ⟨x, e1, e2⟩ := repr_ok hD h1 h2
  obtain ⟨ρ', s', hl, y12, y13, rfl, rfl⟩ := for_range (g := gmName 12) (body := actBody) (ρ := aEnv B P t1 t2 g1 g2 wr (.dat D) x10 (.dat (.str x)) .no .no) (s := s) (fun (i : Nat) => .int (0 + (i : Int))) (fun i ρ s1 => ∃ (y12 y13 : Sl), ρ = aEnv B P t1 t2 g1 g2 wr (.dat D) x10 (.dat (.str x)) y12 y13 ∧ s1 = s) 4 ⟨.no, .no, rfl, rfl⟩ (fun i ρ s1 hi hI => by
    obtain ⟨y12, y13, rfl, rfl⟩ := hI
    obtain ⟨z13, e⟩ := act i (.dat (.str x)) y13 s1 hi
    rw [Int.zero_add]
    exact ⟨_, _, s1, rfl, e, _, _, rfl, rfl⟩)
  have rg : mRng1 (mC (.int 4)) (aEnv B P t1 t2 g1 g2 wr (.dat D) x10 (.dat (.str x)) .no .no) s' = .ok (rangeD 0 4) s' := rng1_of (i := 4) 4 ev_c (by decide) (by omega)
  unfold restB
  refine es_seq (es_set (ev_bor_dat (d := D) rfl (by sizeOf_list_dec))) ?_
  refine es_seq (es_for (b1 := actBody) rg hl) ?_
  exact es_frz (is := [9]) rfl (es_ret (by sizeOf_list_dec))
end
end Law


set_option Elab.async false
set_option linter.all false
set_option maxRecDepth 100000
namespace Law
open PySem PySem.Spec PyProof.Rows L2 Mir
theorem many_n {n : Nat} (h1 : 1 ≤ n) (h2 : n ≤ 100) : manyOk (n : Int) := ⟨by omega, by
  have : (n : Int).natAbs < 2 ^ 7 := by omega
  have := PySem.Flt.log2_lt_of (Nat.succ_pos 6) this
  omega⟩
theorem fLen_sq (k : Bool) (l : List Dt) : seqD (sq k l) = some l := by cases k <;> rfl
theorem i2_sq (k : Bool) (l : List Dt) : fIsi2 "list" "tuple" (sq k l) = some true := by
  cases k
  · exact i2_tup l
  · exact i2_lst l
section
variable {B : Bars} (ok : B.Ok) {P : Nat → Rat × Rat} (hP : Pz B.N P) {D : Dt} {it : Nat → Dt} {t1 t2 : Dt}
include ok hP
omit ok in
theorem forms_ok (ρ : Env') (h0 : ρ[0]? = some (.dat .hnd)) (hl : 11 ≤ ρ.length) (h4 : B.N ≤ 4) (s : Hd) : ∃ (it : Nat → Dt) (s' : Hd), loopC (gmName 10) mYes (mCall 2 [] m__law_form (mCons (mVar 0) (mCons (mVar 10) mNil))) [10] (poseL B.N P) [] ρ s = .ok (.lst (fD (fun d => d) B.N it)) s' ∧ ∀ i, i < B.N → ∃ k, it i = sq k [dq (P (i + 1)).1, dq (P (i + 1)).2] := by
  obtain ⟨ds, s', e, hl2, hp⟩ := lc_hand (g := gmName 10) (a := mCall 2 [] m__law_form (mCons (mVar 0) (mCons (mVar 10) mNil))) (vs := [10]) (ρ := ρ) (fun (i : Nat) => dirD (P (i + 1))) (fun i d => ∃ k, d = sq k [dq (P (i + 1)).1, dq (P (i + 1)).2]) (List.range B.N) [] s (by simp; omega) fun i hi s => by
    obtain ⟨k, s1, e1⟩ := form_ok (dirD (P (i + 1))) [dq (P (i + 1)).1, dq (P (i + 1)).2] rfl s
    refine ⟨(wipeE ρ [10]).set 10 (.dat (dirD (P (i + 1)))), _, s1, ?_, ev_call0 (ev_cons (ev_var ?_) (ev_cons (ev_var ?_) ev_nil)) rfl e1, k, rfl⟩
    · rfl
    · show (((ρ.set 10 .no)).set 10 _)[0]? = _
      rw [List.getElem?_set_ne (by decide), List.getElem?_set_ne (by decide), h0]
    · show (((ρ.set 10 .no)).set 10 _)[10]? = _
      rw [List.getElem?_set_self (by rw [List.length_set]; omega)]
  rw [List.length_range] at hl2
  haveI : Inhabited Dt := ⟨.non⟩
  obtain ⟨f, e2, hf⟩ := fD_of (g := fun d : Dt => d) (P := fun i d => ∃ k, d = sq k [dq (P (i + 1)).1, dq (P (i + 1)).2]) hl2 fun i hi => by
    have hi2 : i < ds.length := by omega
    exact ⟨ds[i], by rw [List.getElem?_eq_getElem hi2], hp i i ds[i] (List.getElem?_range hi) (List.getElem?_eq_getElem hi2)⟩
  refine ⟨f, s', ?_, hf⟩
  rw [List.nil_append, e2] at e
  exact e
theorem rp_items {it : Nat → Dt} {k : Bool} (h : ∀ i, i < B.N → Rp 2 2436 (it i)) : Rp 3 9748 (sq k (fD (fun d => d) B.N it)) := by
  have N4 := ok.N4
  refine rp_sq (n := 2) (w := 2436) k (fun d hd => ?_) (by rw [fD_len]; omega)
  obtain ⟨i, hi, rfl⟩ := List.mem_map.1 hd
  exact h i (List.mem_range.1 hi)
theorem rp_dir {k : Bool} (i : Nat) : Rp 2 2436 (sq k [dq (P (i + 1)).1, dq (P (i + 1)).2]) := rp_two (n := 1) (w := 608) k (rp_q ((hP.b1 _).mono (by decide))) (rp_q ((hP.b2 _).mono (by decide)))
theorem cl_of {t : Dt} (h : Th B t) : ∃ g, Cl B t g ∧ ∀ s, m__law_is_place [t, .int B.n] s = .ok (.bl g) s := by
  rcases h.cl with ⟨b, q, g⟩ | b
  · exact ⟨true, .inl ⟨rfl, b, q, g⟩, good_is g⟩
  · exact ⟨false, .inr ⟨rfl, b⟩, b.laws⟩
theorem asked_ok (h1 : Th B t1) (h2 : Th B t2) (s : Hd) : ∃ s' : Hd, m__law_asked [.hnd, B.d, B.arms, .tup (poseL B.N P), t1, t2] s = .ok (.bl true) s' := by
  have N4 := ok.N4
  have N1 := ok.N1
  obtain ⟨g1, c1, p1⟩ := cl_of ok hP h1
  obtain ⟨g2, c2, p2⟩ := cl_of ok hP h2
  have e4 := fLen_d B
  have q1 := p1 s
  have q2 := p2 s
  obtain ⟨it, s1, lc, hf⟩ := forms_ok (hP := hP) (aEnv B P t1 t2 g1 g2 (-1) .no .no .no .no .no) rfl (by simp) N4 s
  have z : mSeqI (mVar 3) (aEnv B P t1 t2 g1 g2 (-1) .no .no .no .no .no) s = .ok (poseL B.N P) s := ev_seqI (ev_var rfl) rfl
  have own := toL_of (ev_lc z lc)
  have t := take_ok s1 (n := 6) (by decide)
  generalize takeV s1 6 = v at *
  generalize takeS s1 6 = s2 at *
  have lp : fLen [.tup (poseL B.N P)] = some (.int B.N) := by
    show some (Dt.int ((poseL B.N P).length : Int)) = _
    unfold poseL
    rw [fD_len]
  by_cases c : v = 0
  · have f := feq_t v 0 c
    have mk := many_n (n := B.N) N1 (by omega)
    have t2' := take_ok s2 mk
    have b0 := takeV_ge (s := s2) (n := (B.N : Int)) (by omega)
    have b1 := takeV_lt (s := s2) (n := (B.N : Int)) (by omega)
    generalize takeV s2 (B.N : Int) = u at *
    generalize takeS s2 (B.N : Int) = s3 at *
    obtain ⟨w, rfl⟩ : ∃ w : Nat, u = w := ⟨u.toNat, by omega⟩
    have hw : w < B.N := by omega
    have t3 := take_ok s3 (n := 4) (by decide)
    have b2 := takeV_ge (s := s3) (n := 4) (by decide)
    have b3 := takeV_lt (s := s3) (n := 4) (by decide)
    generalize takeV s3 4 = v4 at *
    generalize takeS s3 4 = s4 at *
    obtain ⟨W, ew, rw', bw⟩ := pick_wrong v4 b2 b3
    have ix : ixN (fD (fun d : Dt => d) B.N it).length (w : Int) = some w := by
      unfold ixN
      rw [if_pos (by omega), fD_len, if_pos (by omega)]
      rfl
    have es : (fD (fun d : Dt => d) B.N it).set w W = fD (fun d : Dt => d) B.N (fun j => if j = w then W else it j) := fD_set (g := fun d : Dt => d) (a := W) hw
    obtain ⟨k, s5, ef⟩ := form_ok (.lst (fD (fun d : Dt => d) B.N (fun j => if j = w then W else it j))) _ rfl s4
    have H : HandedW B.N w P (sq k (fD (fun d : Dt => d) B.N (fun j => if j = w then W else it j))) (fun j => if j = w then W else it j) := by
      refine ⟨i2_sq _ _, fLen_sq _ _, hw, fun i hi => ?_, fun s => ?_⟩
      · obtain ⟨k, e⟩ := hf i (by omega)
        simp only [if_neg (show ¬ i = w by omega)]
        rw [e]
        exact sq_cases k _
      · simp only [if_pos]
        exact bw s
    have rd : Rp 3 9748 (sq k (fD (fun d : Dt => d) B.N (fun j => if j = w then W else it j))) := rp_items ok hP fun i hi => by
      by_cases c : i = w
      · simp only [if_pos c]
        exact rw'
      · simp only [if_neg c]
        obtain ⟨k, e⟩ := hf i hi
        rw [e]
        exact rp_dir ok hP i
    have r := rest_ok (P := P) (g1 := g1) (g2 := g2) (wr := w) rd h1.rp h2.rp .no s5 fun a x11 x13 s ha => act_wrong ok hP H ha g1 g2 .no x11 x13 s
    generalize sq k (fD (fun d : Dt => d) B.N (fun j => if j = w then W else it j)) = D at *
    generalize fD (fun d : Dt => d) B.N (fun j => if j = w then W else it j) = L2 at *
    refine ⟨s5, ?_⟩
    refine es_def (ρ := [.dat .hnd, .dat B.d, .dat B.arms, .dat (.tup (poseL B.N P)), .dat t1, .dat t2, .no, .no, .no, .no, .no, .no, .no, .no]) rfl ?_
    unfold b__law_asked
    refine es_seq (es_set (by sizeOf_list_dec)) ?_
    refine es_seq (es_set (by sizeOf_list_dec)) ?_
    refine es_seq (ρ1 := aEnv B P t1 t2 g1 g2 (-1) .no .no .no .no .no) (s1 := s) (es_set (by sizeOf_list_dec)) ?_
    refine es_seq (es_setO own) ?_
    refine es_seq (ρ1 := aEnv B P t1 t2 g1 g2 w (.own L2) .no .no .no .no) (s1 := s4) ?_ ?_
    · refine es_if_t (by array_mem_dec) ?_
      refine es_seq (es_set (by sizeOf_list_dec)) ?_
      refine (es_setI (d := W) (k := w) (by sizeOf_list_dec) rfl (ev_var rfl) ix).trans ?_
      rw [es]
      rfl
    · refine es_seq (ρ1 := aEnv B P t1 t2 g1 g2 w (.dat D) .no .no .no .no) (s1 := s5) (es_frz (is := [9]) (ρ1 := aEnv B P t1 t2 g1 g2 w (.dat (.lst L2)) .no .no .no .no) rfl (es_set (by sizeOf_list_dec))) ?_
      exact r
  · have f := feq_f v 0 c
    obtain ⟨k, s5, ef⟩ := form_ok (.lst (fD (fun d : Dt => d) B.N it)) _ rfl s2
    have H : Handed B.N P (sq k (fD (fun d : Dt => d) B.N it)) it := by
      refine ⟨i2_sq _ _, fLen_sq _ _, fun i hi => ?_⟩
      obtain ⟨k, e⟩ := hf i hi
      rw [e]
      exact sq_cases k _
    have rd : Rp 3 9748 (sq k (fD (fun d : Dt => d) B.N it)) := rp_items ok hP fun i hi => by
      obtain ⟨k, e⟩ := hf i hi
      rw [e]
      exact rp_dir ok hP i
    have r := rest_ok (P := P) (g1 := g1) (g2 := g2) (wr := -1) rd h1.rp h2.rp .no s5 fun a x11 x13 s ha => act_right ok hP H c1 c2 ha .no x11 x13 s
    generalize sq k (fD (fun d : Dt => d) B.N it) = D at *
    generalize fD (fun d : Dt => d) B.N it = L2 at *
    refine ⟨s5, ?_⟩
    refine es_def (ρ := [.dat .hnd, .dat B.d, .dat B.arms, .dat (.tup (poseL B.N P)), .dat t1, .dat t2, .no, .no, .no, .no, .no, .no, .no, .no]) rfl ?_
    unfold b__law_asked
    refine es_seq (es_set (by sizeOf_list_dec)) ?_
    refine es_seq (es_set (by sizeOf_list_dec)) ?_
    refine es_seq (ρ1 := aEnv B P t1 t2 g1 g2 (-1) .no .no .no .no .no) (s1 := s) (es_set (by sizeOf_list_dec)) ?_
    refine es_seq (es_setO own) ?_
    refine es_seq (ρ1 := aEnv B P t1 t2 g1 g2 (-1) (.own L2) .no .no .no .no) (s1 := s2) ?_ ?_
    · exact es_if_f (by array_mem_dec) es_next
    · refine es_seq (ρ1 := aEnv B P t1 t2 g1 g2 (-1) (.dat D) .no .no .no .no) (s1 := s5) (es_frz (is := [9]) (ρ1 := aEnv B P t1 t2 g1 g2 (-1) (.dat (.lst L2)) .no .no .no .no) rfl (es_set (by sizeOf_list_dec))) ?_
      exact r
end
end Law


set_option Elab.async false
set_option linter.all false
set_option maxRecDepth 100000
namespace Law
open PySem PySem.Spec PyProof.Rows L2 Mir
theorem row_ok {d : Dt} {ds : List Dt} {lo hi : Int} (hd : fIsi2 "list" "tuple" d = some true) (hs : seqD d = some ds) (h1 : lo ≤ ds.length) (h2 : ds.length ≤ hi) (s : Hd) : m_is_row [d, .int lo, .int hi] s = .ok (.bl true) s := by
  refine es_def (ρ := [.dat d, .dat (.int lo), .dat (.int hi)]) rfl ?_
  unfold b_is_row
  have l : fLen [d] = some (.int ds.length) := by
    cases d <;> simp_all [seqD, fLen]
  have e1 : fGe (.int ds.length) (.int lo) = some (.bl true) := by simp [fI, h1]
  have e2 : fLe (.int ds.length) (.int hi) = some (.bl true) := by simp [fI, h2]
  refine es_seq (es_if_f (ev_not_f (ev_tru (ev_isi2 (ev_var rfl) hd) rfl)) es_next) (es_ret ?_)
  exact ev_andv_t (d := .bl true) (by sizeOf_list_dec) rfl (ev_orv_f (d := .bl false) (ev_op (ev_var rfl) ev_c rfl) rfl (by sizeOf_list_dec))
theorem toPyA_ints : ∀ l : List Int, toPyA (l.map Dt.int) = some (l.map PyData.int)
  | [] => rfl
  | i :: l => by
    rw [List.map_cons]
    unfold toPyA
    rw [toPyA_ints l]
    rfl
theorem in_ints {k : Int} {l : List Int} (h : k ∈ l) : fIn (.int k) (.lst (l.map Dt.int)) = some (.bl true) := by
  have e : pyOk (.lst (l.map Dt.int)) = some (.list (l.map PyData.int)) := by
    unfold pyOk
    have t : toPy (.lst (l.map Dt.int)) = some (.list (l.map PyData.int)) := by
      show (toPyA (l.map Dt.int)).map PyData.list = _
      rw [toPyA_ints]
      rfl
    rw [t]
    simp [PySem.W.ke_shaped_ints]
  have a : ((l.map PyData.int).any fun z => PyData.eqv z (.int k)) = true := by
    rw [List.any_eq_true]
    exact ⟨.int k, List.mem_map.2 ⟨k, h, rfl⟩, by simp [PyData.eqv]⟩
  have b : fInB (.int k) (.lst (l.map Dt.int)) = some true := by
    unfold fInB
    simp only [py_int, e, Option.bind_some, a]
  unfold fIn
  rw [b]
  rfl
section
variable {B : Bars} (ok : B.Ok)
include ok
theorem check_bar_ok {i : Nat} (hi : i < B.n) (s : Hd) : m__check_bar [.int i, B.bar i] s = .ok .non s := by
  have e1 : m_is_row [B.bar i, .int 3, .int 3] s = .ok (.bl true) s := row_ok (ds := [.int (B.h i), dq (B.m i), .int (B.l i : Nat)]) (i2_tup _) rfl (by simp) (by simp) s
  have h0 := ok.h0 i hi
  have h1 := ok.h1 i hi
  have hl := ok.l i hi
  have N4 := ok.N4
  have e2 : m_is_whole [.int (B.h i), .int (-1), .int ((i : Int) - 1)] s = .ok (.bl true) s := by
    rw [is_whole_both, decide_eq_true h0, decide_eq_true (show B.h i ≤ (i : Int) - 1 by omega)]; rfl
  have e3 : m_is_ratio [dq (B.m i)] s = .ok (.bl true) s := isr_q s
  have e4 : m_is_whole [.int (B.l i : Nat), .int 0, .int 4] s = .ok (.bl true) s := by
    rw [is_whole_both, decide_eq_true (show (0 : Int) ≤ (B.l i : Nat) by omega), decide_eq_true (show ((B.l i : Nat) : Int) ≤ 4 by omega)]; rfl
  have tt : fTru (.bl true) = some true := rfl
  refine es_def_nx (ρ := [.dat (.int i), .dat (B.bar i), .no, .no, .no]) (ρ1 := [.dat (.int i), .dat (B.bar i), .dat (.int (B.h i)), .dat (dq (B.m i)), .dat (.int (B.l i : Nat))]) rfl ?_
  unfold b__check_bar
  refine es_seq (es_if_f (by array_mem_dec) es_next) ?_
  refine es_seq (ρ1 := [.dat (.int i), .dat (B.bar i), .dat (.int (B.h i)), .dat (dq (B.m i)), .dat (.int (B.l i : Nat))]) (s1 := s) (es_asg (ev_var rfl) rfl) ?_
  refine es_seq (es_if_f (by array_mem_dec) es_next) ?_
  refine es_seq (es_if_f (by array_mem_dec) es_next) ?_
  exact es_if_f (by array_mem_dec) es_next
theorem enum_row : enumD 0 B.row = (List.range B.n).map fun (i : Nat) => Dt.tup [.int (i : Nat), B.bar i] := by
  apply List.ext_getElem?
  intro j
  rw [enumD_get, List.getElem?_map]
  unfold Bars.row
  rw [List.getElem?_map]
  by_cases c : j < B.n
  · rw [List.getElem?_range c]
    simp
  · rw [List.getElem?_eq_none (by rw [List.length_range]; omega)]
    rfl
theorem check_bars_ok {D : Dt} (hi2 : fIsi2 "list" "tuple" D = some true) (hs : seqD D = some B.row) (s : Hd) : m__check_bars [D] s = .ok .non s := by
  have n1 := ok.n1
  have n6 := ok.n6
  have e1 : m_is_row [D, .int 1, .int 6] s = .ok (.bl true) s := row_ok (ds := B.row) hi2 hs (by rw [bars_len]; omega) (by rw [bars_len]; omega) s
  have en : mEnum (mVar 0) [.dat D, .no, .no] s = .ok ((List.range B.n).map fun (i : Nat) => Dt.tup [.int (i : Nat), B.bar i]) s := by
    unfold mEnum
    rw [ev_var (ρ := [.dat D, .no, .no]) (i := 0) (d := D) rfl]
    simp only [R.bind_ok, hs]
    rw [enum_row ok]
  obtain ⟨ρ', s', hl, x1, x2, rfl, rfl⟩ := for_range (g := gmSeq 2 (gmCons (gmName 1) (gmCons (gmName 2) gmNil))) (body := mDrop (mCall 2 [] m__check_bar (mCons (mVar 1) (mCons (mVar 2) mNil)))) (ρ := [.dat D, .no, .no]) (s := s) (fun (i : Nat) => Dt.tup [.int (i : Nat), B.bar i]) (fun i ρ s1 => ∃ (x1 x2 : Sl), ρ = [.dat D, x1, x2] ∧ s1 = s) B.n ⟨.no, .no, rfl, rfl⟩ (fun i ρ s1 hi hI => by
    obtain ⟨x1, x2, rfl, rfl⟩ := hI
    have e := check_bar_ok ok hi s1
    exact ⟨[.dat D, .dat (.int i), .dat (B.bar i)], [.dat D, .dat (.int i), .dat (B.bar i)], s1, rfl, es_drop (by sizeOf_list_dec), _, _, rfl, rfl⟩)
  have tt : fTru (.bl true) = some true := rfl
  refine es_def_nx (ρ := [.dat D, .no, .no]) (ρ1 := [.dat D, x1, x2]) rfl ?_
  unfold b__check_bars
  refine es_seq (es_if_f (by array_mem_dec) es_next) ?_
  exact es_for en hl
theorem count_ok {D : Dt} (hs : seqD D = some B.row) (s : Hd) : m__count_letters [D] s = .ok (.int (B.N : Nat)) s := by
  have N1 := ok.N1
  have N4 := ok.N4
  have n6 := ok.n6
  have z : mSeqI (mVar 0) [.dat D, .no, .no, .no, .no] s = .ok B.row s := ev_seqI (ev_var rfl) hs
  obtain ⟨i, hi, ei⟩ := ok.all B.N ok.N1 (Nat.le_refl _)
  have lc : mLc (gmName 2) (mSeqI (mVar 0)) mYes (mOp fIx (mVar 2) (mC (.int 2))) [2] [.dat D, .no, .no, .no, .no] s = .ok (.lst ((List.range B.n).map fun i => Dt.int ((B.l i : Nat) : Int))) s :=
    ev_lc z (lc_map (ρ := [.dat D, .no, .no, .no, .no]) B.bar (fun i => .int (B.l i : Nat)) (List.range B.n) (by rw [List.length_range]; omega) fun j hj => ⟨[.dat D, .no, .dat (B.bar j), .no, .no], rfl, by
      have e6 : fIx (B.bar j) (.int 2) = some (.int (B.l j)) := rfl
      sizeOf_list_dec⟩)
  have mx : mCB fMax (mCons (mVar 1) mNil) [.dat D, .dat (.lst ((List.range B.n).map fun i => Dt.int ((B.l i : Nat) : Int))), .no, .no, .no] s = .ok (.int (B.N : Nat)) s := max_of (n := B.n) (f := fun i => (B.l i : Int)) (ev_var rfl) (fun i hi => by have := ok.l i hi; omega) ⟨i, hi, by omega⟩
  have f0 := feq_f (B.N : Int) 0 (by omega)
  have rg : mRng2 (mC (.int 1)) (mOp fAdd (mVar 3) (mC (.int 1))) [.dat D, .dat (.lst ((List.range B.n).map fun i => Dt.int ((B.l i : Nat) : Int))), .no, .dat (.int (B.N : Nat)), .no] s = .ok (rangeD 1 B.N) s := rng2_of (i := 1) (j := (B.N : Int) + 1) B.N ev_c (ev_op (ev_var rfl) ev_c rfl) (by omega) (by omega) (by omega) (by omega)
  have al := all_of (bs := (List.range B.N).map fun _ => true) (by
    rw [List.map_map]
    exact ev_lc rg (lc_range (g := gmName 4) (a := mOp fIn (mVar 4) (mVar 1)) (vs := [4]) (fun _ => .bl true) (by omega) fun j hj => ⟨_, rfl, by
      obtain ⟨t, ht, e⟩ := ok.all (j + 1) (by omega) (by omega)
      have k : fIn (.int (1 + (j : Int))) (.lst ((List.range B.n).map fun i => Dt.int ((B.l i : Nat) : Int))) = some (.bl true) := by
        have m : (1 + (j : Int)) ∈ (List.range B.n).map fun i => ((B.l i : Nat) : Int) := List.mem_map.2 ⟨t, List.mem_range.2 ht, by omega⟩
        have r := in_ints m
        rw [List.map_map] at r
        exact r
      sizeOf_list_dec⟩))
  have tr : ((List.range B.N).map fun _ => true).all id = true := by
    rw [List.all_map, List.all_eq_true]
    exact fun _ _ => rfl
  rw [tr] at al
  refine es_def (ρ := [.dat D, .no, .no, .no, .no]) rfl ?_
  unfold b__count_letters
  refine es_seq (es_set lc) ?_
  refine es_seq (es_set mx) ?_
  refine es_seq (es_if_f (ev_or_f (ev_test (by sizeOf_list_dec)) (ev_not_f (ev_tru al rfl))) es_next) ?_
  exact es_ret (ev_var rfl)
theorem make_ok {D : Dt} (hi2 : fIsi2 "list" "tuple" D = some true) (hs : seqD D = some B.row) (s : Hd) : m_Arms____init__ [D] s = .ok [(("letters" : Str), .int (B.N : Nat)), (("bars" : Str), B.d)] s := by
  have n6 := ok.n6
  have e1 := check_bars_ok ok hi2 hs s
  have e2 := count_ok ok hs s
  have z : mSeqI (mVar 1) [.slf "Arms" [("letters", .int (B.N : Nat))], .dat D, .no] s = .ok B.row s := ev_seqI (ev_var rfl) hs
  have lc := tup_of (ev_lc z (lc_map (g := gmName 2) (a := mCB fTupC (mCons (mVar 2) mNil)) (vs := [2]) (ρ := [.slf "Arms" [("letters", .int (B.N : Nat))], .dat D, .no]) B.bar B.bar (List.range B.n) (by rw [List.length_range]; omega) fun j hj => ⟨[.slf "Arms" [("letters", .int (B.N : Nat))], .dat D, .dat (B.bar j)], rfl, ev_cb (ev_cons (ev_var rfl) ev_nil) rfl⟩))
  refine es_init (ρ := [.slf "Arms" [], .dat D, .no]) rfl (ρ1 := [.slf "Arms" [(("letters" : Str), .int (B.N : Nat)), (("bars" : Str), B.d)], .dat D, .no]) ?_ rfl
  unfold b_Arms____init__
  refine es_seq (es_drop (by sizeOf_list_dec)) ?_
  refine es_seq (ρ1 := [.slf "Arms" [("letters", .int (B.N : Nat))], .dat D, .no]) (s1 := s) (es_fld (fs := []) (cl := "Arms") (by sizeOf_list_dec) rfl (by simp) (by simp)) ?_
  refine (es_fld (fs := [("letters", .int (B.N : Nat))]) (cl := "Arms") lc rfl (by simp) (by simp)).trans ?_
  have e : putFD "bars" B.d [(("letters" : Str), Dt.int (B.N : Nat))] = [(("letters" : Str), Dt.int (B.N : Nat)), (("bars" : Str), B.d)] := by
    have c : ¬ (("letters" : Str) = ("bars" : Str)) := by decide +kernel
    simp only [putFD, if_neg c]
  have e3 : (Dt.tup ((List.range B.n).map B.bar)) = B.d := rfl
  rw [e3, e]
  rfl
end
end Law


set_option Elab.async false
set_option linter.all false
set_option maxRecDepth 100000
namespace Law
open PySem PySem.Spec PyProof.Rows L2 Mir
theorem ev_callG {n : Nat} {m : List Dt → Hd → R Dt} {as : MA} {ρ : Env'} {s s1 s2 : Hd} {ds : List Dt} {r : Dt} (h : as ρ s = .ok ds s1) (hl : ds.length = n) (hm : m ds s1 = .ok r s2) : mCallG n m as ρ s = .ok r s2 := by
  unfold mCallG
  rw [h]
  simp only [R.bind_ok]
  rw [if_pos hl, hm]
def lawBody : MS := (mSeq (mSet 6 (mCall 2 [] m__law_some_place (mCons (mVar 1) (mCons (mVar 2) mNil))))
    (mSeq (mSet 7 (mCall 2 [] m__law_some_place (mCons (mVar 1) (mCons (mVar 2) mNil))))
    (mIfS (mNot (mTru (mCallG 6 m__law_asked (mCons (mVar 1) (mCons (mVar 2) (mCons (mVar 3) (mCons (mOp fIx (mVar 4) (mOp fMod (mVar 5) (mC (.int 2)))) (mCons (mVar 6) (mCons (mVar 7) mNil))))))))) (mRet (mC (.bl false))) mNext)))
theorem turn_pick (a b : Dt) {i : Nat} (hi : i < 6) : ∃ j : Int, fMod (.int (0 + (i : Int))) (.int 2) = some (.int j) ∧ (fIx (.lst [a, b]) (.int j) = some a ∨ fIx (.lst [a, b]) (.int j) = some b) := by
  rcases (show i = 0 ∨ i = 1 ∨ i = 2 ∨ i = 3 ∨ i = 4 ∨ i = 5 by omega) with rfl | rfl | rfl | rfl | rfl | rfl
  · exact ⟨0, rfl, .inl rfl⟩
  · exact ⟨1, rfl, .inr rfl⟩
  · exact ⟨0, rfl, .inl rfl⟩
  · exact ⟨1, rfl, .inr rfl⟩
  · exact ⟨0, rfl, .inl rfl⟩
  · exact ⟨1, rfl, .inr rfl⟩
theorem math (s : Hd) : ∃ s' : Hd, b_law (lawE 6) s = .ok (.rt (.bl true)) s' := by
  obtain ⟨B, s1, ok, e1⟩ := world_ok s
  have N4 := ok.N4
  obtain ⟨k, s2, e2⟩ := form_ok B.d B.row rfl s1
  have e3 := make_ok ok (D := sq k B.row) (i2_sq _ _) (fLen_sq _ _) s2
  have m1 := most_ok ok s2
  obtain ⟨P0, s3, e4, z0⟩ := any_pose_ok N4 s2
  have m2 := most_ok ok s3
  obtain ⟨P1, s4, e5, z1⟩ := any_pose_ok N4 s3
  have tt : fTru (.bl true) = some true := rfl
  obtain ⟨ρ', s5, hl, x5, x6, x7, rfl⟩ := for_range (g := gmName 5) (body := lawBody) (ρ := [.no, .dat .hnd, .dat B.d, .dat B.arms, .dat (.lst [.tup (poseL B.N P0), .tup (poseL B.N P1)]), .no, .no, .no]) (s := s4) (fun (i : Nat) => .int (0 + (i : Int))) (fun i ρ s1 => ∃ (x5 x6 x7 : Sl), ρ = [.no, .dat .hnd, .dat B.d, .dat B.arms, .dat (.lst [.tup (poseL B.N P0), .tup (poseL B.N P1)]), x5, x6, x7]) 6 ⟨_, _, _, rfl⟩ (fun i ρ s hi hI => by
    obtain ⟨x5, x6, x7, rfl⟩ := hI
    obtain ⟨t1, s6, f1, h1⟩ := some_place_ok ok s
    obtain ⟨t2, s7, f2, h2⟩ := some_place_ok ok s6
    obtain ⟨j, fm, pk⟩ := turn_pick (.tup (poseL B.N P0)) (.tup (poseL B.N P1)) hi
    have ask : ∃ (P : Nat → Rat × Rat) (s8 : Hd), fIx (.lst [.tup (poseL B.N P0), .tup (poseL B.N P1)]) (.int j) = some (.tup (poseL B.N P)) ∧ m__law_asked [.hnd, B.d, B.arms, .tup (poseL B.N P), t1, t2] s7 = .ok (.bl true) s8 := by
      rcases pk with pk | pk
      · obtain ⟨s8, a⟩ := asked_ok ok z0 h1 h2 s7
        exact ⟨P0, s8, pk, a⟩
      · obtain ⟨s8, a⟩ := asked_ok ok z1 h1 h2 s7
        exact ⟨P1, s8, pk, a⟩
    obtain ⟨P, s8, ix, a⟩ := ask
    refine ⟨_, _, s8, rfl, ?_, .dat (.int (0 + (i : Int))), .dat t1, .dat t2, rfl⟩
    unfold lawBody
    refine es_seq (es_set (by sizeOf_list_dec)) ?_
    refine es_seq (es_set (by sizeOf_list_dec)) ?_
    exact es_if_f (ev_not_f (ev_tru (ev_callG (by sizeOf_list_dec) rfl a) tt)) es_next)
  have rg : mRng1 (mC (.int 6)) [.no, .dat .hnd, .dat B.d, .dat B.arms, .dat (.lst [.tup (poseL B.N P0), .tup (poseL B.N P1)]), .no, .no, .no] s4 = .ok (rangeD 0 6) s4 := rng1_of (i := 6) 6 ev_c (by decide) (by omega)
  refine ⟨s5, ?_⟩
  show b_law [.no, .dat .hnd, .no, .no, .no, .no, .no, .no] s = _
  unfold b_law
  refine es_seq (es_set (d := B.d) (by sizeOf_list_dec)) ?_
  refine es_seq (es_set (d := B.arms) (s1 := s2) (ev_make0 (ev_cons (d := sq k B.row) (by sizeOf_list_dec) ev_nil) rfl e3)) ?_
  refine es_seq (es_set (d := .lst [.tup (poseL B.N P0), .tup (poseL B.N P1)]) (s1 := s4) (by sizeOf_list_dec)) ?_
  refine es_seq (es_for (b1 := lawBody) rg hl) ?_
  exact es_ret ev_c
end Law


set_option Elab.async false
set_option linter.all false
set_option maxRecDepth 100000
set_option maxHeartbeats 4000000
namespace Law
open PySem PySem.Spec PyProof.Rows L2 Mir
open PySem.W (Frag)
def topS (i : Nat) : Stmt := PySem.Challenge.pw_stillarms_k12_whole_spots_of_places_in_p.main.body.getD i (.Pass ⟨0, 0, 0, 0⟩)
abbrev st__law_hand : Stmt := topS 48
theorem sc__law_hand : FnScope ["_law_script", "_law_great", "_law_mixed", "_law_cell", "_law_size"] ["_law_script"] (defScope st__law_hand) := ⟨rfl, rfl, rfl, by decide +kernel, rfl, by decide +kernel, by decide +kernel⟩
abbrev st__law_take : Stmt := topS 49
theorem sc__law_take : FnScope ["_law_hand_here", "_law_many", "_law_cell", "_law_once", "_law_twice"] ["_law_hand_here", "_law_many"] (defScope st__law_take) := ⟨rfl, rfl, rfl, by decide +kernel, rfl, by decide +kernel, by decide +kernel⟩
abbrev st_is_whole : Stmt := topS 11
theorem sc_is_whole : FnScope ["thing", "low", "high"] ["thing", "low", "high"] (defScope st_is_whole) := ⟨rfl, rfl, rfl, by decide +kernel, rfl, by decide +kernel, by decide +kernel⟩
abbrev st_is_ratio : Stmt := topS 12
theorem sc_is_ratio : FnScope ["thing", "top", "bottom"] ["thing"] (defScope st_is_ratio) := ⟨rfl, rfl, rfl, by decide +kernel, rfl, by decide +kernel, by decide +kernel⟩
abbrev st_is_row : Stmt := topS 20
theorem sc_is_row : FnScope ["thing", "least", "most"] ["thing", "least", "most"] (defScope st_is_row) := ⟨rfl, rfl, rfl, by decide +kernel, rfl, by decide +kernel, by decide +kernel⟩
abbrev st__check_bar : Stmt := topS 32
theorem sc__check_bar : FnScope ["index", "bar", "host", "mark", "letter"] ["index", "bar"] (defScope st__check_bar) := ⟨rfl, rfl, rfl, by decide +kernel, rfl, by decide +kernel, by decide +kernel⟩
abbrev st__check_bars : Stmt := topS 31
theorem sc__check_bars : FnScope ["bars", "index", "bar"] ["bars"] (defScope st__check_bars) := ⟨rfl, rfl, rfl, by decide +kernel, rfl, by decide +kernel, by decide +kernel⟩
abbrev st__count_letters : Stmt := topS 33
theorem sc__count_letters : FnScope ["bars", "used", "bar", "greatest", "letter"] ["bars"] (defScope st__count_letters) := ⟨rfl, rfl, rfl, by decide +kernel, rfl, by decide +kernel, by decide +kernel⟩
abbrev st_Arms____init__ : Stmt := inClass (topS 34) 0
theorem sc_Arms____init__ : FnScope ["self", "bars", "bar"] ["self", "bars"] (defScope st_Arms____init__) := ⟨rfl, rfl, rfl, by decide +kernel, rfl, by decide +kernel, by decide +kernel⟩
abbrev st__law_gcd : Stmt := topS 50
theorem sc__law_gcd : FnScope ["_law_one", "_law_other"] ["_law_one", "_law_other"] (defScope st__law_gcd) := ⟨rfl, rfl, rfl, by decide +kernel, rfl, by decide +kernel, by decide +kernel⟩
abbrev st__law_ratio : Stmt := topS 51
theorem sc__law_ratio : FnScope ["_law_top", "_law_bottom", "_law_part"] ["_law_top", "_law_bottom"] (defScope st__law_ratio) := ⟨rfl, rfl, rfl, by decide +kernel, rfl, by decide +kernel, by decide +kernel⟩
abbrev st__law_half : Stmt := topS 60
theorem sc__law_half : FnScope ["_law_hand_here", "_law_turn"] ["_law_hand_here"] (defScope st__law_half) := ⟨rfl, rfl, rfl, by decide +kernel, rfl, by decide +kernel, by decide +kernel⟩
abbrev st__law_any_half : Stmt := topS 64
theorem sc__law_any_half : FnScope ["_law_hand_here"] ["_law_hand_here"] (defScope st__law_any_half) := ⟨rfl, rfl, rfl, by decide +kernel, rfl, by decide +kernel, by decide +kernel⟩
abbrev st__law_less : Stmt := topS 53
theorem sc__law_less : FnScope ["_law_one", "_law_other"] ["_law_one", "_law_other"] (defScope st__law_less) := ⟨rfl, rfl, rfl, by decide +kernel, rfl, by decide +kernel, by decide +kernel⟩
abbrev st__law_over : Stmt := topS 55
theorem sc__law_over : FnScope ["_law_one", "_law_other"] ["_law_one", "_law_other"] (defScope st__law_over) := ⟨rfl, rfl, rfl, by decide +kernel, rfl, by decide +kernel, by decide +kernel⟩
abbrev st__law_plus : Stmt := topS 52
theorem sc__law_plus : FnScope ["_law_one", "_law_other"] ["_law_one", "_law_other"] (defScope st__law_plus) := ⟨rfl, rfl, rfl, by decide +kernel, rfl, by decide +kernel, by decide +kernel⟩
abbrev st__law_times : Stmt := topS 54
theorem sc__law_times : FnScope ["_law_one", "_law_other"] ["_law_one", "_law_other"] (defScope st__law_times) := ⟨rfl, rfl, rfl, by decide +kernel, rfl, by decide +kernel, by decide +kernel⟩
abbrev st__law_direction : Stmt := topS 59
theorem sc__law_direction : FnScope ["_law_half_here", "_law_square_here", "_law_bottom"] ["_law_half_here"] (defScope st__law_direction) := ⟨rfl, rfl, rfl, by decide +kernel, rfl, by decide +kernel, by decide +kernel⟩
abbrev st__law_any_pose : Stmt := topS 65
theorem sc__law_any_pose : FnScope ["_law_hand_here", "_law_n", "_law_k"] ["_law_hand_here", "_law_n"] (defScope st__law_any_pose) := ⟨rfl, rfl, rfl, by decide +kernel, rfl, by decide +kernel, by decide +kernel⟩
abbrev st_is_place : Stmt := topS 26
theorem sc_is_place : FnScope ["arms", "thing", "bar", "mark"] ["arms", "thing"] (defScope st_is_place) := ⟨rfl, rfl, rfl, by decide +kernel, rfl, by decide +kernel, by decide +kernel⟩
abbrev st_check_place : Stmt := topS 27
theorem sc_check_place : FnScope ["arms", "place"] ["arms", "place"] (defScope st_check_place) := ⟨rfl, rfl, rfl, by decide +kernel, rfl, by decide +kernel, by decide +kernel⟩
abbrev st_lowest_terms : Stmt := topS 13
theorem sc_lowest_terms : FnScope ["top", "bottom", "part"] ["top", "bottom"] (defScope st_lowest_terms) := ⟨rfl, rfl, rfl, by decide +kernel, rfl, by decide +kernel, by decide +kernel⟩
abbrev st_plus : Stmt := topS 14
theorem sc_plus : FnScope ["one", "other"] ["one", "other"] (defScope st_plus) := ⟨rfl, rfl, rfl, by decide +kernel, rfl, by decide +kernel, by decide +kernel⟩
abbrev st_join_rows : Stmt := topS 28
theorem sc_join_rows : FnScope ["one", "other", "left", "right"] ["one", "other"] (defScope st_join_rows) := ⟨rfl, rfl, rfl, by decide +kernel, rfl, by decide +kernel, by decide +kernel⟩
abbrev st_row_at : Stmt := topS 30
theorem sc_row_at : FnScope ["letters", "letter", "number", "other"] ["letters", "letter", "number"] (defScope st_row_at) := ⟨rfl, rfl, rfl, by decide +kernel, rfl, by decide +kernel, by decide +kernel⟩
abbrev st_Arms__hinge_row : Stmt := inClass (topS 34) 4
theorem sc_Arms__hinge_row : FnScope ["self", "number", "host", "mark", "_"] ["self", "number"] (defScope st_Arms__hinge_row) := ⟨rfl, rfl, rfl, by decide +kernel, rfl, by decide +kernel, by decide +kernel⟩
abbrev st_Arms__row_of : Stmt := inClass (topS 34) 3
theorem sc_Arms__row_of : FnScope ["self", "place", "bar", "mark", "letter"] ["self", "place"] (defScope st_Arms__row_of) := ⟨rfl, rfl, rfl, by decide +kernel, rfl, by decide +kernel, by decide +kernel⟩
abbrev st_times : Stmt := topS 16
theorem sc_times : FnScope ["one", "other"] ["one", "other"] (defScope st_times) := ⟨rfl, rfl, rfl, by decide +kernel, rfl, by decide +kernel, by decide +kernel⟩
abbrev st_dot_of : Stmt := topS 38
theorem sc_dot_of : FnScope ["one", "other"] ["one", "other"] (defScope st_dot_of) := ⟨rfl, rfl, rfl, by decide +kernel, rfl, by decide +kernel, by decide +kernel⟩
abbrev st_is_spot : Stmt := topS 36
theorem sc_is_spot : FnScope ["thing"] ["thing"] (defScope st_is_spot) := ⟨rfl, rfl, rfl, by decide +kernel, rfl, by decide +kernel, by decide +kernel⟩
abbrev st_is_direction : Stmt := topS 37
theorem sc_is_direction : FnScope ["thing"] ["thing"] (defScope st_is_direction) := ⟨rfl, rfl, rfl, by decide +kernel, rfl, by decide +kernel, by decide +kernel⟩
abbrev st_first_wrong : Stmt := topS 21
theorem sc_first_wrong : FnScope ["thing", "many", "is_right", "index", "entry"] ["thing", "many", "is_right"] (defScope st_first_wrong) := ⟨rfl, rfl, rfl, by decide +kernel, rfl, by decide +kernel, by decide +kernel⟩
abbrev st_check_pose : Stmt := topS 40
theorem sc_check_pose : FnScope ["arms", "pose", "index", "direction"] ["arms", "pose"] (defScope st_check_pose) := ⟨rfl, rfl, rfl, by decide +kernel, rfl, by decide +kernel, by decide +kernel⟩
abbrev st_sum_of : Stmt := topS 17
theorem sc_sum_of : FnScope ["row", "total", "entry"] ["row"] (defScope st_sum_of) := ⟨rfl, rfl, rfl, by decide +kernel, rfl, by decide +kernel, by decide +kernel⟩
abbrev st_product_of : Stmt := topS 18
theorem sc_product_of : FnScope ["one", "other", "left", "right"] ["one", "other"] (defScope st_product_of) := ⟨rfl, rfl, rfl, by decide +kernel, rfl, by decide +kernel, by decide +kernel⟩
abbrev st_spot_by : Stmt := topS 41
theorem sc_spot_by : FnScope ["row", "pose", "across", "direction", "upward"] ["row", "pose"] (defScope st_spot_by) := ⟨rfl, rfl, rfl, by decide +kernel, rfl, by decide +kernel, by decide +kernel⟩
abbrev st_place_at : Stmt := topS 43
theorem sc_place_at : FnScope ["arms", "pose", "place"] ["arms", "pose", "place"] (defScope st_place_at) := ⟨rfl, rfl, rfl, by decide +kernel, rfl, by decide +kernel, by decide +kernel⟩
abbrev st_height_at : Stmt := topS 44
theorem sc_height_at : FnScope ["arms", "pose", "place"] ["arms", "pose", "place"] (defScope st_height_at) := ⟨rfl, rfl, rfl, by decide +kernel, rfl, by decide +kernel, by decide +kernel⟩
abbrev st_hinges_at : Stmt := topS 45
theorem sc_hinges_at : FnScope ["arms", "pose", "number"] ["arms", "pose"] (defScope st_hinges_at) := ⟨rfl, rfl, rfl, by decide +kernel, rfl, by decide +kernel, by decide +kernel⟩
abbrev st_minus : Stmt := topS 15
theorem sc_minus : FnScope ["one", "other"] ["one", "other"] (defScope st_minus) := ⟨rfl, rfl, rfl, by decide +kernel, rfl, by decide +kernel, by decide +kernel⟩
abbrev st_take_row : Stmt := topS 29
theorem sc_take_row : FnScope ["one", "other", "left", "right"] ["one", "other"] (defScope st_take_row) := ⟨rfl, rfl, rfl, by decide +kernel, rfl, by decide +kernel, by decide +kernel⟩
abbrev st_Arms__difference_row : Stmt := inClass (topS 34) 5
theorem sc_Arms__difference_row : FnScope ["self", "one", "other"] ["self", "one", "other"] (defScope st_Arms__difference_row) := ⟨rfl, rfl, rfl, by decide +kernel, rfl, by decide +kernel, by decide +kernel⟩
abbrev st_square_by : Stmt := topS 42
theorem sc_square_by : FnScope ["row", "pose", "spot"] ["row", "pose"] (defScope st_square_by) := ⟨rfl, rfl, rfl, by decide +kernel, rfl, by decide +kernel, by decide +kernel⟩
abbrev st_square_between : Stmt := topS 46
theorem sc_square_between : FnScope ["arms", "pose", "one", "other"] ["arms", "pose", "one", "other"] (defScope st_square_between) := ⟨rfl, rfl, rfl, by decide +kernel, rfl, by decide +kernel, by decide +kernel⟩
abbrev st__law_called : Stmt := topS 76
theorem sc__law_called : FnScope ["_law_act", "_law_arms", "_law_pose", "_law_one", "_law_other", "_law_found", "e"] ["_law_act", "_law_arms", "_law_pose", "_law_one", "_law_other"] (defScope st__law_called) := ⟨rfl, rfl, rfl, by decide +kernel, rfl, by decide +kernel, by decide +kernel⟩
abbrev st__law_form : Stmt := topS 72
theorem sc__law_form : FnScope ["_law_hand_here", "_law_row"] ["_law_hand_here", "_law_row"] (defScope st__law_form) := ⟨rfl, rfl, rfl, by decide +kernel, rfl, by decide +kernel, by decide +kernel⟩
abbrev st__law_is_ratio : Stmt := topS 56
theorem sc__law_is_ratio : FnScope ["_law_thing", "_law_part"] ["_law_thing"] (defScope st__law_is_ratio) := ⟨rfl, rfl, rfl, by decide +kernel, rfl, by decide +kernel, by decide +kernel⟩
abbrev st__law_is_place : Stmt := topS 75
theorem sc__law_is_place : FnScope ["_law_thing", "_law_many"] ["_law_thing", "_law_many"] (defScope st__law_is_place) := ⟨rfl, rfl, rfl, by decide +kernel, rfl, by decide +kernel, by decide +kernel⟩
abbrev st__law_stand : Stmt := topS 66
theorem sc__law_stand : FnScope ["_law_bars", "_law_pose", "_law_place", "_law_number", "_law_mark_here", "_law_x", "_law_y", "_law_turn", "_law_letter", "_law_direction_here"] ["_law_bars", "_law_pose", "_law_place"] (defScope st__law_stand) := ⟨rfl, rfl, rfl, by decide +kernel, rfl, by decide +kernel, by decide +kernel⟩
abbrev st__law_gap : Stmt := topS 67
theorem sc__law_gap : FnScope ["_law_bars", "_law_pose", "_law_one", "_law_other", "_law_left", "_law_right_here"] ["_law_bars", "_law_pose", "_law_one", "_law_other"] (defScope st__law_gap) := ⟨rfl, rfl, rfl, by decide +kernel, rfl, by decide +kernel, by decide +kernel⟩
abbrev st__law_same : Stmt := topS 69
theorem sc__law_same : FnScope ["_law_told", "_law_due", "_law_number"] ["_law_told", "_law_due"] (defScope st__law_same) := ⟨rfl, rfl, rfl, by decide +kernel, rfl, by decide +kernel, by decide +kernel⟩
abbrev st__law_same_row : Stmt := topS 70
theorem sc__law_same_row : FnScope ["_law_told", "_law_due", "_law_k"] ["_law_told", "_law_due"] (defScope st__law_same_row) := ⟨rfl, rfl, rfl, by decide +kernel, rfl, by decide +kernel, by decide +kernel⟩
abbrev st__law_same_rows : Stmt := topS 71
theorem sc__law_same_rows : FnScope ["_law_told", "_law_due", "_law_k"] ["_law_told", "_law_due"] (defScope st__law_same_rows) := ⟨rfl, rfl, rfl, by decide +kernel, rfl, by decide +kernel, by decide +kernel⟩
abbrev st__law_square : Stmt := topS 68
theorem sc__law_square : FnScope ["_law_spot"] ["_law_spot"] (defScope st__law_square) := ⟨rfl, rfl, rfl, by decide +kernel, rfl, by decide +kernel, by decide +kernel⟩
abbrev st__law_right : Stmt := topS 77
theorem sc__law_right : FnScope ["_law_act", "_law_bars", "_law_pose", "_law_one", "_law_other", "_law_told", "_law_bar"] ["_law_act", "_law_bars", "_law_pose", "_law_one", "_law_other", "_law_told"] (defScope st__law_right) := ⟨rfl, rfl, rfl, by decide +kernel, rfl, by decide +kernel, by decide +kernel⟩
abbrev st__law_asked : Stmt := topS 78
theorem sc__law_asked : FnScope ["_law_hand_here", "_law_bars", "_law_arms", "_law_pose", "_law_one", "_law_other", "_law_good", "_law_also", "_law_wrong", "_law_handed", "_law_direction_here", "_law_kept", "_law_act", "_law_told"] ["_law_hand_here", "_law_bars", "_law_arms", "_law_pose", "_law_one", "_law_other"] (defScope st__law_asked) := ⟨rfl, rfl, rfl, by decide +kernel, rfl, by decide +kernel, by decide +kernel⟩
abbrev st__law_most : Stmt := topS 58
theorem sc__law_most : FnScope ["_law_bars", "_law_bar"] ["_law_bars"] (defScope st__law_most) := ⟨rfl, rfl, rfl, by decide +kernel, rfl, by decide +kernel, by decide +kernel⟩
abbrev st__law_mark : Stmt := topS 57
theorem sc__law_mark : FnScope ["_law_hand_here"] ["_law_hand_here"] (defScope st__law_mark) := ⟨rfl, rfl, rfl, by decide +kernel, rfl, by decide +kernel, by decide +kernel⟩
abbrev st__law_wide : Stmt := topS 61
theorem sc__law_wide : FnScope ["_law_hand_here", "_law_way"] ["_law_hand_here"] (defScope st__law_wide) := ⟨rfl, rfl, rfl, by decide +kernel, rfl, by decide +kernel, by decide +kernel⟩
abbrev st__law_any_place : Stmt := topS 63
theorem sc__law_any_place : FnScope ["_law_hand_here", "_law_bars", "_law_number"] ["_law_hand_here", "_law_bars"] (defScope st__law_any_place) := ⟨rfl, rfl, rfl, by decide +kernel, rfl, by decide +kernel, by decide +kernel⟩
abbrev st__law_odd : Stmt := topS 73
theorem sc__law_odd : FnScope ["_law_hand_here", "_law_odds"] ["_law_hand_here"] (defScope st__law_odd) := ⟨rfl, rfl, rfl, by decide +kernel, rfl, by decide +kernel, by decide +kernel⟩
abbrev st__law_some_place : Stmt := topS 74
theorem sc__law_some_place : FnScope ["_law_hand_here", "_law_bars", "_law_place", "_law_way"] ["_law_hand_here", "_law_bars"] (defScope st__law_some_place) := ⟨rfl, rfl, rfl, by decide +kernel, rfl, by decide +kernel, by decide +kernel⟩
abbrev st__law_world : Stmt := topS 62
theorem sc__law_world : FnScope ["_law_hand_here", "_law_many", "_law_n", "_law_row", "_law_k", "_law_other", "_law_bars", "_law_host"] ["_law_hand_here"] (defScope st__law_world) := ⟨rfl, rfl, rfl, by decide +kernel, rfl, by decide +kernel, by decide +kernel⟩
abbrev st_law : Stmt := topS 79
theorem sc_law : FnScope ["_law_script", "_law_hand_here", "_law_bars", "_law_arms", "_law_poses", "_law_turn", "_law_one", "_law_other"] ["_law_script"] (defScope st_law) := ⟨rfl, rfl, rfl, by decide +kernel, rfl, by decide +kernel, by decide +kernel⟩
abbrev st_BadArms : Stmt := inClass (topS 5) 0
theorem sc_BadArms : FnScope ["self", "index", "what"] ["self", "index", "what"] (defScope st_BadArms) := ⟨rfl, rfl, rfl, by decide +kernel, rfl, by decide +kernel, by decide +kernel⟩
abbrev st_BadPose : Stmt := inClass (topS 7) 0
theorem sc_BadPose : FnScope ["self", "index"] ["self", "index"] (defScope st_BadPose) := ⟨rfl, rfl, rfl, by decide +kernel, rfl, by decide +kernel, by decide +kernel⟩
abbrev st_NoBar : Stmt := inClass (topS 6) 0
theorem sc_NoBar : FnScope ["self", "number"] ["self", "number"] (defScope st_NoBar) := ⟨rfl, rfl, rfl, by decide +kernel, rfl, by decide +kernel, by decide +kernel⟩
/-- what the top has written -/
structure Txt (K : Frag) (mg : Str → Option Value) : Prop where
  F__law_hand : ∃ (f : Addr) (fd : FuncData), Fun K "_law_hand" "_law_hand" st__law_hand f fd ∧ mg "_law_hand" = some (.ref f)
  F__law_take : ∃ (f : Addr) (fd : FuncData), Fun K "_law_take" "_law_take" st__law_take f fd ∧ mg "_law_take" = some (.ref f)
  F_is_whole : ∃ (f : Addr) (fd : FuncData), FunD K "is_whole" "is_whole" (defArgs st_is_whole) (defBody st_is_whole) (defScope st_is_whole) [.non, .non] [] f fd ∧ mg "is_whole" = some (.ref f)
  F_is_ratio : ∃ (f : Addr) (fd : FuncData), Fun K "is_ratio" "is_ratio" st_is_ratio f fd ∧ mg "is_ratio" = some (.ref f)
  F_is_row : ∃ (f : Addr) (fd : FuncData), FunD K "is_row" "is_row" (defArgs st_is_row) (defBody st_is_row) (defScope st_is_row) [.int 0, .non] [] f fd ∧ mg "is_row" = some (.ref f)
  F__check_bar : ∃ (f : Addr) (fd : FuncData), Fun K "_check_bar" "_check_bar" st__check_bar f fd ∧ mg "_check_bar" = some (.ref f)
  F__check_bars : ∃ (f : Addr) (fd : FuncData), Fun K "_check_bars" "_check_bars" st__check_bars f fd ∧ mg "_check_bars" = some (.ref f)
  F__count_letters : ∃ (f : Addr) (fd : FuncData), Fun K "_count_letters" "_count_letters" st__count_letters f fd ∧ mg "_count_letters" = some (.ref f)
  G_Arms____init__ : ∃ (C f : Addr) (fd : FuncData), mg "Arms" = some (.ref C) ∧ Mk K C f ∧ Fun K "__init__" "Arms.__init__" st_Arms____init__ f fd
  F__law_gcd : ∃ (f : Addr) (fd : FuncData), Fun K "_law_gcd" "_law_gcd" st__law_gcd f fd ∧ mg "_law_gcd" = some (.ref f)
  F__law_ratio : ∃ (f : Addr) (fd : FuncData), Fun K "_law_ratio" "_law_ratio" st__law_ratio f fd ∧ mg "_law_ratio" = some (.ref f)
  F__law_half : ∃ (f : Addr) (fd : FuncData), Fun K "_law_half" "_law_half" st__law_half f fd ∧ mg "_law_half" = some (.ref f)
  F__law_any_half : ∃ (f : Addr) (fd : FuncData), Fun K "_law_any_half" "_law_any_half" st__law_any_half f fd ∧ mg "_law_any_half" = some (.ref f)
  F__law_less : ∃ (f : Addr) (fd : FuncData), Fun K "_law_less" "_law_less" st__law_less f fd ∧ mg "_law_less" = some (.ref f)
  F__law_over : ∃ (f : Addr) (fd : FuncData), Fun K "_law_over" "_law_over" st__law_over f fd ∧ mg "_law_over" = some (.ref f)
  F__law_plus : ∃ (f : Addr) (fd : FuncData), Fun K "_law_plus" "_law_plus" st__law_plus f fd ∧ mg "_law_plus" = some (.ref f)
  F__law_times : ∃ (f : Addr) (fd : FuncData), Fun K "_law_times" "_law_times" st__law_times f fd ∧ mg "_law_times" = some (.ref f)
  F__law_direction : ∃ (f : Addr) (fd : FuncData), Fun K "_law_direction" "_law_direction" st__law_direction f fd ∧ mg "_law_direction" = some (.ref f)
  F__law_any_pose : ∃ (f : Addr) (fd : FuncData), Fun K "_law_any_pose" "_law_any_pose" st__law_any_pose f fd ∧ mg "_law_any_pose" = some (.ref f)
  F_is_place : ∃ (f : Addr) (fd : FuncData), Fun K "is_place" "is_place" st_is_place f fd ∧ mg "is_place" = some (.ref f)
  F_check_place : ∃ (f : Addr) (fd : FuncData), Fun K "check_place" "check_place" st_check_place f fd ∧ mg "check_place" = some (.ref f)
  F_lowest_terms : ∃ (f : Addr) (fd : FuncData), Fun K "lowest_terms" "lowest_terms" st_lowest_terms f fd ∧ mg "lowest_terms" = some (.ref f)
  F_plus : ∃ (f : Addr) (fd : FuncData), Fun K "plus" "plus" st_plus f fd ∧ mg "plus" = some (.ref f)
  F_join_rows : ∃ (f : Addr) (fd : FuncData), Fun K "join_rows" "join_rows" st_join_rows f fd ∧ mg "join_rows" = some (.ref f)
  F_row_at : ∃ (f : Addr) (fd : FuncData), Fun K "row_at" "row_at" st_row_at f fd ∧ mg "row_at" = some (.ref f)
  G_Arms__hinge_row : ∃ (C f : Addr) (fd : FuncData), mg "Arms" = some (.ref C) ∧ Cls K C ∧ Meth K C "hinge_row" f ∧ Fun K "hinge_row" "Arms.hinge_row" st_Arms__hinge_row f fd
  G_Arms__row_of : ∃ (C f : Addr) (fd : FuncData), mg "Arms" = some (.ref C) ∧ Cls K C ∧ Meth K C "row_of" f ∧ Fun K "row_of" "Arms.row_of" st_Arms__row_of f fd
  F_times : ∃ (f : Addr) (fd : FuncData), Fun K "times" "times" st_times f fd ∧ mg "times" = some (.ref f)
  F_dot_of : ∃ (f : Addr) (fd : FuncData), Fun K "dot_of" "dot_of" st_dot_of f fd ∧ mg "dot_of" = some (.ref f)
  F_is_spot : ∃ (f : Addr) (fd : FuncData), Fun K "is_spot" "is_spot" st_is_spot f fd ∧ mg "is_spot" = some (.ref f)
  F_is_direction : ∃ (f : Addr) (fd : FuncData), Fun K "is_direction" "is_direction" st_is_direction f fd ∧ mg "is_direction" = some (.ref f)
  F_first_wrong : ∃ (f : Addr) (fd : FuncData), Fun K "first_wrong" "first_wrong" st_first_wrong f fd ∧ mg "first_wrong" = some (.ref f)
  F_check_pose : ∃ (f : Addr) (fd : FuncData), Fun K "check_pose" "check_pose" st_check_pose f fd ∧ mg "check_pose" = some (.ref f)
  F_sum_of : ∃ (f : Addr) (fd : FuncData), Fun K "sum_of" "sum_of" st_sum_of f fd ∧ mg "sum_of" = some (.ref f)
  F_product_of : ∃ (f : Addr) (fd : FuncData), Fun K "product_of" "product_of" st_product_of f fd ∧ mg "product_of" = some (.ref f)
  F_spot_by : ∃ (f : Addr) (fd : FuncData), Fun K "spot_by" "spot_by" st_spot_by f fd ∧ mg "spot_by" = some (.ref f)
  F_place_at : ∃ (f : Addr) (fd : FuncData), Fun K "place_at" "place_at" st_place_at f fd ∧ mg "place_at" = some (.ref f)
  F_height_at : ∃ (f : Addr) (fd : FuncData), Fun K "height_at" "height_at" st_height_at f fd ∧ mg "height_at" = some (.ref f)
  F_hinges_at : ∃ (f : Addr) (fd : FuncData), Fun K "hinges_at" "hinges_at" st_hinges_at f fd ∧ mg "hinges_at" = some (.ref f)
  F_minus : ∃ (f : Addr) (fd : FuncData), Fun K "minus" "minus" st_minus f fd ∧ mg "minus" = some (.ref f)
  F_take_row : ∃ (f : Addr) (fd : FuncData), Fun K "take_row" "take_row" st_take_row f fd ∧ mg "take_row" = some (.ref f)
  G_Arms__difference_row : ∃ (C f : Addr) (fd : FuncData), mg "Arms" = some (.ref C) ∧ Cls K C ∧ Meth K C "difference_row" f ∧ Fun K "difference_row" "Arms.difference_row" st_Arms__difference_row f fd
  F_square_by : ∃ (f : Addr) (fd : FuncData), Fun K "square_by" "square_by" st_square_by f fd ∧ mg "square_by" = some (.ref f)
  F_square_between : ∃ (f : Addr) (fd : FuncData), Fun K "square_between" "square_between" st_square_between f fd ∧ mg "square_between" = some (.ref f)
  F__law_called : ∃ (f : Addr) (fd : FuncData), Fun K "_law_called" "_law_called" st__law_called f fd ∧ mg "_law_called" = some (.ref f)
  F__law_form : ∃ (f : Addr) (fd : FuncData), Fun K "_law_form" "_law_form" st__law_form f fd ∧ mg "_law_form" = some (.ref f)
  F__law_is_ratio : ∃ (f : Addr) (fd : FuncData), Fun K "_law_is_ratio" "_law_is_ratio" st__law_is_ratio f fd ∧ mg "_law_is_ratio" = some (.ref f)
  F__law_is_place : ∃ (f : Addr) (fd : FuncData), Fun K "_law_is_place" "_law_is_place" st__law_is_place f fd ∧ mg "_law_is_place" = some (.ref f)
  F__law_stand : ∃ (f : Addr) (fd : FuncData), Fun K "_law_stand" "_law_stand" st__law_stand f fd ∧ mg "_law_stand" = some (.ref f)
  F__law_gap : ∃ (f : Addr) (fd : FuncData), Fun K "_law_gap" "_law_gap" st__law_gap f fd ∧ mg "_law_gap" = some (.ref f)
  F__law_same : ∃ (f : Addr) (fd : FuncData), Fun K "_law_same" "_law_same" st__law_same f fd ∧ mg "_law_same" = some (.ref f)
  F__law_same_row : ∃ (f : Addr) (fd : FuncData), Fun K "_law_same_row" "_law_same_row" st__law_same_row f fd ∧ mg "_law_same_row" = some (.ref f)
  F__law_same_rows : ∃ (f : Addr) (fd : FuncData), Fun K "_law_same_rows" "_law_same_rows" st__law_same_rows f fd ∧ mg "_law_same_rows" = some (.ref f)
  F__law_square : ∃ (f : Addr) (fd : FuncData), Fun K "_law_square" "_law_square" st__law_square f fd ∧ mg "_law_square" = some (.ref f)
  F__law_right : ∃ (f : Addr) (fd : FuncData), Fun K "_law_right" "_law_right" st__law_right f fd ∧ mg "_law_right" = some (.ref f)
  F__law_asked : ∃ (f : Addr) (fd : FuncData), Fun K "_law_asked" "_law_asked" st__law_asked f fd ∧ mg "_law_asked" = some (.ref f)
  F__law_most : ∃ (f : Addr) (fd : FuncData), Fun K "_law_most" "_law_most" st__law_most f fd ∧ mg "_law_most" = some (.ref f)
  F__law_mark : ∃ (f : Addr) (fd : FuncData), Fun K "_law_mark" "_law_mark" st__law_mark f fd ∧ mg "_law_mark" = some (.ref f)
  F__law_wide : ∃ (f : Addr) (fd : FuncData), Fun K "_law_wide" "_law_wide" st__law_wide f fd ∧ mg "_law_wide" = some (.ref f)
  F__law_any_place : ∃ (f : Addr) (fd : FuncData), Fun K "_law_any_place" "_law_any_place" st__law_any_place f fd ∧ mg "_law_any_place" = some (.ref f)
  F__law_odd : ∃ (f : Addr) (fd : FuncData), Fun K "_law_odd" "_law_odd" st__law_odd f fd ∧ mg "_law_odd" = some (.ref f)
  F__law_some_place : ∃ (f : Addr) (fd : FuncData), Fun K "_law_some_place" "_law_some_place" st__law_some_place f fd ∧ mg "_law_some_place" = some (.ref f)
  F__law_world : ∃ (f : Addr) (fd : FuncData), Fun K "_law_world" "_law_world" st__law_world f fd ∧ mg "_law_world" = some (.ref f)
  F_law : ∃ (f : Addr) (fd : FuncData), Fun K "law" "law" st_law f fd ∧ mg "law" = some (.ref f)
  X_BadArms : ∃ (C fI : Addr) (fd : FuncData), mg "BadArms" = some (.ref C) ∧ OexC K C ∧ (∀ f ∈ [("index" : Str), ("what" : Str)], PySem.W.findIn K (.ref C) f = some none) ∧ PySem.W.findIn K (.ref C) "__init__" = some (some (.ref fI)) ∧ PySem.W.typeIn K (.ref fI) = some (.type "function") ∧ Fun K "__init__" "BadArms.__init__" st_BadArms fI fd ∧ PySem.W.exmOne K (.ref C) (.ref C) = some true ∧ XfC K C
  X_BadPose : ∃ (C fI : Addr) (fd : FuncData), mg "BadPose" = some (.ref C) ∧ OexC K C ∧ (∀ f ∈ [("index" : Str)], PySem.W.findIn K (.ref C) f = some none) ∧ PySem.W.findIn K (.ref C) "__init__" = some (some (.ref fI)) ∧ PySem.W.typeIn K (.ref fI) = some (.type "function") ∧ Fun K "__init__" "BadPose.__init__" st_BadPose fI fd ∧ PySem.W.exmOne K (.ref C) (.ref C) = some true ∧ XfC K C
  X_NoBar : ∃ (C fI : Addr) (fd : FuncData), mg "NoBar" = some (.ref C) ∧ OexC K C ∧ (∀ f ∈ [("number" : Str)], PySem.W.findIn K (.ref C) f = some none) ∧ PySem.W.findIn K (.ref C) "__init__" = some (some (.ref fI)) ∧ PySem.W.typeIn K (.ref fI) = some (.type "function") ∧ Fun K "__init__" "NoBar.__init__" st_NoBar fI fd ∧ PySem.W.exmOne K (.ref C) (.ref C) = some true ∧ XfC K C
  Q_BadPlace : ∀ c' ∈ (["BadPose", "BadPlace"] : List Str), Catch K mg c' "BadPlace"
  Q_BadPose : ∀ c' ∈ (["BadPose", "BadPlace"] : List Str), Catch K mg c' "BadPose"
  M_BadPlace : ∃ C : Addr, mg "BadPlace" = some (.ref C)
  M_BadPose : ∃ C : Addr, mg "BadPose" = some (.ref C)
  g_MAST : ∃ t : Tok, mg "MAST" = some (.int (-1) t)
  g_MOST_BARS : ∃ t : Tok, mg "MOST_BARS" = some (.int 6 t)
  g_MOST_LETTERS : ∃ t : Tok, mg "MOST_LETTERS" = some (.int 4 t)
  g_ONE : ∃ Z : Addr, mg "ONE" = some (.ref Z) ∧ ∀ (h : Addr) (H : Hp), Den K mg h H (.ref Z) (.tup [.int 1, .int 1])
  g_ZERO : ∃ Z : Addr, mg "ZERO" = some (.ref Z) ∧ ∀ (h : Addr) (H : Hp), Den K mg h H (.ref Z) (.tup [.int 0, .int 1])
  A_bars : FldOk K mg ["Arms"] "bars"
  A_letters : FldOk K mg ["Arms"] "letters"
  i_gcd : mg "gcd" = some (.builtin "math.gcd")
  z_abs : mg "abs" = none
  z_all : mg "all" = none
  z_bool : mg "bool" = none
  z_enumerate : mg "enumerate" = none
  z_int : mg "int" = none
  z_isinstance : mg "isinstance" = none
  z_len : mg "len" = none
  z_list : mg "list" = none
  z_max : mg "max" = none
  z_min : mg "min" = none
  z_range : mg "range" = none
  z_repr : mg "repr" = none
  z_tuple : mg "tuple" = none
  z_zip : mg "zip" = none
  T0_BadPlace : Thrown0 K mg "BadPlace"
section
variable {P : Program} {w : World} {K : Frag} {mg : Str → Option Value} {base : Heap}
theorem t_BadArms (T : Txt K mg) : Thrown P w K mg base "BadArms" ["index", "what"] := by
  obtain ⟨C, fI, fd, h1, h2, h3, h4, h5, F, h6, h7⟩ := T.X_BadArms
  exact ⟨C, fI, fd, ["self", "index", "what"], h1, h2, h3, h4, h5, init2 F sc_BadArms rfl, F.binds fun _ _ _ _ _ _ us hl => match us, hl with | [_, _, _], _ => rfl⟩
theorem t_BadPose (T : Txt K mg) : Thrown P w K mg base "BadPose" ["index"] := by
  obtain ⟨C, fI, fd, h1, h2, h3, h4, h5, F, h6, h7⟩ := T.X_BadPose
  exact ⟨C, fI, fd, ["self", "index"], h1, h2, h3, h4, h5, init1 F sc_BadPose rfl, F.binds fun _ _ _ _ _ _ us hl => match us, hl with | [_, _], _ => rfl⟩
theorem t_NoBar (T : Txt K mg) : Thrown P w K mg base "NoBar" ["number"] := by
  obtain ⟨C, fI, fd, h1, h2, h3, h4, h5, F, h6, h7⟩ := T.X_NoBar
  exact ⟨C, fI, fd, ["self", "number"], h1, h2, h3, h4, h5, init1 F sc_NoBar rfl, F.binds fun _ _ _ _ _ _ us hl => match us, hl with | [_, _], _ => rfl⟩
theorem f__law_hand (T : Txt K mg) {f : Addr} {fd : FuncData} (F : Fun K "_law_hand" "_law_hand" st__law_hand f fd) : FnOk P w K mg base (L2.CX P w) 1 f fd ["_law_script"] (spHand K) := by
  refine F.okX (k := 0) sc__law_hand (fun vs H Q E h => ?_) (fun cdv A outer s H vs Q E hr h => ⟨tHand K, ?_, ?_⟩)
  · obtain ⟨a, ns, rfl, _⟩ := h
    rfl
  · exact pss_cons (ps_set (i := 1) sc__law_hand.nd rfl (.inl rfl) (pe_lst pa_nil)) (pss_cons (ps_set (i := 2) sc__law_hand.nd rfl (.inl rfl) (pe_op op_add (pe_callB call_lenA (by rfl) T.z_len (by decide +kernel) (pa_cons (pv 0) pa_nil)) pe_int)) (pss_cons (ps_for (passes_of rfl) rfl (pi_list (pv 0)) (pg_name (i := 3) sc__law_hand.nd rfl (.inl rfl)) (pss_cons (ps_set (i := 4) sc__law_hand.nd rfl (.inl rfl) (pe_callB call_abs (by rfl) T.z_abs (by decide +kernel) (pa_cons (pe_callTy call_int1 (by rfl) T.z_int (by decide +kernel) (pa_cons (pv 3) pa_nil)) pa_nil))) (pss_cons (ps_set (i := 2) sc__law_hand.nd rfl (.inl rfl) (pe_op op_add (pe_op op_mod (pe_callTy call_int1 (by rfl) T.z_int (by decide +kernel) (pa_cons (pe_op op_add (pe_op op_mul (pv 2) pe_int) (pv 4)) pa_nil)) pe_int) pe_int)) (pss_one (ps_if (pt_cmpR op_ge (pv 4) (pe_op op_pow pe_int pe_int) (nomark _)) (pss_one (ps_expr (pe_bm PySem.F.plainAttrs_list PySem.F.slot_list_append PySem.F.type_list_append mt_append (pv 1) (pa_cons (pv 4) pa_nil)))) pss_nil))))) (pss_one (ps_ret (pe_lst (pa_cons (pv 1) (pa_cons (pv 2) (pa_cons pe_int pa_nil))))))))
  · have h' := h
    obtain ⟨a, ns, rfl, _⟩ := h'
    exact hand_run h
theorem f__law_take (T : Txt K mg) {f : Addr} {fd : FuncData} (F : Fun K "_law_take" "_law_take" st__law_take f fd) : FnOk P w K mg base (L2.CX P w) 1 f fd ["_law_hand_here", "_law_many"] (spM K mg 2 m__law_take) := by
  refine F.okX (k := 0) sc__law_take (fun vs H Q E h => h.1) (fun cdv A outer s H vs Q E hr h => ⟨tTake K, ?_, ?_⟩)
  · exact pss_cons (ps_while (passes_of rfl) (pw_and (pt_truth (pe_ix ix_list (pv 0) pe_int (fun _ _ => rfl)) (fun _ => rfl)) (pw_and1 (pt_cmpR op_eq (pe_ix ix_list (pe_ix ix_list (pv 0) pe_int (fun _ _ => rfl)) pe_int (fun _ _ => rfl)) pe_int (nomark _)))).pt (pss_one (ps_asg (pe_slice sl_list (pe_ix ix_list (pv 0) pe_int (fun _ _ => rfl)) (po_some pe_int) po_none) (pg_sub (pv 0) pe_int set_list)))) (pss_cons (ps_if (pt_truth (pe_ix ix_list (pv 0) pe_int (fun _ _ => rfl)) (fun _ => rfl)) (pss_cons (ps_set (i := 2) sc__law_take.nd rfl (.inl rfl) (pe_ix ix_list (pe_ix ix_list (pv 0) pe_int (fun _ _ => rfl)) pe_int (fun _ _ => rfl))) (pss_cons (ps_asg (pe_op op_fdivW (pe_callTy call_int1 (by rfl) T.z_int (by decide +kernel) (pa_cons (pv 2) pa_nil)) (pv 1)) (pg_sub (pe_ix ix_list (pv 0) pe_int (fun _ _ => rfl)) pe_int set_list)) (pss_one (ps_ret (pe_op op_mod (pe_callTy call_int1 (by rfl) T.z_int (by decide +kernel) (pa_cons (pv 2) pa_nil)) (pv 1)))))) pss_nil) (pss_cons (ps_asg (pe_op op_add (pe_ix ix_list (pv 0) pe_int (fun _ _ => rfl)) pe_int) (pg_sub (pv 0) pe_int set_list)) (pss_cons (ps_asg (pe_op op_mod (pe_callTy call_int1 (by rfl) T.z_int (by decide +kernel) (pa_cons (pe_op op_add (pe_op op_mul (pe_ix ix_list (pv 0) pe_int (fun _ _ => rfl)) pe_int) pe_int) pa_nil)) pe_int) (pg_sub (pv 0) pe_int set_list)) (pss_cons (ps_set (i := 3) sc__law_take.nd rfl (.inl rfl) (pe_op op_mod (pe_callTy call_int1 (by rfl) T.z_int (by decide +kernel) (pa_cons (pe_op op_add (pe_op op_mul (pe_ix ix_list (pv 0) pe_int (fun _ _ => rfl)) pe_int) (pe_op op_mul (pe_ix ix_list (pv 0) pe_int (fun _ _ => rfl)) pe_int)) pa_nil)) pe_int)) (pss_cons (ps_set (i := 4) sc__law_take.nd rfl (.inl rfl) (pe_op op_mod (pe_callTy call_int1 (by rfl) T.z_int (by decide +kernel) (pa_cons (pe_op op_add (pe_op op_add (pe_op op_mul (pv 3) (pv 3)) (pe_op op_mul (pe_ix ix_list (pv 0) pe_int (fun _ _ => rfl)) pe_int)) (pe_op op_fdiv (pv 3) pe_int)) pa_nil)) pe_int)) (pss_one (ps_ret (pe_op op_mod (pe_callTy call_int1 (by rfl) T.z_int (by decide +kernel) (pa_cons (pe_op op_fdiv (pv 4) pe_int) pa_nil)) (pv 1)))))))))
  · have h' := h
    obtain ⟨hl, _⟩ := h'
    obtain ⟨a, b, rfl⟩ : ∃ a b, vs = [a, b] := by
      match vs, hl with
      | [a, b], _ => exact ⟨a, b, rfl⟩
    exact take_run h
theorem c__law_take (T : Txt K mg) : Callee P w K mg base 1 "_law_take" 2 [] m__law_take := by
  obtain ⟨f, fd, F, hm⟩ := T.F__law_take
  exact ⟨f, fd, ["_law_hand_here", "_law_many"], [], [], f__law_take T F, hm, F.kp, F.binds (ps := ["_law_hand_here", "_law_many"]) (fun _ _ _ _ _ _ us hl => match us, hl with | [_, _], _ => rfl), .nil, fun _ _ => .nil⟩
theorem f_is_whole (T : Txt K mg) {f : Addr} {fd : FuncData} (F : FunD K "is_whole" "is_whole" (defArgs st_is_whole) (defBody st_is_whole) (defScope st_is_whole) [.non, .non] [] f fd) : FnOk P w K mg base (L2.CX P w) 1 f fd ["thing", "low", "high"] (spM K mg 3 m_is_whole) := by
  have z_bool := T.z_bool
  have z_int := T.z_int
  have z_isinstance := T.z_isinstance
  show FnOk P w K mg base (L2.CX P w) (0 + 1) f fd ["thing", "low", "high"] (spM K mg 3 (mDef 3 b_is_whole))
  refine okMD F sc_is_whole rfl rfl (fun cdv A outer s H E hr => ?_)
  exact (qss_cons (qs_if (qt_w (qw_or (qt_not (qt_tru (qe_isi (qe_var 0) (by rfl) z_isinstance (by rfl) z_int (by decide +kernel)))) (qw_or1 (qt_tru (qe_isi (qe_var 0) (by rfl) z_isinstance (by rfl) z_bool (by decide +kernel)))))) (qss_one (qs_ret qe_bl)) qss_nil) (qss_one (qs_ret (qe_and (qe_or (qe_cmp op_isA os_is (qe_var 1) qe_non (nomark _)) (qe_one (qe_cmp op_ge os_ge (qe_var 0) (qe_var 1) (nomark _)))) (qe_one (qe_or (qe_cmp op_isA os_is (qe_var 2) qe_non (nomark _)) (qe_one (qe_cmp op_le os_le (qe_var 0) (qe_var 2) (nomark _)))))))))
theorem c_is_whole_1 (T : Txt K mg) : Callee P w K mg base 1 "is_whole" 3 [.non, .non] m_is_whole := by
  obtain ⟨f, fd, F, hm⟩ := T.F_is_whole
  obtain ⟨ds, hv, hb⟩ := FunD.binds1 (ps := ["thing", "low", "high"]) F 1 0 (by simp) rfl (fun T kV doc pm an cdv ct us its l1 l2 => match us, its, l1, l2 with | [_], [_, _], _, _ => ⟨_, rfl, rfl⟩)
  exact ⟨f, fd, ["thing", "low", "high"], _, ds, f_is_whole T  F, hm, F.kp, hb, hv, fun _ _ => .cons .non (.cons .non (.nil))⟩
theorem c_is_whole_2 (T : Txt K mg) : Callee P w K mg base 1 "is_whole" 3 [.non] m_is_whole := by
  obtain ⟨f, fd, F, hm⟩ := T.F_is_whole
  obtain ⟨ds, hv, hb⟩ := FunD.binds1 (ps := ["thing", "low", "high"]) F 2 1 (by simp) rfl (fun T kV doc pm an cdv ct us its l1 l2 => match us, its, l1, l2 with | [_, _], [_, _], _, _ => ⟨_, rfl, rfl⟩)
  exact ⟨f, fd, ["thing", "low", "high"], _, ds, f_is_whole T  F, hm, F.kp, hb, hv, fun _ _ => .cons .non (.nil)⟩
theorem c_is_whole (T : Txt K mg) : Callee P w K mg base 1 "is_whole" 3 [] m_is_whole := by
  obtain ⟨f, fd, F, hm⟩ := T.F_is_whole
  obtain ⟨ds, hv, hb⟩ := FunD.binds1 (ps := ["thing", "low", "high"]) F 3 2 (by simp) rfl (fun T kV doc pm an cdv ct us its l1 l2 => match us, its, l1, l2 with | [_, _, _], [_, _], _, _ => ⟨_, rfl, rfl⟩)
  exact ⟨f, fd, ["thing", "low", "high"], _, ds, f_is_whole T  F, hm, F.kp, hb, hv, fun _ _ => .nil⟩
theorem f_is_ratio (T : Txt K mg) (C_is_whole_1 : Callee P w K mg base 1 "is_whole" 3 [.non, .non] m_is_whole) (C_is_whole_2 : Callee P w K mg base 1 "is_whole" 3 [.non] m_is_whole) {f : Addr} {fd : FuncData} (F : Fun K "is_ratio" "is_ratio" st_is_ratio f fd) : FnOk P w K mg base (L2.CX P w) 2 f fd ["thing"] (spM K mg 1 m_is_ratio) := by
  have i_gcd := T.i_gcd
  have z_isinstance := T.z_isinstance
  have z_len := T.z_len
  have z_tuple := T.z_tuple
  show FnOk P w K mg base (L2.CX P w) (1 + 1) f fd ["thing"] (spM K mg 1 (mDef 3 b_is_ratio))
  refine okM F sc_is_ratio rfl rfl (fun cdv A outer s H E hr => ?_)
  exact (qss_cons (qs_if (qt_w (qw_or (qt_not (qt_tru (qe_isi (qe_var 0) (by rfl) z_isinstance (by rfl) z_tuple (by decide +kernel)))) (qw_or1 (qt_cmp (op_neD hr.units) os_ne (qe_callB call_lenA cs_len (by rfl) z_len (by decide +kernel) (qa_cons (qe_var 0) qa_nil)) qe_int (nomark _))))) (qss_one (qs_ret qe_bl)) qss_nil) (qss_cons (qs_asg (qe_var 0) (qg_seq 2 rfl (qgs_cons (qg_name 1 sc_is_ratio.nd) (qgs_cons (qg_name 2 sc_is_ratio.nd) qgs_nil)))) (qss_one (qs_ret (qe_and (qe_c C_is_whole_1 hr (by decide) cx_takes (qa_cons (qe_var 1) qa_nil)) (qe_and (qe_c C_is_whole_2 hr (by decide) cx_takes (qa_cons (qe_var 2) (qa_cons qe_int qa_nil))) (qe_one (qe_cmp (op_eqD hr.units) os_eq (qe_callBfun cr_gcd cs_gcd (by rfl) i_gcd (qa_cons (qe_var 1) (qa_cons (qe_var 2) qa_nil))) qe_int (nomark _)))))))))
theorem c_is_ratio (T : Txt K mg) (C_is_whole_1 : Callee P w K mg base 1 "is_whole" 3 [.non, .non] m_is_whole) (C_is_whole_2 : Callee P w K mg base 1 "is_whole" 3 [.non] m_is_whole) : Callee P w K mg base 2 "is_ratio" 1 [] m_is_ratio := by
  obtain ⟨f, fd, F, hm⟩ := T.F_is_ratio
  exact ⟨f, fd, ["thing"], [], [], f_is_ratio T C_is_whole_1 C_is_whole_2 F, hm, F.kp, F.binds (ps := ["thing"]) (fun _ _ _ _ _ _ us hl => match us, hl with | [_], _ => rfl), .nil, fun _ _ => .nil⟩
theorem f_is_row (T : Txt K mg) {f : Addr} {fd : FuncData} (F : FunD K "is_row" "is_row" (defArgs st_is_row) (defBody st_is_row) (defScope st_is_row) [.int 0, .non] [] f fd) : FnOk P w K mg base (L2.CX P w) 1 f fd ["thing", "least", "most"] (spM K mg 3 m_is_row) := by
  have z_isinstance := T.z_isinstance
  have z_len := T.z_len
  have z_list := T.z_list
  have z_tuple := T.z_tuple
  show FnOk P w K mg base (L2.CX P w) (0 + 1) f fd ["thing", "least", "most"] (spM K mg 3 (mDef 3 b_is_row))
  refine okMD F sc_is_row rfl rfl (fun cdv A outer s H E hr => ?_)
  exact (qss_cons (qs_if (qt_not (qt_tru (qe_isi2 (qe_var 0) (by rfl) z_isinstance (by rfl) z_list (by decide +kernel) (by rfl) z_tuple (by decide +kernel)))) (qss_one (qs_ret qe_bl)) qss_nil) (qss_one (qs_ret (qe_and (qe_cmp op_ge os_ge (qe_callB call_lenA cs_len (by rfl) z_len (by decide +kernel) (qa_cons (qe_var 0) qa_nil)) (qe_var 1) (nomark _)) (qe_one (qe_or (qe_cmp op_isA os_is (qe_var 2) qe_non (nomark _)) (qe_one (qe_cmp op_le os_le (qe_callB call_lenA cs_len (by rfl) z_len (by decide +kernel) (qa_cons (qe_var 0) qa_nil)) (qe_var 2) (nomark _)))))))))
theorem c_is_row_1 (T : Txt K mg) : Callee P w K mg base 1 "is_row" 3 [.int 0, .non] m_is_row := by
  obtain ⟨f, fd, F, hm⟩ := T.F_is_row
  obtain ⟨ds, hv, hb⟩ := FunD.binds1 (ps := ["thing", "least", "most"]) F 1 0 (by simp) rfl (fun T kV doc pm an cdv ct us its l1 l2 => match us, its, l1, l2 with | [_], [_, _], _, _ => ⟨_, rfl, rfl⟩)
  exact ⟨f, fd, ["thing", "least", "most"], _, ds, f_is_row T  F, hm, F.kp, hb, hv, fun _ _ => .cons (.int _) (.cons .non (.nil))⟩
theorem c_is_row (T : Txt K mg) : Callee P w K mg base 1 "is_row" 3 [] m_is_row := by
  obtain ⟨f, fd, F, hm⟩ := T.F_is_row
  obtain ⟨ds, hv, hb⟩ := FunD.binds1 (ps := ["thing", "least", "most"]) F 3 2 (by simp) rfl (fun T kV doc pm an cdv ct us its l1 l2 => match us, its, l1, l2 with | [_, _, _], [_, _], _, _ => ⟨_, rfl, rfl⟩)
  exact ⟨f, fd, ["thing", "least", "most"], _, ds, f_is_row T  F, hm, F.kp, hb, hv, fun _ _ => .nil⟩
theorem f__check_bar (T : Txt K mg) (C_is_ratio : Callee P w K mg base 2 "is_ratio" 1 [] m_is_ratio) (C_is_row : Callee P w K mg base 1 "is_row" 3 [] m_is_row) (C_is_whole : Callee P w K mg base 1 "is_whole" 3 [] m_is_whole) {f : Addr} {fd : FuncData} (F : Fun K "_check_bar" "_check_bar" st__check_bar f fd) : FnOk P w K mg base (L2.CX P w) 3 f fd ["index", "bar"] (spM K mg 2 m__check_bar) := by
  obtain ⟨_, g_MAST⟩ := T.g_MAST
  obtain ⟨_, g_MOST_LETTERS⟩ := T.g_MOST_LETTERS
  have T_BadArms : Thrown P w K mg base "BadArms" ["index", "what"] := t_BadArms T
  show FnOk P w K mg base (L2.CX P w) (2 + 1) f fd ["index", "bar"] (spM K mg 2 (mDef 5 b__check_bar))
  refine okM F sc__check_bar rfl rfl (fun cdv A outer s H E hr => ?_)
  exact (qss_cons (qs_if (qt_not (qt_tru (qe_c C_is_row hr (by decide) cx_takes (qa_cons (qe_var 1) (qa_cons qe_int (qa_cons qe_int qa_nil)))))) (qss_one (qs_throw T_BadArms hr (by decide) rfl cx_takes (qa_cons (qe_var 0) (qa_cons qe_str qa_nil)))) qss_nil) (qss_cons (qs_asg (qe_var 1) (qg_seq 3 rfl (qgs_cons (qg_name 2 sc__check_bar.nd) (qgs_cons (qg_name 3 sc__check_bar.nd) (qgs_cons (qg_name 4 sc__check_bar.nd) qgs_nil))))) (qss_cons (qs_if (qt_not (qt_tru (qe_c C_is_whole hr (by decide) cx_takes (qa_cons (qe_var 2) (qa_cons (qe_glob (v := .int _) (by rfl) g_MAST ⟨_, rfl⟩ fun _ _ => .int _) (qa_cons (qe_op op_sub os_sub (qe_var 0) qe_int) qa_nil)))))) (qss_one (qs_throw T_BadArms hr (by decide) rfl cx_takes (qa_cons (qe_var 0) (qa_cons qe_str qa_nil)))) qss_nil) (qss_cons (qs_if (qt_not (qt_tru (qe_c C_is_ratio hr (by decide) cx_takes (qa_cons (qe_var 3) qa_nil)))) (qss_one (qs_throw T_BadArms hr (by decide) rfl cx_takes (qa_cons (qe_var 0) (qa_cons qe_str qa_nil)))) qss_nil) (qss_one (qs_if (qt_not (qt_tru (qe_c C_is_whole hr (by decide) cx_takes (qa_cons (qe_var 4) (qa_cons qe_int (qa_cons (qe_glob (v := .int _) (by rfl) g_MOST_LETTERS ⟨_, rfl⟩ fun _ _ => .int _) qa_nil)))))) (qss_one (qs_throw T_BadArms hr (by decide) rfl cx_takes (qa_cons (qe_var 0) (qa_cons qe_str qa_nil)))) qss_nil))))))
theorem c__check_bar (T : Txt K mg) (C_is_ratio : Callee P w K mg base 2 "is_ratio" 1 [] m_is_ratio) (C_is_row : Callee P w K mg base 1 "is_row" 3 [] m_is_row) (C_is_whole : Callee P w K mg base 1 "is_whole" 3 [] m_is_whole) : Callee P w K mg base 3 "_check_bar" 2 [] m__check_bar := by
  obtain ⟨f, fd, F, hm⟩ := T.F__check_bar
  exact ⟨f, fd, ["index", "bar"], [], [], f__check_bar T C_is_ratio C_is_row C_is_whole F, hm, F.kp, F.binds (ps := ["index", "bar"]) (fun _ _ _ _ _ _ us hl => match us, hl with | [_, _], _ => rfl), .nil, fun _ _ => .nil⟩
theorem f__check_bars (T : Txt K mg) (C__check_bar : Callee P w K mg base 3 "_check_bar" 2 [] m__check_bar) (C_is_row : Callee P w K mg base 1 "is_row" 3 [] m_is_row) {f : Addr} {fd : FuncData} (F : Fun K "_check_bars" "_check_bars" st__check_bars f fd) : FnOk P w K mg base (L2.CX P w) 4 f fd ["bars"] (spM K mg 1 m__check_bars) := by
  obtain ⟨_, g_MOST_BARS⟩ := T.g_MOST_BARS
  have z_enumerate := T.z_enumerate
  have T_BadArms : Thrown P w K mg base "BadArms" ["index", "what"] := t_BadArms T
  show FnOk P w K mg base (L2.CX P w) (3 + 1) f fd ["bars"] (spM K mg 1 (mDef 3 b__check_bars))
  refine okM F sc__check_bars rfl rfl (fun cdv A outer s H E hr => ?_)
  exact (qss_cons (qs_if (qt_not (qt_tru (qe_c C_is_row hr (by decide) cx_takes (qa_cons (qe_var 0) (qa_cons qe_int (qa_cons (qe_glob (v := .int _) (by rfl) g_MOST_BARS ⟨_, rfl⟩ fun _ _ => .int _) qa_nil)))))) (qss_one (qs_throw T_BadArms hr (by decide) rfl cx_takes (qa_cons qe_int (qa_cons qe_str qa_nil)))) qss_nil) (qss_one (qs_forp cx_pass rfl (qip_enum (by rfl) z_enumerate (qe_var 0)) (qg_seq 2 rfl (qgs_cons (qg_name 1 sc__check_bars.nd) (qgs_cons (qg_name 2 sc__check_bars.nd) qgs_nil))) (qss_one (qs_expr (qe_c C__check_bar hr (by decide) cx_takes (qa_cons (qe_var 1) (qa_cons (qe_var 2) qa_nil))))))))
theorem c__check_bars (T : Txt K mg) (C__check_bar : Callee P w K mg base 3 "_check_bar" 2 [] m__check_bar) (C_is_row : Callee P w K mg base 1 "is_row" 3 [] m_is_row) : Callee P w K mg base 4 "_check_bars" 1 [] m__check_bars := by
  obtain ⟨f, fd, F, hm⟩ := T.F__check_bars
  exact ⟨f, fd, ["bars"], [], [], f__check_bars T C__check_bar C_is_row F, hm, F.kp, F.binds (ps := ["bars"]) (fun _ _ _ _ _ _ us hl => match us, hl with | [_], _ => rfl), .nil, fun _ _ => .nil⟩
theorem f__count_letters (T : Txt K mg) {f : Addr} {fd : FuncData} (F : Fun K "_count_letters" "_count_letters" st__count_letters f fd) : FnOk P w K mg base (L2.CX P w) 3 f fd ["bars"] (spM K mg 1 m__count_letters) := by
  have z_all := T.z_all
  have z_max := T.z_max
  have z_range := T.z_range
  have T_BadArms : Thrown P w K mg base "BadArms" ["index", "what"] := t_BadArms T
  show FnOk P w K mg base (L2.CX P w) (2 + 1) f fd ["bars"] (spM K mg 1 (mDef 5 b__count_letters))
  refine okM F sc__count_letters rfl rfl (fun cdv A outer s H E hr => ?_)
  exact (qss_cons (qs_set 1 sc__count_letters.nd (qe_lc rfl sc__count_letters.nd (qi_seq (qe_var 0)) (blkOk_by (N := ["bars", "used", "bar", "greatest", "letter"]) (sc := defScope st__count_letters) (own := [("bar", 2)]) (by decide +kernel)) rfl (by decide) sg_name (g := gName 2) (fun _ _ _ _ _ => (qg_name 2 sc__count_letters.nd).1) (fun _ _ _ _ _ => qts_nil) (fun _ _ _ _ _ => (qe_ix (qe_var 2) qe_int)))) (qss_cons (qs_set 3 sc__count_letters.nd (qe_callB (call_maxA rfl) cs_max (by rfl) z_max (by decide +kernel) (qa_cons (qe_var 1) qa_nil))) (qss_cons (qs_if (qt_w (qw_or (qt_cmp (op_eqD hr.units) os_eq (qe_var 3) qe_int (nomark _)) (qw_or1 (qt_not (qt_tru (qe_callB (cr_all rfl) cs_all (by rfl) z_all (by decide +kernel) (qa_cons (qe_lc rfl sc__count_letters.nd (qi_rng2 (by rfl) z_range qe_int (qe_op op_addA os_add (qe_var 3) qe_int)) (blkOk_by (N := ["bars", "used", "bar", "greatest", "letter"]) (sc := defScope st__count_letters) (own := [("letter", 4)]) (by decide +kernel)) rfl (by decide) sg_name (g := gName 4) (fun _ _ _ _ _ => (qg_name 4 sc__count_letters.nd).1) (fun _ _ _ _ _ => qts_nil) (fun _ _ _ _ _ => (qe_cmp (op_inD hr.units65) os_in (qe_var 4) (qe_var 1) rfl))) qa_nil))))))) (qss_one (qs_throw T_BadArms hr (by decide) rfl cx_takes (qa_cons qe_int (qa_cons qe_str qa_nil)))) qss_nil) (qss_one (qs_ret (qe_var 3))))))
theorem c__count_letters (T : Txt K mg) : Callee P w K mg base 3 "_count_letters" 1 [] m__count_letters := by
  obtain ⟨f, fd, F, hm⟩ := T.F__count_letters
  exact ⟨f, fd, ["bars"], [], [], f__count_letters T  F, hm, F.kp, F.binds (ps := ["bars"]) (fun _ _ _ _ _ _ us hl => match us, hl with | [_], _ => rfl), .nil, fun _ _ => .nil⟩
theorem f_Arms____init__ (T : Txt K mg) (C__check_bars : Callee P w K mg base 4 "_check_bars" 1 [] m__check_bars) (C__count_letters : Callee P w K mg base 3 "_count_letters" 1 [] m__count_letters) {f : Addr} {fd : FuncData} (F : Fun K "__init__" "Arms.__init__" st_Arms____init__ f fd) : FnOk P w K mg base (L2.CX P w) (4 + 1) f fd ["self", "bars"] (spN K mg "Arms" 1 (mInit 3 "Arms" b_Arms____init__)) := by
  have A_bars := T.A_bars
  have A_letters := T.A_letters
  have z_tuple := T.z_tuple
  refine okI F sc_Arms____init__ rfl rfl (by decide) (fun cdv A outer s H E hr => ?_)
  exact (qss_cons (qs_expr (qe_c C__check_bars hr (by decide) cx_takes (qa_cons (qe_var 1) qa_nil))) (qss_cons (qs_fld 0 A_letters rfl (qe_c C__count_letters hr (by decide) cx_takes (qa_cons (qe_var 1) qa_nil))) (qss_one (qs_fld 0 A_bars rfl (qe_callTy call_tuple_of cs_tuple (by rfl) z_tuple (by decide +kernel) (qa_cons (qe_lc rfl sc_Arms____init__.nd (qi_seq (qe_var 1)) (blkOk_by (N := ["self", "bars", "bar"]) (sc := defScope st_Arms____init__) (own := [("bar", 2)]) (by decide +kernel)) rfl (by decide) sg_name (g := gName 2) (fun _ _ _ _ _ => (qg_name 2 sc_Arms____init__.nd).1) (fun _ _ _ _ _ => qts_nil) (fun _ _ _ _ _ => (qe_callTy call_tuple_of cs_tuple (by rfl) z_tuple (by decide +kernel) (qa_cons (qe_var 2) qa_nil)))) qa_nil))))))
theorem c_Arms____init__ (T : Txt K mg) (C__check_bars : Callee P w K mg base 4 "_check_bars" 1 [] m__check_bars) (C__count_letters : Callee P w K mg base 3 "_count_letters" 1 [] m__count_letters) : Maker P w K mg base 5 "Arms" 1 [] m_Arms____init__ := by
  obtain ⟨C, f, fd, h1, h2, F⟩ := T.G_Arms____init__
  exact Mir.maker_of h1 h2 (f_Arms____init__ T C__check_bars C__count_letters F) (F.binds (ps := ["self", "bars"]) (fun _ _ _ _ _ _ us hl => match us, hl with | [_, _], _ => rfl))
theorem f__law_gcd (T : Txt K mg) {f : Addr} {fd : FuncData} (F : Fun K "_law_gcd" "_law_gcd" st__law_gcd f fd) : FnOk P w K mg base (L2.CX P w) 1 f fd ["_law_one", "_law_other"] (spM K mg 2 m__law_gcd) := by
  have z_abs := T.z_abs
  have z_int := T.z_int
  show FnOk P w K mg base (L2.CX P w) (0 + 1) f fd ["_law_one", "_law_other"] (spM K mg 2 (mDef 2 b__law_gcd))
  refine okM F sc__law_gcd rfl rfl (fun cdv A outer s H E hr => ?_)
  exact (qss_cons (qs_par 0 1 rfl sc__law_gcd.nd (by decide) (qa_cons (qe_callB call_abs cs_abs (by rfl) z_abs (by decide +kernel) (qa_cons (qe_var 0) qa_nil)) (qa_cons (qe_callB call_abs cs_abs (by rfl) z_abs (by decide +kernel) (qa_cons (qe_var 1) qa_nil)) qa_nil))) (qss_cons (qs_while cx_pass (qt_tru (qe_var 1)) (qss_one (qs_par 0 1 rfl sc__law_gcd.nd (by decide) (qa_cons (qe_var 1) (qa_cons (qe_op op_modN os_mod (qe_callTy call_int1 cs_int (by rfl) z_int (by decide +kernel) (qa_cons (qe_var 0) qa_nil)) (qe_var 1)) qa_nil))))) (qss_one (qs_ret (qe_var 0)))))
theorem c__law_gcd (T : Txt K mg) : Callee P w K mg base 1 "_law_gcd" 2 [] m__law_gcd := by
  obtain ⟨f, fd, F, hm⟩ := T.F__law_gcd
  exact ⟨f, fd, ["_law_one", "_law_other"], [], [], f__law_gcd T  F, hm, F.kp, F.binds (ps := ["_law_one", "_law_other"]) (fun _ _ _ _ _ _ us hl => match us, hl with | [_, _], _ => rfl), .nil, fun _ _ => .nil⟩
theorem f__law_ratio (T : Txt K mg) (C__law_gcd : Callee P w K mg base 1 "_law_gcd" 2 [] m__law_gcd) {f : Addr} {fd : FuncData} (F : Fun K "_law_ratio" "_law_ratio" st__law_ratio f fd) : FnOk P w K mg base (L2.CX P w) 2 f fd ["_law_top", "_law_bottom"] (spM K mg 2 m__law_ratio) := by
  show FnOk P w K mg base (L2.CX P w) (1 + 1) f fd ["_law_top", "_law_bottom"] (spM K mg 2 (mDef 3 b__law_ratio))
  refine okM F sc__law_ratio rfl rfl (fun cdv A outer s H E hr => ?_)
  exact (qss_cons (qs_set 2 sc__law_ratio.nd (qe_c C__law_gcd hr (by decide) cx_takes (qa_cons (qe_var 0) (qa_cons (qe_var 1) qa_nil)))) (qss_cons (qs_if (qt_cmp op_lt os_lt (qe_var 1) qe_int (nomark _)) (qss_one (qs_set 2 sc__law_ratio.nd (qe_un un_neg us_neg (qe_var 2)))) qss_nil) (qss_one (qs_ret (qe_tup (qa_cons (qe_op op_divA os_div (qe_var 0) (qe_var 2)) (qa_cons (qe_op op_divA os_div (qe_var 1) (qe_var 2)) qa_nil)))))))
theorem c__law_ratio (T : Txt K mg) (C__law_gcd : Callee P w K mg base 1 "_law_gcd" 2 [] m__law_gcd) : Callee P w K mg base 2 "_law_ratio" 2 [] m__law_ratio := by
  obtain ⟨f, fd, F, hm⟩ := T.F__law_ratio
  exact ⟨f, fd, ["_law_top", "_law_bottom"], [], [], f__law_ratio T C__law_gcd F, hm, F.kp, F.binds (ps := ["_law_top", "_law_bottom"]) (fun _ _ _ _ _ _ us hl => match us, hl with | [_, _], _ => rfl), .nil, fun _ _ => .nil⟩
theorem f__law_half (T : Txt K mg) (C__law_ratio : Callee P w K mg base 2 "_law_ratio" 2 [] m__law_ratio) (C__law_take : Callee P w K mg base 1 "_law_take" 2 [] m__law_take) {f : Addr} {fd : FuncData} (F : Fun K "_law_half" "_law_half" st__law_half f fd) : FnOk P w K mg base (L2.CX P w) 3 f fd ["_law_hand_here"] (spM K mg 1 m__law_half) := by
  show FnOk P w K mg base (L2.CX P w) (2 + 1) f fd ["_law_hand_here"] (spM K mg 1 (mDef 2 b__law_half))
  refine okM F sc__law_half rfl rfl (fun cdv A outer s H E hr => ?_)
  exact (qss_cons (qs_set 1 sc__law_half.nd (qe_c C__law_take hr (by decide) cx_takes (qa_cons (qe_var 0) (qa_cons qe_int qa_nil)))) (qss_cons (qs_if (qt_cmp (op_eqD hr.units) os_eq (qe_var 1) qe_int (nomark _)) (qss_one (qs_ret qe_non)) qss_nil) (qss_cons (qs_if (qt_cmp (op_eqD hr.units) os_eq (qe_var 1) qe_int (nomark _)) (qss_one (qs_ret (qe_c C__law_ratio hr (by decide) cx_takes (qa_cons (qe_op op_sub os_sub (qe_c C__law_take hr (by decide) cx_takes (qa_cons (qe_var 0) (qa_cons qe_int qa_nil))) qe_int) (qa_cons (qe_op op_addA os_add qe_int (qe_c C__law_take hr (by decide) cx_takes (qa_cons (qe_var 0) (qa_cons qe_int qa_nil)))) qa_nil))))) qss_nil) (qss_one (qs_ret (qe_ix (qe_lst (qa_cons (qe_tup (qa_cons qe_int (qa_cons qe_int qa_nil))) (qa_cons (qe_tup (qa_cons qe_int (qa_cons qe_int qa_nil))) (qa_cons (qe_tup (qa_cons qe_int (qa_cons qe_int qa_nil))) (qa_cons (qe_tup (qa_cons qe_int (qa_cons qe_int qa_nil))) (qa_cons (qe_tup (qa_cons qe_int (qa_cons qe_int qa_nil))) (qa_cons (qe_tup (qa_cons qe_int (qa_cons qe_int qa_nil))) (qa_cons (qe_tup (qa_cons (qe_un un_neg us_neg qe_int) (qa_cons qe_int qa_nil))) (qa_cons (qe_tup (qa_cons (qe_un un_neg us_neg qe_int) (qa_cons qe_int qa_nil))) (qa_cons (qe_tup (qa_cons (qe_un un_neg us_neg qe_int) (qa_cons qe_int qa_nil))) (qa_cons (qe_tup (qa_cons (qe_un un_neg us_neg qe_int) (qa_cons qe_int qa_nil))) (qa_cons (qe_tup (qa_cons (qe_un un_neg us_neg qe_int) (qa_cons qe_int qa_nil))) (qa_cons (qe_tup (qa_cons qe_int (qa_cons qe_int qa_nil))) qa_nil))))))))))))) (qe_var 1)))))))
theorem c__law_half (T : Txt K mg) (C__law_ratio : Callee P w K mg base 2 "_law_ratio" 2 [] m__law_ratio) (C__law_take : Callee P w K mg base 1 "_law_take" 2 [] m__law_take) : Callee P w K mg base 3 "_law_half" 1 [] m__law_half := by
  obtain ⟨f, fd, F, hm⟩ := T.F__law_half
  exact ⟨f, fd, ["_law_hand_here"], [], [], f__law_half T C__law_ratio C__law_take F, hm, F.kp, F.binds (ps := ["_law_hand_here"]) (fun _ _ _ _ _ _ us hl => match us, hl with | [_], _ => rfl), .nil, fun _ _ => .nil⟩
theorem f__law_any_half (T : Txt K mg) (C__law_half : Callee P w K mg base 3 "_law_half" 1 [] m__law_half) (C__law_ratio : Callee P w K mg base 2 "_law_ratio" 2 [] m__law_ratio) (C__law_take : Callee P w K mg base 1 "_law_take" 2 [] m__law_take) {f : Addr} {fd : FuncData} (F : Fun K "_law_any_half" "_law_any_half" st__law_any_half f fd) : FnOk P w K mg base (L2.CX P w) 4 f fd ["_law_hand_here"] (spM K mg 1 m__law_any_half) := by
  show FnOk P w K mg base (L2.CX P w) (3 + 1) f fd ["_law_hand_here"] (spM K mg 1 (mDef 1 b__law_any_half))
  refine okM F sc__law_any_half rfl rfl (fun cdv A outer s H E hr => ?_)
  exact (qss_cons (qs_if (qt_cmp (op_eqD hr.units) os_eq (qe_c C__law_take hr (by decide) cx_takes (qa_cons (qe_var 0) (qa_cons qe_int qa_nil))) qe_int (nomark _)) (qss_one (qs_ret (qe_c C__law_ratio hr (by decide) cx_takes (qa_cons (qe_op op_sub os_sub (qe_c C__law_take hr (by decide) cx_takes (qa_cons (qe_var 0) (qa_cons (qe_op op_addA os_add (qe_op op_mulA os_mul qe_int (qe_op op_pow os_pow qe_int qe_int)) qe_int) qa_nil))) (qe_op op_pow os_pow qe_int qe_int)) (qa_cons (qe_op op_addA os_add qe_int (qe_c C__law_take hr (by decide) cx_takes (qa_cons (qe_var 0) (qa_cons qe_int qa_nil)))) qa_nil))))) qss_nil) (qss_one (qs_ret (qe_c C__law_half hr (by decide) cx_takes (qa_cons (qe_var 0) qa_nil)))))
theorem c__law_any_half (T : Txt K mg) (C__law_half : Callee P w K mg base 3 "_law_half" 1 [] m__law_half) (C__law_ratio : Callee P w K mg base 2 "_law_ratio" 2 [] m__law_ratio) (C__law_take : Callee P w K mg base 1 "_law_take" 2 [] m__law_take) : Callee P w K mg base 4 "_law_any_half" 1 [] m__law_any_half := by
  obtain ⟨f, fd, F, hm⟩ := T.F__law_any_half
  exact ⟨f, fd, ["_law_hand_here"], [], [], f__law_any_half T C__law_half C__law_ratio C__law_take F, hm, F.kp, F.binds (ps := ["_law_hand_here"]) (fun _ _ _ _ _ _ us hl => match us, hl with | [_], _ => rfl), .nil, fun _ _ => .nil⟩
theorem f__law_less (T : Txt K mg) (C__law_ratio : Callee P w K mg base 2 "_law_ratio" 2 [] m__law_ratio) {f : Addr} {fd : FuncData} (F : Fun K "_law_less" "_law_less" st__law_less f fd) : FnOk P w K mg base (L2.CX P w) 3 f fd ["_law_one", "_law_other"] (spM K mg 2 m__law_less) := by
  show FnOk P w K mg base (L2.CX P w) (2 + 1) f fd ["_law_one", "_law_other"] (spM K mg 2 (mDef 2 b__law_less))
  refine okM F sc__law_less rfl rfl (fun cdv A outer s H E hr => ?_)
  exact (qss_one (qs_ret (qe_c C__law_ratio hr (by decide) cx_takes (qa_cons (qe_op op_sub os_sub (qe_op op_mulA os_mul (qe_ix (qe_var 0) qe_int) (qe_ix (qe_var 1) qe_int)) (qe_op op_mulA os_mul (qe_ix (qe_var 1) qe_int) (qe_ix (qe_var 0) qe_int))) (qa_cons (qe_op op_mulA os_mul (qe_ix (qe_var 0) qe_int) (qe_ix (qe_var 1) qe_int)) qa_nil)))))
theorem c__law_less (T : Txt K mg) (C__law_ratio : Callee P w K mg base 2 "_law_ratio" 2 [] m__law_ratio) : Callee P w K mg base 3 "_law_less" 2 [] m__law_less := by
  obtain ⟨f, fd, F, hm⟩ := T.F__law_less
  exact ⟨f, fd, ["_law_one", "_law_other"], [], [], f__law_less T C__law_ratio F, hm, F.kp, F.binds (ps := ["_law_one", "_law_other"]) (fun _ _ _ _ _ _ us hl => match us, hl with | [_, _], _ => rfl), .nil, fun _ _ => .nil⟩
theorem f__law_over (T : Txt K mg) (C__law_ratio : Callee P w K mg base 2 "_law_ratio" 2 [] m__law_ratio) {f : Addr} {fd : FuncData} (F : Fun K "_law_over" "_law_over" st__law_over f fd) : FnOk P w K mg base (L2.CX P w) 3 f fd ["_law_one", "_law_other"] (spM K mg 2 m__law_over) := by
  show FnOk P w K mg base (L2.CX P w) (2 + 1) f fd ["_law_one", "_law_other"] (spM K mg 2 (mDef 2 b__law_over))
  refine okM F sc__law_over rfl rfl (fun cdv A outer s H E hr => ?_)
  exact (qss_one (qs_ret (qe_c C__law_ratio hr (by decide) cx_takes (qa_cons (qe_op op_mulA os_mul (qe_ix (qe_var 0) qe_int) (qe_ix (qe_var 1) qe_int)) (qa_cons (qe_op op_mulA os_mul (qe_ix (qe_var 0) qe_int) (qe_ix (qe_var 1) qe_int)) qa_nil)))))
theorem c__law_over (T : Txt K mg) (C__law_ratio : Callee P w K mg base 2 "_law_ratio" 2 [] m__law_ratio) : Callee P w K mg base 3 "_law_over" 2 [] m__law_over := by
  obtain ⟨f, fd, F, hm⟩ := T.F__law_over
  exact ⟨f, fd, ["_law_one", "_law_other"], [], [], f__law_over T C__law_ratio F, hm, F.kp, F.binds (ps := ["_law_one", "_law_other"]) (fun _ _ _ _ _ _ us hl => match us, hl with | [_, _], _ => rfl), .nil, fun _ _ => .nil⟩
theorem f__law_plus (T : Txt K mg) (C__law_ratio : Callee P w K mg base 2 "_law_ratio" 2 [] m__law_ratio) {f : Addr} {fd : FuncData} (F : Fun K "_law_plus" "_law_plus" st__law_plus f fd) : FnOk P w K mg base (L2.CX P w) 3 f fd ["_law_one", "_law_other"] (spM K mg 2 m__law_plus) := by
  show FnOk P w K mg base (L2.CX P w) (2 + 1) f fd ["_law_one", "_law_other"] (spM K mg 2 (mDef 2 b__law_plus))
  refine okM F sc__law_plus rfl rfl (fun cdv A outer s H E hr => ?_)
  exact (qss_one (qs_ret (qe_c C__law_ratio hr (by decide) cx_takes (qa_cons (qe_op op_addA os_add (qe_op op_mulA os_mul (qe_ix (qe_var 0) qe_int) (qe_ix (qe_var 1) qe_int)) (qe_op op_mulA os_mul (qe_ix (qe_var 1) qe_int) (qe_ix (qe_var 0) qe_int))) (qa_cons (qe_op op_mulA os_mul (qe_ix (qe_var 0) qe_int) (qe_ix (qe_var 1) qe_int)) qa_nil)))))
theorem c__law_plus (T : Txt K mg) (C__law_ratio : Callee P w K mg base 2 "_law_ratio" 2 [] m__law_ratio) : Callee P w K mg base 3 "_law_plus" 2 [] m__law_plus := by
  obtain ⟨f, fd, F, hm⟩ := T.F__law_plus
  exact ⟨f, fd, ["_law_one", "_law_other"], [], [], f__law_plus T C__law_ratio F, hm, F.kp, F.binds (ps := ["_law_one", "_law_other"]) (fun _ _ _ _ _ _ us hl => match us, hl with | [_, _], _ => rfl), .nil, fun _ _ => .nil⟩
theorem f__law_times (T : Txt K mg) (C__law_ratio : Callee P w K mg base 2 "_law_ratio" 2 [] m__law_ratio) {f : Addr} {fd : FuncData} (F : Fun K "_law_times" "_law_times" st__law_times f fd) : FnOk P w K mg base (L2.CX P w) 3 f fd ["_law_one", "_law_other"] (spM K mg 2 m__law_times) := by
  show FnOk P w K mg base (L2.CX P w) (2 + 1) f fd ["_law_one", "_law_other"] (spM K mg 2 (mDef 2 b__law_times))
  refine okM F sc__law_times rfl rfl (fun cdv A outer s H E hr => ?_)
  exact (qss_one (qs_ret (qe_c C__law_ratio hr (by decide) cx_takes (qa_cons (qe_op op_mulA os_mul (qe_ix (qe_var 0) qe_int) (qe_ix (qe_var 1) qe_int)) (qa_cons (qe_op op_mulA os_mul (qe_ix (qe_var 0) qe_int) (qe_ix (qe_var 1) qe_int)) qa_nil)))))
theorem c__law_times (T : Txt K mg) (C__law_ratio : Callee P w K mg base 2 "_law_ratio" 2 [] m__law_ratio) : Callee P w K mg base 3 "_law_times" 2 [] m__law_times := by
  obtain ⟨f, fd, F, hm⟩ := T.F__law_times
  exact ⟨f, fd, ["_law_one", "_law_other"], [], [], f__law_times T C__law_ratio F, hm, F.kp, F.binds (ps := ["_law_one", "_law_other"]) (fun _ _ _ _ _ _ us hl => match us, hl with | [_, _], _ => rfl), .nil, fun _ _ => .nil⟩
theorem f__law_direction (T : Txt K mg) (C__law_less : Callee P w K mg base 3 "_law_less" 2 [] m__law_less) (C__law_over : Callee P w K mg base 3 "_law_over" 2 [] m__law_over) (C__law_plus : Callee P w K mg base 3 "_law_plus" 2 [] m__law_plus) (C__law_times : Callee P w K mg base 3 "_law_times" 2 [] m__law_times) {f : Addr} {fd : FuncData} (F : Fun K "_law_direction" "_law_direction" st__law_direction f fd) : FnOk P w K mg base (L2.CX P w) 4 f fd ["_law_half_here"] (spM K mg 1 m__law_direction) := by
  show FnOk P w K mg base (L2.CX P w) (3 + 1) f fd ["_law_half_here"] (spM K mg 1 (mDef 3 b__law_direction))
  refine okM F sc__law_direction rfl rfl (fun cdv A outer s H E hr => ?_)
  exact (qss_cons (qs_if (qt_cmp op_isA os_is (qe_var 0) qe_non (nomark _)) (qss_one (qs_ret (qe_tup (qa_cons (qe_tup (qa_cons qe_int (qa_cons qe_int qa_nil))) (qa_cons (qe_tup (qa_cons (qe_un un_neg us_neg qe_int) (qa_cons qe_int qa_nil))) qa_nil))))) qss_nil) (qss_cons (qs_set 1 sc__law_direction.nd (qe_c C__law_times hr (by decide) cx_takes (qa_cons (qe_var 0) (qa_cons (qe_var 0) qa_nil)))) (qss_cons (qs_set 2 sc__law_direction.nd (qe_c C__law_plus hr (by decide) cx_takes (qa_cons (qe_tup (qa_cons qe_int (qa_cons qe_int qa_nil))) (qa_cons (qe_var 1) qa_nil)))) (qss_one (qs_ret (qe_tup (qa_cons (qe_c C__law_over hr (by decide) cx_takes (qa_cons (qe_c C__law_times hr (by decide) cx_takes (qa_cons (qe_tup (qa_cons (qe_un un_neg us_neg qe_int) (qa_cons qe_int qa_nil))) (qa_cons (qe_var 0) qa_nil))) (qa_cons (qe_var 2) qa_nil))) (qa_cons (qe_c C__law_over hr (by decide) cx_takes (qa_cons (qe_c C__law_less hr (by decide) cx_takes (qa_cons (qe_tup (qa_cons qe_int (qa_cons qe_int qa_nil))) (qa_cons (qe_var 1) qa_nil))) (qa_cons (qe_var 2) qa_nil))) qa_nil))))))))
theorem c__law_direction (T : Txt K mg) (C__law_less : Callee P w K mg base 3 "_law_less" 2 [] m__law_less) (C__law_over : Callee P w K mg base 3 "_law_over" 2 [] m__law_over) (C__law_plus : Callee P w K mg base 3 "_law_plus" 2 [] m__law_plus) (C__law_times : Callee P w K mg base 3 "_law_times" 2 [] m__law_times) : Callee P w K mg base 4 "_law_direction" 1 [] m__law_direction := by
  obtain ⟨f, fd, F, hm⟩ := T.F__law_direction
  exact ⟨f, fd, ["_law_half_here"], [], [], f__law_direction T C__law_less C__law_over C__law_plus C__law_times F, hm, F.kp, F.binds (ps := ["_law_half_here"]) (fun _ _ _ _ _ _ us hl => match us, hl with | [_], _ => rfl), .nil, fun _ _ => .nil⟩
theorem f__law_any_pose (T : Txt K mg) (C__law_any_half : Callee P w K mg base 4 "_law_any_half" 1 [] m__law_any_half) (C__law_direction : Callee P w K mg base 4 "_law_direction" 1 [] m__law_direction) {f : Addr} {fd : FuncData} (F : Fun K "_law_any_pose" "_law_any_pose" st__law_any_pose f fd) : FnOk P w K mg base (L2.CX P w) 5 f fd ["_law_hand_here", "_law_n"] (spM K mg 2 m__law_any_pose) := by
  have z_range := T.z_range
  have z_tuple := T.z_tuple
  show FnOk P w K mg base (L2.CX P w) (4 + 1) f fd ["_law_hand_here", "_law_n"] (spM K mg 2 (mDef 3 b__law_any_pose))
  refine okM F sc__law_any_pose rfl rfl (fun cdv A outer s H E hr => ?_)
  exact (qss_one (qs_ret (qe_callTy call_tuple_of cs_tuple (by rfl) z_tuple (by decide +kernel) (qa_cons (qe_lc rfl sc__law_any_pose.nd (qi_rng1 (by rfl) z_range (qe_var 1)) (blkOk_by (N := ["_law_hand_here", "_law_n", "_law_k"]) (sc := defScope st__law_any_pose) (own := [("_law_k", 2)]) (by decide +kernel)) rfl (by decide) sg_name (g := gName 2) (fun _ _ _ _ _ => (qg_name 2 sc__law_any_pose.nd).1) (fun _ _ _ _ _ => qts_nil) (fun _ _ _ _ _ => (qe_c C__law_direction hr (by decide) takes0 (qa_cons (qe_c C__law_any_half hr (by decide) takes0 (qa_cons (qe_var 0) qa_nil)) qa_nil)))) qa_nil))))
theorem c__law_any_pose (T : Txt K mg) (C__law_any_half : Callee P w K mg base 4 "_law_any_half" 1 [] m__law_any_half) (C__law_direction : Callee P w K mg base 4 "_law_direction" 1 [] m__law_direction) : Callee P w K mg base 5 "_law_any_pose" 2 [] m__law_any_pose := by
  obtain ⟨f, fd, F, hm⟩ := T.F__law_any_pose
  exact ⟨f, fd, ["_law_hand_here", "_law_n"], [], [], f__law_any_pose T C__law_any_half C__law_direction F, hm, F.kp, F.binds (ps := ["_law_hand_here", "_law_n"]) (fun _ _ _ _ _ _ us hl => match us, hl with | [_, _], _ => rfl), .nil, fun _ _ => .nil⟩
theorem f_is_place (T : Txt K mg) (C_is_ratio : Callee P w K mg base 2 "is_ratio" 1 [] m_is_ratio) (C_is_row : Callee P w K mg base 1 "is_row" 3 [] m_is_row) (C_is_whole : Callee P w K mg base 1 "is_whole" 3 [] m_is_whole) {f : Addr} {fd : FuncData} (F : Fun K "is_place" "is_place" st_is_place f fd) : FnOk P w K mg base (L2.CX P w) 3 f fd ["arms", "thing"] (spM K mg 2 m_is_place) := by
  obtain ⟨_, g_MAST⟩ := T.g_MAST
  have A_bars := T.A_bars
  have z_len := T.z_len
  show FnOk P w K mg base (L2.CX P w) (2 + 1) f fd ["arms", "thing"] (spM K mg 2 (mDef 4 b_is_place))
  refine okM F sc_is_place rfl rfl (fun cdv A outer s H E hr => ?_)
  exact (qss_cons (qs_if (qt_not (qt_tru (qe_c C_is_row hr (by decide) cx_takes (qa_cons (qe_var 1) (qa_cons qe_int (qa_cons qe_int qa_nil)))))) (qss_one (qs_ret qe_bl)) qss_nil) (qss_cons (qs_asg (qe_var 1) (qg_seq 2 rfl (qgs_cons (qg_name 2 sc_is_place.nd) (qgs_cons (qg_name 3 sc_is_place.nd) qgs_nil)))) (qss_one (qs_ret (qe_and (qe_c C_is_whole hr (by decide) cx_takes (qa_cons (qe_var 2) (qa_cons (qe_glob (v := .int _) (by rfl) g_MAST ⟨_, rfl⟩ fun _ _ => .int _) (qa_cons (qe_op op_sub os_sub (qe_callB call_lenA cs_len (by rfl) z_len (by decide +kernel) (qa_cons (qe_attr A_bars (qe_var 0)) qa_nil)) qe_int) qa_nil)))) (qe_one (qe_c C_is_ratio hr (by decide) cx_takes (qa_cons (qe_var 3) qa_nil))))))))
theorem c_is_place (T : Txt K mg) (C_is_ratio : Callee P w K mg base 2 "is_ratio" 1 [] m_is_ratio) (C_is_row : Callee P w K mg base 1 "is_row" 3 [] m_is_row) (C_is_whole : Callee P w K mg base 1 "is_whole" 3 [] m_is_whole) : Callee P w K mg base 3 "is_place" 2 [] m_is_place := by
  obtain ⟨f, fd, F, hm⟩ := T.F_is_place
  exact ⟨f, fd, ["arms", "thing"], [], [], f_is_place T C_is_ratio C_is_row C_is_whole F, hm, F.kp, F.binds (ps := ["arms", "thing"]) (fun _ _ _ _ _ _ us hl => match us, hl with | [_, _], _ => rfl), .nil, fun _ _ => .nil⟩
theorem f_check_place (T : Txt K mg) (C_is_place : Callee P w K mg base 3 "is_place" 2 [] m_is_place) {f : Addr} {fd : FuncData} (F : Fun K "check_place" "check_place" st_check_place f fd) : FnOk P w K mg base (L2.CX P w) 4 f fd ["arms", "place"] (spM K mg 2 m_check_place) := by
  have z_tuple := T.z_tuple
  have T0_BadPlace := T.T0_BadPlace
  show FnOk P w K mg base (L2.CX P w) (3 + 1) f fd ["arms", "place"] (spM K mg 2 (mDef 2 b_check_place))
  refine okM F sc_check_place rfl rfl (fun cdv A outer s H E hr => ?_)
  exact (qss_cons (qs_if (qt_not (qt_tru (qe_c C_is_place hr (by decide) cx_takes (qa_cons (qe_var 0) (qa_cons (qe_var 1) qa_nil))))) (qss_one (qs_throw0 T0_BadPlace rfl cx_takes)) qss_nil) (qss_one (qs_ret (qe_callTy call_tuple_of cs_tuple (by rfl) z_tuple (by decide +kernel) (qa_cons (qe_var 1) qa_nil)))))
theorem c_check_place (T : Txt K mg) (C_is_place : Callee P w K mg base 3 "is_place" 2 [] m_is_place) : Callee P w K mg base 4 "check_place" 2 [] m_check_place := by
  obtain ⟨f, fd, F, hm⟩ := T.F_check_place
  exact ⟨f, fd, ["arms", "place"], [], [], f_check_place T C_is_place F, hm, F.kp, F.binds (ps := ["arms", "place"]) (fun _ _ _ _ _ _ us hl => match us, hl with | [_, _], _ => rfl), .nil, fun _ _ => .nil⟩
theorem f_lowest_terms (T : Txt K mg) {f : Addr} {fd : FuncData} (F : Fun K "lowest_terms" "lowest_terms" st_lowest_terms f fd) : FnOk P w K mg base (L2.CX P w) 1 f fd ["top", "bottom"] (spM K mg 2 m_lowest_terms) := by
  have i_gcd := T.i_gcd
  show FnOk P w K mg base (L2.CX P w) (0 + 1) f fd ["top", "bottom"] (spM K mg 2 (mDef 3 b_lowest_terms))
  refine okM F sc_lowest_terms rfl rfl (fun cdv A outer s H E hr => ?_)
  exact (qss_cons (qs_set 2 sc_lowest_terms.nd (qe_callBfun cr_gcd cs_gcd (by rfl) i_gcd (qa_cons (qe_var 0) (qa_cons (qe_var 1) qa_nil)))) (qss_cons (qs_if (qt_cmp op_lt os_lt (qe_var 1) qe_int (nomark _)) (qss_one (qs_set 2 sc_lowest_terms.nd (qe_un un_neg us_neg (qe_var 2)))) qss_nil) (qss_one (qs_ret (qe_tup (qa_cons (qe_op op_divA os_div (qe_var 0) (qe_var 2)) (qa_cons (qe_op op_divA os_div (qe_var 1) (qe_var 2)) qa_nil)))))))
theorem c_lowest_terms (T : Txt K mg) : Callee P w K mg base 1 "lowest_terms" 2 [] m_lowest_terms := by
  obtain ⟨f, fd, F, hm⟩ := T.F_lowest_terms
  exact ⟨f, fd, ["top", "bottom"], [], [], f_lowest_terms T  F, hm, F.kp, F.binds (ps := ["top", "bottom"]) (fun _ _ _ _ _ _ us hl => match us, hl with | [_, _], _ => rfl), .nil, fun _ _ => .nil⟩
theorem f_plus (T : Txt K mg) (C_lowest_terms : Callee P w K mg base 1 "lowest_terms" 2 [] m_lowest_terms) {f : Addr} {fd : FuncData} (F : Fun K "plus" "plus" st_plus f fd) : FnOk P w K mg base (L2.CX P w) 2 f fd ["one", "other"] (spM K mg 2 m_plus) := by
  show FnOk P w K mg base (L2.CX P w) (1 + 1) f fd ["one", "other"] (spM K mg 2 (mDef 2 b_plus))
  refine okM F sc_plus rfl rfl (fun cdv A outer s H E hr => ?_)
  exact (qss_one (qs_ret (qe_c C_lowest_terms hr (by decide) cx_takes (qa_cons (qe_op op_addA os_add (qe_op op_mulA os_mul (qe_ix (qe_var 0) qe_int) (qe_ix (qe_var 1) qe_int)) (qe_op op_mulA os_mul (qe_ix (qe_var 1) qe_int) (qe_ix (qe_var 0) qe_int))) (qa_cons (qe_op op_mulA os_mul (qe_ix (qe_var 0) qe_int) (qe_ix (qe_var 1) qe_int)) qa_nil)))))
theorem c_plus (T : Txt K mg) (C_lowest_terms : Callee P w K mg base 1 "lowest_terms" 2 [] m_lowest_terms) : Callee P w K mg base 2 "plus" 2 [] m_plus := by
  obtain ⟨f, fd, F, hm⟩ := T.F_plus
  exact ⟨f, fd, ["one", "other"], [], [], f_plus T C_lowest_terms F, hm, F.kp, F.binds (ps := ["one", "other"]) (fun _ _ _ _ _ _ us hl => match us, hl with | [_, _], _ => rfl), .nil, fun _ _ => .nil⟩
theorem f_join_rows (T : Txt K mg) (C_plus : Callee P w K mg base 2 "plus" 2 [] m_plus) {f : Addr} {fd : FuncData} (F : Fun K "join_rows" "join_rows" st_join_rows f fd) : FnOk P w K mg base (L2.CX P w) 3 f fd ["one", "other"] (spM K mg 2 m_join_rows) := by
  have z_tuple := T.z_tuple
  have z_zip := T.z_zip
  show FnOk P w K mg base (L2.CX P w) (2 + 1) f fd ["one", "other"] (spM K mg 2 (mDef 4 b_join_rows))
  refine okM F sc_join_rows rfl rfl (fun cdv A outer s H E hr => ?_)
  exact (qss_one (qs_ret (qe_callTy call_tuple_of cs_tuple (by rfl) z_tuple (by decide +kernel) (qa_cons (qe_lcp rfl sc_join_rows.nd (qip_zip (by rfl) z_zip (qe_var 0) (qe_var 1)) (blkOk_by (N := ["one", "other", "left", "right"]) (sc := defScope st_join_rows) (own := [("left", 2), ("right", 3)]) (by decide +kernel)) rfl (by decide) (sg_seq (sgs_cons sg_name (sgs_cons sg_name sgs_nil))) (g := gSeq K 2 ((gCons (gName 2) ((gCons (gName 3) (gNil)))))) (fun _ _ _ _ _ => (qg_seq 2 rfl (qgs_cons (qg_name 2 sc_join_rows.nd) (qgs_cons (qg_name 3 sc_join_rows.nd) qgs_nil))).1) (fun _ _ _ _ _ => qts_nil) (fun _ _ _ _ _ => (qe_c C_plus hr (by decide) takes0 (qa_cons (qe_var 2) (qa_cons (qe_var 3) qa_nil))))) qa_nil))))
theorem c_join_rows (T : Txt K mg) (C_plus : Callee P w K mg base 2 "plus" 2 [] m_plus) : Callee P w K mg base 3 "join_rows" 2 [] m_join_rows := by
  obtain ⟨f, fd, F, hm⟩ := T.F_join_rows
  exact ⟨f, fd, ["one", "other"], [], [], f_join_rows T C_plus F, hm, F.kp, F.binds (ps := ["one", "other"]) (fun _ _ _ _ _ _ us hl => match us, hl with | [_, _], _ => rfl), .nil, fun _ _ => .nil⟩
theorem f_row_at (T : Txt K mg) {f : Addr} {fd : FuncData} (F : Fun K "row_at" "row_at" st_row_at f fd) : FnOk P w K mg base (L2.CX P w) 1 f fd ["letters", "letter", "number"] (spM K mg 3 m_row_at) := by
  obtain ⟨_, g_ZERO⟩ := T.g_ZERO
  have z_range := T.z_range
  have z_tuple := T.z_tuple
  show FnOk P w K mg base (L2.CX P w) (0 + 1) f fd ["letters", "letter", "number"] (spM K mg 3 (mDef 4 b_row_at))
  refine okM F sc_row_at rfl rfl (fun cdv A outer s H E hr => ?_)
  exact (qss_one (qs_ret (qe_callTy call_tuple_of cs_tuple (by rfl) z_tuple (by decide +kernel) (qa_cons (qe_lc rfl sc_row_at.nd (qi_rng1 (by rfl) z_range (qe_op op_addA os_add (qe_var 0) qe_int)) (blkOk_by (N := ["letters", "letter", "number", "other"]) (sc := defScope st_row_at) (own := [("other", 3)]) (by decide +kernel)) rfl (by decide) sg_name (g := gName 3) (fun _ _ _ _ _ => (qg_name 3 sc_row_at.nd).1) (fun _ _ _ _ _ => qts_nil) (fun _ _ _ _ _ => (qe_if (qt_cmp (op_eqD hr.units) os_eq (qe_var 3) (qe_var 1) (nomark _)) (qe_var 2) (qe_glob (v := .ref _) (by rfl) g_ZERO.1 rfl g_ZERO.2)))) qa_nil))))
theorem c_row_at (T : Txt K mg) : Callee P w K mg base 1 "row_at" 3 [] m_row_at := by
  obtain ⟨f, fd, F, hm⟩ := T.F_row_at
  exact ⟨f, fd, ["letters", "letter", "number"], [], [], f_row_at T  F, hm, F.kp, F.binds (ps := ["letters", "letter", "number"]) (fun _ _ _ _ _ _ us hl => match us, hl with | [_, _, _], _ => rfl), .nil, fun _ _ => .nil⟩

theorem f_Arms__hinge_row {k : Nat} {m_Arms__hinge_row m_Arms__row_of : List Dt → Hd → R Dt} (hk : 4 ≤ k) (T : Txt K mg) (C_is_whole : Callee P w K mg base 1 "is_whole" 3 [] m_is_whole) (C_Arms__row_of : Method P w K mg base k "Arms" "row_of" 2 [] m_Arms__row_of) {f : Addr} {fd : FuncData} (F : Fun K "hinge_row" "Arms.hinge_row" st_Arms__hinge_row f fd) : FnOk P w K mg base (L2.CX P w) (k + 1) f fd ["self", "number"] (spM K mg 2 (mDef 5 (b_Arms__hinge_row m_Arms__hinge_row m_Arms__row_of))) := by
  have A_bars := T.A_bars
  have z_len := T.z_len
  have T_NoBar : Thrown P w K mg base "NoBar" ["number"] := t_NoBar T
  refine okM F sc_Arms__hinge_row rfl rfl (fun cdv A outer s H E hr => ?_)
  exact (qss_cons (qs_if (qt_not (qt_tru (qe_c C_is_whole hr (by omega) cx_takes (qa_cons (qe_var 1) (qa_cons qe_int (qa_cons (qe_op op_sub os_sub (qe_callB call_lenA cs_len (by rfl) z_len (by decide +kernel) (qa_cons (qe_attr A_bars (qe_var 0)) qa_nil)) qe_int) qa_nil)))))) (qss_one (qs_throw T_NoBar hr (by omega) rfl cx_takes (qa_cons (qe_var 1) qa_nil))) qss_nil) (qss_cons (qs_asg (qe_ix (qe_attr A_bars (qe_var 0)) (qe_var 1)) (qg_seq 3 rfl (qgs_cons (qg_name 2 sc_Arms__hinge_row.nd) (qgs_cons (qg_name 3 sc_Arms__hinge_row.nd) (qgs_cons (qg_name 4 sc_Arms__hinge_row.nd) qgs_nil))))) (qss_one (qs_ret (qe_meth C_Arms__row_of hr (by omega) cx_takes (qe_var 0) (qa_cons (qe_tup (qa_cons (qe_var 2) (qa_cons (qe_var 3) qa_nil))) qa_nil))))))
theorem f_Arms__row_of {k : Nat} {m_Arms__hinge_row m_Arms__row_of : List Dt → Hd → R Dt} (hk : 4 ≤ k) (T : Txt K mg) (C_check_place : Callee P w K mg base 4 "check_place" 2 [] m_check_place) (C_join_rows : Callee P w K mg base 3 "join_rows" 2 [] m_join_rows) (C_row_at : Callee P w K mg base 1 "row_at" 3 [] m_row_at) (C_Arms__hinge_row : Method P w K mg base k "Arms" "hinge_row" 2 [] m_Arms__hinge_row) {f : Addr} {fd : FuncData} (F : Fun K "row_of" "Arms.row_of" st_Arms__row_of f fd) : FnOk P w K mg base (L2.CX P w) (k + 1) f fd ["self", "place"] (spM K mg 2 (mDef 5 (b_Arms__row_of m_Arms__hinge_row m_Arms__row_of))) := by
  obtain ⟨_, g_MAST⟩ := T.g_MAST
  have A_bars := T.A_bars
  have A_letters := T.A_letters
  refine okM F sc_Arms__row_of rfl rfl (fun cdv A outer s H E hr => ?_)
  exact (qss_cons (qs_asg (qe_c C_check_place hr (by omega) cx_takes (qa_cons (qe_var 0) (qa_cons (qe_var 1) qa_nil))) (qg_seq 2 rfl (qgs_cons (qg_name 2 sc_Arms__row_of.nd) (qgs_cons (qg_name 3 sc_Arms__row_of.nd) qgs_nil)))) (qss_cons (qs_if (qt_cmp (op_eqD hr.units) os_eq (qe_var 2) (qe_glob (v := .int _) (by rfl) g_MAST ⟨_, rfl⟩ fun _ _ => .int _) (nomark _)) (qss_one (qs_ret (qe_c C_row_at hr (by omega) cx_takes (qa_cons (qe_attr A_letters (qe_var 0)) (qa_cons qe_int (qa_cons (qe_var 3) qa_nil)))))) qss_nil) (qss_cons (qs_set 4 sc_Arms__row_of.nd (qe_ix (qe_ix (qe_attr A_bars (qe_var 0)) (qe_var 2)) qe_int)) (qss_one (qs_ret (qe_c C_join_rows hr (by omega) cx_takes (qa_cons (qe_meth C_Arms__hinge_row hr (by omega) cx_takes (qe_var 0) (qa_cons (qe_var 2) qa_nil)) (qa_cons (qe_c C_row_at hr (by omega) cx_takes (qa_cons (qe_attr A_letters (qe_var 0)) (qa_cons (qe_var 4) (qa_cons (qe_var 3) qa_nil)))) qa_nil))))))))
theorem cr_Arms__hinge_row (T : Txt K mg) (C_is_whole : Callee P w K mg base 1 "is_whole" 3 [] m_is_whole) (C_check_place : Callee P w K mg base 4 "check_place" 2 [] m_check_place) (C_join_rows : Callee P w K mg base 3 "join_rows" 2 [] m_join_rows) (C_row_at : Callee P w K mg base 1 "row_at" 3 [] m_row_at) : ∀ n : Nat, (Method P w K mg base (4 + n) "Arms" "hinge_row" 2 [] ((rec_Arms__hinge_row n).1)) ∧ (Method P w K mg base (4 + n) "Arms" "row_of" 2 [] ((rec_Arms__hinge_row n).2)) := by
  intro n
  induction n with
  | zero =>
    obtain ⟨Ca_Arms__hinge_row, fa_Arms__hinge_row, fd_Arms__hinge_row, h1_Arms__hinge_row, h2_Arms__hinge_row, h3_Arms__hinge_row, F⟩ := T.G_Arms__hinge_row
    have z_Arms__hinge_row : Method P w K mg base (4 + 0) "Arms" "hinge_row" 2 [] mNone := Mir.method_of (qual := "") (st := st_Arms__hinge_row) h1_Arms__hinge_row h2_Arms__hinge_row h3_Arms__hinge_row none_ok (F.binds (ps := ["self", "number"]) (fun _ _ _ _ _ _ us hl => match us, hl with | [_, _], _ => rfl))
    obtain ⟨Ca_Arms__row_of, fa_Arms__row_of, fd_Arms__row_of, h1_Arms__row_of, h2_Arms__row_of, h3_Arms__row_of, F⟩ := T.G_Arms__row_of
    have z_Arms__row_of : Method P w K mg base (4 + 0) "Arms" "row_of" 2 [] mNone := Mir.method_of (qual := "") (st := st_Arms__row_of) h1_Arms__row_of h2_Arms__row_of h3_Arms__row_of none_ok (F.binds (ps := ["self", "place"]) (fun _ _ _ _ _ _ us hl => match us, hl with | [_, _], _ => rfl))
    exact ⟨z_Arms__hinge_row, z_Arms__row_of⟩
  | succ n ih =>
    obtain ⟨C_Arms__hinge_row, C_Arms__row_of⟩ := ih
    obtain ⟨Ca_Arms__hinge_row, fa_Arms__hinge_row, fd_Arms__hinge_row, h1_Arms__hinge_row, h2_Arms__hinge_row, h3_Arms__hinge_row, F⟩ := T.G_Arms__hinge_row
    have z_Arms__hinge_row : Method P w K mg base (4 + n + 1) "Arms" "hinge_row" 2 [] (mDef 5 (b_Arms__hinge_row (rec_Arms__hinge_row n).1 (rec_Arms__hinge_row n).2)) := Mir.method_of (qual := "") (st := st_Arms__hinge_row) h1_Arms__hinge_row h2_Arms__hinge_row h3_Arms__hinge_row (f_Arms__hinge_row (k := 4 + n) (by omega) T C_is_whole C_Arms__row_of F) (F.binds (ps := ["self", "number"]) (fun _ _ _ _ _ _ us hl => match us, hl with | [_, _], _ => rfl))
    obtain ⟨Ca_Arms__row_of, fa_Arms__row_of, fd_Arms__row_of, h1_Arms__row_of, h2_Arms__row_of, h3_Arms__row_of, F⟩ := T.G_Arms__row_of
    have z_Arms__row_of : Method P w K mg base (4 + n + 1) "Arms" "row_of" 2 [] (mDef 5 (b_Arms__row_of (rec_Arms__hinge_row n).1 (rec_Arms__hinge_row n).2)) := Mir.method_of (qual := "") (st := st_Arms__row_of) h1_Arms__row_of h2_Arms__row_of h3_Arms__row_of (f_Arms__row_of (k := 4 + n) (by omega) T C_check_place C_join_rows C_row_at C_Arms__hinge_row F) (F.binds (ps := ["self", "place"]) (fun _ _ _ _ _ _ us hl => match us, hl with | [_, _], _ => rfl))
    exact ⟨z_Arms__hinge_row, z_Arms__row_of⟩
theorem c_Arms__hinge_row (T : Txt K mg) (C_is_whole : Callee P w K mg base 1 "is_whole" 3 [] m_is_whole) (C_check_place : Callee P w K mg base 4 "check_place" 2 [] m_check_place) (C_join_rows : Callee P w K mg base 3 "join_rows" 2 [] m_join_rows) (C_row_at : Callee P w K mg base 1 "row_at" 3 [] m_row_at) : Method P w K mg base 20 "Arms" "hinge_row" 2 [] m_Arms__hinge_row := (cr_Arms__hinge_row T C_is_whole C_check_place C_join_rows C_row_at 16).1
theorem c_Arms__row_of (T : Txt K mg) (C_is_whole : Callee P w K mg base 1 "is_whole" 3 [] m_is_whole) (C_check_place : Callee P w K mg base 4 "check_place" 2 [] m_check_place) (C_join_rows : Callee P w K mg base 3 "join_rows" 2 [] m_join_rows) (C_row_at : Callee P w K mg base 1 "row_at" 3 [] m_row_at) : Method P w K mg base 20 "Arms" "row_of" 2 [] m_Arms__row_of := (cr_Arms__hinge_row T C_is_whole C_check_place C_join_rows C_row_at 16).2
theorem f_times (T : Txt K mg) (C_lowest_terms : Callee P w K mg base 1 "lowest_terms" 2 [] m_lowest_terms) {f : Addr} {fd : FuncData} (F : Fun K "times" "times" st_times f fd) : FnOk P w K mg base (L2.CX P w) 2 f fd ["one", "other"] (spM K mg 2 m_times) := by
  show FnOk P w K mg base (L2.CX P w) (1 + 1) f fd ["one", "other"] (spM K mg 2 (mDef 2 b_times))
  refine okM F sc_times rfl rfl (fun cdv A outer s H E hr => ?_)
  exact (qss_one (qs_ret (qe_c C_lowest_terms hr (by decide) cx_takes (qa_cons (qe_op op_mulA os_mul (qe_ix (qe_var 0) qe_int) (qe_ix (qe_var 1) qe_int)) (qa_cons (qe_op op_mulA os_mul (qe_ix (qe_var 0) qe_int) (qe_ix (qe_var 1) qe_int)) qa_nil)))))
theorem c_times (T : Txt K mg) (C_lowest_terms : Callee P w K mg base 1 "lowest_terms" 2 [] m_lowest_terms) : Callee P w K mg base 2 "times" 2 [] m_times := by
  obtain ⟨f, fd, F, hm⟩ := T.F_times
  exact ⟨f, fd, ["one", "other"], [], [], f_times T C_lowest_terms F, hm, F.kp, F.binds (ps := ["one", "other"]) (fun _ _ _ _ _ _ us hl => match us, hl with | [_, _], _ => rfl), .nil, fun _ _ => .nil⟩
theorem f_dot_of (T : Txt K mg) (C_plus : Callee P w K mg base 2 "plus" 2 [] m_plus) (C_times : Callee P w K mg base 2 "times" 2 [] m_times) {f : Addr} {fd : FuncData} (F : Fun K "dot_of" "dot_of" st_dot_of f fd) : FnOk P w K mg base (L2.CX P w) 3 f fd ["one", "other"] (spM K mg 2 m_dot_of) := by
  show FnOk P w K mg base (L2.CX P w) (2 + 1) f fd ["one", "other"] (spM K mg 2 (mDef 2 b_dot_of))
  refine okM F sc_dot_of rfl rfl (fun cdv A outer s H E hr => ?_)
  exact (qss_one (qs_ret (qe_c C_plus hr (by decide) cx_takes (qa_cons (qe_c C_times hr (by decide) cx_takes (qa_cons (qe_ix (qe_var 0) qe_int) (qa_cons (qe_ix (qe_var 1) qe_int) qa_nil))) (qa_cons (qe_c C_times hr (by decide) cx_takes (qa_cons (qe_ix (qe_var 0) qe_int) (qa_cons (qe_ix (qe_var 1) qe_int) qa_nil))) qa_nil)))))
theorem c_dot_of (T : Txt K mg) (C_plus : Callee P w K mg base 2 "plus" 2 [] m_plus) (C_times : Callee P w K mg base 2 "times" 2 [] m_times) : Callee P w K mg base 3 "dot_of" 2 [] m_dot_of := by
  obtain ⟨f, fd, F, hm⟩ := T.F_dot_of
  exact ⟨f, fd, ["one", "other"], [], [], f_dot_of T C_plus C_times F, hm, F.kp, F.binds (ps := ["one", "other"]) (fun _ _ _ _ _ _ us hl => match us, hl with | [_, _], _ => rfl), .nil, fun _ _ => .nil⟩
theorem f_is_spot (T : Txt K mg) (C_is_ratio : Callee P w K mg base 2 "is_ratio" 1 [] m_is_ratio) (C_is_row : Callee P w K mg base 1 "is_row" 3 [] m_is_row) {f : Addr} {fd : FuncData} (F : Fun K "is_spot" "is_spot" st_is_spot f fd) : FnOk P w K mg base (L2.CX P w) 3 f fd ["thing"] (spM K mg 1 m_is_spot) := by
  show FnOk P w K mg base (L2.CX P w) (2 + 1) f fd ["thing"] (spM K mg 1 (mDef 1 b_is_spot))
  refine okM F sc_is_spot rfl rfl (fun cdv A outer s H E hr => ?_)
  exact (qss_one (qs_ret (qe_and (qe_c C_is_row hr (by decide) cx_takes (qa_cons (qe_var 0) (qa_cons qe_int (qa_cons qe_int qa_nil)))) (qe_and (qe_c C_is_ratio hr (by decide) cx_takes (qa_cons (qe_ix (qe_var 0) qe_int) qa_nil)) (qe_one (qe_c C_is_ratio hr (by decide) cx_takes (qa_cons (qe_ix (qe_var 0) qe_int) qa_nil)))))))
theorem c_is_spot (T : Txt K mg) (C_is_ratio : Callee P w K mg base 2 "is_ratio" 1 [] m_is_ratio) (C_is_row : Callee P w K mg base 1 "is_row" 3 [] m_is_row) : Callee P w K mg base 3 "is_spot" 1 [] m_is_spot := by
  obtain ⟨f, fd, F, hm⟩ := T.F_is_spot
  exact ⟨f, fd, ["thing"], [], [], f_is_spot T C_is_ratio C_is_row F, hm, F.kp, F.binds (ps := ["thing"]) (fun _ _ _ _ _ _ us hl => match us, hl with | [_], _ => rfl), .nil, fun _ _ => .nil⟩
theorem f_is_direction (T : Txt K mg) (C_dot_of : Callee P w K mg base 3 "dot_of" 2 [] m_dot_of) (C_is_spot : Callee P w K mg base 3 "is_spot" 1 [] m_is_spot) {f : Addr} {fd : FuncData} (F : Fun K "is_direction" "is_direction" st_is_direction f fd) : FnOk P w K mg base (L2.CX P w) 4 f fd ["thing"] (spM K mg 1 m_is_direction) := by
  obtain ⟨_, g_ONE⟩ := T.g_ONE
  show FnOk P w K mg base (L2.CX P w) (3 + 1) f fd ["thing"] (spM K mg 1 (mDef 1 b_is_direction))
  refine okM F sc_is_direction rfl rfl (fun cdv A outer s H E hr => ?_)
  exact (qss_one (qs_ret (qe_and (qe_c C_is_spot hr (by decide) cx_takes (qa_cons (qe_var 0) qa_nil)) (qe_one (qe_cmp (op_eqD hr.units) os_eq (qe_c C_dot_of hr (by decide) cx_takes (qa_cons (qe_var 0) (qa_cons (qe_var 0) qa_nil))) (qe_glob (v := .ref _) (by rfl) g_ONE.1 rfl g_ONE.2) (nomark _))))))
theorem c_is_direction (T : Txt K mg) (C_dot_of : Callee P w K mg base 3 "dot_of" 2 [] m_dot_of) (C_is_spot : Callee P w K mg base 3 "is_spot" 1 [] m_is_spot) : Callee P w K mg base 4 "is_direction" 1 [] m_is_direction := by
  obtain ⟨f, fd, F, hm⟩ := T.F_is_direction
  exact ⟨f, fd, ["thing"], [], [], f_is_direction T C_dot_of C_is_spot F, hm, F.kp, F.binds (ps := ["thing"]) (fun _ _ _ _ _ _ us hl => match us, hl with | [_], _ => rfl), .nil, fun _ _ => .nil⟩
theorem f_first_wrong (T : Txt K mg) (C_is_direction : Callee P w K mg base 4 "is_direction" 1 [] m_is_direction) (C_is_row_1 : Callee P w K mg base 1 "is_row" 3 [.int 0, .non] m_is_row) {f : Addr} {fd : FuncData} (F : Fun K "first_wrong" "first_wrong" st_first_wrong f fd) : FnOk P w K mg base (L2.CX P w) 5 f fd ["thing", "many", "is_right"] (spM K mg 3 m_first_wrong) := by
  have z_enumerate := T.z_enumerate
  have z_len := T.z_len
  show FnOk P w K mg base (L2.CX P w) (4 + 1) f fd ["thing", "many", "is_right"] (spM K mg 3 (mDef 5 b_first_wrong))
  refine okM F sc_first_wrong rfl rfl (fun cdv A outer s H E hr => ?_)
  exact (qss_cons (qs_if (qt_not (qt_tru (qe_c C_is_row_1 hr (by decide) cx_takes (qa_cons (qe_var 0) qa_nil)))) (qss_one (qs_ret qe_int)) qss_nil) (qss_cons (qs_forp cx_pass rfl (qip_enum (by rfl) z_enumerate (qe_var 0)) (qg_seq 2 rfl (qgs_cons (qg_name 3 sc_first_wrong.nd) (qgs_cons (qg_name 4 sc_first_wrong.nd) qgs_nil))) (qss_one (qs_if (qt_w (qw_or (qt_cmp op_ge os_ge (qe_var 3) (qe_var 1) (nomark _)) (qw_or1 (qt_not (qt_tru (qe_cv 2 C_is_direction hr (by decide) cx_takes (qa_cons (qe_var 4) qa_nil))))))) (qss_one (qs_ret (qe_var 3))) qss_nil))) (qss_one (qs_ret (qe_if (qt_cmp (op_eqD hr.units) os_eq (qe_callB call_lenA cs_len (by rfl) z_len (by decide +kernel) (qa_cons (qe_var 0) qa_nil)) (qe_var 1) (nomark _)) qe_non (qe_callB call_lenA cs_len (by rfl) z_len (by decide +kernel) (qa_cons (qe_var 0) qa_nil)))))))
theorem c_first_wrong (T : Txt K mg) (C_is_direction : Callee P w K mg base 4 "is_direction" 1 [] m_is_direction) (C_is_row_1 : Callee P w K mg base 1 "is_row" 3 [.int 0, .non] m_is_row) : Callee P w K mg base 5 "first_wrong" 3 [] m_first_wrong := by
  obtain ⟨f, fd, F, hm⟩ := T.F_first_wrong
  exact ⟨f, fd, ["thing", "many", "is_right"], [], [], f_first_wrong T C_is_direction C_is_row_1 F, hm, F.kp, F.binds (ps := ["thing", "many", "is_right"]) (fun _ _ _ _ _ _ us hl => match us, hl with | [_, _, _], _ => rfl), .nil, fun _ _ => .nil⟩
theorem f_check_pose (T : Txt K mg) (C_first_wrong : Callee P w K mg base 5 "first_wrong" 3 [] m_first_wrong) (C_is_direction : Callee P w K mg base 4 "is_direction" 1 [] m_is_direction) {f : Addr} {fd : FuncData} (F : Fun K "check_pose" "check_pose" st_check_pose f fd) : FnOk P w K mg base (L2.CX P w) 6 f fd ["arms", "pose"] (spM K mg 2 m_check_pose) := by
  have A_letters := T.A_letters
  have z_tuple := T.z_tuple
  have T_BadPose : Thrown P w K mg base "BadPose" ["index"] := t_BadPose T
  show FnOk P w K mg base (L2.CX P w) (5 + 1) f fd ["arms", "pose"] (spM K mg 2 (mDef 4 b_check_pose))
  refine okM F sc_check_pose rfl rfl (fun cdv A outer s H E hr => ?_)
  exact (qss_cons (qs_set 2 sc_check_pose.nd (qe_c C_first_wrong hr (by decide) cx_takes (qa_cons (qe_var 1) (qa_cons (qe_attr A_letters (qe_var 0)) (qa_cons (qe_fn C_is_direction) qa_nil))))) (qss_cons (qs_if (qt_cmp op_isNotA os_isNot (qe_var 2) qe_non (nomark _)) (qss_one (qs_throw T_BadPose hr (by decide) rfl cx_takes (qa_cons (qe_var 2) qa_nil))) qss_nil) (qss_one (qs_ret (qe_callTy call_tuple_of cs_tuple (by rfl) z_tuple (by decide +kernel) (qa_cons (qe_lc rfl sc_check_pose.nd (qi_seq (qe_var 1)) (blkOk_by (N := ["arms", "pose", "index", "direction"]) (sc := defScope st_check_pose) (own := [("direction", 3)]) (by decide +kernel)) rfl (by decide) sg_name (g := gName 3) (fun _ _ _ _ _ => (qg_name 3 sc_check_pose.nd).1) (fun _ _ _ _ _ => qts_nil) (fun _ _ _ _ _ => (qe_callTy call_tuple_of cs_tuple (by rfl) z_tuple (by decide +kernel) (qa_cons (qe_var 3) qa_nil)))) qa_nil))))))
theorem c_check_pose (T : Txt K mg) (C_first_wrong : Callee P w K mg base 5 "first_wrong" 3 [] m_first_wrong) (C_is_direction : Callee P w K mg base 4 "is_direction" 1 [] m_is_direction) : Callee P w K mg base 6 "check_pose" 2 [] m_check_pose := by
  obtain ⟨f, fd, F, hm⟩ := T.F_check_pose
  exact ⟨f, fd, ["arms", "pose"], [], [], f_check_pose T C_first_wrong C_is_direction F, hm, F.kp, F.binds (ps := ["arms", "pose"]) (fun _ _ _ _ _ _ us hl => match us, hl with | [_, _], _ => rfl), .nil, fun _ _ => .nil⟩
theorem f_sum_of (T : Txt K mg) (C_plus : Callee P w K mg base 2 "plus" 2 [] m_plus) {f : Addr} {fd : FuncData} (F : Fun K "sum_of" "sum_of" st_sum_of f fd) : FnOk P w K mg base (L2.CX P w) 3 f fd ["row"] (spM K mg 1 m_sum_of) := by
  obtain ⟨_, g_ZERO⟩ := T.g_ZERO
  show FnOk P w K mg base (L2.CX P w) (2 + 1) f fd ["row"] (spM K mg 1 (mDef 3 b_sum_of))
  refine okM F sc_sum_of rfl rfl (fun cdv A outer s H E hr => ?_)
  exact (qss_cons (qs_set 1 sc_sum_of.nd (qe_glob (v := .ref _) (by rfl) g_ZERO.1 rfl g_ZERO.2)) (qss_cons (qs_for cx_pass rfl (qi_seq (qe_var 0)) (qg_name 2 sc_sum_of.nd) (qss_one (qs_set 1 sc_sum_of.nd (qe_c C_plus hr (by decide) cx_takes (qa_cons (qe_var 1) (qa_cons (qe_var 2) qa_nil)))))) (qss_one (qs_ret (qe_var 1)))))
theorem c_sum_of (T : Txt K mg) (C_plus : Callee P w K mg base 2 "plus" 2 [] m_plus) : Callee P w K mg base 3 "sum_of" 1 [] m_sum_of := by
  obtain ⟨f, fd, F, hm⟩ := T.F_sum_of
  exact ⟨f, fd, ["row"], [], [], f_sum_of T C_plus F, hm, F.kp, F.binds (ps := ["row"]) (fun _ _ _ _ _ _ us hl => match us, hl with | [_], _ => rfl), .nil, fun _ _ => .nil⟩
theorem f_product_of (T : Txt K mg) (C_sum_of : Callee P w K mg base 3 "sum_of" 1 [] m_sum_of) (C_times : Callee P w K mg base 2 "times" 2 [] m_times) {f : Addr} {fd : FuncData} (F : Fun K "product_of" "product_of" st_product_of f fd) : FnOk P w K mg base (L2.CX P w) 4 f fd ["one", "other"] (spM K mg 2 m_product_of) := by
  have z_zip := T.z_zip
  show FnOk P w K mg base (L2.CX P w) (3 + 1) f fd ["one", "other"] (spM K mg 2 (mDef 4 b_product_of))
  refine okM F sc_product_of rfl rfl (fun cdv A outer s H E hr => ?_)
  exact (qss_one (qs_ret (qe_c C_sum_of hr (by decide) cx_takes (qa_cons (qe_lcp rfl sc_product_of.nd (qip_zip (by rfl) z_zip (qe_var 0) (qe_var 1)) (blkOk_by (N := ["one", "other", "left", "right"]) (sc := defScope st_product_of) (own := [("left", 2), ("right", 3)]) (by decide +kernel)) rfl (by decide) (sg_seq (sgs_cons sg_name (sgs_cons sg_name sgs_nil))) (g := gSeq K 2 ((gCons (gName 2) ((gCons (gName 3) (gNil)))))) (fun _ _ _ _ _ => (qg_seq 2 rfl (qgs_cons (qg_name 2 sc_product_of.nd) (qgs_cons (qg_name 3 sc_product_of.nd) qgs_nil))).1) (fun _ _ _ _ _ => qts_nil) (fun _ _ _ _ _ => (qe_c C_times hr (by decide) takes0 (qa_cons (qe_var 2) (qa_cons (qe_var 3) qa_nil))))) qa_nil))))
theorem c_product_of (T : Txt K mg) (C_sum_of : Callee P w K mg base 3 "sum_of" 1 [] m_sum_of) (C_times : Callee P w K mg base 2 "times" 2 [] m_times) : Callee P w K mg base 4 "product_of" 2 [] m_product_of := by
  obtain ⟨f, fd, F, hm⟩ := T.F_product_of
  exact ⟨f, fd, ["one", "other"], [], [], f_product_of T C_sum_of C_times F, hm, F.kp, F.binds (ps := ["one", "other"]) (fun _ _ _ _ _ _ us hl => match us, hl with | [_, _], _ => rfl), .nil, fun _ _ => .nil⟩
theorem f_spot_by (T : Txt K mg) (C_plus : Callee P w K mg base 2 "plus" 2 [] m_plus) (C_product_of : Callee P w K mg base 4 "product_of" 2 [] m_product_of) {f : Addr} {fd : FuncData} (F : Fun K "spot_by" "spot_by" st_spot_by f fd) : FnOk P w K mg base (L2.CX P w) 5 f fd ["row", "pose"] (spM K mg 2 m_spot_by) := by
  show FnOk P w K mg base (L2.CX P w) (4 + 1) f fd ["row", "pose"] (spM K mg 2 (mDef 5 b_spot_by))
  refine okM F sc_spot_by rfl rfl (fun cdv A outer s H E hr => ?_)
  exact (qss_cons (qs_set 2 sc_spot_by.nd (qe_c C_product_of hr (by decide) cx_takes (qa_cons (qe_sl (qe_var 0) (qo_some qe_int) qo_none) (qa_cons (qe_lc rfl sc_spot_by.nd (qi_seq (qe_var 1)) (blkOk_by (N := ["row", "pose", "across", "direction", "upward"]) (sc := defScope st_spot_by) (own := [("direction", 3)]) (by decide +kernel)) rfl (by decide) sg_name (g := gName 3) (fun _ _ _ _ _ => (qg_name 3 sc_spot_by.nd).1) (fun _ _ _ _ _ => qts_nil) (fun _ _ _ _ _ => (qe_ix (qe_var 3) qe_int))) qa_nil)))) (qss_cons (qs_set 4 sc_spot_by.nd (qe_c C_product_of hr (by decide) cx_takes (qa_cons (qe_sl (qe_var 0) (qo_some qe_int) qo_none) (qa_cons (qe_lc rfl sc_spot_by.nd (qi_seq (qe_var 1)) (blkOk_by (N := ["row", "pose", "across", "direction", "upward"]) (sc := defScope st_spot_by) (own := [("direction", 3)]) (by decide +kernel)) rfl (by decide) sg_name (g := gName 3) (fun _ _ _ _ _ => (qg_name 3 sc_spot_by.nd).1) (fun _ _ _ _ _ => qts_nil) (fun _ _ _ _ _ => (qe_ix (qe_var 3) qe_int))) qa_nil)))) (qss_one (qs_ret (qe_tup (qa_cons (qe_var 2) (qa_cons (qe_c C_plus hr (by decide) cx_takes (qa_cons (qe_ix (qe_var 0) qe_int) (qa_cons (qe_var 4) qa_nil))) qa_nil)))))))
theorem c_spot_by (T : Txt K mg) (C_plus : Callee P w K mg base 2 "plus" 2 [] m_plus) (C_product_of : Callee P w K mg base 4 "product_of" 2 [] m_product_of) : Callee P w K mg base 5 "spot_by" 2 [] m_spot_by := by
  obtain ⟨f, fd, F, hm⟩ := T.F_spot_by
  exact ⟨f, fd, ["row", "pose"], [], [], f_spot_by T C_plus C_product_of F, hm, F.kp, F.binds (ps := ["row", "pose"]) (fun _ _ _ _ _ _ us hl => match us, hl with | [_, _], _ => rfl), .nil, fun _ _ => .nil⟩
theorem f_place_at (T : Txt K mg) (C_check_pose : Callee P w K mg base 6 "check_pose" 2 [] m_check_pose) (C_spot_by : Callee P w K mg base 5 "spot_by" 2 [] m_spot_by) (C_Arms__row_of : Method P w K mg base 20 "Arms" "row_of" 2 [] m_Arms__row_of) {f : Addr} {fd : FuncData} (F : Fun K "place_at" "place_at" st_place_at f fd) : FnOk P w K mg base (L2.CX P w) 21 f fd ["arms", "pose", "place"] (spM K mg 3 m_place_at) := by
  show FnOk P w K mg base (L2.CX P w) (20 + 1) f fd ["arms", "pose", "place"] (spM K mg 3 (mDef 3 b_place_at))
  refine okM F sc_place_at rfl rfl (fun cdv A outer s H E hr => ?_)
  exact (qss_cons (qs_set 1 sc_place_at.nd (qe_c C_check_pose hr (by decide) cx_takes (qa_cons (qe_var 0) (qa_cons (qe_var 1) qa_nil)))) (qss_one (qs_ret (qe_c C_spot_by hr (by decide) cx_takes (qa_cons (qe_meth C_Arms__row_of hr (by decide) cx_takes (qe_var 0) (qa_cons (qe_var 2) qa_nil)) (qa_cons (qe_var 1) qa_nil))))))
theorem c_place_at (T : Txt K mg) (C_check_pose : Callee P w K mg base 6 "check_pose" 2 [] m_check_pose) (C_spot_by : Callee P w K mg base 5 "spot_by" 2 [] m_spot_by) (C_Arms__row_of : Method P w K mg base 20 "Arms" "row_of" 2 [] m_Arms__row_of) : Callee P w K mg base 21 "place_at" 3 [] m_place_at := by
  obtain ⟨f, fd, F, hm⟩ := T.F_place_at
  exact ⟨f, fd, ["arms", "pose", "place"], [], [], f_place_at T C_check_pose C_spot_by C_Arms__row_of F, hm, F.kp, F.binds (ps := ["arms", "pose", "place"]) (fun _ _ _ _ _ _ us hl => match us, hl with | [_, _, _], _ => rfl), .nil, fun _ _ => .nil⟩
theorem f_height_at (T : Txt K mg) (C_place_at : Callee P w K mg base 21 "place_at" 3 [] m_place_at) {f : Addr} {fd : FuncData} (F : Fun K "height_at" "height_at" st_height_at f fd) : FnOk P w K mg base (L2.CX P w) 22 f fd ["arms", "pose", "place"] (spM K mg 3 m_height_at) := by
  show FnOk P w K mg base (L2.CX P w) (21 + 1) f fd ["arms", "pose", "place"] (spM K mg 3 (mDef 3 b_height_at))
  refine okM F sc_height_at rfl rfl (fun cdv A outer s H E hr => ?_)
  exact (qss_one (qs_ret (qe_ix (qe_c C_place_at hr (by decide) cx_takes (qa_cons (qe_var 0) (qa_cons (qe_var 1) (qa_cons (qe_var 2) qa_nil)))) qe_int)))
theorem c_height_at (T : Txt K mg) (C_place_at : Callee P w K mg base 21 "place_at" 3 [] m_place_at) : Callee P w K mg base 22 "height_at" 3 [] m_height_at := by
  obtain ⟨f, fd, F, hm⟩ := T.F_height_at
  exact ⟨f, fd, ["arms", "pose", "place"], [], [], f_height_at T C_place_at F, hm, F.kp, F.binds (ps := ["arms", "pose", "place"]) (fun _ _ _ _ _ _ us hl => match us, hl with | [_, _, _], _ => rfl), .nil, fun _ _ => .nil⟩
theorem f_hinges_at (T : Txt K mg) (C_check_pose : Callee P w K mg base 6 "check_pose" 2 [] m_check_pose) (C_spot_by : Callee P w K mg base 5 "spot_by" 2 [] m_spot_by) (C_Arms__hinge_row : Method P w K mg base 20 "Arms" "hinge_row" 2 [] m_Arms__hinge_row) {f : Addr} {fd : FuncData} (F : Fun K "hinges_at" "hinges_at" st_hinges_at f fd) : FnOk P w K mg base (L2.CX P w) 21 f fd ["arms", "pose"] (spM K mg 2 m_hinges_at) := by
  have A_bars := T.A_bars
  have z_len := T.z_len
  have z_range := T.z_range
  have z_tuple := T.z_tuple
  show FnOk P w K mg base (L2.CX P w) (20 + 1) f fd ["arms", "pose"] (spM K mg 2 (mDef 3 b_hinges_at))
  refine okM F sc_hinges_at rfl rfl (fun cdv A outer s H E hr => ?_)
  exact (qss_cons (qs_set 1 sc_hinges_at.nd (qe_c C_check_pose hr (by decide) cx_takes (qa_cons (qe_var 0) (qa_cons (qe_var 1) qa_nil)))) (qss_one (qs_ret (qe_callTy call_tuple_of cs_tuple (by rfl) z_tuple (by decide +kernel) (qa_cons (qe_lc rfl sc_hinges_at.nd (qi_rng1 (by rfl) z_range (qe_callB call_lenA cs_len (by rfl) z_len (by decide +kernel) (qa_cons (qe_attr A_bars (qe_var 0)) qa_nil))) (blkOk_by (N := ["arms", "pose", "number"]) (sc := defScope st_hinges_at) (own := [("number", 2)]) (by decide +kernel)) rfl (by decide) sg_name (g := gName 2) (fun _ _ _ _ _ => (qg_name 2 sc_hinges_at.nd).1) (fun _ _ _ _ _ => qts_nil) (fun _ _ _ _ _ => (qe_c C_spot_by hr (by decide) takes0 (qa_cons (qe_meth C_Arms__hinge_row hr (by decide) takes0 (qe_var 0) (qa_cons (qe_var 2) qa_nil)) (qa_cons (qe_var 1) qa_nil))))) qa_nil)))))
theorem c_hinges_at (T : Txt K mg) (C_check_pose : Callee P w K mg base 6 "check_pose" 2 [] m_check_pose) (C_spot_by : Callee P w K mg base 5 "spot_by" 2 [] m_spot_by) (C_Arms__hinge_row : Method P w K mg base 20 "Arms" "hinge_row" 2 [] m_Arms__hinge_row) : Callee P w K mg base 21 "hinges_at" 2 [] m_hinges_at := by
  obtain ⟨f, fd, F, hm⟩ := T.F_hinges_at
  exact ⟨f, fd, ["arms", "pose"], [], [], f_hinges_at T C_check_pose C_spot_by C_Arms__hinge_row F, hm, F.kp, F.binds (ps := ["arms", "pose"]) (fun _ _ _ _ _ _ us hl => match us, hl with | [_, _], _ => rfl), .nil, fun _ _ => .nil⟩
theorem f_minus (T : Txt K mg) (C_lowest_terms : Callee P w K mg base 1 "lowest_terms" 2 [] m_lowest_terms) {f : Addr} {fd : FuncData} (F : Fun K "minus" "minus" st_minus f fd) : FnOk P w K mg base (L2.CX P w) 2 f fd ["one", "other"] (spM K mg 2 m_minus) := by
  show FnOk P w K mg base (L2.CX P w) (1 + 1) f fd ["one", "other"] (spM K mg 2 (mDef 2 b_minus))
  refine okM F sc_minus rfl rfl (fun cdv A outer s H E hr => ?_)
  exact (qss_one (qs_ret (qe_c C_lowest_terms hr (by decide) cx_takes (qa_cons (qe_op op_sub os_sub (qe_op op_mulA os_mul (qe_ix (qe_var 0) qe_int) (qe_ix (qe_var 1) qe_int)) (qe_op op_mulA os_mul (qe_ix (qe_var 1) qe_int) (qe_ix (qe_var 0) qe_int))) (qa_cons (qe_op op_mulA os_mul (qe_ix (qe_var 0) qe_int) (qe_ix (qe_var 1) qe_int)) qa_nil)))))
theorem c_minus (T : Txt K mg) (C_lowest_terms : Callee P w K mg base 1 "lowest_terms" 2 [] m_lowest_terms) : Callee P w K mg base 2 "minus" 2 [] m_minus := by
  obtain ⟨f, fd, F, hm⟩ := T.F_minus
  exact ⟨f, fd, ["one", "other"], [], [], f_minus T C_lowest_terms F, hm, F.kp, F.binds (ps := ["one", "other"]) (fun _ _ _ _ _ _ us hl => match us, hl with | [_, _], _ => rfl), .nil, fun _ _ => .nil⟩
theorem f_take_row (T : Txt K mg) (C_minus : Callee P w K mg base 2 "minus" 2 [] m_minus) {f : Addr} {fd : FuncData} (F : Fun K "take_row" "take_row" st_take_row f fd) : FnOk P w K mg base (L2.CX P w) 3 f fd ["one", "other"] (spM K mg 2 m_take_row) := by
  have z_tuple := T.z_tuple
  have z_zip := T.z_zip
  show FnOk P w K mg base (L2.CX P w) (2 + 1) f fd ["one", "other"] (spM K mg 2 (mDef 4 b_take_row))
  refine okM F sc_take_row rfl rfl (fun cdv A outer s H E hr => ?_)
  exact (qss_one (qs_ret (qe_callTy call_tuple_of cs_tuple (by rfl) z_tuple (by decide +kernel) (qa_cons (qe_lcp rfl sc_take_row.nd (qip_zip (by rfl) z_zip (qe_var 0) (qe_var 1)) (blkOk_by (N := ["one", "other", "left", "right"]) (sc := defScope st_take_row) (own := [("left", 2), ("right", 3)]) (by decide +kernel)) rfl (by decide) (sg_seq (sgs_cons sg_name (sgs_cons sg_name sgs_nil))) (g := gSeq K 2 ((gCons (gName 2) ((gCons (gName 3) (gNil)))))) (fun _ _ _ _ _ => (qg_seq 2 rfl (qgs_cons (qg_name 2 sc_take_row.nd) (qgs_cons (qg_name 3 sc_take_row.nd) qgs_nil))).1) (fun _ _ _ _ _ => qts_nil) (fun _ _ _ _ _ => (qe_c C_minus hr (by decide) takes0 (qa_cons (qe_var 2) (qa_cons (qe_var 3) qa_nil))))) qa_nil))))
theorem c_take_row (T : Txt K mg) (C_minus : Callee P w K mg base 2 "minus" 2 [] m_minus) : Callee P w K mg base 3 "take_row" 2 [] m_take_row := by
  obtain ⟨f, fd, F, hm⟩ := T.F_take_row
  exact ⟨f, fd, ["one", "other"], [], [], f_take_row T C_minus F, hm, F.kp, F.binds (ps := ["one", "other"]) (fun _ _ _ _ _ _ us hl => match us, hl with | [_, _], _ => rfl), .nil, fun _ _ => .nil⟩
theorem f_Arms__difference_row (T : Txt K mg) (C_take_row : Callee P w K mg base 3 "take_row" 2 [] m_take_row) (C_Arms__row_of : Method P w K mg base 20 "Arms" "row_of" 2 [] m_Arms__row_of) {f : Addr} {fd : FuncData} (F : Fun K "difference_row" "Arms.difference_row" st_Arms__difference_row f fd) : FnOk P w K mg base (L2.CX P w) (20 + 1) f fd ["self", "one", "other"] (spM K mg 3 (mDef 3 b_Arms__difference_row)) := by
  refine okM F sc_Arms__difference_row rfl rfl (fun cdv A outer s H E hr => ?_)
  exact (qss_one (qs_ret (qe_c C_take_row hr (by decide) cx_takes (qa_cons (qe_meth C_Arms__row_of hr (by decide) cx_takes (qe_var 0) (qa_cons (qe_var 1) qa_nil)) (qa_cons (qe_meth C_Arms__row_of hr (by decide) cx_takes (qe_var 0) (qa_cons (qe_var 2) qa_nil)) qa_nil)))))
theorem c_Arms__difference_row (T : Txt K mg) (C_take_row : Callee P w K mg base 3 "take_row" 2 [] m_take_row) (C_Arms__row_of : Method P w K mg base 20 "Arms" "row_of" 2 [] m_Arms__row_of) : Method P w K mg base 21 "Arms" "difference_row" 3 [] m_Arms__difference_row := by
  obtain ⟨C, f, fd, h1, h2, h3, F⟩ := T.G_Arms__difference_row
  exact Mir.method_of (qual := "") (st := st_Arms__difference_row) h1 h2 h3 (f_Arms__difference_row T C_take_row C_Arms__row_of F) (F.binds (ps := ["self", "one", "other"]) (fun _ _ _ _ _ _ us hl => match us, hl with | [_, _, _], _ => rfl))
theorem f_square_by (T : Txt K mg) (C_dot_of : Callee P w K mg base 3 "dot_of" 2 [] m_dot_of) (C_spot_by : Callee P w K mg base 5 "spot_by" 2 [] m_spot_by) {f : Addr} {fd : FuncData} (F : Fun K "square_by" "square_by" st_square_by f fd) : FnOk P w K mg base (L2.CX P w) 6 f fd ["row", "pose"] (spM K mg 2 m_square_by) := by
  show FnOk P w K mg base (L2.CX P w) (5 + 1) f fd ["row", "pose"] (spM K mg 2 (mDef 3 b_square_by))
  refine okM F sc_square_by rfl rfl (fun cdv A outer s H E hr => ?_)
  exact (qss_cons (qs_set 2 sc_square_by.nd (qe_c C_spot_by hr (by decide) cx_takes (qa_cons (qe_var 0) (qa_cons (qe_var 1) qa_nil)))) (qss_one (qs_ret (qe_c C_dot_of hr (by decide) cx_takes (qa_cons (qe_var 2) (qa_cons (qe_var 2) qa_nil))))))
theorem c_square_by (T : Txt K mg) (C_dot_of : Callee P w K mg base 3 "dot_of" 2 [] m_dot_of) (C_spot_by : Callee P w K mg base 5 "spot_by" 2 [] m_spot_by) : Callee P w K mg base 6 "square_by" 2 [] m_square_by := by
  obtain ⟨f, fd, F, hm⟩ := T.F_square_by
  exact ⟨f, fd, ["row", "pose"], [], [], f_square_by T C_dot_of C_spot_by F, hm, F.kp, F.binds (ps := ["row", "pose"]) (fun _ _ _ _ _ _ us hl => match us, hl with | [_, _], _ => rfl), .nil, fun _ _ => .nil⟩
theorem f_square_between (T : Txt K mg) (C_check_pose : Callee P w K mg base 6 "check_pose" 2 [] m_check_pose) (C_square_by : Callee P w K mg base 6 "square_by" 2 [] m_square_by) (C_Arms__difference_row : Method P w K mg base 21 "Arms" "difference_row" 3 [] m_Arms__difference_row) {f : Addr} {fd : FuncData} (F : Fun K "square_between" "square_between" st_square_between f fd) : FnOk P w K mg base (L2.CX P w) 22 f fd ["arms", "pose", "one", "other"] (spM K mg 4 m_square_between) := by
  show FnOk P w K mg base (L2.CX P w) (21 + 1) f fd ["arms", "pose", "one", "other"] (spM K mg 4 (mDef 4 b_square_between))
  refine okM F sc_square_between rfl rfl (fun cdv A outer s H E hr => ?_)
  exact (qss_cons (qs_set 1 sc_square_between.nd (qe_c C_check_pose hr (by decide) cx_takes (qa_cons (qe_var 0) (qa_cons (qe_var 1) qa_nil)))) (qss_one (qs_ret (qe_c C_square_by hr (by decide) cx_takes (qa_cons (qe_meth C_Arms__difference_row hr (by decide) cx_takes (qe_var 0) (qa_cons (qe_var 2) (qa_cons (qe_var 3) qa_nil))) (qa_cons (qe_var 1) qa_nil))))))
theorem c_square_between (T : Txt K mg) (C_check_pose : Callee P w K mg base 6 "check_pose" 2 [] m_check_pose) (C_square_by : Callee P w K mg base 6 "square_by" 2 [] m_square_by) (C_Arms__difference_row : Method P w K mg base 21 "Arms" "difference_row" 3 [] m_Arms__difference_row) : Callee P w K mg base 22 "square_between" 4 [] m_square_between := by
  obtain ⟨f, fd, F, hm⟩ := T.F_square_between
  exact ⟨f, fd, ["arms", "pose", "one", "other"], [], [], f_square_between T C_check_pose C_square_by C_Arms__difference_row F, hm, F.kp, F.binds (ps := ["arms", "pose", "one", "other"]) (fun _ _ _ _ _ _ us hl => match us, hl with | [_, _, _, _], _ => rfl), .nil, fun _ _ => .nil⟩
theorem f__law_called (T : Txt K mg) (C_height_at : Callee P w K mg base 22 "height_at" 3 [] m_height_at) (C_hinges_at : Callee P w K mg base 21 "hinges_at" 2 [] m_hinges_at) (C_place_at : Callee P w K mg base 21 "place_at" 3 [] m_place_at) (C_square_between : Callee P w K mg base 22 "square_between" 4 [] m_square_between) {f : Addr} {fd : FuncData} (F : Fun K "_law_called" "_law_called" st__law_called f fd) : FnOk P w K mg base (L2.CX P w) 23 f fd ["_law_act", "_law_arms", "_law_pose", "_law_one", "_law_other"] (spM K mg 5 m__law_called) := by
  have Q_BadPlace := T.Q_BadPlace
  have Q_BadPose := T.Q_BadPose
  have K_BadPose : ∃ C : Addr, mg "BadPose" = some (.ref C) ∧ PySem.W.exmOne K (.ref C) (.ref C) = some true ∧ XfC K C ∧ PySem.W.findIn K (.ref C) "index" = some none := by
    obtain ⟨C, fI, fd, h1, h2, h3, h4, h5, F, h6, h7⟩ := T.X_BadPose
    exact ⟨C, h1, h6, h7, h3 _ (by simp)⟩
  have M_BadPlace := T.M_BadPlace
  have M_BadPose := T.M_BadPose
  show FnOk P w K mg base (L2.CX P w) (22 + 1) f fd ["_law_act", "_law_arms", "_law_pose", "_law_one", "_law_other"] (spM K mg 5 (mDef 7 b__law_called))
  refine okM F sc__law_called rfl rfl (fun cdv A outer s H E hr => ?_)
  exact (qss_cons (qs_set 5 sc__law_called.nd (qe_tup (qa_cons qe_str (qa_cons qe_non qa_nil)))) (qss_cons (by obtain ⟨CC_BadPlace, hm_BadPlace⟩ := M_BadPlace; obtain ⟨CC_BadPose, hm_BadPose, he_BadPose, xf_BadPose, nof_index⟩ := K_BadPose; exact qs_tryE (all := ["BadPose", "BadPlace"]) rfl rfl sc__law_called.nd cx_takes (fun W pn xe tkT psT => (qss_one (qs_if (qt_cmp (op_eqD hr.units) os_eq (qe_var 0) qe_int (nomark _)) (qss_one (qs_set 5 sc__law_called.nd (qe_tup (qa_cons qe_str (qa_cons (qe_c C_place_at hr (by decide) tkT (qa_cons (qe_var 1) (qa_cons (qe_var 2) (qa_cons (qe_var 3) qa_nil)))) qa_nil))))) (qss_one (qs_if (qt_cmp (op_eqD hr.units) os_eq (qe_var 0) qe_int (nomark _)) (qss_one (qs_set 5 sc__law_called.nd (qe_tup (qa_cons qe_str (qa_cons (qe_c C_height_at hr (by decide) tkT (qa_cons (qe_var 1) (qa_cons (qe_var 2) (qa_cons (qe_var 3) qa_nil)))) qa_nil))))) (qss_one (qs_if (qt_cmp (op_eqD hr.units) os_eq (qe_var 0) qe_int (nomark _)) (qss_one (qs_set 5 sc__law_called.nd (qe_tup (qa_cons qe_str (qa_cons (qe_c C_hinges_at hr (by decide) tkT (qa_cons (qe_var 1) (qa_cons (qe_var 2) qa_nil))) qa_nil))))) (qss_one (qs_set 5 sc__law_called.nd (qe_tup (qa_cons qe_str (qa_cons (qe_c C_square_between hr (by decide) tkT (qa_cons (qe_var 1) (qa_cons (qe_var 2) (qa_cons (qe_var 3) (qa_cons (qe_var 4) qa_nil))))) qa_nil)))))))))))) (.name rfl rfl hm_BadPose (by rfl) (by decide) (qx_set sc__law_called.nd (by rfl) (by first | exact Or.inl rfl | exact Or.inr rfl) (by intro _ _ _; rfl) (by intro _ _ _; exact .inr rfl) (fun a oe cls d pn hz hf => (pe_tup (pa_cons pe_str (pa_cons (pe_xf xf_BadPose nof_index hz hf (pv 6)) pa_nil)))) (fun a dd => (xe_tup (xa_cons (xe_c fun _ _ => .str _) (xa_cons xe_fld xa_nil))))) Q_BadPose (.bare hm_BadPlace (by rfl) (by decide) (qx_bare fun a oe pn => (qss_one (qs_set 5 sc__law_called.nd (qe_tup (qa_cons qe_str (qa_cons qe_non qa_nil)))))) Q_BadPlace .nil))) (qss_one (qs_ret (qe_var 5)))))
theorem c__law_called (T : Txt K mg) (C_height_at : Callee P w K mg base 22 "height_at" 3 [] m_height_at) (C_hinges_at : Callee P w K mg base 21 "hinges_at" 2 [] m_hinges_at) (C_place_at : Callee P w K mg base 21 "place_at" 3 [] m_place_at) (C_square_between : Callee P w K mg base 22 "square_between" 4 [] m_square_between) : Callee P w K mg base 23 "_law_called" 5 [] m__law_called := by
  obtain ⟨f, fd, F, hm⟩ := T.F__law_called
  exact ⟨f, fd, ["_law_act", "_law_arms", "_law_pose", "_law_one", "_law_other"], [], [], f__law_called T C_height_at C_hinges_at C_place_at C_square_between F, hm, F.kp, F.binds (ps := ["_law_act", "_law_arms", "_law_pose", "_law_one", "_law_other"]) (fun _ _ _ _ _ _ us hl => match us, hl with | [_, _, _, _, _], _ => rfl), .nil, fun _ _ => .nil⟩
theorem f__law_form (T : Txt K mg) (C__law_take : Callee P w K mg base 1 "_law_take" 2 [] m__law_take) {f : Addr} {fd : FuncData} (F : Fun K "_law_form" "_law_form" st__law_form f fd) : FnOk P w K mg base (L2.CX P w) 2 f fd ["_law_hand_here", "_law_row"] (spM K mg 2 m__law_form) := by
  have z_list := T.z_list
  have z_tuple := T.z_tuple
  show FnOk P w K mg base (L2.CX P w) (1 + 1) f fd ["_law_hand_here", "_law_row"] (spM K mg 2 (mDef 2 b__law_form))
  refine okM F sc__law_form rfl rfl (fun cdv A outer s H E hr => ?_)
  exact (qss_one (qs_ret (qe_if (qt_cmp (op_eqD hr.units) os_eq (qe_c C__law_take hr (by decide) cx_takes (qa_cons (qe_var 0) (qa_cons qe_int qa_nil))) qe_int (nomark _)) (qe_callTy call_list_of cs_list (by rfl) z_list (by decide +kernel) (qa_cons (qe_var 1) qa_nil)) (qe_callTy call_tuple_of cs_tuple (by rfl) z_tuple (by decide +kernel) (qa_cons (qe_var 1) qa_nil)))))
theorem c__law_form (T : Txt K mg) (C__law_take : Callee P w K mg base 1 "_law_take" 2 [] m__law_take) : Callee P w K mg base 2 "_law_form" 2 [] m__law_form := by
  obtain ⟨f, fd, F, hm⟩ := T.F__law_form
  exact ⟨f, fd, ["_law_hand_here", "_law_row"], [], [], f__law_form T C__law_take F, hm, F.kp, F.binds (ps := ["_law_hand_here", "_law_row"]) (fun _ _ _ _ _ _ us hl => match us, hl with | [_, _], _ => rfl), .nil, fun _ _ => .nil⟩
theorem f__law_is_ratio (T : Txt K mg) (C__law_gcd : Callee P w K mg base 1 "_law_gcd" 2 [] m__law_gcd) {f : Addr} {fd : FuncData} (F : Fun K "_law_is_ratio" "_law_is_ratio" st__law_is_ratio f fd) : FnOk P w K mg base (L2.CX P w) 2 f fd ["_law_thing"] (spM K mg 1 m__law_is_ratio) := by
  have z_bool := T.z_bool
  have z_int := T.z_int
  have z_isinstance := T.z_isinstance
  have z_len := T.z_len
  have z_tuple := T.z_tuple
  show FnOk P w K mg base (L2.CX P w) (1 + 1) f fd ["_law_thing"] (spM K mg 1 (mDef 2 b__law_is_ratio))
  refine okM F sc__law_is_ratio rfl rfl (fun cdv A outer s H E hr => ?_)
  exact (qss_cons (qs_if (qt_w (qw_or (qt_not (qt_tru (qe_isi (qe_var 0) (by rfl) z_isinstance (by rfl) z_tuple (by decide +kernel)))) (qw_or1 (qt_cmp (op_neD hr.units) os_ne (qe_callB call_lenA cs_len (by rfl) z_len (by decide +kernel) (qa_cons (qe_var 0) qa_nil)) qe_int (nomark _))))) (qss_one (qs_ret qe_bl)) qss_nil) (qss_cons (qs_for cx_pass rfl (qi_seq (qe_var 0)) (qg_name 1 sc__law_is_ratio.nd) (qss_one (qs_if (qt_w (qw_or (qt_not (qt_tru (qe_isi (qe_var 1) (by rfl) z_isinstance (by rfl) z_int (by decide +kernel)))) (qw_or1 (qt_tru (qe_isi (qe_var 1) (by rfl) z_isinstance (by rfl) z_bool (by decide +kernel)))))) (qss_one (qs_ret qe_bl)) qss_nil))) (qss_one (qs_ret (qe_and (qe_cmp op_ge os_ge (qe_ix (qe_var 0) qe_int) qe_int (nomark _)) (qe_one (qe_cmp (op_eqD hr.units) os_eq (qe_c C__law_gcd hr (by decide) cx_takes (qa_cons (qe_ix (qe_var 0) qe_int) (qa_cons (qe_ix (qe_var 0) qe_int) qa_nil))) qe_int (nomark _))))))))
theorem c__law_is_ratio (T : Txt K mg) (C__law_gcd : Callee P w K mg base 1 "_law_gcd" 2 [] m__law_gcd) : Callee P w K mg base 2 "_law_is_ratio" 1 [] m__law_is_ratio := by
  obtain ⟨f, fd, F, hm⟩ := T.F__law_is_ratio
  exact ⟨f, fd, ["_law_thing"], [], [], f__law_is_ratio T C__law_gcd F, hm, F.kp, F.binds (ps := ["_law_thing"]) (fun _ _ _ _ _ _ us hl => match us, hl with | [_], _ => rfl), .nil, fun _ _ => .nil⟩
theorem f__law_is_place (T : Txt K mg) (C__law_is_ratio : Callee P w K mg base 2 "_law_is_ratio" 1 [] m__law_is_ratio) {f : Addr} {fd : FuncData} (F : Fun K "_law_is_place" "_law_is_place" st__law_is_place f fd) : FnOk P w K mg base (L2.CX P w) 3 f fd ["_law_thing", "_law_many"] (spM K mg 2 m__law_is_place) := by
  have z_bool := T.z_bool
  have z_int := T.z_int
  have z_isinstance := T.z_isinstance
  have z_len := T.z_len
  have z_list := T.z_list
  have z_tuple := T.z_tuple
  show FnOk P w K mg base (L2.CX P w) (2 + 1) f fd ["_law_thing", "_law_many"] (spM K mg 2 (mDef 2 b__law_is_place))
  refine okM F sc__law_is_place rfl rfl (fun cdv A outer s H E hr => ?_)
  exact (qss_cons (qs_if (qt_w (qw_or (qt_not (qt_tru (qe_isi2 (qe_var 0) (by rfl) z_isinstance (by rfl) z_list (by decide +kernel) (by rfl) z_tuple (by decide +kernel)))) (qw_or1 (qt_cmp (op_neD hr.units) os_ne (qe_callB call_lenA cs_len (by rfl) z_len (by decide +kernel) (qa_cons (qe_var 0) qa_nil)) qe_int (nomark _))))) (qss_one (qs_ret qe_bl)) qss_nil) (qss_cons (qs_if (qt_w (qw_or (qt_not (qt_tru (qe_isi (qe_ix (qe_var 0) qe_int) (by rfl) z_isinstance (by rfl) z_int (by decide +kernel)))) (qw_or (qt_tru (qe_isi (qe_ix (qe_var 0) qe_int) (by rfl) z_isinstance (by rfl) z_bool (by decide +kernel))) (qw_or1 (qt_not (qt_chain op_le os_le op_lt os_lt (qe_un un_neg us_neg qe_int) (qe_ix (qe_var 0) qe_int) (qe_var 1) rfl)))))) (qss_one (qs_ret qe_bl)) qss_nil) (qss_one (qs_ret (qe_c C__law_is_ratio hr (by decide) cx_takes (qa_cons (qe_ix (qe_var 0) qe_int) qa_nil))))))
theorem c__law_is_place (T : Txt K mg) (C__law_is_ratio : Callee P w K mg base 2 "_law_is_ratio" 1 [] m__law_is_ratio) : Callee P w K mg base 3 "_law_is_place" 2 [] m__law_is_place := by
  obtain ⟨f, fd, F, hm⟩ := T.F__law_is_place
  exact ⟨f, fd, ["_law_thing", "_law_many"], [], [], f__law_is_place T C__law_is_ratio F, hm, F.kp, F.binds (ps := ["_law_thing", "_law_many"]) (fun _ _ _ _ _ _ us hl => match us, hl with | [_, _], _ => rfl), .nil, fun _ _ => .nil⟩
theorem f__law_stand (T : Txt K mg) (C__law_plus : Callee P w K mg base 3 "_law_plus" 2 [] m__law_plus) (C__law_times : Callee P w K mg base 3 "_law_times" 2 [] m__law_times) {f : Addr} {fd : FuncData} (F : Fun K "_law_stand" "_law_stand" st__law_stand f fd) : FnOk P w K mg base (L2.CX P w) 4 f fd ["_law_bars", "_law_pose", "_law_place"] (spM K mg 3 m__law_stand) := by
  have z_len := T.z_len
  have z_range := T.z_range
  show FnOk P w K mg base (L2.CX P w) (3 + 1) f fd ["_law_bars", "_law_pose", "_law_place"] (spM K mg 3 (mDef 10 b__law_stand))
  refine okM F sc__law_stand rfl rfl (fun cdv A outer s H E hr => ?_)
  exact (qss_cons (qs_asg (qe_var 2) (qg_seq 2 rfl (qgs_cons (qg_name 3 sc__law_stand.nd) (qgs_cons (qg_name 4 sc__law_stand.nd) qgs_nil)))) (qss_cons (qs_set 5 sc__law_stand.nd (qe_tup (qa_cons qe_int (qa_cons qe_int qa_nil)))) (qss_cons (qs_set 6 sc__law_stand.nd (qe_tup (qa_cons qe_int (qa_cons qe_int qa_nil)))) (qss_cons (qs_for cx_pass rfl (qi_rng1 (by rfl) z_range (qe_op op_addA os_add (qe_callB call_lenA cs_len (by rfl) z_len (by decide +kernel) (qa_cons (qe_var 0) qa_nil)) qe_int)) (qg_name 7 sc__law_stand.nd) (qss_cons (qs_set 8 sc__law_stand.nd (qe_if (qt_cmp op_lt os_lt (qe_var 3) qe_int (nomark _)) qe_int (qe_ix (qe_ix (qe_var 0) (qe_var 3)) qe_int))) (qss_cons (qs_set 9 sc__law_stand.nd (qe_if (qt_cmp (op_eqD hr.units) os_eq (qe_var 8) qe_int (nomark _)) (qe_tup (qa_cons (qe_tup (qa_cons qe_int (qa_cons qe_int qa_nil))) (qa_cons (qe_tup (qa_cons qe_int (qa_cons qe_int qa_nil))) qa_nil))) (qe_ix (qe_var 1) (qe_op op_sub os_sub (qe_var 8) qe_int)))) (qss_cons (qs_set 5 sc__law_stand.nd (qe_c C__law_plus hr (by decide) cx_takes (qa_cons (qe_var 5) (qa_cons (qe_c C__law_times hr (by decide) cx_takes (qa_cons (qe_var 4) (qa_cons (qe_ix (qe_var 9) qe_int) qa_nil))) qa_nil)))) (qss_cons (qs_set 6 sc__law_stand.nd (qe_c C__law_plus hr (by decide) cx_takes (qa_cons (qe_var 6) (qa_cons (qe_c C__law_times hr (by decide) cx_takes (qa_cons (qe_var 4) (qa_cons (qe_ix (qe_var 9) qe_int) qa_nil))) qa_nil)))) (qss_cons (qs_if (qt_cmp op_lt os_lt (qe_var 3) qe_int (nomark _)) (qss_one qs_break) qss_nil) (qss_one (qs_par 3 4 rfl sc__law_stand.nd (by decide) (qa_cons (qe_ix (qe_ix (qe_var 0) (qe_var 3)) qe_int) (qa_cons (qe_ix (qe_ix (qe_var 0) (qe_var 3)) qe_int) qa_nil)))))))))) (qss_one (qs_ret (qe_tup (qa_cons (qe_var 5) (qa_cons (qe_var 6) qa_nil)))))))))
theorem c__law_stand (T : Txt K mg) (C__law_plus : Callee P w K mg base 3 "_law_plus" 2 [] m__law_plus) (C__law_times : Callee P w K mg base 3 "_law_times" 2 [] m__law_times) : Callee P w K mg base 4 "_law_stand" 3 [] m__law_stand := by
  obtain ⟨f, fd, F, hm⟩ := T.F__law_stand
  exact ⟨f, fd, ["_law_bars", "_law_pose", "_law_place"], [], [], f__law_stand T C__law_plus C__law_times F, hm, F.kp, F.binds (ps := ["_law_bars", "_law_pose", "_law_place"]) (fun _ _ _ _ _ _ us hl => match us, hl with | [_, _, _], _ => rfl), .nil, fun _ _ => .nil⟩
theorem f__law_gap (T : Txt K mg) (C__law_less : Callee P w K mg base 3 "_law_less" 2 [] m__law_less) (C__law_stand : Callee P w K mg base 4 "_law_stand" 3 [] m__law_stand) {f : Addr} {fd : FuncData} (F : Fun K "_law_gap" "_law_gap" st__law_gap f fd) : FnOk P w K mg base (L2.CX P w) 5 f fd ["_law_bars", "_law_pose", "_law_one", "_law_other"] (spM K mg 4 m__law_gap) := by
  show FnOk P w K mg base (L2.CX P w) (4 + 1) f fd ["_law_bars", "_law_pose", "_law_one", "_law_other"] (spM K mg 4 (mDef 6 b__law_gap))
  refine okM F sc__law_gap rfl rfl (fun cdv A outer s H E hr => ?_)
  exact (qss_cons (qs_set 4 sc__law_gap.nd (qe_c C__law_stand hr (by decide) cx_takes (qa_cons (qe_var 0) (qa_cons (qe_var 1) (qa_cons (qe_var 2) qa_nil))))) (qss_cons (qs_set 5 sc__law_gap.nd (qe_c C__law_stand hr (by decide) cx_takes (qa_cons (qe_var 0) (qa_cons (qe_var 1) (qa_cons (qe_var 3) qa_nil))))) (qss_one (qs_ret (qe_tup (qa_cons (qe_c C__law_less hr (by decide) cx_takes (qa_cons (qe_ix (qe_var 4) qe_int) (qa_cons (qe_ix (qe_var 5) qe_int) qa_nil))) (qa_cons (qe_c C__law_less hr (by decide) cx_takes (qa_cons (qe_ix (qe_var 4) qe_int) (qa_cons (qe_ix (qe_var 5) qe_int) qa_nil))) qa_nil)))))))
theorem c__law_gap (T : Txt K mg) (C__law_less : Callee P w K mg base 3 "_law_less" 2 [] m__law_less) (C__law_stand : Callee P w K mg base 4 "_law_stand" 3 [] m__law_stand) : Callee P w K mg base 5 "_law_gap" 4 [] m__law_gap := by
  obtain ⟨f, fd, F, hm⟩ := T.F__law_gap
  exact ⟨f, fd, ["_law_bars", "_law_pose", "_law_one", "_law_other"], [], [], f__law_gap T C__law_less C__law_stand F, hm, F.kp, F.binds (ps := ["_law_bars", "_law_pose", "_law_one", "_law_other"]) (fun _ _ _ _ _ _ us hl => match us, hl with | [_, _, _, _], _ => rfl), .nil, fun _ _ => .nil⟩
theorem f__law_same (T : Txt K mg) {f : Addr} {fd : FuncData} (F : Fun K "_law_same" "_law_same" st__law_same f fd) : FnOk P w K mg base (L2.CX P w) 1 f fd ["_law_told", "_law_due"] (spM K mg 2 m__law_same) := by
  have z_bool := T.z_bool
  have z_int := T.z_int
  have z_isinstance := T.z_isinstance
  have z_len := T.z_len
  have z_tuple := T.z_tuple
  show FnOk P w K mg base (L2.CX P w) (0 + 1) f fd ["_law_told", "_law_due"] (spM K mg 2 (mDef 3 b__law_same))
  refine okM F sc__law_same rfl rfl (fun cdv A outer s H E hr => ?_)
  exact (qss_cons (qs_if (qt_w (qw_or (qt_not (qt_tru (qe_isi (qe_var 0) (by rfl) z_isinstance (by rfl) z_tuple (by decide +kernel)))) (qw_or1 (qt_cmp (op_neD hr.units) os_ne (qe_callB call_lenA cs_len (by rfl) z_len (by decide +kernel) (qa_cons (qe_var 0) qa_nil)) qe_int (nomark _))))) (qss_one (qs_ret qe_bl)) qss_nil) (qss_cons (qs_for cx_pass rfl (qi_seq (qe_var 0)) (qg_name 2 sc__law_same.nd) (qss_one (qs_if (qt_w (qw_or (qt_not (qt_tru (qe_isi (qe_var 2) (by rfl) z_isinstance (by rfl) z_int (by decide +kernel)))) (qw_or1 (qt_tru (qe_isi (qe_var 2) (by rfl) z_isinstance (by rfl) z_bool (by decide +kernel)))))) (qss_one (qs_ret qe_bl)) qss_nil))) (qss_one (qs_ret (qe_and (qe_cmp (op_eqD hr.units) os_eq (qe_ix (qe_var 0) qe_int) (qe_ix (qe_var 1) qe_int) (nomark _)) (qe_one (qe_cmp (op_eqD hr.units) os_eq (qe_ix (qe_var 0) qe_int) (qe_ix (qe_var 1) qe_int) (nomark _))))))))
theorem c__law_same (T : Txt K mg) : Callee P w K mg base 1 "_law_same" 2 [] m__law_same := by
  obtain ⟨f, fd, F, hm⟩ := T.F__law_same
  exact ⟨f, fd, ["_law_told", "_law_due"], [], [], f__law_same T  F, hm, F.kp, F.binds (ps := ["_law_told", "_law_due"]) (fun _ _ _ _ _ _ us hl => match us, hl with | [_, _], _ => rfl), .nil, fun _ _ => .nil⟩
theorem f__law_same_row (T : Txt K mg) (C__law_same : Callee P w K mg base 1 "_law_same" 2 [] m__law_same) {f : Addr} {fd : FuncData} (F : Fun K "_law_same_row" "_law_same_row" st__law_same_row f fd) : FnOk P w K mg base (L2.CX P w) 2 f fd ["_law_told", "_law_due"] (spM K mg 2 m__law_same_row) := by
  have z_isinstance := T.z_isinstance
  have z_len := T.z_len
  have z_range := T.z_range
  have z_tuple := T.z_tuple
  show FnOk P w K mg base (L2.CX P w) (1 + 1) f fd ["_law_told", "_law_due"] (spM K mg 2 (mDef 3 b__law_same_row))
  refine okM F sc__law_same_row rfl rfl (fun cdv A outer s H E hr => ?_)
  exact (qss_cons (qs_if (qt_w (qw_or (qt_not (qt_tru (qe_isi (qe_var 0) (by rfl) z_isinstance (by rfl) z_tuple (by decide +kernel)))) (qw_or1 (qt_cmp (op_neD hr.units) os_ne (qe_callB call_lenA cs_len (by rfl) z_len (by decide +kernel) (qa_cons (qe_var 0) qa_nil)) (qe_callB call_lenA cs_len (by rfl) z_len (by decide +kernel) (qa_cons (qe_var 1) qa_nil)) (nomark _))))) (qss_one (qs_ret qe_bl)) qss_nil) (qss_one (qs_ret (qe_cmp (op_eqD hr.units) os_eq (qe_lc rfl sc__law_same_row.nd (qi_rng1 (by rfl) z_range (qe_callB call_lenA cs_len (by rfl) z_len (by decide +kernel) (qa_cons (qe_var 1) qa_nil))) (blkOk_by (N := ["_law_told", "_law_due", "_law_k"]) (sc := defScope st__law_same_row) (own := [("_law_k", 2)]) (by decide +kernel)) rfl (by decide) sg_name (g := gName 2) (fun _ _ _ _ _ => (qg_name 2 sc__law_same_row.nd).1) (fun _ _ _ _ _ => (qts_one (qt_not (qt_tru (qe_c C__law_same hr (by decide) takes0 (qa_cons (qe_ix (qe_var 0) (qe_var 2)) (qa_cons (qe_ix (qe_var 1) (qe_var 2)) qa_nil))))))) (fun _ _ _ _ _ => (qe_var 2))) (qe_lst qa_nil) (nomark _)))))
theorem c__law_same_row (T : Txt K mg) (C__law_same : Callee P w K mg base 1 "_law_same" 2 [] m__law_same) : Callee P w K mg base 2 "_law_same_row" 2 [] m__law_same_row := by
  obtain ⟨f, fd, F, hm⟩ := T.F__law_same_row
  exact ⟨f, fd, ["_law_told", "_law_due"], [], [], f__law_same_row T C__law_same F, hm, F.kp, F.binds (ps := ["_law_told", "_law_due"]) (fun _ _ _ _ _ _ us hl => match us, hl with | [_, _], _ => rfl), .nil, fun _ _ => .nil⟩
theorem f__law_same_rows (T : Txt K mg) (C__law_same_row : Callee P w K mg base 2 "_law_same_row" 2 [] m__law_same_row) {f : Addr} {fd : FuncData} (F : Fun K "_law_same_rows" "_law_same_rows" st__law_same_rows f fd) : FnOk P w K mg base (L2.CX P w) 3 f fd ["_law_told", "_law_due"] (spM K mg 2 m__law_same_rows) := by
  have z_isinstance := T.z_isinstance
  have z_len := T.z_len
  have z_range := T.z_range
  have z_tuple := T.z_tuple
  show FnOk P w K mg base (L2.CX P w) (2 + 1) f fd ["_law_told", "_law_due"] (spM K mg 2 (mDef 3 b__law_same_rows))
  refine okM F sc__law_same_rows rfl rfl (fun cdv A outer s H E hr => ?_)
  exact (qss_cons (qs_if (qt_w (qw_or (qt_not (qt_tru (qe_isi (qe_var 0) (by rfl) z_isinstance (by rfl) z_tuple (by decide +kernel)))) (qw_or1 (qt_cmp (op_neD hr.units) os_ne (qe_callB call_lenA cs_len (by rfl) z_len (by decide +kernel) (qa_cons (qe_var 0) qa_nil)) (qe_callB call_lenA cs_len (by rfl) z_len (by decide +kernel) (qa_cons (qe_var 1) qa_nil)) (nomark _))))) (qss_one (qs_ret qe_bl)) qss_nil) (qss_one (qs_ret (qe_cmp (op_eqD hr.units) os_eq (qe_lc rfl sc__law_same_rows.nd (qi_rng1 (by rfl) z_range (qe_callB call_lenA cs_len (by rfl) z_len (by decide +kernel) (qa_cons (qe_var 1) qa_nil))) (blkOk_by (N := ["_law_told", "_law_due", "_law_k"]) (sc := defScope st__law_same_rows) (own := [("_law_k", 2)]) (by decide +kernel)) rfl (by decide) sg_name (g := gName 2) (fun _ _ _ _ _ => (qg_name 2 sc__law_same_rows.nd).1) (fun _ _ _ _ _ => (qts_one (qt_not (qt_tru (qe_c C__law_same_row hr (by decide) takes0 (qa_cons (qe_ix (qe_var 0) (qe_var 2)) (qa_cons (qe_ix (qe_var 1) (qe_var 2)) qa_nil))))))) (fun _ _ _ _ _ => (qe_var 2))) (qe_lst qa_nil) (nomark _)))))
theorem c__law_same_rows (T : Txt K mg) (C__law_same_row : Callee P w K mg base 2 "_law_same_row" 2 [] m__law_same_row) : Callee P w K mg base 3 "_law_same_rows" 2 [] m__law_same_rows := by
  obtain ⟨f, fd, F, hm⟩ := T.F__law_same_rows
  exact ⟨f, fd, ["_law_told", "_law_due"], [], [], f__law_same_rows T C__law_same_row F, hm, F.kp, F.binds (ps := ["_law_told", "_law_due"]) (fun _ _ _ _ _ _ us hl => match us, hl with | [_, _], _ => rfl), .nil, fun _ _ => .nil⟩
theorem f__law_square (T : Txt K mg) (C__law_plus : Callee P w K mg base 3 "_law_plus" 2 [] m__law_plus) (C__law_times : Callee P w K mg base 3 "_law_times" 2 [] m__law_times) {f : Addr} {fd : FuncData} (F : Fun K "_law_square" "_law_square" st__law_square f fd) : FnOk P w K mg base (L2.CX P w) 4 f fd ["_law_spot"] (spM K mg 1 m__law_square) := by
  show FnOk P w K mg base (L2.CX P w) (3 + 1) f fd ["_law_spot"] (spM K mg 1 (mDef 1 b__law_square))
  refine okM F sc__law_square rfl rfl (fun cdv A outer s H E hr => ?_)
  exact (qss_one (qs_ret (qe_c C__law_plus hr (by decide) cx_takes (qa_cons (qe_c C__law_times hr (by decide) cx_takes (qa_cons (qe_ix (qe_var 0) qe_int) (qa_cons (qe_ix (qe_var 0) qe_int) qa_nil))) (qa_cons (qe_c C__law_times hr (by decide) cx_takes (qa_cons (qe_ix (qe_var 0) qe_int) (qa_cons (qe_ix (qe_var 0) qe_int) qa_nil))) qa_nil)))))
theorem c__law_square (T : Txt K mg) (C__law_plus : Callee P w K mg base 3 "_law_plus" 2 [] m__law_plus) (C__law_times : Callee P w K mg base 3 "_law_times" 2 [] m__law_times) : Callee P w K mg base 4 "_law_square" 1 [] m__law_square := by
  obtain ⟨f, fd, F, hm⟩ := T.F__law_square
  exact ⟨f, fd, ["_law_spot"], [], [], f__law_square T C__law_plus C__law_times F, hm, F.kp, F.binds (ps := ["_law_spot"]) (fun _ _ _ _ _ _ us hl => match us, hl with | [_], _ => rfl), .nil, fun _ _ => .nil⟩
theorem f__law_right (T : Txt K mg) (C__law_gap : Callee P w K mg base 5 "_law_gap" 4 [] m__law_gap) (C__law_same : Callee P w K mg base 1 "_law_same" 2 [] m__law_same) (C__law_same_row : Callee P w K mg base 2 "_law_same_row" 2 [] m__law_same_row) (C__law_same_rows : Callee P w K mg base 3 "_law_same_rows" 2 [] m__law_same_rows) (C__law_square : Callee P w K mg base 4 "_law_square" 1 [] m__law_square) (C__law_stand : Callee P w K mg base 4 "_law_stand" 3 [] m__law_stand) {f : Addr} {fd : FuncData} (F : Fun K "_law_right" "_law_right" st__law_right f fd) : FnOk P w K mg base (L2.CX P w) 6 f fd ["_law_act", "_law_bars", "_law_pose", "_law_one", "_law_other", "_law_told"] (spM K mg 6 m__law_right) := by
  have z_tuple := T.z_tuple
  show FnOk P w K mg base (L2.CX P w) (5 + 1) f fd ["_law_act", "_law_bars", "_law_pose", "_law_one", "_law_other", "_law_told"] (spM K mg 6 (mDef 7 b__law_right))
  refine okM F sc__law_right rfl rfl (fun cdv A outer s H E hr => ?_)
  exact (qss_cons (qs_if (qt_cmp (op_eqD hr.units) os_eq (qe_var 0) qe_int (nomark _)) (qss_one (qs_ret (qe_c C__law_same_row hr (by decide) cx_takes (qa_cons (qe_var 5) (qa_cons (qe_c C__law_stand hr (by decide) cx_takes (qa_cons (qe_var 1) (qa_cons (qe_var 2) (qa_cons (qe_var 3) qa_nil)))) qa_nil))))) qss_nil) (qss_cons (qs_if (qt_cmp (op_eqD hr.units) os_eq (qe_var 0) qe_int (nomark _)) (qss_one (qs_ret (qe_c C__law_same hr (by decide) cx_takes (qa_cons (qe_var 5) (qa_cons (qe_ix (qe_c C__law_stand hr (by decide) cx_takes (qa_cons (qe_var 1) (qa_cons (qe_var 2) (qa_cons (qe_var 3) qa_nil)))) qe_int) qa_nil))))) qss_nil) (qss_cons (qs_if (qt_cmp (op_eqD hr.units) os_eq (qe_var 0) qe_int (nomark _)) (qss_one (qs_ret (qe_c C__law_same_rows hr (by decide) cx_takes (qa_cons (qe_var 5) (qa_cons (qe_callTy call_tuple_of cs_tuple (by rfl) z_tuple (by decide +kernel) (qa_cons (qe_lc rfl sc__law_right.nd (qi_seq (qe_var 1)) (blkOk_by (N := ["_law_act", "_law_bars", "_law_pose", "_law_one", "_law_other", "_law_told", "_law_bar"]) (sc := defScope st__law_right) (own := [("_law_bar", 6)]) (by decide +kernel)) rfl (by decide) sg_name (g := gName 6) (fun _ _ _ _ _ => (qg_name 6 sc__law_right.nd).1) (fun _ _ _ _ _ => qts_nil) (fun _ _ _ _ _ => (qe_c C__law_stand hr (by decide) takes0 (qa_cons (qe_var 1) (qa_cons (qe_var 2) (qa_cons (qe_tup (qa_cons (qe_ix (qe_var 6) qe_int) (qa_cons (qe_ix (qe_var 6) qe_int) qa_nil))) qa_nil)))))) qa_nil)) qa_nil))))) qss_nil) (qss_one (qs_ret (qe_c C__law_same hr (by decide) cx_takes (qa_cons (qe_var 5) (qa_cons (qe_c C__law_square hr (by decide) cx_takes (qa_cons (qe_c C__law_gap hr (by decide) cx_takes (qa_cons (qe_var 1) (qa_cons (qe_var 2) (qa_cons (qe_var 3) (qa_cons (qe_var 4) qa_nil))))) qa_nil)) qa_nil))))))))
theorem c__law_right (T : Txt K mg) (C__law_gap : Callee P w K mg base 5 "_law_gap" 4 [] m__law_gap) (C__law_same : Callee P w K mg base 1 "_law_same" 2 [] m__law_same) (C__law_same_row : Callee P w K mg base 2 "_law_same_row" 2 [] m__law_same_row) (C__law_same_rows : Callee P w K mg base 3 "_law_same_rows" 2 [] m__law_same_rows) (C__law_square : Callee P w K mg base 4 "_law_square" 1 [] m__law_square) (C__law_stand : Callee P w K mg base 4 "_law_stand" 3 [] m__law_stand) : Callee P w K mg base 6 "_law_right" 6 [] m__law_right := by
  obtain ⟨f, fd, F, hm⟩ := T.F__law_right
  exact ⟨f, fd, ["_law_act", "_law_bars", "_law_pose", "_law_one", "_law_other", "_law_told"], [], [], f__law_right T C__law_gap C__law_same C__law_same_row C__law_same_rows C__law_square C__law_stand F, hm, F.kp, F.binds (ps := ["_law_act", "_law_bars", "_law_pose", "_law_one", "_law_other", "_law_told"]) (fun _ _ _ _ _ _ us hl => match us, hl with | [_, _, _, _, _, _], _ => rfl), .nil, fun _ _ => .nil⟩
theorem f__law_asked (T : Txt K mg) (C__law_called : Callee P w K mg base 23 "_law_called" 5 [] m__law_called) (C__law_form : Callee P w K mg base 2 "_law_form" 2 [] m__law_form) (C__law_is_place : Callee P w K mg base 3 "_law_is_place" 2 [] m__law_is_place) (C__law_right : Callee P w K mg base 6 "_law_right" 6 [] m__law_right) (C__law_take : Callee P w K mg base 1 "_law_take" 2 [] m__law_take) {f : Addr} {fd : FuncData} (F : Fun K "_law_asked" "_law_asked" st__law_asked f fd) : FnG P w K mg base 24 f fd ["_law_hand_here", "_law_bars", "_law_arms", "_law_pose", "_law_one", "_law_other"] (spM K mg 6 m__law_asked) := by
  have z_len := T.z_len
  have z_range := T.z_range
  have z_repr := T.z_repr
  show FnG P w K mg base (23 + 1) f fd ["_law_hand_here", "_law_bars", "_law_arms", "_law_pose", "_law_one", "_law_other"] (spM K mg 6 (mDef 14 b__law_asked))
  refine okG F sc__law_asked rfl rfl (fun cdv A outer s H E gd hr => ?_)
  exact (qss_cons (qs_set 6 sc__law_asked.nd (qe_c C__law_is_place hr (by decide) cx_takes (qa_cons (qe_var 4) (qa_cons (qe_callB call_lenA cs_len (by rfl) z_len (by decide +kernel) (qa_cons (qe_var 1) qa_nil)) qa_nil)))) (qss_cons (qs_set 7 sc__law_asked.nd (qe_c C__law_is_place hr (by decide) cx_takes (qa_cons (qe_var 5) (qa_cons (qe_callB call_lenA cs_len (by rfl) z_len (by decide +kernel) (qa_cons (qe_var 1) qa_nil)) qa_nil)))) (qss_cons (qs_set 8 sc__law_asked.nd (qe_un un_neg us_neg qe_int)) (qss_cons (qs_setLcO 9 rfl sc__law_asked.nd (qi_seq (qe_var 3)) (blkOk_by (N := ["_law_hand_here", "_law_bars", "_law_arms", "_law_pose", "_law_one", "_law_other", "_law_good", "_law_also", "_law_wrong", "_law_handed", "_law_direction_here", "_law_kept", "_law_act", "_law_told"]) (sc := defScope st__law_asked) (own := [("_law_direction_here", 10)]) (by decide +kernel)) rfl (by decide) sg_name (g := gName 10) (fun _ _ _ _ _ => (qg_name 10 sc__law_asked.nd).1) (fun _ _ _ _ _ => qts_nil) (fun _ _ _ _ _ => (qe_c C__law_form hr (by decide) takes0 (qa_cons (qe_var 0) (qa_cons (qe_var 10) qa_nil))))) (qss_cons (qs_if (qt_cmp (op_eqD hr.units) os_eq (qe_c C__law_take hr (by decide) cx_takes (qa_cons (qe_var 0) (qa_cons qe_int qa_nil))) qe_int (nomark _)) (qss_cons (qs_set 8 sc__law_asked.nd (qe_c C__law_take hr (by decide) cx_takes (qa_cons (qe_var 0) (qa_cons (qe_callB call_lenA cs_len (by rfl) z_len (by decide +kernel) (qa_cons (qe_var 3) qa_nil)) qa_nil)))) (qss_one (qs_setI 9 rfl (qe_var 8) (qe_ix (qe_lst (qa_cons (qe_tup (qa_cons (qe_tup (qa_cons qe_int (qa_cons qe_int qa_nil))) (qa_cons (qe_tup (qa_cons qe_int (qa_cons qe_int qa_nil))) qa_nil))) (qa_cons qe_non (qa_cons (qe_tup (qa_cons (qe_tup (qa_cons qe_int (qa_cons qe_int qa_nil))) qa_nil)) (qa_cons (qe_tup (qa_cons (qe_tup (qa_cons qe_int (qa_cons qe_int qa_nil))) (qa_cons (qe_tup (qa_cons qe_int (qa_cons qe_int qa_nil))) qa_nil))) qa_nil))))) (qe_c C__law_take hr (by decide) cx_takes (qa_cons (qe_var 0) (qa_cons qe_int qa_nil))))))) qss_nil) (qss_cons (qs_frz [9] (qs_set 9 sc__law_asked.nd (qe_c C__law_form hr (by decide) cx_takes (qa_cons (qe_var 0) (qa_cons (qe_var 9) qa_nil))))) (qss_cons (qs_set 11 sc__law_asked.nd (qe_bor 9 (qe_callB (cr_repr gd hr.units65) cs_repr (by rfl) z_repr (by decide +kernel) (qa_cons (qe_lst (qa_cons (qe_var 9) (qa_cons (qe_var 4) (qa_cons (qe_var 5) qa_nil)))) qa_nil)))) (qss_cons (qs_for cx_pass rfl (qi_rng1 (by rfl) z_range qe_int) (qg_name 12 sc__law_asked.nd) (qss_cons (qs_set 13 sc__law_asked.nd (qe_bor 9 (qe_c C__law_called hr (by decide) cx_takes (qa_cons (qe_var 12) (qa_cons (qe_var 2) (qa_cons (qe_var 9) (qa_cons (qe_var 4) (qa_cons (qe_var 5) qa_nil)))))))) (qss_one (qs_if (qt_cmp op_ge os_ge (qe_var 8) qe_int (nomark _)) (qss_one (qs_if (qt_cmp (op_neD hr.units) os_ne (qe_var 13) (qe_tup (qa_cons qe_str (qa_cons (qe_var 8) qa_nil))) (nomark _)) (qss_one (qs_ret qe_bl)) qss_nil)) (qss_one (qs_if (qt_w (qw_and (qt_cmp (op_neD hr.units) os_ne (qe_var 12) qe_int (nomark _)) (qw_and1 (qt_w (qw_or (qt_not (qt_tru (qe_var 6))) (qw_or1 (qt_w (qw_and (qt_cmp (op_eqD hr.units) os_eq (qe_var 12) qe_int (nomark _)) (qw_and1 (qt_not (qt_tru (qe_var 7)))))))))))) (qss_one (qs_if (qt_cmp (op_neD hr.units) os_ne (qe_ix (qe_var 13) qe_int) qe_str (nomark _)) (qss_one (qs_ret qe_bl)) qss_nil)) (qss_one (qs_if (qt_w (qw_or (qt_cmp (op_neD hr.units) os_ne (qe_ix (qe_var 13) qe_int) qe_str (nomark _)) (qw_or1 (qt_not (qt_tru (qe_c C__law_right hr (by decide) cx_takes (qa_cons (qe_var 12) (qa_cons (qe_var 1) (qa_cons (qe_var 3) (qa_cons (qe_var 4) (qa_cons (qe_var 5) (qa_cons (qe_ix (qe_var 13) qe_int) qa_nil)))))))))))) (qss_one (qs_ret qe_bl)) qss_nil)))))))) (qss_one (qs_frz [9] (qs_ret (qe_cmp (op_eqD hr.units) os_eq (qe_callB (cr_repr gd hr.units65) cs_repr (by rfl) z_repr (by decide +kernel) (qa_cons (qe_lst (qa_cons (qe_var 9) (qa_cons (qe_var 4) (qa_cons (qe_var 5) qa_nil)))) qa_nil)) (qe_var 11) (nomark _)))))))))))))
theorem c__law_asked (T : Txt K mg) (C__law_called : Callee P w K mg base 23 "_law_called" 5 [] m__law_called) (C__law_form : Callee P w K mg base 2 "_law_form" 2 [] m__law_form) (C__law_is_place : Callee P w K mg base 3 "_law_is_place" 2 [] m__law_is_place) (C__law_right : Callee P w K mg base 6 "_law_right" 6 [] m__law_right) (C__law_take : Callee P w K mg base 1 "_law_take" 2 [] m__law_take) : CalleeG P w K mg base 24 "_law_asked" 6 m__law_asked := by
  obtain ⟨f, fd, F, hm⟩ := T.F__law_asked
  exact ⟨f, fd, ["_law_hand_here", "_law_bars", "_law_arms", "_law_pose", "_law_one", "_law_other"], f__law_asked T C__law_called C__law_form C__law_is_place C__law_right C__law_take F, hm, F.kp, (F.binds (ps := ["_law_hand_here", "_law_bars", "_law_arms", "_law_pose", "_law_one", "_law_other"]) (fun _ _ _ _ _ _ us hl => match us, hl with | [_, _, _, _, _, _], _ => rfl))⟩
theorem f__law_most (T : Txt K mg) {f : Addr} {fd : FuncData} (F : Fun K "_law_most" "_law_most" st__law_most f fd) : FnOk P w K mg base (L2.CX P w) 1 f fd ["_law_bars"] (spM K mg 1 m__law_most) := by
  have z_max := T.z_max
  show FnOk P w K mg base (L2.CX P w) (0 + 1) f fd ["_law_bars"] (spM K mg 1 (mDef 2 b__law_most))
  refine okM F sc__law_most rfl rfl (fun cdv A outer s H E hr => ?_)
  exact (qss_one (qs_ret (qe_callB (call_maxA rfl) cs_max (by rfl) z_max (by decide +kernel) (qa_cons (qe_lc rfl sc__law_most.nd (qi_seq (qe_var 0)) (blkOk_by (N := ["_law_bars", "_law_bar"]) (sc := defScope st__law_most) (own := [("_law_bar", 1)]) (by decide +kernel)) rfl (by decide) sg_name (g := gName 1) (fun _ _ _ _ _ => (qg_name 1 sc__law_most.nd).1) (fun _ _ _ _ _ => qts_nil) (fun _ _ _ _ _ => (qe_ix (qe_var 1) qe_int))) qa_nil))))
theorem c__law_most (T : Txt K mg) : Callee P w K mg base 1 "_law_most" 1 [] m__law_most := by
  obtain ⟨f, fd, F, hm⟩ := T.F__law_most
  exact ⟨f, fd, ["_law_bars"], [], [], f__law_most T  F, hm, F.kp, F.binds (ps := ["_law_bars"]) (fun _ _ _ _ _ _ us hl => match us, hl with | [_], _ => rfl), .nil, fun _ _ => .nil⟩
theorem f__law_mark (T : Txt K mg) (C__law_ratio : Callee P w K mg base 2 "_law_ratio" 2 [] m__law_ratio) (C__law_take : Callee P w K mg base 1 "_law_take" 2 [] m__law_take) {f : Addr} {fd : FuncData} (F : Fun K "_law_mark" "_law_mark" st__law_mark f fd) : FnOk P w K mg base (L2.CX P w) 3 f fd ["_law_hand_here"] (spM K mg 1 m__law_mark) := by
  show FnOk P w K mg base (L2.CX P w) (2 + 1) f fd ["_law_hand_here"] (spM K mg 1 (mDef 1 b__law_mark))
  refine okM F sc__law_mark rfl rfl (fun cdv A outer s H E hr => ?_)
  exact (qss_one (qs_ret (qe_c C__law_ratio hr (by decide) cx_takes (qa_cons (qe_op op_sub os_sub (qe_c C__law_take hr (by decide) cx_takes (qa_cons (qe_var 0) (qa_cons qe_int qa_nil))) qe_int) (qa_cons qe_int qa_nil)))))
theorem c__law_mark (T : Txt K mg) (C__law_ratio : Callee P w K mg base 2 "_law_ratio" 2 [] m__law_ratio) (C__law_take : Callee P w K mg base 1 "_law_take" 2 [] m__law_take) : Callee P w K mg base 3 "_law_mark" 1 [] m__law_mark := by
  obtain ⟨f, fd, F, hm⟩ := T.F__law_mark
  exact ⟨f, fd, ["_law_hand_here"], [], [], f__law_mark T C__law_ratio C__law_take F, hm, F.kp, F.binds (ps := ["_law_hand_here"]) (fun _ _ _ _ _ _ us hl => match us, hl with | [_], _ => rfl), .nil, fun _ _ => .nil⟩
theorem f__law_wide (T : Txt K mg) (C__law_mark : Callee P w K mg base 3 "_law_mark" 1 [] m__law_mark) (C__law_ratio : Callee P w K mg base 2 "_law_ratio" 2 [] m__law_ratio) (C__law_take : Callee P w K mg base 1 "_law_take" 2 [] m__law_take) {f : Addr} {fd : FuncData} (F : Fun K "_law_wide" "_law_wide" st__law_wide f fd) : FnOk P w K mg base (L2.CX P w) 4 f fd ["_law_hand_here"] (spM K mg 1 m__law_wide) := by
  show FnOk P w K mg base (L2.CX P w) (3 + 1) f fd ["_law_hand_here"] (spM K mg 1 (mDef 2 b__law_wide))
  refine okM F sc__law_wide rfl rfl (fun cdv A outer s H E hr => ?_)
  exact (qss_cons (qs_set 1 sc__law_wide.nd (qe_c C__law_take hr (by decide) cx_takes (qa_cons (qe_var 0) (qa_cons qe_int qa_nil)))) (qss_cons (qs_if (qt_cmp (op_eqD hr.units) os_eq (qe_var 1) qe_int (nomark _)) (qss_one (qs_ret (qe_tup (qa_cons qe_int (qa_cons qe_int qa_nil))))) qss_nil) (qss_cons (qs_if (qt_cmp (op_eqD hr.units) os_eq (qe_var 1) qe_int (nomark _)) (qss_one (qs_ret (qe_c C__law_ratio hr (by decide) cx_takes (qa_cons (qe_op op_sub os_sub (qe_c C__law_take hr (by decide) cx_takes (qa_cons (qe_var 0) (qa_cons (qe_op op_addA os_add (qe_op op_mulA os_mul qe_int (qe_op op_pow os_pow qe_int qe_int)) qe_int) qa_nil))) (qe_op op_pow os_pow qe_int qe_int)) (qa_cons (qe_op op_addA os_add qe_int (qe_c C__law_take hr (by decide) cx_takes (qa_cons (qe_var 0) (qa_cons qe_int qa_nil)))) qa_nil))))) qss_nil) (qss_one (qs_ret (qe_c C__law_mark hr (by decide) cx_takes (qa_cons (qe_var 0) qa_nil)))))))
theorem c__law_wide (T : Txt K mg) (C__law_mark : Callee P w K mg base 3 "_law_mark" 1 [] m__law_mark) (C__law_ratio : Callee P w K mg base 2 "_law_ratio" 2 [] m__law_ratio) (C__law_take : Callee P w K mg base 1 "_law_take" 2 [] m__law_take) : Callee P w K mg base 4 "_law_wide" 1 [] m__law_wide := by
  obtain ⟨f, fd, F, hm⟩ := T.F__law_wide
  exact ⟨f, fd, ["_law_hand_here"], [], [], f__law_wide T C__law_mark C__law_ratio C__law_take F, hm, F.kp, F.binds (ps := ["_law_hand_here"]) (fun _ _ _ _ _ _ us hl => match us, hl with | [_], _ => rfl), .nil, fun _ _ => .nil⟩
theorem f__law_any_place (T : Txt K mg) (C__law_take : Callee P w K mg base 1 "_law_take" 2 [] m__law_take) (C__law_wide : Callee P w K mg base 4 "_law_wide" 1 [] m__law_wide) {f : Addr} {fd : FuncData} (F : Fun K "_law_any_place" "_law_any_place" st__law_any_place f fd) : FnOk P w K mg base (L2.CX P w) 5 f fd ["_law_hand_here", "_law_bars"] (spM K mg 2 m__law_any_place) := by
  have z_len := T.z_len
  show FnOk P w K mg base (L2.CX P w) (4 + 1) f fd ["_law_hand_here", "_law_bars"] (spM K mg 2 (mDef 3 b__law_any_place))
  refine okM F sc__law_any_place rfl rfl (fun cdv A outer s H E hr => ?_)
  exact (qss_cons (qs_set 2 sc__law_any_place.nd (qe_if (qt_cmp (op_eqD hr.units) os_eq (qe_c C__law_take hr (by decide) cx_takes (qa_cons (qe_var 0) (qa_cons qe_int qa_nil))) qe_int (nomark _)) (qe_op op_sub os_sub (qe_callB call_lenA cs_len (by rfl) z_len (by decide +kernel) (qa_cons (qe_var 1) qa_nil)) qe_int) (qe_op op_sub os_sub (qe_c C__law_take hr (by decide) cx_takes (qa_cons (qe_var 0) (qa_cons (qe_op op_addA os_add (qe_callB call_lenA cs_len (by rfl) z_len (by decide +kernel) (qa_cons (qe_var 1) qa_nil)) qe_int) qa_nil))) qe_int))) (qss_one (qs_ret (qe_tup (qa_cons (qe_var 2) (qa_cons (qe_c C__law_wide hr (by decide) cx_takes (qa_cons (qe_var 0) qa_nil)) qa_nil))))))
theorem c__law_any_place (T : Txt K mg) (C__law_take : Callee P w K mg base 1 "_law_take" 2 [] m__law_take) (C__law_wide : Callee P w K mg base 4 "_law_wide" 1 [] m__law_wide) : Callee P w K mg base 5 "_law_any_place" 2 [] m__law_any_place := by
  obtain ⟨f, fd, F, hm⟩ := T.F__law_any_place
  exact ⟨f, fd, ["_law_hand_here", "_law_bars"], [], [], f__law_any_place T C__law_take C__law_wide F, hm, F.kp, F.binds (ps := ["_law_hand_here", "_law_bars"]) (fun _ _ _ _ _ _ us hl => match us, hl with | [_, _], _ => rfl), .nil, fun _ _ => .nil⟩
theorem f__law_odd (T : Txt K mg) (C__law_take : Callee P w K mg base 1 "_law_take" 2 [] m__law_take) {f : Addr} {fd : FuncData} (F : Fun K "_law_odd" "_law_odd" st__law_odd f fd) : FnOk P w K mg base (L2.CX P w) 2 f fd ["_law_hand_here"] (spM K mg 1 m__law_odd) := by
  have z_len := T.z_len
  show FnOk P w K mg base (L2.CX P w) (1 + 1) f fd ["_law_hand_here"] (spM K mg 1 (mDef 2 b__law_odd))
  refine okM F sc__law_odd rfl rfl (fun cdv A outer s H E hr => ?_)
  exact (qss_cons (qs_set 1 sc__law_odd.nd (qe_lst (qa_cons qe_non (qa_cons qe_bl (qa_cons qe_int (qa_cons qe_str (qa_cons (qe_tup (qa_cons qe_int (qa_cons qe_int qa_nil))) (qa_cons (qe_tup (qa_cons qe_int (qa_cons qe_int qa_nil))) (qa_cons (qe_tup (qa_cons qe_int (qa_cons (qe_un un_neg us_neg qe_int) qa_nil))) (qa_cons (qe_lst (qa_cons qe_int (qa_cons qe_int qa_nil))) (qa_cons (qe_tup (qa_cons qe_bl (qa_cons qe_int qa_nil))) (qa_cons (qe_tup (qa_cons qe_int (qa_cons qe_bl qa_nil))) (qa_cons (qe_tup (qa_cons qe_int qa_nil)) (qa_cons (qe_tup (qa_cons qe_int (qa_cons qe_int (qa_cons qe_int qa_nil)))) (qa_cons (qe_tup (qa_cons qe_int (qa_cons qe_int qa_nil))) (qa_cons (qe_tup (qa_cons (qe_tup (qa_cons qe_int (qa_cons qe_int qa_nil))) (qa_cons qe_int qa_nil))) (qa_cons (qe_tup (qa_cons qe_int (qa_cons qe_int qa_nil))) qa_nil))))))))))))))))) (qss_one (qs_ret (qe_ix (qe_var 1) (qe_c C__law_take hr (by decide) cx_takes (qa_cons (qe_var 0) (qa_cons (qe_callB call_lenA cs_len (by rfl) z_len (by decide +kernel) (qa_cons (qe_var 1) qa_nil)) qa_nil)))))))
theorem c__law_odd (T : Txt K mg) (C__law_take : Callee P w K mg base 1 "_law_take" 2 [] m__law_take) : Callee P w K mg base 2 "_law_odd" 1 [] m__law_odd := by
  obtain ⟨f, fd, F, hm⟩ := T.F__law_odd
  exact ⟨f, fd, ["_law_hand_here"], [], [], f__law_odd T C__law_take F, hm, F.kp, F.binds (ps := ["_law_hand_here"]) (fun _ _ _ _ _ _ us hl => match us, hl with | [_], _ => rfl), .nil, fun _ _ => .nil⟩
theorem f__law_some_place (T : Txt K mg) (C__law_any_place : Callee P w K mg base 5 "_law_any_place" 2 [] m__law_any_place) (C__law_form : Callee P w K mg base 2 "_law_form" 2 [] m__law_form) (C__law_odd : Callee P w K mg base 2 "_law_odd" 1 [] m__law_odd) (C__law_ratio : Callee P w K mg base 2 "_law_ratio" 2 [] m__law_ratio) (C__law_take : Callee P w K mg base 1 "_law_take" 2 [] m__law_take) {f : Addr} {fd : FuncData} (F : Fun K "_law_some_place" "_law_some_place" st__law_some_place f fd) : FnOk P w K mg base (L2.CX P w) 6 f fd ["_law_hand_here", "_law_bars"] (spM K mg 2 m__law_some_place) := by
  have z_len := T.z_len
  show FnOk P w K mg base (L2.CX P w) (5 + 1) f fd ["_law_hand_here", "_law_bars"] (spM K mg 2 (mDef 4 b__law_some_place))
  refine okM F sc__law_some_place rfl rfl (fun cdv A outer s H E hr => ?_)
  exact (qss_cons (qs_set 2 sc__law_some_place.nd (qe_c C__law_any_place hr (by decide) cx_takes (qa_cons (qe_var 0) (qa_cons (qe_var 1) qa_nil)))) (qss_cons (qs_set 3 sc__law_some_place.nd (qe_c C__law_take hr (by decide) cx_takes (qa_cons (qe_var 0) (qa_cons qe_int qa_nil)))) (qss_cons (qs_if (qt_cmp (op_eqD hr.units) os_eq (qe_var 3) qe_int (nomark _)) (qss_one (qs_ret (qe_c C__law_form hr (by decide) cx_takes (qa_cons (qe_var 0) (qa_cons (qe_tup (qa_cons (qe_op op_addA os_add (qe_callB call_lenA cs_len (by rfl) z_len (by decide +kernel) (qa_cons (qe_var 1) qa_nil)) (qe_c C__law_take hr (by decide) cx_takes (qa_cons (qe_var 0) (qa_cons qe_int qa_nil)))) (qa_cons (qe_ix (qe_var 2) qe_int) qa_nil))) qa_nil))))) qss_nil) (qss_cons (qs_if (qt_cmp (op_eqD hr.units) os_eq (qe_var 3) qe_int (nomark _)) (qss_one (qs_ret (qe_ix (qe_lst (qa_cons (qe_tup (qa_cons (qe_un un_neg us_neg qe_int) (qa_cons (qe_ix (qe_var 2) qe_int) qa_nil))) (qa_cons (qe_tup (qa_cons (qe_ix (qe_var 2) qe_int) (qa_cons (qe_c C__law_odd hr (by decide) cx_takes (qa_cons (qe_var 0) qa_nil)) qa_nil))) (qa_cons (qe_tup (qa_cons qe_bl (qa_cons (qe_ix (qe_var 2) qe_int) qa_nil))) (qa_cons (qe_tup (qa_cons (qe_ix (qe_var 2) qe_int) qa_nil)) (qa_cons qe_non (qa_cons qe_str qa_nil))))))) (qe_c C__law_take hr (by decide) cx_takes (qa_cons (qe_var 0) (qa_cons qe_int qa_nil)))))) qss_nil) (qss_cons (qs_if (qt_cmp (op_eqD hr.units) os_eq (qe_var 3) qe_int (nomark _)) (qss_one (qs_set 2 sc__law_some_place.nd (qe_tup (qa_cons (qe_ix (qe_var 2) qe_int) (qa_cons (qe_c C__law_ratio hr (by decide) cx_takes (qa_cons (qe_op op_sub os_sub (qe_c C__law_take hr (by decide) cx_takes (qa_cons (qe_var 0) (qa_cons (qe_op op_mulA os_mul qe_int (qe_op op_pow os_pow qe_int qe_int)) qa_nil))) (qe_op op_pow os_pow qe_int qe_int)) (qa_cons (qe_op op_addA os_add qe_int (qe_c C__law_take hr (by decide) cx_takes (qa_cons (qe_var 0) (qa_cons (qe_op op_pow os_pow qe_int qe_int) qa_nil)))) qa_nil))) qa_nil))))) qss_nil) (qss_one (qs_ret (qe_c C__law_form hr (by decide) cx_takes (qa_cons (qe_var 0) (qa_cons (qe_var 2) qa_nil))))))))))
theorem c__law_some_place (T : Txt K mg) (C__law_any_place : Callee P w K mg base 5 "_law_any_place" 2 [] m__law_any_place) (C__law_form : Callee P w K mg base 2 "_law_form" 2 [] m__law_form) (C__law_odd : Callee P w K mg base 2 "_law_odd" 1 [] m__law_odd) (C__law_ratio : Callee P w K mg base 2 "_law_ratio" 2 [] m__law_ratio) (C__law_take : Callee P w K mg base 1 "_law_take" 2 [] m__law_take) : Callee P w K mg base 6 "_law_some_place" 2 [] m__law_some_place := by
  obtain ⟨f, fd, F, hm⟩ := T.F__law_some_place
  exact ⟨f, fd, ["_law_hand_here", "_law_bars"], [], [], f__law_some_place T C__law_any_place C__law_form C__law_odd C__law_ratio C__law_take F, hm, F.kp, F.binds (ps := ["_law_hand_here", "_law_bars"]) (fun _ _ _ _ _ _ us hl => match us, hl with | [_, _], _ => rfl), .nil, fun _ _ => .nil⟩
theorem f__law_world (T : Txt K mg) (C__law_take : Callee P w K mg base 1 "_law_take" 2 [] m__law_take) (C__law_wide : Callee P w K mg base 4 "_law_wide" 1 [] m__law_wide) {f : Addr} {fd : FuncData} (F : Fun K "_law_world" "_law_world" st__law_world f fd) : FnOk P w K mg base (L2.CX P w) 5 f fd ["_law_hand_here"] (spM K mg 1 m__law_world) := by
  have z_min := T.z_min
  have z_range := T.z_range
  have z_tuple := T.z_tuple
  show FnOk P w K mg base (L2.CX P w) (4 + 1) f fd ["_law_hand_here"] (spM K mg 1 (mDef 8 b__law_world))
  refine okM F sc__law_world rfl rfl (fun cdv A outer s H E hr => ?_)
  exact (qss_cons (qs_set 1 sc__law_world.nd (qe_ix (qe_lst (qa_cons qe_int (qa_cons qe_int (qa_cons qe_int (qa_cons qe_int (qa_cons qe_int (qa_cons qe_int (qa_cons qe_int (qa_cons qe_int qa_nil))))))))) (qe_c C__law_take hr (by decide) cx_takes (qa_cons (qe_var 0) (qa_cons qe_int qa_nil))))) (qss_cons (qs_set 2 sc__law_world.nd (qe_callB (call_minA rfl) cs_min (by rfl) z_min (by decide +kernel) (qa_cons (qe_var 1) (qa_cons (qe_ix (qe_lst (qa_cons qe_int (qa_cons qe_int (qa_cons qe_int (qa_cons qe_int (qa_cons qe_int (qa_cons qe_int (qa_cons qe_int (qa_cons qe_int qa_nil))))))))) (qe_c C__law_take hr (by decide) cx_takes (qa_cons (qe_var 0) (qa_cons qe_int qa_nil)))) qa_nil)))) (qss_cons (qs_setLcO 3 rfl sc__law_world.nd (qi_rng1 (by rfl) z_range (qe_var 1)) (blkOk_by (N := ["_law_hand_here", "_law_many", "_law_n", "_law_row", "_law_k", "_law_other", "_law_bars", "_law_host"]) (sc := defScope st__law_world) (own := [("_law_k", 4)]) (by decide +kernel)) rfl (by decide) sg_name (g := gName 4) (fun _ _ _ _ _ => (qg_name 4 sc__law_world.nd).1) (fun _ _ _ _ _ => qts_nil) (fun _ _ _ _ _ => (qe_if (qt_cmp op_lt os_lt (qe_var 4) (qe_var 2) (nomark _)) (qe_op op_addA os_add (qe_var 4) qe_int) (qe_c C__law_take hr (by decide) takes0 (qa_cons (qe_var 0) (qa_cons (qe_op op_addA os_add (qe_var 2) qe_int) qa_nil)))))) (qss_cons (qs_for cx_pass rfl (qi_rngD (by rfl) z_range (qe_op op_sub os_sub (qe_var 1) qe_int) qe_int) (qg_name 4 sc__law_world.nd) (qss_cons (qs_set 5 sc__law_world.nd (qe_c C__law_take hr (by decide) cx_takes (qa_cons (qe_var 0) (qa_cons (qe_op op_addA os_add (qe_var 4) qe_int) qa_nil)))) (qss_one (qs_swp 3 rfl rfl (qe_var 4) (qe_var 5) (qe_ixO 3 rfl (qe_var 5)) (qe_ixO 3 rfl (qe_var 4)))))) (qss_cons (qs_setO 6 sc__law_world.nd (qf_lst qa_nil)) (qss_cons (qs_for cx_pass rfl (qi_rng1 (by rfl) z_range (qe_var 1)) (qg_name 4 sc__law_world.nd) (qss_cons (qs_set 7 sc__law_world.nd (qe_if (qt_cmp (op_eqD hr.units) os_eq (qe_c C__law_take hr (by decide) cx_takes (qa_cons (qe_var 0) (qa_cons qe_int qa_nil))) qe_int (nomark _)) (qe_op op_sub os_sub (qe_var 4) qe_int) (qe_op op_sub os_sub (qe_c C__law_take hr (by decide) cx_takes (qa_cons (qe_var 0) (qa_cons (qe_op op_addA os_add (qe_var 4) qe_int) qa_nil))) qe_int))) (qss_one (qs_app 6 rfl (qe_tup (qa_cons (qe_var 7) (qa_cons (qe_c C__law_wide hr (by decide) cx_takes (qa_cons (qe_var 0) qa_nil)) (qa_cons (qe_ixO 3 rfl (qe_var 4)) qa_nil)))))))) (qss_one (qs_ret (qe_bor 6 (qe_callTy call_tuple_of cs_tuple (by rfl) z_tuple (by decide +kernel) (qa_cons (qe_var 6) qa_nil)))))))))))
theorem c__law_world (T : Txt K mg) (C__law_take : Callee P w K mg base 1 "_law_take" 2 [] m__law_take) (C__law_wide : Callee P w K mg base 4 "_law_wide" 1 [] m__law_wide) : Callee P w K mg base 5 "_law_world" 1 [] m__law_world := by
  obtain ⟨f, fd, F, hm⟩ := T.F__law_world
  exact ⟨f, fd, ["_law_hand_here"], [], [], f__law_world T C__law_take C__law_wide F, hm, F.kp, F.binds (ps := ["_law_hand_here"]) (fun _ _ _ _ _ _ us hl => match us, hl with | [_], _ => rfl), .nil, fun _ _ => .nil⟩
theorem f_law (T : Txt K mg) (C__law_any_pose : Callee P w K mg base 5 "_law_any_pose" 2 [] m__law_any_pose) (C__law_asked : CalleeG P w K mg base 24 "_law_asked" 6 m__law_asked) (C__law_form : Callee P w K mg base 2 "_law_form" 2 [] m__law_form) (C__law_most : Callee P w K mg base 1 "_law_most" 1 [] m__law_most) (C__law_some_place : Callee P w K mg base 6 "_law_some_place" 2 [] m__law_some_place) (C__law_world : Callee P w K mg base 5 "_law_world" 1 [] m__law_world) (C_Arms____init__ : Maker P w K mg base 5 "Arms" 1 [] m_Arms____init__) (M : ∀ s : Hd, ∃ s' : Hd, b_law (lawE 6) s = .ok (.rt (.bl true)) s') {f : Addr} {fd : FuncData} (F : Fun K "law" "law" st_law f fd) : FnG P w K mg base 25 f fd ["_law_script"] (spLaw K) := by
  have z_range := T.z_range
  obtain ⟨fh, fdh, Fh, hmh⟩ := T.F__law_hand
  have Gh : FnOk P w K mg base (L2.CX P w) 1 fh fdh ["_law_script"] (spHand K) := f__law_hand T Fh
  have bh : Binds K fdh ["_law_script"] [] := Fh.binds (ps := ["_law_script"]) (fun _ _ _ _ _ _ us hl => match us, hl with | [_], _ => rfl)
  refine FnG.of (k := 24) F sc_law (fun vs H Q E h => ?_) (fun cdv A outer s H vs Q E gd hr h => ?_)
  · obtain ⟨a, ns, rfl, _⟩ := h
    rfl
  · have h' := h
    obtain ⟨a, ns, rfl, _⟩ := h'
    obtain ⟨ts, q, ss⟩ : QSs (cxD P w K mg base ["_law_script", "_law_hand_here", "_law_bars", "_law_arms", "_law_poses", "_law_turn", "_law_one", "_law_other"] "law" (defScope st_law) f cdv A outer s H E) (wE E) ((defBody st_law).drop 1) b_law := by
      exact (qss_cons (qs_set 2 sc_law.nd (qe_c C__law_world hr (by decide) cx_takes (qa_cons (qe_var 1) qa_nil))) (qss_cons (qs_set 3 sc_law.nd (qe_make C_Arms____init__ hr (by decide) cx_takes (qa_cons (qe_c C__law_form hr (by decide) cx_takes (qa_cons (qe_var 1) (qa_cons (qe_var 2) qa_nil))) qa_nil))) (qss_cons (qs_set 4 sc_law.nd (qe_lst (qa_cons (qe_c C__law_any_pose hr (by decide) cx_takes (qa_cons (qe_var 1) (qa_cons (qe_c C__law_most hr (by decide) cx_takes (qa_cons (qe_var 2) qa_nil)) qa_nil))) (qa_cons (qe_c C__law_any_pose hr (by decide) cx_takes (qa_cons (qe_var 1) (qa_cons (qe_c C__law_most hr (by decide) cx_takes (qa_cons (qe_var 2) qa_nil)) qa_nil))) qa_nil)))) (qss_cons (qs_for cx_pass rfl (qi_rng1 (by rfl) z_range qe_int) (qg_name 5 sc_law.nd) (qss_cons (qs_set 6 sc_law.nd (qe_c C__law_some_place hr (by decide) cx_takes (qa_cons (qe_var 1) (qa_cons (qe_var 2) qa_nil)))) (qss_cons (qs_set 7 sc_law.nd (qe_c C__law_some_place hr (by decide) cx_takes (qa_cons (qe_var 1) (qa_cons (qe_var 2) qa_nil)))) (qss_one (qs_if (qt_not (qt_tru (qe_cg C__law_asked gd hr (by decide) (qa_cons (qe_var 1) (qa_cons (qe_var 2) (qa_cons (qe_var 3) (qa_cons (qe_ix (qe_var 4) (qe_op op_modN os_mod (qe_var 5) qe_int)) (qa_cons (qe_var 6) (qa_cons (qe_var 7) qa_nil))))))))) (qss_one (qs_ret qe_bl)) qss_nil))))) (qss_one (qs_ret qe_bl))))))
    exact ⟨_, pss_cons (ps_set (i := 1) sc_law.nd rfl (.inl rfl) (pe_callSD Gh (hr.mono (by decide)) (by rfl) hmh Fh.kp bh .nil (fun σ => passAt (W := wE E) cx_takes σ) (pa_cons (pv 0) pa_nil))) q, law_run h ss M⟩
end
end Law


set_option Elab.async false
set_option linter.all false
set_option maxRecDepth 100000
namespace Law
open PySem PySem.Spec PyProof.Rows L2 Mir
open PySem.W (Frag)
theorem txt_mk {K : Frag} {h : Heap} {mg : Str → Option Value} (X : K.In h) (G : h.Ns mainGlobals mg)
    {f__law_hand : Addr} {od__law_hand an__law_hand : Option Addr} {sl__law_hand : Array (Option Value)} {oc__law_hand kV__law_hand dc__law_hand pm__law_hand cd__law_hand ct__law_hand : Value}
    (a__law_hand : PySem.W.nsIn K mainGlobals "_law_hand" = some (some (.ref f__law_hand)))
    (l__law_hand : K.lookup f__law_hand = some ⟨oc__law_hand, od__law_hand, .func (PySem.W.fnOf "_law_hand" "_law_hand" (defArgs st__law_hand) (defBody st__law_hand) (defScope st__law_hand) .none kV__law_hand dc__law_hand pm__law_hand an__law_hand cd__law_hand ct__law_hand), sl__law_hand⟩)
    (c__law_hand : PySem.W.codeIn K cd__law_hand "_law_hand" = true)
    (k__law_hand : PySem.W.keepIn K (.ref f__law_hand) = true)
    {f__law_take : Addr} {od__law_take an__law_take : Option Addr} {sl__law_take : Array (Option Value)} {oc__law_take kV__law_take dc__law_take pm__law_take cd__law_take ct__law_take : Value}
    (a__law_take : PySem.W.nsIn K mainGlobals "_law_take" = some (some (.ref f__law_take)))
    (l__law_take : K.lookup f__law_take = some ⟨oc__law_take, od__law_take, .func (PySem.W.fnOf "_law_take" "_law_take" (defArgs st__law_take) (defBody st__law_take) (defScope st__law_take) .none kV__law_take dc__law_take pm__law_take an__law_take cd__law_take ct__law_take), sl__law_take⟩)
    (c__law_take : PySem.W.codeIn K cd__law_take "_law_take" = true)
    (k__law_take : PySem.W.keepIn K (.ref f__law_take) = true)
    {f_is_whole : Addr} {od_is_whole an_is_whole : Option Addr} {sl_is_whole : Array (Option Value)} {oc_is_whole kV_is_whole dc_is_whole pm_is_whole cd_is_whole ct_is_whole : Value}
    {t_is_whole : Addr} {td_is_whole : Option Addr} {tn_is_whole : Nat} {tl_is_whole : Array (Option Value)}
    (a_is_whole : PySem.W.nsIn K mainGlobals "is_whole" = some (some (.ref f_is_whole)))
    (l_is_whole : K.lookup f_is_whole = some ⟨oc_is_whole, od_is_whole, .func (PySem.W.fnOf "is_whole" "is_whole" (defArgs st_is_whole) (defBody st_is_whole) (defScope st_is_whole) (.ref t_is_whole) kV_is_whole dc_is_whole pm_is_whole an_is_whole cd_is_whole ct_is_whole), sl_is_whole⟩)
    (c_is_whole : PySem.W.codeIn K cd_is_whole "is_whole" = true)
    (k_is_whole : PySem.W.keepIn K (.ref f_is_whole) = true)
    (e_is_whole : K.lookup t_is_whole = some ⟨.type "tuple", td_is_whole, .seq #[Value.none, Value.none] tn_is_whole, tl_is_whole⟩)
    {f_is_ratio : Addr} {od_is_ratio an_is_ratio : Option Addr} {sl_is_ratio : Array (Option Value)} {oc_is_ratio kV_is_ratio dc_is_ratio pm_is_ratio cd_is_ratio ct_is_ratio : Value}
    (a_is_ratio : PySem.W.nsIn K mainGlobals "is_ratio" = some (some (.ref f_is_ratio)))
    (l_is_ratio : K.lookup f_is_ratio = some ⟨oc_is_ratio, od_is_ratio, .func (PySem.W.fnOf "is_ratio" "is_ratio" (defArgs st_is_ratio) (defBody st_is_ratio) (defScope st_is_ratio) .none kV_is_ratio dc_is_ratio pm_is_ratio an_is_ratio cd_is_ratio ct_is_ratio), sl_is_ratio⟩)
    (c_is_ratio : PySem.W.codeIn K cd_is_ratio "is_ratio" = true)
    (k_is_ratio : PySem.W.keepIn K (.ref f_is_ratio) = true)
    {f_is_row : Addr} {od_is_row an_is_row : Option Addr} {sl_is_row : Array (Option Value)} {oc_is_row kV_is_row dc_is_row pm_is_row cd_is_row ct_is_row : Value}
    {t_is_row : Addr} {td_is_row : Option Addr} {tn_is_row : Nat} {tl_is_row : Array (Option Value)}
    (a_is_row : PySem.W.nsIn K mainGlobals "is_row" = some (some (.ref f_is_row)))
    (l_is_row : K.lookup f_is_row = some ⟨oc_is_row, od_is_row, .func (PySem.W.fnOf "is_row" "is_row" (defArgs st_is_row) (defBody st_is_row) (defScope st_is_row) (.ref t_is_row) kV_is_row dc_is_row pm_is_row an_is_row cd_is_row ct_is_row), sl_is_row⟩)
    (c_is_row : PySem.W.codeIn K cd_is_row "is_row" = true)
    (k_is_row : PySem.W.keepIn K (.ref f_is_row) = true)
    {u0_is_row : Tok}
    (e_is_row : K.lookup t_is_row = some ⟨.type "tuple", td_is_row, .seq #[Value.int 0 u0_is_row, Value.none] tn_is_row, tl_is_row⟩)
    {f__check_bar : Addr} {od__check_bar an__check_bar : Option Addr} {sl__check_bar : Array (Option Value)} {oc__check_bar kV__check_bar dc__check_bar pm__check_bar cd__check_bar ct__check_bar : Value}
    (a__check_bar : PySem.W.nsIn K mainGlobals "_check_bar" = some (some (.ref f__check_bar)))
    (l__check_bar : K.lookup f__check_bar = some ⟨oc__check_bar, od__check_bar, .func (PySem.W.fnOf "_check_bar" "_check_bar" (defArgs st__check_bar) (defBody st__check_bar) (defScope st__check_bar) .none kV__check_bar dc__check_bar pm__check_bar an__check_bar cd__check_bar ct__check_bar), sl__check_bar⟩)
    (c__check_bar : PySem.W.codeIn K cd__check_bar "_check_bar" = true)
    (k__check_bar : PySem.W.keepIn K (.ref f__check_bar) = true)
    {f__check_bars : Addr} {od__check_bars an__check_bars : Option Addr} {sl__check_bars : Array (Option Value)} {oc__check_bars kV__check_bars dc__check_bars pm__check_bars cd__check_bars ct__check_bars : Value}
    (a__check_bars : PySem.W.nsIn K mainGlobals "_check_bars" = some (some (.ref f__check_bars)))
    (l__check_bars : K.lookup f__check_bars = some ⟨oc__check_bars, od__check_bars, .func (PySem.W.fnOf "_check_bars" "_check_bars" (defArgs st__check_bars) (defBody st__check_bars) (defScope st__check_bars) .none kV__check_bars dc__check_bars pm__check_bars an__check_bars cd__check_bars ct__check_bars), sl__check_bars⟩)
    (c__check_bars : PySem.W.codeIn K cd__check_bars "_check_bars" = true)
    (k__check_bars : PySem.W.keepIn K (.ref f__check_bars) = true)
    {f__count_letters : Addr} {od__count_letters an__count_letters : Option Addr} {sl__count_letters : Array (Option Value)} {oc__count_letters kV__count_letters dc__count_letters pm__count_letters cd__count_letters ct__count_letters : Value}
    (a__count_letters : PySem.W.nsIn K mainGlobals "_count_letters" = some (some (.ref f__count_letters)))
    (l__count_letters : K.lookup f__count_letters = some ⟨oc__count_letters, od__count_letters, .func (PySem.W.fnOf "_count_letters" "_count_letters" (defArgs st__count_letters) (defBody st__count_letters) (defScope st__count_letters) .none kV__count_letters dc__count_letters pm__count_letters an__count_letters cd__count_letters ct__count_letters), sl__count_letters⟩)
    (c__count_letters : PySem.W.codeIn K cd__count_letters "_count_letters" = true)
    (k__count_letters : PySem.W.keepIn K (.ref f__count_letters) = true)
    {CO_Arms : Addr}
    (ao_Arms : PySem.W.nsIn K mainGlobals "Arms" = some (some (.ref CO_Arms)))
    (pg_Arms : PySem.W.plainGet K CO_Arms Str.empty = true)
    (hdo_Arms : PySem.W.hasDictIn K CO_Arms = true)
    (po_Arms : PySem.W.plainOver K CO_Arms = true)
    (sao_Arms : PySem.W.findIn K (.ref CO_Arms) "__setattr__" = some (some (.builtin "object.__setattr__")))
    {f_Arms____init__ : Addr} {od_Arms____init__ an_Arms____init__ : Option Addr} {sl_Arms____init__ : Array (Option Value)} {oc_Arms____init__ kV_Arms____init__ dc_Arms____init__ pm_Arms____init__ cd_Arms____init__ ct_Arms____init__ : Value}
    (at_Arms____init__ : PySem.W.findIn K (.ref CO_Arms) "__init__" = some (some (.ref f_Arms____init__)))
    (fn_Arms____init__ : PySem.W.isFn K (.ref f_Arms____init__) = true)
    (l_Arms____init__ : K.lookup f_Arms____init__ = some ⟨oc_Arms____init__, od_Arms____init__, .func (PySem.W.fnOf "__init__" "Arms.__init__" (defArgs st_Arms____init__) (defBody st_Arms____init__) (defScope st_Arms____init__) .none kV_Arms____init__ dc_Arms____init__ pm_Arms____init__ an_Arms____init__ cd_Arms____init__ ct_Arms____init__), sl_Arms____init__⟩)
    (c_Arms____init__ : PySem.W.codeIn K cd_Arms____init__ "Arms.__init__" = true)
    (k_Arms____init__ : PySem.W.keepIn K (.ref f_Arms____init__) = true)
    (mk_Arms____init__ : PySem.W.makesIn K CO_Arms = true)
    (kc_Arms____init__ : PySem.W.keepIn K (.ref CO_Arms) = true)
    {f__law_gcd : Addr} {od__law_gcd an__law_gcd : Option Addr} {sl__law_gcd : Array (Option Value)} {oc__law_gcd kV__law_gcd dc__law_gcd pm__law_gcd cd__law_gcd ct__law_gcd : Value}
    (a__law_gcd : PySem.W.nsIn K mainGlobals "_law_gcd" = some (some (.ref f__law_gcd)))
    (l__law_gcd : K.lookup f__law_gcd = some ⟨oc__law_gcd, od__law_gcd, .func (PySem.W.fnOf "_law_gcd" "_law_gcd" (defArgs st__law_gcd) (defBody st__law_gcd) (defScope st__law_gcd) .none kV__law_gcd dc__law_gcd pm__law_gcd an__law_gcd cd__law_gcd ct__law_gcd), sl__law_gcd⟩)
    (c__law_gcd : PySem.W.codeIn K cd__law_gcd "_law_gcd" = true)
    (k__law_gcd : PySem.W.keepIn K (.ref f__law_gcd) = true)
    {f__law_ratio : Addr} {od__law_ratio an__law_ratio : Option Addr} {sl__law_ratio : Array (Option Value)} {oc__law_ratio kV__law_ratio dc__law_ratio pm__law_ratio cd__law_ratio ct__law_ratio : Value}
    (a__law_ratio : PySem.W.nsIn K mainGlobals "_law_ratio" = some (some (.ref f__law_ratio)))
    (l__law_ratio : K.lookup f__law_ratio = some ⟨oc__law_ratio, od__law_ratio, .func (PySem.W.fnOf "_law_ratio" "_law_ratio" (defArgs st__law_ratio) (defBody st__law_ratio) (defScope st__law_ratio) .none kV__law_ratio dc__law_ratio pm__law_ratio an__law_ratio cd__law_ratio ct__law_ratio), sl__law_ratio⟩)
    (c__law_ratio : PySem.W.codeIn K cd__law_ratio "_law_ratio" = true)
    (k__law_ratio : PySem.W.keepIn K (.ref f__law_ratio) = true)
    {f__law_half : Addr} {od__law_half an__law_half : Option Addr} {sl__law_half : Array (Option Value)} {oc__law_half kV__law_half dc__law_half pm__law_half cd__law_half ct__law_half : Value}
    (a__law_half : PySem.W.nsIn K mainGlobals "_law_half" = some (some (.ref f__law_half)))
    (l__law_half : K.lookup f__law_half = some ⟨oc__law_half, od__law_half, .func (PySem.W.fnOf "_law_half" "_law_half" (defArgs st__law_half) (defBody st__law_half) (defScope st__law_half) .none kV__law_half dc__law_half pm__law_half an__law_half cd__law_half ct__law_half), sl__law_half⟩)
    (c__law_half : PySem.W.codeIn K cd__law_half "_law_half" = true)
    (k__law_half : PySem.W.keepIn K (.ref f__law_half) = true)
    {f__law_any_half : Addr} {od__law_any_half an__law_any_half : Option Addr} {sl__law_any_half : Array (Option Value)} {oc__law_any_half kV__law_any_half dc__law_any_half pm__law_any_half cd__law_any_half ct__law_any_half : Value}
    (a__law_any_half : PySem.W.nsIn K mainGlobals "_law_any_half" = some (some (.ref f__law_any_half)))
    (l__law_any_half : K.lookup f__law_any_half = some ⟨oc__law_any_half, od__law_any_half, .func (PySem.W.fnOf "_law_any_half" "_law_any_half" (defArgs st__law_any_half) (defBody st__law_any_half) (defScope st__law_any_half) .none kV__law_any_half dc__law_any_half pm__law_any_half an__law_any_half cd__law_any_half ct__law_any_half), sl__law_any_half⟩)
    (c__law_any_half : PySem.W.codeIn K cd__law_any_half "_law_any_half" = true)
    (k__law_any_half : PySem.W.keepIn K (.ref f__law_any_half) = true)
    {f__law_less : Addr} {od__law_less an__law_less : Option Addr} {sl__law_less : Array (Option Value)} {oc__law_less kV__law_less dc__law_less pm__law_less cd__law_less ct__law_less : Value}
    (a__law_less : PySem.W.nsIn K mainGlobals "_law_less" = some (some (.ref f__law_less)))
    (l__law_less : K.lookup f__law_less = some ⟨oc__law_less, od__law_less, .func (PySem.W.fnOf "_law_less" "_law_less" (defArgs st__law_less) (defBody st__law_less) (defScope st__law_less) .none kV__law_less dc__law_less pm__law_less an__law_less cd__law_less ct__law_less), sl__law_less⟩)
    (c__law_less : PySem.W.codeIn K cd__law_less "_law_less" = true)
    (k__law_less : PySem.W.keepIn K (.ref f__law_less) = true)
    {f__law_over : Addr} {od__law_over an__law_over : Option Addr} {sl__law_over : Array (Option Value)} {oc__law_over kV__law_over dc__law_over pm__law_over cd__law_over ct__law_over : Value}
    (a__law_over : PySem.W.nsIn K mainGlobals "_law_over" = some (some (.ref f__law_over)))
    (l__law_over : K.lookup f__law_over = some ⟨oc__law_over, od__law_over, .func (PySem.W.fnOf "_law_over" "_law_over" (defArgs st__law_over) (defBody st__law_over) (defScope st__law_over) .none kV__law_over dc__law_over pm__law_over an__law_over cd__law_over ct__law_over), sl__law_over⟩)
    (c__law_over : PySem.W.codeIn K cd__law_over "_law_over" = true)
    (k__law_over : PySem.W.keepIn K (.ref f__law_over) = true)
    {f__law_plus : Addr} {od__law_plus an__law_plus : Option Addr} {sl__law_plus : Array (Option Value)} {oc__law_plus kV__law_plus dc__law_plus pm__law_plus cd__law_plus ct__law_plus : Value}
    (a__law_plus : PySem.W.nsIn K mainGlobals "_law_plus" = some (some (.ref f__law_plus)))
    (l__law_plus : K.lookup f__law_plus = some ⟨oc__law_plus, od__law_plus, .func (PySem.W.fnOf "_law_plus" "_law_plus" (defArgs st__law_plus) (defBody st__law_plus) (defScope st__law_plus) .none kV__law_plus dc__law_plus pm__law_plus an__law_plus cd__law_plus ct__law_plus), sl__law_plus⟩)
    (c__law_plus : PySem.W.codeIn K cd__law_plus "_law_plus" = true)
    (k__law_plus : PySem.W.keepIn K (.ref f__law_plus) = true)
    {f__law_times : Addr} {od__law_times an__law_times : Option Addr} {sl__law_times : Array (Option Value)} {oc__law_times kV__law_times dc__law_times pm__law_times cd__law_times ct__law_times : Value}
    (a__law_times : PySem.W.nsIn K mainGlobals "_law_times" = some (some (.ref f__law_times)))
    (l__law_times : K.lookup f__law_times = some ⟨oc__law_times, od__law_times, .func (PySem.W.fnOf "_law_times" "_law_times" (defArgs st__law_times) (defBody st__law_times) (defScope st__law_times) .none kV__law_times dc__law_times pm__law_times an__law_times cd__law_times ct__law_times), sl__law_times⟩)
    (c__law_times : PySem.W.codeIn K cd__law_times "_law_times" = true)
    (k__law_times : PySem.W.keepIn K (.ref f__law_times) = true)
    {f__law_direction : Addr} {od__law_direction an__law_direction : Option Addr} {sl__law_direction : Array (Option Value)} {oc__law_direction kV__law_direction dc__law_direction pm__law_direction cd__law_direction ct__law_direction : Value}
    (a__law_direction : PySem.W.nsIn K mainGlobals "_law_direction" = some (some (.ref f__law_direction)))
    (l__law_direction : K.lookup f__law_direction = some ⟨oc__law_direction, od__law_direction, .func (PySem.W.fnOf "_law_direction" "_law_direction" (defArgs st__law_direction) (defBody st__law_direction) (defScope st__law_direction) .none kV__law_direction dc__law_direction pm__law_direction an__law_direction cd__law_direction ct__law_direction), sl__law_direction⟩)
    (c__law_direction : PySem.W.codeIn K cd__law_direction "_law_direction" = true)
    (k__law_direction : PySem.W.keepIn K (.ref f__law_direction) = true)
    {f__law_any_pose : Addr} {od__law_any_pose an__law_any_pose : Option Addr} {sl__law_any_pose : Array (Option Value)} {oc__law_any_pose kV__law_any_pose dc__law_any_pose pm__law_any_pose cd__law_any_pose ct__law_any_pose : Value}
    (a__law_any_pose : PySem.W.nsIn K mainGlobals "_law_any_pose" = some (some (.ref f__law_any_pose)))
    (l__law_any_pose : K.lookup f__law_any_pose = some ⟨oc__law_any_pose, od__law_any_pose, .func (PySem.W.fnOf "_law_any_pose" "_law_any_pose" (defArgs st__law_any_pose) (defBody st__law_any_pose) (defScope st__law_any_pose) .none kV__law_any_pose dc__law_any_pose pm__law_any_pose an__law_any_pose cd__law_any_pose ct__law_any_pose), sl__law_any_pose⟩)
    (c__law_any_pose : PySem.W.codeIn K cd__law_any_pose "_law_any_pose" = true)
    (k__law_any_pose : PySem.W.keepIn K (.ref f__law_any_pose) = true)
    {f_is_place : Addr} {od_is_place an_is_place : Option Addr} {sl_is_place : Array (Option Value)} {oc_is_place kV_is_place dc_is_place pm_is_place cd_is_place ct_is_place : Value}
    (a_is_place : PySem.W.nsIn K mainGlobals "is_place" = some (some (.ref f_is_place)))
    (l_is_place : K.lookup f_is_place = some ⟨oc_is_place, od_is_place, .func (PySem.W.fnOf "is_place" "is_place" (defArgs st_is_place) (defBody st_is_place) (defScope st_is_place) .none kV_is_place dc_is_place pm_is_place an_is_place cd_is_place ct_is_place), sl_is_place⟩)
    (c_is_place : PySem.W.codeIn K cd_is_place "is_place" = true)
    (k_is_place : PySem.W.keepIn K (.ref f_is_place) = true)
    {f_check_place : Addr} {od_check_place an_check_place : Option Addr} {sl_check_place : Array (Option Value)} {oc_check_place kV_check_place dc_check_place pm_check_place cd_check_place ct_check_place : Value}
    (a_check_place : PySem.W.nsIn K mainGlobals "check_place" = some (some (.ref f_check_place)))
    (l_check_place : K.lookup f_check_place = some ⟨oc_check_place, od_check_place, .func (PySem.W.fnOf "check_place" "check_place" (defArgs st_check_place) (defBody st_check_place) (defScope st_check_place) .none kV_check_place dc_check_place pm_check_place an_check_place cd_check_place ct_check_place), sl_check_place⟩)
    (c_check_place : PySem.W.codeIn K cd_check_place "check_place" = true)
    (k_check_place : PySem.W.keepIn K (.ref f_check_place) = true)
    {f_lowest_terms : Addr} {od_lowest_terms an_lowest_terms : Option Addr} {sl_lowest_terms : Array (Option Value)} {oc_lowest_terms kV_lowest_terms dc_lowest_terms pm_lowest_terms cd_lowest_terms ct_lowest_terms : Value}
    (a_lowest_terms : PySem.W.nsIn K mainGlobals "lowest_terms" = some (some (.ref f_lowest_terms)))
    (l_lowest_terms : K.lookup f_lowest_terms = some ⟨oc_lowest_terms, od_lowest_terms, .func (PySem.W.fnOf "lowest_terms" "lowest_terms" (defArgs st_lowest_terms) (defBody st_lowest_terms) (defScope st_lowest_terms) .none kV_lowest_terms dc_lowest_terms pm_lowest_terms an_lowest_terms cd_lowest_terms ct_lowest_terms), sl_lowest_terms⟩)
    (c_lowest_terms : PySem.W.codeIn K cd_lowest_terms "lowest_terms" = true)
    (k_lowest_terms : PySem.W.keepIn K (.ref f_lowest_terms) = true)
    {f_plus : Addr} {od_plus an_plus : Option Addr} {sl_plus : Array (Option Value)} {oc_plus kV_plus dc_plus pm_plus cd_plus ct_plus : Value}
    (a_plus : PySem.W.nsIn K mainGlobals "plus" = some (some (.ref f_plus)))
    (l_plus : K.lookup f_plus = some ⟨oc_plus, od_plus, .func (PySem.W.fnOf "plus" "plus" (defArgs st_plus) (defBody st_plus) (defScope st_plus) .none kV_plus dc_plus pm_plus an_plus cd_plus ct_plus), sl_plus⟩)
    (c_plus : PySem.W.codeIn K cd_plus "plus" = true)
    (k_plus : PySem.W.keepIn K (.ref f_plus) = true)
    {f_join_rows : Addr} {od_join_rows an_join_rows : Option Addr} {sl_join_rows : Array (Option Value)} {oc_join_rows kV_join_rows dc_join_rows pm_join_rows cd_join_rows ct_join_rows : Value}
    (a_join_rows : PySem.W.nsIn K mainGlobals "join_rows" = some (some (.ref f_join_rows)))
    (l_join_rows : K.lookup f_join_rows = some ⟨oc_join_rows, od_join_rows, .func (PySem.W.fnOf "join_rows" "join_rows" (defArgs st_join_rows) (defBody st_join_rows) (defScope st_join_rows) .none kV_join_rows dc_join_rows pm_join_rows an_join_rows cd_join_rows ct_join_rows), sl_join_rows⟩)
    (c_join_rows : PySem.W.codeIn K cd_join_rows "join_rows" = true)
    (k_join_rows : PySem.W.keepIn K (.ref f_join_rows) = true)
    {f_row_at : Addr} {od_row_at an_row_at : Option Addr} {sl_row_at : Array (Option Value)} {oc_row_at kV_row_at dc_row_at pm_row_at cd_row_at ct_row_at : Value}
    (a_row_at : PySem.W.nsIn K mainGlobals "row_at" = some (some (.ref f_row_at)))
    (l_row_at : K.lookup f_row_at = some ⟨oc_row_at, od_row_at, .func (PySem.W.fnOf "row_at" "row_at" (defArgs st_row_at) (defBody st_row_at) (defScope st_row_at) .none kV_row_at dc_row_at pm_row_at an_row_at cd_row_at ct_row_at), sl_row_at⟩)
    (c_row_at : PySem.W.codeIn K cd_row_at "row_at" = true)
    (k_row_at : PySem.W.keepIn K (.ref f_row_at) = true)
    {f_Arms__hinge_row : Addr} {od_Arms__hinge_row an_Arms__hinge_row : Option Addr} {sl_Arms__hinge_row : Array (Option Value)} {oc_Arms__hinge_row kV_Arms__hinge_row dc_Arms__hinge_row pm_Arms__hinge_row cd_Arms__hinge_row ct_Arms__hinge_row : Value}
    (at_Arms__hinge_row : PySem.W.findIn K (.ref CO_Arms) "hinge_row" = some (some (.ref f_Arms__hinge_row)))
    (fn_Arms__hinge_row : PySem.W.isFn K (.ref f_Arms__hinge_row) = true)
    (l_Arms__hinge_row : K.lookup f_Arms__hinge_row = some ⟨oc_Arms__hinge_row, od_Arms__hinge_row, .func (PySem.W.fnOf "hinge_row" "Arms.hinge_row" (defArgs st_Arms__hinge_row) (defBody st_Arms__hinge_row) (defScope st_Arms__hinge_row) .none kV_Arms__hinge_row dc_Arms__hinge_row pm_Arms__hinge_row an_Arms__hinge_row cd_Arms__hinge_row ct_Arms__hinge_row), sl_Arms__hinge_row⟩)
    (c_Arms__hinge_row : PySem.W.codeIn K cd_Arms__hinge_row "Arms.hinge_row" = true)
    (k_Arms__hinge_row : PySem.W.keepIn K (.ref f_Arms__hinge_row) = true)
    {f_Arms__row_of : Addr} {od_Arms__row_of an_Arms__row_of : Option Addr} {sl_Arms__row_of : Array (Option Value)} {oc_Arms__row_of kV_Arms__row_of dc_Arms__row_of pm_Arms__row_of cd_Arms__row_of ct_Arms__row_of : Value}
    (at_Arms__row_of : PySem.W.findIn K (.ref CO_Arms) "row_of" = some (some (.ref f_Arms__row_of)))
    (fn_Arms__row_of : PySem.W.isFn K (.ref f_Arms__row_of) = true)
    (l_Arms__row_of : K.lookup f_Arms__row_of = some ⟨oc_Arms__row_of, od_Arms__row_of, .func (PySem.W.fnOf "row_of" "Arms.row_of" (defArgs st_Arms__row_of) (defBody st_Arms__row_of) (defScope st_Arms__row_of) .none kV_Arms__row_of dc_Arms__row_of pm_Arms__row_of an_Arms__row_of cd_Arms__row_of ct_Arms__row_of), sl_Arms__row_of⟩)
    (c_Arms__row_of : PySem.W.codeIn K cd_Arms__row_of "Arms.row_of" = true)
    (k_Arms__row_of : PySem.W.keepIn K (.ref f_Arms__row_of) = true)
    {f_times : Addr} {od_times an_times : Option Addr} {sl_times : Array (Option Value)} {oc_times kV_times dc_times pm_times cd_times ct_times : Value}
    (a_times : PySem.W.nsIn K mainGlobals "times" = some (some (.ref f_times)))
    (l_times : K.lookup f_times = some ⟨oc_times, od_times, .func (PySem.W.fnOf "times" "times" (defArgs st_times) (defBody st_times) (defScope st_times) .none kV_times dc_times pm_times an_times cd_times ct_times), sl_times⟩)
    (c_times : PySem.W.codeIn K cd_times "times" = true)
    (k_times : PySem.W.keepIn K (.ref f_times) = true)
    {f_dot_of : Addr} {od_dot_of an_dot_of : Option Addr} {sl_dot_of : Array (Option Value)} {oc_dot_of kV_dot_of dc_dot_of pm_dot_of cd_dot_of ct_dot_of : Value}
    (a_dot_of : PySem.W.nsIn K mainGlobals "dot_of" = some (some (.ref f_dot_of)))
    (l_dot_of : K.lookup f_dot_of = some ⟨oc_dot_of, od_dot_of, .func (PySem.W.fnOf "dot_of" "dot_of" (defArgs st_dot_of) (defBody st_dot_of) (defScope st_dot_of) .none kV_dot_of dc_dot_of pm_dot_of an_dot_of cd_dot_of ct_dot_of), sl_dot_of⟩)
    (c_dot_of : PySem.W.codeIn K cd_dot_of "dot_of" = true)
    (k_dot_of : PySem.W.keepIn K (.ref f_dot_of) = true)
    {f_is_spot : Addr} {od_is_spot an_is_spot : Option Addr} {sl_is_spot : Array (Option Value)} {oc_is_spot kV_is_spot dc_is_spot pm_is_spot cd_is_spot ct_is_spot : Value}
    (a_is_spot : PySem.W.nsIn K mainGlobals "is_spot" = some (some (.ref f_is_spot)))
    (l_is_spot : K.lookup f_is_spot = some ⟨oc_is_spot, od_is_spot, .func (PySem.W.fnOf "is_spot" "is_spot" (defArgs st_is_spot) (defBody st_is_spot) (defScope st_is_spot) .none kV_is_spot dc_is_spot pm_is_spot an_is_spot cd_is_spot ct_is_spot), sl_is_spot⟩)
    (c_is_spot : PySem.W.codeIn K cd_is_spot "is_spot" = true)
    (k_is_spot : PySem.W.keepIn K (.ref f_is_spot) = true)
    {f_is_direction : Addr} {od_is_direction an_is_direction : Option Addr} {sl_is_direction : Array (Option Value)} {oc_is_direction kV_is_direction dc_is_direction pm_is_direction cd_is_direction ct_is_direction : Value}
    (a_is_direction : PySem.W.nsIn K mainGlobals "is_direction" = some (some (.ref f_is_direction)))
    (l_is_direction : K.lookup f_is_direction = some ⟨oc_is_direction, od_is_direction, .func (PySem.W.fnOf "is_direction" "is_direction" (defArgs st_is_direction) (defBody st_is_direction) (defScope st_is_direction) .none kV_is_direction dc_is_direction pm_is_direction an_is_direction cd_is_direction ct_is_direction), sl_is_direction⟩)
    (c_is_direction : PySem.W.codeIn K cd_is_direction "is_direction" = true)
    (k_is_direction : PySem.W.keepIn K (.ref f_is_direction) = true)
    {f_first_wrong : Addr} {od_first_wrong an_first_wrong : Option Addr} {sl_first_wrong : Array (Option Value)} {oc_first_wrong kV_first_wrong dc_first_wrong pm_first_wrong cd_first_wrong ct_first_wrong : Value}
    (a_first_wrong : PySem.W.nsIn K mainGlobals "first_wrong" = some (some (.ref f_first_wrong)))
    (l_first_wrong : K.lookup f_first_wrong = some ⟨oc_first_wrong, od_first_wrong, .func (PySem.W.fnOf "first_wrong" "first_wrong" (defArgs st_first_wrong) (defBody st_first_wrong) (defScope st_first_wrong) .none kV_first_wrong dc_first_wrong pm_first_wrong an_first_wrong cd_first_wrong ct_first_wrong), sl_first_wrong⟩)
    (c_first_wrong : PySem.W.codeIn K cd_first_wrong "first_wrong" = true)
    (k_first_wrong : PySem.W.keepIn K (.ref f_first_wrong) = true)
    {f_check_pose : Addr} {od_check_pose an_check_pose : Option Addr} {sl_check_pose : Array (Option Value)} {oc_check_pose kV_check_pose dc_check_pose pm_check_pose cd_check_pose ct_check_pose : Value}
    (a_check_pose : PySem.W.nsIn K mainGlobals "check_pose" = some (some (.ref f_check_pose)))
    (l_check_pose : K.lookup f_check_pose = some ⟨oc_check_pose, od_check_pose, .func (PySem.W.fnOf "check_pose" "check_pose" (defArgs st_check_pose) (defBody st_check_pose) (defScope st_check_pose) .none kV_check_pose dc_check_pose pm_check_pose an_check_pose cd_check_pose ct_check_pose), sl_check_pose⟩)
    (c_check_pose : PySem.W.codeIn K cd_check_pose "check_pose" = true)
    (k_check_pose : PySem.W.keepIn K (.ref f_check_pose) = true)
    {f_sum_of : Addr} {od_sum_of an_sum_of : Option Addr} {sl_sum_of : Array (Option Value)} {oc_sum_of kV_sum_of dc_sum_of pm_sum_of cd_sum_of ct_sum_of : Value}
    (a_sum_of : PySem.W.nsIn K mainGlobals "sum_of" = some (some (.ref f_sum_of)))
    (l_sum_of : K.lookup f_sum_of = some ⟨oc_sum_of, od_sum_of, .func (PySem.W.fnOf "sum_of" "sum_of" (defArgs st_sum_of) (defBody st_sum_of) (defScope st_sum_of) .none kV_sum_of dc_sum_of pm_sum_of an_sum_of cd_sum_of ct_sum_of), sl_sum_of⟩)
    (c_sum_of : PySem.W.codeIn K cd_sum_of "sum_of" = true)
    (k_sum_of : PySem.W.keepIn K (.ref f_sum_of) = true)
    {f_product_of : Addr} {od_product_of an_product_of : Option Addr} {sl_product_of : Array (Option Value)} {oc_product_of kV_product_of dc_product_of pm_product_of cd_product_of ct_product_of : Value}
    (a_product_of : PySem.W.nsIn K mainGlobals "product_of" = some (some (.ref f_product_of)))
    (l_product_of : K.lookup f_product_of = some ⟨oc_product_of, od_product_of, .func (PySem.W.fnOf "product_of" "product_of" (defArgs st_product_of) (defBody st_product_of) (defScope st_product_of) .none kV_product_of dc_product_of pm_product_of an_product_of cd_product_of ct_product_of), sl_product_of⟩)
    (c_product_of : PySem.W.codeIn K cd_product_of "product_of" = true)
    (k_product_of : PySem.W.keepIn K (.ref f_product_of) = true)
    {f_spot_by : Addr} {od_spot_by an_spot_by : Option Addr} {sl_spot_by : Array (Option Value)} {oc_spot_by kV_spot_by dc_spot_by pm_spot_by cd_spot_by ct_spot_by : Value}
    (a_spot_by : PySem.W.nsIn K mainGlobals "spot_by" = some (some (.ref f_spot_by)))
    (l_spot_by : K.lookup f_spot_by = some ⟨oc_spot_by, od_spot_by, .func (PySem.W.fnOf "spot_by" "spot_by" (defArgs st_spot_by) (defBody st_spot_by) (defScope st_spot_by) .none kV_spot_by dc_spot_by pm_spot_by an_spot_by cd_spot_by ct_spot_by), sl_spot_by⟩)
    (c_spot_by : PySem.W.codeIn K cd_spot_by "spot_by" = true)
    (k_spot_by : PySem.W.keepIn K (.ref f_spot_by) = true)
    {f_place_at : Addr} {od_place_at an_place_at : Option Addr} {sl_place_at : Array (Option Value)} {oc_place_at kV_place_at dc_place_at pm_place_at cd_place_at ct_place_at : Value}
    (a_place_at : PySem.W.nsIn K mainGlobals "place_at" = some (some (.ref f_place_at)))
    (l_place_at : K.lookup f_place_at = some ⟨oc_place_at, od_place_at, .func (PySem.W.fnOf "place_at" "place_at" (defArgs st_place_at) (defBody st_place_at) (defScope st_place_at) .none kV_place_at dc_place_at pm_place_at an_place_at cd_place_at ct_place_at), sl_place_at⟩)
    (c_place_at : PySem.W.codeIn K cd_place_at "place_at" = true)
    (k_place_at : PySem.W.keepIn K (.ref f_place_at) = true)
    {f_height_at : Addr} {od_height_at an_height_at : Option Addr} {sl_height_at : Array (Option Value)} {oc_height_at kV_height_at dc_height_at pm_height_at cd_height_at ct_height_at : Value}
    (a_height_at : PySem.W.nsIn K mainGlobals "height_at" = some (some (.ref f_height_at)))
    (l_height_at : K.lookup f_height_at = some ⟨oc_height_at, od_height_at, .func (PySem.W.fnOf "height_at" "height_at" (defArgs st_height_at) (defBody st_height_at) (defScope st_height_at) .none kV_height_at dc_height_at pm_height_at an_height_at cd_height_at ct_height_at), sl_height_at⟩)
    (c_height_at : PySem.W.codeIn K cd_height_at "height_at" = true)
    (k_height_at : PySem.W.keepIn K (.ref f_height_at) = true)
    {f_hinges_at : Addr} {od_hinges_at an_hinges_at : Option Addr} {sl_hinges_at : Array (Option Value)} {oc_hinges_at kV_hinges_at dc_hinges_at pm_hinges_at cd_hinges_at ct_hinges_at : Value}
    (a_hinges_at : PySem.W.nsIn K mainGlobals "hinges_at" = some (some (.ref f_hinges_at)))
    (l_hinges_at : K.lookup f_hinges_at = some ⟨oc_hinges_at, od_hinges_at, .func (PySem.W.fnOf "hinges_at" "hinges_at" (defArgs st_hinges_at) (defBody st_hinges_at) (defScope st_hinges_at) .none kV_hinges_at dc_hinges_at pm_hinges_at an_hinges_at cd_hinges_at ct_hinges_at), sl_hinges_at⟩)
    (c_hinges_at : PySem.W.codeIn K cd_hinges_at "hinges_at" = true)
    (k_hinges_at : PySem.W.keepIn K (.ref f_hinges_at) = true)
    {f_minus : Addr} {od_minus an_minus : Option Addr} {sl_minus : Array (Option Value)} {oc_minus kV_minus dc_minus pm_minus cd_minus ct_minus : Value}
    (a_minus : PySem.W.nsIn K mainGlobals "minus" = some (some (.ref f_minus)))
    (l_minus : K.lookup f_minus = some ⟨oc_minus, od_minus, .func (PySem.W.fnOf "minus" "minus" (defArgs st_minus) (defBody st_minus) (defScope st_minus) .none kV_minus dc_minus pm_minus an_minus cd_minus ct_minus), sl_minus⟩)
    (c_minus : PySem.W.codeIn K cd_minus "minus" = true)
    (k_minus : PySem.W.keepIn K (.ref f_minus) = true)
    {f_take_row : Addr} {od_take_row an_take_row : Option Addr} {sl_take_row : Array (Option Value)} {oc_take_row kV_take_row dc_take_row pm_take_row cd_take_row ct_take_row : Value}
    (a_take_row : PySem.W.nsIn K mainGlobals "take_row" = some (some (.ref f_take_row)))
    (l_take_row : K.lookup f_take_row = some ⟨oc_take_row, od_take_row, .func (PySem.W.fnOf "take_row" "take_row" (defArgs st_take_row) (defBody st_take_row) (defScope st_take_row) .none kV_take_row dc_take_row pm_take_row an_take_row cd_take_row ct_take_row), sl_take_row⟩)
    (c_take_row : PySem.W.codeIn K cd_take_row "take_row" = true)
    (k_take_row : PySem.W.keepIn K (.ref f_take_row) = true)
    {f_Arms__difference_row : Addr} {od_Arms__difference_row an_Arms__difference_row : Option Addr} {sl_Arms__difference_row : Array (Option Value)} {oc_Arms__difference_row kV_Arms__difference_row dc_Arms__difference_row pm_Arms__difference_row cd_Arms__difference_row ct_Arms__difference_row : Value}
    (at_Arms__difference_row : PySem.W.findIn K (.ref CO_Arms) "difference_row" = some (some (.ref f_Arms__difference_row)))
    (fn_Arms__difference_row : PySem.W.isFn K (.ref f_Arms__difference_row) = true)
    (l_Arms__difference_row : K.lookup f_Arms__difference_row = some ⟨oc_Arms__difference_row, od_Arms__difference_row, .func (PySem.W.fnOf "difference_row" "Arms.difference_row" (defArgs st_Arms__difference_row) (defBody st_Arms__difference_row) (defScope st_Arms__difference_row) .none kV_Arms__difference_row dc_Arms__difference_row pm_Arms__difference_row an_Arms__difference_row cd_Arms__difference_row ct_Arms__difference_row), sl_Arms__difference_row⟩)
    (c_Arms__difference_row : PySem.W.codeIn K cd_Arms__difference_row "Arms.difference_row" = true)
    (k_Arms__difference_row : PySem.W.keepIn K (.ref f_Arms__difference_row) = true)
    {f_square_by : Addr} {od_square_by an_square_by : Option Addr} {sl_square_by : Array (Option Value)} {oc_square_by kV_square_by dc_square_by pm_square_by cd_square_by ct_square_by : Value}
    (a_square_by : PySem.W.nsIn K mainGlobals "square_by" = some (some (.ref f_square_by)))
    (l_square_by : K.lookup f_square_by = some ⟨oc_square_by, od_square_by, .func (PySem.W.fnOf "square_by" "square_by" (defArgs st_square_by) (defBody st_square_by) (defScope st_square_by) .none kV_square_by dc_square_by pm_square_by an_square_by cd_square_by ct_square_by), sl_square_by⟩)
    (c_square_by : PySem.W.codeIn K cd_square_by "square_by" = true)
    (k_square_by : PySem.W.keepIn K (.ref f_square_by) = true)
    {f_square_between : Addr} {od_square_between an_square_between : Option Addr} {sl_square_between : Array (Option Value)} {oc_square_between kV_square_between dc_square_between pm_square_between cd_square_between ct_square_between : Value}
    (a_square_between : PySem.W.nsIn K mainGlobals "square_between" = some (some (.ref f_square_between)))
    (l_square_between : K.lookup f_square_between = some ⟨oc_square_between, od_square_between, .func (PySem.W.fnOf "square_between" "square_between" (defArgs st_square_between) (defBody st_square_between) (defScope st_square_between) .none kV_square_between dc_square_between pm_square_between an_square_between cd_square_between ct_square_between), sl_square_between⟩)
    (c_square_between : PySem.W.codeIn K cd_square_between "square_between" = true)
    (k_square_between : PySem.W.keepIn K (.ref f_square_between) = true)
    {f__law_called : Addr} {od__law_called an__law_called : Option Addr} {sl__law_called : Array (Option Value)} {oc__law_called kV__law_called dc__law_called pm__law_called cd__law_called ct__law_called : Value}
    (a__law_called : PySem.W.nsIn K mainGlobals "_law_called" = some (some (.ref f__law_called)))
    (l__law_called : K.lookup f__law_called = some ⟨oc__law_called, od__law_called, .func (PySem.W.fnOf "_law_called" "_law_called" (defArgs st__law_called) (defBody st__law_called) (defScope st__law_called) .none kV__law_called dc__law_called pm__law_called an__law_called cd__law_called ct__law_called), sl__law_called⟩)
    (c__law_called : PySem.W.codeIn K cd__law_called "_law_called" = true)
    (k__law_called : PySem.W.keepIn K (.ref f__law_called) = true)
    {f__law_form : Addr} {od__law_form an__law_form : Option Addr} {sl__law_form : Array (Option Value)} {oc__law_form kV__law_form dc__law_form pm__law_form cd__law_form ct__law_form : Value}
    (a__law_form : PySem.W.nsIn K mainGlobals "_law_form" = some (some (.ref f__law_form)))
    (l__law_form : K.lookup f__law_form = some ⟨oc__law_form, od__law_form, .func (PySem.W.fnOf "_law_form" "_law_form" (defArgs st__law_form) (defBody st__law_form) (defScope st__law_form) .none kV__law_form dc__law_form pm__law_form an__law_form cd__law_form ct__law_form), sl__law_form⟩)
    (c__law_form : PySem.W.codeIn K cd__law_form "_law_form" = true)
    (k__law_form : PySem.W.keepIn K (.ref f__law_form) = true)
    {f__law_is_ratio : Addr} {od__law_is_ratio an__law_is_ratio : Option Addr} {sl__law_is_ratio : Array (Option Value)} {oc__law_is_ratio kV__law_is_ratio dc__law_is_ratio pm__law_is_ratio cd__law_is_ratio ct__law_is_ratio : Value}
    (a__law_is_ratio : PySem.W.nsIn K mainGlobals "_law_is_ratio" = some (some (.ref f__law_is_ratio)))
    (l__law_is_ratio : K.lookup f__law_is_ratio = some ⟨oc__law_is_ratio, od__law_is_ratio, .func (PySem.W.fnOf "_law_is_ratio" "_law_is_ratio" (defArgs st__law_is_ratio) (defBody st__law_is_ratio) (defScope st__law_is_ratio) .none kV__law_is_ratio dc__law_is_ratio pm__law_is_ratio an__law_is_ratio cd__law_is_ratio ct__law_is_ratio), sl__law_is_ratio⟩)
    (c__law_is_ratio : PySem.W.codeIn K cd__law_is_ratio "_law_is_ratio" = true)
    (k__law_is_ratio : PySem.W.keepIn K (.ref f__law_is_ratio) = true)
    {f__law_is_place : Addr} {od__law_is_place an__law_is_place : Option Addr} {sl__law_is_place : Array (Option Value)} {oc__law_is_place kV__law_is_place dc__law_is_place pm__law_is_place cd__law_is_place ct__law_is_place : Value}
    (a__law_is_place : PySem.W.nsIn K mainGlobals "_law_is_place" = some (some (.ref f__law_is_place)))
    (l__law_is_place : K.lookup f__law_is_place = some ⟨oc__law_is_place, od__law_is_place, .func (PySem.W.fnOf "_law_is_place" "_law_is_place" (defArgs st__law_is_place) (defBody st__law_is_place) (defScope st__law_is_place) .none kV__law_is_place dc__law_is_place pm__law_is_place an__law_is_place cd__law_is_place ct__law_is_place), sl__law_is_place⟩)
    (c__law_is_place : PySem.W.codeIn K cd__law_is_place "_law_is_place" = true)
    (k__law_is_place : PySem.W.keepIn K (.ref f__law_is_place) = true)
    {f__law_stand : Addr} {od__law_stand an__law_stand : Option Addr} {sl__law_stand : Array (Option Value)} {oc__law_stand kV__law_stand dc__law_stand pm__law_stand cd__law_stand ct__law_stand : Value}
    (a__law_stand : PySem.W.nsIn K mainGlobals "_law_stand" = some (some (.ref f__law_stand)))
    (l__law_stand : K.lookup f__law_stand = some ⟨oc__law_stand, od__law_stand, .func (PySem.W.fnOf "_law_stand" "_law_stand" (defArgs st__law_stand) (defBody st__law_stand) (defScope st__law_stand) .none kV__law_stand dc__law_stand pm__law_stand an__law_stand cd__law_stand ct__law_stand), sl__law_stand⟩)
    (c__law_stand : PySem.W.codeIn K cd__law_stand "_law_stand" = true)
    (k__law_stand : PySem.W.keepIn K (.ref f__law_stand) = true)
    {f__law_gap : Addr} {od__law_gap an__law_gap : Option Addr} {sl__law_gap : Array (Option Value)} {oc__law_gap kV__law_gap dc__law_gap pm__law_gap cd__law_gap ct__law_gap : Value}
    (a__law_gap : PySem.W.nsIn K mainGlobals "_law_gap" = some (some (.ref f__law_gap)))
    (l__law_gap : K.lookup f__law_gap = some ⟨oc__law_gap, od__law_gap, .func (PySem.W.fnOf "_law_gap" "_law_gap" (defArgs st__law_gap) (defBody st__law_gap) (defScope st__law_gap) .none kV__law_gap dc__law_gap pm__law_gap an__law_gap cd__law_gap ct__law_gap), sl__law_gap⟩)
    (c__law_gap : PySem.W.codeIn K cd__law_gap "_law_gap" = true)
    (k__law_gap : PySem.W.keepIn K (.ref f__law_gap) = true)
    {f__law_same : Addr} {od__law_same an__law_same : Option Addr} {sl__law_same : Array (Option Value)} {oc__law_same kV__law_same dc__law_same pm__law_same cd__law_same ct__law_same : Value}
    (a__law_same : PySem.W.nsIn K mainGlobals "_law_same" = some (some (.ref f__law_same)))
    (l__law_same : K.lookup f__law_same = some ⟨oc__law_same, od__law_same, .func (PySem.W.fnOf "_law_same" "_law_same" (defArgs st__law_same) (defBody st__law_same) (defScope st__law_same) .none kV__law_same dc__law_same pm__law_same an__law_same cd__law_same ct__law_same), sl__law_same⟩)
    (c__law_same : PySem.W.codeIn K cd__law_same "_law_same" = true)
    (k__law_same : PySem.W.keepIn K (.ref f__law_same) = true)
    {f__law_same_row : Addr} {od__law_same_row an__law_same_row : Option Addr} {sl__law_same_row : Array (Option Value)} {oc__law_same_row kV__law_same_row dc__law_same_row pm__law_same_row cd__law_same_row ct__law_same_row : Value}
    (a__law_same_row : PySem.W.nsIn K mainGlobals "_law_same_row" = some (some (.ref f__law_same_row)))
    (l__law_same_row : K.lookup f__law_same_row = some ⟨oc__law_same_row, od__law_same_row, .func (PySem.W.fnOf "_law_same_row" "_law_same_row" (defArgs st__law_same_row) (defBody st__law_same_row) (defScope st__law_same_row) .none kV__law_same_row dc__law_same_row pm__law_same_row an__law_same_row cd__law_same_row ct__law_same_row), sl__law_same_row⟩)
    (c__law_same_row : PySem.W.codeIn K cd__law_same_row "_law_same_row" = true)
    (k__law_same_row : PySem.W.keepIn K (.ref f__law_same_row) = true)
    {f__law_same_rows : Addr} {od__law_same_rows an__law_same_rows : Option Addr} {sl__law_same_rows : Array (Option Value)} {oc__law_same_rows kV__law_same_rows dc__law_same_rows pm__law_same_rows cd__law_same_rows ct__law_same_rows : Value}
    (a__law_same_rows : PySem.W.nsIn K mainGlobals "_law_same_rows" = some (some (.ref f__law_same_rows)))
    (l__law_same_rows : K.lookup f__law_same_rows = some ⟨oc__law_same_rows, od__law_same_rows, .func (PySem.W.fnOf "_law_same_rows" "_law_same_rows" (defArgs st__law_same_rows) (defBody st__law_same_rows) (defScope st__law_same_rows) .none kV__law_same_rows dc__law_same_rows pm__law_same_rows an__law_same_rows cd__law_same_rows ct__law_same_rows), sl__law_same_rows⟩)
    (c__law_same_rows : PySem.W.codeIn K cd__law_same_rows "_law_same_rows" = true)
    (k__law_same_rows : PySem.W.keepIn K (.ref f__law_same_rows) = true)
    {f__law_square : Addr} {od__law_square an__law_square : Option Addr} {sl__law_square : Array (Option Value)} {oc__law_square kV__law_square dc__law_square pm__law_square cd__law_square ct__law_square : Value}
    (a__law_square : PySem.W.nsIn K mainGlobals "_law_square" = some (some (.ref f__law_square)))
    (l__law_square : K.lookup f__law_square = some ⟨oc__law_square, od__law_square, .func (PySem.W.fnOf "_law_square" "_law_square" (defArgs st__law_square) (defBody st__law_square) (defScope st__law_square) .none kV__law_square dc__law_square pm__law_square an__law_square cd__law_square ct__law_square), sl__law_square⟩)
    (c__law_square : PySem.W.codeIn K cd__law_square "_law_square" = true)
    (k__law_square : PySem.W.keepIn K (.ref f__law_square) = true)
    {f__law_right : Addr} {od__law_right an__law_right : Option Addr} {sl__law_right : Array (Option Value)} {oc__law_right kV__law_right dc__law_right pm__law_right cd__law_right ct__law_right : Value}
    (a__law_right : PySem.W.nsIn K mainGlobals "_law_right" = some (some (.ref f__law_right)))
    (l__law_right : K.lookup f__law_right = some ⟨oc__law_right, od__law_right, .func (PySem.W.fnOf "_law_right" "_law_right" (defArgs st__law_right) (defBody st__law_right) (defScope st__law_right) .none kV__law_right dc__law_right pm__law_right an__law_right cd__law_right ct__law_right), sl__law_right⟩)
    (c__law_right : PySem.W.codeIn K cd__law_right "_law_right" = true)
    (k__law_right : PySem.W.keepIn K (.ref f__law_right) = true)
    {f__law_asked : Addr} {od__law_asked an__law_asked : Option Addr} {sl__law_asked : Array (Option Value)} {oc__law_asked kV__law_asked dc__law_asked pm__law_asked cd__law_asked ct__law_asked : Value}
    (a__law_asked : PySem.W.nsIn K mainGlobals "_law_asked" = some (some (.ref f__law_asked)))
    (l__law_asked : K.lookup f__law_asked = some ⟨oc__law_asked, od__law_asked, .func (PySem.W.fnOf "_law_asked" "_law_asked" (defArgs st__law_asked) (defBody st__law_asked) (defScope st__law_asked) .none kV__law_asked dc__law_asked pm__law_asked an__law_asked cd__law_asked ct__law_asked), sl__law_asked⟩)
    (c__law_asked : PySem.W.codeIn K cd__law_asked "_law_asked" = true)
    (k__law_asked : PySem.W.keepIn K (.ref f__law_asked) = true)
    {f__law_most : Addr} {od__law_most an__law_most : Option Addr} {sl__law_most : Array (Option Value)} {oc__law_most kV__law_most dc__law_most pm__law_most cd__law_most ct__law_most : Value}
    (a__law_most : PySem.W.nsIn K mainGlobals "_law_most" = some (some (.ref f__law_most)))
    (l__law_most : K.lookup f__law_most = some ⟨oc__law_most, od__law_most, .func (PySem.W.fnOf "_law_most" "_law_most" (defArgs st__law_most) (defBody st__law_most) (defScope st__law_most) .none kV__law_most dc__law_most pm__law_most an__law_most cd__law_most ct__law_most), sl__law_most⟩)
    (c__law_most : PySem.W.codeIn K cd__law_most "_law_most" = true)
    (k__law_most : PySem.W.keepIn K (.ref f__law_most) = true)
    {f__law_mark : Addr} {od__law_mark an__law_mark : Option Addr} {sl__law_mark : Array (Option Value)} {oc__law_mark kV__law_mark dc__law_mark pm__law_mark cd__law_mark ct__law_mark : Value}
    (a__law_mark : PySem.W.nsIn K mainGlobals "_law_mark" = some (some (.ref f__law_mark)))
    (l__law_mark : K.lookup f__law_mark = some ⟨oc__law_mark, od__law_mark, .func (PySem.W.fnOf "_law_mark" "_law_mark" (defArgs st__law_mark) (defBody st__law_mark) (defScope st__law_mark) .none kV__law_mark dc__law_mark pm__law_mark an__law_mark cd__law_mark ct__law_mark), sl__law_mark⟩)
    (c__law_mark : PySem.W.codeIn K cd__law_mark "_law_mark" = true)
    (k__law_mark : PySem.W.keepIn K (.ref f__law_mark) = true)
    {f__law_wide : Addr} {od__law_wide an__law_wide : Option Addr} {sl__law_wide : Array (Option Value)} {oc__law_wide kV__law_wide dc__law_wide pm__law_wide cd__law_wide ct__law_wide : Value}
    (a__law_wide : PySem.W.nsIn K mainGlobals "_law_wide" = some (some (.ref f__law_wide)))
    (l__law_wide : K.lookup f__law_wide = some ⟨oc__law_wide, od__law_wide, .func (PySem.W.fnOf "_law_wide" "_law_wide" (defArgs st__law_wide) (defBody st__law_wide) (defScope st__law_wide) .none kV__law_wide dc__law_wide pm__law_wide an__law_wide cd__law_wide ct__law_wide), sl__law_wide⟩)
    (c__law_wide : PySem.W.codeIn K cd__law_wide "_law_wide" = true)
    (k__law_wide : PySem.W.keepIn K (.ref f__law_wide) = true)
    {f__law_any_place : Addr} {od__law_any_place an__law_any_place : Option Addr} {sl__law_any_place : Array (Option Value)} {oc__law_any_place kV__law_any_place dc__law_any_place pm__law_any_place cd__law_any_place ct__law_any_place : Value}
    (a__law_any_place : PySem.W.nsIn K mainGlobals "_law_any_place" = some (some (.ref f__law_any_place)))
    (l__law_any_place : K.lookup f__law_any_place = some ⟨oc__law_any_place, od__law_any_place, .func (PySem.W.fnOf "_law_any_place" "_law_any_place" (defArgs st__law_any_place) (defBody st__law_any_place) (defScope st__law_any_place) .none kV__law_any_place dc__law_any_place pm__law_any_place an__law_any_place cd__law_any_place ct__law_any_place), sl__law_any_place⟩)
    (c__law_any_place : PySem.W.codeIn K cd__law_any_place "_law_any_place" = true)
    (k__law_any_place : PySem.W.keepIn K (.ref f__law_any_place) = true)
    {f__law_odd : Addr} {od__law_odd an__law_odd : Option Addr} {sl__law_odd : Array (Option Value)} {oc__law_odd kV__law_odd dc__law_odd pm__law_odd cd__law_odd ct__law_odd : Value}
    (a__law_odd : PySem.W.nsIn K mainGlobals "_law_odd" = some (some (.ref f__law_odd)))
    (l__law_odd : K.lookup f__law_odd = some ⟨oc__law_odd, od__law_odd, .func (PySem.W.fnOf "_law_odd" "_law_odd" (defArgs st__law_odd) (defBody st__law_odd) (defScope st__law_odd) .none kV__law_odd dc__law_odd pm__law_odd an__law_odd cd__law_odd ct__law_odd), sl__law_odd⟩)
    (c__law_odd : PySem.W.codeIn K cd__law_odd "_law_odd" = true)
    (k__law_odd : PySem.W.keepIn K (.ref f__law_odd) = true)
    {f__law_some_place : Addr} {od__law_some_place an__law_some_place : Option Addr} {sl__law_some_place : Array (Option Value)} {oc__law_some_place kV__law_some_place dc__law_some_place pm__law_some_place cd__law_some_place ct__law_some_place : Value}
    (a__law_some_place : PySem.W.nsIn K mainGlobals "_law_some_place" = some (some (.ref f__law_some_place)))
    (l__law_some_place : K.lookup f__law_some_place = some ⟨oc__law_some_place, od__law_some_place, .func (PySem.W.fnOf "_law_some_place" "_law_some_place" (defArgs st__law_some_place) (defBody st__law_some_place) (defScope st__law_some_place) .none kV__law_some_place dc__law_some_place pm__law_some_place an__law_some_place cd__law_some_place ct__law_some_place), sl__law_some_place⟩)
    (c__law_some_place : PySem.W.codeIn K cd__law_some_place "_law_some_place" = true)
    (k__law_some_place : PySem.W.keepIn K (.ref f__law_some_place) = true)
    {f__law_world : Addr} {od__law_world an__law_world : Option Addr} {sl__law_world : Array (Option Value)} {oc__law_world kV__law_world dc__law_world pm__law_world cd__law_world ct__law_world : Value}
    (a__law_world : PySem.W.nsIn K mainGlobals "_law_world" = some (some (.ref f__law_world)))
    (l__law_world : K.lookup f__law_world = some ⟨oc__law_world, od__law_world, .func (PySem.W.fnOf "_law_world" "_law_world" (defArgs st__law_world) (defBody st__law_world) (defScope st__law_world) .none kV__law_world dc__law_world pm__law_world an__law_world cd__law_world ct__law_world), sl__law_world⟩)
    (c__law_world : PySem.W.codeIn K cd__law_world "_law_world" = true)
    (k__law_world : PySem.W.keepIn K (.ref f__law_world) = true)
    {f_law : Addr} {od_law an_law : Option Addr} {sl_law : Array (Option Value)} {oc_law kV_law dc_law pm_law cd_law ct_law : Value}
    (a_law : PySem.W.nsIn K mainGlobals "law" = some (some (.ref f_law)))
    (l_law : K.lookup f_law = some ⟨oc_law, od_law, .func (PySem.W.fnOf "law" "law" (defArgs st_law) (defBody st_law) (defScope st_law) .none kV_law dc_law pm_law an_law cd_law ct_law), sl_law⟩)
    (c_law : PySem.W.codeIn K cd_law "law" = true)
    (k_law : PySem.W.keepIn K (.ref f_law) = true)
    {C_BadArms N_BadArms f_BadArms : Addr} {nm_BadArms qn_BadArms : Str} {bs_BadArms bm_BadArms sub_BadArms : List Value} {sn_BadArms : List Str} {ab_BadArms : Bool} {co_BadArms : Option Bool} {dd_BadArms : Option Addr} {m0_BadArms m1_BadArms m2_BadArms m3_BadArms m5_BadArms : Option Value}
    {od_BadArms an_BadArms : Option Addr} {sl_BadArms : Array (Option Value)} {oc_BadArms kV_BadArms dc_BadArms pm_BadArms cd_BadArms ct_BadArms : Value}
    (a_BadArms : PySem.W.nsIn K mainGlobals "BadArms" = some (some (.ref C_BadArms)))
    (x_BadArms : K.lookup C_BadArms = some (excClassObj nm_BadArms qn_BadArms C_BadArms N_BadArms bs_BadArms bm_BadArms true sn_BadArms sub_BadArms ab_BadArms co_BadArms dd_BadArms m0_BadArms m1_BadArms m2_BadArms m3_BadArms m5_BadArms "ValueError.__new__"))
    (r_BadArms : PySem.HandSPX.refsVE bm_BadArms = true)
    (sa_BadArms : PySem.W.findIn K (.ref C_BadArms) "__setattr__" = some (some (.builtin "object.__setattr__")))
    (ga_BadArms : PySem.W.findIn K (.ref C_BadArms) "__getattribute__" = some (some (.builtin "BaseException.__getattribute__")))
    (gg_BadArms : PySem.W.findIn K (.ref C_BadArms) "__getattr__" = some none)
    (n_index_BadArms : PySem.W.findIn K (.ref C_BadArms) "index" = some none)
    (n_what_BadArms : PySem.W.findIn K (.ref C_BadArms) "what" = some none)
    (i_BadArms : PySem.W.findIn K (.ref C_BadArms) "__init__" = some (some (.ref f_BadArms)))
    (ti_BadArms : PySem.W.typeIn K (.ref f_BadArms) = some (.type "function"))
    (l_BadArms : K.lookup f_BadArms = some ⟨oc_BadArms, od_BadArms, .func (PySem.W.fnOf "__init__" "BadArms.__init__" (defArgs st_BadArms) (defBody st_BadArms) (defScope st_BadArms) .none kV_BadArms dc_BadArms pm_BadArms an_BadArms cd_BadArms ct_BadArms), sl_BadArms⟩)
    (c_BadArms : PySem.W.codeIn K cd_BadArms "BadArms.__init__" = true)
    (ki_BadArms : PySem.W.keepIn K (.ref f_BadArms) = true)
    (k_BadArms : PySem.W.keepIn K (.ref C_BadArms) = true)
    (ex_BadArms : PySem.W.subIn K (.ref C_BadArms) (.type "BaseException") = some true)
    (ty_BadArms : PySem.W.typeIn K (.ref C_BadArms) = some (.type "type"))
    (hd_BadArms : PySem.W.hasDictIn K C_BadArms = true)
    (se_BadArms : PySem.W.subIn K (.ref C_BadArms) (.ref C_BadArms) = some true)
    {C_BadPose N_BadPose f_BadPose : Addr} {nm_BadPose qn_BadPose : Str} {bs_BadPose bm_BadPose sub_BadPose : List Value} {sn_BadPose : List Str} {ab_BadPose : Bool} {co_BadPose : Option Bool} {dd_BadPose : Option Addr} {m0_BadPose m1_BadPose m2_BadPose m3_BadPose m5_BadPose : Option Value}
    {od_BadPose an_BadPose : Option Addr} {sl_BadPose : Array (Option Value)} {oc_BadPose kV_BadPose dc_BadPose pm_BadPose cd_BadPose ct_BadPose : Value}
    (a_BadPose : PySem.W.nsIn K mainGlobals "BadPose" = some (some (.ref C_BadPose)))
    (x_BadPose : K.lookup C_BadPose = some (excClassObj nm_BadPose qn_BadPose C_BadPose N_BadPose bs_BadPose bm_BadPose true sn_BadPose sub_BadPose ab_BadPose co_BadPose dd_BadPose m0_BadPose m1_BadPose m2_BadPose m3_BadPose m5_BadPose "ValueError.__new__"))
    (r_BadPose : PySem.HandSPX.refsVE bm_BadPose = true)
    (sa_BadPose : PySem.W.findIn K (.ref C_BadPose) "__setattr__" = some (some (.builtin "object.__setattr__")))
    (ga_BadPose : PySem.W.findIn K (.ref C_BadPose) "__getattribute__" = some (some (.builtin "BaseException.__getattribute__")))
    (gg_BadPose : PySem.W.findIn K (.ref C_BadPose) "__getattr__" = some none)
    (n_index_BadPose : PySem.W.findIn K (.ref C_BadPose) "index" = some none)
    (i_BadPose : PySem.W.findIn K (.ref C_BadPose) "__init__" = some (some (.ref f_BadPose)))
    (ti_BadPose : PySem.W.typeIn K (.ref f_BadPose) = some (.type "function"))
    (l_BadPose : K.lookup f_BadPose = some ⟨oc_BadPose, od_BadPose, .func (PySem.W.fnOf "__init__" "BadPose.__init__" (defArgs st_BadPose) (defBody st_BadPose) (defScope st_BadPose) .none kV_BadPose dc_BadPose pm_BadPose an_BadPose cd_BadPose ct_BadPose), sl_BadPose⟩)
    (c_BadPose : PySem.W.codeIn K cd_BadPose "BadPose.__init__" = true)
    (ki_BadPose : PySem.W.keepIn K (.ref f_BadPose) = true)
    (k_BadPose : PySem.W.keepIn K (.ref C_BadPose) = true)
    (ex_BadPose : PySem.W.subIn K (.ref C_BadPose) (.type "BaseException") = some true)
    (ty_BadPose : PySem.W.typeIn K (.ref C_BadPose) = some (.type "type"))
    (hd_BadPose : PySem.W.hasDictIn K C_BadPose = true)
    (se_BadPose : PySem.W.subIn K (.ref C_BadPose) (.ref C_BadPose) = some true)
    {C_NoBar N_NoBar f_NoBar : Addr} {nm_NoBar qn_NoBar : Str} {bs_NoBar bm_NoBar sub_NoBar : List Value} {sn_NoBar : List Str} {ab_NoBar : Bool} {co_NoBar : Option Bool} {dd_NoBar : Option Addr} {m0_NoBar m1_NoBar m2_NoBar m3_NoBar m5_NoBar : Option Value}
    {od_NoBar an_NoBar : Option Addr} {sl_NoBar : Array (Option Value)} {oc_NoBar kV_NoBar dc_NoBar pm_NoBar cd_NoBar ct_NoBar : Value}
    (a_NoBar : PySem.W.nsIn K mainGlobals "NoBar" = some (some (.ref C_NoBar)))
    (x_NoBar : K.lookup C_NoBar = some (excClassObj nm_NoBar qn_NoBar C_NoBar N_NoBar bs_NoBar bm_NoBar true sn_NoBar sub_NoBar ab_NoBar co_NoBar dd_NoBar m0_NoBar m1_NoBar m2_NoBar m3_NoBar m5_NoBar "ValueError.__new__"))
    (r_NoBar : PySem.HandSPX.refsVE bm_NoBar = true)
    (sa_NoBar : PySem.W.findIn K (.ref C_NoBar) "__setattr__" = some (some (.builtin "object.__setattr__")))
    (ga_NoBar : PySem.W.findIn K (.ref C_NoBar) "__getattribute__" = some (some (.builtin "BaseException.__getattribute__")))
    (gg_NoBar : PySem.W.findIn K (.ref C_NoBar) "__getattr__" = some none)
    (n_number_NoBar : PySem.W.findIn K (.ref C_NoBar) "number" = some none)
    (i_NoBar : PySem.W.findIn K (.ref C_NoBar) "__init__" = some (some (.ref f_NoBar)))
    (ti_NoBar : PySem.W.typeIn K (.ref f_NoBar) = some (.type "function"))
    (l_NoBar : K.lookup f_NoBar = some ⟨oc_NoBar, od_NoBar, .func (PySem.W.fnOf "__init__" "NoBar.__init__" (defArgs st_NoBar) (defBody st_NoBar) (defScope st_NoBar) .none kV_NoBar dc_NoBar pm_NoBar an_NoBar cd_NoBar ct_NoBar), sl_NoBar⟩)
    (c_NoBar : PySem.W.codeIn K cd_NoBar "NoBar.__init__" = true)
    (ki_NoBar : PySem.W.keepIn K (.ref f_NoBar) = true)
    (k_NoBar : PySem.W.keepIn K (.ref C_NoBar) = true)
    (ex_NoBar : PySem.W.subIn K (.ref C_NoBar) (.type "BaseException") = some true)
    (ty_NoBar : PySem.W.typeIn K (.ref C_NoBar) = some (.type "type"))
    (hd_NoBar : PySem.W.hasDictIn K C_NoBar = true)
    (se_NoBar : PySem.W.subIn K (.ref C_NoBar) (.ref C_NoBar) = some true)
    {Cy_BadPlace : Addr}
    (ya_BadPlace : PySem.W.nsIn K mainGlobals "BadPlace" = some (some (.ref Cy_BadPlace)))
    (ysb_BadPlace : PySem.W.subIn K (.ref Cy_BadPlace) (.type "BaseException") = some true)
    (yty_BadPlace : PySem.W.typeIn K (.ref Cy_BadPlace) = some (.type "type"))
    (yhd_BadPlace : PySem.W.hasDictIn K Cy_BadPlace = true)
    {Cy_BadPose : Addr}
    (ya_BadPose : PySem.W.nsIn K mainGlobals "BadPose" = some (some (.ref Cy_BadPose)))
    (ysb_BadPose : PySem.W.subIn K (.ref Cy_BadPose) (.type "BaseException") = some true)
    (yty_BadPose : PySem.W.typeIn K (.ref Cy_BadPose) = some (.type "type"))
    (yhd_BadPose : PySem.W.hasDictIn K Cy_BadPose = true)
    (ys_BadPose_BadPlace : PySem.W.subIn K (.ref Cy_BadPose) (.ref Cy_BadPlace) = some false)
    (ys_BadPlace_BadPlace : PySem.W.subIn K (.ref Cy_BadPlace) (.ref Cy_BadPlace) = some true)
    (ys_BadPose_BadPose : PySem.W.subIn K (.ref Cy_BadPose) (.ref Cy_BadPose) = some true)
    (ys_BadPlace_BadPose : PySem.W.subIn K (.ref Cy_BadPlace) (.ref Cy_BadPose) = some false)
    (na_Arms_bars : PySem.W.findIn K (.ref CO_Arms) "bars" = some none)
    (na_Arms_letters : PySem.W.findIn K (.ref CO_Arms) "letters" = some none)
    (yex_BadPlace : PySem.W.excIn K Cy_BadPlace [.type "ValueError", .type "Exception", .type "BaseException", .type "object"] "ValueError.__new__" = true)
    (yk_BadPlace : PySem.W.keepIn K (.ref Cy_BadPlace) = true)
    {zt_MAST : Tok}
    (g_MAST : PySem.W.nsIn K mainGlobals "MAST" = some (some (.int (-1) zt_MAST)))
    {zt_MOST_BARS : Tok}
    (g_MOST_BARS : PySem.W.nsIn K mainGlobals "MOST_BARS" = some (some (.int 6 zt_MOST_BARS)))
    {zt_MOST_LETTERS : Tok}
    (g_MOST_LETTERS : PySem.W.nsIn K mainGlobals "MOST_LETTERS" = some (some (.int 4 zt_MOST_LETTERS)))
    {Z_ONE : Addr} {zd_ONE : Option Addr} {zn_ONE : Nat} {zs_ONE : Array (Option Value)} {za_ONE zb_ONE : Tok}
    (g_ONE : PySem.W.nsIn K mainGlobals "ONE" = some (some (.ref Z_ONE)))
    (q_ONE : K.lookup Z_ONE = some ⟨.type "tuple", zd_ONE, .seq #[.int 1 za_ONE, .int 1 zb_ONE] zn_ONE, zs_ONE⟩)
    {Z_ZERO : Addr} {zd_ZERO : Option Addr} {zn_ZERO : Nat} {zs_ZERO : Array (Option Value)} {za_ZERO zb_ZERO : Tok}
    (g_ZERO : PySem.W.nsIn K mainGlobals "ZERO" = some (some (.ref Z_ZERO)))
    (q_ZERO : K.lookup Z_ZERO = some ⟨.type "tuple", zd_ZERO, .seq #[.int 0 za_ZERO, .int 1 zb_ZERO] zn_ZERO, zs_ZERO⟩)
    (i_gcd : PySem.W.nsIn K mainGlobals "gcd" = some (some (.builtin "math.gcd")))
    (z_abs : PySem.W.nsIn K mainGlobals "abs" = some none)
    (z_all : PySem.W.nsIn K mainGlobals "all" = some none)
    (z_bool : PySem.W.nsIn K mainGlobals "bool" = some none)
    (z_enumerate : PySem.W.nsIn K mainGlobals "enumerate" = some none)
    (z_int : PySem.W.nsIn K mainGlobals "int" = some none)
    (z_isinstance : PySem.W.nsIn K mainGlobals "isinstance" = some none)
    (z_len : PySem.W.nsIn K mainGlobals "len" = some none)
    (z_list : PySem.W.nsIn K mainGlobals "list" = some none)
    (z_max : PySem.W.nsIn K mainGlobals "max" = some none)
    (z_min : PySem.W.nsIn K mainGlobals "min" = some none)
    (z_range : PySem.W.nsIn K mainGlobals "range" = some none)
    (z_repr : PySem.W.nsIn K mainGlobals "repr" = some none)
    (z_tuple : PySem.W.nsIn K mainGlobals "tuple" = some none)
    (z_zip : PySem.W.nsIn K mainGlobals "zip" = some none) : Txt K mg where
  F__law_hand := ⟨_, _, fun_mk (st := st__law_hand) l__law_hand c__law_hand k__law_hand, PySem.W.mg_of X G a__law_hand⟩
  F__law_take := ⟨_, _, fun_mk (st := st__law_take) l__law_take c__law_take k__law_take, PySem.W.mg_of X G a__law_take⟩
  F_is_whole := ⟨_, _, ⟨⟨_, _, _, _, _, _, _, _, _, _, rfl, l_is_whole, c_is_whole, .inr ⟨by simp, _, _, [Value.none, Value.none], _, rfl, e_is_whole, rfl, .cons rfl (.cons rfl (.nil))⟩, .inl rfl⟩, k_is_whole⟩, PySem.W.mg_of X G a_is_whole⟩
  F_is_ratio := ⟨_, _, fun_mk (st := st_is_ratio) l_is_ratio c_is_ratio k_is_ratio, PySem.W.mg_of X G a_is_ratio⟩
  F_is_row := ⟨_, _, ⟨⟨_, _, _, _, _, _, _, _, _, _, rfl, l_is_row, c_is_row, .inr ⟨by simp, _, _, [Value.int 0 u0_is_row, Value.none], _, rfl, e_is_row, rfl, .cons ⟨u0_is_row, rfl⟩ (.cons rfl (.nil))⟩, .inl rfl⟩, k_is_row⟩, PySem.W.mg_of X G a_is_row⟩
  F__check_bar := ⟨_, _, fun_mk (st := st__check_bar) l__check_bar c__check_bar k__check_bar, PySem.W.mg_of X G a__check_bar⟩
  F__check_bars := ⟨_, _, fun_mk (st := st__check_bars) l__check_bars c__check_bars k__check_bars, PySem.W.mg_of X G a__check_bars⟩
  F__count_letters := ⟨_, _, fun_mk (st := st__count_letters) l__count_letters c__count_letters k__count_letters, PySem.W.mg_of X G a__count_letters⟩
  G_Arms____init__ := ⟨CO_Arms, f_Arms____init__, _, PySem.W.mg_of X G ao_Arms, ⟨mk_Arms____init__, at_Arms____init__, fn_Arms____init__, kc_Arms____init__⟩, fun_mk (st := st_Arms____init__) l_Arms____init__ c_Arms____init__ k_Arms____init__⟩
  F__law_gcd := ⟨_, _, fun_mk (st := st__law_gcd) l__law_gcd c__law_gcd k__law_gcd, PySem.W.mg_of X G a__law_gcd⟩
  F__law_ratio := ⟨_, _, fun_mk (st := st__law_ratio) l__law_ratio c__law_ratio k__law_ratio, PySem.W.mg_of X G a__law_ratio⟩
  F__law_half := ⟨_, _, fun_mk (st := st__law_half) l__law_half c__law_half k__law_half, PySem.W.mg_of X G a__law_half⟩
  F__law_any_half := ⟨_, _, fun_mk (st := st__law_any_half) l__law_any_half c__law_any_half k__law_any_half, PySem.W.mg_of X G a__law_any_half⟩
  F__law_less := ⟨_, _, fun_mk (st := st__law_less) l__law_less c__law_less k__law_less, PySem.W.mg_of X G a__law_less⟩
  F__law_over := ⟨_, _, fun_mk (st := st__law_over) l__law_over c__law_over k__law_over, PySem.W.mg_of X G a__law_over⟩
  F__law_plus := ⟨_, _, fun_mk (st := st__law_plus) l__law_plus c__law_plus k__law_plus, PySem.W.mg_of X G a__law_plus⟩
  F__law_times := ⟨_, _, fun_mk (st := st__law_times) l__law_times c__law_times k__law_times, PySem.W.mg_of X G a__law_times⟩
  F__law_direction := ⟨_, _, fun_mk (st := st__law_direction) l__law_direction c__law_direction k__law_direction, PySem.W.mg_of X G a__law_direction⟩
  F__law_any_pose := ⟨_, _, fun_mk (st := st__law_any_pose) l__law_any_pose c__law_any_pose k__law_any_pose, PySem.W.mg_of X G a__law_any_pose⟩
  F_is_place := ⟨_, _, fun_mk (st := st_is_place) l_is_place c_is_place k_is_place, PySem.W.mg_of X G a_is_place⟩
  F_check_place := ⟨_, _, fun_mk (st := st_check_place) l_check_place c_check_place k_check_place, PySem.W.mg_of X G a_check_place⟩
  F_lowest_terms := ⟨_, _, fun_mk (st := st_lowest_terms) l_lowest_terms c_lowest_terms k_lowest_terms, PySem.W.mg_of X G a_lowest_terms⟩
  F_plus := ⟨_, _, fun_mk (st := st_plus) l_plus c_plus k_plus, PySem.W.mg_of X G a_plus⟩
  F_join_rows := ⟨_, _, fun_mk (st := st_join_rows) l_join_rows c_join_rows k_join_rows, PySem.W.mg_of X G a_join_rows⟩
  F_row_at := ⟨_, _, fun_mk (st := st_row_at) l_row_at c_row_at k_row_at, PySem.W.mg_of X G a_row_at⟩
  G_Arms__hinge_row := ⟨CO_Arms, f_Arms__hinge_row, _, PySem.W.mg_of X G ao_Arms, ⟨pg_Arms, hdo_Arms, po_Arms, sao_Arms⟩, ⟨at_Arms__hinge_row, fn_Arms__hinge_row, k_Arms__hinge_row⟩, fun_mk (st := st_Arms__hinge_row) l_Arms__hinge_row c_Arms__hinge_row k_Arms__hinge_row⟩
  G_Arms__row_of := ⟨CO_Arms, f_Arms__row_of, _, PySem.W.mg_of X G ao_Arms, ⟨pg_Arms, hdo_Arms, po_Arms, sao_Arms⟩, ⟨at_Arms__row_of, fn_Arms__row_of, k_Arms__row_of⟩, fun_mk (st := st_Arms__row_of) l_Arms__row_of c_Arms__row_of k_Arms__row_of⟩
  F_times := ⟨_, _, fun_mk (st := st_times) l_times c_times k_times, PySem.W.mg_of X G a_times⟩
  F_dot_of := ⟨_, _, fun_mk (st := st_dot_of) l_dot_of c_dot_of k_dot_of, PySem.W.mg_of X G a_dot_of⟩
  F_is_spot := ⟨_, _, fun_mk (st := st_is_spot) l_is_spot c_is_spot k_is_spot, PySem.W.mg_of X G a_is_spot⟩
  F_is_direction := ⟨_, _, fun_mk (st := st_is_direction) l_is_direction c_is_direction k_is_direction, PySem.W.mg_of X G a_is_direction⟩
  F_first_wrong := ⟨_, _, fun_mk (st := st_first_wrong) l_first_wrong c_first_wrong k_first_wrong, PySem.W.mg_of X G a_first_wrong⟩
  F_check_pose := ⟨_, _, fun_mk (st := st_check_pose) l_check_pose c_check_pose k_check_pose, PySem.W.mg_of X G a_check_pose⟩
  F_sum_of := ⟨_, _, fun_mk (st := st_sum_of) l_sum_of c_sum_of k_sum_of, PySem.W.mg_of X G a_sum_of⟩
  F_product_of := ⟨_, _, fun_mk (st := st_product_of) l_product_of c_product_of k_product_of, PySem.W.mg_of X G a_product_of⟩
  F_spot_by := ⟨_, _, fun_mk (st := st_spot_by) l_spot_by c_spot_by k_spot_by, PySem.W.mg_of X G a_spot_by⟩
  F_place_at := ⟨_, _, fun_mk (st := st_place_at) l_place_at c_place_at k_place_at, PySem.W.mg_of X G a_place_at⟩
  F_height_at := ⟨_, _, fun_mk (st := st_height_at) l_height_at c_height_at k_height_at, PySem.W.mg_of X G a_height_at⟩
  F_hinges_at := ⟨_, _, fun_mk (st := st_hinges_at) l_hinges_at c_hinges_at k_hinges_at, PySem.W.mg_of X G a_hinges_at⟩
  F_minus := ⟨_, _, fun_mk (st := st_minus) l_minus c_minus k_minus, PySem.W.mg_of X G a_minus⟩
  F_take_row := ⟨_, _, fun_mk (st := st_take_row) l_take_row c_take_row k_take_row, PySem.W.mg_of X G a_take_row⟩
  G_Arms__difference_row := ⟨CO_Arms, f_Arms__difference_row, _, PySem.W.mg_of X G ao_Arms, ⟨pg_Arms, hdo_Arms, po_Arms, sao_Arms⟩, ⟨at_Arms__difference_row, fn_Arms__difference_row, k_Arms__difference_row⟩, fun_mk (st := st_Arms__difference_row) l_Arms__difference_row c_Arms__difference_row k_Arms__difference_row⟩
  F_square_by := ⟨_, _, fun_mk (st := st_square_by) l_square_by c_square_by k_square_by, PySem.W.mg_of X G a_square_by⟩
  F_square_between := ⟨_, _, fun_mk (st := st_square_between) l_square_between c_square_between k_square_between, PySem.W.mg_of X G a_square_between⟩
  F__law_called := ⟨_, _, fun_mk (st := st__law_called) l__law_called c__law_called k__law_called, PySem.W.mg_of X G a__law_called⟩
  F__law_form := ⟨_, _, fun_mk (st := st__law_form) l__law_form c__law_form k__law_form, PySem.W.mg_of X G a__law_form⟩
  F__law_is_ratio := ⟨_, _, fun_mk (st := st__law_is_ratio) l__law_is_ratio c__law_is_ratio k__law_is_ratio, PySem.W.mg_of X G a__law_is_ratio⟩
  F__law_is_place := ⟨_, _, fun_mk (st := st__law_is_place) l__law_is_place c__law_is_place k__law_is_place, PySem.W.mg_of X G a__law_is_place⟩
  F__law_stand := ⟨_, _, fun_mk (st := st__law_stand) l__law_stand c__law_stand k__law_stand, PySem.W.mg_of X G a__law_stand⟩
  F__law_gap := ⟨_, _, fun_mk (st := st__law_gap) l__law_gap c__law_gap k__law_gap, PySem.W.mg_of X G a__law_gap⟩
  F__law_same := ⟨_, _, fun_mk (st := st__law_same) l__law_same c__law_same k__law_same, PySem.W.mg_of X G a__law_same⟩
  F__law_same_row := ⟨_, _, fun_mk (st := st__law_same_row) l__law_same_row c__law_same_row k__law_same_row, PySem.W.mg_of X G a__law_same_row⟩
  F__law_same_rows := ⟨_, _, fun_mk (st := st__law_same_rows) l__law_same_rows c__law_same_rows k__law_same_rows, PySem.W.mg_of X G a__law_same_rows⟩
  F__law_square := ⟨_, _, fun_mk (st := st__law_square) l__law_square c__law_square k__law_square, PySem.W.mg_of X G a__law_square⟩
  F__law_right := ⟨_, _, fun_mk (st := st__law_right) l__law_right c__law_right k__law_right, PySem.W.mg_of X G a__law_right⟩
  F__law_asked := ⟨_, _, fun_mk (st := st__law_asked) l__law_asked c__law_asked k__law_asked, PySem.W.mg_of X G a__law_asked⟩
  F__law_most := ⟨_, _, fun_mk (st := st__law_most) l__law_most c__law_most k__law_most, PySem.W.mg_of X G a__law_most⟩
  F__law_mark := ⟨_, _, fun_mk (st := st__law_mark) l__law_mark c__law_mark k__law_mark, PySem.W.mg_of X G a__law_mark⟩
  F__law_wide := ⟨_, _, fun_mk (st := st__law_wide) l__law_wide c__law_wide k__law_wide, PySem.W.mg_of X G a__law_wide⟩
  F__law_any_place := ⟨_, _, fun_mk (st := st__law_any_place) l__law_any_place c__law_any_place k__law_any_place, PySem.W.mg_of X G a__law_any_place⟩
  F__law_odd := ⟨_, _, fun_mk (st := st__law_odd) l__law_odd c__law_odd k__law_odd, PySem.W.mg_of X G a__law_odd⟩
  F__law_some_place := ⟨_, _, fun_mk (st := st__law_some_place) l__law_some_place c__law_some_place k__law_some_place, PySem.W.mg_of X G a__law_some_place⟩
  F__law_world := ⟨_, _, fun_mk (st := st__law_world) l__law_world c__law_world k__law_world, PySem.W.mg_of X G a__law_world⟩
  F_law := ⟨_, _, fun_mk (st := st_law) l_law c_law k_law, PySem.W.mg_of X G a_law⟩
  X_BadArms := ⟨C_BadArms, f_BadArms, _, PySem.W.mg_of X G a_BadArms, ⟨⟨_, _, _, _, _, _, _, _, _, _, _, _, _, _, _, x_BadArms, r_BadArms⟩, sa_BadArms, ex_BadArms, ty_BadArms, k_BadArms⟩, fun f hf => by simp only [List.mem_cons, List.not_mem_nil, or_false] at hf; rcases hf with rfl | rfl; exact n_index_BadArms; exact n_what_BadArms, i_BadArms, ti_BadArms, fun_mk (st := st_BadArms) l_BadArms c_BadArms ki_BadArms, PySem.W.exm_ref ex_BadArms hd_BadArms ty_BadArms se_BadArms, ⟨ga_BadArms, gg_BadArms, ex_BadArms, hd_BadArms⟩⟩
  X_BadPose := ⟨C_BadPose, f_BadPose, _, PySem.W.mg_of X G a_BadPose, ⟨⟨_, _, _, _, _, _, _, _, _, _, _, _, _, _, _, x_BadPose, r_BadPose⟩, sa_BadPose, ex_BadPose, ty_BadPose, k_BadPose⟩, fun f hf => by simp only [List.mem_cons, List.not_mem_nil, or_false] at hf; subst hf; exact n_index_BadPose, i_BadPose, ti_BadPose, fun_mk (st := st_BadPose) l_BadPose c_BadPose ki_BadPose, PySem.W.exm_ref ex_BadPose hd_BadPose ty_BadPose se_BadPose, ⟨ga_BadPose, gg_BadPose, ex_BadPose, hd_BadPose⟩⟩
  X_NoBar := ⟨C_NoBar, f_NoBar, _, PySem.W.mg_of X G a_NoBar, ⟨⟨_, _, _, _, _, _, _, _, _, _, _, _, _, _, _, x_NoBar, r_NoBar⟩, sa_NoBar, ex_NoBar, ty_NoBar, k_NoBar⟩, fun f hf => by simp only [List.mem_cons, List.not_mem_nil, or_false] at hf; subst hf; exact n_number_NoBar, i_NoBar, ti_NoBar, fun_mk (st := st_NoBar) l_NoBar c_NoBar ki_NoBar, PySem.W.exm_ref ex_NoBar hd_NoBar ty_NoBar se_NoBar, ⟨ga_NoBar, gg_NoBar, ex_NoBar, hd_NoBar⟩⟩
  Q_BadPlace := by
      intro c' hc
      simp only [List.mem_cons, List.not_mem_nil, or_false] at hc
      rcases hc with rfl | rfl
      · intro C C' e e'
        cases (PySem.W.mg_of X G ya_BadPose).symm.trans e
        cases (PySem.W.mg_of X G ya_BadPlace).symm.trans e'
        exact PySem.W.exm_ref ysb_BadPlace yhd_BadPlace yty_BadPlace ys_BadPose_BadPlace
      · intro C C' e e'
        cases (PySem.W.mg_of X G ya_BadPlace).symm.trans e
        cases (PySem.W.mg_of X G ya_BadPlace).symm.trans e'
        exact PySem.W.exm_ref ysb_BadPlace yhd_BadPlace yty_BadPlace ys_BadPlace_BadPlace
  Q_BadPose := by
      intro c' hc
      simp only [List.mem_cons, List.not_mem_nil, or_false] at hc
      rcases hc with rfl | rfl
      · intro C C' e e'
        cases (PySem.W.mg_of X G ya_BadPose).symm.trans e
        cases (PySem.W.mg_of X G ya_BadPose).symm.trans e'
        exact PySem.W.exm_ref ysb_BadPose yhd_BadPose yty_BadPose ys_BadPose_BadPose
      · intro C C' e e'
        cases (PySem.W.mg_of X G ya_BadPlace).symm.trans e
        cases (PySem.W.mg_of X G ya_BadPose).symm.trans e'
        exact PySem.W.exm_ref ysb_BadPose yhd_BadPose yty_BadPose ys_BadPlace_BadPose
  M_BadPlace := ⟨Cy_BadPlace, PySem.W.mg_of X G ya_BadPlace⟩
  M_BadPose := ⟨Cy_BadPose, PySem.W.mg_of X G ya_BadPose⟩
  A_bars := by
      intro c' hc
      simp only [List.mem_cons, List.not_mem_nil, or_false] at hc
      rcases hc with rfl
      · intro C e
        cases (PySem.W.mg_of X G ao_Arms).symm.trans e
        exact ⟨⟨pg_Arms, hdo_Arms, po_Arms, sao_Arms⟩, na_Arms_bars⟩
  A_letters := by
      intro c' hc
      simp only [List.mem_cons, List.not_mem_nil, or_false] at hc
      rcases hc with rfl
      · intro C e
        cases (PySem.W.mg_of X G ao_Arms).symm.trans e
        exact ⟨⟨pg_Arms, hdo_Arms, po_Arms, sao_Arms⟩, na_Arms_letters⟩
  T0_BadPlace := ⟨Cy_BadPlace, _, _, _, _, PySem.W.mg_of X G ya_BadPlace, PySem.F.excBase_ValueError, yex_BadPlace, yk_BadPlace, ysb_BadPlace, yty_BadPlace⟩
  g_MAST := ⟨_, PySem.W.mg_of X G g_MAST⟩
  g_MOST_BARS := ⟨_, PySem.W.mg_of X G g_MOST_BARS⟩
  g_MOST_LETTERS := ⟨_, PySem.W.mg_of X G g_MOST_LETTERS⟩
  g_ONE := ⟨Z_ONE, PySem.W.mg_of X G g_ONE, rat_den q_ONE⟩
  g_ZERO := ⟨Z_ZERO, PySem.W.mg_of X G g_ZERO, rat_den q_ZERO⟩
  i_gcd := PySem.W.mg_of X G i_gcd
  z_abs := PySem.W.mg_none_of X G z_abs
  z_all := PySem.W.mg_none_of X G z_all
  z_bool := PySem.W.mg_none_of X G z_bool
  z_enumerate := PySem.W.mg_none_of X G z_enumerate
  z_int := PySem.W.mg_none_of X G z_int
  z_isinstance := PySem.W.mg_none_of X G z_isinstance
  z_len := PySem.W.mg_none_of X G z_len
  z_list := PySem.W.mg_none_of X G z_list
  z_max := PySem.W.mg_none_of X G z_max
  z_min := PySem.W.mg_none_of X G z_min
  z_range := PySem.W.mg_none_of X G z_range
  z_repr := PySem.W.mg_none_of X G z_repr
  z_tuple := PySem.W.mg_none_of X G z_tuple
  z_zip := PySem.W.mg_none_of X G z_zip
theorem law_mk {l : PySem.W.OpenLaw} {w : World} {K : Frag} {mg : Str → Option Value} {fa : Addr} (T : Txt K mg) (hfa : mg "law" = some (.ref fa)) (M : ∀ s : Hd, ∃ s' : Hd, b_law (lawE 6) s = .ok (.rt (.bl true)) s') :
    ∃ fd : FuncData, (∀ (s : Shared) (v : Value), BindsTo s fd ⟨[v], []⟩ [("_law_script", v)]) ∧ ∀ base : Heap, K.In base → base.Ns mainGlobals mg → FnG l.prog w K mg base 25 fa fd ["_law_script"] (spLaw K) := by
  obtain ⟨f, fd, F, hm⟩ := T.F_law
  have e := hfa.symm.trans hm
  cases e
  refine ⟨fd, fun s v => ?_, fun base _ _ => ?_⟩
  · obtain ⟨oc, od, kV, doc, pm, an, cdv, ct, osl, rfl, _, _⟩ := F.ex
    exact .of_eq rfl
  · have C__law_take := c__law_take (P := l.prog) (w := w) (base := base) T
    have C_is_whole_1 := c_is_whole_1 (P := l.prog) (w := w) (base := base) T 
    have C_is_whole_2 := c_is_whole_2 (P := l.prog) (w := w) (base := base) T 
    have C_is_whole := c_is_whole (P := l.prog) (w := w) (base := base) T 
    have C_is_ratio := c_is_ratio (P := l.prog) (w := w) (base := base) T C_is_whole_1 C_is_whole_2
    have C_is_row_1 := c_is_row_1 (P := l.prog) (w := w) (base := base) T 
    have C_is_row := c_is_row (P := l.prog) (w := w) (base := base) T 
    have C__check_bar := c__check_bar (P := l.prog) (w := w) (base := base) T C_is_ratio C_is_row C_is_whole
    have C__check_bars := c__check_bars (P := l.prog) (w := w) (base := base) T C__check_bar C_is_row
    have C__count_letters := c__count_letters (P := l.prog) (w := w) (base := base) T 
    have C_Arms____init__ := c_Arms____init__ (P := l.prog) (w := w) (base := base) T C__check_bars C__count_letters
    have C__law_gcd := c__law_gcd (P := l.prog) (w := w) (base := base) T 
    have C__law_ratio := c__law_ratio (P := l.prog) (w := w) (base := base) T C__law_gcd
    have C__law_half := c__law_half (P := l.prog) (w := w) (base := base) T C__law_ratio C__law_take
    have C__law_any_half := c__law_any_half (P := l.prog) (w := w) (base := base) T C__law_half C__law_ratio C__law_take
    have C__law_less := c__law_less (P := l.prog) (w := w) (base := base) T C__law_ratio
    have C__law_over := c__law_over (P := l.prog) (w := w) (base := base) T C__law_ratio
    have C__law_plus := c__law_plus (P := l.prog) (w := w) (base := base) T C__law_ratio
    have C__law_times := c__law_times (P := l.prog) (w := w) (base := base) T C__law_ratio
    have C__law_direction := c__law_direction (P := l.prog) (w := w) (base := base) T C__law_less C__law_over C__law_plus C__law_times
    have C__law_any_pose := c__law_any_pose (P := l.prog) (w := w) (base := base) T C__law_any_half C__law_direction
    have C_is_place := c_is_place (P := l.prog) (w := w) (base := base) T C_is_ratio C_is_row C_is_whole
    have C_check_place := c_check_place (P := l.prog) (w := w) (base := base) T C_is_place
    have C_lowest_terms := c_lowest_terms (P := l.prog) (w := w) (base := base) T 
    have C_plus := c_plus (P := l.prog) (w := w) (base := base) T C_lowest_terms
    have C_join_rows := c_join_rows (P := l.prog) (w := w) (base := base) T C_plus
    have C_row_at := c_row_at (P := l.prog) (w := w) (base := base) T 
    have C_Arms__hinge_row := c_Arms__hinge_row (P := l.prog) (w := w) (base := base) T C_is_whole C_check_place C_join_rows C_row_at
    have C_Arms__row_of := c_Arms__row_of (P := l.prog) (w := w) (base := base) T C_is_whole C_check_place C_join_rows C_row_at
    have C_times := c_times (P := l.prog) (w := w) (base := base) T C_lowest_terms
    have C_dot_of := c_dot_of (P := l.prog) (w := w) (base := base) T C_plus C_times
    have C_is_spot := c_is_spot (P := l.prog) (w := w) (base := base) T C_is_ratio C_is_row
    have C_is_direction := c_is_direction (P := l.prog) (w := w) (base := base) T C_dot_of C_is_spot
    have C_first_wrong := c_first_wrong (P := l.prog) (w := w) (base := base) T C_is_direction C_is_row_1
    have C_check_pose := c_check_pose (P := l.prog) (w := w) (base := base) T C_first_wrong C_is_direction
    have C_sum_of := c_sum_of (P := l.prog) (w := w) (base := base) T C_plus
    have C_product_of := c_product_of (P := l.prog) (w := w) (base := base) T C_sum_of C_times
    have C_spot_by := c_spot_by (P := l.prog) (w := w) (base := base) T C_plus C_product_of
    have C_place_at := c_place_at (P := l.prog) (w := w) (base := base) T C_check_pose C_spot_by C_Arms__row_of
    have C_height_at := c_height_at (P := l.prog) (w := w) (base := base) T C_place_at
    have C_hinges_at := c_hinges_at (P := l.prog) (w := w) (base := base) T C_check_pose C_spot_by C_Arms__hinge_row
    have C_minus := c_minus (P := l.prog) (w := w) (base := base) T C_lowest_terms
    have C_take_row := c_take_row (P := l.prog) (w := w) (base := base) T C_minus
    have C_Arms__difference_row := c_Arms__difference_row (P := l.prog) (w := w) (base := base) T C_take_row C_Arms__row_of
    have C_square_by := c_square_by (P := l.prog) (w := w) (base := base) T C_dot_of C_spot_by
    have C_square_between := c_square_between (P := l.prog) (w := w) (base := base) T C_check_pose C_square_by C_Arms__difference_row
    have C__law_called := c__law_called (P := l.prog) (w := w) (base := base) T C_height_at C_hinges_at C_place_at C_square_between
    have C__law_form := c__law_form (P := l.prog) (w := w) (base := base) T C__law_take
    have C__law_is_ratio := c__law_is_ratio (P := l.prog) (w := w) (base := base) T C__law_gcd
    have C__law_is_place := c__law_is_place (P := l.prog) (w := w) (base := base) T C__law_is_ratio
    have C__law_stand := c__law_stand (P := l.prog) (w := w) (base := base) T C__law_plus C__law_times
    have C__law_gap := c__law_gap (P := l.prog) (w := w) (base := base) T C__law_less C__law_stand
    have C__law_same := c__law_same (P := l.prog) (w := w) (base := base) T 
    have C__law_same_row := c__law_same_row (P := l.prog) (w := w) (base := base) T C__law_same
    have C__law_same_rows := c__law_same_rows (P := l.prog) (w := w) (base := base) T C__law_same_row
    have C__law_square := c__law_square (P := l.prog) (w := w) (base := base) T C__law_plus C__law_times
    have C__law_right := c__law_right (P := l.prog) (w := w) (base := base) T C__law_gap C__law_same C__law_same_row C__law_same_rows C__law_square C__law_stand
    have C__law_asked := c__law_asked (P := l.prog) (w := w) (base := base) T C__law_called C__law_form C__law_is_place C__law_right C__law_take
    have C__law_most := c__law_most (P := l.prog) (w := w) (base := base) T 
    have C__law_mark := c__law_mark (P := l.prog) (w := w) (base := base) T C__law_ratio C__law_take
    have C__law_wide := c__law_wide (P := l.prog) (w := w) (base := base) T C__law_mark C__law_ratio C__law_take
    have C__law_any_place := c__law_any_place (P := l.prog) (w := w) (base := base) T C__law_take C__law_wide
    have C__law_odd := c__law_odd (P := l.prog) (w := w) (base := base) T C__law_take
    have C__law_some_place := c__law_some_place (P := l.prog) (w := w) (base := base) T C__law_any_place C__law_form C__law_odd C__law_ratio C__law_take
    have C__law_world := c__law_world (P := l.prog) (w := w) (base := base) T C__law_take C__law_wide
    exact f_law T C__law_any_pose C__law_asked C__law_form C__law_most C__law_some_place C__law_world C_Arms____init__ M F
end Law
open PySem PySem.W PyProof.Rows
set_option maxRecDepth 100000 in
set_option maxHeartbeats 0 in
theorem PySem.Challenge.cw_stillarms_k12_whole_spots_of_places_in_p_holds : PySem.Challenge.rw_stillarms_k12_whole_spots_of_places_in_p.Holds := by
  w_on; o_law; k_head; (case hw => w_witness2)
  k_fill
  refine Mir.walk_ofG (l := PySem.Challenge.rw_stillarms_k12_whole_spots_of_places_in_p) (n := 63) (k := 25) (x := "_law_script") (sp := fun w => Mir.spLaw _) rfl (by decide) rfl ⟨rfl, by decide, by decide⟩ (fun w h Y => PySem.W.kIn_of Y) ?F (fun _ _ a ns hl _ hS => ⟨a, ns, rfl, hS, hl, fun _ => rfl⟩)
  case F =>
    intro w mg fa h KX G hmg
    refine' Law.law_mk (Law.txt_mk KX G ?a__law_hand ?l__law_hand ?c__law_hand ?k__law_hand ?a__law_take ?l__law_take ?c__law_take ?k__law_take ?a_is_whole ?l_is_whole ?c_is_whole ?k_is_whole ?e_is_whole ?a_is_ratio ?l_is_ratio ?c_is_ratio ?k_is_ratio ?a_is_row ?l_is_row ?c_is_row ?k_is_row ?e_is_row ?a__check_bar ?l__check_bar ?c__check_bar ?k__check_bar ?a__check_bars ?l__check_bars ?c__check_bars ?k__check_bars ?a__count_letters ?l__count_letters ?c__count_letters ?k__count_letters ?ao_Arms ?pg_Arms ?hdo_Arms ?po_Arms ?sao_Arms ?at_Arms____init__ ?fn_Arms____init__ ?l_Arms____init__ ?c_Arms____init__ ?k_Arms____init__ ?mk_Arms____init__ ?kc_Arms____init__ ?a__law_gcd ?l__law_gcd ?c__law_gcd ?k__law_gcd ?a__law_ratio ?l__law_ratio ?c__law_ratio ?k__law_ratio ?a__law_half ?l__law_half ?c__law_half ?k__law_half ?a__law_any_half ?l__law_any_half ?c__law_any_half ?k__law_any_half ?a__law_less ?l__law_less ?c__law_less ?k__law_less ?a__law_over ?l__law_over ?c__law_over ?k__law_over ?a__law_plus ?l__law_plus ?c__law_plus ?k__law_plus ?a__law_times ?l__law_times ?c__law_times ?k__law_times ?a__law_direction ?l__law_direction ?c__law_direction ?k__law_direction ?a__law_any_pose ?l__law_any_pose ?c__law_any_pose ?k__law_any_pose ?a_is_place ?l_is_place ?c_is_place ?k_is_place ?a_check_place ?l_check_place ?c_check_place ?k_check_place ?a_lowest_terms ?l_lowest_terms ?c_lowest_terms ?k_lowest_terms ?a_plus ?l_plus ?c_plus ?k_plus ?a_join_rows ?l_join_rows ?c_join_rows ?k_join_rows ?a_row_at ?l_row_at ?c_row_at ?k_row_at ?at_Arms__hinge_row ?fn_Arms__hinge_row ?l_Arms__hinge_row ?c_Arms__hinge_row ?k_Arms__hinge_row ?at_Arms__row_of ?fn_Arms__row_of ?l_Arms__row_of ?c_Arms__row_of ?k_Arms__row_of ?a_times ?l_times ?c_times ?k_times ?a_dot_of ?l_dot_of ?c_dot_of ?k_dot_of ?a_is_spot ?l_is_spot ?c_is_spot ?k_is_spot ?a_is_direction ?l_is_direction ?c_is_direction ?k_is_direction ?a_first_wrong ?l_first_wrong ?c_first_wrong ?k_first_wrong ?a_check_pose ?l_check_pose ?c_check_pose ?k_check_pose ?a_sum_of ?l_sum_of ?c_sum_of ?k_sum_of ?a_product_of ?l_product_of ?c_product_of ?k_product_of ?a_spot_by ?l_spot_by ?c_spot_by ?k_spot_by ?a_place_at ?l_place_at ?c_place_at ?k_place_at ?a_height_at ?l_height_at ?c_height_at ?k_height_at ?a_hinges_at ?l_hinges_at ?c_hinges_at ?k_hinges_at ?a_minus ?l_minus ?c_minus ?k_minus ?a_take_row ?l_take_row ?c_take_row ?k_take_row ?at_Arms__difference_row ?fn_Arms__difference_row ?l_Arms__difference_row ?c_Arms__difference_row ?k_Arms__difference_row ?a_square_by ?l_square_by ?c_square_by ?k_square_by ?a_square_between ?l_square_between ?c_square_between ?k_square_between ?a__law_called ?l__law_called ?c__law_called ?k__law_called ?a__law_form ?l__law_form ?c__law_form ?k__law_form ?a__law_is_ratio ?l__law_is_ratio ?c__law_is_ratio ?k__law_is_ratio ?a__law_is_place ?l__law_is_place ?c__law_is_place ?k__law_is_place ?a__law_stand ?l__law_stand ?c__law_stand ?k__law_stand ?a__law_gap ?l__law_gap ?c__law_gap ?k__law_gap ?a__law_same ?l__law_same ?c__law_same ?k__law_same ?a__law_same_row ?l__law_same_row ?c__law_same_row ?k__law_same_row ?a__law_same_rows ?l__law_same_rows ?c__law_same_rows ?k__law_same_rows ?a__law_square ?l__law_square ?c__law_square ?k__law_square ?a__law_right ?l__law_right ?c__law_right ?k__law_right ?a__law_asked ?l__law_asked ?c__law_asked ?k__law_asked ?a__law_most ?l__law_most ?c__law_most ?k__law_most ?a__law_mark ?l__law_mark ?c__law_mark ?k__law_mark ?a__law_wide ?l__law_wide ?c__law_wide ?k__law_wide ?a__law_any_place ?l__law_any_place ?c__law_any_place ?k__law_any_place ?a__law_odd ?l__law_odd ?c__law_odd ?k__law_odd ?a__law_some_place ?l__law_some_place ?c__law_some_place ?k__law_some_place ?a__law_world ?l__law_world ?c__law_world ?k__law_world ?a_law ?l_law ?c_law ?k_law ?a_BadArms ?x_BadArms ?r_BadArms ?sa_BadArms ?ga_BadArms ?gg_BadArms ?n_index_BadArms ?n_what_BadArms ?i_BadArms ?ti_BadArms ?l_BadArms ?c_BadArms ?ki_BadArms ?k_BadArms ?ex_BadArms ?ty_BadArms ?hd_BadArms ?se_BadArms ?a_BadPose ?x_BadPose ?r_BadPose ?sa_BadPose ?ga_BadPose ?gg_BadPose ?n_index_BadPose ?i_BadPose ?ti_BadPose ?l_BadPose ?c_BadPose ?ki_BadPose ?k_BadPose ?ex_BadPose ?ty_BadPose ?hd_BadPose ?se_BadPose ?a_NoBar ?x_NoBar ?r_NoBar ?sa_NoBar ?ga_NoBar ?gg_NoBar ?n_number_NoBar ?i_NoBar ?ti_NoBar ?l_NoBar ?c_NoBar ?ki_NoBar ?k_NoBar ?ex_NoBar ?ty_NoBar ?hd_NoBar ?se_NoBar ?ya_BadPlace ?ysb_BadPlace ?yty_BadPlace ?yhd_BadPlace ?ya_BadPose ?ysb_BadPose ?yty_BadPose ?yhd_BadPose ?ys_BadPose_BadPlace ?ys_BadPlace_BadPlace ?ys_BadPose_BadPose ?ys_BadPlace_BadPose ?na_Arms_bars ?na_Arms_letters ?yex_BadPlace ?yk_BadPlace ?g_MAST ?g_MOST_BARS ?g_MOST_LETTERS ?g_ONE ?q_ONE ?g_ZERO ?q_ZERO ?i_gcd ?z_abs ?z_all ?z_bool ?z_enumerate ?z_int ?z_isinstance ?z_len ?z_list ?z_max ?z_min ?z_range ?z_repr ?z_tuple ?z_zip) hmg Law.math
    (case a__law_hand => k_is)
    (case l__law_hand => k_is)
    (case c__law_hand => k_is)
    (case k__law_hand => k_is)
    (case a__law_take => k_is)
    (case l__law_take => k_is)
    (case c__law_take => k_is)
    (case k__law_take => k_is)
    (case a_is_whole => k_is)
    (case l_is_whole => k_is)
    (case c_is_whole => k_is)
    (case k_is_whole => k_is)
    (case e_is_whole => k_is)
    (case a_is_ratio => k_is)
    (case l_is_ratio => k_is)
    (case c_is_ratio => k_is)
    (case k_is_ratio => k_is)
    (case a_is_row => k_is)
    (case l_is_row => k_is)
    (case c_is_row => k_is)
    (case k_is_row => k_is)
    (case e_is_row => k_is)
    (case a__check_bar => k_is)
    (case l__check_bar => k_is)
    (case c__check_bar => k_is)
    (case k__check_bar => k_is)
    (case a__check_bars => k_is)
    (case l__check_bars => k_is)
    (case c__check_bars => k_is)
    (case k__check_bars => k_is)
    (case a__count_letters => k_is)
    (case l__count_letters => k_is)
    (case c__count_letters => k_is)
    (case k__count_letters => k_is)
    (case ao_Arms => k_is)
    (case pg_Arms => k_is)
    (case hdo_Arms => k_is)
    (case po_Arms => k_is)
    (case sao_Arms => k_is)
    (case at_Arms____init__ => k_is)
    (case fn_Arms____init__ => k_is)
    (case l_Arms____init__ => k_is)
    (case c_Arms____init__ => k_is)
    (case k_Arms____init__ => k_is)
    (case mk_Arms____init__ => k_is)
    (case kc_Arms____init__ => k_is)
    (case a__law_gcd => k_is)
    (case l__law_gcd => k_is)
    (case c__law_gcd => k_is)
    (case k__law_gcd => k_is)
    (case a__law_ratio => k_is)
    (case l__law_ratio => k_is)
    (case c__law_ratio => k_is)
    (case k__law_ratio => k_is)
    (case a__law_half => k_is)
    (case l__law_half => k_is)
    (case c__law_half => k_is)
    (case k__law_half => k_is)
    (case a__law_any_half => k_is)
    (case l__law_any_half => k_is)
    (case c__law_any_half => k_is)
    (case k__law_any_half => k_is)
    (case a__law_less => k_is)
    (case l__law_less => k_is)
    (case c__law_less => k_is)
    (case k__law_less => k_is)
    (case a__law_over => k_is)
    (case l__law_over => k_is)
    (case c__law_over => k_is)
    (case k__law_over => k_is)
    (case a__law_plus => k_is)
    (case l__law_plus => k_is)
    (case c__law_plus => k_is)
    (case k__law_plus => k_is)
    (case a__law_times => k_is)
    (case l__law_times => k_is)
    (case c__law_times => k_is)
    (case k__law_times => k_is)
    (case a__law_direction => k_is)
    (case l__law_direction => k_is)
    (case c__law_direction => k_is)
    (case k__law_direction => k_is)
    (case a__law_any_pose => k_is)
    (case l__law_any_pose => k_is)
    (case c__law_any_pose => k_is)
    (case k__law_any_pose => k_is)
    (case a_is_place => k_is)
    (case l_is_place => k_is)
    (case c_is_place => k_is)
    (case k_is_place => k_is)
    (case a_check_place => k_is)
    (case l_check_place => k_is)
    (case c_check_place => k_is)
    (case k_check_place => k_is)
    (case a_lowest_terms => k_is)
    (case l_lowest_terms => k_is)
    (case c_lowest_terms => k_is)
    (case k_lowest_terms => k_is)
    (case a_plus => k_is)
    (case l_plus => k_is)
    (case c_plus => k_is)
    (case k_plus => k_is)
    (case a_join_rows => k_is)
    (case l_join_rows => k_is)
    (case c_join_rows => k_is)
    (case k_join_rows => k_is)
    (case a_row_at => k_is)
    (case l_row_at => k_is)
    (case c_row_at => k_is)
    (case k_row_at => k_is)
    (case at_Arms__hinge_row => k_is)
    (case fn_Arms__hinge_row => k_is)
    (case l_Arms__hinge_row => k_is)
    (case c_Arms__hinge_row => k_is)
    (case k_Arms__hinge_row => k_is)
    (case at_Arms__row_of => k_is)
    (case fn_Arms__row_of => k_is)
    (case l_Arms__row_of => k_is)
    (case c_Arms__row_of => k_is)
    (case k_Arms__row_of => k_is)
    (case a_times => k_is)
    (case l_times => k_is)
    (case c_times => k_is)
    (case k_times => k_is)
    (case a_dot_of => k_is)
    (case l_dot_of => k_is)
    (case c_dot_of => k_is)
    (case k_dot_of => k_is)
    (case a_is_spot => k_is)
    (case l_is_spot => k_is)
    (case c_is_spot => k_is)
    (case k_is_spot => k_is)
    (case a_is_direction => k_is)
    (case l_is_direction => k_is)
    (case c_is_direction => k_is)
    (case k_is_direction => k_is)
    (case a_first_wrong => k_is)
    (case l_first_wrong => k_is)
    (case c_first_wrong => k_is)
    (case k_first_wrong => k_is)
    (case a_check_pose => k_is)
    (case l_check_pose => k_is)
    (case c_check_pose => k_is)
    (case k_check_pose => k_is)
    (case a_sum_of => k_is)
    (case l_sum_of => k_is)
    (case c_sum_of => k_is)
    (case k_sum_of => k_is)
    (case a_product_of => k_is)
    (case l_product_of => k_is)
    (case c_product_of => k_is)
    (case k_product_of => k_is)
    (case a_spot_by => k_is)
    (case l_spot_by => k_is)
    (case c_spot_by => k_is)
    (case k_spot_by => k_is)
    (case a_place_at => k_is)
    (case l_place_at => k_is)
    (case c_place_at => k_is)
    (case k_place_at => k_is)
    (case a_height_at => k_is)
    (case l_height_at => k_is)
    (case c_height_at => k_is)
    (case k_height_at => k_is)
    (case a_hinges_at => k_is)
    (case l_hinges_at => k_is)
    (case c_hinges_at => k_is)
    (case k_hinges_at => k_is)
    (case a_minus => k_is)
    (case l_minus => k_is)
    (case c_minus => k_is)
    (case k_minus => k_is)
    (case a_take_row => k_is)
    (case l_take_row => k_is)
    (case c_take_row => k_is)
    (case k_take_row => k_is)
    (case at_Arms__difference_row => k_is)
    (case fn_Arms__difference_row => k_is)
    (case l_Arms__difference_row => k_is)
    (case c_Arms__difference_row => k_is)
    (case k_Arms__difference_row => k_is)
    (case a_square_by => k_is)
    (case l_square_by => k_is)
    (case c_square_by => k_is)
    (case k_square_by => k_is)
    (case a_square_between => k_is)
    (case l_square_between => k_is)
    (case c_square_between => k_is)
    (case k_square_between => k_is)
    (case a__law_called => k_is)
    (case l__law_called => k_is)
    (case c__law_called => k_is)
    (case k__law_called => k_is)
    (case a__law_form => k_is)
    (case l__law_form => k_is)
    (case c__law_form => k_is)
    (case k__law_form => k_is)
    (case a__law_is_ratio => k_is)
    (case l__law_is_ratio => k_is)
    (case c__law_is_ratio => k_is)
    (case k__law_is_ratio => k_is)
    (case a__law_is_place => k_is)
    (case l__law_is_place => k_is)
    (case c__law_is_place => k_is)
    (case k__law_is_place => k_is)
    (case a__law_stand => k_is)
    (case l__law_stand => k_is)
    (case c__law_stand => k_is)
    (case k__law_stand => k_is)
    (case a__law_gap => k_is)
    (case l__law_gap => k_is)
    (case c__law_gap => k_is)
    (case k__law_gap => k_is)
    (case a__law_same => k_is)
    (case l__law_same => k_is)
    (case c__law_same => k_is)
    (case k__law_same => k_is)
    (case a__law_same_row => k_is)
    (case l__law_same_row => k_is)
    (case c__law_same_row => k_is)
    (case k__law_same_row => k_is)
    (case a__law_same_rows => k_is)
    (case l__law_same_rows => k_is)
    (case c__law_same_rows => k_is)
    (case k__law_same_rows => k_is)
    (case a__law_square => k_is)
    (case l__law_square => k_is)
    (case c__law_square => k_is)
    (case k__law_square => k_is)
    (case a__law_right => k_is)
    (case l__law_right => k_is)
    (case c__law_right => k_is)
    (case k__law_right => k_is)
    (case a__law_asked => k_is)
    (case l__law_asked => k_is)
    (case c__law_asked => k_is)
    (case k__law_asked => k_is)
    (case a__law_most => k_is)
    (case l__law_most => k_is)
    (case c__law_most => k_is)
    (case k__law_most => k_is)
    (case a__law_mark => k_is)
    (case l__law_mark => k_is)
    (case c__law_mark => k_is)
    (case k__law_mark => k_is)
    (case a__law_wide => k_is)
    (case l__law_wide => k_is)
    (case c__law_wide => k_is)
    (case k__law_wide => k_is)
    (case a__law_any_place => k_is)
    (case l__law_any_place => k_is)
    (case c__law_any_place => k_is)
    (case k__law_any_place => k_is)
    (case a__law_odd => k_is)
    (case l__law_odd => k_is)
    (case c__law_odd => k_is)
    (case k__law_odd => k_is)
    (case a__law_some_place => k_is)
    (case l__law_some_place => k_is)
    (case c__law_some_place => k_is)
    (case k__law_some_place => k_is)
    (case a__law_world => k_is)
    (case l__law_world => k_is)
    (case c__law_world => k_is)
    (case k__law_world => k_is)
    (case a_law => k_is)
    (case l_law => k_is)
    (case c_law => k_is)
    (case k_law => k_is)
    (case a_BadArms => k_is)
    (case x_BadArms => k_is)
    (case r_BadArms => decide +kernel)
    (case sa_BadArms => k_is)
    (case ga_BadArms => k_is)
    (case gg_BadArms => k_is)
    (case n_index_BadArms => k_is)
    (case n_what_BadArms => k_is)
    (case i_BadArms => k_is)
    (case ti_BadArms => k_is)
    (case l_BadArms => k_is)
    (case c_BadArms => k_is)
    (case ki_BadArms => k_is)
    (case k_BadArms => k_is)
    (case ex_BadArms => k_is)
    (case ty_BadArms => k_is)
    (case hd_BadArms => k_is)
    (case se_BadArms => k_is)
    (case a_BadPose => k_is)
    (case x_BadPose => k_is)
    (case r_BadPose => decide +kernel)
    (case sa_BadPose => k_is)
    (case ga_BadPose => k_is)
    (case gg_BadPose => k_is)
    (case n_index_BadPose => k_is)
    (case i_BadPose => k_is)
    (case ti_BadPose => k_is)
    (case l_BadPose => k_is)
    (case c_BadPose => k_is)
    (case ki_BadPose => k_is)
    (case k_BadPose => k_is)
    (case ex_BadPose => k_is)
    (case ty_BadPose => k_is)
    (case hd_BadPose => k_is)
    (case se_BadPose => k_is)
    (case a_NoBar => k_is)
    (case x_NoBar => k_is)
    (case r_NoBar => decide +kernel)
    (case sa_NoBar => k_is)
    (case ga_NoBar => k_is)
    (case gg_NoBar => k_is)
    (case n_number_NoBar => k_is)
    (case i_NoBar => k_is)
    (case ti_NoBar => k_is)
    (case l_NoBar => k_is)
    (case c_NoBar => k_is)
    (case ki_NoBar => k_is)
    (case k_NoBar => k_is)
    (case ex_NoBar => k_is)
    (case ty_NoBar => k_is)
    (case hd_NoBar => k_is)
    (case se_NoBar => k_is)
    (case ya_BadPlace => k_is)
    (case ysb_BadPlace => k_is)
    (case yty_BadPlace => k_is)
    (case yhd_BadPlace => k_is)
    (case ya_BadPose => k_is)
    (case ysb_BadPose => k_is)
    (case yty_BadPose => k_is)
    (case yhd_BadPose => k_is)
    (case ys_BadPose_BadPlace => k_is)
    (case ys_BadPlace_BadPlace => k_is)
    (case ys_BadPose_BadPose => k_is)
    (case ys_BadPlace_BadPose => k_is)
    (case na_Arms_bars => k_is)
    (case na_Arms_letters => k_is)
    (case yex_BadPlace => k_exc)
    (case yk_BadPlace => k_is)
    (case g_MAST => k_is)
    (case g_MOST_BARS => k_is)
    (case g_MOST_LETTERS => k_is)
    (case g_ONE => k_is)
    (case q_ONE => k_is)
    (case g_ZERO => k_is)
    (case q_ZERO => k_is)
    (case i_gcd => k_is)
    (case z_abs => k_is)
    (case z_all => k_is)
    (case z_bool => k_is)
    (case z_enumerate => k_is)
    (case z_int => k_is)
    (case z_isinstance => k_is)
    (case z_len => k_is)
    (case z_list => k_is)
    (case z_max => k_is)
    (case z_min => k_is)
    (case z_range => k_is)
    (case z_repr => k_is)
    (case z_tuple => k_is)
    (case z_zip => k_is)


